import PyProof.Rows.All
import Wide.All
import OpenK.AllK
import Wide.FinOn
import HandS.ForMost
import HandS.IsInst
import HandS.Wide
import HandS.Style
import HandS.Conv
import HandS.RevRange
import HandS.Walk
import HandS.Property
import HandS.Star
import HandS.Codes
import HandS.TupAny
import HandS.WideBits
import KE.KSuper
import KE.RegKSuper
import HandS.MakeKwOnly
import HandS.Defaults
import HandS.Nested
import HandS.ClsMeth
import HandS.Flow
import HandS.Rev
import HandS.Iter
import HandS.Dict
import HandS.Small
import HandS.FStr
import HandS.More
import HandS.Exc
import HandS.ExcIs
import HandS.ForExc
import HandS.RaiseMore
import HandS.WrittenGet
import HandS.SortInts
import HandS.IterVal
import HandS.IterNext
import HandS.OwnIter
import PyProof.DictMoreH
import HandS.Deep
import HandS.WordsDict
import HandS.Comp
import HandS.DictEq
import HandS.Star
import PySem.Challenge.RW_throughline_k50_calls_on_channels
set_option Elab.async false
set_option linter.all false
set_option maxRecDepth 100000
set_option maxHeartbeats 4000000
namespace My
open PySem PySem.Spec L2
/-! ### readings, one rule a construct -/
section
variable {K : PySem.W.Frag} {σ : St} {H : Hp} {Q : VK} {v x y z : V} {ta tb te tc : TE} {tt tu : TT} {r : R2} {D : Ends} {ts us : TS} {P : Bool → Hp → Prop} {i j : Int}
theorem g_var {i : Nat} (h : σ[i]? = some (some v)) (q : Q v H) : tVar i σ H Q := ⟨v, h, q⟩
theorem g_c (q : Q v H) : tC v σ H Q := q
theorem g_op (h : ta σ H fun x H1 => tb σ H1 fun y H2 => r x y H2 Q) : tOp r ta tb σ H Q := h
theorem g_un {r : V → Hp → VK → Prop} (h : ta σ H fun x H1 => r x H1 Q) : tUn r ta σ H Q := h
theorem g_rI0 {g : Int → Int → V} (q : Q (g i j) H) : rI0 g (.int i) (.int j) H Q := ⟨i, j, rfl, rfl, q⟩
theorem g_rI {C : Int → Int → Prop} {g : Int → Int → V} (c : C i j) (q : Q (g i j) H) : rI C g (.int i) (.int j) H Q := ⟨i, j, rfl, rfl, c, q⟩
theorem g_rU {g : Int → V} (q : Q (g i) H) : rU g (.int i) H Q := ⟨i, rfl, q⟩
theorem g_rEqI (q : Q (.bl (decide (i = j))) H) : rEq (.int i) (.int j) H Q := ⟨rfl, by rw [dec_int]; exact q⟩
theorem g_rNeI (q : Q (.bl (!decide (i = j))) H) : rNe (.int i) (.int j) H Q := ⟨rfl, by rw [dec_int]; exact q⟩
theorem g_rEq (s : scal x y = true) (q : Q (.bl (decide (x = y))) H) : rEq x y H Q := ⟨s, q⟩
theorem g_rNe (s : scal x y = true) (q : Q (.bl (!decide (x = y))) H) : rNe x y H Q := ⟨s, q⟩
theorem g_isN {A : Prop} (q : A) : V.non = V.non ∧ A := ⟨rfl, q⟩
theorem g_rIsB {a b : Bool} (q : Q (.bl (decide (a = b))) H) : rIsB (.bl a) (.bl b) H Q := ⟨a, b, rfl, rfl, q⟩
theorem g_rNotB {a b : Bool} (q : Q (.bl (!decide (a = b))) H) : rNotB (.bl a) (.bl b) H Q := ⟨a, b, rfl, rfl, q⟩
theorem g_test {t : TE} (h : t σ H fun x H' => ∃ k, x = .bl k ∧ P k H') : tTest t σ H P := h
theorem g_B {t : TE} (h : t σ H fun x H' => ∃ k, x = .bl k ∧ P k H') : tB t σ H P := h
theorem g_bl {b : Bool} {A : Bool → Prop} (q : A b) : ∃ k, V.bl b = .bl k ∧ A k := ⟨b, rfl, q⟩
theorem g_and (h : tt σ H fun c H1 => if c = true then tu σ H1 P else P false H1) : tAnd tt tu σ H P := h
theorem g_or (h : tt σ H fun c H1 => if c = true then P true H1 else tu σ H1 P) : tOr tt tu σ H P := h
theorem g_not (h : tt σ H fun c H1 => P (!c) H1) : tNot tt σ H P := h
theorem g_andV (h : ta σ H fun x H1 => ∃ c, x = .bl c ∧ if c = true then tb σ H1 Q else Q (.bl false) H1) : tAndV ta tb σ H Q := h
theorem g_orV (h : ta σ H fun x H1 => ∃ c, x = .bl c ∧ if c = true then Q (.bl true) H1 else tb σ H1 Q) : tOrV ta tb σ H Q := h
theorem g_notV (h : ta σ H fun x H1 => ∃ c, x = .bl c ∧ Q (.bl (!c)) H1) : tNotV ta σ H Q := h
theorem g_if (h : tt σ H fun c H1 => if c = true then ta σ H1 Q else tb σ H1 Q) : tIf tt ta tb σ H Q := h
theorem g_chain {r' : R2} (h : ta σ H fun x H1 => tb σ H1 fun y H2 => r x y H2 fun z H3 => ∃ k, z = .bl k ∧ (if k = true then tc σ H3 fun w' H4 => r' y w' H4 Q else Q (.bl false) H3)) : tChain r r' ta tb tc σ H Q := h
theorem g_nil {A : List V → Hp → Prop} (q : A [] H) : tNil σ H A := q
theorem g_cons {tr : TA} {A : List V → Hp → Prop} (h : ta σ H fun x H1 => tr σ H1 fun xs H2 => A (x :: xs) H2) : tCons ta tr σ H A := h
theorem g_tup {t : TA} (h : t σ H fun xs H1 => xs.length ≤ sizeLine ∧ ∀ p, H1 p = none → Q (.ref p) (upd H1 p (.tup xs))) : tTup t σ H Q := h
theorem g_lst {t : TA} (h : t σ H fun xs H1 => xs.length ≤ sizeLine ∧ ∀ p, H1 p = none → Q (.ref p) (upd H1 p (.lst xs))) : tLst t σ H Q := h
theorem g_call {sp : Sp} {dvs : List V} {E : XK} {t : TA} (h : t σ H fun vs H1 => sp (vs ++ dvs) H1 Q E) : tCall sp dvs E t σ H Q := h
theorem g_CB {r : List V → Hp → VK → Prop} {t : TA} (h : t σ H fun vs H1 => r vs H1 Q) : tCB r t σ H Q := h
theorem g_sl {r : V → Option Int → Option Int → Hp → VK → Prop} {tl th : TO} (h : te σ H fun x H1 => tl σ H1 fun l H2 => th σ H2 fun u H3 => r x l u H3 Q) : tSl r te tl th σ H Q := h
theorem g_noPart {A : Option Int → Hp → Prop} (q : A none H) : tNoPart σ H A := q
theorem g_part {A : Option Int → Hp → Prop} (h : te σ H fun x H1 => ∃ i, x = .int i ∧ A (some i) H1) : tPart te σ H A := h
theorem g_intE {A : Int → Prop} (q : A i) : ∃ k, V.int i = .int k ∧ A k := ⟨i, rfl, q⟩
theorem g_seq (h : ts { D with nx := us D } σ H) : tSeq ts us D σ H := h
theorem g_next (q : D.nx σ H) : tNext D σ H := q
theorem g_brk (q : D.bk σ H) : tBreak D σ H := q
theorem g_ct (q : D.ct σ H) : tCont D σ H := q
theorem g_asg {g : TG} (h : te σ H fun x H1 => g x σ H1 D.nx) : tAsg te g D σ H := h
theorem g_name {i : Nat} {A : St → Hp → Prop} (q : A (σ.set i (some v)) H) : gName i v σ H A := q
theorem g_aug {i : Nat} {ti : TIp} (h : σ[i]? = some (some x)) (q : te σ H fun y H1 => ti x y H1 fun z H2 => D.nx (σ.set i (some z)) H2) : tAug i te ti D σ H := ⟨x, h, q⟩
theorem g_ipI {f : Int → Int → Int} (q : Q (.int (f i j)) H) : ipI f (.int i) (.int j) H Q := ⟨i, j, rfl, rfl, q⟩
theorem g_drop (h : te σ H fun _ H1 => D.nx σ H1) : tDrop te D σ H := h
theorem g_ret (h : te σ H D.rt) : tRet te D σ H := h
theorem g_retN (q : D.rt .non H) : tRetN D σ H := q
theorem g_ifS (h : tt σ H fun b H1 => if b = true then ts D σ H1 else us D σ H1) : tIfS tt ts us D σ H := h
theorem g_for {wi : TI} {g : TG} {tb : TS} (h : wi σ H fun J H1 => ∃ W : Nat → Nat → St → Hp → Prop, (∃ m, W 0 m σ H1) ∧ ∀ i m σ H, W i m σ H →
    (J.stop i H ∧ D.nx σ H) ∨ (J.go i H ∧ ∃ N : St → Hp → Prop, (∀ σ' H', N σ' H' → ∃ m', m' < m ∧ W (i + 1) m' σ' H') ∧ ∀ x H', J.yld i H x H' → g x σ H' fun σ2 H2 => tb { D with nx := N, ct := N, bk := D.nx } σ2 H2)) : tFor wi g tb D σ H := h
theorem g_iT {c : Bool} {A B : Prop} (e : c = true) (h : A) : if c = true then A else B := by rw [if_pos e]; exact h
theorem g_iF {c : Bool} {A B : Prop} (e : c = false) (h : B) : if c = true then A else B := by rw [e]; exact iteF h
theorem g_ite {p A B : Prop} [Decidable p] (h1 : p → A) (h2 : ¬ p → B) : if decide p = true then A else B := by
  by_cases h : p
  · rw [decide_eq_true h]; exact iteT (h1 h)
  · rw [decide_eq_false h]; exact iteF (h2 h)
theorem g_iteN {p A B : Prop} [Decidable p] (h1 : ¬ p → A) (h2 : p → B) : if (!decide p) = true then A else B := by
  by_cases h : p
  · rw [decide_eq_true h]; exact iteF (h2 h)
  · rw [decide_eq_false h]; exact iteT (h1 h)
theorem g_iteB {b : Bool} {A B : Prop} (h1 : b = true → A) (h2 : b = false → B) : if b = true then A else B := by
  cases b with
  | true => exact iteT (h1 rfl)
  | false => exact iteF (h2 rfl)
theorem g_iteNB {b : Bool} {A B : Prop} (h1 : b = false → A) (h2 : b = true → B) : if (!b) = true then A else B := by
  cases b with
  | true => exact iteF (h2 rfl)
  | false => exact iteT (h1 rfl)
/-! calls of built-ins, by values -/
theorem g_int1 {A : Int → Prop} {B : Bool → Prop} (q : A i) : (∃ i', [V.int i] = [V.int i'] ∧ A i') ∨ ∃ k, [V.int i] = [V.bl k] ∧ B k := .inl ⟨i, rfl, q⟩
theorem g_int1B {b : Bool} {A : Int → Prop} {B : Bool → Prop} (q : B b) : (∃ i', [V.bl b] = [V.int i'] ∧ A i') ∨ ∃ k, [V.bl b] = [V.bl k] ∧ B k := .inr ⟨b, rfl, q⟩
theorem g_one {A : Int → Prop} (q : A i) : ∃ i', [V.int i] = [V.int i'] ∧ A i' := ⟨i, rfl, q⟩
theorem g_two {A : Int → Int → Prop} (q : A i j) : ∃ i' j', [V.int i, V.int j] = [V.int i', V.int j'] ∧ A i' j' := ⟨i, j, rfl, q⟩
theorem g_isi {c : V} {t u : Value} {b : Bool} (hc : ClsV c u) (ht : TyX K H x t) (e : PySem.W.kitOne K t u = some b) (q : Q (.bl b) H) : rIsi K [x, c] H Q := ⟨x, c, t, u, b, rfl, hc, ht, e, q⟩
theorem g_isiI (q : Q (.bl true) H) : rIsi K [.int i, .ty "int"] H Q := g_isi (.ty _) (.base (.int _)) (kit_ty (by decide +kernel)) q
theorem g_isiB {b : Bool} (q : Q (.bl true) H) : rIsi K [.bl b, .ty "bool"] H Q := g_isi (.ty _) (.base (.bl _)) (kit_ty (by decide +kernel)) q
theorem g_isiIB (q : Q (.bl false) H) : rIsi K [.int i, .ty "bool"] H Q := g_isi (.ty _) (.base (.int _)) (kit_ty (by decide +kernel)) q
theorem g_isiL {p : Addr} {xs : List V} (h : H p = some (.lst xs)) (q : Q (.bl true) H) : rIsi K [.ref p, .ty "list"] H Q := g_isi (.ty _) (.base (.lst h)) (kit_ty (by decide +kernel)) q
theorem g_isiU {p : Addr} {xs : List V} (h : H p = some (.tup xs)) (q : Q (.bl true) H) : rIsi K [.ref p, .ty "tuple"] H Q := g_isi (.ty _) (.base (.tup h)) (kit_ty (by decide +kernel)) q
theorem g_ixL {p : Addr} {xs : List V} (h : SqL K H p xs) (e : atI xs i = some v) (q : Q v H) : rIxL K (.ref p) (.int i) H Q := ⟨p, xs, i, v, rfl, rfl, h, e, q⟩
theorem g_ixT {p : Addr} {xs : List V} (h : SqT K H p xs) (e : atI xs i = some v) (q : Q v H) : rIxT K (.ref p) (.int i) H Q := ⟨p, xs, i, v, rfl, rfl, h, e, q⟩
theorem g_append {p : Addr} {xs : List V} (h : H p = some (.lst xs)) (l : xs.length < sizeLine) (q : Q .non (upd H p (.lst (xs ++ [y])))) : rAppend (.ref p) [y] H Q := ⟨p, xs, y, rfl, rfl, h, l, q⟩
theorem g_BM {T : String} {r : V → List V → Hp → VK → Prop} {t : TA} (h : te σ H fun x H1 => tyV K T x H1 ∧ t σ H1 fun xs H2 => r x xs H2 Q) : tBM K T r te t σ H Q := h
theorem g_BM0 {T : String} {r : V → List V → Hp → VK → Prop} (h : te σ H fun x H1 => tyV K T x H1 ∧ r x [] H1 Q) : tBM0 K T r te σ H Q := h
theorem ty_l {p : Addr} {xs : List V} (h : H p = some (.lst xs)) : tyV K "list" (.ref p) H := Or.inl ⟨rfl, _, Or.inl (Or.inl h)⟩
theorem g_setL {p : Addr} {xs : List V} {k : Int} {j : Nat} {A : Hp → Prop} (h : H p = some (.lst xs)) (e : ixN xs.length k = some j) (q : A (upd H p (.lst (xs.set j v)))) : rSetL (.ref p) (.int k) v H A := ⟨p, xs, k, j, rfl, rfl, h, e, q⟩
theorem g_sub {to ti : TE} {t : TSet} {A : St → Hp → Prop} (h : to σ H fun o H1 => ti σ H1 fun i H2 => t o i v H2 fun H3 => A σ H3) : gSub to ti t v σ H A := h
theorem g_len {p : Addr} {xs : List V} {A : Addr → List V → Prop} (h : SqL K H p xs ∨ SqT K H p xs) (q : A p xs) : ∃ p' ys, [V.ref p] = [V.ref p'] ∧ (SqL K H p' ys ∨ SqT K H p' ys) ∧ A p' ys := ⟨p, xs, rfl, h, q⟩
theorem g_slL {p : Addr} {xs : List V} {lo hi : Option Int} (h : SqL K H p xs) (q : ∀ l, H l = none → Q (.ref l) (upd H l (.lst (cutV xs lo hi)))) : rSlL K (.ref p) lo hi H Q := ⟨p, xs, rfl, h, q⟩
theorem g_cat {p q : Addr} {xs ys : List V} (h : H p = some (.lst xs)) (h2 : H q = some (.lst ys)) (l : xs.length + ys.length ≤ sizeLine) (k : ∀ l, H l = none → Q (.ref l) (upd H l (.lst (xs ++ ys)))) : rCat (.ref p) (.ref q) H Q := ⟨p, q, xs, ys, rfl, rfl, h, h2, l, k⟩
end
/-! ### heaps -/
theorem same_upd {H : Hp} {p : Addr} {o : HO} (h : H p = none) : Same H (upd H p o) := fun b x e => by
  rw [upd_ne (ne_of_none e h)]
  exact e
theorem sm {H H' : Hp} {p : Addr} {o : HO} (s : Same H H') (h : H p = some o) : H' p = some o := s p o h
theorem sq_upd {K : PySem.W.Frag} {H : Hp} {p a : Addr} {o : HO} {xs : List V} (n : H p = none) (h : SqL K H a xs) : SqL K (upd H p o) a xs := (same_upd n).seq h
theorem sl {K : PySem.W.Frag} {H : Hp} {a : Addr} {xs : List V} (h : H a = some (.lst xs)) : SqL K H a xs := Or.inl (Or.inl h)
theorem st {K : PySem.W.Frag} {H : Hp} {a : Addr} {xs : List V} (h : H a = some (.tup xs)) : SqT K H a xs := Or.inl (Or.inl h)
theorem Same.sqt {K : PySem.W.Frag} {H H' : Hp} {a : Addr} {xs : List V} (e : Same H H') (h : SqT K H a xs) : SqT K H' a xs := by
  rcases h with (h | ⟨o, h⟩) | h
  · exact .inl (.inl (e _ _ h))
  · exact .inl (.inr ⟨o, e _ _ h⟩)
  · exact .inr h
theorem upd_keep {H : Hp} {p b : Addr} {o o' : HO} (n : H p = none) (h : H b = some o') : upd H p o b = some o' := (same_upd n) b o' h
theorem ne_new {H : Hp} {p b : Addr} {o : HO} (h : H b = some o) (n : H p = none) : b ≠ p := ne_of_none h n
/-- H' is H but at p -/
def But (p : Addr) (H H' : Hp) : Prop := ∀ b o, b ≠ p → H b = some o → H' b = some o
theorem But.refl {p : Addr} {H : Hp} : But p H H := fun _ _ _ h => h
theorem But.of {p : Addr} {H H' : Hp} (s : Same H H') : But p H H' := fun b o _ h => s b o h
theorem But.trans {p : Addr} {H H1 H2 : Hp} (a : But p H H1) (b : But p H1 H2) : But p H H2 := fun c o n h => b c o n (a c o n h)
theorem But.upd {p : Addr} {H H' : Hp} {o : HO} (a : But p H H') : But p H (upd H' p o) := fun b o n h => by rw [upd_ne n]; exact a b o n h
theorem But.same {p : Addr} {H H' : Hp} (a : But p H H') (n : H p = none) : Same H H' := fun b o h => a b o (ne_of_none h n) h
theorem But.tr2 {p : Addr} {H H1 H2 : Hp} (s : Same H H1) (n : H p = none) (a : But p H1 H2) : Same H H2 := fun b o h => a b o (ne_of_none h n) (s b o h)
/-! ### numbers -/
theorem cdivW {a b : Int} (h : 0 < b) (h2 : b < 2 ^ 8000) : CDivW a b := by
  refine ⟨h, ?_⟩
  have e : b.natAbs < 2 ^ 8000 := by
    have : ((b.natAbs : Nat) : Int) < ((2 ^ 8000 : Nat) : Int) := by
      rw [Int.natAbs_of_nonneg (Int.le_of_lt h)]
      exact_mod_cast h2
    exact_mod_cast this
  by_cases z : b.natAbs = 0
  · rw [z]; decide
  · exact Nat.lt_of_lt_of_le (Nat.log2_lt z |>.mpr e) (by decide)
theorem sz {n : Nat} (h : n ≤ 100000) : n ≤ sizeLine := Nat.le_trans h (by decide)
theorem szl {n : Nat} (h : n < 100000) : n < sizeLine := Nat.lt_of_lt_of_le h (by decide)
/-! ### loops -/
theorem for_l {K : PySem.W.Frag} {tl : TE} {g : TG} {tb : TS} {D : Ends} {σ : St} {H : Hp} {a : Addr} {xs : List V} (Pv : Nat → St → Hp → Prop) (hs : SqL K H a xs) (h0 : Pv 0 σ H) (hl : ∀ i σ H, i ≤ xs.length → Pv i σ H → SqL K H a xs)
    (turn : ∀ i x σ H, xs[i]? = some x → Pv i σ H → g x σ H fun σ2 H2 => tb { D with nx := Pv (i + 1), ct := Pv (i + 1), bk := D.nx } σ2 H2) (hd : ∀ σ H, Pv xs.length σ H → D.nx σ H) (e : ∀ R : V → Hp → Prop, R (.ref a) H → tl σ H R) : tFor (iList K tl) g tb D σ H := by
  refine g_for ?_
  refine e _ ⟨a, rfl, ⟨_, hs⟩, ?_⟩
  exact for_list (xs := xs) Pv h0 hl turn hd
theorem for_r {ta : TA} {g : TG} {tb : TS} {D : Ends} {σ : St} {H : Hp} {n : Int} (N : Nat) (en : n.toNat = N) (b1 : -(2 ^ 62) ≤ n) (b2 : n < 2 ^ 62) (Pv : Nat → St → Hp → Prop) (h0 : Pv 0 σ H)
    (turn : ∀ (i : Nat) σ H, i < N → Pv i σ H → g (.int (i : Int)) σ H fun σ2 H2 => tb { D with nx := Pv (i + 1), ct := Pv (i + 1), bk := D.nx } σ2 H2) (hd : ∀ σ H, Pv N σ H → D.nx σ H) (e : ∀ R : List V → Hp → Prop, R [.int n] H → ta σ H R) : tFor (iRng1 ta) g tb D σ H := by
  subst en
  refine g_for ?_
  refine e _ ⟨n, rfl, b1, b2, ?_⟩
  refine for_range (lo := 0) Pv h0 (fun i σ H hi p => ?_) hd
  have z := turn i σ H hi p
  rw [Int.zero_add]
  exact z
theorem g_nx {nx : St → Hp → Prop} {rt : VK} {bk ct : St → Hp → Prop} {σ : St} {H : Hp} (q : nx σ H) : (Ends.mk nx rt bk ct).nx σ H := q
theorem g_bkE {nx : St → Hp → Prop} {rt : VK} {bk ct : St → Hp → Prop} {σ : St} {H : Hp} (q : bk σ H) : (Ends.mk nx rt bk ct).bk σ H := q
theorem g_ctE {nx : St → Hp → Prop} {rt : VK} {bk ct : St → Hp → Prop} {σ : St} {H : Hp} (q : ct σ H) : (Ends.mk nx rt bk ct).ct σ H := q
theorem g_rt {nx : St → Hp → Prop} {rt : VK} {bk ct : St → Hp → Prop} {v : V} {H : Hp} (q : rt v H) : (Ends.mk nx rt bk ct).rt v H := q
/-- a cell of the script -/
def cell (ns : List Int) (k : Int) : Int := ns.getD k.toNat 0
theorem atI_map {ns : List Int} {k : Int} (h0 : 0 ≤ k) (h : k < (ns.length : Int)) : atI (ns.map V.int) k = some (.int (cell ns k)) := by
  have e : k = ((k.toNat : Nat) : Int) := by omega
  have hl : k.toNat < ns.length := by omega
  have e2 : cell ns k = ns[k.toNat] := by
    unfold cell
    rw [List.getD_eq_getElem?_getD, List.getElem?_eq_getElem hl]; rfl
  rw [e2]
  refine at_of e ?_
  rw [List.getElem?_map, List.getElem?_eq_getElem hl]; rfl
theorem cell_out {ns : List Int} {k : Int} (h : ¬ k < (ns.length : Int)) : cell ns k = 0 := by
  unfold cell
  rw [List.getD_eq_getElem?_getD, List.getElem?_eq_none (by omega)]; rfl
theorem atI_some {xs : List V} {i : Int} (h0 : 0 ≤ i) (h : i < (xs.length : Int)) : ∃ v, xs[i.toNat]? = some v ∧ atI xs i = some v := by
  have hl : i.toNat < xs.length := by omega
  exact ⟨xs[i.toNat], List.getElem?_eq_getElem hl, at_of (by omega) (List.getElem?_eq_getElem hl)⟩
theorem atI_ints {xs : List Int} {i : Int} (h0 : 0 ≤ i) (h : i < (xs.length : Int)) : ∃ n, atI (xs.map V.int) i = some (.int n) ∧ xs[i.toNat]? = some n := by
  have hl : i.toNat < xs.length := by omega
  refine ⟨xs[i.toNat], at_of (j := i.toNat) (by omega) ?_, List.getElem?_eq_getElem hl⟩
  rw [List.getElem?_map, List.getElem?_eq_getElem hl]; rfl
theorem g_dT {p A B : Prop} [Decidable p] (h : p) (q : A) : if decide p = true then A else B := by rw [decide_eq_true h]; exact iteT q
theorem g_dF {p A B : Prop} [Decidable p] (h : ¬ p) (q : B) : if decide p = true then A else B := by rw [decide_eq_false h]; exact iteF q
theorem g_nT {p A B : Prop} [Decidable p] (h : ¬ p) (q : A) : if (!decide p) = true then A else B := by rw [decide_eq_false h]; exact iteT q
theorem g_nF {p A B : Prop} [Decidable p] (h : p) (q : B) : if (!decide p) = true then A else B := by rw [decide_eq_true h]; exact iteF q
/-! ### comprehensions: the list ys, value by value -/
theorem g_yes {σ : St} {H : Hp} {P : Bool → Hp → Prop} (q : P true H) : tYes σ H P := q
theorem g_lc {wi : TI} {g : TG} {tt : TT} {te : TE} {vs : List Nat} {σ : St} {H : Hp} {Q : VK} (h : wi σ H fun J H1 => ∀ D, H1 D = none → ∃ W : Nat → Nat → Hp → Prop, (∃ m, W 0 m (upd H1 D (.lst []))) ∧ ∀ i m H, W i m H →
  (J.stop i H ∧ Q (.ref D) H) ∨ (J.go i H ∧ ∃ Nx : Hp → Prop, (∀ H', Nx H' → ∃ m', m' < m ∧ W (i + 1) m' H') ∧ ∀ x H', J.yld i H x H' → g x (wipe σ vs) H' fun σ2 H2 => wipe σ2 vs = wipe σ vs ∧ tt σ2 H2 fun b H3 =>
    if b = true then te σ2 H3 fun y H4 => ∃ acc, H4 D = some (.lst acc) ∧ acc.length < sizeLine ∧ Nx (upd H4 D (.lst (acc ++ [y]))) else Nx H3)) : tLc wi g tt te vs σ H Q := h
theorem g_revR {ta : TE} {σ : St} {H : Hp} {R : It → Hp → Prop} (h : ta σ H fun x H1 => ∃ n : Int, x = .int n ∧ -(2 ^ 62) ≤ (0 : Int) ∧ (0 : Int) < 2 ^ 62 ∧ -(2 ^ 62) ≤ n ∧ n < 2 ^ 62 ∧ R (Itc (0 + (((n - 0).toNat : Nat) : Int) - 1) (-1) (n - 0).toNat) H1) : iRevR (tRg1 ta) σ H R := h
theorem g_rng1 {ta : TA} {σ : St} {H : Hp} {R : It → Hp → Prop} (h : ta σ H fun vs H1 => ∃ j : Int, vs = [.int j] ∧ -(2 ^ 62) ≤ j ∧ j < 2 ^ 62 ∧ R (Itr 0 j.toNat) H1) : iRng1 ta σ H R := h
theorem g_iList {K : PySem.W.Frag} {tl : TE} {σ : St} {H : Hp} {R : It → Hp → Prop} (h : tl σ H fun x H1 => ∃ a, x = .ref a ∧ (∃ xs, SqL K H1 a xs) ∧ R (Itl K a) H1) : iList K tl σ H R := h
def LcP (H1 : Hp) (D : Addr) (ys : List V) (i : Nat) (H : Hp) : Prop := Same H1 H ∧ H D = some (.lst (ys.take i))
theorem lc_vals {J : It} {n : Nat} {G : Hp → Prop} {Y : Nat → Hp → V → Hp → Prop} (w : Walk J n G Y) (ys : List V) {g : TG} {tt : TT} {te : TE} {vs : List Nat} {σ : St} {H1 : Hp} {D : Addr} {Qd : Hp → Prop} (hD : H1 D = none) (hlen : ys.length = n) (hG : ∀ H, Same H1 H → G H)
    (hs : ∀ i x H H', i < n → LcP H1 D ys i H → Y i H x H' → g x (wipe σ vs) H' fun σ2 H2 => wipe σ2 vs = wipe σ vs ∧ tt σ2 H2 fun b H3 =>
      if b = true then te σ2 H3 fun y H4 => ∃ acc, H4 D = some (.lst acc) ∧ acc.length < sizeLine ∧ LcP H1 D ys (i + 1) (upd H4 D (.lst (acc ++ [y]))) else LcP H1 D ys (i + 1) H3)
    (hd : ∀ H, Same H1 H → H D = some (.lst ys) → Qd H) :
    ∃ W : Nat → Nat → Hp → Prop, (∃ m, W 0 m (upd H1 D (.lst []))) ∧ ∀ i m H, W i m H →
      (J.stop i H ∧ Qd H) ∨ (J.go i H ∧ ∃ Nx : Hp → Prop, (∀ H', Nx H' → ∃ m', m' < m ∧ W (i + 1) m' H') ∧ ∀ x H', J.yld i H x H' → g x (wipe σ vs) H' fun σ2 H2 => wipe σ2 vs = wipe σ vs ∧ tt σ2 H2 fun b H3 =>
        if b = true then te σ2 H3 fun y H4 => ∃ acc, H4 D = some (.lst acc) ∧ acc.length < sizeLine ∧ Nx (upd H4 D (.lst (acc ++ [y]))) else Nx H3) := by
  refine lc_it w (LcP H1 D ys) ⟨same_upd hD, by rw [upd_same]; rfl⟩ (fun i H _ p => hG H p.1) hs (fun H p => hd H p.1 ?_)
  have e := p.2
  rw [← hlen, List.take_length] at e
  exact e
theorem lc_next {H1 H4 : Hp} {D : Addr} {ys : List V} {i : Nat} {y : V} (hD : H1 D = none) (p : LcP H1 D ys i H4) (hz : ys.length ≤ 100000) (hy : ys[i]? = some y) :
    ∃ acc, H4 D = some (.lst acc) ∧ acc.length < sizeLine ∧ LcP H1 D ys (i + 1) (upd H4 D (.lst (acc ++ [y]))) := by
  refine ⟨_, p.2, ?_, ?_, ?_⟩
  · rw [List.length_take]
    obtain ⟨h, _⟩ := List.getElem?_eq_some_iff.mp hy
    exact szl (by omega)
  · exact (But.of p.1).upd.same hD
  · rw [upd_same, List.take_add_one, hy]
    rfl
theorem LcP.same {H1 H4 H5 : Hp} {D : Addr} {ys : List V} {i : Nat} (p : LcP H1 D ys i H4) (s : Same H4 H5) : LcP H1 D ys i H5 := ⟨p.1.trans s, s _ _ p.2⟩
theorem map_get {α : Type} {f : α → V} {xs : List α} {i : Nat} {y : V} (h : (xs.map f)[i]? = some y) : ∃ z, xs[i]? = some z ∧ y = f z := by
  rw [List.getElem?_map] at h
  cases e : xs[i]? with
  | none => rw [e] at h; cases h
  | some z => rw [e] at h; exact ⟨z, rfl, (Option.some.inj h).symm⟩
/-! ### == of lists of ints -/
section
variable {K : PySem.W.Frag} {H : Hp} {Q : VK}
theorem dpAll_ints : ∀ {ns : List Int}, DpAll K H (ns.map V.int) (ns.map PyData.int)
  | [] => .nil
  | n :: _ => .cons (.int n) dpAll_ints
theorem lay_ints : ∀ {ns : List Int}, PyData.canLayAll0 (ns.map PyData.int) = true
  | [] => rfl
  | _ :: ns => by
    show (true && PyData.canLayAll0 (ns.map PyData.int)) = true
    rw [lay_ints]; rfl
theorem depth_ints : ∀ {ns : List Int}, PyData.depthAll (ns.map PyData.int) = 0
  | [] => rfl
  | _ :: ns => by
    show max 0 (PyData.depthAll (ns.map PyData.int)) = 0
    rw [depth_ints]; rfl
theorem shaped_ints {ns : List Int} : SeqAt.shaped (.list (ns.map PyData.int)) = true := by
  show (PyData.canLayAll0 (ns.map PyData.int) && decide (PyData.depthAll (ns.map PyData.int) + 1 ≤ 64)) = true
  rw [lay_ints, depth_ints]; rfl
theorem eqvAll_ints : ∀ {ns ms : List Int}, PyData.eqvAll (ns.map PyData.int) (ms.map PyData.int) = decide (ns = ms)
  | [], [] => rfl
  | [], _ :: _ => rfl
  | _ :: _, [] => rfl
  | n :: ns, m :: ms => by
    show ((n == m) && PyData.eqvAll (ns.map PyData.int) (ms.map PyData.int)) = decide (n :: ns = m :: ms)
    rw [eqvAll_ints, Bool.eq_iff_iff]
    simp
theorem dp_ints {a : Addr} {ns : List Int} (h : SqL K H a (ns.map V.int)) : Dp K H (.ref a) (.list (ns.map PyData.int)) := .lst h dpAll_ints
theorem g_eqL {a b : Addr} {ns ms : List Int} (h1 : SqL K H a (ns.map V.int)) (h2 : SqL K H b (ms.map V.int)) (q : Q (.bl (decide (ns = ms))) H) : rEqD K (.ref a) (.ref b) H Q :=
  ⟨_, _, dp_ints h1, dp_ints h2, shaped_ints, shaped_ints, by rw [show PyData.eqv (.list (ns.map PyData.int)) (.list (ms.map PyData.int)) = decide (ns = ms) from eqvAll_ints]; exact q⟩
theorem g_neL {a b : Addr} {ns ms : List Int} (h1 : SqL K H a (ns.map V.int)) (h2 : SqL K H b (ms.map V.int)) (q : Q (.bl (!decide (ns = ms))) H) : rNeD K (.ref a) (.ref b) H Q :=
  ⟨_, _, dp_ints h1, dp_ints h2, shaped_ints, shaped_ints, by rw [show PyData.eqv (.list (ns.map PyData.int)) (.list (ms.map PyData.int)) = decide (ns = ms) from eqvAll_ints]; exact q⟩
theorem g_sum {a : Addr} {ns : List Int} (h : SqL K H a (ns.map V.int)) (q : Q (.int ns.sum) H) : rSum K [.ref a] H Q := ⟨a, ns, rfl, h, q⟩
end
theorem ixN_nat {n : Nat} {k : Int} (h0 : 0 ≤ k) (h : k < (n : Int)) : ixN n k = some k.toNat := by
  unfold ixN
  rw [if_pos h0, if_pos h]
theorem g_ref {a : Addr} {A : Addr → Prop} (q : A a) : ∃ b, V.ref a = .ref b ∧ A b := ⟨a, rfl, q⟩
/-! ### objects: the attributes by their places -/
def obj : List Str → List V → List (Str × V)
  | k :: ks, v :: vs => (k, v) :: obj ks vs
  | _, _ => []
theorem obj_len : ∀ (ks : List Str) (vs : List V), (obj ks vs).length ≤ ks.length
  | [], _ => Nat.zero_le _
  | _ :: _, [] => Nat.zero_le _
  | _ :: ks, _ :: vs => Nat.succ_le_succ (obj_len ks vs)
theorem obj_get : ∀ {ks : List Str} {vs : List V} {i : Nat} {k : Str}, ks.Nodup → ks[i]? = some k → (obj ks vs).lookup k = vs[i]?
  | [], _, _, _, _, h => by cases h
  | k0 :: ks, [], i, k, _, _ => by simp [obj]
  | k0 :: ks, v :: vs, 0, k, _, h => by
    have e : k0 = k := Option.some.inj h
    subst e
    simp [obj]
  | k0 :: ks, v :: vs, i + 1, k, nd, h => by
    have nd' := List.nodup_cons.mp nd
    have hk : k ∈ ks := List.mem_of_getElem? h
    have ne : (k == k0) = false := by
      rw [beq_eq_false_iff_ne]
      intro e
      subst e
      exact nd'.1 hk
    show List.lookup k ((k0, v) :: obj ks vs) = vs[i]?
    rw [List.lookup_cons, ne]
    exact obj_get nd'.2 h
theorem obj_none : ∀ {ks : List Str} {vs : List V} {k : Str}, k ∉ ks → (obj ks vs).lookup k = none
  | [], _, _, _ => rfl
  | _ :: _, [], _, _ => rfl
  | k0 :: ks, v :: vs, k, h => by
    have ne : (k == k0) = false := by
      rw [beq_eq_false_iff_ne]
      intro e
      subst e
      exact h (List.mem_cons_self ..)
    show List.lookup k ((k0, v) :: obj ks vs) = none
    rw [List.lookup_cons, ne]
    exact obj_none fun z => h (List.mem_cons_of_mem _ z)
theorem obj_put : ∀ {ks : List Str} {vs : List V} {i : Nat} {k : Str} {y : V}, ks.Nodup → ks[i]? = some k → i < vs.length → putF k y (obj ks vs) = obj ks (vs.set i y)
  | [], _, _, _, _, _, h, _ => by cases h
  | _ :: _, [], _, _, _, _, _, h => by simp at h
  | k0 :: ks, v :: vs, 0, k, y, _, h, _ => by
    have e : k0 = k := Option.some.inj h
    subst e
    show (if k0 = k0 then _ else _) = _
    rw [if_pos rfl]
    rfl
  | k0 :: ks, v :: vs, i + 1, k, y, nd, h, hl => by
    have nd' := List.nodup_cons.mp nd
    have hk : k ∈ ks := List.mem_of_getElem? h
    have ne : ¬ k0 = k := by
      intro e
      subst e
      exact nd'.1 hk
    show (if k0 = k then _ else (k0, v) :: putF k y (obj ks vs)) = (k0, v) :: obj ks (vs.set i y)
    rw [if_neg ne, obj_put nd'.2 h (by simpa using hl)]
theorem obj_new : ∀ {ks : List Str} {vs : List V} {k : Str} {y : V}, ks.Nodup → ks[vs.length]? = some k → putF k y (obj ks vs) = obj ks (vs ++ [y])
  | [], _, _, _, _, h => by simp at h
  | k0 :: ks, [], k, y, _, h => by
    have e : k0 = k := Option.some.inj h
    subst e
    show [(k0, y)] = obj (k0 :: ks) [y]
    cases ks <;> rfl
  | k0 :: ks, v :: vs, k, y, nd, h => by
    have nd' := List.nodup_cons.mp nd
    have h' : ks[vs.length]? = some k := h
    have hk : k ∈ ks := List.mem_of_getElem? h'
    have ne : ¬ k0 = k := by
      intro e
      subst e
      exact nd'.1 hk
    show (if k0 = k then _ else (k0, v) :: putF k y (obj ks vs)) = (k0, v) :: obj ks (vs ++ [y])
    rw [if_neg ne, obj_new nd'.2 h']
section
variable {K : PySem.W.Frag} {σ : St} {H : Hp} {Q : VK} {v y : V} {ta tv : TE} {D : Ends} {f m : Str} {a C dx : Addr} {ks : List Str} {vs : List V} {i : Nat}
theorem g_fld (h : ta σ H fun x H1 => ∃ a C dx fs v, x = .ref a ∧ H1 a = some (.ins C dx fs) ∧ Cls K C ∧ NoAttr K C f ∧ fs.lookup f = some v ∧ Q v H1) : tFld K ta f σ H Q := h
theorem g_fldE {A : V → Prop} (ho : H a = some (.ins C dx (obj ks vs))) (c : Cls K C) (n : NoAttr K C f) (nd : ks.Nodup) (hk : ks[i]? = some f) (hv : vs[i]? = some v) (q : A v) :
    ∃ a' C' dx' fs v', V.ref a = .ref a' ∧ H a' = some (.ins C' dx' fs) ∧ Cls K C' ∧ NoAttr K C' f ∧ fs.lookup f = some v' ∧ A v' := ⟨a, C, dx, _, v, rfl, ho, c, n, (obj_get nd hk).trans hv, q⟩
theorem g_sfld (h : tv σ H fun y H1 => ta σ H1 fun x H2 => ∃ a C dx fs, x = .ref a ∧ H2 a = some (.ins C dx fs) ∧ Cls K C ∧ NoAttr K C f ∧ fs.length < 1000 ∧ D.nx σ (upd H2 a (.ins C dx (putF f y fs)))) : sFld K ta tv f D σ H := h
theorem g_putE {A : Hp → Prop} (ho : H a = some (.ins C dx (obj ks vs))) (c : Cls K C) (n : NoAttr K C f) (nd : ks.Nodup) (h1 : ks.length < 1000) (hk : ks[i]? = some f) (hv : i < vs.length) (q : A (upd H a (.ins C dx (obj ks (vs.set i y))))) :
    ∃ a' C' dx' fs, V.ref a = .ref a' ∧ H a' = some (.ins C' dx' fs) ∧ Cls K C' ∧ NoAttr K C' f ∧ fs.length < 1000 ∧ A (upd H a' (.ins C' dx' (putF f y fs))) :=
  ⟨a, C, dx, _, rfl, ho, c, n, Nat.lt_of_le_of_lt (obj_len ks vs) h1, by rw [obj_put nd hk hv]; exact q⟩
theorem g_newE {A : Hp → Prop} (ho : H a = some (.ins C dx (obj ks vs))) (c : Cls K C) (n : NoAttr K C f) (nd : ks.Nodup) (h1 : ks.length < 1000) (hk : ks[vs.length]? = some f) (q : A (upd H a (.ins C dx (obj ks (vs ++ [y]))))) :
    ∃ a' C' dx' fs, V.ref a = .ref a' ∧ H a' = some (.ins C' dx' fs) ∧ Cls K C' ∧ NoAttr K C' f ∧ fs.length < 1000 ∧ A (upd H a' (.ins C' dx' (putF f y fs))) :=
  ⟨a, C, dx, _, rfl, ho, c, n, Nat.lt_of_le_of_lt (obj_len ks vs) h1, by rw [obj_new nd hk]; exact q⟩
theorem g_meth {sp : Sp} {dvs : List V} {E : XK} {t : TA} (h : ta σ H fun x H1 => ∃ a dx fs, x = .ref a ∧ H1 a = some (.ins C dx fs) ∧ fs.lookup m = none ∧ t σ H1 fun vs H2 => sp (x :: (vs ++ dvs)) H2 Q E) : tMeth C m sp dvs E ta t σ H Q := h
theorem g_methE {A : Prop} (ho : H a = some (.ins C dx (obj ks vs))) (no : m ∉ ks) (q : A) : ∃ a' dx' fs, V.ref a = .ref a' ∧ H a' = some (.ins C dx' fs) ∧ fs.lookup m = none ∧ A := ⟨a, dx, _, rfl, ho, obj_none no, q⟩
theorem g_make {sp : Sp} {dvs : List V} {E : XK} {t : TA} (h : t σ H fun vs H1 => ∀ x dx, H1 x = none → H1 dx = none → dx ≠ x → sp (.ref x :: (vs ++ dvs)) (upd (upd H1 dx (.own x)) x (.ins C dx [])) (fun v H2 => v = .non ∧ Q (.ref x) H2) E) : tMake C sp dvs E t σ H Q := h
theorem g_prop {sp : Sp} {dvs : List V} {E : XK} (h : ta σ H fun x H1 => ∃ a dx fs, x = .ref a ∧ H1 a = some (.ins C dx fs) ∧ sp (.ref a :: dvs) H1 Q E) : tProp C sp dvs E ta σ H Q := h
theorem g_propE {A : Addr → Prop} (ho : H a = some (.ins C dx (obj ks vs))) (q : A a) : ∃ a' dx' fs, V.ref a = .ref a' ∧ H a' = some (.ins C dx' fs) ∧ A a' := ⟨a, dx, _, rfl, ho, q⟩
theorem g_absE {A : Int → Prop} {n : Int} (q : A n) : ∃ i, [V.int n] = [V.int i] ∧ A i := ⟨n, rfl, q⟩
end
/-- a slice of ints -/
theorem cut_ints (ns : List Int) (lo hi : Option Int) : ∃ ms : List Int, cutV (ns.map V.int) lo hi = ms.map V.int ∧ ms.length ≤ ns.length := by
  unfold cutV
  refine ⟨(ns.drop (HT.sIx (ns.map V.int).length 0 lo)).take (HT.sIx (ns.map V.int).length (ns.map V.int).length hi - HT.sIx (ns.map V.int).length 0 lo), ?_, ?_⟩
  · rw [List.map_take, List.map_drop]
  · rw [List.length_take, List.length_drop]
    omega
theorem g_nameE {i : Nat} {v : V} {σ σ' : St} {H : Hp} {A : St → Hp → Prop} (e : σ.set i (some v) = σ') (q : A σ' H) : gName i v σ H A := by
  subst e
  exact q
theorem but_sq {K : PySem.W.Frag} {p : Addr} {H H' : Hp} {a : Addr} {xs : List V} (e : But p H H') (n : a ≠ p) (h : SqL K H a xs) : SqL K H' a xs := by
  rcases h with (h | ⟨o, h⟩) | h
  · exact .inl (.inl (e _ _ n h))
  · exact .inl (.inr ⟨o, e _ _ n h⟩)
  · exact .inr h
theorem g_star {K : PySem.W.Frag} {te : TE} {t : TA} {σ : St} {H : Hp} {Q : List V → Hp → Prop} (h : te σ H fun x H1 => ∃ p xs, x = V.ref p ∧ (SqT K H1 p xs ∨ SqL K H1 p xs) ∧ t σ H1 fun ys H2 => Q (xs ++ ys) H2) : StX.tStar K te t σ H Q := h
theorem g_while {c : TT} {tb : TS} {D : Ends} {σ : St} {H : Hp} (W : Nat → St → Hp → Prop) (h0 : ∃ m, W m σ H) (h : ∀ m σ H, W m σ H → c σ H fun b H1 => if b = true then ∃ N : St → Hp → Prop, (∀ σ' H', N σ' H' → ∃ m', m' < m ∧ W m' σ' H') ∧ tb { D with nx := N, ct := N, bk := D.nx } σ H1 else D.nx σ H1) : tWhile c tb D σ H := ⟨W, h0, h⟩
theorem g_cut {t u : TS} {D : Ends} {σ : St} {H : Hp} (Mid : St → Hp → Prop) (h1 : t { D with nx := Mid } σ H) (h2 : ∀ σ' H', Mid σ' H' → u D σ' H') : C8.tCut t u D σ H := ⟨Mid, h1, h2⟩
theorem g_min {K : PySem.W.Frag} {a : Addr} {ns : List Int} {H : Hp} {Q : VK} (h : SqL K H a (ns.map V.int)) (h0 : 0 < ns.length) (q : ∀ m, m ∈ ns → (∀ y, y ∈ ns → m ≤ y) → Q (.int m) H) : rMin K [.ref a] H Q := ⟨a, ns, rfl, h, h0, q⟩
theorem g_max {K : PySem.W.Frag} {a : Addr} {ns : List Int} {H : Hp} {Q : VK} (h : SqL K H a (ns.map V.int)) (h0 : 0 < ns.length) (q : ∀ m, m ∈ ns → (∀ y, y ∈ ns → y ≤ m) → Q (.int m) H) : rMax K [.ref a] H Q := ⟨a, ns, rfl, h, h0, q⟩
theorem atI_nat' {xs : List V} {i : Int} {j : Nat} {v : V} (e : i = (j : Int)) (h : xs[j]? = some v) : atI xs i = some v := at_of e h
theorem ixN_last {n : Nat} (h : 0 < n) : ixN n (-1) = some (n - 1) := by
  unfold ixN
  rw [if_neg (by decide), if_pos (by omega)]
  congr 1
  omega
theorem atI_neg1 {xs : List V} {v : V} (h : xs[xs.length - 1]? = some v) : atI xs (-1) = some v := by
  obtain ⟨hl, _⟩ := List.getElem?_eq_some_iff.mp h
  unfold atI
  rw [ixN_last (by omega)]
  exact h
theorem snoc_of {α : Type} {xs : List α} (h : 0 < xs.length) : ∃ a x, xs = a ++ [x] :=
  ⟨xs.dropLast, xs.getLast (List.ne_nil_of_length_pos h), (List.dropLast_concat_getLast _).symm⟩
theorem set_last {α : Type} {a : List α} {x y : α} : (a ++ [x]).set a.length y = a ++ [y] := by
  rw [List.set_append_right _ _ (Nat.le_refl _), Nat.sub_self]
  rfl
end My
namespace My
open PySem PySem.Spec L2
local macro_rules | `(tactic| walk_at "side") => `(tactic| first | assumption | decide | omega | exact ⟨by decide, by decide⟩ | exact ⟨by decide, by decide, by decide⟩ | decide +kernel | exact cdivW (by decide +kernel) (by decide +kernel) | exact Or.inl ⟨by omega, by omega⟩ | exact Or.inr ⟨by omega, by omega⟩ | (simp only [List.length_map, List.length_cons, List.length_nil, List.length_append]; omega))
local macro_rules | `(tactic| walk_at "fact") => `(tactic| first | assumption | omega | with_reducible rfl)
local macro_rules | `(tactic| walk_at "use") => `(tactic| fail "use")
local macro_rules | `(tactic| walk_at "go1") => `(tactic| with_reducible first | refine g_seq ?_ | refine g_asg ?_ | refine g_ret ?_ | refine g_ifS ?_ | refine g_drop ?_ | refine g_star ?_ | refine g_nx ?_ | refine g_rt ?_ | refine g_bkE ?_ | refine g_ctE ?_ | refine g_next ?_ | refine g_retN ?_ | refine g_brk ?_ | refine g_ct ?_ | refine g_c ?_ | refine g_op ?_ | refine g_un ?_ | refine g_rI0 ?_ | refine g_rU ?_ | refine g_rEqI ?_ | refine g_rNeI ?_ | refine g_isN ?_ | refine g_rIsB ?_ | refine g_rNotB ?_ | refine g_test ?_ | refine g_B ?_ | refine g_bl ?_ | refine g_and ?_ | refine g_or ?_ | refine g_not ?_ | refine g_andV ?_ | refine g_orV ?_ | refine g_notV ?_ | refine g_if ?_ | refine g_chain ?_ | refine g_yes ?_ | refine g_lc ?_ | refine g_revR ?_ | refine g_rng1 ?_ | refine g_iList ?_ | refine g_nil ?_ | refine g_cons ?_ | refine g_tup ?_ | refine g_lst ?_ | refine g_call ?_ | refine g_CB ?_ | refine g_sl ?_ | refine g_noPart ?_ | refine g_part ?_ | refine g_intE ?_ | refine g_ref ?_ | refine g_fld ?_ | refine g_sfld ?_ | refine g_meth ?_ | refine g_make ?_ | refine g_prop ?_  | refine g_ipI ?_ | refine g_int1 ?_ | refine g_int1B ?_ | refine g_one ?_ | refine g_two ?_ | refine g_isiI ?_ | refine g_isiIB ?_ | refine g_isiB ?_ | refine g_BM ?_ | refine g_BM0 ?_ | refine g_sub ?_)
local macro_rules | `(tactic| walk_at "go") => `(tactic| repeat (first | walk_at "go1" | ((with_reducible refine' g_nameE ?sd_ ?_); case sd_ => dsimp only [List.set_cons_succ, List.set_cons_zero]) | ((with_reducible refine' g_var ?sd_ ?_); case sd_ => exact rfl) | ((with_reducible refine' g_aug ?sd_ ?_); case sd_ => exact rfl) | ((with_reducible refine' g_rI ?sd_ ?_); case sd_ => walk_at "side") | ((with_reducible refine' g_dT ?sd_ ?_); case sd_ => walk_at "fact") | ((with_reducible refine' g_dF ?sd_ ?_); case sd_ => walk_at "fact") | ((with_reducible refine' g_nT ?sd_ ?_); case sd_ => walk_at "fact") | ((with_reducible refine' g_nF ?sd_ ?_); case sd_ => walk_at "fact") | (with_reducible refine g_iT rfl ?_) | (with_reducible refine g_iF rfl ?_) | walk_at "use"))
local macro_rules | `(tactic| walk_at "nw") => `(tactic| (generalize zq : upd _ _ _ = Hq; have sq : Same _ Hq := (by rw [← zq]; exact same_upd (by assumption)); have kq := (congrFun zq _).symm.trans upd_same; clear zq))
local macro_rules | `(tactic| walk_at "bt") => `(tactic| (generalize zq : upd _ _ _ = Hq; have bq : But _ _ Hq := (by rw [← zq]; exact But.refl.upd); have kq := (congrFun zq _).symm.trans upd_same; clear zq))
/-! ### a method whose first statement is super().__init__(e, ..) of a plain class -/
structure PSsS (X : Cx) (body : List Stmt) (t : TS) : Prop where
  run : ∀ (b0 : List Stmt) (pins : List (Addr × Obj)) (s : Shared) (σ : L2.St) (H : Hp) (D : Ends), Inv X pins σ H s → t D σ H → PySem.wpAt (model X.prog X.w) X.A (.func b0 X.env) (execs body X.env) (SP X pins D) X.xe s
/-- what of the text such a method must have: f of the class at C, over a base whose __init__ is f2 -/
structure SupK (K : PySem.W.Frag) (P : Program) (f f2 C cda cc : Addr) (fd : FuncData) : Prop where
  fo : ∃ oc od sl, K.lookup f = some ⟨oc, od, .func fd, sl⟩
  code : ∃ ccl cdd ccs vs file tf, K.lookup cda = some ⟨ccl, cdd, .fields vs, ccs⟩ ∧ vs[2]? = some (.str file tf) ∧ ((P.main.file : Str) == file) = true
  cell : ∃ cl cld csl, K.lookup cc = some ⟨cl, cld, .cell (some (.ref C)), csl⟩
  cls : ∃ cd, PySem.W.clsIn K C = some cd
  sub : PySem.W.mroIn K C (.ref C) = some true
  top : (P.main.scope.names.lookup ("super" : Str)).isSome = false
  up : PySem.W.ks_superIn K C C "__init__" = some (some (.ref f2))
  ty : PySem.W.typeIn K (.ref f2) = some (.type "function")
  fn : PySem.W.fnIn K f2 = true
  op : PySem.W.nsIn K cStatics "thirdparty.any" = some none
def tSup (C : Addr) (sp : Sp) (ta : TA) (t : TS) : TS := fun D σ H => ∃ x dx fs, σ[0]? = some (some (.ref x)) ∧ H x = some (.ins C dx fs) ∧ ta σ H fun us H1 => sp (.ref x :: us) H1 (fun _ H2 => t D σ H2) E0
theorem pss_super {X : Cx} {f f2 C cda cc : Addr} {fd fd2 : FuncData} {k : Nat} {ps2 : List Str} {sp2 : Sp} {ta : TA} {t : TS} {pl : Sem Bool} {p0 p1 p2 p3 p4 : Pos} {e : Expr} {es : List Expr} {rest : List Stmt} {ar : Arg} {prm : Arguments}
    (F : SupK X.K X.prog f f2 C cda cc fd) (hfu : X.env.func = some f) (hco : X.env.code = .ref cda) (hcl : X.env.cells.lookup ("__class__" : Str) = some cc) (hmg : X.mg "super" = none) (hks : X.env.kindOf "super" = some .globalImplicit) (hkc : X.env.kindOf "__class__" = some .free)
    (hpar : fd.params = prm) (hp : (prm.posonlyargs ++ prm.args).head? = some ar) (h0 : X.N[0]? = some ar.arg) (hka : X.env.kindOf ar.arg = some .local)
    (F2 : FnOk X.prog X.w X.K X.mg X.base CX0 k f2 fd2 ps2 sp2) (b2 : Binds X.K fd2 ps2 []) (hr : Room k X.A) (ha : PA X (e :: es) ta) (hs : PSs X rest t)
    (hi : interactive X.env = false := by rfl) (hsw : swapsWith (.Call (.Attribute (.Call (.Name "super" p0) [] [] p1) "__init__" p2) (e :: es) [] p3) none p4.line X.env = pure false := by rfl)
    (hst : starEach (e :: es) X.env = (false, eval e X.env) :: starEach es X.env := by rfl) (hpl : (backTo p3 (starEach es X.env)).any (·.1) = false := by rfl)
    (ht : eval (.Call (.Attribute (.Call (.Name "super" p0) [] [] p1) "__init__" p2) (e :: es) [] p3) X.env = (do
      let ov ← attributeBase (.Call (.Name "super" p0) [] [] p1) "__init__" X.env (eval (.Call (.Name "super" p0) [] [] p1) X.env)
      standAt p2.atName
      let (f, first) ← holding [ov] (getMethod ov "__init__" pl)
      callWith p3 f first (backTo p3 (starEach (e :: es) X.env)) []) := by rfl) :
    PSsS X (.Expr (.Call (.Attribute (.Call (.Name "super" p0) [] [] p1) "__init__" p2) (e :: es) [] p3) p4 :: rest) (tSup C sp2 ta t) := by
  refine ⟨fun b0 pins s σ H D I hq => ?_⟩
  obtain ⟨x, dx, fs, hx0, hx, hq⟩ := hq
  obtain ⟨oc, od, sl, hfo⟩ := F.fo
  obtain ⟨ccl, cdd, ccs, cvs, file, tf, hcode, hvs, hfile⟩ := F.code
  obtain ⟨cl, cld, csl, hcell⟩ := F.cell
  obtain ⟨cd, hcd⟩ := F.cls
  have KX : X.K.In s.heap := I.kIn
  obtain ⟨oD, hD1, hD2⟩ : ∃ oD, s.heap.get? C = some oD ∧ oD.data = .cls cd := by
    unfold PySem.W.clsIn at hcd
    split at hcd
    · rename_i c d cd' sl' ho
      cases hcd
      exact ⟨_, KX _ _ ho, rfl⟩
    · cases hcd
  obtain ⟨mA, J0, _⟩ := ins_get I.hok hx
  obtain ⟨odx, J, _⟩ := J0.look
  obtain ⟨m, hns, hvals⟩ := I.loc
  have hself : m ar.arg = some (.ref x) := by
    obtain ⟨u, ru, lk⟩ := hvals 0 ar.arg (.ref x) h0 hx0 (.inl hka)
    cases ru
    rcases lk with ⟨_, z⟩ | ⟨z, _⟩
    · exact z
    · rw [hka] at z
      rcases z with z | z <;> cases z
  refine ks_wpAt_execs_cons (ks_wpAt_Expr_any (ks_wpAt_MethodCall (pl := pl) ?_ ht) hi hsw)
  refine ks_wpAt_super_base hks hkc (by decide) hfu (KX _ _ hfo) rfl (by rw [hpar]; exact hp) hco (KX _ _ hcode) rfl hvs hfile F.top ?_
  obtain ⟨mb, hb1, hb2⟩ := I.mod.blt
  refine PySem.W.ks_loadName_global I.ok.kind hks (Calls.loadGlobal_builtin (by rw [I.ok.glob]; exact I.mod.glob.keeps I.bk) hmg (by rw [I.ok.blt]; exact hb1.keeps I.bk) ((hb2 "super" (by decide)).trans (show bootBuiltins "super" = some (.type "super") by first | boot_by_name | rfl | kernel_rfl)) ⟨rfl, ?_⟩)
  refine wpAny_loadName_free I.ok.kind hkc hcl ⟨_, KX _ _ hcell, rfl⟩ ?_
  refine wpAny_loadName_local I.ok.kind hka hns hself ?_
  refine ks_wpAny_isType_cls hD1 hD2 ⟨rfl, ?_⟩
  refine ks_wpAny_call_super hD1 hD2 J.at_ J.cls (fun c e => ?_) (PySem.W.looks_mroIn KX F.sub) (fun h' eso ks => ?_)
  · have := J.no
    unfold PySem.W.notCls at this
    rw [e] at this
    exact Bool.noConfusion this
  have I1 : Inv X pins σ H { s with heap := h' } := I.kept ks
  obtain ⟨mA', J0', _⟩ := ins_get I1.hok hx
  obtain ⟨odx', J1, _⟩ := J0'.look
  have hxC : x ≠ C := PySem.W.ks_ne I1.kIn J1 hcd
  obtain ⟨of, hof, hofc⟩ : ∃ of, h'.get? f2 = some of ∧ of.cls = .type "function" := by
    have ht' : (X.K.lookup f2).map (·.cls) = some (.type "function") := F.ty
    cases z : X.K.lookup f2 with
    | none => rw [z] at ht'; cases ht'
    | some of => rw [z] at ht'; exact ⟨of, I1.kIn _ _ z, Option.some.inj ht'⟩
  have hm := F.up
  unfold PySem.W.ks_superIn at hm
  rw [hcd] at hm
  refine ks_wpAny_getMethod_super eso (PySem.W.looks_opaque I1.kIn F.op) (l₀ := cd.mro) ?_ rfl I1.kIn hm hof hofc hxC (by decide) ?_
  · exact fun A Q E s k q => wpAny_bind ((PySem.W.looks_clsIn I1.kIn hcd) A _ E s k (wpAny_pure q))
  have hb : (h'.push (PySem.W.methodObj (.ref f2) (.ref x))).get? h'.objs.size = some (PySem.W.methodObj (.ref f2) (.ref x)) := Heap.get?_push_at rfl rfl
  have I2 : Inv X pins σ H { s with heap := h'.push (PySem.W.methodObj (.ref f2) (.ref x)), toks := s.toks + 1 } := I1.kept (t' := s.toks + 1) fun b ob z => Heap.get?_push_of_some _ z
  have I3 : Inv X ((h'.objs.size, PySem.W.methodObj (.ref f2) (.ref x)) :: pins) σ H { s with heap := h'.push (PySem.W.methodObj (.ref f2) (.ref x)), toks := s.toks + 1 } := I2.pins_of fun q hq => by
    rcases List.mem_cons.mp hq with e | e
    · subst e
      exact ⟨hb, I1.hok.fresh (Nat.le_refl _), Nat.ne_of_gt I1.lt, I1.nofs (Nat.le_refl _), fun v z => nomatch z⟩
    · exact I2.pin q (List.mem_append_right _ e)
  rw [hst]
  refine PySem.W.callWith_of (P := PySem.W.MethP X.K h'.objs.size f2 (.ref x)) (by show ((false || (backTo p3 (starEach es X.env)).any (·.1)) || false) = false; rw [hpl]; rfl) (PySem.W.keeps_M F.fn) (Calls.evalArgs_plain ?_)
  have har := ha.run p3 _ _ σ H _ I3 hq
  rw [hst] at har
  refine thn har fun us s3 ⟨vs, H1, I4, rv, q⟩ => ?_
  have hp4 := (I4.pin (h'.objs.size, PySem.W.methodObj (.ref f2) (.ref x)) (List.mem_append_right _ List.mem_cons_self)).1
  have I5 : Inv X pins σ H1 s3 := I4.pins_of fun q hq => I4.pin q (List.mem_append_right _ (List.mem_cons_of_mem _ hq))
  refine ⟨⟨hp4, I4.kIn⟩, ?_⟩
  have r2 : Vals (V.ref x :: vs) (Value.ref x :: us) := .cons rfl rv
  have hl := F2.len _ _ _ _ q
  refine wpAny_call (ks_codeAny_call_bound hp4 (codeAny_mono (F2.run X.A X.stack s3 H1 ⟨Value.ref x :: us, []⟩ (Value.ref x :: us) (V.ref x :: vs) _ E0 hr I5.env0 (by
    have := b2 s3 (Value.ref x :: us) I5.kIn (by rw [List.append_nil, ← r2.length]; exact hl)
    simpa using this) r2 q) fun r s' hq => ?_))
  cases r with
  | error e => exact hq.elim
  | ok fl =>
    cases fl with
    | ret w =>
      obtain ⟨z, H', I', rz, q⟩ := I5.after hq
      exact wpAt_of_wpAny (hs.run pins s' σ H' D I' q)
    | next => exact False.elim hq
    | brk => exact False.elim hq
    | cont => exact False.elim hq
/-- THE RULE: such a method by its body -/
theorem fn_ofS {CX : CXT} {P : Program} {w : World} {K : PySem.W.Frag} {mg : Str → Option Value} {base : Heap} {k : Nat} {f f2 C cda cc : Addr} {name qual : Str} {params : Arguments} {body : List Stmt} {scope : Scope} {dV kV doc pm ct : Value} {an : Option Addr}
    {N ps : List Str} {sp : Sp} (F : SupK K P f f2 C cda cc (PySem.W.fnX name qual params body scope [("__class__", cc)] dV kV doc pm an (.ref cda) ct)) (hcd : PySem.W.codeIn K (.ref cda) qual = true) (S : NdefX.NScope N ps ["__class__"] scope)
    (len : ∀ vs H Q E, sp vs H Q E → vs.length = ps.length)
    (hbody : ∀ (A : Around) (outer : List Env) (s : Shared) (H : Hp) (vs : List V) (Q : VK) (E : XK), Room k (A.deeper (NdefX.envF ⟨name, qual, params, body, scope, [("__class__", cc)], cda⟩ f s.heap.objs.size)) → sp vs H Q E →
      ∃ t, PSsS (NdefX.ncx CX P w K mg base N ⟨name, qual, params, body, scope, [("__class__", cc)], cda⟩ f A outer s H E) body t ∧ t { nx := fun _ H' => Q .non H', rt := Q } (NdefX.startF N vs [none]) H) :
    FnOk P w K mg base CX (k + 1) f (PySem.W.fnX name qual params body scope [("__class__", cc)] dV kV doc pm an (.ref cda) ct) ps sp := by
  refine ⟨len, fun A outer s H args us vs Q E hr e0 hb r hsp => ?_⟩
  have hl := len _ _ _ _ hsp
  obtain ⟨oc, od, sl, lk⟩ := F.fo
  obtain ⟨cl, cld, csl, hcell⟩ := F.cell
  have KX : K.In s.heap := e0.mod.kin.keeps fun b o e => (e0.bs b o e).1
  have lim : s.heap.NoLimit := e0.mod.nolimit.keeps fun b o e => (e0.bs b o e).1
  have look1 : ∀ (y : Str) (c : Addr), List.lookup y [(("__class__" : Str), cc)] = some c → c = cc ∧ y = "__class__" := fun y c e => by
    rw [List.lookup_cons] at e
    split at e
    · rename_i z
      cases e
      exact ⟨rfl, beq_iff_eq.mp z⟩
    · cases e
  have CA : NdefX.CellsAt [("__class__", cc)] ["__class__"] [none] s.heap H := by
    refine ⟨rfl, fun y c e => ?_, fun x y c e1 e2 => ?_, fun i y e => ?_⟩
    · obtain ⟨rfl, _⟩ := look1 y c e
      exact ⟨(e0.bs _ _ (e0.mod.kin _ _ hcell)).2, _, _, KX _ _ hcell, rfl⟩
    · rw [(look1 x c e1).2, (look1 y c e2).2]
    · cases i with
      | zero =>
        cases e
        refine ⟨cc, by rw [List.lookup_cons, beq_self_eq_true], fun v z => ?_⟩
        cases z
      | succ j => simp at e
  refine ks_codeAny_call_defAt hr.depth (KX _ _ lk) rfl lim (PySem.W.codeRec_of KX hcd) rfl hb S.nocell (fun ⟨n, _⟩ hy => S.par n (List.of_mem_zip hy).1) (fun h₁ hns kp => ?_) S.co S.gen S.kind
  obtain ⟨t, ht, hq⟩ := hbody A outer s H vs Q E (hr.deeper _) hsp
  have I : Inv (NdefX.ncx CX P w K mg base N ⟨name, qual, params, body, scope, [("__class__", cc)], cda⟩ f A outer s H E) [] (NdefX.startF N vs [none]) H { s with heap := h₁, toks := s.toks + (ps.zip us).length } := NdefX.inv_startN S hr.hd e0 hl r CA hns kp
  refine ks_wpAt_mono (ht.run body [] _ (NdefX.startF N vs [none]) H _ I hq) (fun fl s' hs => ?_) fun e s' hs => hs
  have fin : ∀ {σ' : L2.St} {H' : Hp} {v : V} {u : Value}, Inv (NdefX.ncx CX P w K mg base N ⟨name, qual, params, body, scope, [("__class__", cc)], cda⟩ f A outer s H E) [] σ' H' s' → L2.RelV v u → Q v H' → CE outer P w H s Q u s' :=
    fun {σ' H' v u} J rv q => ⟨v, H', J.os, J.bare, J.base, J.hok, rv, q⟩
  cases fl with
  | ret u =>
    obtain ⟨v, σ', H', J, rv, q⟩ := hs
    exact fin J rv q
  | next =>
    obtain ⟨σ', H', J, q⟩ := hs
    exact fin (v := V.non) (u := Value.none) J rfl q
  | brk =>
    obtain ⟨_, _, _, q⟩ := hs
    exact False.elim q
  | cont =>
    obtain ⟨_, _, _, q⟩ := hs
    exact False.elim q
/-- such a method of the text as it stands behind the top -/
structure FunS (K : PySem.W.Frag) (P : Program) (x qual : Str) (st : Stmt) (f f2 C cda cc : Addr) (fd : FuncData) : Prop where
  ex : ∃ (kV doc pm ct : Value) (an : Option Addr), fd = PySem.W.fnX x qual (defArgs st) (defBody st) (defScope st) [("__class__", cc)] .none kV doc pm an (.ref cda) ct
  sup : SupK K P f f2 C cda cc fd
  code : PySem.W.codeIn K (.ref cda) qual = true
  kp : PySem.W.keepIn K (.ref f) = true
theorem FunS.params {P : Program} {K : PySem.W.Frag} {f f2 C cda cc : Addr} {x qual : Str} {st : Stmt} {fd : FuncData} (F : FunS K P x qual st f f2 C cda cc fd) : fd.params = defArgs st := by
  obtain ⟨kV, doc, pm, ct, an, rfl⟩ := F.ex
  rfl
theorem FunS.ok {P : Program} {w : World} {K : PySem.W.Frag} {mg : Str → Option Value} {base : Heap} {k : Nat} {f f2 C cda cc : Addr} {x qual : Str} {st : Stmt} {fd : FuncData} {N ps : List Str} {sp : Sp} (F : FunS K P x qual st f f2 C cda cc fd) (S : NdefX.NScope N ps ["__class__"] (defScope st))
    (len : ∀ vs H Q E, sp vs H Q E → vs.length = ps.length)
    (hbody : ∀ (A : Around) (outer : List Env) (s : Shared) (H : Hp) (vs : List V) (Q : VK) (E : XK), Room k (A.deeper (NdefX.envF ⟨x, qual, defArgs st, defBody st, defScope st, [("__class__", cc)], cda⟩ f s.heap.objs.size)) → sp vs H Q E →
      ∃ t, PSsS (NdefX.ncx CX0 P w K mg base N ⟨x, qual, defArgs st, defBody st, defScope st, [("__class__", cc)], cda⟩ f A outer s H E) (defBody st) t ∧ t { nx := fun _ H' => Q .non H', rt := Q } (NdefX.startF N vs [none]) H) :
    FnOk P w K mg base CX0 (k + 1) f fd ps sp := by
  obtain ⟨kV, doc, pm, ct, an, rfl⟩ := F.ex
  exact fn_ofS F.sup F.code S len hbody
theorem FunS.binds {P : Program} {K : PySem.W.Frag} {f f2 C cda cc : Addr} {x qual : Str} {st : Stmt} {fd : FuncData} {ps : List Str} (F : FunS K P x qual st f f2 C cda cc fd)
    (h : ∀ (kV doc pm : Value) (an : Option Addr) (cdv ct : Value) (us : List Value), us.length = ps.length → bindArgs (PySem.W.fnX x qual (defArgs st) (defBody st) (defScope st) [("__class__", cc)] .none kV doc pm an cdv ct) ⟨us, []⟩ = pure (ps.zip us)) : Binds K fd ps [] := by
  obtain ⟨kV, doc, pm, ct, an, rfl⟩ := F.ex
  exact .all (h kV doc pm an (.ref cda) ct)
/-- C.f is a constant of the class -/
def CValE (K : PySem.W.Frag) (C : Addr) (mc : Value) (f : Str) (v : V) : Prop := ∃ u, ClX.CVal K C mc f v u
theorem g_cval {K : PySem.W.Frag} {ta : TE} {f : Str} {σ : L2.St} {H : Hp} {Q : VK} (h : ta σ H fun x H1 => ∃ C mc v u, x = .ref C ∧ ClX.CRead K C mc ∧ ClX.CVal K C mc f v u ∧ Q v H1) : ClX.tCVal K ta f σ H Q := h

def topS (i : Nat) : Stmt := PySem.Challenge.pw_throughline_k50_calls_on_channels.main.body.getD i (.Pass ⟨0, 0, 0, 0⟩)
abbrev s_Channel_init__ : Stmt := inClass (topS 2) 0
abbrev s_Channel_break_off : Stmt := inClass (topS 2) 1
abbrev s_Channels_init__ : Stmt := inClass (topS 17) 1
abbrev s_Channels_len__ : Stmt := inClass (topS 17) 2
abbrev s_Channels_iter__ : Stmt := inClass (topS 17) 3
abbrev s_Channels_open_channel : Stmt := inClass (topS 17) 4
abbrev s_Channels_accept : Stmt := inClass (topS 17) 5
abbrev s_Channels_write : Stmt := inClass (topS 17) 6
abbrev s_Channels_read : Stmt := inClass (topS 17) 7
abbrev s_Channels_finish : Stmt := inClass (topS 17) 8
abbrev s_Channels_reset : Stmt := inClass (topS 17) 9
abbrev s_Channels_status : Stmt := inClass (topS 17) 10
abbrev s_Channels_known : Stmt := inClass (topS 17) 14
abbrev s_Channels_add : Stmt := inClass (topS 17) 15
abbrev s_Channels_room_of : Stmt := inClass (topS 17) 16
abbrev s_l_cell : Stmt := topS 19
abbrev s_l_is_integer : Stmt := topS 20
abbrev s_l_start : Stmt := topS 21
abbrev s_l_digit : Stmt := topS 22
abbrev s_l_call : Stmt := topS 23
abbrev s_l_refused : Stmt := topS 24
abbrev s_l_status : Stmt := topS 25
abbrev s_l_write : Stmt := topS 26
abbrev s_l_reset : Stmt := topS 27
abbrev s_l_read : Stmt := topS 28
abbrev s_l_open : Stmt := topS 29
abbrev s_l_step : Stmt := topS 30
abbrev s_law : Stmt := topS 31
theorem sc_Channel_init__ : FnScope ["self", "number", "announced"] ["self", "number", "announced"] (defScope s_Channel_init__) := ⟨rfl, rfl, rfl, by decide +kernel, rfl, by decide +kernel, by decide +kernel⟩
theorem sc_Channel_break_off : FnScope ["self", "place", "code"] ["self", "place", "code"] (defScope s_Channel_break_off) := ⟨rfl, rfl, rfl, by decide +kernel, rfl, by decide +kernel, by decide +kernel⟩
theorem sc_Channels_init__ : FnScope ["self", "first", "window", "most"] ["self", "first", "window", "most"] (defScope s_Channels_init__) := ⟨rfl, rfl, rfl, by decide +kernel, rfl, by decide +kernel, by decide +kernel⟩
theorem sc_Channels_len__ : FnScope ["self"] ["self"] (defScope s_Channels_len__) := ⟨rfl, rfl, rfl, by decide +kernel, rfl, by decide +kernel, by decide +kernel⟩
theorem sc_Channels_iter__ : FnScope ["self"] ["self"] (defScope s_Channels_iter__) := ⟨rfl, rfl, rfl, by decide +kernel, rfl, by decide +kernel, by decide +kernel⟩
theorem sc_Channels_open_channel : FnScope ["self", "number"] ["self"] (defScope s_Channels_open_channel) := ⟨rfl, rfl, rfl, by decide +kernel, rfl, by decide +kernel, by decide +kernel⟩
theorem sc_Channels_accept : FnScope ["self"] ["self"] (defScope s_Channels_accept) := ⟨rfl, rfl, rfl, by decide +kernel, rfl, by decide +kernel, by decide +kernel⟩
theorem sc_Channels_write : FnScope ["self", "channel", "octets", "found", "taken"] ["self", "channel", "octets"] (defScope s_Channels_write) := ⟨rfl, rfl, rfl, by decide +kernel, rfl, by decide +kernel, by decide +kernel⟩
theorem sc_Channels_read : FnScope ["self", "channel", "count", "found", "octets"] ["self", "channel", "count"] (defScope s_Channels_read) := ⟨rfl, rfl, rfl, by decide +kernel, rfl, by decide +kernel, by decide +kernel⟩
theorem sc_Channels_finish : FnScope ["self", "channel", "found"] ["self", "channel"] (defScope s_Channels_finish) := ⟨rfl, rfl, rfl, by decide +kernel, rfl, by decide +kernel, by decide +kernel⟩
theorem sc_Channels_reset : FnScope ["self", "channel", "code", "found"] ["self", "channel", "code"] (defScope s_Channels_reset) := ⟨rfl, rfl, rfl, by decide +kernel, rfl, by decide +kernel, by decide +kernel⟩
theorem sc_Channels_status : FnScope ["self", "channel", "found"] ["self", "channel"] (defScope s_Channels_status) := ⟨rfl, rfl, rfl, by decide +kernel, rfl, by decide +kernel, by decide +kernel⟩
theorem sc_Channels_known : FnScope ["self", "number"] ["self", "number"] (defScope s_Channels_known) := ⟨rfl, rfl, rfl, by decide +kernel, rfl, by decide +kernel, by decide +kernel⟩
theorem sc_Channels_add : FnScope ["self", "channel"] ["self", "channel"] (defScope s_Channels_add) := ⟨rfl, rfl, rfl, by decide +kernel, rfl, by decide +kernel, by decide +kernel⟩
theorem sc_Channels_room_of : FnScope ["self", "channel"] ["self", "channel"] (defScope s_Channels_room_of) := ⟨rfl, rfl, rfl, by decide +kernel, rfl, by decide +kernel, by decide +kernel⟩
theorem sc_l_cell : FnScope ["script", "k"] ["script", "k"] (defScope s_l_cell) := ⟨rfl, rfl, rfl, by decide +kernel, rfl, by decide +kernel, by decide +kernel⟩
theorem sc_l_is_integer : FnScope ["told"] ["told"] (defScope s_l_is_integer) := ⟨rfl, rfl, rfl, by decide +kernel, rfl, by decide +kernel, by decide +kernel⟩
theorem sc_l_start : FnScope ["cell", "k", "prime", "mixed"] ["cell", "k"] (defScope s_l_start) := ⟨rfl, rfl, rfl, by decide +kernel, rfl, by decide +kernel, by decide +kernel⟩
theorem sc_l_digit : FnScope ["state", "many", "digit"] ["state", "many"] (defScope s_l_digit) := ⟨rfl, rfl, rfl, by decide +kernel, rfl, by decide +kernel, by decide +kernel⟩
theorem sc_l_call : FnScope ["side", "name", "args", "e"] ["side", "name", "args"] (defScope s_l_call) := ⟨rfl, rfl, rfl, by decide +kernel, rfl, by decide +kernel, by decide +kernel⟩
theorem sc_l_refused : FnScope ["first", "window", "most", "e"] ["first", "window", "most"] (defScope s_l_refused) := ⟨rfl, rfl, rfl, by decide +kernel, rfl, by decide +kernel, by decide +kernel⟩
theorem sc_l_status : FnScope ["told", "row", "window", "room", "key", "due"] ["told", "row", "window"] (defScope s_l_status) := ⟨rfl, rfl, rfl, by decide +kernel, rfl, by decide +kernel, by decide +kernel⟩
theorem sc_l_write : FnScope ["side", "rows", "number", "octets", "window", "given", "told", "row", "room"] ["side", "rows", "number", "octets", "window"] (defScope s_l_write) := ⟨rfl, rfl, rfl, by decide +kernel, rfl, by decide +kernel, by decide +kernel⟩
theorem sc_l_reset : FnScope ["side", "rows", "number", "code", "told", "row"] ["side", "rows", "number", "code"] (defScope s_l_reset) := ⟨rfl, rfl, rfl, by decide +kernel, rfl, by decide +kernel, by decide +kernel⟩
theorem sc_l_read : FnScope ["side", "rows", "number", "count", "told"] ["side", "rows", "number", "count"] (defScope s_l_read) := ⟨rfl, rfl, rfl, by decide +kernel, rfl, by decide +kernel, by decide +kernel⟩
theorem sc_l_open : FnScope ["side", "rows", "turn", "told", "number"] ["side", "rows", "turn"] (defScope s_l_open) := ⟨rfl, rfl, rfl, by decide +kernel, rfl, by decide +kernel, by decide +kernel⟩
theorem sc_l_step : FnScope ["side", "rows", "state", "window", "turn", "kind", "number", "octets", "told", "k"] ["side", "rows", "state", "window", "turn"] (defScope s_l_step) := ⟨rfl, rfl, rfl, by decide +kernel, rfl, by decide +kernel, by decide +kernel⟩
theorem sc_law : FnScope ["script", "state", "turn", "window", "most", "bad", "side", "rows", "k", "number"] ["script"] (defScope s_law) := ⟨rfl, rfl, rfl, by decide +kernel, rfl, by decide +kernel, by decide +kernel⟩
/-! ### several except clauses, each with a name of its own -/
/-- what the clauses wish, one after the other: the class, the slot, the suite -/
def wManyA (K : PySem.W.Frag) (Wout : WX) (D : Ends) : List (Value × Nat × (Addr → Value → Option Addr → TS)) → WX
  | [] => Wout
  | (c, i, ts) :: r => wAs K c i ts (wManyA K Wout D r) D
inductive HdsA (X : Cx) : List ExceptHandler → List (Value × Nat × (Addr → Value → Option Addr → TS)) → Prop
  | nil : HdsA X [] []
  | cons {x n : Str} {c : Value} {i : Nat} {ts : Addr → Value → Option Addr → TS} {b₀ : Stmt} {suite : List Stmt} {np pos' : Pos} {hds : List ExceptHandler} {l : List (Value × Nat × (Addr → Value → Option Addr → TS))}
      (hi : X.N[i]? = some n) (hln : X.env.kindOf n = some .local) (hc : Names X x c)
      (hsu : ∀ (a : Addr) (oe : Obj) (cls : Value) (d : Option Addr) (pn : List (Addr × Obj)), Zc cls d oe → (∃ vs, oe.data = .fields vs) → PSs (X.suite a ((a, oe) :: pn)) (b₀ :: suite) (ts a cls d)) (r : HdsA X hds l) :
      HdsA X (.ExceptHandler (some (.Name x np)) (some n) (b₀ :: suite) pos' :: hds) ((c, i, ts) :: l)
def tTryMA (K : PySem.W.Frag) (tb : WX → TS) (l : List (Value × Nat × (Addr → Value → Option Addr → TS))) (Wout : WX) : TS := fun D σ H => tb (wManyA K Wout D l) D σ H
theorem g_tryMA {K : PySem.W.Frag} {tb : WX → TS} {l : List (Value × Nat × (Addr → Value → Option Addr → TS))} {Wout : WX} {D : Ends} {σ : St} {H : Hp} (h : tb (wManyA K Wout D l) D σ H) : tTryMA K tb l Wout D σ H := h
/-- the clause does not name the exception's class: the next one -/
theorem g_missed {K : PySem.W.Frag} {c cls : Value} {d : Option Addr} {i : Nat} {ts : Addr → Value → Option Addr → TS} {Wout : WX} {D : Ends} {σ : St} {H : Hp} (e : PySem.W.exmOne K cls c = some false) (h : Wout cls d σ H) : wAs K c i ts Wout D cls d σ H := ⟨false, e, (fun z => absurd z Bool.false_ne_true), fun _ => h⟩
section
variable {X : Cx} {body : List Stmt} {h₀ : ExceptHandler} {hds : List ExceptHandler} {l : List (Value × Nat × (Addr → Value → Option Addr → TS))} {pos : Pos} {tb : WX → TS} {Wout : WX}
theorem ps_tryMA (hs : X.stack = X.env :: X.outer) (hf : X.env.frame = some X.env.locals) (hN : X.N.Nodup) (tk : Takes X Wout)
    (hb : ∀ (W : WX) (pn : List (Addr × Obj)) (xe : Value → Shared → Prop), Takes (X.tr pn xe) W → PassesOwn (model X.prog X.w) X.A X.env xe → PSs (X.tr pn xe) body (tb W))
    (hh : HdsA X (h₀ :: hds) l) : PS X (.Try body (h₀ :: hds) [] [] pos) (tTryMA X.K tb l Wout) := by
  refine ⟨fun pins s σ H D I h => ?_⟩
  have ok := I.ok
  have hfr : X.A.frames = some (X.env :: X.outer) := by rw [ok.frames, hs]
  refine wpAny_Try_except (wpAny_mono ((hb (wManyA X.K Wout D l) (X.pn ++ pins) (fun e s₁ => wpAny (model X.prog X.w) X.A (noteFrame e X.env) (fun _ s₂ => wpAny (model X.prog X.w) X.A (setFlight e none) (fun _ s₃ =>
    wpAny (model X.prog X.w) X.A (handleBy e X.env (h₀ :: hds)) (SP X pins D) X.xe s₃) X.xe s₂) X.xe s₁) (fun u s' xx => ?_) PassesOwn.looking).run [] s σ H D (I.toTry _) h) (fun f s1 hsp => ?_) fun e s1 he => he)
  · obtain ⟨a, B, sI, pins', σ', H', cls, d, rfl, J', nb, up, sky, na, os, ag, w⟩ := xx
    have J : Inv X pins σ' H' sI := J'.ofTry ok
    rw [show (X.tr (X.pn ++ pins) _).stack = X.env :: X.outer from hs] at sky
    show wpAny (model X.prog X.w) X.A (noteFrame (.ref a) X.env) _ _ _
    refine Sky.land Zc.steady hfr hf sky fun h3 fl3 up3 => ?_
    obtain ⟨oe3, vs3, he3, hz3, hd3⟩ := fl3.there
    have nfr : a ∉ frs (X.env :: X.outer) := fun hm => by
      obtain ⟨_, o', e', hnf⟩ := fl3.2.2.1.mem hm
      rw [he3] at e'
      cases e'
      exact hnf _ hd3
    have nL : a ≠ X.env.locals := fun z => nfr (List.mem_filterMap.mpr ⟨X.env, List.mem_cons_self, by rw [hf, z]⟩)
    have nF : a ∉ X.fs := fun hm => by
      obtain ⟨e, he, q⟩ := List.mem_filterMap.mp hm
      exact nfr (List.mem_filterMap.mpr ⟨e, List.mem_cons_of_mem _ he, q⟩)
    have J3 : Inv X pins σ' H' { s' with heap := h3 } := J.landed nb fl3.1 (up.trans up3) os ag
    have S3 := J3.suite he3 hd3 na nL nF
    have go : ∀ {hs' : List ExceptHandler} {l' : List (Value × Nat × (Addr → Value → Option Addr → TS))}, HdsA X hs' l' → wManyA X.K Wout D l' cls d σ' H' → wpAny (model X.prog X.w) X.A (handleBy (.ref a) X.env hs') (SP X pins D) X.xe { s' with heap := h3 } := by
      intro hs' l' hk
      induction hk with
      | nil =>
        intro w
        refine wpAny_handleBy_nil ?_
        obtain ⟨k1, k2, k3, oe, vs, T, oT, ts', he, hz, hd, h1, hr⟩ := id fl3
        unfold PySem.passOn
        refine wpAny_bind (wpAny_field he hd h1 ?_)
        rw [if_neg (show ¬ ((Value.ref T == Value.none) = true) from by simp)]
        have fin : wpAny (model X.prog X.w) X.A (setFlight (.ref a) X.env.frame) (fun _ s4 => wpAny (model X.prog X.w) X.A (throw (.ref a) : Sem Flow) (SP X pins D) X.xe s4) X.xe { s' with heap := h3 } := by
          rw [hf]
          exact HandSPX.setFlight_upZ fl3 fun h4 hh4 up4 => wpAny_throw (tk _ _ ⟨a, B, sI, pins, σ', H', cls, d, rfl, J, nb, (up.trans up3).trans up4, .inr (.inr (by rw [hs]; exact hh4)), na, os, ag, w⟩)
        first
          | exact wpAny_bind (wpAny_pure (wpAny_bind fin))
          | exact wpAny_bind fin
      | @cons x n c i ts b₀ suite np pos' hds2 l2 hi hln hc hsu r ih =>
        intro w
        obtain ⟨b, hb1, hyes, hno⟩ := w
        refine wpAny_handleBy_cons (codeAny_handlers_test ?_) (by intro q; cases q)
        have LT : PySem.W.Looks (model X.prog X.w) h3 (typeOf (.ref a)) cls := fun A Q E s k q => wpAny_typeOf_ref (k _ _ he3) (by rw [hz3.1]; exact q)
        have test : ∀ {Q : Value → Shared → Prop} {E : Value → Shared → Prop}, Q c { s' with heap := h3 } → wpAny (model X.prog X.w) (X.A.mark (some (.ref a))) (eval (.Name x np) X.env) Q E { s' with heap := h3 } := fun {Q E} q => by
          obtain ⟨hg, hdbg, hm | ⟨hm, hv, hnn⟩⟩ := hc
          · exact ld_glob (X := X.suite a ((a, oe3) :: (X.pn ++ pins))) S3 hg hm q hdbg
          · exact ld_blt (X := X.suite a ((a, oe3) :: (X.pn ++ pins))) S3 hg hm hv q hnn hdbg
        refine test ((PySem.W.exm_one (M := model X.prog X.w) J3.kIn LT hb1).here ?_)
        cases b with
        | false => exact ih (hno rfl)
        | true =>
          refine codeAny_handlers_suite_as (HandSPX.lands_againZ fl3 fun h4 fl4 up4 => ?_)
          obtain ⟨oe4, vs4, he4, hz4, hd4⟩ := fl4.there
          have J4 : Inv X pins σ' H' { s' with heap := h4 } := J.landed nb fl4.1 ((up.trans up3).trans up4) os ag
          have S4 := J4.suite he4 hd4 na nL nF
          refine store_ok (X := X.suite a ((a, oe4) :: (X.pn ++ pins))) (v := .ref a) S4 hN hi (.inl hln) rfl (fun s5 S5 => ?_) (.inr hln)
          refine wpAny_mono ((hsu a oe4 cls d (X.pn ++ pins) hz4 ⟨_, hd4⟩).run [] s5 _ H' _ S5 (hyes rfl a na)) (fun f s6 hsp => ?_) fun _ _ z => False.elim z
          have gone : ∀ {σ6 : St} {H6 : Hp} {Q : Shared → Prop}, Inv (X.suite a ((a, oe4) :: (X.pn ++ pins))) [] σ6 H6 s6 → (∀ s7, Inv X pins (σ6.set i none) H6 s7 → Q s7) →
              wpAny (model X.prog X.w) X.A (do bindName X.env n .none; unbindBehindTheSuite X.env n pos') (fun _ s7 => Q s7) X.xe s6 := fun {σ6 H6 Q} S6 hq => gone_ok (S6.unsuite ok) hN hi hln hq
          cases f with
          | ret u =>
            obtain ⟨v6, σ6, H6, S6, r6, q6⟩ := hsp
            exact gone S6 fun s7 J7 => ⟨_, _, _, J7, r6, q6⟩
          | next =>
            obtain ⟨σ6, H6, S6, q6⟩ := hsp
            exact gone S6 fun s7 J7 => ⟨_, _, J7, q6⟩
          | brk =>
            obtain ⟨σ6, H6, S6, q6⟩ := hsp
            exact gone S6 fun s7 J7 => ⟨_, _, J7, q6⟩
          | cont =>
            obtain ⟨σ6, H6, S6, q6⟩ := hsp
            exact gone S6 fun s7 J7 => ⟨_, _, J7, q6⟩
    exact go hh w
  · cases f with
    | next =>
      obtain ⟨σ', H', J', q⟩ := hsp
      exact wpAny_execs_nil ⟨σ', H', J'.ofTry ok, q⟩
    | brk =>
      obtain ⟨σ', H', J', q⟩ := hsp
      exact ⟨σ', H', J'.ofTry ok, q⟩
    | cont =>
      obtain ⟨σ', H', J', q⟩ := hsp
      exact ⟨σ', H', J'.ofTry ok, q⟩
    | ret u =>
      obtain ⟨v, σ', H', J', r, q⟩ := hsp
      exact ⟨v, σ', H', J'.ofTry ok, r, q⟩
end

/-! ### methods and makers that may raise, called inside a try -/
section
variable {X : Cx} {CX : CXT} {k : Nat} {f C : Addr} {fd : FuncData} {ps ks : List Str} {sp : Sp} {E : St → XK} {x m : Str} {p pos apos : Pos} {e o : Expr} {es : List Expr} {kws : List Keyword} {ta : TE} {t tk : TA} {g : List Value → List Value → List Value} {gV : List V → List V → List V}
def tMethT (C : Addr) (m : Str) (sp : Sp) (E : St → XK) (ta : TE) (t : TA) : TE := fun σ H Q => ta σ H fun x H1 => ∃ a dx fs, x = .ref a ∧ H1 a = some (.ins C dx fs) ∧ fs.lookup m = none ∧ t σ H1 fun vs H2 => sp (x :: vs) H2 Q (E σ)
theorem pe_methT {pl : Sem Bool} (he : PE X o ta) (c : Cls X.K C) (hm : Meth X.K C m f) (F : FnOk X.prog X.w X.K X.mg X.base CX k f fd ps sp) (hr : Room k X.A) (hb : Binds X.K fd ps []) (hx : ∀ σ, PassesAt CX X σ (E σ)) (ha : PA X (e :: es) t)
    (hst : starEach (e :: es) X.env = (false, eval e X.env) :: starEach es X.env := by rfl) (hpl : (backTo pos (starEach es X.env)).any (·.1) = false := by rfl)
    (ht : eval (.Call (.Attribute o m apos) (e :: es) [] pos) X.env = (do
      let ov ← eval o X.env
      standAt apos.atName
      let (f, first) ← holding [ov] (getMethod ov m pl)
      callWith pos f first (backTo pos (starEach (e :: es) X.env)) (backToKw pos (keywordEach [] X.env))) := by rfl) :
    PE X (.Call (.Attribute o m apos) (e :: es) [] pos) (tMethT C m sp E ta t) := by
  refine ⟨fun pins s σ H Q I h => PySem.W.methodCall_KW (pl := pl) (thn (he.run pins s σ H _ I h) fun u s1 ⟨x, H1, I1, rx, a, dx, fs, ex, ea, l, q⟩ => ?_) ht⟩
  subst ex
  obtain rfl : u = Value.ref a := rx
  refine getmeth_ok I1 ea c hm l (PySem.W.callWith_K (first := [.ref a]) (h₀ := X.base) I.ok.mod.kin hm.kp (thn (ha.run pos pins s1 σ H1 _ I1 q) fun us s2 ⟨vs, H2, I2, r, q2⟩ => ⟨I2.kIn, ?_⟩) hst hpl)
  exact run_fnS (us := .ref a :: us) (vs := .ref a :: vs) F hr hb (hx σ) I2 (.cons rfl r) q2
theorem pe_meth0T {pl : Sem Bool} (he : PE X o ta) (c : Cls X.K C) (hm : Meth X.K C m f) (F : FnOk X.prog X.w X.K X.mg X.base CX k f fd ps sp) (hr : Room k X.A) (hb : Binds X.K fd ps []) (hx : ∀ σ, PassesAt CX X σ (E σ))
    (ht : eval (.Call (.Attribute o m apos) [] [] pos) X.env = (do
      let ov ← eval o X.env
      standAt apos.atName
      let (f, first) ← holding [ov] (getMethod ov m pl)
      callWith pos f first (backTo pos (starEach [] X.env)) (backToKw pos (keywordEach [] X.env))) := by rfl) :
    PE X (.Call (.Attribute o m apos) [] [] pos) (tMethT C m sp E ta tNil) := by
  refine ⟨fun pins s σ H Q I h => PySem.W.methodCall_KW (pl := pl) (thn (he.run pins s σ H _ I h) fun u s1 ⟨x, H1, I1, rx, a, dx, fs, ex, ea, l, q⟩ => ?_) ht⟩
  subst ex
  obtain rfl : u = Value.ref a := rx
  exact getmeth_ok I1 ea c hm l (PySem.W.callWith_K0 (first := [.ref a]) I1.kIn hm.kp (run_fnS (us := [.ref a]) (vs := [.ref a]) F hr hb (hx σ) I1 (.cons rfl .nil) q))
def tMakeKT (C : Addr) (m : Nat) (sp : Sp) (gV : List V → List V → List V) (E : St → XK) (tk : TA) : TE := fun σ H Q => tk σ H fun zs H2 => zs.length = m ∧ ∀ x dx, H2 x = none → H2 dx = none → dx ≠ x →
  sp (gV [.ref x] zs) (upd (upd H2 dx (.own x)) x (.ins C dx [])) (fun v H3 => v = .non ∧ Q (.ref x) H3) (E σ)
theorem pe_makeK0T (M : Mk X.K C f) (F : FnOk X.prog X.w X.K X.mg X.base CX k f fd ps sp) (hr : Room (k + 1) X.A) (hg : Gl X x) (hm : X.mg x = some (.ref C)) (hb : KBn X.K fd ps 1 ks g gV) (hx : ∀ σ, PassesAt CX X σ (E σ)) (hkw : PK X kws tk)
    (hall : (backToKw pos (keywordEach kws X.env)).all (·.1.isSome) = true := by rfl) (hks : (backToKw pos (keywordEach kws X.env)).filterMap (·.1) = ks := by rfl) (hdb : (x == ("__debug__" : Str)) = false := by decide)
    (hpl : ((backTo pos (starEach [] X.env)).any (·.1) || (backToKw pos (keywordEach kws X.env)).any (·.1.isNone)) = false := by rfl) :
    PE X (.Call (.Name x p) [] kws pos) (tMakeKT C ks.length sp gV E tk) := by
  refine ⟨fun pins s σ H Q I h => ?_⟩
  refine wpAny_Call_Name_kw (ld_glob I hg hm ?_ hdb)
  refine PySem.W.callWith_KW0 (h₀ := X.base) I.ok.mod.kin M.kp hall ?_ hpl
  refine thn (hkw.run pos pins s σ H _ I h) fun ws s2 ⟨zs, H2, I2, rz, l2, q2⟩ => ⟨I2.kIn, ?_⟩
  rw [hks]
  have hq := q2 (s2.heap.objs.size + 1) s2.heap.objs.size (I2.hok.fresh (Nat.le_succ _)) (I2.hok.fresh (Nat.le_refl _)) (Nat.ne_of_lt (Nat.lt_succ_self _))
  have I3 := Inv.made (C := C) I2
  have r1 : Vals [V.ref (s2.heap.objs.size + 1)] [Value.ref (s2.heap.objs.size + 1)] := .cons rfl .nil
  refine wpAny_call (make_map (f := f) I2.kIn M.makes M.init (beq_iff_eq.mp M.fn) (codeAny_mono (F.run _ X.stack _ _ ⟨[Value.ref (s2.heap.objs.size + 1)], ks.zip ws⟩ (g [Value.ref (s2.heap.objs.size + 1)] ws) _ _ (E σ) (hr.make C [] (ks.zip ws))
    (I3.env0.make C [] (ks.zip ws)) (hb.to _ [Value.ref (s2.heap.objs.size + 1)] ws I3.kIn rfl (rz.length.symm.trans l2)) (hb.rel r1 rz) hq) fun r s' hq' => ?_))
  cases r with
  | error e => exact hx σ pins _ _ e s' I3 hq'
  | ok fl =>
    cases fl with
    | ret u =>
      obtain ⟨v, H', I4, rv, ev, q3⟩ := I3.after hq'
      subst ev
      exact ⟨rv, ⟨V.ref (s2.heap.objs.size + 1), H', I4, rfl, q3⟩⟩
    | next => exact False.elim hq'
    | brk => exact False.elim hq'
    | cont => exact False.elim hq'
variable {σ : St} {H : Hp} {Q : VK}
theorem g_methT (h : ta σ H fun x H1 => ∃ a dx fs, x = .ref a ∧ H1 a = some (.ins C dx fs) ∧ fs.lookup m = none ∧ t σ H1 fun vs H2 => sp (x :: vs) H2 Q (E σ)) : tMethT C m sp E ta t σ H Q := h
theorem g_makeKT {m : Nat} (h : tk σ H fun zs H2 => zs.length = m ∧ ∀ x dx, H2 x = none → H2 dx = none → dx ≠ x → sp (gV [.ref x] zs) (upd (upd H2 dx (.own x)) x (.ins C dx [])) (fun v H3 => v = .non ∧ Q (.ref x) H3) (E σ)) : tMakeKT C m sp gV E tk σ H Q := h
end

/-! ### sorted(d): a dict whose keys are ints, any number of them -/
section
variable {X : Cx}
def rSortedDI : List V → Hp → VK → Prop := fun xs H Q => ∃ (a : Addr) (kvs : List (Key × V)) (ks : List Int), xs = [.ref a] ∧ Rd H a (.dK kvs) ∧ kvs.map (·.1) = ks.map Sum.inl ∧
  ∀ (ys : List Int) (p : Addr), ys.Perm ks → ys.Pairwise (· ≤ ·) → H p = none → Q (.ref p) (upd H p (.lst (ys.map V.int)))
open PyProof.Rows in
theorem cr_sortedDI (hcalm : X.calm = true) : CallR X (.builtin "sorted") rSortedDI := by
  intro pins s σ H xs us Q I r q
  obtain ⟨a, kvs, ks, rfl, hd, hks, q⟩ := q
  obtain ⟨u, rfl, rx⟩ := vals1 r
  cases rx
  obtain ⟨hzl, lo, vs, rel, dd⟩ := dk_rd I.hok hd
  obtain ⟨ep, hat⟩ := dd.dictAt
  have hkeys : vs.map (·.1) = ks.map Sum.inl := rel.keys.symm.trans hks
  have hl : vs.length = ks.length := by simpa using congrArg List.length hkeys
  have hz : vs.length ≤ sizeLine := by
    have e := congrArg List.length rel.keys
    rw [List.length_map, List.length_map] at e
    first
      | omega
      | (rw [← e]; exact hzl)
      | (rw [← e]; exact Nat.le_of_lt hzl)
  refine Calls.call_function_entry kind_sorted plain_sorted entry_sorted (args_sorted1 _) ?_
  unfold Builtin.«sorted»
  refine wpAny_bind (m := checkCount "sorted" 1 1 _) (wpAny_pure ?_)
  refine wpAny_bind (PySem.W.kdu_collect (A := X.A.in1) (PySem.W.kdl_dict (knd := mixKind X.prog X.w) (kvs := vs) (ep := ep) lo) (I.ok.hd hcalm) hat hz fun h' tk acc hk hacc => ?_)
  have hal : acc.toList.length = ks.length := by rw [Array.length_toList, hacc.1, hl]
  have hS : IntsAre acc.toList ks := ints_each hal fun j v e => by
    obtain ⟨k, x, e1, e2⟩ := hacc.2 j v (by rw [← Array.getElem?_toList]; exact e)
    have e3 : (vs.map (·.1))[j]? = some k := by rw [List.getElem?_map, e1]; rfl
    rw [hkeys, List.getElem?_map] at e3
    obtain ⟨y, e4, e5⟩ := Option.map_eq_some_iff.mp e3
    subst e5
    rcases keyIs_shape (show keyIs (Sum.inl y) v = true from e2) with ⟨i, t, ek, ev⟩ | ⟨z, t, ek, ev⟩
    · cases ek
      exact ⟨y, t, e4, ev⟩
    · cases ek
  have I1 : Inv X pins σ H { s with heap := h', toks := tk } := I.kept hk
  have hz2 : acc.toList.length ≤ sizeLine := by rw [hal, ← hl]; exact hz
  refine wpAny_bind (wpAny_newList ?_ hz2)
  have hoL : (h'.push (seqObj "list" acc.toList.toArray 0)).get? h'.objs.size = some (seqObj "list" acc.toList.toArray 0) := Heap.get?_push_size _ rfl
  show wpAny _ _ _ _ _ { s with heap := h'.push (seqObj "list" acc.toList.toArray 0), toks := tk }
  refine wpAny_bind (wpAny_holding (wpAny_call_entry slot_list_sort ⟨_, hoL, rfl⟩ entry_list_sort
    (SrtO.list_sort_ord (s := { s with heap := h'.push (seqObj "list" acc.toList.toArray 0), toks := tk }) SrtO.swo_int hoL hz2 (fun h2 => SrtO.ints_sortable hS h2) fun out g1 g2 => ⟨_, rfl, ?_⟩) (args_list_sort _)))
  obtain ⟨k1, k2, k3⟩ := SrtO.ints_out hS g1 g2
  obtain ⟨e', he'⟩ := sortedHeap_at (vs := acc.toList) (out := out.toArray) hoL
  have hlen : ((out.map SrtO.iv).map V.int).length ≤ sizeLine := by
    rw [List.length_map, k2.length_eq, ← hal]
    exact hz2
  refine wpAny_pure ⟨_, rfl, .ref h'.objs.size, upd H h'.objs.size (.lst ((out.map SrtO.iv).map V.int)), I1.laid (t' := tk) (fun b u e => ?_) (Nat.le_refl _)
    (show ObjOk X.prog X.w _ _ _ (.lst ((out.map SrtO.iv).map V.int)) from ⟨hlen, out, e', vals_of_ints k1, he'⟩), rfl, q _ _ k2 k3 (I1.hok.fresh (Nat.le_refl _))⟩
  have hb : b < h'.objs.size := Heap.lt_size e
  rw [sortedHeap_old (Nat.ne_of_lt hb) (by rw [size_push']; exact Nat.lt_succ_of_lt hb)]
  exact Heap.get?_push_of_some _ e
end

structure Txt (P : Program) (K : PySem.W.Frag) (mg : Str → Option Value) where
  t_GREATEST_SIZE : Tok
  t_GREATEST_CODE : Tok
  C_ThroughlineError : Addr
  C_InvalidOptions : Addr
  C_InvalidAmount : Addr
  C_UnknownChannel : Addr
  C_TooManyChannels : Addr
  C_Channel : Addr
  C_Channels : Addr
  f_Channel_init__ : Addr
  d_Channel_init__ : FuncData
  f_Channel_break_off : Addr
  d_Channel_break_off : FuncData
  f_Channels_init__ : Addr
  d_Channels_init__ : FuncData
  f_Channels_len__ : Addr
  d_Channels_len__ : FuncData
  f_Channels_iter__ : Addr
  d_Channels_iter__ : FuncData
  f_Channels_open_channel : Addr
  d_Channels_open_channel : FuncData
  f_Channels_accept : Addr
  d_Channels_accept : FuncData
  f_Channels_write : Addr
  d_Channels_write : FuncData
  f_Channels_read : Addr
  d_Channels_read : FuncData
  f_Channels_finish : Addr
  d_Channels_finish : FuncData
  f_Channels_reset : Addr
  d_Channels_reset : FuncData
  f_Channels_status : Addr
  d_Channels_status : FuncData
  f_Channels_known : Addr
  d_Channels_known : FuncData
  f_Channels_add : Addr
  d_Channels_add : FuncData
  f_Channels_room_of : Addr
  d_Channels_room_of : FuncData
  f_l_cell : Addr
  d_l_cell : FuncData
  f_l_is_integer : Addr
  d_l_is_integer : FuncData
  f_l_start : Addr
  d_l_start : FuncData
  f_l_digit : Addr
  d_l_digit : FuncData
  f_l_call : Addr
  d_l_call : FuncData
  f_l_refused : Addr
  d_l_refused : FuncData
  f_l_status : Addr
  d_l_status : FuncData
  f_l_write : Addr
  d_l_write : FuncData
  f_l_reset : Addr
  d_l_reset : FuncData
  f_l_read : Addr
  d_l_read : FuncData
  f_l_open : Addr
  d_l_open : FuncData
  f_l_step : Addr
  d_l_step : FuncData
  f_law : Addr
  d_law : FuncData
  v_GREATEST_SIZE : mg "GREATEST_SIZE" = some (.int 65535 t_GREATEST_SIZE)
  v_GREATEST_CODE : mg "GREATEST_CODE" = some (.int 65535 t_GREATEST_CODE)
  c_ThroughlineError : mg "ThroughlineError" = some (.ref C_ThroughlineError)
  c_InvalidOptions : mg "InvalidOptions" = some (.ref C_InvalidOptions)
  c_InvalidAmount : mg "InvalidAmount" = some (.ref C_InvalidAmount)
  c_UnknownChannel : mg "UnknownChannel" = some (.ref C_UnknownChannel)
  c_TooManyChannels : mg "TooManyChannels" = some (.ref C_TooManyChannels)
  xP_InvalidOptions : PySem.W.excIn K C_InvalidOptions [.type "ValueError", .type "Exception", .type "BaseException", .type "object"] "ValueError.__new__" = true
  ke_InvalidOptions : PySem.W.keepIn K (.ref C_InvalidOptions) = true
  be_InvalidOptions : PySem.W.subIn K (.ref C_InvalidOptions) (.type "BaseException") = some true
  te_InvalidOptions : PySem.W.typeIn K (.ref C_InvalidOptions) = some (.type "type")
  xc_InvalidOptions : ExcC K C_InvalidOptions
  em_InvalidOptions_UnknownChannel : PySem.W.exmOne K (.ref C_InvalidOptions) (.ref C_UnknownChannel) = some false
  em_InvalidOptions_TooManyChannels : PySem.W.exmOne K (.ref C_InvalidOptions) (.ref C_TooManyChannels) = some false
  em_InvalidOptions_InvalidAmount : PySem.W.exmOne K (.ref C_InvalidOptions) (.ref C_InvalidAmount) = some false
  em_InvalidOptions_InvalidOptions : PySem.W.exmOne K (.ref C_InvalidOptions) (.ref C_InvalidOptions) = some true
  ko_InvalidOptions_ThroughlineError : PySem.W.kitOne K (.ref C_InvalidOptions) (.ref C_ThroughlineError) = some true
  ko_InvalidOptions_InvalidAmount : PySem.W.kitOne K (.ref C_InvalidOptions) (.ref C_InvalidAmount) = some false
  ko_InvalidOptions_UnknownChannel : PySem.W.kitOne K (.ref C_InvalidOptions) (.ref C_UnknownChannel) = some false
  xP_TooManyChannels : PySem.W.excIn K C_TooManyChannels [.type "ValueError", .type "Exception", .type "BaseException", .type "object"] "ValueError.__new__" = true
  ke_TooManyChannels : PySem.W.keepIn K (.ref C_TooManyChannels) = true
  be_TooManyChannels : PySem.W.subIn K (.ref C_TooManyChannels) (.type "BaseException") = some true
  te_TooManyChannels : PySem.W.typeIn K (.ref C_TooManyChannels) = some (.type "type")
  xc_TooManyChannels : ExcC K C_TooManyChannels
  em_TooManyChannels_UnknownChannel : PySem.W.exmOne K (.ref C_TooManyChannels) (.ref C_UnknownChannel) = some false
  em_TooManyChannels_TooManyChannels : PySem.W.exmOne K (.ref C_TooManyChannels) (.ref C_TooManyChannels) = some true
  em_TooManyChannels_InvalidAmount : PySem.W.exmOne K (.ref C_TooManyChannels) (.ref C_InvalidAmount) = some false
  em_TooManyChannels_InvalidOptions : PySem.W.exmOne K (.ref C_TooManyChannels) (.ref C_InvalidOptions) = some false
  ko_TooManyChannels_ThroughlineError : PySem.W.kitOne K (.ref C_TooManyChannels) (.ref C_ThroughlineError) = some true
  ko_TooManyChannels_InvalidAmount : PySem.W.kitOne K (.ref C_TooManyChannels) (.ref C_InvalidAmount) = some false
  ko_TooManyChannels_UnknownChannel : PySem.W.kitOne K (.ref C_TooManyChannels) (.ref C_UnknownChannel) = some false
  xP_InvalidAmount : PySem.W.excIn K C_InvalidAmount [.type "ValueError", .type "Exception", .type "BaseException", .type "object"] "ValueError.__new__" = true
  ke_InvalidAmount : PySem.W.keepIn K (.ref C_InvalidAmount) = true
  be_InvalidAmount : PySem.W.subIn K (.ref C_InvalidAmount) (.type "BaseException") = some true
  te_InvalidAmount : PySem.W.typeIn K (.ref C_InvalidAmount) = some (.type "type")
  xc_InvalidAmount : ExcC K C_InvalidAmount
  em_InvalidAmount_UnknownChannel : PySem.W.exmOne K (.ref C_InvalidAmount) (.ref C_UnknownChannel) = some false
  em_InvalidAmount_TooManyChannels : PySem.W.exmOne K (.ref C_InvalidAmount) (.ref C_TooManyChannels) = some false
  em_InvalidAmount_InvalidAmount : PySem.W.exmOne K (.ref C_InvalidAmount) (.ref C_InvalidAmount) = some true
  em_InvalidAmount_InvalidOptions : PySem.W.exmOne K (.ref C_InvalidAmount) (.ref C_InvalidOptions) = some false
  ko_InvalidAmount_ThroughlineError : PySem.W.kitOne K (.ref C_InvalidAmount) (.ref C_ThroughlineError) = some true
  ko_InvalidAmount_InvalidAmount : PySem.W.kitOne K (.ref C_InvalidAmount) (.ref C_InvalidAmount) = some true
  ko_InvalidAmount_UnknownChannel : PySem.W.kitOne K (.ref C_InvalidAmount) (.ref C_UnknownChannel) = some false
  xP_UnknownChannel : PySem.W.excIn K C_UnknownChannel [.type "ValueError", .type "Exception", .type "BaseException", .type "object"] "ValueError.__new__" = true
  ke_UnknownChannel : PySem.W.keepIn K (.ref C_UnknownChannel) = true
  be_UnknownChannel : PySem.W.subIn K (.ref C_UnknownChannel) (.type "BaseException") = some true
  te_UnknownChannel : PySem.W.typeIn K (.ref C_UnknownChannel) = some (.type "type")
  xc_UnknownChannel : ExcC K C_UnknownChannel
  em_UnknownChannel_UnknownChannel : PySem.W.exmOne K (.ref C_UnknownChannel) (.ref C_UnknownChannel) = some true
  em_UnknownChannel_TooManyChannels : PySem.W.exmOne K (.ref C_UnknownChannel) (.ref C_TooManyChannels) = some false
  em_UnknownChannel_InvalidAmount : PySem.W.exmOne K (.ref C_UnknownChannel) (.ref C_InvalidAmount) = some false
  em_UnknownChannel_InvalidOptions : PySem.W.exmOne K (.ref C_UnknownChannel) (.ref C_InvalidOptions) = some false
  ko_UnknownChannel_ThroughlineError : PySem.W.kitOne K (.ref C_UnknownChannel) (.ref C_ThroughlineError) = some true
  ko_UnknownChannel_InvalidAmount : PySem.W.kitOne K (.ref C_UnknownChannel) (.ref C_InvalidAmount) = some false
  ko_UnknownChannel_UnknownChannel : PySem.W.kitOne K (.ref C_UnknownChannel) (.ref C_UnknownChannel) = some true
  c_Channel : mg "Channel" = some (.ref C_Channel)
  k_Channel : Cls K C_Channel
  n_Channel_number : NoAttr K C_Channel "number"
  n_Channel_announced : NoAttr K C_Channel "announced"
  n_Channel_queue : NoAttr K C_Channel "queue"
  n_Channel_credit : NoAttr K C_Channel "credit"
  n_Channel_finished : NoAttr K C_Channel "finished"
  n_Channel_end_sent : NoAttr K C_Channel "end_sent"
  n_Channel_unread : NoAttr K C_Channel "unread"
  n_Channel_due : NoAttr K C_Channel "due"
  n_Channel_end_came : NoAttr K C_Channel "end_came"
  n_Channel_broken : NoAttr K C_Channel "broken"
  n_Channel_reset_told : NoAttr K C_Channel "reset_told"
  c_Channels : mg "Channels" = some (.ref C_Channels)
  k_Channels : Cls K C_Channels
  n_Channels_failure : NoAttr K C_Channels "failure"
  n_Channels__window : NoAttr K C_Channels "_window"
  n_Channels__most : NoAttr K C_Channels "_most"
  n_Channels__next_here : NoAttr K C_Channels "_next_here"
  n_Channels__next_there : NoAttr K C_Channels "_next_there"
  n_Channels__channels : NoAttr K C_Channels "_channels"
  n_Channels__numbers : NoAttr K C_Channels "_numbers"
  n_Channels__turns : NoAttr K C_Channels "_turns"
  n_Channels__offered : NoAttr K C_Channels "_offered"
  n_Channels__going : NoAttr K C_Channels "_going"
  n_Channels__coming : NoAttr K C_Channels "_coming"
  F_Channel_init__ : FunD K "__init__" "Channel.__init__" (defArgs s_Channel_init__) (defBody s_Channel_init__) (defScope s_Channel_init__) [] [] f_Channel_init__ d_Channel_init__
  mk_Channel : Mk K C_Channel f_Channel_init__
  F_Channel_break_off : Fun K "break_off" "Channel.break_off" s_Channel_break_off f_Channel_break_off d_Channel_break_off
  b_Channel_break_off : Binds K d_Channel_break_off ["self", "place", "code"] []
  a_Channel_break_off : Meth K C_Channel "break_off" f_Channel_break_off
  F_Channels_init__ : FunD K "__init__" "Channels.__init__" (defArgs s_Channels_init__) (defBody s_Channels_init__) (defScope s_Channels_init__) [] [] f_Channels_init__ d_Channels_init__
  mk_Channels : Mk K C_Channels f_Channels_init__
  F_Channels_len__ : Fun K "__len__" "Channels.__len__" s_Channels_len__ f_Channels_len__ d_Channels_len__
  b_Channels_len__ : Binds K d_Channels_len__ ["self"] []
  a_Channels_len__ : Meth K C_Channels "__len__" f_Channels_len__
  F_Channels_iter__ : Fun K "__iter__" "Channels.__iter__" s_Channels_iter__ f_Channels_iter__ d_Channels_iter__
  b_Channels_iter__ : Binds K d_Channels_iter__ ["self"] []
  a_Channels_iter__ : Meth K C_Channels "__iter__" f_Channels_iter__
  F_Channels_open_channel : Fun K "open_channel" "Channels.open_channel" s_Channels_open_channel f_Channels_open_channel d_Channels_open_channel
  b_Channels_open_channel : Binds K d_Channels_open_channel ["self"] []
  a_Channels_open_channel : Meth K C_Channels "open_channel" f_Channels_open_channel
  F_Channels_accept : Fun K "accept" "Channels.accept" s_Channels_accept f_Channels_accept d_Channels_accept
  b_Channels_accept : Binds K d_Channels_accept ["self"] []
  a_Channels_accept : Meth K C_Channels "accept" f_Channels_accept
  F_Channels_write : Fun K "write" "Channels.write" s_Channels_write f_Channels_write d_Channels_write
  b_Channels_write : Binds K d_Channels_write ["self", "channel", "octets"] []
  a_Channels_write : Meth K C_Channels "write" f_Channels_write
  F_Channels_read : Fun K "read" "Channels.read" s_Channels_read f_Channels_read d_Channels_read
  b_Channels_read : Binds K d_Channels_read ["self", "channel", "count"] []
  a_Channels_read : Meth K C_Channels "read" f_Channels_read
  F_Channels_finish : Fun K "finish" "Channels.finish" s_Channels_finish f_Channels_finish d_Channels_finish
  b_Channels_finish : Binds K d_Channels_finish ["self", "channel"] []
  a_Channels_finish : Meth K C_Channels "finish" f_Channels_finish
  F_Channels_reset : Fun K "reset" "Channels.reset" s_Channels_reset f_Channels_reset d_Channels_reset
  b_Channels_reset : Binds K d_Channels_reset ["self", "channel", "code"] []
  a_Channels_reset : Meth K C_Channels "reset" f_Channels_reset
  F_Channels_status : Fun K "status" "Channels.status" s_Channels_status f_Channels_status d_Channels_status
  b_Channels_status : Binds K d_Channels_status ["self", "channel"] []
  a_Channels_status : Meth K C_Channels "status" f_Channels_status
  F_Channels_known : Fun K "_known" "Channels._known" s_Channels_known f_Channels_known d_Channels_known
  b_Channels_known : Binds K d_Channels_known ["self", "number"] []
  a_Channels_known : Meth K C_Channels "_known" f_Channels_known
  F_Channels_add : Fun K "_add" "Channels._add" s_Channels_add f_Channels_add d_Channels_add
  b_Channels_add : Binds K d_Channels_add ["self", "channel"] []
  a_Channels_add : Meth K C_Channels "_add" f_Channels_add
  F_Channels_room_of : Fun K "_room_of" "Channels._room_of" s_Channels_room_of f_Channels_room_of d_Channels_room_of
  b_Channels_room_of : Binds K d_Channels_room_of ["self", "channel"] []
  a_Channels_room_of : Meth K C_Channels "_room_of" f_Channels_room_of
  F_l_cell : Fun K "_law_cell" "_law_cell" s_l_cell f_l_cell d_l_cell
  b_l_cell : Binds K d_l_cell ["script", "k"] []
  m_l_cell : mg "_law_cell" = some (.ref f_l_cell)
  F_l_is_integer : Fun K "_law_is_integer" "_law_is_integer" s_l_is_integer f_l_is_integer d_l_is_integer
  b_l_is_integer : Binds K d_l_is_integer ["told"] []
  m_l_is_integer : mg "_law_is_integer" = some (.ref f_l_is_integer)
  F_l_start : Fun K "_law_start" "_law_start" s_l_start f_l_start d_l_start
  b_l_start : Binds K d_l_start ["cell", "k"] []
  m_l_start : mg "_law_start" = some (.ref f_l_start)
  F_l_digit : Fun K "_law_digit" "_law_digit" s_l_digit f_l_digit d_l_digit
  b_l_digit : Binds K d_l_digit ["state", "many"] []
  m_l_digit : mg "_law_digit" = some (.ref f_l_digit)
  F_l_call : Fun K "_law_call" "_law_call" s_l_call f_l_call d_l_call
  b_l_call : Binds K d_l_call ["side", "name", "args"] []
  m_l_call : mg "_law_call" = some (.ref f_l_call)
  F_l_refused : Fun K "_law_refused" "_law_refused" s_l_refused f_l_refused d_l_refused
  b_l_refused : Binds K d_l_refused ["first", "window", "most"] []
  m_l_refused : mg "_law_refused" = some (.ref f_l_refused)
  F_l_status : Fun K "_law_status" "_law_status" s_l_status f_l_status d_l_status
  b_l_status : Binds K d_l_status ["told", "row", "window"] []
  m_l_status : mg "_law_status" = some (.ref f_l_status)
  F_l_write : Fun K "_law_write" "_law_write" s_l_write f_l_write d_l_write
  b_l_write : Binds K d_l_write ["side", "rows", "number", "octets", "window"] []
  m_l_write : mg "_law_write" = some (.ref f_l_write)
  F_l_reset : Fun K "_law_reset" "_law_reset" s_l_reset f_l_reset d_l_reset
  b_l_reset : Binds K d_l_reset ["side", "rows", "number", "code"] []
  m_l_reset : mg "_law_reset" = some (.ref f_l_reset)
  F_l_read : Fun K "_law_read" "_law_read" s_l_read f_l_read d_l_read
  b_l_read : Binds K d_l_read ["side", "rows", "number", "count"] []
  m_l_read : mg "_law_read" = some (.ref f_l_read)
  F_l_open : Fun K "_law_open" "_law_open" s_l_open f_l_open d_l_open
  b_l_open : Binds K d_l_open ["side", "rows", "turn"] []
  m_l_open : mg "_law_open" = some (.ref f_l_open)
  F_l_step : Fun K "_law_step" "_law_step" s_l_step f_l_step d_l_step
  b_l_step : Binds K d_l_step ["side", "rows", "state", "window", "turn"] []
  m_l_step : mg "_law_step" = some (.ref f_l_step)
  F_law : Fun K "law" "law" s_law f_law d_law
  b_law : Binds K d_law ["script"] []
  m_law : mg "law" = some (.ref f_law)
  cr_Channels : ClX.CRead K C_Channels (.type "type")
  cv_Channels_MOST_CHANNELS : CValE K C_Channels (.type "type") "MOST_CHANNELS" (.int 100)
  n_bool : mg "bool" = none
  n_dict : mg "dict" = none
  n_int : mg "int" = none
  n_isinstance : mg "isinstance" = none
  n_iter : mg "iter" = none
  n_len : mg "len" = none
  n_list : mg "list" = none
  n_max : mg "max" = none
  n_min : mg "min" = none
  n_range : mg "range" = none
  n_sorted : mg "sorted" = none
theorem cvq_Channels_MOST_CHANNELS {K : PySem.W.Frag} {mg : Str → Option Value} {T : Txt P K mg} {A : V → Prop} (q : A (.int 100)) : ∃ C mc v u, V.ref T.C_Channels = .ref C ∧ ClX.CRead K C mc ∧ ClX.CVal K C mc "MOST_CHANNELS" v u ∧ A v := let ⟨u, h⟩ := T.cv_Channels_MOST_CHANNELS
  ⟨_, _, _, u, rfl, T.cr_Channels, h, q⟩
def ky_Channel : List Str := ["number", "announced", "queue", "credit", "finished", "end_sent", "unread", "due", "end_came", "broken", "reset_told"]
theorem nd_Channel : ky_Channel.Nodup := by decide +kernel
section
variable {P : Program} {K : PySem.W.Frag} {mg : Str → Option Value} {T : Txt P K mg} {H : Hp} {a dx : Addr} {vs : List V} {v y : V}
theorem fd_Channel_number {A : V → Prop} (ho : H a = some (.ins T.C_Channel dx (obj ky_Channel vs))) (hv : vs[0]? = some v) (q : A v) : ∃ a' C' dx' fs v', V.ref a = .ref a' ∧ H a' = some (.ins C' dx' fs) ∧ Cls K C' ∧ NoAttr K C' "number" ∧ fs.lookup ("number" : Str) = some v' ∧ A v' := g_fldE ho T.k_Channel T.n_Channel_number nd_Channel rfl hv q
theorem st_Channel_number {A : Hp → Prop} (ho : H a = some (.ins T.C_Channel dx (obj ky_Channel vs))) (hv : 0 < vs.length) (q : A (upd H a (.ins T.C_Channel dx (obj ky_Channel (vs.set 0 y))))) : ∃ a' C' dx' fs, V.ref a = .ref a' ∧ H a' = some (.ins C' dx' fs) ∧ Cls K C' ∧ NoAttr K C' "number" ∧ fs.length < 1000 ∧ A (upd H a' (.ins C' dx' (putF "number" y fs))) := g_putE ho T.k_Channel T.n_Channel_number nd_Channel (by decide) rfl hv q
theorem nw_Channel_number {A : Hp → Prop} (ho : H a = some (.ins T.C_Channel dx (obj ky_Channel vs))) (hv : vs.length = 0) (q : A (upd H a (.ins T.C_Channel dx (obj ky_Channel (vs ++ [y]))))) : ∃ a' C' dx' fs, V.ref a = .ref a' ∧ H a' = some (.ins C' dx' fs) ∧ Cls K C' ∧ NoAttr K C' "number" ∧ fs.length < 1000 ∧ A (upd H a' (.ins C' dx' (putF "number" y fs))) := g_newE ho T.k_Channel T.n_Channel_number nd_Channel (by decide) (by rw [hv]; rfl) q
theorem fd_Channel_announced {A : V → Prop} (ho : H a = some (.ins T.C_Channel dx (obj ky_Channel vs))) (hv : vs[1]? = some v) (q : A v) : ∃ a' C' dx' fs v', V.ref a = .ref a' ∧ H a' = some (.ins C' dx' fs) ∧ Cls K C' ∧ NoAttr K C' "announced" ∧ fs.lookup ("announced" : Str) = some v' ∧ A v' := g_fldE ho T.k_Channel T.n_Channel_announced nd_Channel rfl hv q
theorem st_Channel_announced {A : Hp → Prop} (ho : H a = some (.ins T.C_Channel dx (obj ky_Channel vs))) (hv : 1 < vs.length) (q : A (upd H a (.ins T.C_Channel dx (obj ky_Channel (vs.set 1 y))))) : ∃ a' C' dx' fs, V.ref a = .ref a' ∧ H a' = some (.ins C' dx' fs) ∧ Cls K C' ∧ NoAttr K C' "announced" ∧ fs.length < 1000 ∧ A (upd H a' (.ins C' dx' (putF "announced" y fs))) := g_putE ho T.k_Channel T.n_Channel_announced nd_Channel (by decide) rfl hv q
theorem nw_Channel_announced {A : Hp → Prop} (ho : H a = some (.ins T.C_Channel dx (obj ky_Channel vs))) (hv : vs.length = 1) (q : A (upd H a (.ins T.C_Channel dx (obj ky_Channel (vs ++ [y]))))) : ∃ a' C' dx' fs, V.ref a = .ref a' ∧ H a' = some (.ins C' dx' fs) ∧ Cls K C' ∧ NoAttr K C' "announced" ∧ fs.length < 1000 ∧ A (upd H a' (.ins C' dx' (putF "announced" y fs))) := g_newE ho T.k_Channel T.n_Channel_announced nd_Channel (by decide) (by rw [hv]; rfl) q
theorem fd_Channel_queue {A : V → Prop} (ho : H a = some (.ins T.C_Channel dx (obj ky_Channel vs))) (hv : vs[2]? = some v) (q : A v) : ∃ a' C' dx' fs v', V.ref a = .ref a' ∧ H a' = some (.ins C' dx' fs) ∧ Cls K C' ∧ NoAttr K C' "queue" ∧ fs.lookup ("queue" : Str) = some v' ∧ A v' := g_fldE ho T.k_Channel T.n_Channel_queue nd_Channel rfl hv q
theorem st_Channel_queue {A : Hp → Prop} (ho : H a = some (.ins T.C_Channel dx (obj ky_Channel vs))) (hv : 2 < vs.length) (q : A (upd H a (.ins T.C_Channel dx (obj ky_Channel (vs.set 2 y))))) : ∃ a' C' dx' fs, V.ref a = .ref a' ∧ H a' = some (.ins C' dx' fs) ∧ Cls K C' ∧ NoAttr K C' "queue" ∧ fs.length < 1000 ∧ A (upd H a' (.ins C' dx' (putF "queue" y fs))) := g_putE ho T.k_Channel T.n_Channel_queue nd_Channel (by decide) rfl hv q
theorem nw_Channel_queue {A : Hp → Prop} (ho : H a = some (.ins T.C_Channel dx (obj ky_Channel vs))) (hv : vs.length = 2) (q : A (upd H a (.ins T.C_Channel dx (obj ky_Channel (vs ++ [y]))))) : ∃ a' C' dx' fs, V.ref a = .ref a' ∧ H a' = some (.ins C' dx' fs) ∧ Cls K C' ∧ NoAttr K C' "queue" ∧ fs.length < 1000 ∧ A (upd H a' (.ins C' dx' (putF "queue" y fs))) := g_newE ho T.k_Channel T.n_Channel_queue nd_Channel (by decide) (by rw [hv]; rfl) q
theorem fd_Channel_credit {A : V → Prop} (ho : H a = some (.ins T.C_Channel dx (obj ky_Channel vs))) (hv : vs[3]? = some v) (q : A v) : ∃ a' C' dx' fs v', V.ref a = .ref a' ∧ H a' = some (.ins C' dx' fs) ∧ Cls K C' ∧ NoAttr K C' "credit" ∧ fs.lookup ("credit" : Str) = some v' ∧ A v' := g_fldE ho T.k_Channel T.n_Channel_credit nd_Channel rfl hv q
theorem st_Channel_credit {A : Hp → Prop} (ho : H a = some (.ins T.C_Channel dx (obj ky_Channel vs))) (hv : 3 < vs.length) (q : A (upd H a (.ins T.C_Channel dx (obj ky_Channel (vs.set 3 y))))) : ∃ a' C' dx' fs, V.ref a = .ref a' ∧ H a' = some (.ins C' dx' fs) ∧ Cls K C' ∧ NoAttr K C' "credit" ∧ fs.length < 1000 ∧ A (upd H a' (.ins C' dx' (putF "credit" y fs))) := g_putE ho T.k_Channel T.n_Channel_credit nd_Channel (by decide) rfl hv q
theorem nw_Channel_credit {A : Hp → Prop} (ho : H a = some (.ins T.C_Channel dx (obj ky_Channel vs))) (hv : vs.length = 3) (q : A (upd H a (.ins T.C_Channel dx (obj ky_Channel (vs ++ [y]))))) : ∃ a' C' dx' fs, V.ref a = .ref a' ∧ H a' = some (.ins C' dx' fs) ∧ Cls K C' ∧ NoAttr K C' "credit" ∧ fs.length < 1000 ∧ A (upd H a' (.ins C' dx' (putF "credit" y fs))) := g_newE ho T.k_Channel T.n_Channel_credit nd_Channel (by decide) (by rw [hv]; rfl) q
theorem fd_Channel_finished {A : V → Prop} (ho : H a = some (.ins T.C_Channel dx (obj ky_Channel vs))) (hv : vs[4]? = some v) (q : A v) : ∃ a' C' dx' fs v', V.ref a = .ref a' ∧ H a' = some (.ins C' dx' fs) ∧ Cls K C' ∧ NoAttr K C' "finished" ∧ fs.lookup ("finished" : Str) = some v' ∧ A v' := g_fldE ho T.k_Channel T.n_Channel_finished nd_Channel rfl hv q
theorem st_Channel_finished {A : Hp → Prop} (ho : H a = some (.ins T.C_Channel dx (obj ky_Channel vs))) (hv : 4 < vs.length) (q : A (upd H a (.ins T.C_Channel dx (obj ky_Channel (vs.set 4 y))))) : ∃ a' C' dx' fs, V.ref a = .ref a' ∧ H a' = some (.ins C' dx' fs) ∧ Cls K C' ∧ NoAttr K C' "finished" ∧ fs.length < 1000 ∧ A (upd H a' (.ins C' dx' (putF "finished" y fs))) := g_putE ho T.k_Channel T.n_Channel_finished nd_Channel (by decide) rfl hv q
theorem nw_Channel_finished {A : Hp → Prop} (ho : H a = some (.ins T.C_Channel dx (obj ky_Channel vs))) (hv : vs.length = 4) (q : A (upd H a (.ins T.C_Channel dx (obj ky_Channel (vs ++ [y]))))) : ∃ a' C' dx' fs, V.ref a = .ref a' ∧ H a' = some (.ins C' dx' fs) ∧ Cls K C' ∧ NoAttr K C' "finished" ∧ fs.length < 1000 ∧ A (upd H a' (.ins C' dx' (putF "finished" y fs))) := g_newE ho T.k_Channel T.n_Channel_finished nd_Channel (by decide) (by rw [hv]; rfl) q
theorem fd_Channel_end_sent {A : V → Prop} (ho : H a = some (.ins T.C_Channel dx (obj ky_Channel vs))) (hv : vs[5]? = some v) (q : A v) : ∃ a' C' dx' fs v', V.ref a = .ref a' ∧ H a' = some (.ins C' dx' fs) ∧ Cls K C' ∧ NoAttr K C' "end_sent" ∧ fs.lookup ("end_sent" : Str) = some v' ∧ A v' := g_fldE ho T.k_Channel T.n_Channel_end_sent nd_Channel rfl hv q
theorem st_Channel_end_sent {A : Hp → Prop} (ho : H a = some (.ins T.C_Channel dx (obj ky_Channel vs))) (hv : 5 < vs.length) (q : A (upd H a (.ins T.C_Channel dx (obj ky_Channel (vs.set 5 y))))) : ∃ a' C' dx' fs, V.ref a = .ref a' ∧ H a' = some (.ins C' dx' fs) ∧ Cls K C' ∧ NoAttr K C' "end_sent" ∧ fs.length < 1000 ∧ A (upd H a' (.ins C' dx' (putF "end_sent" y fs))) := g_putE ho T.k_Channel T.n_Channel_end_sent nd_Channel (by decide) rfl hv q
theorem nw_Channel_end_sent {A : Hp → Prop} (ho : H a = some (.ins T.C_Channel dx (obj ky_Channel vs))) (hv : vs.length = 5) (q : A (upd H a (.ins T.C_Channel dx (obj ky_Channel (vs ++ [y]))))) : ∃ a' C' dx' fs, V.ref a = .ref a' ∧ H a' = some (.ins C' dx' fs) ∧ Cls K C' ∧ NoAttr K C' "end_sent" ∧ fs.length < 1000 ∧ A (upd H a' (.ins C' dx' (putF "end_sent" y fs))) := g_newE ho T.k_Channel T.n_Channel_end_sent nd_Channel (by decide) (by rw [hv]; rfl) q
theorem fd_Channel_unread {A : V → Prop} (ho : H a = some (.ins T.C_Channel dx (obj ky_Channel vs))) (hv : vs[6]? = some v) (q : A v) : ∃ a' C' dx' fs v', V.ref a = .ref a' ∧ H a' = some (.ins C' dx' fs) ∧ Cls K C' ∧ NoAttr K C' "unread" ∧ fs.lookup ("unread" : Str) = some v' ∧ A v' := g_fldE ho T.k_Channel T.n_Channel_unread nd_Channel rfl hv q
theorem st_Channel_unread {A : Hp → Prop} (ho : H a = some (.ins T.C_Channel dx (obj ky_Channel vs))) (hv : 6 < vs.length) (q : A (upd H a (.ins T.C_Channel dx (obj ky_Channel (vs.set 6 y))))) : ∃ a' C' dx' fs, V.ref a = .ref a' ∧ H a' = some (.ins C' dx' fs) ∧ Cls K C' ∧ NoAttr K C' "unread" ∧ fs.length < 1000 ∧ A (upd H a' (.ins C' dx' (putF "unread" y fs))) := g_putE ho T.k_Channel T.n_Channel_unread nd_Channel (by decide) rfl hv q
theorem nw_Channel_unread {A : Hp → Prop} (ho : H a = some (.ins T.C_Channel dx (obj ky_Channel vs))) (hv : vs.length = 6) (q : A (upd H a (.ins T.C_Channel dx (obj ky_Channel (vs ++ [y]))))) : ∃ a' C' dx' fs, V.ref a = .ref a' ∧ H a' = some (.ins C' dx' fs) ∧ Cls K C' ∧ NoAttr K C' "unread" ∧ fs.length < 1000 ∧ A (upd H a' (.ins C' dx' (putF "unread" y fs))) := g_newE ho T.k_Channel T.n_Channel_unread nd_Channel (by decide) (by rw [hv]; rfl) q
theorem fd_Channel_due {A : V → Prop} (ho : H a = some (.ins T.C_Channel dx (obj ky_Channel vs))) (hv : vs[7]? = some v) (q : A v) : ∃ a' C' dx' fs v', V.ref a = .ref a' ∧ H a' = some (.ins C' dx' fs) ∧ Cls K C' ∧ NoAttr K C' "due" ∧ fs.lookup ("due" : Str) = some v' ∧ A v' := g_fldE ho T.k_Channel T.n_Channel_due nd_Channel rfl hv q
theorem st_Channel_due {A : Hp → Prop} (ho : H a = some (.ins T.C_Channel dx (obj ky_Channel vs))) (hv : 7 < vs.length) (q : A (upd H a (.ins T.C_Channel dx (obj ky_Channel (vs.set 7 y))))) : ∃ a' C' dx' fs, V.ref a = .ref a' ∧ H a' = some (.ins C' dx' fs) ∧ Cls K C' ∧ NoAttr K C' "due" ∧ fs.length < 1000 ∧ A (upd H a' (.ins C' dx' (putF "due" y fs))) := g_putE ho T.k_Channel T.n_Channel_due nd_Channel (by decide) rfl hv q
theorem nw_Channel_due {A : Hp → Prop} (ho : H a = some (.ins T.C_Channel dx (obj ky_Channel vs))) (hv : vs.length = 7) (q : A (upd H a (.ins T.C_Channel dx (obj ky_Channel (vs ++ [y]))))) : ∃ a' C' dx' fs, V.ref a = .ref a' ∧ H a' = some (.ins C' dx' fs) ∧ Cls K C' ∧ NoAttr K C' "due" ∧ fs.length < 1000 ∧ A (upd H a' (.ins C' dx' (putF "due" y fs))) := g_newE ho T.k_Channel T.n_Channel_due nd_Channel (by decide) (by rw [hv]; rfl) q
theorem fd_Channel_end_came {A : V → Prop} (ho : H a = some (.ins T.C_Channel dx (obj ky_Channel vs))) (hv : vs[8]? = some v) (q : A v) : ∃ a' C' dx' fs v', V.ref a = .ref a' ∧ H a' = some (.ins C' dx' fs) ∧ Cls K C' ∧ NoAttr K C' "end_came" ∧ fs.lookup ("end_came" : Str) = some v' ∧ A v' := g_fldE ho T.k_Channel T.n_Channel_end_came nd_Channel rfl hv q
theorem st_Channel_end_came {A : Hp → Prop} (ho : H a = some (.ins T.C_Channel dx (obj ky_Channel vs))) (hv : 8 < vs.length) (q : A (upd H a (.ins T.C_Channel dx (obj ky_Channel (vs.set 8 y))))) : ∃ a' C' dx' fs, V.ref a = .ref a' ∧ H a' = some (.ins C' dx' fs) ∧ Cls K C' ∧ NoAttr K C' "end_came" ∧ fs.length < 1000 ∧ A (upd H a' (.ins C' dx' (putF "end_came" y fs))) := g_putE ho T.k_Channel T.n_Channel_end_came nd_Channel (by decide) rfl hv q
theorem nw_Channel_end_came {A : Hp → Prop} (ho : H a = some (.ins T.C_Channel dx (obj ky_Channel vs))) (hv : vs.length = 8) (q : A (upd H a (.ins T.C_Channel dx (obj ky_Channel (vs ++ [y]))))) : ∃ a' C' dx' fs, V.ref a = .ref a' ∧ H a' = some (.ins C' dx' fs) ∧ Cls K C' ∧ NoAttr K C' "end_came" ∧ fs.length < 1000 ∧ A (upd H a' (.ins C' dx' (putF "end_came" y fs))) := g_newE ho T.k_Channel T.n_Channel_end_came nd_Channel (by decide) (by rw [hv]; rfl) q
theorem fd_Channel_broken {A : V → Prop} (ho : H a = some (.ins T.C_Channel dx (obj ky_Channel vs))) (hv : vs[9]? = some v) (q : A v) : ∃ a' C' dx' fs v', V.ref a = .ref a' ∧ H a' = some (.ins C' dx' fs) ∧ Cls K C' ∧ NoAttr K C' "broken" ∧ fs.lookup ("broken" : Str) = some v' ∧ A v' := g_fldE ho T.k_Channel T.n_Channel_broken nd_Channel rfl hv q
theorem st_Channel_broken {A : Hp → Prop} (ho : H a = some (.ins T.C_Channel dx (obj ky_Channel vs))) (hv : 9 < vs.length) (q : A (upd H a (.ins T.C_Channel dx (obj ky_Channel (vs.set 9 y))))) : ∃ a' C' dx' fs, V.ref a = .ref a' ∧ H a' = some (.ins C' dx' fs) ∧ Cls K C' ∧ NoAttr K C' "broken" ∧ fs.length < 1000 ∧ A (upd H a' (.ins C' dx' (putF "broken" y fs))) := g_putE ho T.k_Channel T.n_Channel_broken nd_Channel (by decide) rfl hv q
theorem nw_Channel_broken {A : Hp → Prop} (ho : H a = some (.ins T.C_Channel dx (obj ky_Channel vs))) (hv : vs.length = 9) (q : A (upd H a (.ins T.C_Channel dx (obj ky_Channel (vs ++ [y]))))) : ∃ a' C' dx' fs, V.ref a = .ref a' ∧ H a' = some (.ins C' dx' fs) ∧ Cls K C' ∧ NoAttr K C' "broken" ∧ fs.length < 1000 ∧ A (upd H a' (.ins C' dx' (putF "broken" y fs))) := g_newE ho T.k_Channel T.n_Channel_broken nd_Channel (by decide) (by rw [hv]; rfl) q
theorem fd_Channel_reset_told {A : V → Prop} (ho : H a = some (.ins T.C_Channel dx (obj ky_Channel vs))) (hv : vs[10]? = some v) (q : A v) : ∃ a' C' dx' fs v', V.ref a = .ref a' ∧ H a' = some (.ins C' dx' fs) ∧ Cls K C' ∧ NoAttr K C' "reset_told" ∧ fs.lookup ("reset_told" : Str) = some v' ∧ A v' := g_fldE ho T.k_Channel T.n_Channel_reset_told nd_Channel rfl hv q
theorem st_Channel_reset_told {A : Hp → Prop} (ho : H a = some (.ins T.C_Channel dx (obj ky_Channel vs))) (hv : 10 < vs.length) (q : A (upd H a (.ins T.C_Channel dx (obj ky_Channel (vs.set 10 y))))) : ∃ a' C' dx' fs, V.ref a = .ref a' ∧ H a' = some (.ins C' dx' fs) ∧ Cls K C' ∧ NoAttr K C' "reset_told" ∧ fs.length < 1000 ∧ A (upd H a' (.ins C' dx' (putF "reset_told" y fs))) := g_putE ho T.k_Channel T.n_Channel_reset_told nd_Channel (by decide) rfl hv q
theorem nw_Channel_reset_told {A : Hp → Prop} (ho : H a = some (.ins T.C_Channel dx (obj ky_Channel vs))) (hv : vs.length = 10) (q : A (upd H a (.ins T.C_Channel dx (obj ky_Channel (vs ++ [y]))))) : ∃ a' C' dx' fs, V.ref a = .ref a' ∧ H a' = some (.ins C' dx' fs) ∧ Cls K C' ∧ NoAttr K C' "reset_told" ∧ fs.length < 1000 ∧ A (upd H a' (.ins C' dx' (putF "reset_told" y fs))) := g_newE ho T.k_Channel T.n_Channel_reset_told nd_Channel (by decide) (by rw [hv]; rfl) q
theorem me_Channel_break_off {A : Prop} (ho : H a = some (.ins T.C_Channel dx (obj ky_Channel vs))) (q : A) : ∃ a' dx' fs, V.ref a = .ref a' ∧ H a' = some (.ins T.C_Channel dx' fs) ∧ fs.lookup ("break_off" : Str) = none ∧ A := g_methE ho (by decide +kernel) q
end
def ky_Channels : List Str := ["failure", "_window", "_most", "_next_here", "_next_there", "_channels", "_numbers", "_turns", "_offered", "_going", "_coming"]
theorem nd_Channels : ky_Channels.Nodup := by decide +kernel
section
variable {P : Program} {K : PySem.W.Frag} {mg : Str → Option Value} {T : Txt P K mg} {H : Hp} {a dx : Addr} {vs : List V} {v y : V}
theorem fd_Channels_failure {A : V → Prop} (ho : H a = some (.ins T.C_Channels dx (obj ky_Channels vs))) (hv : vs[0]? = some v) (q : A v) : ∃ a' C' dx' fs v', V.ref a = .ref a' ∧ H a' = some (.ins C' dx' fs) ∧ Cls K C' ∧ NoAttr K C' "failure" ∧ fs.lookup ("failure" : Str) = some v' ∧ A v' := g_fldE ho T.k_Channels T.n_Channels_failure nd_Channels rfl hv q
theorem st_Channels_failure {A : Hp → Prop} (ho : H a = some (.ins T.C_Channels dx (obj ky_Channels vs))) (hv : 0 < vs.length) (q : A (upd H a (.ins T.C_Channels dx (obj ky_Channels (vs.set 0 y))))) : ∃ a' C' dx' fs, V.ref a = .ref a' ∧ H a' = some (.ins C' dx' fs) ∧ Cls K C' ∧ NoAttr K C' "failure" ∧ fs.length < 1000 ∧ A (upd H a' (.ins C' dx' (putF "failure" y fs))) := g_putE ho T.k_Channels T.n_Channels_failure nd_Channels (by decide) rfl hv q
theorem nw_Channels_failure {A : Hp → Prop} (ho : H a = some (.ins T.C_Channels dx (obj ky_Channels vs))) (hv : vs.length = 0) (q : A (upd H a (.ins T.C_Channels dx (obj ky_Channels (vs ++ [y]))))) : ∃ a' C' dx' fs, V.ref a = .ref a' ∧ H a' = some (.ins C' dx' fs) ∧ Cls K C' ∧ NoAttr K C' "failure" ∧ fs.length < 1000 ∧ A (upd H a' (.ins C' dx' (putF "failure" y fs))) := g_newE ho T.k_Channels T.n_Channels_failure nd_Channels (by decide) (by rw [hv]; rfl) q
theorem fd_Channels__window {A : V → Prop} (ho : H a = some (.ins T.C_Channels dx (obj ky_Channels vs))) (hv : vs[1]? = some v) (q : A v) : ∃ a' C' dx' fs v', V.ref a = .ref a' ∧ H a' = some (.ins C' dx' fs) ∧ Cls K C' ∧ NoAttr K C' "_window" ∧ fs.lookup ("_window" : Str) = some v' ∧ A v' := g_fldE ho T.k_Channels T.n_Channels__window nd_Channels rfl hv q
theorem st_Channels__window {A : Hp → Prop} (ho : H a = some (.ins T.C_Channels dx (obj ky_Channels vs))) (hv : 1 < vs.length) (q : A (upd H a (.ins T.C_Channels dx (obj ky_Channels (vs.set 1 y))))) : ∃ a' C' dx' fs, V.ref a = .ref a' ∧ H a' = some (.ins C' dx' fs) ∧ Cls K C' ∧ NoAttr K C' "_window" ∧ fs.length < 1000 ∧ A (upd H a' (.ins C' dx' (putF "_window" y fs))) := g_putE ho T.k_Channels T.n_Channels__window nd_Channels (by decide) rfl hv q
theorem nw_Channels__window {A : Hp → Prop} (ho : H a = some (.ins T.C_Channels dx (obj ky_Channels vs))) (hv : vs.length = 1) (q : A (upd H a (.ins T.C_Channels dx (obj ky_Channels (vs ++ [y]))))) : ∃ a' C' dx' fs, V.ref a = .ref a' ∧ H a' = some (.ins C' dx' fs) ∧ Cls K C' ∧ NoAttr K C' "_window" ∧ fs.length < 1000 ∧ A (upd H a' (.ins C' dx' (putF "_window" y fs))) := g_newE ho T.k_Channels T.n_Channels__window nd_Channels (by decide) (by rw [hv]; rfl) q
theorem fd_Channels__most {A : V → Prop} (ho : H a = some (.ins T.C_Channels dx (obj ky_Channels vs))) (hv : vs[2]? = some v) (q : A v) : ∃ a' C' dx' fs v', V.ref a = .ref a' ∧ H a' = some (.ins C' dx' fs) ∧ Cls K C' ∧ NoAttr K C' "_most" ∧ fs.lookup ("_most" : Str) = some v' ∧ A v' := g_fldE ho T.k_Channels T.n_Channels__most nd_Channels rfl hv q
theorem st_Channels__most {A : Hp → Prop} (ho : H a = some (.ins T.C_Channels dx (obj ky_Channels vs))) (hv : 2 < vs.length) (q : A (upd H a (.ins T.C_Channels dx (obj ky_Channels (vs.set 2 y))))) : ∃ a' C' dx' fs, V.ref a = .ref a' ∧ H a' = some (.ins C' dx' fs) ∧ Cls K C' ∧ NoAttr K C' "_most" ∧ fs.length < 1000 ∧ A (upd H a' (.ins C' dx' (putF "_most" y fs))) := g_putE ho T.k_Channels T.n_Channels__most nd_Channels (by decide) rfl hv q
theorem nw_Channels__most {A : Hp → Prop} (ho : H a = some (.ins T.C_Channels dx (obj ky_Channels vs))) (hv : vs.length = 2) (q : A (upd H a (.ins T.C_Channels dx (obj ky_Channels (vs ++ [y]))))) : ∃ a' C' dx' fs, V.ref a = .ref a' ∧ H a' = some (.ins C' dx' fs) ∧ Cls K C' ∧ NoAttr K C' "_most" ∧ fs.length < 1000 ∧ A (upd H a' (.ins C' dx' (putF "_most" y fs))) := g_newE ho T.k_Channels T.n_Channels__most nd_Channels (by decide) (by rw [hv]; rfl) q
theorem fd_Channels__next_here {A : V → Prop} (ho : H a = some (.ins T.C_Channels dx (obj ky_Channels vs))) (hv : vs[3]? = some v) (q : A v) : ∃ a' C' dx' fs v', V.ref a = .ref a' ∧ H a' = some (.ins C' dx' fs) ∧ Cls K C' ∧ NoAttr K C' "_next_here" ∧ fs.lookup ("_next_here" : Str) = some v' ∧ A v' := g_fldE ho T.k_Channels T.n_Channels__next_here nd_Channels rfl hv q
theorem st_Channels__next_here {A : Hp → Prop} (ho : H a = some (.ins T.C_Channels dx (obj ky_Channels vs))) (hv : 3 < vs.length) (q : A (upd H a (.ins T.C_Channels dx (obj ky_Channels (vs.set 3 y))))) : ∃ a' C' dx' fs, V.ref a = .ref a' ∧ H a' = some (.ins C' dx' fs) ∧ Cls K C' ∧ NoAttr K C' "_next_here" ∧ fs.length < 1000 ∧ A (upd H a' (.ins C' dx' (putF "_next_here" y fs))) := g_putE ho T.k_Channels T.n_Channels__next_here nd_Channels (by decide) rfl hv q
theorem nw_Channels__next_here {A : Hp → Prop} (ho : H a = some (.ins T.C_Channels dx (obj ky_Channels vs))) (hv : vs.length = 3) (q : A (upd H a (.ins T.C_Channels dx (obj ky_Channels (vs ++ [y]))))) : ∃ a' C' dx' fs, V.ref a = .ref a' ∧ H a' = some (.ins C' dx' fs) ∧ Cls K C' ∧ NoAttr K C' "_next_here" ∧ fs.length < 1000 ∧ A (upd H a' (.ins C' dx' (putF "_next_here" y fs))) := g_newE ho T.k_Channels T.n_Channels__next_here nd_Channels (by decide) (by rw [hv]; rfl) q
theorem fd_Channels__next_there {A : V → Prop} (ho : H a = some (.ins T.C_Channels dx (obj ky_Channels vs))) (hv : vs[4]? = some v) (q : A v) : ∃ a' C' dx' fs v', V.ref a = .ref a' ∧ H a' = some (.ins C' dx' fs) ∧ Cls K C' ∧ NoAttr K C' "_next_there" ∧ fs.lookup ("_next_there" : Str) = some v' ∧ A v' := g_fldE ho T.k_Channels T.n_Channels__next_there nd_Channels rfl hv q
theorem st_Channels__next_there {A : Hp → Prop} (ho : H a = some (.ins T.C_Channels dx (obj ky_Channels vs))) (hv : 4 < vs.length) (q : A (upd H a (.ins T.C_Channels dx (obj ky_Channels (vs.set 4 y))))) : ∃ a' C' dx' fs, V.ref a = .ref a' ∧ H a' = some (.ins C' dx' fs) ∧ Cls K C' ∧ NoAttr K C' "_next_there" ∧ fs.length < 1000 ∧ A (upd H a' (.ins C' dx' (putF "_next_there" y fs))) := g_putE ho T.k_Channels T.n_Channels__next_there nd_Channels (by decide) rfl hv q
theorem nw_Channels__next_there {A : Hp → Prop} (ho : H a = some (.ins T.C_Channels dx (obj ky_Channels vs))) (hv : vs.length = 4) (q : A (upd H a (.ins T.C_Channels dx (obj ky_Channels (vs ++ [y]))))) : ∃ a' C' dx' fs, V.ref a = .ref a' ∧ H a' = some (.ins C' dx' fs) ∧ Cls K C' ∧ NoAttr K C' "_next_there" ∧ fs.length < 1000 ∧ A (upd H a' (.ins C' dx' (putF "_next_there" y fs))) := g_newE ho T.k_Channels T.n_Channels__next_there nd_Channels (by decide) (by rw [hv]; rfl) q
theorem fd_Channels__channels {A : V → Prop} (ho : H a = some (.ins T.C_Channels dx (obj ky_Channels vs))) (hv : vs[5]? = some v) (q : A v) : ∃ a' C' dx' fs v', V.ref a = .ref a' ∧ H a' = some (.ins C' dx' fs) ∧ Cls K C' ∧ NoAttr K C' "_channels" ∧ fs.lookup ("_channels" : Str) = some v' ∧ A v' := g_fldE ho T.k_Channels T.n_Channels__channels nd_Channels rfl hv q
theorem st_Channels__channels {A : Hp → Prop} (ho : H a = some (.ins T.C_Channels dx (obj ky_Channels vs))) (hv : 5 < vs.length) (q : A (upd H a (.ins T.C_Channels dx (obj ky_Channels (vs.set 5 y))))) : ∃ a' C' dx' fs, V.ref a = .ref a' ∧ H a' = some (.ins C' dx' fs) ∧ Cls K C' ∧ NoAttr K C' "_channels" ∧ fs.length < 1000 ∧ A (upd H a' (.ins C' dx' (putF "_channels" y fs))) := g_putE ho T.k_Channels T.n_Channels__channels nd_Channels (by decide) rfl hv q
theorem nw_Channels__channels {A : Hp → Prop} (ho : H a = some (.ins T.C_Channels dx (obj ky_Channels vs))) (hv : vs.length = 5) (q : A (upd H a (.ins T.C_Channels dx (obj ky_Channels (vs ++ [y]))))) : ∃ a' C' dx' fs, V.ref a = .ref a' ∧ H a' = some (.ins C' dx' fs) ∧ Cls K C' ∧ NoAttr K C' "_channels" ∧ fs.length < 1000 ∧ A (upd H a' (.ins C' dx' (putF "_channels" y fs))) := g_newE ho T.k_Channels T.n_Channels__channels nd_Channels (by decide) (by rw [hv]; rfl) q
theorem fd_Channels__numbers {A : V → Prop} (ho : H a = some (.ins T.C_Channels dx (obj ky_Channels vs))) (hv : vs[6]? = some v) (q : A v) : ∃ a' C' dx' fs v', V.ref a = .ref a' ∧ H a' = some (.ins C' dx' fs) ∧ Cls K C' ∧ NoAttr K C' "_numbers" ∧ fs.lookup ("_numbers" : Str) = some v' ∧ A v' := g_fldE ho T.k_Channels T.n_Channels__numbers nd_Channels rfl hv q
theorem st_Channels__numbers {A : Hp → Prop} (ho : H a = some (.ins T.C_Channels dx (obj ky_Channels vs))) (hv : 6 < vs.length) (q : A (upd H a (.ins T.C_Channels dx (obj ky_Channels (vs.set 6 y))))) : ∃ a' C' dx' fs, V.ref a = .ref a' ∧ H a' = some (.ins C' dx' fs) ∧ Cls K C' ∧ NoAttr K C' "_numbers" ∧ fs.length < 1000 ∧ A (upd H a' (.ins C' dx' (putF "_numbers" y fs))) := g_putE ho T.k_Channels T.n_Channels__numbers nd_Channels (by decide) rfl hv q
theorem nw_Channels__numbers {A : Hp → Prop} (ho : H a = some (.ins T.C_Channels dx (obj ky_Channels vs))) (hv : vs.length = 6) (q : A (upd H a (.ins T.C_Channels dx (obj ky_Channels (vs ++ [y]))))) : ∃ a' C' dx' fs, V.ref a = .ref a' ∧ H a' = some (.ins C' dx' fs) ∧ Cls K C' ∧ NoAttr K C' "_numbers" ∧ fs.length < 1000 ∧ A (upd H a' (.ins C' dx' (putF "_numbers" y fs))) := g_newE ho T.k_Channels T.n_Channels__numbers nd_Channels (by decide) (by rw [hv]; rfl) q
theorem fd_Channels__turns {A : V → Prop} (ho : H a = some (.ins T.C_Channels dx (obj ky_Channels vs))) (hv : vs[7]? = some v) (q : A v) : ∃ a' C' dx' fs v', V.ref a = .ref a' ∧ H a' = some (.ins C' dx' fs) ∧ Cls K C' ∧ NoAttr K C' "_turns" ∧ fs.lookup ("_turns" : Str) = some v' ∧ A v' := g_fldE ho T.k_Channels T.n_Channels__turns nd_Channels rfl hv q
theorem st_Channels__turns {A : Hp → Prop} (ho : H a = some (.ins T.C_Channels dx (obj ky_Channels vs))) (hv : 7 < vs.length) (q : A (upd H a (.ins T.C_Channels dx (obj ky_Channels (vs.set 7 y))))) : ∃ a' C' dx' fs, V.ref a = .ref a' ∧ H a' = some (.ins C' dx' fs) ∧ Cls K C' ∧ NoAttr K C' "_turns" ∧ fs.length < 1000 ∧ A (upd H a' (.ins C' dx' (putF "_turns" y fs))) := g_putE ho T.k_Channels T.n_Channels__turns nd_Channels (by decide) rfl hv q
theorem nw_Channels__turns {A : Hp → Prop} (ho : H a = some (.ins T.C_Channels dx (obj ky_Channels vs))) (hv : vs.length = 7) (q : A (upd H a (.ins T.C_Channels dx (obj ky_Channels (vs ++ [y]))))) : ∃ a' C' dx' fs, V.ref a = .ref a' ∧ H a' = some (.ins C' dx' fs) ∧ Cls K C' ∧ NoAttr K C' "_turns" ∧ fs.length < 1000 ∧ A (upd H a' (.ins C' dx' (putF "_turns" y fs))) := g_newE ho T.k_Channels T.n_Channels__turns nd_Channels (by decide) (by rw [hv]; rfl) q
theorem fd_Channels__offered {A : V → Prop} (ho : H a = some (.ins T.C_Channels dx (obj ky_Channels vs))) (hv : vs[8]? = some v) (q : A v) : ∃ a' C' dx' fs v', V.ref a = .ref a' ∧ H a' = some (.ins C' dx' fs) ∧ Cls K C' ∧ NoAttr K C' "_offered" ∧ fs.lookup ("_offered" : Str) = some v' ∧ A v' := g_fldE ho T.k_Channels T.n_Channels__offered nd_Channels rfl hv q
theorem st_Channels__offered {A : Hp → Prop} (ho : H a = some (.ins T.C_Channels dx (obj ky_Channels vs))) (hv : 8 < vs.length) (q : A (upd H a (.ins T.C_Channels dx (obj ky_Channels (vs.set 8 y))))) : ∃ a' C' dx' fs, V.ref a = .ref a' ∧ H a' = some (.ins C' dx' fs) ∧ Cls K C' ∧ NoAttr K C' "_offered" ∧ fs.length < 1000 ∧ A (upd H a' (.ins C' dx' (putF "_offered" y fs))) := g_putE ho T.k_Channels T.n_Channels__offered nd_Channels (by decide) rfl hv q
theorem nw_Channels__offered {A : Hp → Prop} (ho : H a = some (.ins T.C_Channels dx (obj ky_Channels vs))) (hv : vs.length = 8) (q : A (upd H a (.ins T.C_Channels dx (obj ky_Channels (vs ++ [y]))))) : ∃ a' C' dx' fs, V.ref a = .ref a' ∧ H a' = some (.ins C' dx' fs) ∧ Cls K C' ∧ NoAttr K C' "_offered" ∧ fs.length < 1000 ∧ A (upd H a' (.ins C' dx' (putF "_offered" y fs))) := g_newE ho T.k_Channels T.n_Channels__offered nd_Channels (by decide) (by rw [hv]; rfl) q
theorem fd_Channels__going {A : V → Prop} (ho : H a = some (.ins T.C_Channels dx (obj ky_Channels vs))) (hv : vs[9]? = some v) (q : A v) : ∃ a' C' dx' fs v', V.ref a = .ref a' ∧ H a' = some (.ins C' dx' fs) ∧ Cls K C' ∧ NoAttr K C' "_going" ∧ fs.lookup ("_going" : Str) = some v' ∧ A v' := g_fldE ho T.k_Channels T.n_Channels__going nd_Channels rfl hv q
theorem st_Channels__going {A : Hp → Prop} (ho : H a = some (.ins T.C_Channels dx (obj ky_Channels vs))) (hv : 9 < vs.length) (q : A (upd H a (.ins T.C_Channels dx (obj ky_Channels (vs.set 9 y))))) : ∃ a' C' dx' fs, V.ref a = .ref a' ∧ H a' = some (.ins C' dx' fs) ∧ Cls K C' ∧ NoAttr K C' "_going" ∧ fs.length < 1000 ∧ A (upd H a' (.ins C' dx' (putF "_going" y fs))) := g_putE ho T.k_Channels T.n_Channels__going nd_Channels (by decide) rfl hv q
theorem nw_Channels__going {A : Hp → Prop} (ho : H a = some (.ins T.C_Channels dx (obj ky_Channels vs))) (hv : vs.length = 9) (q : A (upd H a (.ins T.C_Channels dx (obj ky_Channels (vs ++ [y]))))) : ∃ a' C' dx' fs, V.ref a = .ref a' ∧ H a' = some (.ins C' dx' fs) ∧ Cls K C' ∧ NoAttr K C' "_going" ∧ fs.length < 1000 ∧ A (upd H a' (.ins C' dx' (putF "_going" y fs))) := g_newE ho T.k_Channels T.n_Channels__going nd_Channels (by decide) (by rw [hv]; rfl) q
theorem fd_Channels__coming {A : V → Prop} (ho : H a = some (.ins T.C_Channels dx (obj ky_Channels vs))) (hv : vs[10]? = some v) (q : A v) : ∃ a' C' dx' fs v', V.ref a = .ref a' ∧ H a' = some (.ins C' dx' fs) ∧ Cls K C' ∧ NoAttr K C' "_coming" ∧ fs.lookup ("_coming" : Str) = some v' ∧ A v' := g_fldE ho T.k_Channels T.n_Channels__coming nd_Channels rfl hv q
theorem st_Channels__coming {A : Hp → Prop} (ho : H a = some (.ins T.C_Channels dx (obj ky_Channels vs))) (hv : 10 < vs.length) (q : A (upd H a (.ins T.C_Channels dx (obj ky_Channels (vs.set 10 y))))) : ∃ a' C' dx' fs, V.ref a = .ref a' ∧ H a' = some (.ins C' dx' fs) ∧ Cls K C' ∧ NoAttr K C' "_coming" ∧ fs.length < 1000 ∧ A (upd H a' (.ins C' dx' (putF "_coming" y fs))) := g_putE ho T.k_Channels T.n_Channels__coming nd_Channels (by decide) rfl hv q
theorem nw_Channels__coming {A : Hp → Prop} (ho : H a = some (.ins T.C_Channels dx (obj ky_Channels vs))) (hv : vs.length = 10) (q : A (upd H a (.ins T.C_Channels dx (obj ky_Channels (vs ++ [y]))))) : ∃ a' C' dx' fs, V.ref a = .ref a' ∧ H a' = some (.ins C' dx' fs) ∧ Cls K C' ∧ NoAttr K C' "_coming" ∧ fs.length < 1000 ∧ A (upd H a' (.ins C' dx' (putF "_coming" y fs))) := g_newE ho T.k_Channels T.n_Channels__coming nd_Channels (by decide) (by rw [hv]; rfl) q
theorem me_Channels_len__ {A : Prop} (ho : H a = some (.ins T.C_Channels dx (obj ky_Channels vs))) (q : A) : ∃ a' dx' fs, V.ref a = .ref a' ∧ H a' = some (.ins T.C_Channels dx' fs) ∧ fs.lookup ("__len__" : Str) = none ∧ A := g_methE ho (by decide +kernel) q
theorem me_Channels_iter__ {A : Prop} (ho : H a = some (.ins T.C_Channels dx (obj ky_Channels vs))) (q : A) : ∃ a' dx' fs, V.ref a = .ref a' ∧ H a' = some (.ins T.C_Channels dx' fs) ∧ fs.lookup ("__iter__" : Str) = none ∧ A := g_methE ho (by decide +kernel) q
theorem me_Channels_open_channel {A : Prop} (ho : H a = some (.ins T.C_Channels dx (obj ky_Channels vs))) (q : A) : ∃ a' dx' fs, V.ref a = .ref a' ∧ H a' = some (.ins T.C_Channels dx' fs) ∧ fs.lookup ("open_channel" : Str) = none ∧ A := g_methE ho (by decide +kernel) q
theorem me_Channels_accept {A : Prop} (ho : H a = some (.ins T.C_Channels dx (obj ky_Channels vs))) (q : A) : ∃ a' dx' fs, V.ref a = .ref a' ∧ H a' = some (.ins T.C_Channels dx' fs) ∧ fs.lookup ("accept" : Str) = none ∧ A := g_methE ho (by decide +kernel) q
theorem me_Channels_write {A : Prop} (ho : H a = some (.ins T.C_Channels dx (obj ky_Channels vs))) (q : A) : ∃ a' dx' fs, V.ref a = .ref a' ∧ H a' = some (.ins T.C_Channels dx' fs) ∧ fs.lookup ("write" : Str) = none ∧ A := g_methE ho (by decide +kernel) q
theorem me_Channels_read {A : Prop} (ho : H a = some (.ins T.C_Channels dx (obj ky_Channels vs))) (q : A) : ∃ a' dx' fs, V.ref a = .ref a' ∧ H a' = some (.ins T.C_Channels dx' fs) ∧ fs.lookup ("read" : Str) = none ∧ A := g_methE ho (by decide +kernel) q
theorem me_Channels_finish {A : Prop} (ho : H a = some (.ins T.C_Channels dx (obj ky_Channels vs))) (q : A) : ∃ a' dx' fs, V.ref a = .ref a' ∧ H a' = some (.ins T.C_Channels dx' fs) ∧ fs.lookup ("finish" : Str) = none ∧ A := g_methE ho (by decide +kernel) q
theorem me_Channels_reset {A : Prop} (ho : H a = some (.ins T.C_Channels dx (obj ky_Channels vs))) (q : A) : ∃ a' dx' fs, V.ref a = .ref a' ∧ H a' = some (.ins T.C_Channels dx' fs) ∧ fs.lookup ("reset" : Str) = none ∧ A := g_methE ho (by decide +kernel) q
theorem me_Channels_status {A : Prop} (ho : H a = some (.ins T.C_Channels dx (obj ky_Channels vs))) (q : A) : ∃ a' dx' fs, V.ref a = .ref a' ∧ H a' = some (.ins T.C_Channels dx' fs) ∧ fs.lookup ("status" : Str) = none ∧ A := g_methE ho (by decide +kernel) q
theorem me_Channels_known {A : Prop} (ho : H a = some (.ins T.C_Channels dx (obj ky_Channels vs))) (q : A) : ∃ a' dx' fs, V.ref a = .ref a' ∧ H a' = some (.ins T.C_Channels dx' fs) ∧ fs.lookup ("_known" : Str) = none ∧ A := g_methE ho (by decide +kernel) q
theorem me_Channels_add {A : Prop} (ho : H a = some (.ins T.C_Channels dx (obj ky_Channels vs))) (q : A) : ∃ a' dx' fs, V.ref a = .ref a' ∧ H a' = some (.ins T.C_Channels dx' fs) ∧ fs.lookup ("_add" : Str) = none ∧ A := g_methE ho (by decide +kernel) q
theorem me_Channels_room_of {A : Prop} (ho : H a = some (.ins T.C_Channels dx (obj ky_Channels vs))) (q : A) : ∃ a' dx' fs, V.ref a = .ref a' ∧ H a' = some (.ins T.C_Channels dx' fs) ∧ fs.lookup ("_room_of" : Str) = none ∧ A := g_methE ho (by decide +kernel) q
end
local macro_rules | `(tactic| walk_at "use") => `(tactic| first | ((with_reducible refine' fd_Channel_number ?ho_ ?hv_ ?_); (case ho_ => first | assumption | exact upd_same); (case hv_ => exact rfl)) | ((with_reducible refine' fd_Channel_announced ?ho_ ?hv_ ?_); (case ho_ => first | assumption | exact upd_same); (case hv_ => exact rfl)) | ((with_reducible refine' fd_Channel_queue ?ho_ ?hv_ ?_); (case ho_ => first | assumption | exact upd_same); (case hv_ => exact rfl)) | ((with_reducible refine' fd_Channel_credit ?ho_ ?hv_ ?_); (case ho_ => first | assumption | exact upd_same); (case hv_ => exact rfl)) | ((with_reducible refine' fd_Channel_finished ?ho_ ?hv_ ?_); (case ho_ => first | assumption | exact upd_same); (case hv_ => exact rfl)) | ((with_reducible refine' fd_Channel_end_sent ?ho_ ?hv_ ?_); (case ho_ => first | assumption | exact upd_same); (case hv_ => exact rfl)) | ((with_reducible refine' fd_Channel_unread ?ho_ ?hv_ ?_); (case ho_ => first | assumption | exact upd_same); (case hv_ => exact rfl)) | ((with_reducible refine' fd_Channel_due ?ho_ ?hv_ ?_); (case ho_ => first | assumption | exact upd_same); (case hv_ => exact rfl)) | ((with_reducible refine' fd_Channel_end_came ?ho_ ?hv_ ?_); (case ho_ => first | assumption | exact upd_same); (case hv_ => exact rfl)) | ((with_reducible refine' fd_Channel_broken ?ho_ ?hv_ ?_); (case ho_ => first | assumption | exact upd_same); (case hv_ => exact rfl)) | ((with_reducible refine' fd_Channel_reset_told ?ho_ ?hv_ ?_); (case ho_ => first | assumption | exact upd_same); (case hv_ => exact rfl)) | ((with_reducible refine' nw_Channel_number ?ho_ ?hv_ ?_); (case ho_ => first | assumption | exact upd_same); (case hv_ => exact rfl)) | ((with_reducible refine' nw_Channel_announced ?ho_ ?hv_ ?_); (case ho_ => first | assumption | exact upd_same); (case hv_ => exact rfl)) | ((with_reducible refine' nw_Channel_queue ?ho_ ?hv_ ?_); (case ho_ => first | assumption | exact upd_same); (case hv_ => exact rfl)) | ((with_reducible refine' nw_Channel_credit ?ho_ ?hv_ ?_); (case ho_ => first | assumption | exact upd_same); (case hv_ => exact rfl)) | ((with_reducible refine' nw_Channel_finished ?ho_ ?hv_ ?_); (case ho_ => first | assumption | exact upd_same); (case hv_ => exact rfl)) | ((with_reducible refine' nw_Channel_end_sent ?ho_ ?hv_ ?_); (case ho_ => first | assumption | exact upd_same); (case hv_ => exact rfl)) | ((with_reducible refine' nw_Channel_unread ?ho_ ?hv_ ?_); (case ho_ => first | assumption | exact upd_same); (case hv_ => exact rfl)) | ((with_reducible refine' nw_Channel_due ?ho_ ?hv_ ?_); (case ho_ => first | assumption | exact upd_same); (case hv_ => exact rfl)) | ((with_reducible refine' nw_Channel_end_came ?ho_ ?hv_ ?_); (case ho_ => first | assumption | exact upd_same); (case hv_ => exact rfl)) | ((with_reducible refine' nw_Channel_broken ?ho_ ?hv_ ?_); (case ho_ => first | assumption | exact upd_same); (case hv_ => exact rfl)) | ((with_reducible refine' nw_Channel_reset_told ?ho_ ?hv_ ?_); (case ho_ => first | assumption | exact upd_same); (case hv_ => exact rfl)) | ((with_reducible refine' st_Channel_number ?ho_ ?hv_ ?_); (case ho_ => first | assumption | exact upd_same); (case hv_ => exact Nat.le_of_ble_eq_true rfl)) | ((with_reducible refine' st_Channel_announced ?ho_ ?hv_ ?_); (case ho_ => first | assumption | exact upd_same); (case hv_ => exact Nat.le_of_ble_eq_true rfl)) | ((with_reducible refine' st_Channel_queue ?ho_ ?hv_ ?_); (case ho_ => first | assumption | exact upd_same); (case hv_ => exact Nat.le_of_ble_eq_true rfl)) | ((with_reducible refine' st_Channel_credit ?ho_ ?hv_ ?_); (case ho_ => first | assumption | exact upd_same); (case hv_ => exact Nat.le_of_ble_eq_true rfl)) | ((with_reducible refine' st_Channel_finished ?ho_ ?hv_ ?_); (case ho_ => first | assumption | exact upd_same); (case hv_ => exact Nat.le_of_ble_eq_true rfl)) | ((with_reducible refine' st_Channel_end_sent ?ho_ ?hv_ ?_); (case ho_ => first | assumption | exact upd_same); (case hv_ => exact Nat.le_of_ble_eq_true rfl)) | ((with_reducible refine' st_Channel_unread ?ho_ ?hv_ ?_); (case ho_ => first | assumption | exact upd_same); (case hv_ => exact Nat.le_of_ble_eq_true rfl)) | ((with_reducible refine' st_Channel_due ?ho_ ?hv_ ?_); (case ho_ => first | assumption | exact upd_same); (case hv_ => exact Nat.le_of_ble_eq_true rfl)) | ((with_reducible refine' st_Channel_end_came ?ho_ ?hv_ ?_); (case ho_ => first | assumption | exact upd_same); (case hv_ => exact Nat.le_of_ble_eq_true rfl)) | ((with_reducible refine' st_Channel_broken ?ho_ ?hv_ ?_); (case ho_ => first | assumption | exact upd_same); (case hv_ => exact Nat.le_of_ble_eq_true rfl)) | ((with_reducible refine' st_Channel_reset_told ?ho_ ?hv_ ?_); (case ho_ => first | assumption | exact upd_same); (case hv_ => exact Nat.le_of_ble_eq_true rfl)) | ((with_reducible refine' me_Channel_break_off ?ho_ ?_); (case ho_ => first | assumption | exact upd_same)))
local macro_rules | `(tactic| walk_at "use") => `(tactic| first | ((with_reducible refine' fd_Channels_failure ?ho_ ?hv_ ?_); (case ho_ => first | assumption | exact upd_same); (case hv_ => exact rfl)) | ((with_reducible refine' fd_Channels__window ?ho_ ?hv_ ?_); (case ho_ => first | assumption | exact upd_same); (case hv_ => exact rfl)) | ((with_reducible refine' fd_Channels__most ?ho_ ?hv_ ?_); (case ho_ => first | assumption | exact upd_same); (case hv_ => exact rfl)) | ((with_reducible refine' fd_Channels__next_here ?ho_ ?hv_ ?_); (case ho_ => first | assumption | exact upd_same); (case hv_ => exact rfl)) | ((with_reducible refine' fd_Channels__next_there ?ho_ ?hv_ ?_); (case ho_ => first | assumption | exact upd_same); (case hv_ => exact rfl)) | ((with_reducible refine' fd_Channels__channels ?ho_ ?hv_ ?_); (case ho_ => first | assumption | exact upd_same); (case hv_ => exact rfl)) | ((with_reducible refine' fd_Channels__numbers ?ho_ ?hv_ ?_); (case ho_ => first | assumption | exact upd_same); (case hv_ => exact rfl)) | ((with_reducible refine' fd_Channels__turns ?ho_ ?hv_ ?_); (case ho_ => first | assumption | exact upd_same); (case hv_ => exact rfl)) | ((with_reducible refine' fd_Channels__offered ?ho_ ?hv_ ?_); (case ho_ => first | assumption | exact upd_same); (case hv_ => exact rfl)) | ((with_reducible refine' fd_Channels__going ?ho_ ?hv_ ?_); (case ho_ => first | assumption | exact upd_same); (case hv_ => exact rfl)) | ((with_reducible refine' fd_Channels__coming ?ho_ ?hv_ ?_); (case ho_ => first | assumption | exact upd_same); (case hv_ => exact rfl)) | ((with_reducible refine' nw_Channels_failure ?ho_ ?hv_ ?_); (case ho_ => first | assumption | exact upd_same); (case hv_ => exact rfl)) | ((with_reducible refine' nw_Channels__window ?ho_ ?hv_ ?_); (case ho_ => first | assumption | exact upd_same); (case hv_ => exact rfl)) | ((with_reducible refine' nw_Channels__most ?ho_ ?hv_ ?_); (case ho_ => first | assumption | exact upd_same); (case hv_ => exact rfl)) | ((with_reducible refine' nw_Channels__next_here ?ho_ ?hv_ ?_); (case ho_ => first | assumption | exact upd_same); (case hv_ => exact rfl)) | ((with_reducible refine' nw_Channels__next_there ?ho_ ?hv_ ?_); (case ho_ => first | assumption | exact upd_same); (case hv_ => exact rfl)) | ((with_reducible refine' nw_Channels__channels ?ho_ ?hv_ ?_); (case ho_ => first | assumption | exact upd_same); (case hv_ => exact rfl)) | ((with_reducible refine' nw_Channels__numbers ?ho_ ?hv_ ?_); (case ho_ => first | assumption | exact upd_same); (case hv_ => exact rfl)) | ((with_reducible refine' nw_Channels__turns ?ho_ ?hv_ ?_); (case ho_ => first | assumption | exact upd_same); (case hv_ => exact rfl)) | ((with_reducible refine' nw_Channels__offered ?ho_ ?hv_ ?_); (case ho_ => first | assumption | exact upd_same); (case hv_ => exact rfl)) | ((with_reducible refine' nw_Channels__going ?ho_ ?hv_ ?_); (case ho_ => first | assumption | exact upd_same); (case hv_ => exact rfl)) | ((with_reducible refine' nw_Channels__coming ?ho_ ?hv_ ?_); (case ho_ => first | assumption | exact upd_same); (case hv_ => exact rfl)) | ((with_reducible refine' st_Channels_failure ?ho_ ?hv_ ?_); (case ho_ => first | assumption | exact upd_same); (case hv_ => exact Nat.le_of_ble_eq_true rfl)) | ((with_reducible refine' st_Channels__window ?ho_ ?hv_ ?_); (case ho_ => first | assumption | exact upd_same); (case hv_ => exact Nat.le_of_ble_eq_true rfl)) | ((with_reducible refine' st_Channels__most ?ho_ ?hv_ ?_); (case ho_ => first | assumption | exact upd_same); (case hv_ => exact Nat.le_of_ble_eq_true rfl)) | ((with_reducible refine' st_Channels__next_here ?ho_ ?hv_ ?_); (case ho_ => first | assumption | exact upd_same); (case hv_ => exact Nat.le_of_ble_eq_true rfl)) | ((with_reducible refine' st_Channels__next_there ?ho_ ?hv_ ?_); (case ho_ => first | assumption | exact upd_same); (case hv_ => exact Nat.le_of_ble_eq_true rfl)) | ((with_reducible refine' st_Channels__channels ?ho_ ?hv_ ?_); (case ho_ => first | assumption | exact upd_same); (case hv_ => exact Nat.le_of_ble_eq_true rfl)) | ((with_reducible refine' st_Channels__numbers ?ho_ ?hv_ ?_); (case ho_ => first | assumption | exact upd_same); (case hv_ => exact Nat.le_of_ble_eq_true rfl)) | ((with_reducible refine' st_Channels__turns ?ho_ ?hv_ ?_); (case ho_ => first | assumption | exact upd_same); (case hv_ => exact Nat.le_of_ble_eq_true rfl)) | ((with_reducible refine' st_Channels__offered ?ho_ ?hv_ ?_); (case ho_ => first | assumption | exact upd_same); (case hv_ => exact Nat.le_of_ble_eq_true rfl)) | ((with_reducible refine' st_Channels__going ?ho_ ?hv_ ?_); (case ho_ => first | assumption | exact upd_same); (case hv_ => exact Nat.le_of_ble_eq_true rfl)) | ((with_reducible refine' st_Channels__coming ?ho_ ?hv_ ?_); (case ho_ => first | assumption | exact upd_same); (case hv_ => exact Nat.le_of_ble_eq_true rfl)) | ((with_reducible refine' me_Channels_len__ ?ho_ ?_); (case ho_ => first | assumption | exact upd_same)) | ((with_reducible refine' me_Channels_iter__ ?ho_ ?_); (case ho_ => first | assumption | exact upd_same)) | ((with_reducible refine' me_Channels_open_channel ?ho_ ?_); (case ho_ => first | assumption | exact upd_same)) | ((with_reducible refine' me_Channels_accept ?ho_ ?_); (case ho_ => first | assumption | exact upd_same)) | ((with_reducible refine' me_Channels_write ?ho_ ?_); (case ho_ => first | assumption | exact upd_same)) | ((with_reducible refine' me_Channels_read ?ho_ ?_); (case ho_ => first | assumption | exact upd_same)) | ((with_reducible refine' me_Channels_finish ?ho_ ?_); (case ho_ => first | assumption | exact upd_same)) | ((with_reducible refine' me_Channels_reset ?ho_ ?_); (case ho_ => first | assumption | exact upd_same)) | ((with_reducible refine' me_Channels_status ?ho_ ?_); (case ho_ => first | assumption | exact upd_same)) | ((with_reducible refine' me_Channels_known ?ho_ ?_); (case ho_ => first | assumption | exact upd_same)) | ((with_reducible refine' me_Channels_add ?ho_ ?_); (case ho_ => first | assumption | exact upd_same)) | ((with_reducible refine' me_Channels_room_of ?ho_ ?_); (case ho_ => first | assumption | exact upd_same)))
/-! ### dicts with written texts as keys, by place -/
def dk (ks : List Str) (vs : List V) : List (Key × V) := (obj ks vs).map fun p => (Sum.inr p.1, p.2)
theorem val_map : ∀ {l : List (Str × V)} {k : Str}, valV (l.map fun p => ((Sum.inr p.1 : Key), p.2)) (.inr k) = l.lookup k
  | [], _ => rfl
  | p :: r, k => by
    by_cases e : k = p.1
    · subst e
      rw [List.map_cons, valV_pos (p := ((Sum.inr p.1 : Key), p.2)) rfl, List.lookup_cons_self]
    · rw [List.map_cons, valV_neg (p := ((Sum.inr p.1 : Key), p.2)) (fun z => e (Sum.inr.inj z).symm), List.lookup_cons, beq_eq_false_iff_ne.mpr e]
      exact val_map
theorem g_dgetT {td ty : TE} {σ : St} {H : Hp} {Q : VK} (h : td σ H fun x H1 => ty σ H1 fun y H2 => ∃ a v, x = .ref a ∧ DGet H2 a y (some v) ∧ Q v H2) : tDGet td ty σ H Q := h
theorem g_dputT {td ty tv : TE} {D : Ends} {σ : St} {H : Hp} (h : tv σ H fun v H1 => td σ H1 fun x H2 => ty σ H2 fun y H3 => ∃ a H4, x = .ref a ∧ DPut H3 a y v H4 ∧ D.nx σ H4) : sDPut td ty tv D σ H := h
theorem g_dget {H : Hp} {a : Addr} {ks : List Str} {vs : List V} {i : Nat} {k : Str} {v : V} {A : V → Prop} (ho : H a = some (.dK (dk ks vs))) (nd : ks.Nodup) (hk : ks[i]? = some k) (hv : vs[i]? = some v) (q : A v) : ∃ a' v', V.ref a = .ref a' ∧ DGet H a' (.str k) (some v') ∧ A v' := by
  refine ⟨a, v, rfl, ?_, q⟩
  have z := DGet.k (k := .inr k) ho
  rw [show valV (dk ks vs) (.inr k) = some v by unfold dk; rw [val_map, obj_get nd hk, hv]] at z
  exact z
theorem map_any {l : List (Str × V)} {k : Str} : ((l.map fun p => ((Sum.inr p.1 : Key), p.2)).any fun kv => decide (kv.1 = .inr k)) = (l.lookup k).isSome := by
  rw [valV_any, val_map]
theorem dk_put {ks : List Str} {vs : List V} {i : Nat} {k : Str} {y : V} (nd : ks.Nodup) (hk : ks[i]? = some k) (hv : i < vs.length) : putK (dk ks vs) (.inr k) y = dk ks (vs.set i y) := by
  have e1 : ((dk ks vs).any fun kv => decide (kv.1 = .inr k)) = true := by
    unfold dk
    rw [map_any, obj_get nd hk, List.getElem?_eq_getElem hv]
    rfl
  have e2 : dk ks (vs.set i y) = (putF k y (obj ks vs)).map fun p => ((Sum.inr p.1 : Key), p.2) := by rw [obj_put nd hk hv]; rfl
  rw [e2]
  unfold putK
  rw [if_pos e1]
  clear e1 e2
  unfold dk
  have nk : ((obj ks vs).map (·.1)).Nodup := by
    clear hv hk
    induction ks generalizing vs with
    | nil => exact List.nodup_nil
    | cons k0 ks ih =>
      cases vs with
      | nil => exact List.nodup_nil
      | cons v vs =>
        have nd' := List.nodup_cons.mp nd
        refine List.nodup_cons.mpr ⟨fun z => nd'.1 ?_, ih nd'.2⟩
        clear ih nd nd'
        induction ks generalizing vs with
        | nil => simp [obj] at z
        | cons k1 ks ih2 =>
          cases vs with
          | nil => simp [obj] at z
          | cons v1 vs =>
            rcases List.mem_cons.mp z with e | z
            · rw [show k0 = k1 from e]; exact List.mem_cons_self ..
            · exact List.mem_cons_of_mem _ (ih2 (vs := vs) z)
  have hm : k ∈ (obj ks vs).map (·.1) := by
    have : ((obj ks vs).lookup k).isSome = true := by rw [obj_get nd hk, List.getElem?_eq_getElem hv]; rfl
    clear nk hv hk nd
    generalize obj ks vs = l at this ⊢
    induction l with
    | nil => cases this
    | cons p r ih =>
      by_cases e : k = p.1
      · rw [e]; exact List.mem_cons_self ..
      · rw [List.lookup_cons, beq_eq_false_iff_ne.mpr e] at this
        exact List.mem_cons_of_mem _ (ih this)
  generalize obj ks vs = l at nk hm ⊢
  clear nd hk hv
  induction l with
  | nil => cases hm
  | cons p r ih =>
    obtain ⟨n1, n2⟩ := List.nodup_cons.mp nk
    show _ = (if p.1 = k then (p.1, y) :: r else p :: putF k y r).map _
    by_cases e : p.1 = k
    · rw [if_pos e, List.map_cons, List.map_cons, List.map_cons]
      subst e
      rw [if_pos rfl]
      congr 1
      rw [List.map_map]
      refine List.map_congr_left fun q hq => ?_
      show (if (Sum.inr q.1 : Key) = Sum.inr p.1 then ((Sum.inr q.1 : Key), y) else (Sum.inr q.1, q.2)) = (Sum.inr q.1, q.2)
      rw [if_neg]
      intro z
      have w : p.1 ∈ r.map (·.1) := by
        rw [← Sum.inr.inj z]
        exact List.mem_map_of_mem (f := (·.1)) hq
      exact n1 w
    · rw [if_neg e, List.map_cons, List.map_cons, List.map_cons, if_neg (fun z => e (Sum.inr.inj z))]
      congr 1
      refine ih n2 ?_
      rcases List.mem_cons.mp hm with z | z
      · exact absurd z.symm e
      · exact z
theorem dk_new {ks : List Str} {vs : List V} {k : Str} {y : V} (nd : ks.Nodup) (hk : ks[vs.length]? = some k) : putK (dk ks vs) (.inr k) y = dk ks (vs ++ [y]) := by
  have e0 : (obj ks vs).lookup k = none := by rw [obj_get nd hk, List.getElem?_eq_none (Nat.le_refl _)]
  have e1 : ((dk ks vs).any fun kv => decide (kv.1 = .inr k)) = false := by
    unfold dk
    rw [map_any, e0]
    rfl
  unfold putK
  rw [e1, if_neg (by decide)]
  unfold dk
  have : obj ks (vs ++ [y]) = obj ks vs ++ [(k, y)] := by
    clear e0 e1 nd
    induction ks generalizing vs with
    | nil => cases hk
    | cons k0 ks ih =>
      cases vs with
      | nil =>
        have e : k0 = k := Option.some.inj hk
        subst e
        cases ks <;> rfl
      | cons v vs =>
        show (k0, v) :: obj ks (vs ++ [y]) = (k0, v) :: (obj ks vs ++ [(k, y)])
        rw [ih hk]
  rw [this, List.map_append]
  rfl
theorem dk_len {ks : List Str} {vs : List V} : (dk ks vs).length ≤ ks.length := by
  unfold dk
  rw [List.length_map]
  exact obj_len ks vs
theorem g_dput {H : Hp} {a : Addr} {ks : List Str} {vs : List V} {i : Nat} {k : Str} {v : V} {A : Hp → Prop} (ho : H a = some (.dK (dk ks vs))) (nd : ks.Nodup) (hl : ks.length < 100000) (hk : ks[i]? = some k) (hv : i < vs.length) (q : A (upd H a (.dK (dk ks (vs.set i v))))) : ∃ a' H', V.ref a = .ref a' ∧ DPut H a' (.str k) v H' ∧ A H' := by
  refine ⟨a, _, rfl, DPut.k (k := .inr k) ho (szl (Nat.lt_of_le_of_lt dk_len hl)), ?_⟩
  rw [dk_put nd hk hv]
  exact q
theorem g_dnew {H : Hp} {a : Addr} {ks : List Str} {vs : List V} {k : Str} {v : V} {A : Hp → Prop} (ho : H a = some (.dK (dk ks vs))) (nd : ks.Nodup) (hl : ks.length < 100000) (hk : ks[vs.length]? = some k) (q : A (upd H a (.dK (dk ks (vs ++ [v]))))) : ∃ a' H', V.ref a = .ref a' ∧ DPut H a' (.str k) v H' ∧ A H' := by
  refine ⟨a, _, rfl, DPut.k (k := .inr k) ho (szl (Nat.lt_of_le_of_lt dk_len hl)), ?_⟩
  rw [dk_new nd hk]
  exact q
local macro_rules | `(tactic| walk_at "use") => `(tactic| with_reducible first | refine g_dgetT ?_ | refine g_dputT ?_)

def kd_D : List Str := ["writable", "waiting", "readable", "finished", "at_end", "reset"]
theorem ndd_D : kd_D.Nodup := by decide +kernel
section
variable {H : Hp} {a : Addr} {vs : List V} {v y : V}
theorem dg_D_writable {A : V → Prop} (ho : H a = some (.dK (dk kd_D vs))) (hv : vs[0]? = some v) (q : A v) : ∃ a' v', V.ref a = .ref a' ∧ DGet H a' (.str "writable") (some v') ∧ A v' := g_dget ho ndd_D rfl hv q
theorem dp_D_writable {A : Hp → Prop} (ho : H a = some (.dK (dk kd_D vs))) (hv : 0 < vs.length) (q : A (upd H a (.dK (dk kd_D (vs.set 0 y))))) : ∃ a' H', V.ref a = .ref a' ∧ DPut H a' (.str "writable") y H' ∧ A H' := g_dput ho ndd_D (by decide) rfl hv q
theorem dn_D_writable {A : Hp → Prop} (ho : H a = some (.dK (dk kd_D vs))) (hv : vs.length = 0) (q : A (upd H a (.dK (dk kd_D (vs ++ [y]))))) : ∃ a' H', V.ref a = .ref a' ∧ DPut H a' (.str "writable") y H' ∧ A H' := g_dnew ho ndd_D (by decide) (by rw [hv]; rfl) q
theorem dg_D_waiting {A : V → Prop} (ho : H a = some (.dK (dk kd_D vs))) (hv : vs[1]? = some v) (q : A v) : ∃ a' v', V.ref a = .ref a' ∧ DGet H a' (.str "waiting") (some v') ∧ A v' := g_dget ho ndd_D rfl hv q
theorem dp_D_waiting {A : Hp → Prop} (ho : H a = some (.dK (dk kd_D vs))) (hv : 1 < vs.length) (q : A (upd H a (.dK (dk kd_D (vs.set 1 y))))) : ∃ a' H', V.ref a = .ref a' ∧ DPut H a' (.str "waiting") y H' ∧ A H' := g_dput ho ndd_D (by decide) rfl hv q
theorem dn_D_waiting {A : Hp → Prop} (ho : H a = some (.dK (dk kd_D vs))) (hv : vs.length = 1) (q : A (upd H a (.dK (dk kd_D (vs ++ [y]))))) : ∃ a' H', V.ref a = .ref a' ∧ DPut H a' (.str "waiting") y H' ∧ A H' := g_dnew ho ndd_D (by decide) (by rw [hv]; rfl) q
theorem dg_D_readable {A : V → Prop} (ho : H a = some (.dK (dk kd_D vs))) (hv : vs[2]? = some v) (q : A v) : ∃ a' v', V.ref a = .ref a' ∧ DGet H a' (.str "readable") (some v') ∧ A v' := g_dget ho ndd_D rfl hv q
theorem dp_D_readable {A : Hp → Prop} (ho : H a = some (.dK (dk kd_D vs))) (hv : 2 < vs.length) (q : A (upd H a (.dK (dk kd_D (vs.set 2 y))))) : ∃ a' H', V.ref a = .ref a' ∧ DPut H a' (.str "readable") y H' ∧ A H' := g_dput ho ndd_D (by decide) rfl hv q
theorem dn_D_readable {A : Hp → Prop} (ho : H a = some (.dK (dk kd_D vs))) (hv : vs.length = 2) (q : A (upd H a (.dK (dk kd_D (vs ++ [y]))))) : ∃ a' H', V.ref a = .ref a' ∧ DPut H a' (.str "readable") y H' ∧ A H' := g_dnew ho ndd_D (by decide) (by rw [hv]; rfl) q
theorem dg_D_finished {A : V → Prop} (ho : H a = some (.dK (dk kd_D vs))) (hv : vs[3]? = some v) (q : A v) : ∃ a' v', V.ref a = .ref a' ∧ DGet H a' (.str "finished") (some v') ∧ A v' := g_dget ho ndd_D rfl hv q
theorem dp_D_finished {A : Hp → Prop} (ho : H a = some (.dK (dk kd_D vs))) (hv : 3 < vs.length) (q : A (upd H a (.dK (dk kd_D (vs.set 3 y))))) : ∃ a' H', V.ref a = .ref a' ∧ DPut H a' (.str "finished") y H' ∧ A H' := g_dput ho ndd_D (by decide) rfl hv q
theorem dn_D_finished {A : Hp → Prop} (ho : H a = some (.dK (dk kd_D vs))) (hv : vs.length = 3) (q : A (upd H a (.dK (dk kd_D (vs ++ [y]))))) : ∃ a' H', V.ref a = .ref a' ∧ DPut H a' (.str "finished") y H' ∧ A H' := g_dnew ho ndd_D (by decide) (by rw [hv]; rfl) q
theorem dg_D_at_end {A : V → Prop} (ho : H a = some (.dK (dk kd_D vs))) (hv : vs[4]? = some v) (q : A v) : ∃ a' v', V.ref a = .ref a' ∧ DGet H a' (.str "at_end") (some v') ∧ A v' := g_dget ho ndd_D rfl hv q
theorem dp_D_at_end {A : Hp → Prop} (ho : H a = some (.dK (dk kd_D vs))) (hv : 4 < vs.length) (q : A (upd H a (.dK (dk kd_D (vs.set 4 y))))) : ∃ a' H', V.ref a = .ref a' ∧ DPut H a' (.str "at_end") y H' ∧ A H' := g_dput ho ndd_D (by decide) rfl hv q
theorem dn_D_at_end {A : Hp → Prop} (ho : H a = some (.dK (dk kd_D vs))) (hv : vs.length = 4) (q : A (upd H a (.dK (dk kd_D (vs ++ [y]))))) : ∃ a' H', V.ref a = .ref a' ∧ DPut H a' (.str "at_end") y H' ∧ A H' := g_dnew ho ndd_D (by decide) (by rw [hv]; rfl) q
theorem dg_D_reset {A : V → Prop} (ho : H a = some (.dK (dk kd_D vs))) (hv : vs[5]? = some v) (q : A v) : ∃ a' v', V.ref a = .ref a' ∧ DGet H a' (.str "reset") (some v') ∧ A v' := g_dget ho ndd_D rfl hv q
theorem dp_D_reset {A : Hp → Prop} (ho : H a = some (.dK (dk kd_D vs))) (hv : 5 < vs.length) (q : A (upd H a (.dK (dk kd_D (vs.set 5 y))))) : ∃ a' H', V.ref a = .ref a' ∧ DPut H a' (.str "reset") y H' ∧ A H' := g_dput ho ndd_D (by decide) rfl hv q
theorem dn_D_reset {A : Hp → Prop} (ho : H a = some (.dK (dk kd_D vs))) (hv : vs.length = 5) (q : A (upd H a (.dK (dk kd_D (vs ++ [y]))))) : ∃ a' H', V.ref a = .ref a' ∧ DPut H a' (.str "reset") y H' ∧ A H' := g_dnew ho ndd_D (by decide) (by rw [hv]; rfl) q
end
local macro_rules | `(tactic| walk_at "use") => `(tactic| first | ((with_reducible refine' dg_D_writable ?ho_ ?hv_ ?_); (case ho_ => first | assumption | exact upd_same); (case hv_ => exact rfl)) | ((with_reducible refine' dg_D_waiting ?ho_ ?hv_ ?_); (case ho_ => first | assumption | exact upd_same); (case hv_ => exact rfl)) | ((with_reducible refine' dg_D_readable ?ho_ ?hv_ ?_); (case ho_ => first | assumption | exact upd_same); (case hv_ => exact rfl)) | ((with_reducible refine' dg_D_finished ?ho_ ?hv_ ?_); (case ho_ => first | assumption | exact upd_same); (case hv_ => exact rfl)) | ((with_reducible refine' dg_D_at_end ?ho_ ?hv_ ?_); (case ho_ => first | assumption | exact upd_same); (case hv_ => exact rfl)) | ((with_reducible refine' dg_D_reset ?ho_ ?hv_ ?_); (case ho_ => first | assumption | exact upd_same); (case hv_ => exact rfl)) | ((with_reducible refine' dn_D_writable ?ho_ ?hv_ ?_); (case ho_ => first | assumption | exact upd_same); (case hv_ => exact rfl)) | ((with_reducible refine' dn_D_waiting ?ho_ ?hv_ ?_); (case ho_ => first | assumption | exact upd_same); (case hv_ => exact rfl)) | ((with_reducible refine' dn_D_readable ?ho_ ?hv_ ?_); (case ho_ => first | assumption | exact upd_same); (case hv_ => exact rfl)) | ((with_reducible refine' dn_D_finished ?ho_ ?hv_ ?_); (case ho_ => first | assumption | exact upd_same); (case hv_ => exact rfl)) | ((with_reducible refine' dn_D_at_end ?ho_ ?hv_ ?_); (case ho_ => first | assumption | exact upd_same); (case hv_ => exact rfl)) | ((with_reducible refine' dn_D_reset ?ho_ ?hv_ ?_); (case ho_ => first | assumption | exact upd_same); (case hv_ => exact rfl)) | ((with_reducible refine' dp_D_writable ?ho_ ?hv_ ?_); (case ho_ => first | assumption | exact upd_same); (case hv_ => exact Nat.le_of_ble_eq_true rfl)) | ((with_reducible refine' dp_D_waiting ?ho_ ?hv_ ?_); (case ho_ => first | assumption | exact upd_same); (case hv_ => exact Nat.le_of_ble_eq_true rfl)) | ((with_reducible refine' dp_D_readable ?ho_ ?hv_ ?_); (case ho_ => first | assumption | exact upd_same); (case hv_ => exact Nat.le_of_ble_eq_true rfl)) | ((with_reducible refine' dp_D_finished ?ho_ ?hv_ ?_); (case ho_ => first | assumption | exact upd_same); (case hv_ => exact Nat.le_of_ble_eq_true rfl)) | ((with_reducible refine' dp_D_at_end ?ho_ ?hv_ ?_); (case ho_ => first | assumption | exact upd_same); (case hv_ => exact Nat.le_of_ble_eq_true rfl)) | ((with_reducible refine' dp_D_reset ?ho_ ?hv_ ?_); (case ho_ => first | assumption | exact upd_same); (case hv_ => exact Nat.le_of_ble_eq_true rfl)))
local macro_rules | `(tactic| walk_at "use") => `(tactic| with_reducible first | refine g_dgetT ?_ | refine g_dputT ?_)
def kd_R : List Str := ["queue", "finished", "reset"]
theorem ndd_R : kd_R.Nodup := by decide +kernel
section
variable {H : Hp} {a : Addr} {vs : List V} {v y : V}
theorem dg_R_queue {A : V → Prop} (ho : H a = some (.dK (dk kd_R vs))) (hv : vs[0]? = some v) (q : A v) : ∃ a' v', V.ref a = .ref a' ∧ DGet H a' (.str "queue") (some v') ∧ A v' := g_dget ho ndd_R rfl hv q
theorem dp_R_queue {A : Hp → Prop} (ho : H a = some (.dK (dk kd_R vs))) (hv : 0 < vs.length) (q : A (upd H a (.dK (dk kd_R (vs.set 0 y))))) : ∃ a' H', V.ref a = .ref a' ∧ DPut H a' (.str "queue") y H' ∧ A H' := g_dput ho ndd_R (by decide) rfl hv q
theorem dn_R_queue {A : Hp → Prop} (ho : H a = some (.dK (dk kd_R vs))) (hv : vs.length = 0) (q : A (upd H a (.dK (dk kd_R (vs ++ [y]))))) : ∃ a' H', V.ref a = .ref a' ∧ DPut H a' (.str "queue") y H' ∧ A H' := g_dnew ho ndd_R (by decide) (by rw [hv]; rfl) q
theorem dg_R_finished {A : V → Prop} (ho : H a = some (.dK (dk kd_R vs))) (hv : vs[1]? = some v) (q : A v) : ∃ a' v', V.ref a = .ref a' ∧ DGet H a' (.str "finished") (some v') ∧ A v' := g_dget ho ndd_R rfl hv q
theorem dp_R_finished {A : Hp → Prop} (ho : H a = some (.dK (dk kd_R vs))) (hv : 1 < vs.length) (q : A (upd H a (.dK (dk kd_R (vs.set 1 y))))) : ∃ a' H', V.ref a = .ref a' ∧ DPut H a' (.str "finished") y H' ∧ A H' := g_dput ho ndd_R (by decide) rfl hv q
theorem dn_R_finished {A : Hp → Prop} (ho : H a = some (.dK (dk kd_R vs))) (hv : vs.length = 1) (q : A (upd H a (.dK (dk kd_R (vs ++ [y]))))) : ∃ a' H', V.ref a = .ref a' ∧ DPut H a' (.str "finished") y H' ∧ A H' := g_dnew ho ndd_R (by decide) (by rw [hv]; rfl) q
theorem dg_R_reset {A : V → Prop} (ho : H a = some (.dK (dk kd_R vs))) (hv : vs[2]? = some v) (q : A v) : ∃ a' v', V.ref a = .ref a' ∧ DGet H a' (.str "reset") (some v') ∧ A v' := g_dget ho ndd_R rfl hv q
theorem dp_R_reset {A : Hp → Prop} (ho : H a = some (.dK (dk kd_R vs))) (hv : 2 < vs.length) (q : A (upd H a (.dK (dk kd_R (vs.set 2 y))))) : ∃ a' H', V.ref a = .ref a' ∧ DPut H a' (.str "reset") y H' ∧ A H' := g_dput ho ndd_R (by decide) rfl hv q
theorem dn_R_reset {A : Hp → Prop} (ho : H a = some (.dK (dk kd_R vs))) (hv : vs.length = 2) (q : A (upd H a (.dK (dk kd_R (vs ++ [y]))))) : ∃ a' H', V.ref a = .ref a' ∧ DPut H a' (.str "reset") y H' ∧ A H' := g_dnew ho ndd_R (by decide) (by rw [hv]; rfl) q
end
local macro_rules | `(tactic| walk_at "use") => `(tactic| first | ((with_reducible refine' dg_R_queue ?ho_ ?hv_ ?_); (case ho_ => first | assumption | exact upd_same); (case hv_ => exact rfl)) | ((with_reducible refine' dg_R_finished ?ho_ ?hv_ ?_); (case ho_ => first | assumption | exact upd_same); (case hv_ => exact rfl)) | ((with_reducible refine' dg_R_reset ?ho_ ?hv_ ?_); (case ho_ => first | assumption | exact upd_same); (case hv_ => exact rfl)) | ((with_reducible refine' dn_R_queue ?ho_ ?hv_ ?_); (case ho_ => first | assumption | exact upd_same); (case hv_ => exact rfl)) | ((with_reducible refine' dn_R_finished ?ho_ ?hv_ ?_); (case ho_ => first | assumption | exact upd_same); (case hv_ => exact rfl)) | ((with_reducible refine' dn_R_reset ?ho_ ?hv_ ?_); (case ho_ => first | assumption | exact upd_same); (case hv_ => exact rfl)) | ((with_reducible refine' dp_R_queue ?ho_ ?hv_ ?_); (case ho_ => first | assumption | exact upd_same); (case hv_ => exact Nat.le_of_ble_eq_true rfl)) | ((with_reducible refine' dp_R_finished ?ho_ ?hv_ ?_); (case ho_ => first | assumption | exact upd_same); (case hv_ => exact Nat.le_of_ble_eq_true rfl)) | ((with_reducible refine' dp_R_reset ?ho_ ?hv_ ?_); (case ho_ => first | assumption | exact upd_same); (case hv_ => exact Nat.le_of_ble_eq_true rfl)))
local macro_rules | `(tactic| walk_at "use") => `(tactic| with_reducible first | refine g_dgetT ?_ | refine g_dputT ?_)
end My
namespace My
open PySem PySem.Spec L2
local macro_rules | `(tactic| walk_at "side") => `(tactic| first | assumption | decide | omega | exact ⟨by decide, by decide⟩ | exact ⟨by decide, by decide, by decide⟩ | decide +kernel | exact cdivW (by decide +kernel) (by decide +kernel) | exact Or.inl ⟨by omega, by omega⟩ | exact Or.inr ⟨by omega, by omega⟩ | (simp only [List.length_map, List.length_cons, List.length_nil, List.length_append]; omega))
local macro_rules | `(tactic| walk_at "fact") => `(tactic| first | assumption | omega | with_reducible rfl)
local macro_rules | `(tactic| walk_at "use") => `(tactic| fail "use")
local macro_rules | `(tactic| walk_at "go1") => `(tactic| with_reducible first | refine g_seq ?_ | refine g_asg ?_ | refine g_ret ?_ | refine g_ifS ?_ | refine g_drop ?_ | refine g_star ?_ | refine g_nx ?_ | refine g_rt ?_ | refine g_bkE ?_ | refine g_ctE ?_ | refine g_next ?_ | refine g_retN ?_ | refine g_brk ?_ | refine g_ct ?_ | refine g_c ?_ | refine g_op ?_ | refine g_un ?_ | refine g_rI0 ?_ | refine g_rU ?_ | refine g_rEqI ?_ | refine g_rNeI ?_ | refine g_isN ?_ | refine g_rIsB ?_ | refine g_rNotB ?_ | refine g_test ?_ | refine g_B ?_ | refine g_bl ?_ | refine g_and ?_ | refine g_or ?_ | refine g_not ?_ | refine g_andV ?_ | refine g_orV ?_ | refine g_notV ?_ | refine g_if ?_ | refine g_chain ?_ | refine g_yes ?_ | refine g_lc ?_ | refine g_revR ?_ | refine g_rng1 ?_ | refine g_iList ?_ | refine g_nil ?_ | refine g_cons ?_ | refine g_tup ?_ | refine g_lst ?_ | refine g_call ?_ | refine g_CB ?_ | refine g_sl ?_ | refine g_noPart ?_ | refine g_part ?_ | refine g_intE ?_ | refine g_ref ?_ | refine g_fld ?_ | refine g_sfld ?_ | refine g_meth ?_ | refine g_make ?_ | refine g_prop ?_  | refine g_ipI ?_ | refine g_int1 ?_ | refine g_int1B ?_ | refine g_one ?_ | refine g_two ?_ | refine g_isiI ?_ | refine g_isiIB ?_ | refine g_isiB ?_ | refine g_BM ?_ | refine g_BM0 ?_ | refine g_sub ?_)
local macro_rules | `(tactic| walk_at "go") => `(tactic| repeat (first | walk_at "go1" | ((with_reducible refine' g_nameE ?sd_ ?_); case sd_ => dsimp only [List.set_cons_succ, List.set_cons_zero]) | ((with_reducible refine' g_var ?sd_ ?_); case sd_ => exact rfl) | ((with_reducible refine' g_aug ?sd_ ?_); case sd_ => exact rfl) | ((with_reducible refine' g_rI ?sd_ ?_); case sd_ => walk_at "side") | ((with_reducible refine' g_dT ?sd_ ?_); case sd_ => walk_at "fact") | ((with_reducible refine' g_dF ?sd_ ?_); case sd_ => walk_at "fact") | ((with_reducible refine' g_nT ?sd_ ?_); case sd_ => walk_at "fact") | ((with_reducible refine' g_nF ?sd_ ?_); case sd_ => walk_at "fact") | (with_reducible refine g_iT rfl ?_) | (with_reducible refine g_iF rfl ?_) | walk_at "use"))
local macro_rules | `(tactic| walk_at "nw") => `(tactic| (generalize zq : upd _ _ _ = Hq; have sq : Same _ Hq := (by rw [← zq]; exact same_upd (by assumption)); have kq := (congrFun zq _).symm.trans upd_same; clear zq))
local macro_rules | `(tactic| walk_at "bt") => `(tactic| (generalize zq : upd _ _ _ = Hq; have bq : But _ _ Hq := (by rw [← zq]; exact But.refl.upd); have kq := (congrFun zq _).symm.trans upd_same; clear zq))
theorem kb_pure {K : PySem.W.Frag} {x qual : Str} {params : Arguments} {body : List Stmt} {scope : Scope} {kws : List (Str × V)} {f : Addr} {fd : FuncData} {ps : List Str} (F : FunD K x qual params body scope [] kws f fd) (n : Nat) (ks : List Str) (g : {α : Type} → List α → List α → List α)
    (hrel : ∀ {vs zs : List V} {us ws : List Value}, Vals vs us → Vals zs ws → Vals (g vs zs) (g us ws))
    (h : ∀ (kV doc pm : Value) (an : Option Addr) (cdv ct : Value) (us ws : List Value), us.length = n → ws.length = ks.length → bindArgs (PySem.W.fnOf x qual params body scope .none kV doc pm an cdv ct) ⟨us, ks.zip ws⟩ = pure (ps.zip (g us ws))) :
    KBn K fd ps n ks (fun us ws => g us ws) (fun vs zs => g vs zs) := by
  obtain ⟨oc, od, dV, kV, doc, pm, an, cdv, ct, osl, rfl, lk, hcd, hD, hK⟩ := F.ex
  rcases hD with ⟨_, rfl⟩ | ⟨e, _⟩
  · exact ⟨fun s us ws X l1 l2 => .of_eq (h kV doc pm an cdv ct us ws l1 l2), fun r1 r2 => hrel r1 r2⟩
  · exact absurd rfl e
theorem pe_callN0 {X : Cx} {CX : CXT} {k : Nat} {f : Addr} {fd : FuncData} {ps ks : List Str} {sp : Sp} {E : XK} {x : Str} {p pos : Pos} {kws : List Keyword} {tk : TA} {g : List Value → List Value → List Value} {gV : List V → List V → List V} (F : FnOk X.prog X.w X.K X.mg X.base CX k f fd ps sp) (hr : Room k X.A) (hg : Gl X x) (hm : X.mg x = some (.ref f)) (hk : PySem.W.keepIn X.K (.ref f) = true) (hb : KBn X.K fd ps 0 ks g gV) (hx : Passes CX X E)
    (hkw : PK X kws tk) (hall : (backToKw pos (keywordEach kws X.env)).all (·.1.isSome) = true := by rfl) (hks : (backToKw pos (keywordEach kws X.env)).filterMap (·.1) = ks := by rfl)
    (hdb : (x == ("__debug__" : Str)) = false := by decide)
    (hpl : ((backTo pos (starEach [] X.env)).any (·.1) || (backToKw pos (keywordEach kws X.env)).any (·.1.isNone)) = false := by rfl) :
    PE X (.Call (.Name x p) [] kws pos) (tCallN 0 ks.length sp gV E tNil tk) := by
  refine ⟨fun pins s σ H Q I h => ?_⟩
  refine wpAny_Call_Name_kw (ld_glob I hg hm ?_ hdb)
  refine PySem.W.callWith_KW0 (h₀ := X.base) I.ok.mod.kin hk hall ?_ hpl
  refine thn (hkw.run pos pins s σ H _ I h) fun ws s2 ⟨zs, H2, I2, rz, l1, l2, q2⟩ => ⟨I2.kIn, ?_⟩
  rw [hks]
  exact run_fnN (us := []) (vs := []) F hr hb hx I2 .nil rz rfl l2 q2
theorem g_callN {n m : Nat} {sp : Sp} {gV : List V → List V → List V} {E : XK} {t tk : TA} {σ : St} {H : Hp} {Q : VK} (h : t σ H fun vs H1 => tk σ H1 fun zs H2 => vs.length = n ∧ zs.length = m ∧ sp (gV vs zs) H2 Q E) : tCallN n m sp gV E t tk σ H Q := h
local macro_rules | `(tactic| walk_at "use") => `(tactic| with_reducible refine g_callN ?_)

local macro_rules | `(tactic| walk_at "use") => `(tactic| first | ((with_reducible refine' fd_Channel_number ?ho_ ?hv_ ?_); (case ho_ => first | assumption | exact upd_same); (case hv_ => exact rfl)) | ((with_reducible refine' fd_Channel_announced ?ho_ ?hv_ ?_); (case ho_ => first | assumption | exact upd_same); (case hv_ => exact rfl)) | ((with_reducible refine' fd_Channel_queue ?ho_ ?hv_ ?_); (case ho_ => first | assumption | exact upd_same); (case hv_ => exact rfl)) | ((with_reducible refine' fd_Channel_credit ?ho_ ?hv_ ?_); (case ho_ => first | assumption | exact upd_same); (case hv_ => exact rfl)) | ((with_reducible refine' fd_Channel_finished ?ho_ ?hv_ ?_); (case ho_ => first | assumption | exact upd_same); (case hv_ => exact rfl)) | ((with_reducible refine' fd_Channel_end_sent ?ho_ ?hv_ ?_); (case ho_ => first | assumption | exact upd_same); (case hv_ => exact rfl)) | ((with_reducible refine' fd_Channel_unread ?ho_ ?hv_ ?_); (case ho_ => first | assumption | exact upd_same); (case hv_ => exact rfl)) | ((with_reducible refine' fd_Channel_due ?ho_ ?hv_ ?_); (case ho_ => first | assumption | exact upd_same); (case hv_ => exact rfl)) | ((with_reducible refine' fd_Channel_end_came ?ho_ ?hv_ ?_); (case ho_ => first | assumption | exact upd_same); (case hv_ => exact rfl)) | ((with_reducible refine' fd_Channel_broken ?ho_ ?hv_ ?_); (case ho_ => first | assumption | exact upd_same); (case hv_ => exact rfl)) | ((with_reducible refine' fd_Channel_reset_told ?ho_ ?hv_ ?_); (case ho_ => first | assumption | exact upd_same); (case hv_ => exact rfl)) | ((with_reducible refine' nw_Channel_number ?ho_ ?hv_ ?_); (case ho_ => first | assumption | exact upd_same); (case hv_ => exact rfl)) | ((with_reducible refine' nw_Channel_announced ?ho_ ?hv_ ?_); (case ho_ => first | assumption | exact upd_same); (case hv_ => exact rfl)) | ((with_reducible refine' nw_Channel_queue ?ho_ ?hv_ ?_); (case ho_ => first | assumption | exact upd_same); (case hv_ => exact rfl)) | ((with_reducible refine' nw_Channel_credit ?ho_ ?hv_ ?_); (case ho_ => first | assumption | exact upd_same); (case hv_ => exact rfl)) | ((with_reducible refine' nw_Channel_finished ?ho_ ?hv_ ?_); (case ho_ => first | assumption | exact upd_same); (case hv_ => exact rfl)) | ((with_reducible refine' nw_Channel_end_sent ?ho_ ?hv_ ?_); (case ho_ => first | assumption | exact upd_same); (case hv_ => exact rfl)) | ((with_reducible refine' nw_Channel_unread ?ho_ ?hv_ ?_); (case ho_ => first | assumption | exact upd_same); (case hv_ => exact rfl)) | ((with_reducible refine' nw_Channel_due ?ho_ ?hv_ ?_); (case ho_ => first | assumption | exact upd_same); (case hv_ => exact rfl)) | ((with_reducible refine' nw_Channel_end_came ?ho_ ?hv_ ?_); (case ho_ => first | assumption | exact upd_same); (case hv_ => exact rfl)) | ((with_reducible refine' nw_Channel_broken ?ho_ ?hv_ ?_); (case ho_ => first | assumption | exact upd_same); (case hv_ => exact rfl)) | ((with_reducible refine' nw_Channel_reset_told ?ho_ ?hv_ ?_); (case ho_ => first | assumption | exact upd_same); (case hv_ => exact rfl)) | ((with_reducible refine' st_Channel_number ?ho_ ?hv_ ?_); (case ho_ => first | assumption | exact upd_same); (case hv_ => exact Nat.le_of_ble_eq_true rfl)) | ((with_reducible refine' st_Channel_announced ?ho_ ?hv_ ?_); (case ho_ => first | assumption | exact upd_same); (case hv_ => exact Nat.le_of_ble_eq_true rfl)) | ((with_reducible refine' st_Channel_queue ?ho_ ?hv_ ?_); (case ho_ => first | assumption | exact upd_same); (case hv_ => exact Nat.le_of_ble_eq_true rfl)) | ((with_reducible refine' st_Channel_credit ?ho_ ?hv_ ?_); (case ho_ => first | assumption | exact upd_same); (case hv_ => exact Nat.le_of_ble_eq_true rfl)) | ((with_reducible refine' st_Channel_finished ?ho_ ?hv_ ?_); (case ho_ => first | assumption | exact upd_same); (case hv_ => exact Nat.le_of_ble_eq_true rfl)) | ((with_reducible refine' st_Channel_end_sent ?ho_ ?hv_ ?_); (case ho_ => first | assumption | exact upd_same); (case hv_ => exact Nat.le_of_ble_eq_true rfl)) | ((with_reducible refine' st_Channel_unread ?ho_ ?hv_ ?_); (case ho_ => first | assumption | exact upd_same); (case hv_ => exact Nat.le_of_ble_eq_true rfl)) | ((with_reducible refine' st_Channel_due ?ho_ ?hv_ ?_); (case ho_ => first | assumption | exact upd_same); (case hv_ => exact Nat.le_of_ble_eq_true rfl)) | ((with_reducible refine' st_Channel_end_came ?ho_ ?hv_ ?_); (case ho_ => first | assumption | exact upd_same); (case hv_ => exact Nat.le_of_ble_eq_true rfl)) | ((with_reducible refine' st_Channel_broken ?ho_ ?hv_ ?_); (case ho_ => first | assumption | exact upd_same); (case hv_ => exact Nat.le_of_ble_eq_true rfl)) | ((with_reducible refine' st_Channel_reset_told ?ho_ ?hv_ ?_); (case ho_ => first | assumption | exact upd_same); (case hv_ => exact Nat.le_of_ble_eq_true rfl)) | ((with_reducible refine' me_Channel_break_off ?ho_ ?_); (case ho_ => first | assumption | exact upd_same)))
local macro_rules | `(tactic| walk_at "use") => `(tactic| first | ((with_reducible refine' fd_Channels_failure ?ho_ ?hv_ ?_); (case ho_ => first | assumption | exact upd_same); (case hv_ => exact rfl)) | ((with_reducible refine' fd_Channels__window ?ho_ ?hv_ ?_); (case ho_ => first | assumption | exact upd_same); (case hv_ => exact rfl)) | ((with_reducible refine' fd_Channels__most ?ho_ ?hv_ ?_); (case ho_ => first | assumption | exact upd_same); (case hv_ => exact rfl)) | ((with_reducible refine' fd_Channels__next_here ?ho_ ?hv_ ?_); (case ho_ => first | assumption | exact upd_same); (case hv_ => exact rfl)) | ((with_reducible refine' fd_Channels__next_there ?ho_ ?hv_ ?_); (case ho_ => first | assumption | exact upd_same); (case hv_ => exact rfl)) | ((with_reducible refine' fd_Channels__channels ?ho_ ?hv_ ?_); (case ho_ => first | assumption | exact upd_same); (case hv_ => exact rfl)) | ((with_reducible refine' fd_Channels__numbers ?ho_ ?hv_ ?_); (case ho_ => first | assumption | exact upd_same); (case hv_ => exact rfl)) | ((with_reducible refine' fd_Channels__turns ?ho_ ?hv_ ?_); (case ho_ => first | assumption | exact upd_same); (case hv_ => exact rfl)) | ((with_reducible refine' fd_Channels__offered ?ho_ ?hv_ ?_); (case ho_ => first | assumption | exact upd_same); (case hv_ => exact rfl)) | ((with_reducible refine' fd_Channels__going ?ho_ ?hv_ ?_); (case ho_ => first | assumption | exact upd_same); (case hv_ => exact rfl)) | ((with_reducible refine' fd_Channels__coming ?ho_ ?hv_ ?_); (case ho_ => first | assumption | exact upd_same); (case hv_ => exact rfl)) | ((with_reducible refine' nw_Channels_failure ?ho_ ?hv_ ?_); (case ho_ => first | assumption | exact upd_same); (case hv_ => exact rfl)) | ((with_reducible refine' nw_Channels__window ?ho_ ?hv_ ?_); (case ho_ => first | assumption | exact upd_same); (case hv_ => exact rfl)) | ((with_reducible refine' nw_Channels__most ?ho_ ?hv_ ?_); (case ho_ => first | assumption | exact upd_same); (case hv_ => exact rfl)) | ((with_reducible refine' nw_Channels__next_here ?ho_ ?hv_ ?_); (case ho_ => first | assumption | exact upd_same); (case hv_ => exact rfl)) | ((with_reducible refine' nw_Channels__next_there ?ho_ ?hv_ ?_); (case ho_ => first | assumption | exact upd_same); (case hv_ => exact rfl)) | ((with_reducible refine' nw_Channels__channels ?ho_ ?hv_ ?_); (case ho_ => first | assumption | exact upd_same); (case hv_ => exact rfl)) | ((with_reducible refine' nw_Channels__numbers ?ho_ ?hv_ ?_); (case ho_ => first | assumption | exact upd_same); (case hv_ => exact rfl)) | ((with_reducible refine' nw_Channels__turns ?ho_ ?hv_ ?_); (case ho_ => first | assumption | exact upd_same); (case hv_ => exact rfl)) | ((with_reducible refine' nw_Channels__offered ?ho_ ?hv_ ?_); (case ho_ => first | assumption | exact upd_same); (case hv_ => exact rfl)) | ((with_reducible refine' nw_Channels__going ?ho_ ?hv_ ?_); (case ho_ => first | assumption | exact upd_same); (case hv_ => exact rfl)) | ((with_reducible refine' nw_Channels__coming ?ho_ ?hv_ ?_); (case ho_ => first | assumption | exact upd_same); (case hv_ => exact rfl)) | ((with_reducible refine' st_Channels_failure ?ho_ ?hv_ ?_); (case ho_ => first | assumption | exact upd_same); (case hv_ => exact Nat.le_of_ble_eq_true rfl)) | ((with_reducible refine' st_Channels__window ?ho_ ?hv_ ?_); (case ho_ => first | assumption | exact upd_same); (case hv_ => exact Nat.le_of_ble_eq_true rfl)) | ((with_reducible refine' st_Channels__most ?ho_ ?hv_ ?_); (case ho_ => first | assumption | exact upd_same); (case hv_ => exact Nat.le_of_ble_eq_true rfl)) | ((with_reducible refine' st_Channels__next_here ?ho_ ?hv_ ?_); (case ho_ => first | assumption | exact upd_same); (case hv_ => exact Nat.le_of_ble_eq_true rfl)) | ((with_reducible refine' st_Channels__next_there ?ho_ ?hv_ ?_); (case ho_ => first | assumption | exact upd_same); (case hv_ => exact Nat.le_of_ble_eq_true rfl)) | ((with_reducible refine' st_Channels__channels ?ho_ ?hv_ ?_); (case ho_ => first | assumption | exact upd_same); (case hv_ => exact Nat.le_of_ble_eq_true rfl)) | ((with_reducible refine' st_Channels__numbers ?ho_ ?hv_ ?_); (case ho_ => first | assumption | exact upd_same); (case hv_ => exact Nat.le_of_ble_eq_true rfl)) | ((with_reducible refine' st_Channels__turns ?ho_ ?hv_ ?_); (case ho_ => first | assumption | exact upd_same); (case hv_ => exact Nat.le_of_ble_eq_true rfl)) | ((with_reducible refine' st_Channels__offered ?ho_ ?hv_ ?_); (case ho_ => first | assumption | exact upd_same); (case hv_ => exact Nat.le_of_ble_eq_true rfl)) | ((with_reducible refine' st_Channels__going ?ho_ ?hv_ ?_); (case ho_ => first | assumption | exact upd_same); (case hv_ => exact Nat.le_of_ble_eq_true rfl)) | ((with_reducible refine' st_Channels__coming ?ho_ ?hv_ ?_); (case ho_ => first | assumption | exact upd_same); (case hv_ => exact Nat.le_of_ble_eq_true rfl)) | ((with_reducible refine' me_Channels_len__ ?ho_ ?_); (case ho_ => first | assumption | exact upd_same)) | ((with_reducible refine' me_Channels_iter__ ?ho_ ?_); (case ho_ => first | assumption | exact upd_same)) | ((with_reducible refine' me_Channels_open_channel ?ho_ ?_); (case ho_ => first | assumption | exact upd_same)) | ((with_reducible refine' me_Channels_accept ?ho_ ?_); (case ho_ => first | assumption | exact upd_same)) | ((with_reducible refine' me_Channels_write ?ho_ ?_); (case ho_ => first | assumption | exact upd_same)) | ((with_reducible refine' me_Channels_read ?ho_ ?_); (case ho_ => first | assumption | exact upd_same)) | ((with_reducible refine' me_Channels_finish ?ho_ ?_); (case ho_ => first | assumption | exact upd_same)) | ((with_reducible refine' me_Channels_reset ?ho_ ?_); (case ho_ => first | assumption | exact upd_same)) | ((with_reducible refine' me_Channels_status ?ho_ ?_); (case ho_ => first | assumption | exact upd_same)) | ((with_reducible refine' me_Channels_known ?ho_ ?_); (case ho_ => first | assumption | exact upd_same)) | ((with_reducible refine' me_Channels_add ?ho_ ?_); (case ho_ => first | assumption | exact upd_same)) | ((with_reducible refine' me_Channels_room_of ?ho_ ?_); (case ho_ => first | assumption | exact upd_same)))
section
variable {P : Program} {w : World} {K : PySem.W.Frag} {mg : Str → Option Value} {base : Heap}
/-! ### exceptions -/
section
variable {X : Cx} {K : PySem.W.Frag} {σ : St} {H : Hp} {Q : VK} {W : WX} {D : Ends} {C : Addr} {ta : TE} {t : St → Hp → XK → Prop}
def tRaise (t : St → Hp → XK → Prop) (W : WX) : TS := fun _ σ H => t σ H fun cls d H' => W cls d σ H'
theorem ps_rs {e : Expr} {pos : Pos} (hc : X.calm = true) (tk : Takes X W) (he : PMk X e t) : PS X (.Raise (some e) none pos) (tRaise t W) := ps_raise hc tk he
def tMk0 (C : Addr) : St → Hp → XK → Prop := fun _ H Q => Q (.ref C) none H
def tMk1 (C : Addr) (ta : TE) : St → Hp → XK → Prop := fun σ H Q => ta σ H fun _ H1 => Q (.ref C) none H1
theorem pmk_0 {x m : Str} {j : Nat} {p p2 pos : Pos} {bmB : List Value} {B newId initId : String} (F : ExcBaseFacts B newId initId bmB) (q : PySem.W.excIn X.K C bmB newId = true) (gC : X.mg x = some (.ref C)) (kC : PySem.W.keepIn X.K (.ref C) = true) (r : Raises X (.ref C)) (hg : Gl X x)
    (hdb : (x == ("__debug__" : Str)) = false := by decide) : PMk X (.Call (.Name x p) [.Constant (.str m) j p2] [] pos) (tMk0 C) := pmk_own F q gC kC r hg hdb
theorem pmk_1 {x : Str} {e : Expr} {p pos : Pos} {bmB : List Value} {B newId initId : String} (F : ExcBaseFacts B newId initId bmB) (q : PySem.W.excIn X.K C bmB newId = true) (gC : X.mg x = some (.ref C)) (kC : PySem.W.keepIn X.K (.ref C) = true) (r : Raises X (.ref C)) (hg : Gl X x)
    (he : PE X e ta) (hs : starEach [e] X.env = (false, eval e X.env) :: starEach [] X.env := by rfl) (hdb : (x == ("__debug__" : Str)) = false := by decide) : PMk X (.Call (.Name x p) [e] [] pos) (tMk1 C ta) := SkE.pmk_own1 F q gC kC r hg he hs hdb
theorem g_rs0 (q : W (.ref C) none σ H) : tRaise (tMk0 C) W D σ H := q
theorem g_rs1 (h : ta σ H fun _ H1 => W (.ref C) none σ H1) : tRaise (tMk1 C ta) W D σ H := h
def tTryA (K : PySem.W.Frag) (c : Value) (i : Nat) (tb : WX → TS) (ts : Addr → Value → Option Addr → TS) (Wout : WX) : TS := fun D σ H => tb (wAs K c i ts Wout D) D σ H
def tTryO (K : PySem.W.Frag) (c : Value) (tb : WX → TS) (ts : Addr → Value → Option Addr → TS) (Wout : WX) : TS := fun D σ H => tb (wOnly K c ts Wout D) D σ H
theorem ps_tryA {x n : Str} {c : Value} {i : Nat} {body suite : List Stmt} {b₀ : Stmt} {np pos pos' : Pos} {tb : WX → TS} {ts : Addr → Value → Option Addr → TS} {Wout : WX} (hs : X.stack = X.env :: X.outer) (hf : X.env.frame = some X.env.locals) (hN : X.N.Nodup) (hi : X.N[i]? = some n) (hln : X.env.kindOf n = some .local) (hc : Names X x c) (tk : Takes X Wout)
    (hb : ∀ (W : WX) (pn : List (Addr × Obj)) (xe : Value → Shared → Prop), Takes (X.tr pn xe) W → PassesOwn (model X.prog X.w) X.A X.env xe → PSs (X.tr pn xe) body (tb W))
    (hsu : ∀ (a : Addr) (oe : Obj) (cls : Value) (d : Option Addr) (pn : List (Addr × Obj)), Zc cls d oe → (∃ vs, oe.data = .fields vs) → PSs (X.suite a ((a, oe) :: pn)) (b₀ :: suite) (ts a cls d)) :
    PS X (.Try body [.ExceptHandler (some (.Name x np)) (some n) (b₀ :: suite) pos'] [] [] pos) (tTryA X.K c i tb ts Wout) := ps_try_as hs hf hN hi hln hc tk hb hsu
theorem ps_tryO {x : Str} {c : Value} {body suite : List Stmt} {b₀ : Stmt} {np pos pos' : Pos} {tb : WX → TS} {ts : Addr → Value → Option Addr → TS} {Wout : WX} (hs : X.stack = X.env :: X.outer) (hf : X.env.frame = some X.env.locals) (hc : Names X x c) (tk : Takes X Wout)
    (hb : ∀ (W : WX) (pn : List (Addr × Obj)) (xe : Value → Shared → Prop), Takes (X.tr pn xe) W → PassesOwn (model X.prog X.w) X.A X.env xe → PSs (X.tr pn xe) body (tb W))
    (hsu : ∀ (a : Addr) (oe : Obj) (cls : Value) (d : Option Addr) (pn : List (Addr × Obj)), Zc cls d oe → (∃ vs, oe.data = .fields vs) → PSs (X.suite a ((a, oe) :: pn)) (b₀ :: suite) (ts a cls d)) :
    PS X (.Try body [.ExceptHandler (some (.Name x np)) none (b₀ :: suite) pos'] [] [] pos) (tTryO X.K c tb ts Wout) := ps_try_only hs hf hc tk hb hsu
variable {c cls : Value} {d : Option Addr} {i : Nat} {tb : WX → TS} {ts : Addr → Value → Option Addr → TS} {Wout : WX}
theorem g_tryA (h : tb (wAs K c i ts Wout D) D σ H) : tTryA K c i tb ts Wout D σ H := h
theorem g_tryO (h : tb (wOnly K c ts Wout D) D σ H) : tTryO K c tb ts Wout D σ H := h
theorem g_caught (e : PySem.W.exmOne K cls c = some true) (h : ∀ a, H a = none → ts a cls d { nx := fun σ' H' => D.nx (σ'.set i none) H', rt := D.rt, bk := fun σ' H' => D.bk (σ'.set i none) H', ct := fun σ' H' => D.ct (σ'.set i none) H' } (σ.set i (some (.ref a))) H) :
    wAs K c i ts Wout D cls d σ H := ⟨true, e, fun _ => h, fun z => nomatch z⟩
theorem g_caughtO (e : PySem.W.exmOne K cls c = some true) (h : ∀ a, H a = none → ts a cls d D σ H) : wOnly K c ts Wout D cls d σ H := ⟨true, e, fun _ => h, fun z => nomatch z⟩
theorem g_callS {sp : Sp} {E : St → XK} {t : TA} (h : t σ H fun vs H1 => sp vs H1 Q (E σ)) : tCallS sp E t σ H Q := h
/-- isinstance(e, c), e the exception that the suite holds, of a class known later -/
def rIsE2 (K : PySem.W.Frag) (a : Addr) (cls : Value) (d : Option Addr) : List V → Hp → VK → Prop := fun xs H Q => ∃ (D : Addr) (c : V) (cv : Value) (b : Bool), cls = .ref D ∧ d = none ∧ ExcC K D ∧ xs = [.ref a, c] ∧ (∀ u, RelV c u → u = cv) ∧ PySem.W.kitOne K (.ref D) cv = some b ∧ Q (.bl b) H
theorem call_isE2 {a : Addr} {oe : Obj} {pn : List (Addr × Obj)} (hz : Zc cls d oe) (hf : ∃ vs, oe.data = .fields vs) : CallR (X.suite a ((a, oe) :: pn)) (.builtin "isinstance") (rIsE2 X.K a cls d) := by
  intro pins s σ H xs us Q I r h
  obtain ⟨D, c, cv, b, rfl, rfl, C, e1, hcv, e, q⟩ := h
  exact call_isE C hz hf pins s σ H xs us Q I r ⟨c, cv, b, e1, hcv, e, q⟩
theorem g_isER {R B a : Addr} {b : Bool} (C : ExcC K R) (e : PySem.W.kitOne K (.ref R) (.ref B) = some b) (q : Q (.bl b) H) : rIsE2 K a (.ref R) none [.ref a, .ref B] H Q := ⟨R, _, _, b, rfl, rfl, C, rfl, fun u r => by cases r; rfl, e, q⟩
theorem g_isET {R a : Addr} {T : String} {b : Bool} (C : ExcC K R) (e : PySem.W.kitOne K (.ref R) (.type T) = some b) (q : Q (.bl b) H) : rIsE2 K a (.ref R) none [.ref a, .ty T] H Q := ⟨R, _, _, b, rfl, rfl, C, rfl, fun u r => by cases r; rfl, e, q⟩
/-! f-strings -/
def tJoined (ts : List TE) : TE := fun σ H Q => tJs ts Str.empty σ H fun out H1 => Q (.str out) H1
theorem pe_joinedJ {v1 v2 : Expr} {rest : List Expr} {ts : List TE} {pos : Pos} (h : PJ X (v1 :: v2 :: rest) ts) : PE X (.JoinedStr (v1 :: v2 :: rest) pos) (tJoined ts) := pe_joined h
theorem g_joined {ts : List TE} (h : tJs ts Str.empty σ H fun out H1 => Q (.str out) H1) : tJoined ts σ H Q := h
theorem g_jsnil {acc : Str} {A : Str → Hp → Prop} (q : A acc H) : tJs [] acc σ H A := q
theorem g_jscons {acc : Str} {A : Str → Hp → Prop} {t : TE} {ts : List TE} (h : t σ H fun x H1 => ∃ y : Str, x = .str y ∧ (acc ++ y).length ≤ sizeLine ∧ tJs ts (acc ++ y) σ H1 A) : tJs (t :: ts) acc σ H A := h
theorem g_jsE {acc y : Str} {A : Str → Prop} (h1 : (acc ++ y).length ≤ sizeLine) (q : A y) : ∃ y' : Str, V.str y = .str y' ∧ (acc ++ y').length ≤ sizeLine ∧ A y' := ⟨y, rfl, h1, q⟩
def rAddS : R2 := fun x y H Q => ∃ i j : Str, x = .str i ∧ y = .str j ∧ i.length + j.length ≤ sizeLine ∧ Q (.str (i ++ j)) H
theorem op_addS : OpR X (binaryOp .Add) rAddS := op_add_str
theorem g_addS {y z : Str} (h : y.length + z.length ≤ 16777216) (q : Q (.str (y ++ z)) H) : rAddS (.str y) (.str z) H Q := ⟨y, z, rfl, rfl, by rw [sizeLine_eq]; exact h, q⟩
theorem g_slS {y : Str} {lo hi : Option Int} (h : y.length ≤ 16777216) (q : Q (.str (cutS y lo hi)) H) : rSlS (.str y) lo hi H Q := ⟨y, rfl, by rw [sizeLine_eq]; exact h, q⟩
theorem g_m0 {r : V → List V → Hp → VK → Prop} {to : TE} (h : to σ H fun x H1 => (∃ a, x = V.str a) ∧ r x [] H1 Q) : tM0 r to σ H Q := h
theorem g_fmtS {y : Str} {A : Str → Prop} {B : Int → Prop} (h : y.length ≤ sizeLine) (q : A y) : (∃ y' : Str, V.str y = .str y' ∧ y'.length ≤ sizeLine ∧ A y') ∨ ∃ i : Int, V.str y = .int i ∧ i.natAbs.log2 < 1920 ∧ B i := .inl ⟨y, rfl, h, q⟩
theorem g_fmtI {j : Int} {A : Str → Prop} {B : Int → Prop} (h : j.natAbs.log2 < 1920) (q : B j) : (∃ y' : Str, V.int j = .str y' ∧ y'.length ≤ sizeLine ∧ A y') ∨ ∃ i : Int, V.int j = .int i ∧ i.natAbs.log2 < 1920 ∧ B i := .inr ⟨j, rfl, h, q⟩
theorem g_fmt (h : ta σ H fun x H1 => (∃ y : Str, x = .str y ∧ y.length ≤ sizeLine ∧ Q (.str y) H1) ∨ ∃ i : Int, x = .int i ∧ i.natAbs.log2 < 1920 ∧ Q (.str (toString i)) H1) : tFmt ta σ H Q := h
end
theorem kit_refT {K : PySem.W.Frag} {t : Value} {C : Addr} (a : PySem.W.isClsIn K C = true) (b : PySem.W.typeIn K (.ref C) = some (.type "type")) (c : PySem.W.subIn K t (.ref C) = some true) : PySem.W.kitOne K t (.ref C) = some true := by
  unfold PySem.W.isClsIn at a
  unfold PySem.W.kitOne
  by_cases z : (t == Value.ref C) = true
  · rw [if_pos z]
  · rw [if_neg z]
    show (if ((PySem.W.clsIn K C).isSome && PySem.W.typeIn K (.ref C) == some (.type "type")) = true then PySem.W.subIn K t (.ref C) else none) = some true
    rw [a, b, if_pos (by rw [Bool.true_and]; exact beq_self_eq_true _)]
    exact c
theorem kit_refF {K : PySem.W.Frag} {R C : Addr} (a : PySem.W.isClsIn K C = true) (b : PySem.W.typeIn K (.ref C) = some (.type "type")) (c : PySem.W.subIn K (.ref R) (.ref C) = some false) (r : PySem.W.subIn K (.ref R) (.ref R) = some true) : PySem.W.kitOne K (.ref R) (.ref C) = some false := by
  unfold PySem.W.isClsIn at a
  unfold PySem.W.kitOne
  by_cases z : (Value.ref R == Value.ref C) = true
  · have e : Value.ref R = Value.ref C := beq_iff_eq.mp z
    injection e with e
    subst e
    rw [c] at r
    cases r
  · rw [if_neg z]
    show (if ((PySem.W.clsIn K C).isSome && PySem.W.typeIn K (.ref C) == some (.type "type")) = true then PySem.W.subIn K (.ref R) (.ref C) else none) = some false
    rw [a, b, if_pos (by rw [Bool.true_and]; exact beq_self_eq_true _)]
    exact c
theorem kit_tyT {K : PySem.W.Frag} {R : Addr} {T : String} {b : Bool} (a : PySem.W.kitMeta T = true) (c : PySem.W.subIn K (.ref R) (.type T) = some b) : PySem.W.kitOne K (.ref R) (.type T) = some b := by
  unfold PySem.W.kitOne
  rw [if_neg (by show ¬ (Value.ref R == Value.type T) = true; exact fun h => by cases (beq_iff_eq.mp h))]
  show (if PySem.W.kitMeta T = true then PySem.W.subIn K (.ref R) (.type T) else none) = some b
  rw [if_pos a]
  exact c
/-! a written dict with texts as keys -/
theorem ns_entry {K : PySem.W.Frag} {a : Addr} {c : Value} {d : Option Addr} {es : Array DictEntry} {n : Nat} {sl : Array (Option Value)} {x : Str} {u : Value} (h : K.lookup a = some ⟨c, d, .dict es n, sl⟩) (e : (es.toList.find? (·.key.isStr x)).map (·.val) = some u) : PySem.W.nsIn K a x = some (some u) := by
  unfold PySem.W.nsIn
  rw [h]
  dsimp only
  cases q : es.toList.find? (·.key.isStr x) with
  | none => rw [q] at e; cases e
  | some z => rw [q] at e; injection e with e; rw [← e]
theorem fit2 {a b : Str} (h : a.length + b.length ≤ 16777216) : (a ++ b).length ≤ sizeLine := by
  rw [PySem.Str.length_append, sizeLine_eq]
  exact h
theorem log_lt {n : Nat} (h : n < 2 ^ 64) : n.log2 < 1920 := by
  by_cases z : n = 0
  · subst z; decide
  · exact Nat.lt_trans (Nat.log2_lt z |>.mpr h) (by decide)
theorem itext {i : Int} (h : i.natAbs < 2 ^ 64) : (Str.ofString (toString i)).length ≤ 1921 := PyProof.Rows.int_text_len_1921 (log_lt h)
def keyS (e : DictEntry) : Option Str := match e.key with | .str s _ => some s | _ => none
theorem find_keys : ∀ {l : List DictEntry} {ks : List Str} {z : Str}, l.map keyS = ks.map some → z ∉ ks → l.find? (·.key.isStr z) = none ∧ l.any (·.refKey) = false
  | [], _, _, _, _ => ⟨rfl, rfl⟩
  | e :: l, [], _, h, _ => by cases h
  | e :: l, k :: ks, z, h, hz => by
    simp only [List.map_cons, List.cons.injEq] at h
    obtain ⟨i1, i2⟩ := find_keys (l := l) (ks := ks) (z := z) h.2 fun m => hz (List.mem_cons_of_mem _ m)
    have h1 := h.1
    unfold keyS at h1
    obtain ⟨hs, key, val⟩ := e
    dsimp only at h1 ⊢
    cases key with
    | str s t =>
      injection h1 with h1
      subst h1
      have ne : (s == z) = false := by
        rw [beq_eq_false_iff_ne]
        intro e
        exact hz (e ▸ List.mem_cons_self ..)
      refine ⟨?_, ?_⟩
      · rw [List.find?_cons]
        show (match (s == z) with | true => _ | false => _) = none
        rw [ne]
        exact i1
      · rw [List.any_cons, i2, Bool.or_false]
        rfl
    | _ => cases h1
theorem ns_out {K : PySem.W.Frag} {a : Addr} {c : Value} {d : Option Addr} {es : Array DictEntry} {n : Nat} {sl : Array (Option Value)} {z : Str} {ks : List Str} (h : K.lookup a = some ⟨c, d, .dict es n, sl⟩) (e : es.toList.map keyS = ks.map some) (hz : z ∉ ks) : PySem.W.nsIn K a z = some none := by
  obtain ⟨i1, i2⟩ := find_keys e hz
  unfold PySem.W.nsIn
  rw [h]
  dsimp only
  rw [i1]
  dsimp only
  rw [i2]
  rfl
section
variable {K : PySem.W.Frag} {H : Hp} {Q : VK}
def rInK (K : PySem.W.Frag) (d : Addr) : R2 := fun x y H Q => ∃ (z : Str) (r : Option Value), x = .str z ∧ y = .ref d ∧ PySem.W.nsIn K d z = some r ∧ Q (.bl r.isSome) H
def rNotInK (K : PySem.W.Frag) (d : Addr) : R2 := fun x y H Q => ∃ (z : Str) (r : Option Value), x = .str z ∧ y = .ref d ∧ PySem.W.nsIn K d z = some r ∧ Q (.bl (!r.isSome)) H
theorem op_inK {X : Cx} {d : Addr} {es : Array DictEntry} {n : Nat} (D : KDict X.K X.w d es n) : OpR X (compareOp .In) (rInK X.K d) := op_in_kd D
theorem op_notInK {X : Cx} {d : Addr} {es : Array DictEntry} {n : Nat} (D : KDict X.K X.w d es n) : OpR X (compareOp .NotIn) (rNotInK X.K d) := op_notIn_kd D
theorem g_inK {d : Addr} {z : Str} {u : Value} (e : PySem.W.nsIn K d z = some (some u)) (q : Q (.bl true) H) : rInK K d (.str z) (.ref d) H Q := ⟨z, _, rfl, rfl, e, q⟩
theorem g_inKn {d : Addr} {z : Str} (e : PySem.W.nsIn K d z = some none) (q : Q (.bl false) H) : rInK K d (.str z) (.ref d) H Q := ⟨z, _, rfl, rfl, e, q⟩
theorem g_notInK {d : Addr} {z : Str} {u : Value} (e : PySem.W.nsIn K d z = some (some u)) (q : Q (.bl false) H) : rNotInK K d (.str z) (.ref d) H Q := ⟨z, _, rfl, rfl, e, q⟩
theorem g_notInKn {d : Addr} {z : Str} (e : PySem.W.nsIn K d z = some none) (q : Q (.bl true) H) : rNotInK K d (.str z) (.ref d) H Q := ⟨z, _, rfl, rfl, e, q⟩
theorem g_ixK {w : World} {d : Addr} {z : Str} {u : Value} {v : V} {es : Array DictEntry} {n : Nat} (D : KDict K w d es n) (e : PySem.W.nsIn K d z = some (some u)) (r : RelV v u) (q : Q v H) : rIxD K w (.ref d) (.str z) H Q := ⟨d, z, v, rfl, rfl, ⟨es, n, u, D.at_, D.lit, e, r⟩, q⟩
end
local macro_rules | `(tactic| walk_at "use") => `(tactic| with_reducible first | refine g_rs0 ?_ | refine g_rs1 ?_ | refine g_tryA ?_ | refine g_tryO ?_ | refine g_callS ?_ | refine g_joined ?_ | refine g_jsnil ?_ | refine g_jscons ?_ | refine g_fmt ?_)
local macro_rules | `(tactic| walk_at "fit") => `(tactic| (refine fit2 ?_; (try simp only [PySem.Str.length_append]); omega))
local macro_rules | `(tactic| walk_at "use") => `(tactic| first | ((with_reducible refine' g_addS ?sd_ ?_); case sd_ => (first | omega | (simp only [PySem.Str.length_append]; omega))) | ((with_reducible refine' g_slS ?sd_ ?_); case sd_ => omega) | (with_reducible refine g_m0 ?_))


/-! ### del xs[:c] -/
theorem sel_drop {c : Int} : ∀ (xs : List Value) (k0 : Nat), (xs.zipIdx k0).filterMap (fun p => if (if (1 : Int) > 0 then decide ((0 : Int) ≤ (p.2 : Int)) && decide ((p.2 : Int) < c) && (((p.2 : Int) - 0) % 1 == 0) else decide (c < (p.2 : Int)) && decide ((p.2 : Int) ≤ 0) && ((0 - (p.2 : Int)) % (-1) == 0)) = true then none else some p.1) = xs.drop (c.toNat - k0)
  | [], k0 => by simp
  | x :: xs, k0 => by
    rw [List.zipIdx_cons, List.filterMap_cons, sel_drop xs (k0 + 1)]
    dsimp only
    rw [if_pos (show (1 : Int) > 0 by decide)]
    by_cases h : (k0 : Int) < c
    · have e : (decide ((0 : Int) ≤ (k0 : Int)) && decide ((k0 : Int) < c) && (((k0 : Int) - 0) % 1 == 0)) = true := by
        rw [decide_eq_true h, decide_eq_true (Int.natCast_nonneg k0), Int.emod_one]
        rfl
      rw [if_pos e]
      dsimp only
      rw [show c.toNat - k0 = (c.toNat - (k0 + 1)) + 1 by omega, List.drop_succ_cons]
    · have e : ¬ (decide ((0 : Int) ≤ (k0 : Int)) && decide ((k0 : Int) < c) && (((k0 : Int) - 0) % 1 == 0)) = true := by
        rw [decide_eq_false h, Bool.and_false, Bool.false_and]
        exact Bool.false_ne_true
      rw [if_neg e]
      dsimp only
      rw [show c.toNat - k0 = 0 by omega, show c.toNat - (k0 + 1) = 0 by omega]
      rfl
theorem bounds_del {c : Int} {n : Nat} (h0 : 0 ≤ c) : sliceBounds none (some c) none n = (0, min c (n : Int), 1) := by
  simp only [sliceBounds, Option.getD_none]
  have h2 : ¬ (c < 0) := by omega
  simp only [h2, if_false, show (1 : Int) > 0 by decide, if_true]
  rw [show max (0 : Int) (min c (n : Int)) = min c (n : Int) by omega]
section
variable {prog : Program} {w : World} {A : Around} {E : Value → Shared → Prop} {s : Shared}
theorem upd_del {M : Model} {F : Array Value → Array Value} {l : Addr} {its : List Value} {n m : Nat} {Q : Unit → Shared → Prop} (hF : ∀ xs : Array Value, F xs = (xs.toList.drop m).toArray)
    (e : s.heap.get? l = some { cls := .type "list", data := .seq its.toArray n }) (hsz : its.length ≤ sizeLine) (h : Q () { s with heap := s.heap.update l (Obj.mapSeq fun xs => (xs.toList.drop m).toArray) }) : wpAny M A (updateSeq l F) Q E s := by
  rw [show F = fun xs => (xs.toList.drop m).toArray from funext hF]
  exact wpAny_updateSeq (hz := by rw [List.size_toArray]; exact hsz) (_hz' := by rw [List.size_toArray, List.length_drop]; show its.length - _ ≤ _; omega) e rfl h
theorem delItem_slice {l sl : Addr} {its : List Value} {n : Nat} {vu : Value} {c : Int} {Q : Unit → Shared → Prop}
    (e : s.heap.get? l = some { cls := .type "list", data := .seq its.toArray n })
    (hs : s.heap.IsSliceOf sl .none vu .none) (pu : PySem.IsPart vu (some c)) (h0 : 0 ≤ c) (hsz : its.length ≤ sizeLine)
    (h : Q () { s with heap := s.heap.update l (Obj.mapSeq fun xs => (xs.toList.drop (min c (its.length : Int)).toNat).toArray) }) :
    wpAny (model prog w) A (delItem (.ref l) (.ref sl)) Q E s := by
  have hl : s.heap.IsList l its.toArray := PySem.IsL.isList e
  obtain ⟨os, hos, hcs, hds⟩ := id hs
  have hTs : s.TypeIs (.ref sl) "slice" := ⟨os, hos, hcs⟩
  have hstep : ¬ ((PySem.rawPart none == rawInt 0) = true) := Bool.false_ne_true
  refine wpAny_delItem_slot hl.typeIs (by decide) PySem.F.slot_list_delitem (wpAny_call_entry PySem.F.slot_list_delitem hl.typeIs PySem.F.entry_list_delitem ?_ (PySem.F.args_list_delitem_2 _ _))
  show wpAny _ _ (Builtin.List.listSubscript? (.ref sl) >>= _) _ _ s
  refine wpAny_bind ?_
  unfold Builtin.List.listSubscript?
  refine wpAny_bind (wpAny_specialOf hTs slice_no_index ?_)
  simp only [Option.isNone_none, if_true]
  refine wpAny_pure ?_
  show wpAny _ _ (typeOf (.ref sl) >>= _) _ _ s
  refine wpAny_bind (wpAny_typeOf hTs ?_)
  first
    | rw [if_neg (by decide)]
    | refine PySem.W.KFB.if_not (by decide) ?_
  rw [listSliceParts_eq]
  refine wpAny_bind (wpAny_bind (wpAny_field hos hds (x := .none) rfl (wpAny_bind (wpAny_listPart .none ?_))))
  rw [if_neg hstep]
  refine wpAny_bind (wpAny_field hos hds (x := .none) rfl (wpAny_bind (wpAny_listPart .none ?_)))
  refine wpAny_bind (wpAny_field hos hds (x := vu) rfl (wpAny_bind (wpAny_listPart pu (wpAny_pure ?_))))
  unfold Builtin.List.listItems
  refine wpAny_bind (wpAny_bind (wpAny_seqItems e rfl (wpAny_pure ?_)))
  refine wpAny_bind (wpAny_of_eq ((sliceIndices_raw none (some c) none its.toArray.size (by simp)).trans (congrArg (pure : Int × Int × Int → Sem (Int × Int × Int)) (bounds_del h0))) ?_)
  refine wpAny_bind (wpAny_rule ?_)
  refine wpAny_bind (m := updateSeq l _) (upd_del (m := (min c (its.length : Int)).toNat) ?hF e hsz ?_)
  case hF =>
    intro xs
    refine congrArg List.toArray (Eq.trans (congrArg (fun f => List.filterMap f xs.toList.zipIdx) (funext fun p => ?_)) (sel_drop (c := min c (its.length : Int)) xs.toList 0))
    obtain ⟨x, k⟩ := p
    kernel_rfl
  refine wpAny_bind (wpAny_letGo ?_)
  first
    | exact wpAny_pure ⟨.none, rfl, h⟩
    | exact wpAny_bind (wpAny_pure (wpAny_pure ⟨.none, rfl, h⟩))
end
def tDelS (to th : TE) : TS := fun D σ H => to σ H fun x H1 => th σ H1 fun y H2 => ∃ (l : Addr) (xs : List V) (c : Int), x = .ref l ∧ y = .int c ∧ H2 l = some (.lst xs) ∧ 0 ≤ c ∧ D.nx σ (upd H2 l (.lst (xs.drop c.toNat)))
theorem ps_delS {X : Cx} {o hi : Expr} {to th : TE} {p2 tpos pos : Pos} (ho : PE X o to) (hi' : PE X hi th) : PS X (.Delete [.Subscript o (.Slice none (some hi) none p2) tpos] pos) (tDelS to th) := by
  refine ⟨fun pins s σ H D I h => ?_⟩
  refine wpAny_Delete (wpAny_deleteEach_cons (wpAny_delete_Subscript (thn (ho.run pins s σ H _ I h) fun u s1 ⟨x, H1, I1, rx, q1⟩ => ?_)))
  refine PySem.wpAny_Slice ?_
  rw [evalPart_none]
  refine wpAny_pure ?_
  rw [PySem.evalPart_some]
  refine thn (hi'.run pins s1 σ H1 _ I1 q1) fun vu s3 ⟨y, H3, I3, ry, q3⟩ => ?_
  refine wpAny_pure ?_
  have I4 : Inv X pins σ H3 { s3 with heap := s3.heap.push { cls := .type "slice", data := .fields #[.none, vu, .none] } } := I3.kept (t' := s3.toks) fun b ob q => Heap.get?_push_of_some _ q
  obtain ⟨l, xs, c, rfl, rfl, e1, h0, q4⟩ := q3
  cases rx
  obtain ⟨t2, rfl⟩ := ry
  obtain ⟨z, its, n, r, hl, e⟩ := I4.lstM e1
  have hm : (min c (its.length : Int)).toNat = min c.toNat its.length := by omega
  refine delItem_slice e (Heap.IsSliceOf.new ..) (.int c t2) h0 (by omega) ?_
  refine wpAny_deleteEach_nil ⟨σ, _, I4.lset (its' := its.drop c.toNat) (t' := s3.toks) e1 e ?_ (r.drop _) ?_, q4⟩
  · rw [hm]
    show (its.drop (min c.toNat its.length)).toArray = _
    congr 1
    by_cases q : c.toNat ≤ its.length
    · rw [Nat.min_eq_left q]
    · rw [Nat.min_eq_right (by omega), List.drop_eq_nil_of_le (Nat.le_refl _), List.drop_eq_nil_of_le (by omega)]
  · rw [List.length_drop]
    omega
theorem g_delS {to th : TE} {D : Ends} {σ : St} {H : Hp} (h : to σ H fun x H1 => th σ H1 fun y H2 => ∃ (l : Addr) (xs : List V) (c : Int), x = .ref l ∧ y = .int c ∧ H2 l = some (.lst xs) ∧ 0 ≤ c ∧ D.nx σ (upd H2 l (.lst (xs.drop c.toNat)))) : tDelS to th D σ H := h
theorem g_delE {l : Addr} {xs : List V} {c : Int} {H : Hp} {A : Hp → Prop} (h : H l = some (.lst xs)) (h0 : 0 ≤ c) (q : A (upd H l (.lst (xs.drop c.toNat)))) : ∃ (l' : Addr) (xs' : List V) (c' : Int), V.ref l = .ref l' ∧ V.int c = .int c' ∧ H l' = some (.lst xs') ∧ 0 ≤ c' ∧ A (upd H l' (.lst (xs'.drop c'.toNat))) := ⟨l, xs, c, rfl, rfl, h, h0, q⟩
local macro_rules | `(tactic| walk_at "use") => `(tactic| with_reducible refine g_delS ?_)

/-! ### walks over an object of an own class, and x in such an object -/
section
open PyProof.Rows
variable {P : Program} {w : World} {K : PySem.W.Frag} {mg : Str → Option Value} {base : Heap}
/-- a def's promise that knows how many objects there were at the call -/
structure FnN (P : Program) (w : World) (K : PySem.W.Frag) (mg : Str → Option Value) (base : Heap) (k : Nat) (f : Addr) (fd : FuncData) (ps : List Str) (sp : Nat → Sp) : Prop where
  len : ∀ n vs H Q E, sp n vs H Q E → vs.length = ps.length
  run : ∀ (A : Around) (outer : List Env) (s : Shared) (H : Hp) (g : Args) (us : List Value) (vs : List V) (Q : VK) (E : XK), Room k A → Env0 P w K mg base A outer s H → BindsTo s fd g (ps.zip us) → Vals vs us →
    sp s.heap.objs.size vs H Q E → codeAny (model P w) A (.call (.ref f) g) (CR CX0 outer P w H s Q E) s
theorem fnN_of {k : Nat} {f : Addr} {fd : FuncData} {x qual : Str} {st : Stmt} {N ps : List Str} {sp : Nat → Sp} (F : Fun K x qual st f fd) (S : FnScope N ps (defScope st)) (hlen : ∀ n vs H Q E, sp n vs H Q E → vs.length = ps.length)
    (hb : ∀ (cdv : Value) (A : Around) (outer : List Env) (s : Shared) (H : Hp) (vs : List V) (Q : VK) (E : XK), Room k (A.deeper (envOfC qual (defScope st) s.heap.objs.size f cdv)) → sp s.heap.objs.size vs H Q E →
      ∃ t, PSs ((cxOf CX0 P w K mg base N qual (defScope st) f cdv A outer s H E).nox) (defBody st) t ∧ t { nx := fun _ H' => Q .non H', rt := Q } (start N vs) H) :
    FnN P w K mg base (k + 1) f fd ps sp := by
  obtain ⟨oc, od, kV, doc, pm, an, cdv, ct, osl, e1, lkp, code⟩ := F.ex
  subst e1
  constructor
  · exact hlen
  intro A outer s H g us vs Q E room env bnd rel hsp
  have len1 : vs.length = ps.length := hlen _ _ _ _ _ hsp
  have kIn : K.In s.heap := env.mod.kin.keeps (fun b o z => (env.bs b o z).1)
  have noLim : s.heap.NoLimit := env.mod.nolimit.keeps (fun b o z => (env.bs b o z).1)
  refine codeAny_call_function room.depth (kIn _ _ lkp) rfl S.co S.gen rfl (PySem.W.codeRec_of kIn code) (bnd _ _ _ _ ?_)
  have kinds : ∀ y ∈ ps.zip us, (defScope st).names.lookup y.1 = some .local ∨ ((defScope st).names.lookup y.1 = some .cell ∧ ((cellsFrom (s.heap.objs.size + 1) (defScope st).names []).lookup y.1).isSome = true) := by
    intro y hy
    obtain ⟨n, v⟩ := y
    cases S.par n (List.of_mem_zip hy).1 with
    | inl z => exact Or.inl z
    | inr z => exact Or.inr ⟨z, PySem.W.cellsFrom_some _ _ _ (Or.inl z)⟩
  refine wpAny_newFunctionEnv_cells S.kind kinds (fun env2 e2 s2 call => ?_)
  subst e2
  refine ⟨noLim.keeps call.toInCall.keep, codeAny_func ?_⟩
  obtain ⟨t, ht0, hq⟩ := hb cdv A outer s H vs Q E (room.deeper _) hsp
  have ht := ht0.nox
  have J0 := inv_start (CX := CX0) (E := E) S room.hd env len1 rel call
  have last : ∀ {σ' : L2.St} {H' : Hp} {v : V} {u : Value} {s' : Shared}, Inv (cxOf CX0 P w K mg base N qual (defScope st) f cdv A outer s H E) [] σ' H' s' → RelV v u → Q v H' → CE outer P w H s Q u s' := by
    intro σ' H' v u s' J rv q
    exact ⟨v, H', J.os, J.bare, J.base, J.hok, rv, q⟩
  refine wpAny_mono (ht.run [] s2 (start N vs) H _ J0 hq) (fun fl s' out => ?_) (fun _ _ z => z)
  cases fl with
  | next =>
    obtain ⟨σ', H', J, q⟩ := out
    exact last (v := .non) (u := .none) J rfl q
  | ret u =>
    obtain ⟨v, σ', H', J, rv, q⟩ := out
    exact last J rv q
  | cont =>
    obtain ⟨_, _, _, q⟩ := out
    exact q.elim
  | brk =>
    obtain ⟨_, _, _, q⟩ := out
    exact q.elim
variable {X : Cx} {tg e : Expr} {te : TE} {C fi : Addr} {fd : FuncData} {ps : List Str} {k : Nat}
/-- the reading: what __iter__ promises (n: how many objects there were), of a list's iterator -/
def iOwnL (K : PySem.W.Frag) (C : Addr) (sp : Nat → Sp) (te : TE) : TI := fun σ H R => te σ H fun x H1 => ∃ a dx fs, x = .ref a ∧ H1 a = some (.ins C dx fs) ∧ ∀ n, sp n [.ref a] H1 (fun v H2 => ∃ it l, v = .ref it ∧ n ≤ it ∧ H2 it = some (ItO l it 0) ∧ R (Itl K l) (ItX.dropH H2 it)) E0
theorem pi_ownL {sp : Nat → Sp} (he : PE X e te) (hm : Meth X.K C "__iter__" fi) (F : FnN X.prog X.w X.K X.mg X.base k fi fd ps sp) (hr : Room k X.A) (hb : Binds X.K fd ps []) : PI X tg e (iOwnL X.K C sp te) := by
  obtain ⟨hit, hfn, _⟩ := hm
  constructor
  intro pins s σ H R I h
  refine thn (he.run pins s σ H _ I h) fun v s1 ⟨x, H1, I1, r1, a, dx, fs, ex, ha, hsp⟩ => ?_
  subst ex
  cases r1
  obtain ⟨mA, J, _⟩ := ins_get I1.hok ha
  obtain ⟨od, J, _⟩ := J.look
  obtain ⟨m, hF⟩ := I1.fr
  have hs := hsp s1.heap.objs.size
  have hl := F.len _ _ _ _ _ hs
  refine PySem.W.owit_iter hF I1.ok.mod.kin J hit hfn ?_
  have bnd : BindsTo s1 fd ⟨[.ref a], []⟩ (ps.zip [.ref a]) := by
    have z := hb s1 [.ref a] I1.kIn (by simpa using hl)
    simpa using z
  refine wpAny_call (codeAny_mono (F.run X.A X.stack s1 H1 ⟨[.ref a], []⟩ [.ref a] [.ref a] _ E0 hr I1.env0 bnd (.cons rfl .nil) hs) fun r s' hq => ?_)
  match r, hq with
  | .error _, hq => exact False.elim hq
  | .ok .next, hq => exact False.elim hq
  | .ok .brk, hq => exact False.elim hq
  | .ok .cont, hq => exact False.elim hq
  | .ok (.ret u), hq =>
    obtain ⟨v, H2, I2, rv, it, l, ev, hsz, eit, q⟩ := I1.after hq
    subst ev
    cases rv
    have eo := itO_get I2 eit
    have ext := eit
    unfold ItO at ext
    unfold PySem.W.OwitIt
    refine wpAny_specialOf (name := Str.ofString "__next__") (T := "list_iterator") ⟨_, eo, rfl⟩ PySem.slot_listiter_next.lookup ?_
    refine ⟨it, [it], _, _, ItX.dropH H2 it, rfl, ItX.inv_drop I2 ext, turn_list l it, ⟨_, eo, rfl, rfl⟩, fun b hb => ?_, q⟩
    have eb : b = it := by simpa using hb
    rw [eb]
    exact ItX.inv_fp I2 eit (Nat.le_trans I1.sz hsz)
theorem g_iOwnL {K : PySem.W.Frag} {C : Addr} {sp : Nat → Sp} {te : TE} {σ : L2.St} {H : Hp} {R : It → Hp → Prop} (h : te σ H fun x H1 => ∃ a dx fs, x = .ref a ∧ H1 a = some (.ins C dx fs) ∧ ∀ n, sp n [.ref a] H1 (fun v H2 => ∃ it l, v = .ref it ∧ n ≤ it ∧ H2 it = some (ItO l it 0) ∧ R (Itl K l) (ItX.dropH H2 it)) E0) : iOwnL K C sp te σ H R := h
/-! x in o -/
def rInO (C : Addr) (sp : Sp) (E : XK) : R2 := fun x y H Q => ∃ a dx fs, y = .ref a ∧ H a = some (.ins C dx fs) ∧ sp [y, x] H (fun v H' => ∃ b, v = .bl b ∧ Q (.bl b) H') E
theorem op_inO {CX : CXT} {f : Addr} {sp : Sp} {E : XK} (F : FnOk X.prog X.w X.K X.mg X.base CX k f fd ps sp) (hr : Room k X.A) (hm : Meth X.K C "__contains__" f) (hb : Binds X.K fd ps []) (hx : Passes CX X E) : OpR X (compareOp .In) (rInO C sp E) := by
  obtain ⟨hco, hfn, _⟩ := hm
  intro pins s σ H x y v u Q I rx ry hq
  obtain ⟨a, dx, fs, ey, ha, hsp⟩ := hq
  subst ey
  cases ry
  obtain ⟨mA, J, _⟩ := ins_get I.hok ha
  obtain ⟨od, J, _⟩ := J.look
  obtain ⟨m, hF⟩ := I.fr
  have kIn := I.kIn
  have hl := F.len _ _ _ _ hsp
  have bnd : BindsTo s fd ⟨[.ref a, v], []⟩ (ps.zip [.ref a, v]) := by
    have z := hb s [.ref a, v] kIn (by simpa using hl)
    simpa using z
  have main : wpAny (model X.prog X.w) X.A (call (.ref f) [.ref a, v]) (fun r s' => ∃ b H', r = .bool b ∧ Inv X pins σ H' s' ∧ Q (.bl b) H') X.xe s := by
    refine wpAny_call (codeAny_mono (F.run X.A X.stack s H ⟨[.ref a, v], []⟩ [.ref a, v] [.ref a, x] _ E hr I.env0 bnd (.cons rfl (.cons rx .nil)) hsp) fun r s' hq => ?_)
    match r, hq with
    | .error _, hq => exact hx pins σ H s _ s' I hq
    | .ok .next, hq => exact False.elim hq
    | .ok .brk, hq => exact False.elim hq
    | .ok .cont, hq => exact False.elim hq
    | .ok (.ret z), hq =>
      obtain ⟨c, H', I', rc, b, ec, q⟩ := I.after hq
      subst ec
      cases rc
      exact ⟨b, H', rfl, I', q⟩
  show wpAny _ _ (contains (.ref a) v >>= fun b => pure (Value.bool b)) _ _ s
  refine wpAny_bind ?_
  unfold contains
  refine wpAny_holding ?_
  have hns : stdlibNamesSay? (.ref a) v = none := rfl
  rw [hns]
  refine wpAny_bind (wpAny_bind (J.type.here ((PySem.W.looks_findIn kIn hco).here ?_)))
  rw [if_neg (show ¬ ((some (Value.ref f) == some Value.none) = true) from Bool.false_ne_true)]
  refine wpAny_bind ?_
  unfold callSpecialUnlessNone?
  refine wpAny_bind (wpAny_bind (J.type.here ((PySem.W.looks_findIn kIn hco).here ?_)))
  refine wpAny_holding ?_
  refine wpAny_bind ((PySem.W.bind_fn kIn _ (beq_iff_eq.mp hfn)).here ?_)
  dsimp only
  rw [if_neg (show ¬ ((Value.ref f == Value.none) = true) from Bool.false_ne_true)]
  refine wpAny_bind (wpAny_mono main (fun r s' ⟨b, H', er, I', q⟩ => ?_) fun _ _ z => z)
  subst er
  refine wpAny_pure ?_
  exact wpAny_truthy_bool (wpAny_pure ⟨.bl b, H', I', rfl, q⟩)
end

/-! ### what is not reached -/
def tDeadE : TE := fun _ _ _ => False
def tDeadS : TS := fun _ _ _ => False
theorem pe_dead {X : Cx} {e : Expr} : PE X e tDeadE := ⟨fun _ _ _ _ _ _ h => (show False from h).elim⟩
theorem ps_dead {X : Cx} {st : Stmt} : PS X st tDeadS := ⟨fun _ _ _ _ _ _ h => (show False from h).elim⟩

/-! ### dicts with ints as keys, by what they hold -/
def Dk (H : Hp) (d : Addr) (f : Int → Option V) (n : Nat) : Prop := ∃ kvs : List (Key × V), H d = some (.dK kvs) ∧ kvs.length ≤ n ∧ ∀ k : Int, valV kvs (.inl k) = f k
theorem Dk.new {H : Hp} {d : Addr} (h : H d = some (.dK [])) : Dk H d (fun _ => none) 0 := ⟨[], h, Nat.le_refl _, fun _ => rfl⟩
theorem Dk.get {H : Hp} {d : Addr} {f : Int → Option V} {n : Nat} (h : Dk H d f n) (k : Int) : DGet H d (.int k) (f k) := by
  obtain ⟨kvs, e, _, hv⟩ := h
  have z := DGet.k (k := .inl k) e
  rw [hv] at z
  exact z
theorem Dk.isD {H : Hp} {d : Addr} {f : Int → Option V} {n : Nat} (h : Dk H d f n) : IsD H d := by
  obtain ⟨kvs, e, _, _⟩ := h
  exact .inl ⟨kvs, .inl e⟩
theorem Dk.put {H : Hp} {d : Addr} {f : Int → Option V} {n : Nat} (h : Dk H d f n) (hn : n < 100000) (k : Int) (v : V) : ∃ H', DPut H d (.int k) v H' ∧ But d H H' ∧ Dk H' d (fun j => if j = k then some v else f j) (n + 1) := by
  obtain ⟨kvs, e, hl, hv⟩ := h
  refine ⟨_, DPut.k (k := .inl k) (v := v) e (szl (by omega)), But.refl.upd, putK kvs (.inl k) v, upd_same, Nat.le_trans (length_putK _ _ _) (by omega), fun j => ?_⟩
  rw [valV_put, hv]
  show _ = if j = k then some v else f j
  by_cases z : j = k
  · subst z
    rw [if_pos rfl, if_pos rfl]
  · rw [if_neg z, if_neg fun w => z (Sum.inl.inj w)]
theorem Dk.at {H H' : Hp} {d : Addr} {f : Int → Option V} {n : Nat} (h : Dk H d f n) (s : ∀ o, H d = some o → H' d = some o) : Dk H' d f n := by
  obtain ⟨kvs, e, hl, hv⟩ := h
  exact ⟨kvs, s _ e, hl, hv⟩
theorem Dk.same {H H' : Hp} {d : Addr} {f : Int → Option V} {n : Nat} (h : Dk H d f n) (s : Same H H') : Dk H' d f n := h.at (s d)
theorem Dk.none {H : Hp} {d : Addr} {f : Int → Option V} {n : Nat} (h : Dk H d f n) {p : Addr} (hp : H p = none) : d ≠ p := by
  obtain ⟨kvs, e, _, _⟩ := h
  exact ne_of_none e hp
theorem g_dgetI {td ty : TE} {σ : St} {H : Hp} {Q : VK} (h : td σ H fun x H1 => ty σ H1 fun y H2 => ∃ a v, x = .ref a ∧ DGet H2 a y (some v) ∧ Q v H2) : tDGet td ty σ H Q := h
theorem g_dputI {td ty tv : TE} {D : Ends} {σ : St} {H : Hp} (h : tv σ H fun v H1 => td σ H1 fun x H2 => ty σ H2 fun y H3 => ∃ a H4, x = .ref a ∧ DPut H3 a y v H4 ∧ D.nx σ H4) : sDPut td ty tv D σ H := h
theorem g_dget1I {td ty : TE} {σ : St} {H : Hp} {Q : VK} (h : td σ H fun x H1 => ∃ a, x = .ref a ∧ IsD H1 a ∧ ty σ H1 fun y H2 => ∃ o, DGet H2 a y o ∧ Q (o.getD .non) H2) : tDGet1 td ty σ H Q := h
theorem g_dget2I {td ty tx : TE} {σ : St} {H : Hp} {Q : VK} (h : td σ H fun x H1 => ∃ a, x = .ref a ∧ IsD H1 a ∧ ty σ H1 fun y H2 => tx σ H2 fun z H3 => ∃ o, DGet H3 a y o ∧ Q (o.getD z) H3) : tDGet2 td ty tx σ H Q := h
theorem g_dinI {td ty : TE} {σ : St} {H : Hp} {Q : VK} (h : ty σ H fun y H1 => td σ H1 fun x H2 => ∃ a o, x = .ref a ∧ DGet H2 a y o ∧ Q (.bl o.isSome) H2) : tDIn ty td σ H Q := h
theorem g_dnotinI {td ty : TE} {σ : St} {H : Hp} {Q : VK} (h : ty σ H fun y H1 => td σ H1 fun x H2 => ∃ a o, x = .ref a ∧ DGet H2 a y o ∧ Q (.bl (!o.isSome)) H2) : tDNotIn ty td σ H Q := h
theorem g_dnewK {σ : St} {H : Hp} {Q : VK} (h : ∀ p, H p = none → Q (.ref p) (upd H p (.dK []))) : tDNewK σ H Q := h
local macro_rules | `(tactic| walk_at "use") => `(tactic| with_reducible first | refine g_dgetI ?_ | refine g_dputI ?_ | refine g_dget1I ?_ | refine g_dget2I ?_ | refine g_dinI ?_ | refine g_dnotinI ?_ | refine g_dnewK ?_)


/-! ### channels: a side of which nothing is taken and that receives nothing (k50) -/
structure Ch where
  q : List Int
  fin : Bool
  br : Option Int
structure Ca where
  a : Addr
  dx : Addr
  q : Addr
  u : Addr
  b : V
def BrO (H : Hp) (b : V) : Option Int → Prop
  | none => b = .non
  | some k => ∃ t, b = .ref t ∧ H t = some (.tup [.str "here", .int k])
theorem BrO.same {H H' : Hp} {b : V} {br : Option Int} (h : BrO H b br) (s : ∀ t o, (∃ k, o = HO.tup k) → H t = some o → H' t = some o) : BrO H' b br := by
  cases br with
  | none => exact h
  | some k =>
    obtain ⟨t, h1, h2⟩ := h
    exact ⟨t, h1, s _ _ ⟨_, rfl⟩ h2⟩
def ChO (C : Addr) (H : Hp) (x : Ca) (c : Ch) (n : Int) : Prop :=
  H x.a = some (.ins C x.dx (obj ky_Channel [.int n, .bl false, .ref x.q, .int 0, .bl c.fin, .bl false, .ref x.u, .int 0, .bl false, x.b, .bl false])) ∧
  H x.q = some (.lst (c.q.map V.int)) ∧ H x.u = some (.lst []) ∧ x.q ≠ x.u ∧ BrO H x.b c.br
/-- what it owns stays -/
theorem ChO.keep {C : Addr} {H H' : Hp} {x : Ca} {c : Ch} {n : Int} (h : ChO C H x c n) (s : ∀ b o, b = x.a ∨ b = x.q ∨ b = x.u ∨ (∃ k, o = HO.tup k) → H b = some o → H' b = some o) : ChO C H' x c n :=
  ⟨s _ _ (.inl rfl) h.1, s _ _ (.inr (.inl rfl)) h.2.1, s _ _ (.inr (.inr (.inl rfl))) h.2.2.1, h.2.2.2.1, h.2.2.2.2.same fun t o k e => s t o (.inr (.inr (.inr k))) e⟩
theorem ChO.same {C : Addr} {H H' : Hp} {x : Ca} {c : Ch} {n : Int} (h : ChO C H x c n) (s : Same H H') : ChO C H' x c n := h.keep fun b o _ e => s b o e
theorem But.free {p l : Addr} {H H' : Hp} {o : HO} (b : But p H H') (k : H' p = some o) (h : H' l = none) : H l = none := by
  cases e : H l with
  | none => rfl
  | some x =>
    by_cases z : l = p
    · rw [z, k] at h
      cases h
    · rw [b _ _ z e] at h
      cases h
def sp_Channel_init__ (C : Addr) : Sp := fun vs H Q _ => ∃ (p dx : Addr) (n : Int), vs = [.ref p, .int n, .bl false] ∧ H p = some (.ins C dx []) ∧
  ∀ q u H', H q = none → H u = none → q ≠ u → But p H H' → ChO C H' ⟨p, dx, q, u, .non⟩ ⟨[], false, none⟩ n → Q .non H'
theorem ok_Channel_init__ (T : Txt P K mg) : FnOk P w K mg base CX0 1 T.f_Channel_init__ T.d_Channel_init__ ["self", "number", "announced"] (sp_Channel_init__ T.C_Channel) := by
  refine T.F_Channel_init__.ok sc_Channel_init__ (fun vs H Q E h => ?_) (fun cdv A outer s H vs Q E hr h => ?_)
  · obtain ⟨p, dx, n, rfl, ho, q⟩ := h
    rfl
  · obtain ⟨p, dx, n, rfl, ho, q⟩ := h
    have hu := hu_of hr
    refine ⟨_, (pss_cons (ps_fld (pv 0) (pv 1) rfl)
        (pss_cons (ps_fld (pv 0) (pv 2) rfl)
        (pss_cons (ps_fld (pv 0) (pe_lst pa_nil) rfl)
        (pss_cons (ps_fld (pv 0) pe_int rfl)
        (pss_cons (ps_fld (pv 0) pe_bl rfl)
        (pss_cons (ps_fld (pv 0) pe_bl rfl)
        (pss_cons (ps_fld (pv 0) (pe_lst pa_nil) rfl)
        (pss_cons (ps_fld (pv 0) pe_int rfl)
        (pss_cons (ps_fld (pv 0) pe_bl rfl)
        (pss_cons (ps_fld (pv 0) pe_non rfl)
        (pss_one (ps_fld (pv 0) pe_bl rfl)))))))))))), ?_⟩
    dsimp only [cxOf, Cx.nox, Cx.wish, L2.start, List.map, List.cons_append, List.nil_append, List.length_cons, List.length_nil, Nat.reduceAdd, Nat.reduceSub, Nat.zero_add, List.replicate_succ, List.replicate_zero]
    have ho : H p = some (.ins T.C_Channel dx (obj ky_Channel [])) := ho
    walk_at "go"
    refine ⟨by show 0 ≤ sizeLine; decide, fun l1 h1 => ?_⟩
    simp only [upd_upd, List.nil_append, List.cons_append] at h1 ⊢
    generalize z1 : upd H p _ = H1 at h1 ⊢
    have b1 : But p H H1 := by rw [← z1]; exact But.refl.upd
    have k1 := (congrFun z1 p).symm.trans upd_same
    clear z1
    have f1 := b1.free k1 h1
    have n1 : l1 ≠ p := fun z => by rw [z, k1] at h1; cases h1
    walk_at "nw"
    rename_i H2 s2 k2
    have k1 := s2 _ _ k1
    have b2 := b1.trans (But.of s2)
    walk_at "go"
    refine ⟨by show 0 ≤ sizeLine; decide, fun l2 h2 => ?_⟩
    simp only [upd_upd, List.nil_append, List.cons_append] at h2 ⊢
    generalize z3 : upd H2 p _ = H3 at h2 ⊢
    have b3 : But p H2 H3 := by rw [← z3]; exact But.refl.upd
    have k3 := (congrFun z3 p).symm.trans upd_same
    clear z3
    have k2 := b3 _ _ n1 k2
    have f2 := (b2.trans b3).free k3 h2
    have n2 : l2 ≠ p := fun z => by rw [z, k3] at h2; cases h2
    have n3 : l1 ≠ l2 := fun z => by rw [← z, k2] at h2; cases h2
    walk_at "nw"
    rename_i H4 s4 k4
    have k3 := s4 _ _ k3
    have b4 := (b2.trans b3).trans (But.of s4)
    walk_at "go"
    simp only [upd_upd, List.nil_append, List.cons_append]
    exact q l1 l2 _ f1 f2 n3 b4.upd ⟨upd_same, by rw [upd_ne n1]; exact s4 _ _ k2, by rw [upd_ne n2]; exact k4, n3, rfl⟩
def sp_Channel_break_off (C : Addr) : Sp := fun vs H Q _ => ∃ (x : Ca) (c : Ch) (n k : Int), vs = [.ref x.a, .str "here", .int k] ∧ ChO C H x c n ∧
  ∀ t q u H', H t = none → H q = none → H u = none → But x.a H H' → ChO C H' ⟨x.a, x.dx, q, u, .ref t⟩ ⟨[], c.fin, some k⟩ n → Q .non H'
theorem ok_Channel_break_off (T : Txt P K mg) : FnOk P w K mg base CX0 1 T.f_Channel_break_off T.d_Channel_break_off ["self", "place", "code"] (sp_Channel_break_off T.C_Channel) := by
  refine T.F_Channel_break_off.ok sc_Channel_break_off (fun vs H Q E h => ?_) (fun cdv A outer s H vs Q E hr h => ?_)
  · obtain ⟨x, c, n, k, rfl, ⟨ho, hq, hu, hne, hb⟩, q⟩ := h
    rfl
  · obtain ⟨x, c, n, k, rfl, ⟨ho, hq, hu, hne, hb⟩, q⟩ := h
    have hu := hu_of hr
    refine ⟨_, (pss_cons (ps_fld (pv 0) (pe_tup (pa_cons (pv 1) (pa_cons (pv 2) pa_nil))) rfl)
        (pss_cons (ps_fld (pv 0) (pe_lst pa_nil) rfl)
        (pss_one (ps_fld (pv 0) (pe_lst pa_nil) rfl)))), ?_⟩
    dsimp only [cxOf, Cx.nox, Cx.wish, L2.start, List.map, List.cons_append, List.nil_append, List.length_cons, List.length_nil, Nat.reduceAdd, Nat.reduceSub, Nat.zero_add, List.replicate_succ, List.replicate_zero]
    walk_at "go"
    refine ⟨by show 2 ≤ sizeLine; decide, fun t ht => ?_⟩
    walk_at "nw"
    rename_i H1 s1 k1
    have k0 := s1 _ _ ho
    walk_at "go"
    refine ⟨by show 0 ≤ sizeLine; decide, fun l1 h1 => ?_⟩
    simp only [upd_upd, List.set_cons_succ, List.set_cons_zero] at h1 ⊢
    generalize z3 : upd H1 x.a _ = H3 at h1 ⊢
    have b3 : But x.a H1 H3 := by rw [← z3]; exact But.refl.upd
    have k3 := (congrFun z3 x.a).symm.trans upd_same
    clear z3
    have b4 := (But.of s1).trans b3
    have f1 := b4.free k3 h1
    have k1 := b3 _ _ (ne_of_none ho ht).symm k1
    have n1 : l1 ≠ x.a := fun z => by rw [z, k3] at h1; cases h1
    walk_at "nw"
    rename_i H4 s4 k4
    have k3 := s4 _ _ k3
    have k1 := s4 _ _ k1
    have b5 := b4.trans (But.of s4)
    walk_at "go"
    refine ⟨by show 0 ≤ sizeLine; decide, fun l2 h2 => ?_⟩
    simp only [upd_upd, List.set_cons_succ, List.set_cons_zero] at h2 ⊢
    generalize z6 : upd H4 x.a _ = H6 at h2 ⊢
    have b6 : But x.a H4 H6 := by rw [← z6]; exact But.refl.upd
    have k6 := (congrFun z6 x.a).symm.trans upd_same
    clear z6
    have b7 := b5.trans b6
    have f2 := b7.free k6 h2
    have k1 := b6 _ _ (ne_of_none ho ht).symm k1
    have k4 := b6 _ _ n1 k4
    have n2 : l2 ≠ x.a := fun z => by rw [z, k6] at h2; cases h2
    have n3 : l1 ≠ l2 := fun z => by rw [← z, k4] at h2; cases h2
    walk_at "nw"
    rename_i H8 s8 k8
    have k6 := s8 _ _ k6
    walk_at "go"
    simp only [upd_upd, List.set_cons_succ, List.set_cons_zero]
    exact q t l1 l2 _ ht f1 f2 (b7.trans (But.of s8)).upd ⟨upd_same, by rw [upd_ne n1]; exact s8 _ _ k4, by rw [upd_ne n2]; exact k8, n3, t, rfl, by rw [upd_ne (ne_of_none ho ht).symm]; exact s8 _ _ k1⟩

end
end My
namespace My
open PySem PySem.Spec L2
local macro_rules | `(tactic| walk_at "side") => `(tactic| first | assumption | decide | omega | exact ⟨by decide, by decide⟩ | exact ⟨by decide, by decide, by decide⟩ | decide +kernel | exact cdivW (by decide +kernel) (by decide +kernel) | exact Or.inl ⟨by omega, by omega⟩ | exact Or.inr ⟨by omega, by omega⟩ | (simp only [List.length_map, List.length_cons, List.length_nil, List.length_append]; omega))
local macro_rules | `(tactic| walk_at "fact") => `(tactic| first | assumption | omega | with_reducible rfl)
local macro_rules | `(tactic| walk_at "use") => `(tactic| fail "use")
local macro_rules | `(tactic| walk_at "go1") => `(tactic| with_reducible first | refine g_seq ?_ | refine g_asg ?_ | refine g_ret ?_ | refine g_ifS ?_ | refine g_drop ?_ | refine g_star ?_ | refine g_nx ?_ | refine g_rt ?_ | refine g_bkE ?_ | refine g_ctE ?_ | refine g_next ?_ | refine g_retN ?_ | refine g_brk ?_ | refine g_ct ?_ | refine g_c ?_ | refine g_op ?_ | refine g_un ?_ | refine g_rI0 ?_ | refine g_rU ?_ | refine g_rEqI ?_ | refine g_rNeI ?_ | refine g_isN ?_ | refine g_rIsB ?_ | refine g_rNotB ?_ | refine g_test ?_ | refine g_B ?_ | refine g_bl ?_ | refine g_and ?_ | refine g_or ?_ | refine g_not ?_ | refine g_andV ?_ | refine g_orV ?_ | refine g_notV ?_ | refine g_if ?_ | refine g_chain ?_ | refine g_yes ?_ | refine g_lc ?_ | refine g_revR ?_ | refine g_rng1 ?_ | refine g_iList ?_ | refine g_nil ?_ | refine g_cons ?_ | refine g_tup ?_ | refine g_lst ?_ | refine g_call ?_ | refine g_CB ?_ | refine g_sl ?_ | refine g_noPart ?_ | refine g_part ?_ | refine g_intE ?_ | refine g_ref ?_ | refine g_fld ?_ | refine g_sfld ?_ | refine g_meth ?_ | refine g_make ?_ | refine g_prop ?_  | refine g_ipI ?_ | refine g_int1 ?_ | refine g_int1B ?_ | refine g_one ?_ | refine g_two ?_ | refine g_isiI ?_ | refine g_isiIB ?_ | refine g_isiB ?_ | refine g_BM ?_ | refine g_BM0 ?_ | refine g_sub ?_)
local macro_rules | `(tactic| walk_at "go") => `(tactic| repeat (first | walk_at "go1" | ((with_reducible refine' g_nameE ?sd_ ?_); case sd_ => dsimp only [List.set_cons_succ, List.set_cons_zero]) | ((with_reducible refine' g_var ?sd_ ?_); case sd_ => exact rfl) | ((with_reducible refine' g_aug ?sd_ ?_); case sd_ => exact rfl) | ((with_reducible refine' g_rI ?sd_ ?_); case sd_ => walk_at "side") | ((with_reducible refine' g_dT ?sd_ ?_); case sd_ => walk_at "fact") | ((with_reducible refine' g_dF ?sd_ ?_); case sd_ => walk_at "fact") | ((with_reducible refine' g_nT ?sd_ ?_); case sd_ => walk_at "fact") | ((with_reducible refine' g_nF ?sd_ ?_); case sd_ => walk_at "fact") | (with_reducible refine g_iT rfl ?_) | (with_reducible refine g_iF rfl ?_) | walk_at "use"))
local macro_rules | `(tactic| walk_at "nw") => `(tactic| (generalize zq : upd _ _ _ = Hq; have sq : Same _ Hq := (by rw [← zq]; exact same_upd (by assumption)); have kq := (congrFun zq _).symm.trans upd_same; clear zq))
local macro_rules | `(tactic| walk_at "bt") => `(tactic| (generalize zq : upd _ _ _ = Hq; have bq : But _ _ Hq := (by rw [← zq]; exact But.refl.upd); have kq := (congrFun zq _).symm.trans upd_same; clear zq))
local macro_rules | `(tactic| walk_at "use") => `(tactic| first | ((with_reducible refine' fd_Channel_number ?ho_ ?hv_ ?_); (case ho_ => first | assumption | exact upd_same); (case hv_ => exact rfl)) | ((with_reducible refine' fd_Channel_announced ?ho_ ?hv_ ?_); (case ho_ => first | assumption | exact upd_same); (case hv_ => exact rfl)) | ((with_reducible refine' fd_Channel_queue ?ho_ ?hv_ ?_); (case ho_ => first | assumption | exact upd_same); (case hv_ => exact rfl)) | ((with_reducible refine' fd_Channel_credit ?ho_ ?hv_ ?_); (case ho_ => first | assumption | exact upd_same); (case hv_ => exact rfl)) | ((with_reducible refine' fd_Channel_finished ?ho_ ?hv_ ?_); (case ho_ => first | assumption | exact upd_same); (case hv_ => exact rfl)) | ((with_reducible refine' fd_Channel_end_sent ?ho_ ?hv_ ?_); (case ho_ => first | assumption | exact upd_same); (case hv_ => exact rfl)) | ((with_reducible refine' fd_Channel_unread ?ho_ ?hv_ ?_); (case ho_ => first | assumption | exact upd_same); (case hv_ => exact rfl)) | ((with_reducible refine' fd_Channel_due ?ho_ ?hv_ ?_); (case ho_ => first | assumption | exact upd_same); (case hv_ => exact rfl)) | ((with_reducible refine' fd_Channel_end_came ?ho_ ?hv_ ?_); (case ho_ => first | assumption | exact upd_same); (case hv_ => exact rfl)) | ((with_reducible refine' fd_Channel_broken ?ho_ ?hv_ ?_); (case ho_ => first | assumption | exact upd_same); (case hv_ => exact rfl)) | ((with_reducible refine' fd_Channel_reset_told ?ho_ ?hv_ ?_); (case ho_ => first | assumption | exact upd_same); (case hv_ => exact rfl)) | ((with_reducible refine' nw_Channel_number ?ho_ ?hv_ ?_); (case ho_ => first | assumption | exact upd_same); (case hv_ => exact rfl)) | ((with_reducible refine' nw_Channel_announced ?ho_ ?hv_ ?_); (case ho_ => first | assumption | exact upd_same); (case hv_ => exact rfl)) | ((with_reducible refine' nw_Channel_queue ?ho_ ?hv_ ?_); (case ho_ => first | assumption | exact upd_same); (case hv_ => exact rfl)) | ((with_reducible refine' nw_Channel_credit ?ho_ ?hv_ ?_); (case ho_ => first | assumption | exact upd_same); (case hv_ => exact rfl)) | ((with_reducible refine' nw_Channel_finished ?ho_ ?hv_ ?_); (case ho_ => first | assumption | exact upd_same); (case hv_ => exact rfl)) | ((with_reducible refine' nw_Channel_end_sent ?ho_ ?hv_ ?_); (case ho_ => first | assumption | exact upd_same); (case hv_ => exact rfl)) | ((with_reducible refine' nw_Channel_unread ?ho_ ?hv_ ?_); (case ho_ => first | assumption | exact upd_same); (case hv_ => exact rfl)) | ((with_reducible refine' nw_Channel_due ?ho_ ?hv_ ?_); (case ho_ => first | assumption | exact upd_same); (case hv_ => exact rfl)) | ((with_reducible refine' nw_Channel_end_came ?ho_ ?hv_ ?_); (case ho_ => first | assumption | exact upd_same); (case hv_ => exact rfl)) | ((with_reducible refine' nw_Channel_broken ?ho_ ?hv_ ?_); (case ho_ => first | assumption | exact upd_same); (case hv_ => exact rfl)) | ((with_reducible refine' nw_Channel_reset_told ?ho_ ?hv_ ?_); (case ho_ => first | assumption | exact upd_same); (case hv_ => exact rfl)) | ((with_reducible refine' st_Channel_number ?ho_ ?hv_ ?_); (case ho_ => first | assumption | exact upd_same); (case hv_ => exact Nat.le_of_ble_eq_true rfl)) | ((with_reducible refine' st_Channel_announced ?ho_ ?hv_ ?_); (case ho_ => first | assumption | exact upd_same); (case hv_ => exact Nat.le_of_ble_eq_true rfl)) | ((with_reducible refine' st_Channel_queue ?ho_ ?hv_ ?_); (case ho_ => first | assumption | exact upd_same); (case hv_ => exact Nat.le_of_ble_eq_true rfl)) | ((with_reducible refine' st_Channel_credit ?ho_ ?hv_ ?_); (case ho_ => first | assumption | exact upd_same); (case hv_ => exact Nat.le_of_ble_eq_true rfl)) | ((with_reducible refine' st_Channel_finished ?ho_ ?hv_ ?_); (case ho_ => first | assumption | exact upd_same); (case hv_ => exact Nat.le_of_ble_eq_true rfl)) | ((with_reducible refine' st_Channel_end_sent ?ho_ ?hv_ ?_); (case ho_ => first | assumption | exact upd_same); (case hv_ => exact Nat.le_of_ble_eq_true rfl)) | ((with_reducible refine' st_Channel_unread ?ho_ ?hv_ ?_); (case ho_ => first | assumption | exact upd_same); (case hv_ => exact Nat.le_of_ble_eq_true rfl)) | ((with_reducible refine' st_Channel_due ?ho_ ?hv_ ?_); (case ho_ => first | assumption | exact upd_same); (case hv_ => exact Nat.le_of_ble_eq_true rfl)) | ((with_reducible refine' st_Channel_end_came ?ho_ ?hv_ ?_); (case ho_ => first | assumption | exact upd_same); (case hv_ => exact Nat.le_of_ble_eq_true rfl)) | ((with_reducible refine' st_Channel_broken ?ho_ ?hv_ ?_); (case ho_ => first | assumption | exact upd_same); (case hv_ => exact Nat.le_of_ble_eq_true rfl)) | ((with_reducible refine' st_Channel_reset_told ?ho_ ?hv_ ?_); (case ho_ => first | assumption | exact upd_same); (case hv_ => exact Nat.le_of_ble_eq_true rfl)) | ((with_reducible refine' me_Channel_break_off ?ho_ ?_); (case ho_ => first | assumption | exact upd_same)))
local macro_rules | `(tactic| walk_at "use") => `(tactic| first | ((with_reducible refine' fd_Channels_failure ?ho_ ?hv_ ?_); (case ho_ => first | assumption | exact upd_same); (case hv_ => exact rfl)) | ((with_reducible refine' fd_Channels__window ?ho_ ?hv_ ?_); (case ho_ => first | assumption | exact upd_same); (case hv_ => exact rfl)) | ((with_reducible refine' fd_Channels__most ?ho_ ?hv_ ?_); (case ho_ => first | assumption | exact upd_same); (case hv_ => exact rfl)) | ((with_reducible refine' fd_Channels__next_here ?ho_ ?hv_ ?_); (case ho_ => first | assumption | exact upd_same); (case hv_ => exact rfl)) | ((with_reducible refine' fd_Channels__next_there ?ho_ ?hv_ ?_); (case ho_ => first | assumption | exact upd_same); (case hv_ => exact rfl)) | ((with_reducible refine' fd_Channels__channels ?ho_ ?hv_ ?_); (case ho_ => first | assumption | exact upd_same); (case hv_ => exact rfl)) | ((with_reducible refine' fd_Channels__numbers ?ho_ ?hv_ ?_); (case ho_ => first | assumption | exact upd_same); (case hv_ => exact rfl)) | ((with_reducible refine' fd_Channels__turns ?ho_ ?hv_ ?_); (case ho_ => first | assumption | exact upd_same); (case hv_ => exact rfl)) | ((with_reducible refine' fd_Channels__offered ?ho_ ?hv_ ?_); (case ho_ => first | assumption | exact upd_same); (case hv_ => exact rfl)) | ((with_reducible refine' fd_Channels__going ?ho_ ?hv_ ?_); (case ho_ => first | assumption | exact upd_same); (case hv_ => exact rfl)) | ((with_reducible refine' fd_Channels__coming ?ho_ ?hv_ ?_); (case ho_ => first | assumption | exact upd_same); (case hv_ => exact rfl)) | ((with_reducible refine' nw_Channels_failure ?ho_ ?hv_ ?_); (case ho_ => first | assumption | exact upd_same); (case hv_ => exact rfl)) | ((with_reducible refine' nw_Channels__window ?ho_ ?hv_ ?_); (case ho_ => first | assumption | exact upd_same); (case hv_ => exact rfl)) | ((with_reducible refine' nw_Channels__most ?ho_ ?hv_ ?_); (case ho_ => first | assumption | exact upd_same); (case hv_ => exact rfl)) | ((with_reducible refine' nw_Channels__next_here ?ho_ ?hv_ ?_); (case ho_ => first | assumption | exact upd_same); (case hv_ => exact rfl)) | ((with_reducible refine' nw_Channels__next_there ?ho_ ?hv_ ?_); (case ho_ => first | assumption | exact upd_same); (case hv_ => exact rfl)) | ((with_reducible refine' nw_Channels__channels ?ho_ ?hv_ ?_); (case ho_ => first | assumption | exact upd_same); (case hv_ => exact rfl)) | ((with_reducible refine' nw_Channels__numbers ?ho_ ?hv_ ?_); (case ho_ => first | assumption | exact upd_same); (case hv_ => exact rfl)) | ((with_reducible refine' nw_Channels__turns ?ho_ ?hv_ ?_); (case ho_ => first | assumption | exact upd_same); (case hv_ => exact rfl)) | ((with_reducible refine' nw_Channels__offered ?ho_ ?hv_ ?_); (case ho_ => first | assumption | exact upd_same); (case hv_ => exact rfl)) | ((with_reducible refine' nw_Channels__going ?ho_ ?hv_ ?_); (case ho_ => first | assumption | exact upd_same); (case hv_ => exact rfl)) | ((with_reducible refine' nw_Channels__coming ?ho_ ?hv_ ?_); (case ho_ => first | assumption | exact upd_same); (case hv_ => exact rfl)) | ((with_reducible refine' st_Channels_failure ?ho_ ?hv_ ?_); (case ho_ => first | assumption | exact upd_same); (case hv_ => exact Nat.le_of_ble_eq_true rfl)) | ((with_reducible refine' st_Channels__window ?ho_ ?hv_ ?_); (case ho_ => first | assumption | exact upd_same); (case hv_ => exact Nat.le_of_ble_eq_true rfl)) | ((with_reducible refine' st_Channels__most ?ho_ ?hv_ ?_); (case ho_ => first | assumption | exact upd_same); (case hv_ => exact Nat.le_of_ble_eq_true rfl)) | ((with_reducible refine' st_Channels__next_here ?ho_ ?hv_ ?_); (case ho_ => first | assumption | exact upd_same); (case hv_ => exact Nat.le_of_ble_eq_true rfl)) | ((with_reducible refine' st_Channels__next_there ?ho_ ?hv_ ?_); (case ho_ => first | assumption | exact upd_same); (case hv_ => exact Nat.le_of_ble_eq_true rfl)) | ((with_reducible refine' st_Channels__channels ?ho_ ?hv_ ?_); (case ho_ => first | assumption | exact upd_same); (case hv_ => exact Nat.le_of_ble_eq_true rfl)) | ((with_reducible refine' st_Channels__numbers ?ho_ ?hv_ ?_); (case ho_ => first | assumption | exact upd_same); (case hv_ => exact Nat.le_of_ble_eq_true rfl)) | ((with_reducible refine' st_Channels__turns ?ho_ ?hv_ ?_); (case ho_ => first | assumption | exact upd_same); (case hv_ => exact Nat.le_of_ble_eq_true rfl)) | ((with_reducible refine' st_Channels__offered ?ho_ ?hv_ ?_); (case ho_ => first | assumption | exact upd_same); (case hv_ => exact Nat.le_of_ble_eq_true rfl)) | ((with_reducible refine' st_Channels__going ?ho_ ?hv_ ?_); (case ho_ => first | assumption | exact upd_same); (case hv_ => exact Nat.le_of_ble_eq_true rfl)) | ((with_reducible refine' st_Channels__coming ?ho_ ?hv_ ?_); (case ho_ => first | assumption | exact upd_same); (case hv_ => exact Nat.le_of_ble_eq_true rfl)) | ((with_reducible refine' me_Channels_len__ ?ho_ ?_); (case ho_ => first | assumption | exact upd_same)) | ((with_reducible refine' me_Channels_iter__ ?ho_ ?_); (case ho_ => first | assumption | exact upd_same)) | ((with_reducible refine' me_Channels_open_channel ?ho_ ?_); (case ho_ => first | assumption | exact upd_same)) | ((with_reducible refine' me_Channels_accept ?ho_ ?_); (case ho_ => first | assumption | exact upd_same)) | ((with_reducible refine' me_Channels_write ?ho_ ?_); (case ho_ => first | assumption | exact upd_same)) | ((with_reducible refine' me_Channels_read ?ho_ ?_); (case ho_ => first | assumption | exact upd_same)) | ((with_reducible refine' me_Channels_finish ?ho_ ?_); (case ho_ => first | assumption | exact upd_same)) | ((with_reducible refine' me_Channels_reset ?ho_ ?_); (case ho_ => first | assumption | exact upd_same)) | ((with_reducible refine' me_Channels_status ?ho_ ?_); (case ho_ => first | assumption | exact upd_same)) | ((with_reducible refine' me_Channels_known ?ho_ ?_); (case ho_ => first | assumption | exact upd_same)) | ((with_reducible refine' me_Channels_add ?ho_ ?_); (case ho_ => first | assumption | exact upd_same)) | ((with_reducible refine' me_Channels_room_of ?ho_ ?_); (case ho_ => first | assumption | exact upd_same)))
section
variable {P : Program} {w : World} {K : PySem.W.Frag} {mg : Str → Option Value} {base : Heap}
local macro_rules | `(tactic| walk_at "use") => `(tactic| with_reducible first | refine g_rs0 ?_ | refine g_rs1 ?_ | refine g_tryA ?_ | refine g_tryO ?_ | refine g_callS ?_ | refine g_joined ?_ | refine g_jsnil ?_ | refine g_jscons ?_ | refine g_fmt ?_)
local macro_rules | `(tactic| walk_at "fit") => `(tactic| (refine fit2 ?_; (try simp only [PySem.Str.length_append]); omega))
local macro_rules | `(tactic| walk_at "use") => `(tactic| first | ((with_reducible refine' g_addS ?sd_ ?_); case sd_ => (first | omega | (simp only [PySem.Str.length_append]; omega))) | ((with_reducible refine' g_slS ?sd_ ?_); case sd_ => omega) | (with_reducible refine g_m0 ?_))

local macro_rules | `(tactic| walk_at "use") => `(tactic| with_reducible first | refine g_dgetI ?_ | refine g_dputI ?_ | refine g_dget1I ?_ | refine g_dget2I ?_ | refine g_dinI ?_ | refine g_dnotinI ?_ | refine g_dnewK ?_)

def nb (t : Int) (i : Nat) : Int := 2 * (i : Int) + 1 + t
def nbs (t : Int) (n : Nat) : List Int := (List.range n).map (nb t)
def pos (t : Int) (n : Nat) (k : Int) : Option Nat := if 0 ≤ k - 1 - t ∧ (k - 1 - t) % 2 = 0 ∧ (k - 1 - t) / 2 < (n : Int) then some ((k - 1 - t) / 2).toNat else none
theorem pos_some {t k : Int} {n i : Nat} : pos t n k = some i ↔ i < n ∧ k = nb t i := by
  unfold pos nb
  constructor
  · intro h
    split at h
    · cases h
      omega
    · cases h
  · rintro ⟨h1, h2⟩
    rw [if_pos (by omega)]
    congr 1
    omega
structure Sa where
  p : Addr
  dx : Addr
  cd : Addr
  nl : Addr
  tl : Addr
  ol : Addr
  gl : Addr
  cl : Addr
  nt : Int
def sdV (S : Sa) (w m t : Int) (n : Nat) : List V := [.non, .int w, .int m, .int (nb t n), .int S.nt, .ref S.cd, .ref S.nl, .ref S.tl, .ref S.ol, .ref S.gl, .ref S.cl]
structure SdO (CS CC : Addr) (own : Addr → Option Nat) (H : Hp) (S : Sa) (x : Nat → Ca) (w m t : Int) (cs : List Ch) : Prop where
  ho : H S.p = some (.ins CS S.dx (obj ky_Channels [.non, .int w, .int m, .int (nb t cs.length), .int S.nt, .ref S.cd, .ref S.nl, .ref S.tl, .ref S.ol, .ref S.gl, .ref S.cl]))
  hd : Dk H S.cd (fun k => (pos t cs.length k).map fun i => V.ref (x i).a) cs.length
  hn : H S.nl = some (.lst ((nbs t cs.length).map V.int))
  ht : H S.tl = some (.lst ((nbs t cs.length).map V.int))
  hl : H S.ol = some (.lst [])
  hc : ∀ (i : Nat) (c : Ch), cs[i]? = some c → ChO CC H (x i) c (nb t i)
  oc : ∀ i, i < cs.length → own (x i).a = some (i + 1) ∧ own (x i).q = some (i + 1) ∧ own (x i).u = some (i + 1)
  op : own S.p = some 0
  od : own S.cd = some 0
  on : own S.nl = some 0
  ot : own S.tl = some 0
  ol : own S.ol = some 0
  n1 : S.nl ≠ S.tl
  n2 : S.tl ≠ S.ol
  hw : 1 ≤ w ∧ w ≤ 65535
  hm : 1 ≤ m ∧ m ≤ 65535
  h1 : 0 ≤ t ∧ t ≤ 1
  h2 : cs.length ≤ 100
  hq : ∀ (i : Nat) (c : Ch), cs[i]? = some c → (c.q.length : Int) ≤ w
def room (w : Int) (c : Ch) : Int := if c.fin = true ∨ c.br ≠ none then 0 else w - (c.q.length : Int)
def sp_Channels_room_of (CS CC : Addr) : Sp := fun vs H Q _ => ∃ (own : Addr → Option Nat) (S : Sa) (x : Nat → Ca) (w m t : Int) (cs : List Ch) (i : Nat) (c : Ch), vs = [.ref S.p, .ref (x i).a] ∧ SdO CS CC own H S x w m t cs ∧ cs[i]? = some c ∧ Q (.int (room w c)) H
theorem ok_Channels_room_of (T : Txt P K mg) : FnOk P w K mg base CX0 1 T.f_Channels_room_of T.d_Channels_room_of ["self", "channel"] (sp_Channels_room_of T.C_Channels T.C_Channel) := by
  refine T.F_Channels_room_of.ok sc_Channels_room_of (fun vs H Q E h => ?_) (fun cdv A outer s H vs Q E hr h => ?_)
  · obtain ⟨own, S, x, w, m, t, cs, i, c, rfl, O, hi, q⟩ := h
    rfl
  · obtain ⟨own, S, x, w, m, t, cs, i, c, rfl, O, hi, q⟩ := h
    have hu := hu_of hr
    refine ⟨_, (pss_cons (ps_if (PW.pt (pw_or (pt_val (pe_fld (pv 1) rfl)) (pw_or (pt_cmpR op_notN (pe_fld (pv 1) rfl) pe_non (nomark _)) (pw_or1 (pt_cmpR op_notN (pe_fld (pv 0) rfl) pe_non (nomark _)))))) (pss_one (ps_ret pe_int)) pss_nil)
        (pss_one (ps_ret (pe_op op_sub (pe_fld (pv 0) rfl) (pe_callB call_len_seq (by rfl) T.n_len (by decide +kernel) (pa_cons (pe_fld (pv 1) rfl) pa_nil)))))), ?_⟩
    dsimp only [cxOf, Cx.nox, Cx.wish, L2.start, List.map, List.cons_append, List.nil_append, List.length_cons, List.length_nil, Nat.reduceAdd, Nat.reduceSub, Nat.zero_add, List.replicate_succ, List.replicate_zero]
    have ho := O.ho
    obtain ⟨hc, hq, hu, hne, hb⟩ := O.hc i c hi
    unfold room at q
    generalize hbv : (x i).b = b at hb
    rw [hbv] at hc
    obtain ⟨cq, cf, cb⟩ := c
    dsimp only at hc hq hb q
    cases cf
    · cases cb with
      | none =>
        subst hb
        rw [if_neg (by simp)] at q
        walk_at "go"
        refine g_len (.inl (sl hq)) ?_
        rw [List.length_map]
        walk_at "go"
        exact q
      | some k =>
        obtain ⟨tb, rfl, hk⟩ := hb
        rw [if_pos (by simp)] at q
        walk_at "go"
        exact q
    · rw [if_pos (by simp)] at q
      walk_at "go"
      exact q
def sp_Channels_len__ (CS CC : Addr) : Sp := fun vs H Q _ => ∃ (own : Addr → Option Nat) (S : Sa) (x : Nat → Ca) (w m t : Int) (cs : List Ch), vs = [.ref S.p] ∧ SdO CS CC own H S x w m t cs ∧ Q (.int (cs.length : Int)) H
theorem ok_Channels_len__ (T : Txt P K mg) : FnOk P w K mg base CX0 1 T.f_Channels_len__ T.d_Channels_len__ ["self"] (sp_Channels_len__ T.C_Channels T.C_Channel) := by
  refine T.F_Channels_len__.ok sc_Channels_len__ (fun vs H Q E h => ?_) (fun cdv A outer s H vs Q E hr h => ?_)
  · obtain ⟨own, S, x, w, m, t, cs, rfl, O, q⟩ := h
    rfl
  · obtain ⟨own, S, x, w, m, t, cs, rfl, O, q⟩ := h
    have hu := hu_of hr
    refine ⟨_, (pss_one (ps_ret (pe_callB call_len_seq (by rfl) T.n_len (by decide +kernel) (pa_cons (pe_fld (pv 0) rfl) pa_nil)))), ?_⟩
    dsimp only [cxOf, Cx.nox, Cx.wish, L2.start, List.map, List.cons_append, List.nil_append, List.length_cons, List.length_nil, Nat.reduceAdd, Nat.reduceSub, Nat.zero_add, List.replicate_succ, List.replicate_zero]
    have ho := O.ho
    walk_at "go"
    refine g_len (.inl (sl O.hn)) ?_
    rw [List.length_map, nbs, List.length_map, List.length_range]
    walk_at "go"
    exact q
def sp_Channels_accept (CS CC : Addr) : Sp := fun vs H Q _ => ∃ (own : Addr → Option Nat) (S : Sa) (x : Nat → Ca) (w m t : Int) (cs : List Ch), vs = [.ref S.p] ∧ SdO CS CC own H S x w m t cs ∧ Q .non H
theorem ok_Channels_accept (T : Txt P K mg) : FnOk P w K mg base CX0 1 T.f_Channels_accept T.d_Channels_accept ["self"] (sp_Channels_accept T.C_Channels T.C_Channel) := by
  refine T.F_Channels_accept.ok sc_Channels_accept (fun vs H Q E h => ?_) (fun cdv A outer s H vs Q E hr h => ?_)
  · obtain ⟨own, S, x, w, m, t, cs, rfl, O, q⟩ := h
    rfl
  · obtain ⟨own, S, x, w, m, t, cs, rfl, O, q⟩ := h
    have hu := hu_of hr
    refine ⟨_, (pss_cons (ps_if (pt_cmpR op_eq (pe_callB call_len_seq (by rfl) T.n_len (by decide +kernel) (pa_cons (pe_fld (pv 0) rfl) pa_nil)) pe_int (nomark _)) (pss_one (ps_ret pe_non)) pss_nil)
        (pss_one (ps_ret (pe_bm PySem.F.plainAttrs_list PySem.F.slot_list_pop PySem.F.type_list_pop mt_pop (pe_fld (pv 0) rfl) (pa_cons pe_int pa_nil))))), ?_⟩
    dsimp only [cxOf, Cx.nox, Cx.wish, L2.start, List.map, List.cons_append, List.nil_append, List.length_cons, List.length_nil, Nat.reduceAdd, Nat.reduceSub, Nat.zero_add, List.replicate_succ, List.replicate_zero]
    have ho := O.ho
    walk_at "go"
    refine g_len (.inl (sl O.hl)) ?_
    walk_at "go"
    exact q
def sp_Channels_known (CS CC UC : Addr) : Sp := fun vs H Q E => ∃ (own : Addr → Option Nat) (S : Sa) (x : Nat → Ca) (w m t : Int) (cs : List Ch) (k : Int), vs = [.ref S.p, .int k] ∧ SdO CS CC own H S x w m t cs ∧ 0 ≤ k ∧ k ≤ 1000000 ∧
  ((∃ i, pos t cs.length k = some i ∧ Q (.ref (x i).a) H) ∨ (pos t cs.length k = none ∧ E (.ref UC) none H))
theorem ok_Channels_known (T : Txt P K mg) : FnOk P w K mg base (L2.CX P w) 1 T.f_Channels_known T.d_Channels_known ["self", "number"] (sp_Channels_known T.C_Channels T.C_Channel T.C_UnknownChannel) := by
  refine T.F_Channels_known.okX sc_Channels_known (fun vs H Q E h => ?_) (fun cdv A outer s H vs Q E hr h => ?_)
  · obtain ⟨own, S, x, w, m, t, cs, k, rfl, O, h0, h1, q⟩ := h
    rfl
  · obtain ⟨own, S, x, w, m, t, cs, k, rfl, O, h0, h1, q⟩ := h
    have hu := hu_of hr
    refine ⟨_, (pss_cons (ps_if (pt_cmp (pc_dnotin hu (pv 1) (pe_fld (pv 0) rfl))) (pss_one (ps_rs rfl (takes_of rfl rfl rfl rfl) (pmk_1 PySem.F.excBase_ValueError T.xP_UnknownChannel T.c_UnknownChannel T.ke_UnknownChannel (raises_own T.be_UnknownChannel T.te_UnknownChannel) rfl (pe_joinedJ (.cons pe_str (.cons (pe_fmt (pv 1)) .nil)))))) pss_nil)
        (pss_one (ps_ret (pe_dget hu (pe_fld (pv 0) rfl) (pv 1) (fun _ _ => rfl))))), ?_⟩
    dsimp only [cxOf, Cx.nox, Cx.wish, L2.start, List.map, List.cons_append, List.nil_append, List.length_cons, List.length_nil, Nat.reduceAdd, Nat.reduceSub, Nat.zero_add, List.replicate_succ, List.replicate_zero]
    have ho := O.ho
    have hd := O.hd.get k
    rcases q with ⟨i, e, q⟩ | ⟨e, q⟩
    · rw [e] at hd
      walk_at "go"
      refine ⟨S.cd, _, rfl, hd, ?_⟩
      walk_at "go"
      exact ⟨S.cd, _, rfl, hd, q⟩
    · rw [e] at hd
      walk_at "go"
      refine ⟨S.cd, _, rfl, hd, ?_⟩
      walk_at "go"
      have e0 : Str.empty.length = 0 := by decide
      have e1 : (Str.ofString "no channel ").length = 11 := by decide +kernel
      have e3 := itext (i := k) (by omega)
      refine g_jsE (by walk_at "fit") ?_
      walk_at "go"
      refine g_fmtI (log_lt (by omega)) ?_
      refine g_jsE (by walk_at "fit") ?_
      walk_at "go"
      exact q

end
end My
namespace My
open PySem PySem.Spec L2
local macro_rules | `(tactic| walk_at "side") => `(tactic| first | assumption | decide | omega | exact ⟨by decide, by decide⟩ | exact ⟨by decide, by decide, by decide⟩ | decide +kernel | exact cdivW (by decide +kernel) (by decide +kernel) | exact Or.inl ⟨by omega, by omega⟩ | exact Or.inr ⟨by omega, by omega⟩ | (simp only [List.length_map, List.length_cons, List.length_nil, List.length_append]; omega))
local macro_rules | `(tactic| walk_at "fact") => `(tactic| first | assumption | omega | with_reducible rfl)
local macro_rules | `(tactic| walk_at "use") => `(tactic| fail "use")
local macro_rules | `(tactic| walk_at "go1") => `(tactic| with_reducible first | refine g_seq ?_ | refine g_asg ?_ | refine g_ret ?_ | refine g_ifS ?_ | refine g_drop ?_ | refine g_star ?_ | refine g_nx ?_ | refine g_rt ?_ | refine g_bkE ?_ | refine g_ctE ?_ | refine g_next ?_ | refine g_retN ?_ | refine g_brk ?_ | refine g_ct ?_ | refine g_c ?_ | refine g_op ?_ | refine g_un ?_ | refine g_rI0 ?_ | refine g_rU ?_ | refine g_rEqI ?_ | refine g_rNeI ?_ | refine g_isN ?_ | refine g_rIsB ?_ | refine g_rNotB ?_ | refine g_test ?_ | refine g_B ?_ | refine g_bl ?_ | refine g_and ?_ | refine g_or ?_ | refine g_not ?_ | refine g_andV ?_ | refine g_orV ?_ | refine g_notV ?_ | refine g_if ?_ | refine g_chain ?_ | refine g_yes ?_ | refine g_lc ?_ | refine g_revR ?_ | refine g_rng1 ?_ | refine g_iList ?_ | refine g_nil ?_ | refine g_cons ?_ | refine g_tup ?_ | refine g_lst ?_ | refine g_call ?_ | refine g_CB ?_ | refine g_sl ?_ | refine g_noPart ?_ | refine g_part ?_ | refine g_intE ?_ | refine g_ref ?_ | refine g_fld ?_ | refine g_sfld ?_ | refine g_meth ?_ | refine g_make ?_ | refine g_prop ?_  | refine g_ipI ?_ | refine g_int1 ?_ | refine g_int1B ?_ | refine g_one ?_ | refine g_two ?_ | refine g_isiI ?_ | refine g_isiIB ?_ | refine g_isiB ?_ | refine g_BM ?_ | refine g_BM0 ?_ | refine g_sub ?_)
local macro_rules | `(tactic| walk_at "go") => `(tactic| repeat (first | walk_at "go1" | ((with_reducible refine' g_nameE ?sd_ ?_); case sd_ => dsimp only [List.set_cons_succ, List.set_cons_zero]) | ((with_reducible refine' g_var ?sd_ ?_); case sd_ => exact rfl) | ((with_reducible refine' g_aug ?sd_ ?_); case sd_ => exact rfl) | ((with_reducible refine' g_rI ?sd_ ?_); case sd_ => walk_at "side") | ((with_reducible refine' g_dT ?sd_ ?_); case sd_ => walk_at "fact") | ((with_reducible refine' g_dF ?sd_ ?_); case sd_ => walk_at "fact") | ((with_reducible refine' g_nT ?sd_ ?_); case sd_ => walk_at "fact") | ((with_reducible refine' g_nF ?sd_ ?_); case sd_ => walk_at "fact") | (with_reducible refine g_iT rfl ?_) | (with_reducible refine g_iF rfl ?_) | walk_at "use"))
local macro_rules | `(tactic| walk_at "nw") => `(tactic| (generalize zq : upd _ _ _ = Hq; have sq : Same _ Hq := (by rw [← zq]; exact same_upd (by assumption)); have kq := (congrFun zq _).symm.trans upd_same; clear zq))
local macro_rules | `(tactic| walk_at "bt") => `(tactic| (generalize zq : upd _ _ _ = Hq; have bq : But _ _ Hq := (by rw [← zq]; exact But.refl.upd); have kq := (congrFun zq _).symm.trans upd_same; clear zq))
local macro_rules | `(tactic| walk_at "use") => `(tactic| first | ((with_reducible refine' fd_Channel_number ?ho_ ?hv_ ?_); (case ho_ => first | assumption | exact upd_same); (case hv_ => exact rfl)) | ((with_reducible refine' fd_Channel_announced ?ho_ ?hv_ ?_); (case ho_ => first | assumption | exact upd_same); (case hv_ => exact rfl)) | ((with_reducible refine' fd_Channel_queue ?ho_ ?hv_ ?_); (case ho_ => first | assumption | exact upd_same); (case hv_ => exact rfl)) | ((with_reducible refine' fd_Channel_credit ?ho_ ?hv_ ?_); (case ho_ => first | assumption | exact upd_same); (case hv_ => exact rfl)) | ((with_reducible refine' fd_Channel_finished ?ho_ ?hv_ ?_); (case ho_ => first | assumption | exact upd_same); (case hv_ => exact rfl)) | ((with_reducible refine' fd_Channel_end_sent ?ho_ ?hv_ ?_); (case ho_ => first | assumption | exact upd_same); (case hv_ => exact rfl)) | ((with_reducible refine' fd_Channel_unread ?ho_ ?hv_ ?_); (case ho_ => first | assumption | exact upd_same); (case hv_ => exact rfl)) | ((with_reducible refine' fd_Channel_due ?ho_ ?hv_ ?_); (case ho_ => first | assumption | exact upd_same); (case hv_ => exact rfl)) | ((with_reducible refine' fd_Channel_end_came ?ho_ ?hv_ ?_); (case ho_ => first | assumption | exact upd_same); (case hv_ => exact rfl)) | ((with_reducible refine' fd_Channel_broken ?ho_ ?hv_ ?_); (case ho_ => first | assumption | exact upd_same); (case hv_ => exact rfl)) | ((with_reducible refine' fd_Channel_reset_told ?ho_ ?hv_ ?_); (case ho_ => first | assumption | exact upd_same); (case hv_ => exact rfl)) | ((with_reducible refine' nw_Channel_number ?ho_ ?hv_ ?_); (case ho_ => first | assumption | exact upd_same); (case hv_ => exact rfl)) | ((with_reducible refine' nw_Channel_announced ?ho_ ?hv_ ?_); (case ho_ => first | assumption | exact upd_same); (case hv_ => exact rfl)) | ((with_reducible refine' nw_Channel_queue ?ho_ ?hv_ ?_); (case ho_ => first | assumption | exact upd_same); (case hv_ => exact rfl)) | ((with_reducible refine' nw_Channel_credit ?ho_ ?hv_ ?_); (case ho_ => first | assumption | exact upd_same); (case hv_ => exact rfl)) | ((with_reducible refine' nw_Channel_finished ?ho_ ?hv_ ?_); (case ho_ => first | assumption | exact upd_same); (case hv_ => exact rfl)) | ((with_reducible refine' nw_Channel_end_sent ?ho_ ?hv_ ?_); (case ho_ => first | assumption | exact upd_same); (case hv_ => exact rfl)) | ((with_reducible refine' nw_Channel_unread ?ho_ ?hv_ ?_); (case ho_ => first | assumption | exact upd_same); (case hv_ => exact rfl)) | ((with_reducible refine' nw_Channel_due ?ho_ ?hv_ ?_); (case ho_ => first | assumption | exact upd_same); (case hv_ => exact rfl)) | ((with_reducible refine' nw_Channel_end_came ?ho_ ?hv_ ?_); (case ho_ => first | assumption | exact upd_same); (case hv_ => exact rfl)) | ((with_reducible refine' nw_Channel_broken ?ho_ ?hv_ ?_); (case ho_ => first | assumption | exact upd_same); (case hv_ => exact rfl)) | ((with_reducible refine' nw_Channel_reset_told ?ho_ ?hv_ ?_); (case ho_ => first | assumption | exact upd_same); (case hv_ => exact rfl)) | ((with_reducible refine' st_Channel_number ?ho_ ?hv_ ?_); (case ho_ => first | assumption | exact upd_same); (case hv_ => exact Nat.le_of_ble_eq_true rfl)) | ((with_reducible refine' st_Channel_announced ?ho_ ?hv_ ?_); (case ho_ => first | assumption | exact upd_same); (case hv_ => exact Nat.le_of_ble_eq_true rfl)) | ((with_reducible refine' st_Channel_queue ?ho_ ?hv_ ?_); (case ho_ => first | assumption | exact upd_same); (case hv_ => exact Nat.le_of_ble_eq_true rfl)) | ((with_reducible refine' st_Channel_credit ?ho_ ?hv_ ?_); (case ho_ => first | assumption | exact upd_same); (case hv_ => exact Nat.le_of_ble_eq_true rfl)) | ((with_reducible refine' st_Channel_finished ?ho_ ?hv_ ?_); (case ho_ => first | assumption | exact upd_same); (case hv_ => exact Nat.le_of_ble_eq_true rfl)) | ((with_reducible refine' st_Channel_end_sent ?ho_ ?hv_ ?_); (case ho_ => first | assumption | exact upd_same); (case hv_ => exact Nat.le_of_ble_eq_true rfl)) | ((with_reducible refine' st_Channel_unread ?ho_ ?hv_ ?_); (case ho_ => first | assumption | exact upd_same); (case hv_ => exact Nat.le_of_ble_eq_true rfl)) | ((with_reducible refine' st_Channel_due ?ho_ ?hv_ ?_); (case ho_ => first | assumption | exact upd_same); (case hv_ => exact Nat.le_of_ble_eq_true rfl)) | ((with_reducible refine' st_Channel_end_came ?ho_ ?hv_ ?_); (case ho_ => first | assumption | exact upd_same); (case hv_ => exact Nat.le_of_ble_eq_true rfl)) | ((with_reducible refine' st_Channel_broken ?ho_ ?hv_ ?_); (case ho_ => first | assumption | exact upd_same); (case hv_ => exact Nat.le_of_ble_eq_true rfl)) | ((with_reducible refine' st_Channel_reset_told ?ho_ ?hv_ ?_); (case ho_ => first | assumption | exact upd_same); (case hv_ => exact Nat.le_of_ble_eq_true rfl)) | ((with_reducible refine' me_Channel_break_off ?ho_ ?_); (case ho_ => first | assumption | exact upd_same)))
local macro_rules | `(tactic| walk_at "use") => `(tactic| first | ((with_reducible refine' fd_Channels_failure ?ho_ ?hv_ ?_); (case ho_ => first | assumption | exact upd_same); (case hv_ => exact rfl)) | ((with_reducible refine' fd_Channels__window ?ho_ ?hv_ ?_); (case ho_ => first | assumption | exact upd_same); (case hv_ => exact rfl)) | ((with_reducible refine' fd_Channels__most ?ho_ ?hv_ ?_); (case ho_ => first | assumption | exact upd_same); (case hv_ => exact rfl)) | ((with_reducible refine' fd_Channels__next_here ?ho_ ?hv_ ?_); (case ho_ => first | assumption | exact upd_same); (case hv_ => exact rfl)) | ((with_reducible refine' fd_Channels__next_there ?ho_ ?hv_ ?_); (case ho_ => first | assumption | exact upd_same); (case hv_ => exact rfl)) | ((with_reducible refine' fd_Channels__channels ?ho_ ?hv_ ?_); (case ho_ => first | assumption | exact upd_same); (case hv_ => exact rfl)) | ((with_reducible refine' fd_Channels__numbers ?ho_ ?hv_ ?_); (case ho_ => first | assumption | exact upd_same); (case hv_ => exact rfl)) | ((with_reducible refine' fd_Channels__turns ?ho_ ?hv_ ?_); (case ho_ => first | assumption | exact upd_same); (case hv_ => exact rfl)) | ((with_reducible refine' fd_Channels__offered ?ho_ ?hv_ ?_); (case ho_ => first | assumption | exact upd_same); (case hv_ => exact rfl)) | ((with_reducible refine' fd_Channels__going ?ho_ ?hv_ ?_); (case ho_ => first | assumption | exact upd_same); (case hv_ => exact rfl)) | ((with_reducible refine' fd_Channels__coming ?ho_ ?hv_ ?_); (case ho_ => first | assumption | exact upd_same); (case hv_ => exact rfl)) | ((with_reducible refine' nw_Channels_failure ?ho_ ?hv_ ?_); (case ho_ => first | assumption | exact upd_same); (case hv_ => exact rfl)) | ((with_reducible refine' nw_Channels__window ?ho_ ?hv_ ?_); (case ho_ => first | assumption | exact upd_same); (case hv_ => exact rfl)) | ((with_reducible refine' nw_Channels__most ?ho_ ?hv_ ?_); (case ho_ => first | assumption | exact upd_same); (case hv_ => exact rfl)) | ((with_reducible refine' nw_Channels__next_here ?ho_ ?hv_ ?_); (case ho_ => first | assumption | exact upd_same); (case hv_ => exact rfl)) | ((with_reducible refine' nw_Channels__next_there ?ho_ ?hv_ ?_); (case ho_ => first | assumption | exact upd_same); (case hv_ => exact rfl)) | ((with_reducible refine' nw_Channels__channels ?ho_ ?hv_ ?_); (case ho_ => first | assumption | exact upd_same); (case hv_ => exact rfl)) | ((with_reducible refine' nw_Channels__numbers ?ho_ ?hv_ ?_); (case ho_ => first | assumption | exact upd_same); (case hv_ => exact rfl)) | ((with_reducible refine' nw_Channels__turns ?ho_ ?hv_ ?_); (case ho_ => first | assumption | exact upd_same); (case hv_ => exact rfl)) | ((with_reducible refine' nw_Channels__offered ?ho_ ?hv_ ?_); (case ho_ => first | assumption | exact upd_same); (case hv_ => exact rfl)) | ((with_reducible refine' nw_Channels__going ?ho_ ?hv_ ?_); (case ho_ => first | assumption | exact upd_same); (case hv_ => exact rfl)) | ((with_reducible refine' nw_Channels__coming ?ho_ ?hv_ ?_); (case ho_ => first | assumption | exact upd_same); (case hv_ => exact rfl)) | ((with_reducible refine' st_Channels_failure ?ho_ ?hv_ ?_); (case ho_ => first | assumption | exact upd_same); (case hv_ => exact Nat.le_of_ble_eq_true rfl)) | ((with_reducible refine' st_Channels__window ?ho_ ?hv_ ?_); (case ho_ => first | assumption | exact upd_same); (case hv_ => exact Nat.le_of_ble_eq_true rfl)) | ((with_reducible refine' st_Channels__most ?ho_ ?hv_ ?_); (case ho_ => first | assumption | exact upd_same); (case hv_ => exact Nat.le_of_ble_eq_true rfl)) | ((with_reducible refine' st_Channels__next_here ?ho_ ?hv_ ?_); (case ho_ => first | assumption | exact upd_same); (case hv_ => exact Nat.le_of_ble_eq_true rfl)) | ((with_reducible refine' st_Channels__next_there ?ho_ ?hv_ ?_); (case ho_ => first | assumption | exact upd_same); (case hv_ => exact Nat.le_of_ble_eq_true rfl)) | ((with_reducible refine' st_Channels__channels ?ho_ ?hv_ ?_); (case ho_ => first | assumption | exact upd_same); (case hv_ => exact Nat.le_of_ble_eq_true rfl)) | ((with_reducible refine' st_Channels__numbers ?ho_ ?hv_ ?_); (case ho_ => first | assumption | exact upd_same); (case hv_ => exact Nat.le_of_ble_eq_true rfl)) | ((with_reducible refine' st_Channels__turns ?ho_ ?hv_ ?_); (case ho_ => first | assumption | exact upd_same); (case hv_ => exact Nat.le_of_ble_eq_true rfl)) | ((with_reducible refine' st_Channels__offered ?ho_ ?hv_ ?_); (case ho_ => first | assumption | exact upd_same); (case hv_ => exact Nat.le_of_ble_eq_true rfl)) | ((with_reducible refine' st_Channels__going ?ho_ ?hv_ ?_); (case ho_ => first | assumption | exact upd_same); (case hv_ => exact Nat.le_of_ble_eq_true rfl)) | ((with_reducible refine' st_Channels__coming ?ho_ ?hv_ ?_); (case ho_ => first | assumption | exact upd_same); (case hv_ => exact Nat.le_of_ble_eq_true rfl)) | ((with_reducible refine' me_Channels_len__ ?ho_ ?_); (case ho_ => first | assumption | exact upd_same)) | ((with_reducible refine' me_Channels_iter__ ?ho_ ?_); (case ho_ => first | assumption | exact upd_same)) | ((with_reducible refine' me_Channels_open_channel ?ho_ ?_); (case ho_ => first | assumption | exact upd_same)) | ((with_reducible refine' me_Channels_accept ?ho_ ?_); (case ho_ => first | assumption | exact upd_same)) | ((with_reducible refine' me_Channels_write ?ho_ ?_); (case ho_ => first | assumption | exact upd_same)) | ((with_reducible refine' me_Channels_read ?ho_ ?_); (case ho_ => first | assumption | exact upd_same)) | ((with_reducible refine' me_Channels_finish ?ho_ ?_); (case ho_ => first | assumption | exact upd_same)) | ((with_reducible refine' me_Channels_reset ?ho_ ?_); (case ho_ => first | assumption | exact upd_same)) | ((with_reducible refine' me_Channels_status ?ho_ ?_); (case ho_ => first | assumption | exact upd_same)) | ((with_reducible refine' me_Channels_known ?ho_ ?_); (case ho_ => first | assumption | exact upd_same)) | ((with_reducible refine' me_Channels_add ?ho_ ?_); (case ho_ => first | assumption | exact upd_same)) | ((with_reducible refine' me_Channels_room_of ?ho_ ?_); (case ho_ => first | assumption | exact upd_same)))
section
variable {P : Program} {w : World} {K : PySem.W.Frag} {mg : Str → Option Value} {base : Heap}
local macro_rules | `(tactic| walk_at "use") => `(tactic| with_reducible first | refine g_rs0 ?_ | refine g_rs1 ?_ | refine g_tryA ?_ | refine g_tryO ?_ | refine g_callS ?_ | refine g_joined ?_ | refine g_jsnil ?_ | refine g_jscons ?_ | refine g_fmt ?_)
local macro_rules | `(tactic| walk_at "fit") => `(tactic| (refine fit2 ?_; (try simp only [PySem.Str.length_append]); omega))
local macro_rules | `(tactic| walk_at "use") => `(tactic| first | ((with_reducible refine' g_addS ?sd_ ?_); case sd_ => (first | omega | (simp only [PySem.Str.length_append]; omega))) | ((with_reducible refine' g_slS ?sd_ ?_); case sd_ => omega) | (with_reducible refine g_m0 ?_))

local macro_rules | `(tactic| walk_at "use") => `(tactic| with_reducible first | refine g_dgetI ?_ | refine g_dputI ?_ | refine g_dget1I ?_ | refine g_dget2I ?_ | refine g_dinI ?_ | refine g_dnotinI ?_ | refine g_dnewK ?_)

theorem ChO.mem {C : Addr} {H : Hp} {x : Ca} {c : Ch} {n : Int} (h : ChO C H x c n) : H x.a ≠ none ∧ H x.q ≠ none ∧ H x.u ≠ none := ⟨by rw [h.1]; exact nofun, by rw [h.2.1]; exact nofun, by rw [h.2.2.1]; exact nofun⟩
theorem ls_i {α : Type} {cs : List α} {i : Nat} {c : α} (h : cs[i]? = some c) : i < cs.length := (List.getElem?_eq_some_iff.mp h).1
/-- channel i has changed -/
theorem SdO.put {CS CC : Addr} {own own' : Addr → Option Nat} {H H' : Hp} {S : Sa} {x : Nat → Ca} {w m t : Int} {cs : List Ch} {i : Nat} {c c' : Ch} {y : Ca} (O : SdO CS CC own H S x w m t cs) (hi : cs[i]? = some c) (hy : y.a = (x i).a)
    (hown : ∀ b, H b ≠ none → own' b = own b) (keep : ∀ b o, own b ≠ some (i + 1) ∨ (∃ k, o = HO.tup k) → H b = some o → H' b = some o) (hc : ChO CC H' y c' (nb t i)) (oc : own' y.q = some (i + 1) ∧ own' y.u = some (i + 1)) (hq : (c'.q.length : Int) ≤ w) :
    SdO CS CC own' H' S (fun j => if j = i then y else x j) w m t (cs.set i c') := by
  have hil := ls_i hi
  have ex : ∀ j, (if j = i then y else x j).a = (x j).a := fun j => by
    by_cases z : j = i
    · rw [if_pos z, z]; exact hy
    · rw [if_neg z]
  have k0 : ∀ b o, own b = some 0 → H b = some o → H' b = some o := fun b o z e => keep b o (.inl (by rw [z]; exact fun q => by injection q with q; omega)) e
  have kn : ∀ b o, H b = some o → H b ≠ none := fun b o e => by rw [e]; exact nofun
  refine ⟨?_, ?_, ?_, ?_, k0 _ _ O.ol O.hl, fun j d e => ?_, fun j hj => ?_, ?_, ?_, ?_, ?_, ?_, O.n1, O.n2, O.hw, O.hm, O.h1, ?_, fun j d e => ?_⟩
  · rw [List.length_set]; exact k0 _ _ O.op O.ho
  · rw [List.length_set]
    have hd := O.hd.at (H' := H') fun o e => k0 _ _ O.od e
    rw [show (fun k => (pos t cs.length k).map fun j => V.ref (if j = i then y else x j).a) = fun k => (pos t cs.length k).map fun j => V.ref (x j).a from funext fun k => by simp only [ex]]
    exact hd
  · rw [List.length_set]; exact k0 _ _ O.on O.hn
  · rw [List.length_set]; exact k0 _ _ O.ot O.ht
  · by_cases z : j = i
    · subst z
      rw [List.getElem?_set_self hil] at e
      rw [if_pos rfl, ← Option.some.inj e]
      exact hc
    · rw [List.getElem?_set_ne (Ne.symm z)] at e
      rw [if_neg z]
      obtain ⟨o1, o2, o3⟩ := O.oc j (ls_i e)
      refine (O.hc j d e).keep fun b o hb eb => keep b o ?_ eb
      rcases hb with rfl | rfl | rfl | hk
      · exact .inl (by rw [o1]; exact fun q => z (by injection q with q; omega))
      · exact .inl (by rw [o2]; exact fun q => z (by injection q with q; omega))
      · exact .inl (by rw [o3]; exact fun q => z (by injection q with q; omega))
      · exact .inr hk
  · rw [List.length_set] at hj
    obtain ⟨o1, o2, o3⟩ := O.oc j hj
    obtain ⟨d, ed⟩ : ∃ d, cs[j]? = some d := ⟨cs[j], List.getElem?_eq_getElem hj⟩
    obtain ⟨m1, m2, m3⟩ := (O.hc j d ed).mem
    by_cases z : j = i
    · subst z
      rw [if_pos rfl]
      exact ⟨by rw [hy, hown _ m1]; exact o1, oc.1, oc.2⟩
    · rw [if_neg z]
      exact ⟨(hown _ m1).trans o1, (hown _ m2).trans o2, (hown _ m3).trans o3⟩
  · exact (hown _ (kn _ _ O.ho)).trans O.op
  · obtain ⟨kvs, e, _⟩ := id O.hd
    exact (hown _ (kn _ _ e)).trans O.od
  · exact (hown _ (kn _ _ O.hn)).trans O.on
  · exact (hown _ (kn _ _ O.ht)).trans O.ot
  · exact (hown _ (kn _ _ O.hl)).trans O.ol
  · rw [List.length_set]; exact O.h2
  · by_cases z : j = i
    · subst z
      rw [List.getElem?_set_self hil] at e
      rw [← Option.some.inj e]
      exact hq
    · rw [List.getElem?_set_ne (Ne.symm z)] at e
      exact O.hq j d e
/-- one place of channel i has changed -/
theorem SdO.put1 {CS CC : Addr} {own : Addr → Option Nat} {H H' : Hp} {S : Sa} {x : Nat → Ca} {w m t : Int} {cs : List Ch} {i : Nat} {c c' : Ch} {b : Addr} {o : HO} (O : SdO CS CC own H S x w m t cs) (hi : cs[i]? = some c) (hb : own b = some (i + 1)) (k : But b H H') (hbo : H b = some o) (ho : ∀ k, o ≠ .tup k)
    (hc : ChO CC H' (x i) c' (nb t i)) (hq : (c'.q.length : Int) ≤ w) : SdO CS CC own H' S x w m t (cs.set i c') := by
  have z := O.put (own' := own) (H' := H') (y := x i) hi rfl (fun _ _ => rfl) (fun d od h e => k d od (fun q => by
    rcases h with h | ⟨kk, h⟩
    · exact h (q ▸ hb)
    · rw [q, hbo] at e
      injection e with e
      exact ho kk (e.trans h)) e) hc ⟨(O.oc i (ls_i hi)).2.1, (O.oc i (ls_i hi)).2.2⟩ hq
  rw [show (fun j => if j = i then x i else x j) = x from funext fun j => by by_cases q : j = i <;> simp [q]] at z
  exact z
theorem SdO.same {CS CC : Addr} {own : Addr → Option Nat} {H H' : Hp} {S : Sa} {x : Nat → Ca} {w m t : Int} {cs : List Ch} (O : SdO CS CC own H S x w m t cs) (s : Same H H') : SdO CS CC own H' S x w m t cs :=
  ⟨s _ _ O.ho, O.hd.same s, s _ _ O.hn, s _ _ O.ht, s _ _ O.hl, fun i c e => (O.hc i c e).same s, O.oc, O.op, O.od, O.on, O.ot, O.ol, O.n1, O.n2, O.hw, O.hm, O.h1, O.h2, O.hq⟩
/-- the channel of that number, or none -/
def Kn (t : Int) (cs : List Ch) (k : Int) (N : Prop) (Y : Nat → Ch → Prop) : Prop := 0 ≤ k ∧ k ≤ 1000000 ∧ ((pos t cs.length k = none ∧ N) ∨ ∃ i c, pos t cs.length k = some i ∧ cs[i]? = some c ∧ Y i c)
def sp_Channels_finish (CS CC UC : Addr) : Sp := fun vs H Q E => ∃ (own : Addr → Option Nat) (S : Sa) (x : Nat → Ca) (w m t : Int) (cs : List Ch) (k : Int), vs = [.ref S.p, .int k] ∧ SdO CS CC own H S x w m t cs ∧
  Kn t cs k (E (.ref UC) none H) fun i c => ∀ H', SdO CS CC own H' S x w m t (cs.set i ⟨c.q, true, c.br⟩) → But (x i).a H H' → Q .non H'
theorem ok_Channels_finish (T : Txt P K mg) : FnOk P w K mg base (L2.CX P w) 2 T.f_Channels_finish T.d_Channels_finish ["self", "channel"] (sp_Channels_finish T.C_Channels T.C_Channel T.C_UnknownChannel) := by
  refine T.F_Channels_finish.okX sc_Channels_finish (fun vs H Q E h => ?_) (fun cdv A outer s H vs Q E hr h => ?_)
  · obtain ⟨own, S, x, w, m, t, cs, k, rfl, O, h0, h1, q⟩ := h
    rfl
  · obtain ⟨own, S, x, w, m, t, cs, k, rfl, O, h0, h1, q⟩ := h
    have hu := hu_of hr
    refine ⟨_, (pss_cons (ps_set (i := 2) sc_Channels_finish.nd rfl (Or.inl rfl) (pe_meth (pv 0) T.k_Channels T.a_Channels_known (ok_Channels_known T) (hr.mono (by decide)) T.b_Channels_known .nil (passes_call (takes_of rfl rfl rfl rfl) (fun _ _ _ _ h => h)) (pa_cons (pv 1) pa_nil)))
        (pss_one (ps_fld (pv 2) pe_bl rfl))), ?_⟩
    dsimp only [cxOf, Cx.nox, Cx.wish, L2.start, List.map, List.cons_append, List.nil_append, List.length_cons, List.length_nil, Nat.reduceAdd, Nat.reduceSub, Nat.zero_add, List.replicate_succ, List.replicate_zero]
    have ho := O.ho
    walk_at "go"
    refine ⟨own, S, x, w, m, t, cs, k, rfl, O, h0, h1, ?_⟩
    rcases q with ⟨e, q⟩ | ⟨i, c, e, hi, q⟩
    · exact .inr ⟨e, q⟩
    · refine .inl ⟨i, e, ?_⟩
      obtain ⟨hc, hq, hu, hne, hb⟩ := id (O.hc i c hi)
      walk_at "go"
      have o1 := (O.oc i (ls_i hi)).1
      refine q _ (O.put1 hi o1 But.refl.upd hc (fun k z => nomatch z) ⟨upd_same, ?_, ?_, hne, ?_⟩ (O.hq i c hi)) But.refl.upd
      · rw [upd_ne (ne_of hq hc (fun z => nomatch z))]; exact hq
      · rw [upd_ne (ne_of hu hc (fun z => nomatch z))]; exact hu
      · exact hb.same fun tt o ⟨kk, z⟩ et => by rw [upd_ne (ne_of et hc (by rw [z]; exact fun z => nomatch z))]; exact et

end
end My
namespace My
open PySem PySem.Spec L2
local macro_rules | `(tactic| walk_at "side") => `(tactic| first | assumption | decide | omega | exact ⟨by decide, by decide⟩ | exact ⟨by decide, by decide, by decide⟩ | decide +kernel | exact cdivW (by decide +kernel) (by decide +kernel) | exact Or.inl ⟨by omega, by omega⟩ | exact Or.inr ⟨by omega, by omega⟩ | (simp only [List.length_map, List.length_cons, List.length_nil, List.length_append]; omega))
local macro_rules | `(tactic| walk_at "fact") => `(tactic| first | assumption | omega | with_reducible rfl)
local macro_rules | `(tactic| walk_at "use") => `(tactic| fail "use")
local macro_rules | `(tactic| walk_at "go1") => `(tactic| with_reducible first | refine g_seq ?_ | refine g_asg ?_ | refine g_ret ?_ | refine g_ifS ?_ | refine g_drop ?_ | refine g_star ?_ | refine g_nx ?_ | refine g_rt ?_ | refine g_bkE ?_ | refine g_ctE ?_ | refine g_next ?_ | refine g_retN ?_ | refine g_brk ?_ | refine g_ct ?_ | refine g_c ?_ | refine g_op ?_ | refine g_un ?_ | refine g_rI0 ?_ | refine g_rU ?_ | refine g_rEqI ?_ | refine g_rNeI ?_ | refine g_isN ?_ | refine g_rIsB ?_ | refine g_rNotB ?_ | refine g_test ?_ | refine g_B ?_ | refine g_bl ?_ | refine g_and ?_ | refine g_or ?_ | refine g_not ?_ | refine g_andV ?_ | refine g_orV ?_ | refine g_notV ?_ | refine g_if ?_ | refine g_chain ?_ | refine g_yes ?_ | refine g_lc ?_ | refine g_revR ?_ | refine g_rng1 ?_ | refine g_iList ?_ | refine g_nil ?_ | refine g_cons ?_ | refine g_tup ?_ | refine g_lst ?_ | refine g_call ?_ | refine g_CB ?_ | refine g_sl ?_ | refine g_noPart ?_ | refine g_part ?_ | refine g_intE ?_ | refine g_ref ?_ | refine g_fld ?_ | refine g_sfld ?_ | refine g_meth ?_ | refine g_make ?_ | refine g_prop ?_  | refine g_ipI ?_ | refine g_int1 ?_ | refine g_int1B ?_ | refine g_one ?_ | refine g_two ?_ | refine g_isiI ?_ | refine g_isiIB ?_ | refine g_isiB ?_ | refine g_BM ?_ | refine g_BM0 ?_ | refine g_sub ?_)
local macro_rules | `(tactic| walk_at "go") => `(tactic| repeat (first | walk_at "go1" | ((with_reducible refine' g_nameE ?sd_ ?_); case sd_ => dsimp only [List.set_cons_succ, List.set_cons_zero]) | ((with_reducible refine' g_var ?sd_ ?_); case sd_ => exact rfl) | ((with_reducible refine' g_aug ?sd_ ?_); case sd_ => exact rfl) | ((with_reducible refine' g_rI ?sd_ ?_); case sd_ => walk_at "side") | ((with_reducible refine' g_dT ?sd_ ?_); case sd_ => walk_at "fact") | ((with_reducible refine' g_dF ?sd_ ?_); case sd_ => walk_at "fact") | ((with_reducible refine' g_nT ?sd_ ?_); case sd_ => walk_at "fact") | ((with_reducible refine' g_nF ?sd_ ?_); case sd_ => walk_at "fact") | (with_reducible refine g_iT rfl ?_) | (with_reducible refine g_iF rfl ?_) | walk_at "use"))
local macro_rules | `(tactic| walk_at "nw") => `(tactic| (generalize zq : upd _ _ _ = Hq; have sq : Same _ Hq := (by rw [← zq]; exact same_upd (by assumption)); have kq := (congrFun zq _).symm.trans upd_same; clear zq))
local macro_rules | `(tactic| walk_at "bt") => `(tactic| (generalize zq : upd _ _ _ = Hq; have bq : But _ _ Hq := (by rw [← zq]; exact But.refl.upd); have kq := (congrFun zq _).symm.trans upd_same; clear zq))
local macro_rules | `(tactic| walk_at "use") => `(tactic| first | ((with_reducible refine' fd_Channel_number ?ho_ ?hv_ ?_); (case ho_ => first | assumption | exact upd_same); (case hv_ => exact rfl)) | ((with_reducible refine' fd_Channel_announced ?ho_ ?hv_ ?_); (case ho_ => first | assumption | exact upd_same); (case hv_ => exact rfl)) | ((with_reducible refine' fd_Channel_queue ?ho_ ?hv_ ?_); (case ho_ => first | assumption | exact upd_same); (case hv_ => exact rfl)) | ((with_reducible refine' fd_Channel_credit ?ho_ ?hv_ ?_); (case ho_ => first | assumption | exact upd_same); (case hv_ => exact rfl)) | ((with_reducible refine' fd_Channel_finished ?ho_ ?hv_ ?_); (case ho_ => first | assumption | exact upd_same); (case hv_ => exact rfl)) | ((with_reducible refine' fd_Channel_end_sent ?ho_ ?hv_ ?_); (case ho_ => first | assumption | exact upd_same); (case hv_ => exact rfl)) | ((with_reducible refine' fd_Channel_unread ?ho_ ?hv_ ?_); (case ho_ => first | assumption | exact upd_same); (case hv_ => exact rfl)) | ((with_reducible refine' fd_Channel_due ?ho_ ?hv_ ?_); (case ho_ => first | assumption | exact upd_same); (case hv_ => exact rfl)) | ((with_reducible refine' fd_Channel_end_came ?ho_ ?hv_ ?_); (case ho_ => first | assumption | exact upd_same); (case hv_ => exact rfl)) | ((with_reducible refine' fd_Channel_broken ?ho_ ?hv_ ?_); (case ho_ => first | assumption | exact upd_same); (case hv_ => exact rfl)) | ((with_reducible refine' fd_Channel_reset_told ?ho_ ?hv_ ?_); (case ho_ => first | assumption | exact upd_same); (case hv_ => exact rfl)) | ((with_reducible refine' nw_Channel_number ?ho_ ?hv_ ?_); (case ho_ => first | assumption | exact upd_same); (case hv_ => exact rfl)) | ((with_reducible refine' nw_Channel_announced ?ho_ ?hv_ ?_); (case ho_ => first | assumption | exact upd_same); (case hv_ => exact rfl)) | ((with_reducible refine' nw_Channel_queue ?ho_ ?hv_ ?_); (case ho_ => first | assumption | exact upd_same); (case hv_ => exact rfl)) | ((with_reducible refine' nw_Channel_credit ?ho_ ?hv_ ?_); (case ho_ => first | assumption | exact upd_same); (case hv_ => exact rfl)) | ((with_reducible refine' nw_Channel_finished ?ho_ ?hv_ ?_); (case ho_ => first | assumption | exact upd_same); (case hv_ => exact rfl)) | ((with_reducible refine' nw_Channel_end_sent ?ho_ ?hv_ ?_); (case ho_ => first | assumption | exact upd_same); (case hv_ => exact rfl)) | ((with_reducible refine' nw_Channel_unread ?ho_ ?hv_ ?_); (case ho_ => first | assumption | exact upd_same); (case hv_ => exact rfl)) | ((with_reducible refine' nw_Channel_due ?ho_ ?hv_ ?_); (case ho_ => first | assumption | exact upd_same); (case hv_ => exact rfl)) | ((with_reducible refine' nw_Channel_end_came ?ho_ ?hv_ ?_); (case ho_ => first | assumption | exact upd_same); (case hv_ => exact rfl)) | ((with_reducible refine' nw_Channel_broken ?ho_ ?hv_ ?_); (case ho_ => first | assumption | exact upd_same); (case hv_ => exact rfl)) | ((with_reducible refine' nw_Channel_reset_told ?ho_ ?hv_ ?_); (case ho_ => first | assumption | exact upd_same); (case hv_ => exact rfl)) | ((with_reducible refine' st_Channel_number ?ho_ ?hv_ ?_); (case ho_ => first | assumption | exact upd_same); (case hv_ => exact Nat.le_of_ble_eq_true rfl)) | ((with_reducible refine' st_Channel_announced ?ho_ ?hv_ ?_); (case ho_ => first | assumption | exact upd_same); (case hv_ => exact Nat.le_of_ble_eq_true rfl)) | ((with_reducible refine' st_Channel_queue ?ho_ ?hv_ ?_); (case ho_ => first | assumption | exact upd_same); (case hv_ => exact Nat.le_of_ble_eq_true rfl)) | ((with_reducible refine' st_Channel_credit ?ho_ ?hv_ ?_); (case ho_ => first | assumption | exact upd_same); (case hv_ => exact Nat.le_of_ble_eq_true rfl)) | ((with_reducible refine' st_Channel_finished ?ho_ ?hv_ ?_); (case ho_ => first | assumption | exact upd_same); (case hv_ => exact Nat.le_of_ble_eq_true rfl)) | ((with_reducible refine' st_Channel_end_sent ?ho_ ?hv_ ?_); (case ho_ => first | assumption | exact upd_same); (case hv_ => exact Nat.le_of_ble_eq_true rfl)) | ((with_reducible refine' st_Channel_unread ?ho_ ?hv_ ?_); (case ho_ => first | assumption | exact upd_same); (case hv_ => exact Nat.le_of_ble_eq_true rfl)) | ((with_reducible refine' st_Channel_due ?ho_ ?hv_ ?_); (case ho_ => first | assumption | exact upd_same); (case hv_ => exact Nat.le_of_ble_eq_true rfl)) | ((with_reducible refine' st_Channel_end_came ?ho_ ?hv_ ?_); (case ho_ => first | assumption | exact upd_same); (case hv_ => exact Nat.le_of_ble_eq_true rfl)) | ((with_reducible refine' st_Channel_broken ?ho_ ?hv_ ?_); (case ho_ => first | assumption | exact upd_same); (case hv_ => exact Nat.le_of_ble_eq_true rfl)) | ((with_reducible refine' st_Channel_reset_told ?ho_ ?hv_ ?_); (case ho_ => first | assumption | exact upd_same); (case hv_ => exact Nat.le_of_ble_eq_true rfl)) | ((with_reducible refine' me_Channel_break_off ?ho_ ?_); (case ho_ => first | assumption | exact upd_same)))
local macro_rules | `(tactic| walk_at "use") => `(tactic| first | ((with_reducible refine' fd_Channels_failure ?ho_ ?hv_ ?_); (case ho_ => first | assumption | exact upd_same); (case hv_ => exact rfl)) | ((with_reducible refine' fd_Channels__window ?ho_ ?hv_ ?_); (case ho_ => first | assumption | exact upd_same); (case hv_ => exact rfl)) | ((with_reducible refine' fd_Channels__most ?ho_ ?hv_ ?_); (case ho_ => first | assumption | exact upd_same); (case hv_ => exact rfl)) | ((with_reducible refine' fd_Channels__next_here ?ho_ ?hv_ ?_); (case ho_ => first | assumption | exact upd_same); (case hv_ => exact rfl)) | ((with_reducible refine' fd_Channels__next_there ?ho_ ?hv_ ?_); (case ho_ => first | assumption | exact upd_same); (case hv_ => exact rfl)) | ((with_reducible refine' fd_Channels__channels ?ho_ ?hv_ ?_); (case ho_ => first | assumption | exact upd_same); (case hv_ => exact rfl)) | ((with_reducible refine' fd_Channels__numbers ?ho_ ?hv_ ?_); (case ho_ => first | assumption | exact upd_same); (case hv_ => exact rfl)) | ((with_reducible refine' fd_Channels__turns ?ho_ ?hv_ ?_); (case ho_ => first | assumption | exact upd_same); (case hv_ => exact rfl)) | ((with_reducible refine' fd_Channels__offered ?ho_ ?hv_ ?_); (case ho_ => first | assumption | exact upd_same); (case hv_ => exact rfl)) | ((with_reducible refine' fd_Channels__going ?ho_ ?hv_ ?_); (case ho_ => first | assumption | exact upd_same); (case hv_ => exact rfl)) | ((with_reducible refine' fd_Channels__coming ?ho_ ?hv_ ?_); (case ho_ => first | assumption | exact upd_same); (case hv_ => exact rfl)) | ((with_reducible refine' nw_Channels_failure ?ho_ ?hv_ ?_); (case ho_ => first | assumption | exact upd_same); (case hv_ => exact rfl)) | ((with_reducible refine' nw_Channels__window ?ho_ ?hv_ ?_); (case ho_ => first | assumption | exact upd_same); (case hv_ => exact rfl)) | ((with_reducible refine' nw_Channels__most ?ho_ ?hv_ ?_); (case ho_ => first | assumption | exact upd_same); (case hv_ => exact rfl)) | ((with_reducible refine' nw_Channels__next_here ?ho_ ?hv_ ?_); (case ho_ => first | assumption | exact upd_same); (case hv_ => exact rfl)) | ((with_reducible refine' nw_Channels__next_there ?ho_ ?hv_ ?_); (case ho_ => first | assumption | exact upd_same); (case hv_ => exact rfl)) | ((with_reducible refine' nw_Channels__channels ?ho_ ?hv_ ?_); (case ho_ => first | assumption | exact upd_same); (case hv_ => exact rfl)) | ((with_reducible refine' nw_Channels__numbers ?ho_ ?hv_ ?_); (case ho_ => first | assumption | exact upd_same); (case hv_ => exact rfl)) | ((with_reducible refine' nw_Channels__turns ?ho_ ?hv_ ?_); (case ho_ => first | assumption | exact upd_same); (case hv_ => exact rfl)) | ((with_reducible refine' nw_Channels__offered ?ho_ ?hv_ ?_); (case ho_ => first | assumption | exact upd_same); (case hv_ => exact rfl)) | ((with_reducible refine' nw_Channels__going ?ho_ ?hv_ ?_); (case ho_ => first | assumption | exact upd_same); (case hv_ => exact rfl)) | ((with_reducible refine' nw_Channels__coming ?ho_ ?hv_ ?_); (case ho_ => first | assumption | exact upd_same); (case hv_ => exact rfl)) | ((with_reducible refine' st_Channels_failure ?ho_ ?hv_ ?_); (case ho_ => first | assumption | exact upd_same); (case hv_ => exact Nat.le_of_ble_eq_true rfl)) | ((with_reducible refine' st_Channels__window ?ho_ ?hv_ ?_); (case ho_ => first | assumption | exact upd_same); (case hv_ => exact Nat.le_of_ble_eq_true rfl)) | ((with_reducible refine' st_Channels__most ?ho_ ?hv_ ?_); (case ho_ => first | assumption | exact upd_same); (case hv_ => exact Nat.le_of_ble_eq_true rfl)) | ((with_reducible refine' st_Channels__next_here ?ho_ ?hv_ ?_); (case ho_ => first | assumption | exact upd_same); (case hv_ => exact Nat.le_of_ble_eq_true rfl)) | ((with_reducible refine' st_Channels__next_there ?ho_ ?hv_ ?_); (case ho_ => first | assumption | exact upd_same); (case hv_ => exact Nat.le_of_ble_eq_true rfl)) | ((with_reducible refine' st_Channels__channels ?ho_ ?hv_ ?_); (case ho_ => first | assumption | exact upd_same); (case hv_ => exact Nat.le_of_ble_eq_true rfl)) | ((with_reducible refine' st_Channels__numbers ?ho_ ?hv_ ?_); (case ho_ => first | assumption | exact upd_same); (case hv_ => exact Nat.le_of_ble_eq_true rfl)) | ((with_reducible refine' st_Channels__turns ?ho_ ?hv_ ?_); (case ho_ => first | assumption | exact upd_same); (case hv_ => exact Nat.le_of_ble_eq_true rfl)) | ((with_reducible refine' st_Channels__offered ?ho_ ?hv_ ?_); (case ho_ => first | assumption | exact upd_same); (case hv_ => exact Nat.le_of_ble_eq_true rfl)) | ((with_reducible refine' st_Channels__going ?ho_ ?hv_ ?_); (case ho_ => first | assumption | exact upd_same); (case hv_ => exact Nat.le_of_ble_eq_true rfl)) | ((with_reducible refine' st_Channels__coming ?ho_ ?hv_ ?_); (case ho_ => first | assumption | exact upd_same); (case hv_ => exact Nat.le_of_ble_eq_true rfl)) | ((with_reducible refine' me_Channels_len__ ?ho_ ?_); (case ho_ => first | assumption | exact upd_same)) | ((with_reducible refine' me_Channels_iter__ ?ho_ ?_); (case ho_ => first | assumption | exact upd_same)) | ((with_reducible refine' me_Channels_open_channel ?ho_ ?_); (case ho_ => first | assumption | exact upd_same)) | ((with_reducible refine' me_Channels_accept ?ho_ ?_); (case ho_ => first | assumption | exact upd_same)) | ((with_reducible refine' me_Channels_write ?ho_ ?_); (case ho_ => first | assumption | exact upd_same)) | ((with_reducible refine' me_Channels_read ?ho_ ?_); (case ho_ => first | assumption | exact upd_same)) | ((with_reducible refine' me_Channels_finish ?ho_ ?_); (case ho_ => first | assumption | exact upd_same)) | ((with_reducible refine' me_Channels_reset ?ho_ ?_); (case ho_ => first | assumption | exact upd_same)) | ((with_reducible refine' me_Channels_status ?ho_ ?_); (case ho_ => first | assumption | exact upd_same)) | ((with_reducible refine' me_Channels_known ?ho_ ?_); (case ho_ => first | assumption | exact upd_same)) | ((with_reducible refine' me_Channels_add ?ho_ ?_); (case ho_ => first | assumption | exact upd_same)) | ((with_reducible refine' me_Channels_room_of ?ho_ ?_); (case ho_ => first | assumption | exact upd_same)))
section
variable {P : Program} {w : World} {K : PySem.W.Frag} {mg : Str → Option Value} {base : Heap}
local macro_rules | `(tactic| walk_at "use") => `(tactic| with_reducible first | refine g_rs0 ?_ | refine g_rs1 ?_ | refine g_tryA ?_ | refine g_tryO ?_ | refine g_callS ?_ | refine g_joined ?_ | refine g_jsnil ?_ | refine g_jscons ?_ | refine g_fmt ?_)
local macro_rules | `(tactic| walk_at "fit") => `(tactic| (refine fit2 ?_; (try simp only [PySem.Str.length_append]); omega))
local macro_rules | `(tactic| walk_at "use") => `(tactic| first | ((with_reducible refine' g_addS ?sd_ ?_); case sd_ => (first | omega | (simp only [PySem.Str.length_append]; omega))) | ((with_reducible refine' g_slS ?sd_ ?_); case sd_ => omega) | (with_reducible refine g_m0 ?_))

local macro_rules | `(tactic| walk_at "use") => `(tactic| with_reducible first | refine g_dgetI ?_ | refine g_dputI ?_ | refine g_dget1I ?_ | refine g_dget2I ?_ | refine g_dinI ?_ | refine g_dnotinI ?_ | refine g_dnewK ?_)

theorem cut_lo {xs : List V} {k : Nat} : cutV xs none (some (k : Int)) = xs.take k := by
  unfold cutV
  rw [HT.sIx_none, HT.sIx_nat, List.drop_zero, Nat.sub_zero]
  rcases Nat.le_total k xs.length with z | z
  · rw [Nat.min_eq_left z]
  · rw [Nat.min_eq_right z, List.take_of_length_le (Nat.le_refl _), List.take_of_length_le z]
theorem cut_hi {xs : List V} {k : Nat} : cutV xs (some (k : Int)) none = xs.drop k := by
  unfold cutV
  rw [HT.sIx_none, HT.sIx_nat]
  rcases Nat.le_total k xs.length with z | z
  · rw [Nat.min_eq_left z, List.take_of_length_le (by rw [List.length_drop]; omega)]
  · rw [Nat.min_eq_right z, List.drop_of_length_le (Nat.le_refl _), List.drop_of_length_le z, List.take_nil]

local macro_rules | `(tactic| walk_at "use") => `(tactic| with_reducible refine g_delS ?_)
theorem same_back {H H1 : Hp} {u : Addr} {o : HO} (s : Same H H1) (h : H u = some o) : Same H (upd H1 u o) := fun b o' e => by
  by_cases z : b = u
  · rw [z, upd_same, ← h, ← z, e]
  · rw [upd_ne z]; exact s _ _ e
theorem room_b {w : Int} {c : Ch} (h : (c.q.length : Int) ≤ w) : 0 ≤ room w c ∧ (c.q.length : Int) + room w c ≤ w := by
  unfold room
  split <;> omega
def sp_Channels_write (K : PySem.W.Frag) (CS CC UC : Addr) : Sp := fun vs H Q E => ∃ (own : Addr → Option Nat) (S : Sa) (x : Nat → Ca) (w m t : Int) (cs : List Ch) (k : Int) (l : Addr) (bs : List Int), vs = [.ref S.p, .int k, .ref l] ∧ SdO CS CC own H S x w m t cs ∧ SqL K H l (bs.map V.int) ∧
  Kn t cs k (E (.ref UC) none H) fun i c => ∀ H', SdO CS CC own H' S x w m t (cs.set i ⟨c.q ++ bs.take (room w c).toNat, c.fin, c.br⟩) → But (x i).q H H' → Q (.int (min (room w c) (bs.length : Int))) H'
theorem ok_Channels_write (T : Txt P K mg) : FnOk P w K mg base (L2.CX P w) 2 T.f_Channels_write T.d_Channels_write ["self", "channel", "octets"] (sp_Channels_write K T.C_Channels T.C_Channel T.C_UnknownChannel) := by
  refine T.F_Channels_write.okX sc_Channels_write (fun vs H Q E h => ?_) (fun cdv A outer s H vs Q E hr h => ?_)
  · obtain ⟨own, S, x, w, m, t, cs, k, l, bs, rfl, O, hl, h0, h1, q⟩ := h
    rfl
  · obtain ⟨own, S, x, w, m, t, cs, k, l, bs, rfl, O, hl, h0, h1, q⟩ := h
    have hu := hu_of hr
    refine ⟨_, (pss_cons (ps_set (i := 3) sc_Channels_write.nd rfl (Or.inl rfl) (pe_meth (pv 0) T.k_Channels T.a_Channels_known (ok_Channels_known T) (hr.mono (by decide)) T.b_Channels_known .nil (passes_call (takes_of rfl rfl rfl rfl) (fun _ _ _ _ h => h)) (pa_cons (pv 1) pa_nil)))
        (pss_cons (ps_set (i := 4) sc_Channels_write.nd rfl (Or.inl rfl) (pe_slice sl_list (pv 2) po_none (po_some (pe_meth (pv 0) T.k_Channels T.a_Channels_room_of (ok_Channels_room_of T) (hr.mono (by decide)) T.b_Channels_room_of .nil pass0 (pa_cons (pv 3) pa_nil)))))
        (pss_cons (ps_expr (pe_bm PySem.F.plainAttrs_list PySem.F.slot_list_extend PySem.F.type_list_extend mt_extend (pe_fld (pv 3) rfl) (pa_cons (pe_callTy call_list_of (by rfl) T.n_list (by decide +kernel) (pa_cons (pv 4) pa_nil)) pa_nil)))
        (pss_one (ps_ret (pe_callB call_len_seq (by rfl) T.n_len (by decide +kernel) (pa_cons (pv 4) pa_nil))))))), ?_⟩
    dsimp only [cxOf, Cx.nox, Cx.wish, L2.start, List.map, List.cons_append, List.nil_append, List.length_cons, List.length_nil, Nat.reduceAdd, Nat.reduceSub, Nat.zero_add, List.replicate_succ, List.replicate_zero]
    have ho := O.ho
    walk_at "go"
    refine ⟨own, S, x, w, m, t, cs, k, rfl, O, h0, h1, ?_⟩
    rcases q with ⟨e, q⟩ | ⟨i, c, e, hi, q⟩
    · exact .inr ⟨e, q⟩
    · refine .inl ⟨i, e, ?_⟩
      obtain ⟨hc, hq, hu, hne, hb⟩ := id (O.hc i c hi)
      have o1 := (O.oc i (ls_i hi)).2.1
      have hw := O.hw
      obtain ⟨r0, r1⟩ := room_b (O.hq i c hi)
      walk_at "go"
      refine ⟨own, S, x, w, m, t, cs, i, c, rfl, O, hi, ?_⟩
      refine ⟨_, rfl, ?_⟩
      refine g_slL hl fun l2 hl2 => ?_
      rw [show room w c = ((room w c).toNat : Int) by omega, cut_lo, ← List.map_take]
      walk_at "nw"
      rename_i H1 s1 k1
      have hc1 := s1 _ _ hc
      have hq1 := s1 _ _ hq
      walk_at "go"
      refine ⟨ty_l hq1, ?_⟩
      walk_at "go"
      refine ⟨l2, _, rfl, .inl (sl k1), fun l3 hl3 => ?_⟩
      walk_at "nw"
      rename_i H2 s2 k2
      have hc2 := s2 _ _ hc1
      have hq2 := s2 _ _ hq1
      have kl2 := s2 _ _ k1
      have lt : (bs.take (room w c).toNat).length ≤ (room w c).toNat := by rw [List.length_take]; exact Nat.min_le_left _ _
      walk_at "go"
      refine ⟨(x i).q, l3, _, _, rfl, rfl, hq2, k2, by rw [List.length_map, List.length_map]; exact sz (by omega), ?_⟩
      rw [← List.map_append]
      walk_at "bt"
      rename_i H3 b3 k3
      have O2 := O.same (s1.trans s2)
      have nl2 : l2 ≠ (x i).q := fun z => by rw [z, hq] at hl2; cases hl2
      walk_at "go"
      refine g_len (.inl (sl (b3 _ _ nl2 kl2))) ?_
      rw [List.length_map, List.length_take]
      walk_at "go"
      rw [show ((min (room w c).toNat bs.length : Nat) : Int) = min (room w c) (bs.length : Int) by omega]
      refine q _ (O2.put1 hi o1 b3 hq2 (fun k z => nomatch z) ⟨b3 _ _ (ne_of hc hq (fun z => nomatch z)) hc2, k3, ?_, hne, ?_⟩ ?_) ((But.of (s1.trans s2)).trans b3)
      · exact b3 _ _ hne.symm (s2 _ _ (s1 _ _ hu))
      · exact hb.same fun tt o ⟨kk, z⟩ et => b3 _ _ (ne_of et hq (by rw [z]; exact fun z => nomatch z)) (s2 _ _ (s1 _ _ et))
      · rw [List.length_append]
        omega
def sp_Channels_read (CS CC UC IA : Addr) : Sp := fun vs H Q E => ∃ (own : Addr → Option Nat) (S : Sa) (x : Nat → Ca) (w m t : Int) (cs : List Ch) (k n : Int), vs = [.ref S.p, .int k, .int n] ∧ SdO CS CC own H S x w m t cs ∧ -1000000 ≤ n ∧ n ≤ 1000000 ∧
  Kn t cs k (E (.ref UC) none H) fun i c => (n < 0 ∧ E (.ref IA) none H) ∨ (0 ≤ n ∧ ∀ l H', H l = none → Same H H' → H' l = some (.lst []) → Q (.ref l) H')
theorem ok_Channels_read (T : Txt P K mg) : FnOk P w K mg base (L2.CX P w) 2 T.f_Channels_read T.d_Channels_read ["self", "channel", "count"] (sp_Channels_read T.C_Channels T.C_Channel T.C_UnknownChannel T.C_InvalidAmount) := by
  refine T.F_Channels_read.okX sc_Channels_read (fun vs H Q E h => ?_) (fun cdv A outer s H vs Q E hr h => ?_)
  · obtain ⟨own, S, x, w, m, t, cs, k, n, rfl, O, n0, n1, h0, h1, q⟩ := h
    rfl
  · obtain ⟨own, S, x, w, m, t, cs, k, n, rfl, O, n0, n1, h0, h1, q⟩ := h
    have hu := hu_of hr
    refine ⟨_, (pss_cons (ps_set (i := 3) sc_Channels_read.nd rfl (Or.inl rfl) (pe_meth (pv 0) T.k_Channels T.a_Channels_known (ok_Channels_known T) (hr.mono (by decide)) T.b_Channels_known .nil (passes_call (takes_of rfl rfl rfl rfl) (fun _ _ _ _ h => h)) (pa_cons (pv 1) pa_nil)))
        (pss_cons (ps_if (pt_cmpR op_lt (pv 2) pe_int (nomark _)) (pss_one (ps_rs rfl (takes_of rfl rfl rfl rfl) (pmk_1 PySem.F.excBase_ValueError T.xP_InvalidAmount T.c_InvalidAmount T.ke_InvalidAmount (raises_own T.be_InvalidAmount T.te_InvalidAmount) rfl (pe_joinedJ (.cons pe_str (.cons (pe_fmt (pv 2)) .nil)))))) pss_nil)
        (pss_cons (ps_set (i := 4) sc_Channels_read.nd rfl (Or.inl rfl) (pe_slice sl_list (pe_fld (pv 3) rfl) po_none (po_some (pv 2))))
        (pss_cons (ps_delS (pe_fld (pv 3) rfl) (pv 2))
        (pss_one (ps_ret (pv 4))))))), ?_⟩
    dsimp only [cxOf, Cx.nox, Cx.wish, L2.start, List.map, List.cons_append, List.nil_append, List.length_cons, List.length_nil, Nat.reduceAdd, Nat.reduceSub, Nat.zero_add, List.replicate_succ, List.replicate_zero]
    have ho := O.ho
    walk_at "go"
    refine ⟨own, S, x, w, m, t, cs, k, rfl, O, h0, h1, ?_⟩
    rcases q with ⟨e, q⟩ | ⟨i, c, e, hi, q⟩
    · exact .inr ⟨e, q⟩
    · refine .inl ⟨i, e, ?_⟩
      obtain ⟨hc, hq, hu, hne, hb⟩ := id (O.hc i c hi)
      walk_at "go"
      rcases q with ⟨hn, q⟩ | ⟨hn, q⟩
      · refine g_dT hn ?_
        walk_at "go"
        have e0 : Str.empty.length = 0 := by decide
        have e1 : (Str.ofString "a count of ").length = 11 := by decide +kernel
        have e3 := itext (i := n) (by omega)
        refine g_jsE (by walk_at "fit") ?_
        walk_at "go"
        refine g_fmtI (log_lt (by omega)) ?_
        refine g_jsE (by walk_at "fit") ?_
        walk_at "go"
        exact q
      · refine g_dF (by omega) ?_
        walk_at "go"
        refine g_slL (sl hu) fun l2 hl2 => ?_
        rw [show n = (n.toNat : Int) by omega, cut_lo, List.take_nil]
        walk_at "nw"
        rename_i H1 s1 k1
        have hc1 := s1 _ _ hc
        walk_at "go"
        refine g_delE (s1 _ _ hu) (by omega) ?_
        rw [List.drop_nil]
        walk_at "go"
        exact q l2 _ hl2 (same_back s1 hu) (by
          by_cases z : l2 = (x i).u
          · rw [z]; exact upd_same
          · rw [upd_ne z]; exact k1)
def sp_Channels_reset (CS CC UC IA : Addr) : Sp := fun vs H Q E => ∃ (own : Addr → Option Nat) (S : Sa) (x : Nat → Ca) (w m t : Int) (cs : List Ch) (k n : Int), vs = [.ref S.p, .int k, .int n] ∧ SdO CS CC own H S x w m t cs ∧ -1000000 ≤ n ∧ n ≤ 1000000 ∧
  Kn t cs k (E (.ref UC) none H) fun i c => (¬ (0 ≤ n ∧ n ≤ 65535) ∧ E (.ref IA) none H) ∨ ((0 ≤ n ∧ n ≤ 65535) ∧ (c.br ≠ none → Q .non H) ∧ (c.br = none → ∀ own' x' H', (∀ b, H b ≠ none → own' b = own b) → SdO CS CC own' H' S x' w m t (cs.set i ⟨[], c.fin, some n⟩) → But (x i).a H H' → Q .non H'))
theorem ok_Channels_reset (T : Txt P K mg) : FnOk P w K mg base (L2.CX P w) 2 T.f_Channels_reset T.d_Channels_reset ["self", "channel", "code"] (sp_Channels_reset T.C_Channels T.C_Channel T.C_UnknownChannel T.C_InvalidAmount) := by
  refine T.F_Channels_reset.okX sc_Channels_reset (fun vs H Q E h => ?_) (fun cdv A outer s H vs Q E hr h => ?_)
  · obtain ⟨own, S, x, w, m, t, cs, k, n, rfl, O, n0, n1, h0, h1, q⟩ := h
    rfl
  · obtain ⟨own, S, x, w, m, t, cs, k, n, rfl, O, n0, n1, h0, h1, q⟩ := h
    have hu := hu_of hr
    refine ⟨_, (pss_cons (ps_set (i := 3) sc_Channels_reset.nd rfl (Or.inl rfl) (pe_meth (pv 0) T.k_Channels T.a_Channels_known (ok_Channels_known T) (hr.mono (by decide)) T.b_Channels_known .nil (passes_call (takes_of rfl rfl rfl rfl) (fun _ _ _ _ h => h)) (pa_cons (pv 1) pa_nil)))
        (pss_cons (ps_if (pt_not (pt_chain op_le op_le pe_int (pv 2) (pe_glob (v := .int 65535) (by rfl) T.v_GREATEST_CODE ⟨_, rfl⟩))) (pss_one (ps_rs rfl (takes_of rfl rfl rfl rfl) (pmk_1 PySem.F.excBase_ValueError T.xP_InvalidAmount T.c_InvalidAmount T.ke_InvalidAmount (raises_own T.be_InvalidAmount T.te_InvalidAmount) rfl (pe_joinedJ (.cons pe_str (.cons (pe_fmt (pv 2)) .nil)))))) pss_nil)
        (pss_one (ps_if (pt_cmpR op_isN (pe_fld (pv 3) rfl) pe_non (nomark _)) (pss_one (ps_expr (pe_meth (pv 3) T.k_Channel T.a_Channel_break_off (ok_Channel_break_off T) (hr.mono (by decide)) T.b_Channel_break_off .nil pass0 (pa_cons pe_str (pa_cons (pv 2) pa_nil))))) pss_nil)))), ?_⟩
    dsimp only [cxOf, Cx.nox, Cx.wish, L2.start, List.map, List.cons_append, List.nil_append, List.length_cons, List.length_nil, Nat.reduceAdd, Nat.reduceSub, Nat.zero_add, List.replicate_succ, List.replicate_zero]
    have ho := O.ho
    walk_at "go"
    refine ⟨own, S, x, w, m, t, cs, k, rfl, O, h0, h1, ?_⟩
    rcases q with ⟨e, q⟩ | ⟨i, c, e, hi, q⟩
    · exact .inr ⟨e, q⟩
    · refine .inl ⟨i, e, ?_⟩
      obtain ⟨hc, hq, hu, hne, hb⟩ := id (O.hc i c hi)
      walk_at "go"
      rcases q with ⟨hn, q⟩ | ⟨hn, q2, q3⟩
      · have e0 : Str.empty.length = 0 := by decide
        have e1 : (Str.ofString "a code of ").length = 10 := by decide +kernel
        have e3 := itext (i := n) (by omega)
        by_cases z : 0 ≤ n
        · rw [if_pos (decide_eq_true z)]
          have z2 : ¬ n ≤ 65535 := by omega
          refine ⟨n, 65535, rfl, rfl, _, rfl, ?_⟩
          rw [if_pos (show (!decide (n ≤ 65535)) = true by rw [decide_eq_false z2]; rfl)]
          walk_at "go"
          refine g_jsE (by walk_at "fit") ?_
          walk_at "go"
          refine g_fmtI (log_lt (by omega)) ?_
          refine g_jsE (by walk_at "fit") ?_
          walk_at "go"
          exact q
        · rw [if_neg (by rw [decide_eq_false z]; exact Bool.false_ne_true)]
          refine ⟨_, rfl, ?_⟩
          rw [if_pos (show (!false) = true from rfl)]
          walk_at "go"
          refine g_jsE (by walk_at "fit") ?_
          walk_at "go"
          refine g_fmtI (log_lt (by omega)) ?_
          refine g_jsE (by walk_at "fit") ?_
          walk_at "go"
          exact q
      · rw [if_pos (decide_eq_true hn.1)]
        have hn1 := hn.1
        have hn2 := hn.2
        have hb' := hb
        generalize hbv : (x i).b = b at hc hb'
        obtain ⟨cq, cf, cb⟩ := c
        dsimp only at hb hb' q2 q3 hc hq
        cases cb with
        | some k2 =>
          obtain ⟨tb, rfl, hk⟩ := hb'
          walk_at "go"
          exact q2 nofun
        | none =>
          have hb2 : b = .non := hb'
          subst hb2
          walk_at "go"
          refine ⟨x i, ⟨cq, cf, none⟩, nb t i, n, rfl, O.hc i _ hi, fun tb l1 l2 H' ht hl1 hl2 k' hc' => ?_⟩
          obtain ⟨o1, o2, o3⟩ := O.oc i (ls_i hi)
          walk_at "go"
          have ex : ∀ b, H b ≠ none → b ≠ l1 ∧ b ≠ l2 := fun b hb => ⟨fun z => hb (z ▸ hl1), fun z => hb (z ▸ hl2)⟩
          refine q3 rfl (fun b => if b = l1 ∨ b = l2 then some (i + 1) else own b) _ H' (fun b hb => if_neg (by obtain ⟨z1, z2⟩ := ex b hb; exact fun z => z.elim z1 z2)) (O.put hi (y := ⟨(x i).a, (x i).dx, l1, l2, .ref tb⟩) rfl (fun b hb => if_neg (by obtain ⟨z1, z2⟩ := ex b hb; exact fun z => z.elim z1 z2)) (fun b o h e => ?_) hc' ⟨if_pos (.inl rfl), if_pos (.inr rfl)⟩ (by have := O.hw; show ((0 : Nat) : Int) ≤ w; omega)) k'
          refine k' b o (fun z => ?_) e
          rcases h with h | ⟨kk, h⟩
          · exact h (z ▸ o1)
          · rw [z, (O.hc i _ hi).1] at e
            injection e with e
            rw [h] at e
            cases e

end
end My
namespace My
open PySem PySem.Spec L2
local macro_rules | `(tactic| walk_at "side") => `(tactic| first | assumption | decide | omega | exact ⟨by decide, by decide⟩ | exact ⟨by decide, by decide, by decide⟩ | decide +kernel | exact cdivW (by decide +kernel) (by decide +kernel) | exact Or.inl ⟨by omega, by omega⟩ | exact Or.inr ⟨by omega, by omega⟩ | (simp only [List.length_map, List.length_cons, List.length_nil, List.length_append]; omega))
local macro_rules | `(tactic| walk_at "fact") => `(tactic| first | assumption | omega | with_reducible rfl)
local macro_rules | `(tactic| walk_at "use") => `(tactic| fail "use")
local macro_rules | `(tactic| walk_at "go1") => `(tactic| with_reducible first | refine g_seq ?_ | refine g_asg ?_ | refine g_ret ?_ | refine g_ifS ?_ | refine g_drop ?_ | refine g_star ?_ | refine g_nx ?_ | refine g_rt ?_ | refine g_bkE ?_ | refine g_ctE ?_ | refine g_next ?_ | refine g_retN ?_ | refine g_brk ?_ | refine g_ct ?_ | refine g_c ?_ | refine g_op ?_ | refine g_un ?_ | refine g_rI0 ?_ | refine g_rU ?_ | refine g_rEqI ?_ | refine g_rNeI ?_ | refine g_isN ?_ | refine g_rIsB ?_ | refine g_rNotB ?_ | refine g_test ?_ | refine g_B ?_ | refine g_bl ?_ | refine g_and ?_ | refine g_or ?_ | refine g_not ?_ | refine g_andV ?_ | refine g_orV ?_ | refine g_notV ?_ | refine g_if ?_ | refine g_chain ?_ | refine g_yes ?_ | refine g_lc ?_ | refine g_revR ?_ | refine g_rng1 ?_ | refine g_iList ?_ | refine g_nil ?_ | refine g_cons ?_ | refine g_tup ?_ | refine g_lst ?_ | refine g_call ?_ | refine g_CB ?_ | refine g_sl ?_ | refine g_noPart ?_ | refine g_part ?_ | refine g_intE ?_ | refine g_ref ?_ | refine g_fld ?_ | refine g_sfld ?_ | refine g_meth ?_ | refine g_make ?_ | refine g_prop ?_  | refine g_ipI ?_ | refine g_int1 ?_ | refine g_int1B ?_ | refine g_one ?_ | refine g_two ?_ | refine g_isiI ?_ | refine g_isiIB ?_ | refine g_isiB ?_ | refine g_BM ?_ | refine g_BM0 ?_ | refine g_sub ?_)
local macro_rules | `(tactic| walk_at "go") => `(tactic| repeat (first | walk_at "go1" | ((with_reducible refine' g_nameE ?sd_ ?_); case sd_ => dsimp only [List.set_cons_succ, List.set_cons_zero]) | ((with_reducible refine' g_var ?sd_ ?_); case sd_ => exact rfl) | ((with_reducible refine' g_aug ?sd_ ?_); case sd_ => exact rfl) | ((with_reducible refine' g_rI ?sd_ ?_); case sd_ => walk_at "side") | ((with_reducible refine' g_dT ?sd_ ?_); case sd_ => walk_at "fact") | ((with_reducible refine' g_dF ?sd_ ?_); case sd_ => walk_at "fact") | ((with_reducible refine' g_nT ?sd_ ?_); case sd_ => walk_at "fact") | ((with_reducible refine' g_nF ?sd_ ?_); case sd_ => walk_at "fact") | (with_reducible refine g_iT rfl ?_) | (with_reducible refine g_iF rfl ?_) | walk_at "use"))
local macro_rules | `(tactic| walk_at "nw") => `(tactic| (generalize zq : upd _ _ _ = Hq; have sq : Same _ Hq := (by rw [← zq]; exact same_upd (by assumption)); have kq := (congrFun zq _).symm.trans upd_same; clear zq))
local macro_rules | `(tactic| walk_at "bt") => `(tactic| (generalize zq : upd _ _ _ = Hq; have bq : But _ _ Hq := (by rw [← zq]; exact But.refl.upd); have kq := (congrFun zq _).symm.trans upd_same; clear zq))
local macro_rules | `(tactic| walk_at "use") => `(tactic| first | ((with_reducible refine' fd_Channel_number ?ho_ ?hv_ ?_); (case ho_ => first | assumption | exact upd_same); (case hv_ => exact rfl)) | ((with_reducible refine' fd_Channel_announced ?ho_ ?hv_ ?_); (case ho_ => first | assumption | exact upd_same); (case hv_ => exact rfl)) | ((with_reducible refine' fd_Channel_queue ?ho_ ?hv_ ?_); (case ho_ => first | assumption | exact upd_same); (case hv_ => exact rfl)) | ((with_reducible refine' fd_Channel_credit ?ho_ ?hv_ ?_); (case ho_ => first | assumption | exact upd_same); (case hv_ => exact rfl)) | ((with_reducible refine' fd_Channel_finished ?ho_ ?hv_ ?_); (case ho_ => first | assumption | exact upd_same); (case hv_ => exact rfl)) | ((with_reducible refine' fd_Channel_end_sent ?ho_ ?hv_ ?_); (case ho_ => first | assumption | exact upd_same); (case hv_ => exact rfl)) | ((with_reducible refine' fd_Channel_unread ?ho_ ?hv_ ?_); (case ho_ => first | assumption | exact upd_same); (case hv_ => exact rfl)) | ((with_reducible refine' fd_Channel_due ?ho_ ?hv_ ?_); (case ho_ => first | assumption | exact upd_same); (case hv_ => exact rfl)) | ((with_reducible refine' fd_Channel_end_came ?ho_ ?hv_ ?_); (case ho_ => first | assumption | exact upd_same); (case hv_ => exact rfl)) | ((with_reducible refine' fd_Channel_broken ?ho_ ?hv_ ?_); (case ho_ => first | assumption | exact upd_same); (case hv_ => exact rfl)) | ((with_reducible refine' fd_Channel_reset_told ?ho_ ?hv_ ?_); (case ho_ => first | assumption | exact upd_same); (case hv_ => exact rfl)) | ((with_reducible refine' nw_Channel_number ?ho_ ?hv_ ?_); (case ho_ => first | assumption | exact upd_same); (case hv_ => exact rfl)) | ((with_reducible refine' nw_Channel_announced ?ho_ ?hv_ ?_); (case ho_ => first | assumption | exact upd_same); (case hv_ => exact rfl)) | ((with_reducible refine' nw_Channel_queue ?ho_ ?hv_ ?_); (case ho_ => first | assumption | exact upd_same); (case hv_ => exact rfl)) | ((with_reducible refine' nw_Channel_credit ?ho_ ?hv_ ?_); (case ho_ => first | assumption | exact upd_same); (case hv_ => exact rfl)) | ((with_reducible refine' nw_Channel_finished ?ho_ ?hv_ ?_); (case ho_ => first | assumption | exact upd_same); (case hv_ => exact rfl)) | ((with_reducible refine' nw_Channel_end_sent ?ho_ ?hv_ ?_); (case ho_ => first | assumption | exact upd_same); (case hv_ => exact rfl)) | ((with_reducible refine' nw_Channel_unread ?ho_ ?hv_ ?_); (case ho_ => first | assumption | exact upd_same); (case hv_ => exact rfl)) | ((with_reducible refine' nw_Channel_due ?ho_ ?hv_ ?_); (case ho_ => first | assumption | exact upd_same); (case hv_ => exact rfl)) | ((with_reducible refine' nw_Channel_end_came ?ho_ ?hv_ ?_); (case ho_ => first | assumption | exact upd_same); (case hv_ => exact rfl)) | ((with_reducible refine' nw_Channel_broken ?ho_ ?hv_ ?_); (case ho_ => first | assumption | exact upd_same); (case hv_ => exact rfl)) | ((with_reducible refine' nw_Channel_reset_told ?ho_ ?hv_ ?_); (case ho_ => first | assumption | exact upd_same); (case hv_ => exact rfl)) | ((with_reducible refine' st_Channel_number ?ho_ ?hv_ ?_); (case ho_ => first | assumption | exact upd_same); (case hv_ => exact Nat.le_of_ble_eq_true rfl)) | ((with_reducible refine' st_Channel_announced ?ho_ ?hv_ ?_); (case ho_ => first | assumption | exact upd_same); (case hv_ => exact Nat.le_of_ble_eq_true rfl)) | ((with_reducible refine' st_Channel_queue ?ho_ ?hv_ ?_); (case ho_ => first | assumption | exact upd_same); (case hv_ => exact Nat.le_of_ble_eq_true rfl)) | ((with_reducible refine' st_Channel_credit ?ho_ ?hv_ ?_); (case ho_ => first | assumption | exact upd_same); (case hv_ => exact Nat.le_of_ble_eq_true rfl)) | ((with_reducible refine' st_Channel_finished ?ho_ ?hv_ ?_); (case ho_ => first | assumption | exact upd_same); (case hv_ => exact Nat.le_of_ble_eq_true rfl)) | ((with_reducible refine' st_Channel_end_sent ?ho_ ?hv_ ?_); (case ho_ => first | assumption | exact upd_same); (case hv_ => exact Nat.le_of_ble_eq_true rfl)) | ((with_reducible refine' st_Channel_unread ?ho_ ?hv_ ?_); (case ho_ => first | assumption | exact upd_same); (case hv_ => exact Nat.le_of_ble_eq_true rfl)) | ((with_reducible refine' st_Channel_due ?ho_ ?hv_ ?_); (case ho_ => first | assumption | exact upd_same); (case hv_ => exact Nat.le_of_ble_eq_true rfl)) | ((with_reducible refine' st_Channel_end_came ?ho_ ?hv_ ?_); (case ho_ => first | assumption | exact upd_same); (case hv_ => exact Nat.le_of_ble_eq_true rfl)) | ((with_reducible refine' st_Channel_broken ?ho_ ?hv_ ?_); (case ho_ => first | assumption | exact upd_same); (case hv_ => exact Nat.le_of_ble_eq_true rfl)) | ((with_reducible refine' st_Channel_reset_told ?ho_ ?hv_ ?_); (case ho_ => first | assumption | exact upd_same); (case hv_ => exact Nat.le_of_ble_eq_true rfl)) | ((with_reducible refine' me_Channel_break_off ?ho_ ?_); (case ho_ => first | assumption | exact upd_same)))
local macro_rules | `(tactic| walk_at "use") => `(tactic| first | ((with_reducible refine' fd_Channels_failure ?ho_ ?hv_ ?_); (case ho_ => first | assumption | exact upd_same); (case hv_ => exact rfl)) | ((with_reducible refine' fd_Channels__window ?ho_ ?hv_ ?_); (case ho_ => first | assumption | exact upd_same); (case hv_ => exact rfl)) | ((with_reducible refine' fd_Channels__most ?ho_ ?hv_ ?_); (case ho_ => first | assumption | exact upd_same); (case hv_ => exact rfl)) | ((with_reducible refine' fd_Channels__next_here ?ho_ ?hv_ ?_); (case ho_ => first | assumption | exact upd_same); (case hv_ => exact rfl)) | ((with_reducible refine' fd_Channels__next_there ?ho_ ?hv_ ?_); (case ho_ => first | assumption | exact upd_same); (case hv_ => exact rfl)) | ((with_reducible refine' fd_Channels__channels ?ho_ ?hv_ ?_); (case ho_ => first | assumption | exact upd_same); (case hv_ => exact rfl)) | ((with_reducible refine' fd_Channels__numbers ?ho_ ?hv_ ?_); (case ho_ => first | assumption | exact upd_same); (case hv_ => exact rfl)) | ((with_reducible refine' fd_Channels__turns ?ho_ ?hv_ ?_); (case ho_ => first | assumption | exact upd_same); (case hv_ => exact rfl)) | ((with_reducible refine' fd_Channels__offered ?ho_ ?hv_ ?_); (case ho_ => first | assumption | exact upd_same); (case hv_ => exact rfl)) | ((with_reducible refine' fd_Channels__going ?ho_ ?hv_ ?_); (case ho_ => first | assumption | exact upd_same); (case hv_ => exact rfl)) | ((with_reducible refine' fd_Channels__coming ?ho_ ?hv_ ?_); (case ho_ => first | assumption | exact upd_same); (case hv_ => exact rfl)) | ((with_reducible refine' nw_Channels_failure ?ho_ ?hv_ ?_); (case ho_ => first | assumption | exact upd_same); (case hv_ => exact rfl)) | ((with_reducible refine' nw_Channels__window ?ho_ ?hv_ ?_); (case ho_ => first | assumption | exact upd_same); (case hv_ => exact rfl)) | ((with_reducible refine' nw_Channels__most ?ho_ ?hv_ ?_); (case ho_ => first | assumption | exact upd_same); (case hv_ => exact rfl)) | ((with_reducible refine' nw_Channels__next_here ?ho_ ?hv_ ?_); (case ho_ => first | assumption | exact upd_same); (case hv_ => exact rfl)) | ((with_reducible refine' nw_Channels__next_there ?ho_ ?hv_ ?_); (case ho_ => first | assumption | exact upd_same); (case hv_ => exact rfl)) | ((with_reducible refine' nw_Channels__channels ?ho_ ?hv_ ?_); (case ho_ => first | assumption | exact upd_same); (case hv_ => exact rfl)) | ((with_reducible refine' nw_Channels__numbers ?ho_ ?hv_ ?_); (case ho_ => first | assumption | exact upd_same); (case hv_ => exact rfl)) | ((with_reducible refine' nw_Channels__turns ?ho_ ?hv_ ?_); (case ho_ => first | assumption | exact upd_same); (case hv_ => exact rfl)) | ((with_reducible refine' nw_Channels__offered ?ho_ ?hv_ ?_); (case ho_ => first | assumption | exact upd_same); (case hv_ => exact rfl)) | ((with_reducible refine' nw_Channels__going ?ho_ ?hv_ ?_); (case ho_ => first | assumption | exact upd_same); (case hv_ => exact rfl)) | ((with_reducible refine' nw_Channels__coming ?ho_ ?hv_ ?_); (case ho_ => first | assumption | exact upd_same); (case hv_ => exact rfl)) | ((with_reducible refine' st_Channels_failure ?ho_ ?hv_ ?_); (case ho_ => first | assumption | exact upd_same); (case hv_ => exact Nat.le_of_ble_eq_true rfl)) | ((with_reducible refine' st_Channels__window ?ho_ ?hv_ ?_); (case ho_ => first | assumption | exact upd_same); (case hv_ => exact Nat.le_of_ble_eq_true rfl)) | ((with_reducible refine' st_Channels__most ?ho_ ?hv_ ?_); (case ho_ => first | assumption | exact upd_same); (case hv_ => exact Nat.le_of_ble_eq_true rfl)) | ((with_reducible refine' st_Channels__next_here ?ho_ ?hv_ ?_); (case ho_ => first | assumption | exact upd_same); (case hv_ => exact Nat.le_of_ble_eq_true rfl)) | ((with_reducible refine' st_Channels__next_there ?ho_ ?hv_ ?_); (case ho_ => first | assumption | exact upd_same); (case hv_ => exact Nat.le_of_ble_eq_true rfl)) | ((with_reducible refine' st_Channels__channels ?ho_ ?hv_ ?_); (case ho_ => first | assumption | exact upd_same); (case hv_ => exact Nat.le_of_ble_eq_true rfl)) | ((with_reducible refine' st_Channels__numbers ?ho_ ?hv_ ?_); (case ho_ => first | assumption | exact upd_same); (case hv_ => exact Nat.le_of_ble_eq_true rfl)) | ((with_reducible refine' st_Channels__turns ?ho_ ?hv_ ?_); (case ho_ => first | assumption | exact upd_same); (case hv_ => exact Nat.le_of_ble_eq_true rfl)) | ((with_reducible refine' st_Channels__offered ?ho_ ?hv_ ?_); (case ho_ => first | assumption | exact upd_same); (case hv_ => exact Nat.le_of_ble_eq_true rfl)) | ((with_reducible refine' st_Channels__going ?ho_ ?hv_ ?_); (case ho_ => first | assumption | exact upd_same); (case hv_ => exact Nat.le_of_ble_eq_true rfl)) | ((with_reducible refine' st_Channels__coming ?ho_ ?hv_ ?_); (case ho_ => first | assumption | exact upd_same); (case hv_ => exact Nat.le_of_ble_eq_true rfl)) | ((with_reducible refine' me_Channels_len__ ?ho_ ?_); (case ho_ => first | assumption | exact upd_same)) | ((with_reducible refine' me_Channels_iter__ ?ho_ ?_); (case ho_ => first | assumption | exact upd_same)) | ((with_reducible refine' me_Channels_open_channel ?ho_ ?_); (case ho_ => first | assumption | exact upd_same)) | ((with_reducible refine' me_Channels_accept ?ho_ ?_); (case ho_ => first | assumption | exact upd_same)) | ((with_reducible refine' me_Channels_write ?ho_ ?_); (case ho_ => first | assumption | exact upd_same)) | ((with_reducible refine' me_Channels_read ?ho_ ?_); (case ho_ => first | assumption | exact upd_same)) | ((with_reducible refine' me_Channels_finish ?ho_ ?_); (case ho_ => first | assumption | exact upd_same)) | ((with_reducible refine' me_Channels_reset ?ho_ ?_); (case ho_ => first | assumption | exact upd_same)) | ((with_reducible refine' me_Channels_status ?ho_ ?_); (case ho_ => first | assumption | exact upd_same)) | ((with_reducible refine' me_Channels_known ?ho_ ?_); (case ho_ => first | assumption | exact upd_same)) | ((with_reducible refine' me_Channels_add ?ho_ ?_); (case ho_ => first | assumption | exact upd_same)) | ((with_reducible refine' me_Channels_room_of ?ho_ ?_); (case ho_ => first | assumption | exact upd_same)))
section
variable {P : Program} {w : World} {K : PySem.W.Frag} {mg : Str → Option Value} {base : Heap}
local macro_rules | `(tactic| walk_at "use") => `(tactic| with_reducible first | refine g_rs0 ?_ | refine g_rs1 ?_ | refine g_tryA ?_ | refine g_tryO ?_ | refine g_callS ?_ | refine g_joined ?_ | refine g_jsnil ?_ | refine g_jscons ?_ | refine g_fmt ?_)
local macro_rules | `(tactic| walk_at "fit") => `(tactic| (refine fit2 ?_; (try simp only [PySem.Str.length_append]); omega))
local macro_rules | `(tactic| walk_at "use") => `(tactic| first | ((with_reducible refine' g_addS ?sd_ ?_); case sd_ => (first | omega | (simp only [PySem.Str.length_append]; omega))) | ((with_reducible refine' g_slS ?sd_ ?_); case sd_ => omega) | (with_reducible refine g_m0 ?_))

local macro_rules | `(tactic| walk_at "use") => `(tactic| with_reducible first | refine g_dgetI ?_ | refine g_dputI ?_ | refine g_dget1I ?_ | refine g_dget2I ?_ | refine g_dinI ?_ | refine g_dnotinI ?_ | refine g_dnewK ?_)

theorem g_disp {trs : List (TE × TE)} {σ : St} {H : Hp} {Q : VK} (h : ∀ p, H p = none → tPairs trs σ (upd H p (.dK [])) fun ps H2 => H2 p = some (.dK []) ∧ ∃ kvs : List (Key × V), ps = kvs.map (fun kv => (kV kv.1, kv.2)) ∧ kvs.length ≤ 15 ∧ Q (.ref p) (upd H2 p (.dK (mergeK [] kvs)))) : tDisp trs σ H Q := h
theorem g_pcons {tk tv : TE} {r : List (TE × TE)} {σ : St} {H : Hp} {Q : List (V × V) → Hp → Prop} (h : tk σ H fun x H1 => tv σ H1 fun y H2 => tPairs r σ H2 fun ps H3 => Q ((x, y) :: ps) H3) : tPairs ((tk, tv) :: r) σ H Q := h
theorem g_pnil {σ : St} {H : Hp} {Q : List (V × V) → Hp → Prop} (q : Q [] H) : tPairs [] σ H Q := q
local macro_rules | `(tactic| walk_at "use") => `(tactic| with_reducible first | refine g_disp ?_ | refine g_pcons ?_ | refine g_pnil ?_)
local macro_rules | `(tactic| walk_at "use") => `(tactic| with_reducible refine u_cell (by assumption) (by omega) ?_)

theorem md_D (a b c d e f : V) : mergeK [] (dk kd_D [a, b, c, d, e, f]) = dk kd_D [a, b, c, d, e, f] := by first | rfl | kernel_rfl
def sp_Channels_status (CS CC UC : Addr) : Sp := fun vs H Q E => ∃ (own : Addr → Option Nat) (S : Sa) (x : Nat → Ca) (w m t : Int) (cs : List Ch) (k : Int), vs = [.ref S.p, .int k] ∧ SdO CS CC own H S x w m t cs ∧
  Kn t cs k (E (.ref UC) none H) fun i c => ∀ d H', H d = none → Same H H' → H' d = some (.dK (dk kd_D [.int (room w c), .int (c.q.length : Int), .int 0, .bl c.fin, .bl false, (x i).b])) → Q (.ref d) H'
theorem ok_Channels_status (T : Txt P K mg) : FnOk P w K mg base (L2.CX P w) 2 T.f_Channels_status T.d_Channels_status ["self", "channel"] (sp_Channels_status T.C_Channels T.C_Channel T.C_UnknownChannel) := by
  refine T.F_Channels_status.okX sc_Channels_status (fun vs H Q E h => ?_) (fun cdv A outer s H vs Q E hr h => ?_)
  · obtain ⟨own, S, x, w, m, t, cs, k, rfl, O, h0, h1, q⟩ := h
    rfl
  · obtain ⟨own, S, x, w, m, t, cs, k, rfl, O, h0, h1, q⟩ := h
    have hu := hu_of hr
    refine ⟨_, (pss_cons (ps_set (i := 2) sc_Channels_status.nd rfl (Or.inl rfl) (pe_meth (pv 0) T.k_Channels T.a_Channels_known (ok_Channels_known T) (hr.mono (by decide)) T.b_Channels_known .nil (passes_call (takes_of rfl rfl rfl rfl) (fun _ _ _ _ h => h)) (pa_cons (pv 1) pa_nil)))
        (pss_one (ps_ret (pe_disp (pps_cons pe_str (pe_meth (pv 0) T.k_Channels T.a_Channels_room_of (ok_Channels_room_of T) (hr.mono (by decide)) T.b_Channels_room_of .nil pass0 (pa_cons (pv 2) pa_nil)) (pps_cons pe_str (pe_callB call_len_seq (by rfl) T.n_len (by decide +kernel) (pa_cons (pe_fld (pv 2) rfl) pa_nil)) (pps_cons pe_str (pe_callB call_len_seq (by rfl) T.n_len (by decide +kernel) (pa_cons (pe_fld (pv 2) rfl) pa_nil)) (pps_cons pe_str (pe_fld (pv 2) rfl) (pps_cons pe_str (pe_and (pe_cmpR op_isN (pe_fld (pv 2) rfl) pe_non (nomark _)) (pe_and (pe_fld (pv 2) rfl) (pe_one (pe_cmpR op_eq (pe_callB call_len_seq (by rfl) T.n_len (by decide +kernel) (pa_cons (pe_fld (pv 2) rfl) pa_nil)) pe_int (nomark _))))) (pps_cons pe_str (pe_fld (pv 2) rfl) pps_nil)))))) (by rfl) (by rfl) (fun z => by cases z) (by decide))))), ?_⟩
    dsimp only [cxOf, Cx.nox, Cx.wish, L2.start, List.map, List.cons_append, List.nil_append, List.length_cons, List.length_nil, Nat.reduceAdd, Nat.reduceSub, Nat.zero_add, List.replicate_succ, List.replicate_zero]
    have ho := O.ho
    walk_at "go"
    refine ⟨own, S, x, w, m, t, cs, k, rfl, O, h0, h1, ?_⟩
    rcases q with ⟨e, q⟩ | ⟨i, c, e, hi, q⟩
    · exact .inr ⟨e, q⟩
    · refine .inl ⟨i, e, ?_⟩
      walk_at "go"
      obtain ⟨hc0, hq0, hu0, hne, hb⟩ := id (O.hc i c hi)
      have hw := O.hw
      intro p hp
      walk_at "nw"
      rename_i H1 s1 k1
      have ho := s1 _ _ ho
      have hc := s1 _ _ hc0
      have hq := s1 _ _ hq0
      have hu := s1 _ _ hu0
      have O1 := O.same s1
      have fin : ∀ bv : Bool, bv = false → Q (.ref p) (upd H1 p (.dK (mergeK [] (dk kd_D [.int (room w c), .int (c.q.length : Int), .int 0, .bl c.fin, .bl bv, (x i).b])))) := fun bv eb => by
        subst eb
        refine q p _ hp (fun b o e => by rw [upd_ne (ne_of_none e hp)]; exact s1 _ _ e) ?_
        rw [upd_same, md_D]
      walk_at "go"
      refine ⟨own, S, x, w, m, t, cs, i, c, rfl, O1, hi, ?_⟩
      walk_at "go"
      refine g_len (.inl (sl hq)) ?_
      rw [List.length_map]
      walk_at "go"
      refine g_len (.inl (sl hu)) ?_
      walk_at "go"
      have hB : (x i).b = .non ∨ ∃ t2, (x i).b = V.ref t2 := by
        cases hbr : c.br with
        | none => rw [hbr] at hb; exact .inl hb
        | some k2 =>
          rw [hbr] at hb
          obtain ⟨t2, e2, _⟩ := hb
          exact .inr ⟨t2, e2⟩
      rcases hB with hB | ⟨t2, hB⟩
      · rw [if_pos (decide_eq_true hB)]
        walk_at "go"
        exact ⟨k1, dk kd_D [.int (room w c), .int (c.q.length : Int), .int 0, .bl c.fin, .bl false, (x i).b], rfl, by show 6 ≤ 15; decide, fin false rfl⟩
      · rw [if_neg (by rw [hB, decide_eq_false (fun z => nomatch z)]; exact Bool.false_ne_true)]
        walk_at "go"
        exact ⟨k1, dk kd_D [.int (room w c), .int (c.q.length : Int), .int 0, .bl c.fin, .bl false, (x i).b], rfl, by show 6 ≤ 15; decide, fin false rfl⟩
def sp_Channels_add (CS CC : Addr) : Sp := fun vs H Q _ => ∃ (own : Addr → Option Nat) (S : Sa) (x : Nat → Ca) (w m t : Int) (cs : List Ch) (y : Ca) (H0 : Hp), vs = [.ref S.p, .ref y.a] ∧ SdO CS CC own H0 S x w m t cs ∧ cs.length < 100 ∧ But S.p H0 H ∧
  H S.p = some (.ins CS S.dx (obj ky_Channels [.non, .int w, .int m, .int (nb t (cs.length + 1)), .int S.nt, .ref S.cd, .ref S.nl, .ref S.tl, .ref S.ol, .ref S.gl, .ref S.cl])) ∧ ChO CC H y ⟨[], false, none⟩ (nb t cs.length) ∧ H0 y.a = none ∧ H0 y.q = none ∧ H0 y.u = none ∧
  ∀ own' S' H', (∀ b, H0 b ≠ none → own' b = own b) → S'.p = S.p → SdO CS CC own' H' S' (fun j => if j = cs.length then y else x j) w m t (cs ++ [⟨[], false, none⟩]) → (∀ b o, own b = none → H0 b = some o → H' b = some o) → Q .non H'
theorem nbs_succ {t : Int} {n : Nat} : nbs t (n + 1) = nbs t n ++ [nb t n] := by
  unfold nbs
  rw [List.range_succ, List.map_append]
  rfl
theorem nbs_sorted {t : Int} : ∀ {n : Nat}, (nbs t n).Pairwise (· ≤ ·)
  | 0 => List.Pairwise.nil
  | n + 1 => by
    rw [nbs_succ]
    refine List.pairwise_append.mpr ⟨nbs_sorted, List.pairwise_singleton _ _, fun a ha b hb => ?_⟩
    rw [List.mem_singleton] at hb
    subst hb
    unfold nbs at ha
    obtain ⟨j, hj, rfl⟩ := List.mem_map.mp ha
    have := List.mem_range.mp hj
    unfold nb
    omega
theorem nbs_one {t : Int} {n : Nat} {ns : List Int} (h : ns.Perm (nbs t n)) (hs : ns.Pairwise (· ≤ ·)) : ns = nbs t n := List.Perm.eq_of_pairwise (fun _ _ _ _ a b => Int.le_antisymm a b) hs nbs_sorted h
theorem ok_Channels_add (T : Txt P K mg) : FnOk P w K mg base CX0 1 T.f_Channels_add T.d_Channels_add ["self", "channel"] (sp_Channels_add T.C_Channels T.C_Channel) := by
  refine T.F_Channels_add.ok sc_Channels_add (fun vs H Q E h => ?_) (fun cdv A outer s H vs Q E hr h => ?_)
  · obtain ⟨own, S, x, w, m, t, cs, y, H0, rfl, O, hlt, b0, ho, hY, y1, y2, y3, q⟩ := h
    rfl
  · obtain ⟨own, S, x, w, m, t, cs, y, H0, rfl, O, hlt, b0, ho, hY, y1, y2, y3, q⟩ := h
    have hu := hu_of hr
    refine ⟨_, (pss_cons (ps_dput hu (pe_fld (pv 0) rfl) (pe_fld (pv 1) rfl) (pv 1) rfl)
        (pss_cons (ps_fld (pv 0) (pe_callB cr_sortedI (by rfl) T.n_sorted (by decide +kernel) (pa_cons (pe_lst (StX.pa_star (pe_fld (pv 0) rfl) (pa_cons (pe_fld (pv 1) rfl) pa_nil))) pa_nil)) rfl)
        (pss_one (ps_expr (pe_bm PySem.F.plainAttrs_list PySem.F.slot_list_append PySem.F.type_list_append mt_append (pe_fld (pv 0) rfl) (pa_cons (pe_fld (pv 1) rfl) pa_nil)))))), ?_⟩
    dsimp only [cxOf, Cx.nox, Cx.wish, L2.start, List.map, List.cons_append, List.nil_append, List.length_cons, List.length_nil, Nat.reduceAdd, Nat.reduceSub, Nat.zero_add, List.replicate_succ, List.replicate_zero]
    obtain ⟨hc, hq, hu, hne, hb⟩ := id hY
    walk_at "go"
    obtain ⟨kvs0, ek0, _⟩ := id O.hd
    have ncd : S.cd ≠ S.p := ne_of ek0 O.ho (fun z => nomatch z)
    have nnl : S.nl ≠ S.p := ne_of O.hn O.ho (fun z => nomatch z)
    have ntl : S.tl ≠ S.p := ne_of O.ht O.ho (fun z => nomatch z)
    have nol : S.ol ≠ S.p := ne_of O.hl O.ho (fun z => nomatch z)
    have hdH := O.hd.at (H' := H) fun o e => b0 _ _ ncd e
    have hkH := b0 _ _ ncd ek0
    obtain ⟨H1, P1, b1, d1⟩ := hdH.put (by omega) (nb t cs.length) (V.ref y.a)
    refine ⟨S.cd, H1, rfl, P1, ?_⟩
    have nY : ∀ b, H0 b = none → ∀ o, H0 S.cd = some o → b ≠ S.cd := fun b hb o e z => by rw [z, e] at hb; cases hb
    have ho1 := b1 _ _ ncd.symm ho
    have hn1 := b1 _ _ (ne_of O.hn ek0 (fun z => nomatch z)) (b0 _ _ nnl O.hn)
    have ht1 := b1 _ _ (ne_of O.ht ek0 (fun z => nomatch z)) (b0 _ _ ntl O.ht)
    have hl1 := b1 _ _ (ne_of O.hl ek0 (fun z => nomatch z)) (b0 _ _ nol O.hl)
    have hY1 : ChO T.C_Channel H1 y ⟨[], false, none⟩ (nb t cs.length) := hY.keep fun b o h e => b1 _ _ (by
      rcases h with h | h | h | ⟨kk, h⟩
      · rw [h]; exact nY _ y1 _ ek0
      · rw [h]; exact nY _ y2 _ ek0
      · rw [h]; exact nY _ y3 _ ek0
      · exact ne_of e hkH (by rw [h]; exact fun z => nomatch z)) e
    have hc1 := hY1.1
    walk_at "go"
    refine ⟨S.nl, _, rfl, .inr (sl hn1), ?_⟩
    walk_at "go"
    have hlen : (nbs t cs.length).length = cs.length := by unfold nbs; rw [List.length_map, List.length_range]
    refine ⟨by rw [List.length_append, List.length_map, hlen]; exact sz (by show cs.length + 1 ≤ _; omega), fun l1 hl1' => ?_⟩
    walk_at "nw"
    rename_i H2 s2 k2
    have k2 : H2 l1 = some (.lst ((nbs t (cs.length + 1)).map V.int)) := by rw [k2, nbs_succ, List.map_append]; rfl
    walk_at "go"
    refine ⟨l1, nbs t (cs.length + 1), rfl, sl k2, fun ns' l2 hp hs hf2 => ?_⟩
    obtain rfl := nbs_one hp hs
    walk_at "nw"
    rename_i H3 s3 k3
    have ho3 := s3 _ _ (s2 _ _ ho1)
    have ht3 := s3 _ _ (s2 _ _ ht1)
    have hc3 := s3 _ _ (s2 _ _ hc1)
    have c3 := s2.trans s3
    have f2 : H1 l2 = none := by
      cases e : H1 l2 with
      | none => rfl
      | some o => rw [s2 _ _ e] at hf2; cases hf2
    have n2 : ∀ b o, H1 b = some o → b ≠ l2 := fun b o e => ne_of_none e f2
    walk_at "go"
    simp only [List.set_cons_succ, List.set_cons_zero]
    walk_at "bt"
    rename_i H4 b4 k4
    have ht4 := b4 _ _ ntl ht3
    have hc4 := b4 _ _ (show y.a ≠ S.p from fun z => by rw [z, O.ho] at y1; cases y1) hc3
    walk_at "go"
    refine ⟨ty_l ht4, ?_⟩
    walk_at "go"
    refine g_append ht4 (szl (by rw [List.length_map, hlen]; omega)) ?_
    walk_at "go"
    generalize z5 : upd H4 S.tl _ = H5
    have b5 : But S.tl H4 H5 := by rw [← z5]; exact But.refl.upd
    have k5 := (congrFun z5 S.tl).symm.trans upd_same
    clear z5
    have keep : ∀ b o, b ≠ S.p → b ≠ S.cd → b ≠ S.tl → H b = some o → H5 b = some o := fun b o m1 m2 m3 e => b5 _ _ m3 (b4 _ _ m1 (c3 _ _ (b1 _ _ m2 e)))
    have keep0 : ∀ b o, b ≠ S.p → b ≠ S.cd → b ≠ S.tl → H0 b = some o → H5 b = some o := fun b o m1 m2 m3 e => keep b o m1 m2 m3 (b0 _ _ m1 e)
    have own0 : ∀ b j, own b = some (j + 1) → b ≠ S.p ∧ b ≠ S.cd ∧ b ≠ S.tl := fun b j e => ⟨fun z => (by rw [z, O.op] at e; cases e), fun z => (by rw [z, O.od] at e; cases e), fun z => (by rw [z, O.ot] at e; cases e)⟩
    have new0 : ∀ b, H0 b = none → b ≠ S.p ∧ b ≠ S.cd ∧ b ≠ S.tl := fun b e => ⟨fun z => (by rw [z, O.ho] at e; cases e), fun z => (by rw [z, ek0] at e; cases e), fun z => (by rw [z, O.ht] at e; cases e)⟩
    have fl2 : H0 l2 = none := by
      cases e : H0 l2 with
      | none => rfl
      | some o =>
        by_cases z1 : l2 = S.p
        · rw [z1, ho1] at f2; cases f2
        · by_cases z2 : l2 = S.cd
          · obtain ⟨kk, e2, _⟩ := id d1
            rw [z2, e2] at f2; cases f2
          · rw [b1 _ _ z2 (b0 _ _ z1 e)] at f2; cases f2
    obtain ⟨g1, g2, g3⟩ := new0 _ fl2
    have hown : ∀ b, H0 b ≠ none → (if b = y.a ∨ b = y.q ∨ b = y.u then some (cs.length + 1) else if b = l2 then some 0 else own b) = own b := fun b hb => by
      rw [if_neg (fun z => z.elim (fun z => hb (by rw [z]; exact y1)) fun z => z.elim (fun z => hb (by rw [z]; exact y2)) fun z => hb (by rw [z]; exact y3)), if_neg (fun z => hb (by rw [z]; exact fl2))]
    have kn : ∀ b o, H0 b = some o → H0 b ≠ none := fun b o e => by rw [e]; exact nofun
    have l2y : H y.a ≠ none ∧ H y.q ≠ none ∧ H y.u ≠ none := hY.mem
    have l2H : H l2 = none := by
      cases e : H l2 with
      | none => rfl
      | some o =>
        have := b1 _ _ g2 e
        rw [this] at f2; cases f2
    have ny : ∀ b, H b ≠ none → l2 ≠ b := fun b hb z => hb (z ▸ l2H)
    refine q (fun b => if b = y.a ∨ b = y.q ∨ b = y.u then some (cs.length + 1) else if b = l2 then some 0 else own b) ⟨S.p, S.dx, S.cd, l2, S.tl, S.ol, S.gl, S.cl, S.nt⟩ H5 hown rfl ?_ (fun b o e1 e2 => keep0 b o (fun z => by rw [z, O.op] at e1; cases e1) (fun z => by rw [z, O.od] at e1; cases e1) (fun z => by rw [z, O.ot] at e1; cases e1) e2)
    have elen : (cs ++ [(⟨[], false, none⟩ : Ch)]).length = cs.length + 1 := by rw [List.length_append]; rfl
    refine ⟨?_, ?_, ?_, ?_, keep0 _ _ nol (ne_of O.hl ek0 (fun z => nomatch z)) O.n2.symm O.hl, fun i c e => ?_, fun i hi => ?_, ?_, ?_, ?_, ?_, ?_, g3, O.n2, O.hw, O.hm, O.h1, ?_, fun i c e => ?_⟩
    · rw [elen]; exact b5 _ _ ntl.symm k4
    · rw [elen]
      have d5 := d1.at (H' := H5) fun o e => b5 _ _ (ne_of ek0 O.ht (fun z => nomatch z)) (b4 _ _ ncd (c3 _ _ e))
      rw [show (fun k => (pos t (cs.length + 1) k).map fun i => V.ref (if i = cs.length then y else x i).a) = fun j => if j = nb t cs.length then some (V.ref y.a) else (pos t cs.length j).map fun i => V.ref (x i).a from funext fun k => ?_]
      · exact d5
      · by_cases z : k = nb t cs.length
        · rw [if_pos z, pos_some.mpr ⟨Nat.lt_succ_self _, z⟩]
          show some (V.ref (if cs.length = cs.length then y else x cs.length).a) = _
          rw [if_pos rfl]
        · rw [if_neg z]
          cases e : pos t cs.length k with
          | some j =>
            obtain ⟨j1, j2⟩ := pos_some.mp e
            rw [pos_some.mpr ⟨Nat.lt_succ_of_lt j1, j2⟩]
            show some (V.ref (if j = cs.length then y else x j).a) = _
            rw [if_neg (Nat.ne_of_lt j1)]
            rfl
          | none =>
            cases e2 : pos t (cs.length + 1) k with
            | none => rfl
            | some j =>
              obtain ⟨j1, j2⟩ := pos_some.mp e2
              by_cases z3 : j = cs.length
              · exact absurd (z3 ▸ j2) z
              · rw [pos_some.mpr ⟨by omega, j2⟩] at e; cases e
    · rw [elen]; exact b5 _ _ g3 (b4 _ _ g1 k3)
    · rw [elen, k5, nbs_succ, List.map_append]; rfl
    · by_cases z : i = cs.length
      · subst z
        rw [List.getElem?_append_right (Nat.le_refl _), Nat.sub_self] at e
        rw [if_pos rfl, ← Option.some.inj e]
        refine hY.keep fun b o h e => ?_
        rcases h with h | h | h | ⟨kk, h⟩
        · obtain ⟨a1, a2, a3⟩ := new0 b (h ▸ y1); exact keep b o a1 a2 a3 e
        · obtain ⟨a1, a2, a3⟩ := new0 b (h ▸ y2); exact keep b o a1 a2 a3 e
        · obtain ⟨a1, a2, a3⟩ := new0 b (h ▸ y3); exact keep b o a1 a2 a3 e
        · exact keep b o (ne_of e ho (by rw [h]; exact fun z => nomatch z)) (ne_of e hkH (by rw [h]; exact fun z => nomatch z)) (ne_of e (b0 _ _ ntl O.ht) (by rw [h]; exact fun z => nomatch z)) e
      · have hi := ls_i e
        rw [elen] at hi
        have hi2 : i < cs.length := by omega
        rw [List.getElem?_append_left hi2] at e
        rw [if_neg z]
        obtain ⟨o1, o2, o3⟩ := O.oc i hi2
        refine (O.hc i c e).keep fun b o h e => ?_
        rcases h with h | h | h | ⟨kk, h⟩
        · obtain ⟨a1, a2, a3⟩ := own0 b i (h ▸ o1); exact keep0 b o a1 a2 a3 e
        · obtain ⟨a1, a2, a3⟩ := own0 b i (h ▸ o2); exact keep0 b o a1 a2 a3 e
        · obtain ⟨a1, a2, a3⟩ := own0 b i (h ▸ o3); exact keep0 b o a1 a2 a3 e
        · exact keep0 b o (ne_of e O.ho (by rw [h]; exact fun z => nomatch z)) (ne_of e ek0 (by rw [h]; exact fun z => nomatch z)) (ne_of e O.ht (by rw [h]; exact fun z => nomatch z)) e
    · rw [elen] at hi
      by_cases z : i = cs.length
      · subst z
        rw [if_pos rfl]
        exact ⟨if_pos (.inl rfl), if_pos (.inr (.inl rfl)), if_pos (.inr (.inr rfl))⟩
      · rw [if_neg z]
        have hi2 : i < cs.length := by omega
        obtain ⟨o1, o2, o3⟩ := O.oc i hi2
        obtain ⟨m1, m2, m3⟩ := (O.hc i _ (List.getElem?_eq_getElem hi2)).mem
        exact ⟨(hown _ m1).trans o1, (hown _ m2).trans o2, (hown _ m3).trans o3⟩
    · exact (hown _ (kn _ _ O.ho)).trans O.op
    · exact (hown _ (kn _ _ ek0)).trans O.od
    · show (if l2 = y.a ∨ l2 = y.q ∨ l2 = y.u then _ else _) = _
      rw [if_neg (fun z => z.elim (ny _ l2y.1) fun z => z.elim (ny _ l2y.2.1) (ny _ l2y.2.2))]
      exact if_pos rfl
    · exact (hown _ (kn _ _ O.ht)).trans O.ot
    · exact (hown _ (kn _ _ O.hl)).trans O.ol
    · rw [elen]; omega
    · by_cases z : i = cs.length
      · subst z
        rw [List.getElem?_append_right (Nat.le_refl _), Nat.sub_self] at e
        rw [← Option.some.inj e]
        have := O.hw
        show ((0 : Nat) : Int) ≤ w
        omega
      · have hi := ls_i e
        rw [elen] at hi
        rw [List.getElem?_append_left (by omega)] at e
        exact O.hq i c e

end
end My
namespace My
open PySem PySem.Spec L2
local macro_rules | `(tactic| walk_at "side") => `(tactic| first | assumption | decide | omega | exact ⟨by decide, by decide⟩ | exact ⟨by decide, by decide, by decide⟩ | decide +kernel | exact cdivW (by decide +kernel) (by decide +kernel) | exact Or.inl ⟨by omega, by omega⟩ | exact Or.inr ⟨by omega, by omega⟩ | (simp only [List.length_map, List.length_cons, List.length_nil, List.length_append]; omega))
local macro_rules | `(tactic| walk_at "fact") => `(tactic| first | assumption | omega | with_reducible rfl)
local macro_rules | `(tactic| walk_at "use") => `(tactic| fail "use")
local macro_rules | `(tactic| walk_at "go1") => `(tactic| with_reducible first | refine g_seq ?_ | refine g_asg ?_ | refine g_ret ?_ | refine g_ifS ?_ | refine g_drop ?_ | refine g_star ?_ | refine g_nx ?_ | refine g_rt ?_ | refine g_bkE ?_ | refine g_ctE ?_ | refine g_next ?_ | refine g_retN ?_ | refine g_brk ?_ | refine g_ct ?_ | refine g_c ?_ | refine g_op ?_ | refine g_un ?_ | refine g_rI0 ?_ | refine g_rU ?_ | refine g_rEqI ?_ | refine g_rNeI ?_ | refine g_isN ?_ | refine g_rIsB ?_ | refine g_rNotB ?_ | refine g_test ?_ | refine g_B ?_ | refine g_bl ?_ | refine g_and ?_ | refine g_or ?_ | refine g_not ?_ | refine g_andV ?_ | refine g_orV ?_ | refine g_notV ?_ | refine g_if ?_ | refine g_chain ?_ | refine g_yes ?_ | refine g_lc ?_ | refine g_revR ?_ | refine g_rng1 ?_ | refine g_iList ?_ | refine g_nil ?_ | refine g_cons ?_ | refine g_tup ?_ | refine g_lst ?_ | refine g_call ?_ | refine g_CB ?_ | refine g_sl ?_ | refine g_noPart ?_ | refine g_part ?_ | refine g_intE ?_ | refine g_ref ?_ | refine g_fld ?_ | refine g_sfld ?_ | refine g_meth ?_ | refine g_make ?_ | refine g_prop ?_  | refine g_ipI ?_ | refine g_int1 ?_ | refine g_int1B ?_ | refine g_one ?_ | refine g_two ?_ | refine g_isiI ?_ | refine g_isiIB ?_ | refine g_isiB ?_ | refine g_BM ?_ | refine g_BM0 ?_ | refine g_sub ?_)
local macro_rules | `(tactic| walk_at "go") => `(tactic| repeat (first | walk_at "go1" | ((with_reducible refine' g_nameE ?sd_ ?_); case sd_ => dsimp only [List.set_cons_succ, List.set_cons_zero]) | ((with_reducible refine' g_var ?sd_ ?_); case sd_ => exact rfl) | ((with_reducible refine' g_aug ?sd_ ?_); case sd_ => exact rfl) | ((with_reducible refine' g_rI ?sd_ ?_); case sd_ => walk_at "side") | ((with_reducible refine' g_dT ?sd_ ?_); case sd_ => walk_at "fact") | ((with_reducible refine' g_dF ?sd_ ?_); case sd_ => walk_at "fact") | ((with_reducible refine' g_nT ?sd_ ?_); case sd_ => walk_at "fact") | ((with_reducible refine' g_nF ?sd_ ?_); case sd_ => walk_at "fact") | (with_reducible refine g_iT rfl ?_) | (with_reducible refine g_iF rfl ?_) | walk_at "use"))
local macro_rules | `(tactic| walk_at "nw") => `(tactic| (generalize zq : upd _ _ _ = Hq; have sq : Same _ Hq := (by rw [← zq]; exact same_upd (by assumption)); have kq := (congrFun zq _).symm.trans upd_same; clear zq))
local macro_rules | `(tactic| walk_at "bt") => `(tactic| (generalize zq : upd _ _ _ = Hq; have bq : But _ _ Hq := (by rw [← zq]; exact But.refl.upd); have kq := (congrFun zq _).symm.trans upd_same; clear zq))
local macro_rules | `(tactic| walk_at "use") => `(tactic| first | ((with_reducible refine' fd_Channel_number ?ho_ ?hv_ ?_); (case ho_ => first | assumption | exact upd_same); (case hv_ => exact rfl)) | ((with_reducible refine' fd_Channel_announced ?ho_ ?hv_ ?_); (case ho_ => first | assumption | exact upd_same); (case hv_ => exact rfl)) | ((with_reducible refine' fd_Channel_queue ?ho_ ?hv_ ?_); (case ho_ => first | assumption | exact upd_same); (case hv_ => exact rfl)) | ((with_reducible refine' fd_Channel_credit ?ho_ ?hv_ ?_); (case ho_ => first | assumption | exact upd_same); (case hv_ => exact rfl)) | ((with_reducible refine' fd_Channel_finished ?ho_ ?hv_ ?_); (case ho_ => first | assumption | exact upd_same); (case hv_ => exact rfl)) | ((with_reducible refine' fd_Channel_end_sent ?ho_ ?hv_ ?_); (case ho_ => first | assumption | exact upd_same); (case hv_ => exact rfl)) | ((with_reducible refine' fd_Channel_unread ?ho_ ?hv_ ?_); (case ho_ => first | assumption | exact upd_same); (case hv_ => exact rfl)) | ((with_reducible refine' fd_Channel_due ?ho_ ?hv_ ?_); (case ho_ => first | assumption | exact upd_same); (case hv_ => exact rfl)) | ((with_reducible refine' fd_Channel_end_came ?ho_ ?hv_ ?_); (case ho_ => first | assumption | exact upd_same); (case hv_ => exact rfl)) | ((with_reducible refine' fd_Channel_broken ?ho_ ?hv_ ?_); (case ho_ => first | assumption | exact upd_same); (case hv_ => exact rfl)) | ((with_reducible refine' fd_Channel_reset_told ?ho_ ?hv_ ?_); (case ho_ => first | assumption | exact upd_same); (case hv_ => exact rfl)) | ((with_reducible refine' nw_Channel_number ?ho_ ?hv_ ?_); (case ho_ => first | assumption | exact upd_same); (case hv_ => exact rfl)) | ((with_reducible refine' nw_Channel_announced ?ho_ ?hv_ ?_); (case ho_ => first | assumption | exact upd_same); (case hv_ => exact rfl)) | ((with_reducible refine' nw_Channel_queue ?ho_ ?hv_ ?_); (case ho_ => first | assumption | exact upd_same); (case hv_ => exact rfl)) | ((with_reducible refine' nw_Channel_credit ?ho_ ?hv_ ?_); (case ho_ => first | assumption | exact upd_same); (case hv_ => exact rfl)) | ((with_reducible refine' nw_Channel_finished ?ho_ ?hv_ ?_); (case ho_ => first | assumption | exact upd_same); (case hv_ => exact rfl)) | ((with_reducible refine' nw_Channel_end_sent ?ho_ ?hv_ ?_); (case ho_ => first | assumption | exact upd_same); (case hv_ => exact rfl)) | ((with_reducible refine' nw_Channel_unread ?ho_ ?hv_ ?_); (case ho_ => first | assumption | exact upd_same); (case hv_ => exact rfl)) | ((with_reducible refine' nw_Channel_due ?ho_ ?hv_ ?_); (case ho_ => first | assumption | exact upd_same); (case hv_ => exact rfl)) | ((with_reducible refine' nw_Channel_end_came ?ho_ ?hv_ ?_); (case ho_ => first | assumption | exact upd_same); (case hv_ => exact rfl)) | ((with_reducible refine' nw_Channel_broken ?ho_ ?hv_ ?_); (case ho_ => first | assumption | exact upd_same); (case hv_ => exact rfl)) | ((with_reducible refine' nw_Channel_reset_told ?ho_ ?hv_ ?_); (case ho_ => first | assumption | exact upd_same); (case hv_ => exact rfl)) | ((with_reducible refine' st_Channel_number ?ho_ ?hv_ ?_); (case ho_ => first | assumption | exact upd_same); (case hv_ => exact Nat.le_of_ble_eq_true rfl)) | ((with_reducible refine' st_Channel_announced ?ho_ ?hv_ ?_); (case ho_ => first | assumption | exact upd_same); (case hv_ => exact Nat.le_of_ble_eq_true rfl)) | ((with_reducible refine' st_Channel_queue ?ho_ ?hv_ ?_); (case ho_ => first | assumption | exact upd_same); (case hv_ => exact Nat.le_of_ble_eq_true rfl)) | ((with_reducible refine' st_Channel_credit ?ho_ ?hv_ ?_); (case ho_ => first | assumption | exact upd_same); (case hv_ => exact Nat.le_of_ble_eq_true rfl)) | ((with_reducible refine' st_Channel_finished ?ho_ ?hv_ ?_); (case ho_ => first | assumption | exact upd_same); (case hv_ => exact Nat.le_of_ble_eq_true rfl)) | ((with_reducible refine' st_Channel_end_sent ?ho_ ?hv_ ?_); (case ho_ => first | assumption | exact upd_same); (case hv_ => exact Nat.le_of_ble_eq_true rfl)) | ((with_reducible refine' st_Channel_unread ?ho_ ?hv_ ?_); (case ho_ => first | assumption | exact upd_same); (case hv_ => exact Nat.le_of_ble_eq_true rfl)) | ((with_reducible refine' st_Channel_due ?ho_ ?hv_ ?_); (case ho_ => first | assumption | exact upd_same); (case hv_ => exact Nat.le_of_ble_eq_true rfl)) | ((with_reducible refine' st_Channel_end_came ?ho_ ?hv_ ?_); (case ho_ => first | assumption | exact upd_same); (case hv_ => exact Nat.le_of_ble_eq_true rfl)) | ((with_reducible refine' st_Channel_broken ?ho_ ?hv_ ?_); (case ho_ => first | assumption | exact upd_same); (case hv_ => exact Nat.le_of_ble_eq_true rfl)) | ((with_reducible refine' st_Channel_reset_told ?ho_ ?hv_ ?_); (case ho_ => first | assumption | exact upd_same); (case hv_ => exact Nat.le_of_ble_eq_true rfl)) | ((with_reducible refine' me_Channel_break_off ?ho_ ?_); (case ho_ => first | assumption | exact upd_same)))
local macro_rules | `(tactic| walk_at "use") => `(tactic| first | ((with_reducible refine' fd_Channels_failure ?ho_ ?hv_ ?_); (case ho_ => first | assumption | exact upd_same); (case hv_ => exact rfl)) | ((with_reducible refine' fd_Channels__window ?ho_ ?hv_ ?_); (case ho_ => first | assumption | exact upd_same); (case hv_ => exact rfl)) | ((with_reducible refine' fd_Channels__most ?ho_ ?hv_ ?_); (case ho_ => first | assumption | exact upd_same); (case hv_ => exact rfl)) | ((with_reducible refine' fd_Channels__next_here ?ho_ ?hv_ ?_); (case ho_ => first | assumption | exact upd_same); (case hv_ => exact rfl)) | ((with_reducible refine' fd_Channels__next_there ?ho_ ?hv_ ?_); (case ho_ => first | assumption | exact upd_same); (case hv_ => exact rfl)) | ((with_reducible refine' fd_Channels__channels ?ho_ ?hv_ ?_); (case ho_ => first | assumption | exact upd_same); (case hv_ => exact rfl)) | ((with_reducible refine' fd_Channels__numbers ?ho_ ?hv_ ?_); (case ho_ => first | assumption | exact upd_same); (case hv_ => exact rfl)) | ((with_reducible refine' fd_Channels__turns ?ho_ ?hv_ ?_); (case ho_ => first | assumption | exact upd_same); (case hv_ => exact rfl)) | ((with_reducible refine' fd_Channels__offered ?ho_ ?hv_ ?_); (case ho_ => first | assumption | exact upd_same); (case hv_ => exact rfl)) | ((with_reducible refine' fd_Channels__going ?ho_ ?hv_ ?_); (case ho_ => first | assumption | exact upd_same); (case hv_ => exact rfl)) | ((with_reducible refine' fd_Channels__coming ?ho_ ?hv_ ?_); (case ho_ => first | assumption | exact upd_same); (case hv_ => exact rfl)) | ((with_reducible refine' nw_Channels_failure ?ho_ ?hv_ ?_); (case ho_ => first | assumption | exact upd_same); (case hv_ => exact rfl)) | ((with_reducible refine' nw_Channels__window ?ho_ ?hv_ ?_); (case ho_ => first | assumption | exact upd_same); (case hv_ => exact rfl)) | ((with_reducible refine' nw_Channels__most ?ho_ ?hv_ ?_); (case ho_ => first | assumption | exact upd_same); (case hv_ => exact rfl)) | ((with_reducible refine' nw_Channels__next_here ?ho_ ?hv_ ?_); (case ho_ => first | assumption | exact upd_same); (case hv_ => exact rfl)) | ((with_reducible refine' nw_Channels__next_there ?ho_ ?hv_ ?_); (case ho_ => first | assumption | exact upd_same); (case hv_ => exact rfl)) | ((with_reducible refine' nw_Channels__channels ?ho_ ?hv_ ?_); (case ho_ => first | assumption | exact upd_same); (case hv_ => exact rfl)) | ((with_reducible refine' nw_Channels__numbers ?ho_ ?hv_ ?_); (case ho_ => first | assumption | exact upd_same); (case hv_ => exact rfl)) | ((with_reducible refine' nw_Channels__turns ?ho_ ?hv_ ?_); (case ho_ => first | assumption | exact upd_same); (case hv_ => exact rfl)) | ((with_reducible refine' nw_Channels__offered ?ho_ ?hv_ ?_); (case ho_ => first | assumption | exact upd_same); (case hv_ => exact rfl)) | ((with_reducible refine' nw_Channels__going ?ho_ ?hv_ ?_); (case ho_ => first | assumption | exact upd_same); (case hv_ => exact rfl)) | ((with_reducible refine' nw_Channels__coming ?ho_ ?hv_ ?_); (case ho_ => first | assumption | exact upd_same); (case hv_ => exact rfl)) | ((with_reducible refine' st_Channels_failure ?ho_ ?hv_ ?_); (case ho_ => first | assumption | exact upd_same); (case hv_ => exact Nat.le_of_ble_eq_true rfl)) | ((with_reducible refine' st_Channels__window ?ho_ ?hv_ ?_); (case ho_ => first | assumption | exact upd_same); (case hv_ => exact Nat.le_of_ble_eq_true rfl)) | ((with_reducible refine' st_Channels__most ?ho_ ?hv_ ?_); (case ho_ => first | assumption | exact upd_same); (case hv_ => exact Nat.le_of_ble_eq_true rfl)) | ((with_reducible refine' st_Channels__next_here ?ho_ ?hv_ ?_); (case ho_ => first | assumption | exact upd_same); (case hv_ => exact Nat.le_of_ble_eq_true rfl)) | ((with_reducible refine' st_Channels__next_there ?ho_ ?hv_ ?_); (case ho_ => first | assumption | exact upd_same); (case hv_ => exact Nat.le_of_ble_eq_true rfl)) | ((with_reducible refine' st_Channels__channels ?ho_ ?hv_ ?_); (case ho_ => first | assumption | exact upd_same); (case hv_ => exact Nat.le_of_ble_eq_true rfl)) | ((with_reducible refine' st_Channels__numbers ?ho_ ?hv_ ?_); (case ho_ => first | assumption | exact upd_same); (case hv_ => exact Nat.le_of_ble_eq_true rfl)) | ((with_reducible refine' st_Channels__turns ?ho_ ?hv_ ?_); (case ho_ => first | assumption | exact upd_same); (case hv_ => exact Nat.le_of_ble_eq_true rfl)) | ((with_reducible refine' st_Channels__offered ?ho_ ?hv_ ?_); (case ho_ => first | assumption | exact upd_same); (case hv_ => exact Nat.le_of_ble_eq_true rfl)) | ((with_reducible refine' st_Channels__going ?ho_ ?hv_ ?_); (case ho_ => first | assumption | exact upd_same); (case hv_ => exact Nat.le_of_ble_eq_true rfl)) | ((with_reducible refine' st_Channels__coming ?ho_ ?hv_ ?_); (case ho_ => first | assumption | exact upd_same); (case hv_ => exact Nat.le_of_ble_eq_true rfl)) | ((with_reducible refine' me_Channels_len__ ?ho_ ?_); (case ho_ => first | assumption | exact upd_same)) | ((with_reducible refine' me_Channels_iter__ ?ho_ ?_); (case ho_ => first | assumption | exact upd_same)) | ((with_reducible refine' me_Channels_open_channel ?ho_ ?_); (case ho_ => first | assumption | exact upd_same)) | ((with_reducible refine' me_Channels_accept ?ho_ ?_); (case ho_ => first | assumption | exact upd_same)) | ((with_reducible refine' me_Channels_write ?ho_ ?_); (case ho_ => first | assumption | exact upd_same)) | ((with_reducible refine' me_Channels_read ?ho_ ?_); (case ho_ => first | assumption | exact upd_same)) | ((with_reducible refine' me_Channels_finish ?ho_ ?_); (case ho_ => first | assumption | exact upd_same)) | ((with_reducible refine' me_Channels_reset ?ho_ ?_); (case ho_ => first | assumption | exact upd_same)) | ((with_reducible refine' me_Channels_status ?ho_ ?_); (case ho_ => first | assumption | exact upd_same)) | ((with_reducible refine' me_Channels_known ?ho_ ?_); (case ho_ => first | assumption | exact upd_same)) | ((with_reducible refine' me_Channels_add ?ho_ ?_); (case ho_ => first | assumption | exact upd_same)) | ((with_reducible refine' me_Channels_room_of ?ho_ ?_); (case ho_ => first | assumption | exact upd_same)))
section
variable {P : Program} {w : World} {K : PySem.W.Frag} {mg : Str → Option Value} {base : Heap}
local macro_rules | `(tactic| walk_at "use") => `(tactic| with_reducible first | refine g_rs0 ?_ | refine g_rs1 ?_ | refine g_tryA ?_ | refine g_tryO ?_ | refine g_callS ?_ | refine g_joined ?_ | refine g_jsnil ?_ | refine g_jscons ?_ | refine g_fmt ?_)
local macro_rules | `(tactic| walk_at "fit") => `(tactic| (refine fit2 ?_; (try simp only [PySem.Str.length_append]); omega))
local macro_rules | `(tactic| walk_at "use") => `(tactic| first | ((with_reducible refine' g_addS ?sd_ ?_); case sd_ => (first | omega | (simp only [PySem.Str.length_append]; omega))) | ((with_reducible refine' g_slS ?sd_ ?_); case sd_ => omega) | (with_reducible refine g_m0 ?_))

local macro_rules | `(tactic| walk_at "use") => `(tactic| with_reducible first | refine g_dgetI ?_ | refine g_dputI ?_ | refine g_dget1I ?_ | refine g_dget2I ?_ | refine g_dinI ?_ | refine g_dnotinI ?_ | refine g_dnewK ?_)

theorem pos0 {t k : Int} : pos t 0 k = none := by
  unfold pos
  rw [if_neg (by omega)]
def sp_Channels_init__ (CS CC IO : Addr) : Sp := fun vs H Q E => ∃ (p dx : Addr) (f : Bool) (w m : Int), vs = [.ref p, .bl f, .int w, .int m] ∧ H p = some (.ins CS dx []) ∧ -1000000 ≤ w ∧ w ≤ 1000000 ∧ -1000000 ≤ m ∧ m ≤ 1000000 ∧
  ((¬ (1 ≤ w ∧ w ≤ 65535 ∧ 1 ≤ m ∧ m ≤ 65535) ∧ E (.ref IO) none H) ∨ ((1 ≤ w ∧ w ≤ 65535 ∧ 1 ≤ m ∧ m ≤ 65535) ∧
  ∀ own S x H', (∀ b, own b ≠ none → b = p ∨ H b = none) → S.p = p → SdO CS CC own H' S x w m (if f = true then 0 else 1) [] → But p H H' → Q .non H'))
theorem ok_Channels_init__ (T : Txt P K mg) : FnOk P w K mg base (L2.CX P w) 1 T.f_Channels_init__ T.d_Channels_init__ ["self", "first", "window", "most"] (sp_Channels_init__ T.C_Channels T.C_Channel T.C_InvalidOptions) := by
  refine T.F_Channels_init__.ok sc_Channels_init__ (fun vs H Q E h => ?_) (fun cdv A outer s H vs Q E hr h => ?_)
  · obtain ⟨p, dx, f, w, m, rfl, ho, w0, w1, m0, m1, q⟩ := h
    rfl
  · obtain ⟨p, dx, f, w, m, rfl, ho, w0, w1, m0, m1, q⟩ := h
    have hu := hu_of hr
    refine ⟨_, (pss_cons (ps_if (pt_not (pt_chain op_le op_le pe_int (pv 2) (pe_glob (v := .int 65535) (by rfl) T.v_GREATEST_SIZE ⟨_, rfl⟩))) (pss_one (ps_rs rfl (takes_of rfl rfl rfl rfl) (pmk_1 PySem.F.excBase_ValueError T.xP_InvalidOptions T.c_InvalidOptions T.ke_InvalidOptions (raises_own T.be_InvalidOptions T.te_InvalidOptions) rfl (pe_joinedJ (.cons pe_str (.cons (pe_fmt (pv 2)) .nil)))))) pss_nil)
        (pss_cons (ps_if (pt_not (pt_chain op_le op_le pe_int (pv 3) (pe_glob (v := .int 65535) (by rfl) T.v_GREATEST_SIZE ⟨_, rfl⟩))) (pss_one (ps_rs rfl (takes_of rfl rfl rfl rfl) (pmk_1 PySem.F.excBase_ValueError T.xP_InvalidOptions T.c_InvalidOptions T.ke_InvalidOptions (raises_own T.be_InvalidOptions T.te_InvalidOptions) rfl (pe_joinedJ (.cons (pe_fmt (pv 3)) (.cons pe_str .nil)))))) pss_nil)
        (pss_cons (ps_fld (pv 0) pe_non rfl)
        (pss_cons (ps_fld (pv 0) (pv 2) rfl)
        (pss_cons (ps_fld (pv 0) (pv 3) rfl)
        (pss_cons (ps_fld (pv 0) (pe_ifExp (pt_val (pv 1)) pe_int pe_int) rfl)
        (pss_cons (ps_fld (pv 0) (pe_ifExp (pt_val (pv 1)) pe_int pe_int) rfl)
        (pss_cons (ps_fld (pv 0) pe_dnewK rfl)
        (pss_cons (ps_fld (pv 0) (pe_lst pa_nil) rfl)
        (pss_cons (ps_fld (pv 0) (pe_lst pa_nil) rfl)
        (pss_cons (ps_fld (pv 0) (pe_lst pa_nil) rfl)
        (pss_cons (ps_fld (pv 0) (pe_lst pa_nil) rfl)
        (pss_one (ps_fld (pv 0) (pe_lst pa_nil) rfl)))))))))))))), ?_⟩
    dsimp only [cxOf, Cx.nox, Cx.wish, L2.start, List.map, List.cons_append, List.nil_append, List.length_cons, List.length_nil, Nat.reduceAdd, Nat.reduceSub, Nat.zero_add, List.replicate_succ, List.replicate_zero]
    have e0 : Str.empty.length = 0 := by decide
    have e1 : (Str.ofString "a window of ").length = 12 := by decide +kernel
    have e2 : (Str.ofString " octets in a frame at most").length = 26 := by decide +kernel
    have e3 := itext (i := w) (by omega)
    have e4 := itext (i := m) (by omega)
    have ho : H p = some (.ins T.C_Channels dx (obj ky_Channels [])) := ho
    walk_at "go"
    rcases q with ⟨hn, q⟩ | ⟨⟨w2, w3, m2, m3⟩, q⟩
    · by_cases c1 : 1 ≤ w
      · rw [if_pos (decide_eq_true c1)]
        by_cases c2 : w ≤ 65535
        · walk_at "go"
          by_cases c3 : 1 ≤ m
          · rw [if_pos (decide_eq_true c3)]
            have c4 : ¬ m ≤ 65535 := by omega
            refine ⟨m, 65535, rfl, rfl, _, rfl, ?_⟩
            rw [if_pos (show (!decide (m ≤ 65535)) = true by rw [decide_eq_false c4]; rfl)]
            walk_at "go"
            refine g_fmtI (log_lt (by omega)) ?_
            refine g_jsE (by walk_at "fit") ?_
            walk_at "go"
            refine g_jsE (by walk_at "fit") ?_
            walk_at "go"
            exact q
          · rw [if_neg (by rw [decide_eq_false c3]; exact Bool.false_ne_true)]
            refine ⟨_, rfl, ?_⟩
            rw [if_pos (show (!false) = true from rfl)]
            walk_at "go"
            refine g_fmtI (log_lt (by omega)) ?_
            refine g_jsE (by walk_at "fit") ?_
            walk_at "go"
            refine g_jsE (by walk_at "fit") ?_
            walk_at "go"
            exact q
        · refine ⟨w, 65535, rfl, rfl, _, rfl, ?_⟩
          rw [if_pos (show (!decide (w ≤ 65535)) = true by rw [decide_eq_false c2]; rfl)]
          walk_at "go"
          refine g_jsE (by walk_at "fit") ?_
          walk_at "go"
          refine g_fmtI (log_lt (by omega)) ?_
          refine g_jsE (by walk_at "fit") ?_
          walk_at "go"
          exact q
      · rw [if_neg (by rw [decide_eq_false c1]; exact Bool.false_ne_true)]
        refine ⟨_, rfl, ?_⟩
        rw [if_pos (show (!false) = true from rfl)]
        walk_at "go"
        refine g_jsE (by walk_at "fit") ?_
        walk_at "go"
        refine g_fmtI (log_lt (by omega)) ?_
        refine g_jsE (by walk_at "fit") ?_
        walk_at "go"
        exact q
    · rw [if_pos (decide_eq_true w2)]
      walk_at "go"
      cases f
      · rw [if_neg Bool.false_ne_true]
        walk_at "go"
        intro cd h_cd
        simp only [upd_upd, List.nil_append, List.cons_append] at h_cd ⊢
        generalize z : upd H p _ = Ha0 at h_cd ⊢
        have ba0 : But p H Ha0 := by rw [← z]; exact But.refl.upd
        have kp := (congrFun z p).symm.trans upd_same
        clear z
        have bb0 := ba0
        have f_cd := bb0.free kp h_cd
        have n_cd : cd ≠ p := fun z => by rw [z, kp] at h_cd; cases h_cd
        generalize z : upd Ha0 cd _ = Hb0
        have s0 : Same Ha0 Hb0 := by rw [← z]; exact same_upd h_cd
        have k_cd := (congrFun z cd).symm.trans upd_same
        clear z
        have kp := s0 _ _ kp
        have bc0 := bb0.trans (But.of s0)
        walk_at "go"
        refine ⟨(by show 0 ≤ sizeLine; decide), fun nl h_nl => ?_⟩
        simp only [upd_upd, List.nil_append, List.cons_append] at h_nl ⊢
        generalize z : upd Hb0 p _ = Ha1 at h_nl ⊢
        have ba1 : But p Hb0 Ha1 := by rw [← z]; exact But.refl.upd
        have kp := (congrFun z p).symm.trans upd_same
        clear z
        have bb1 := bc0.trans ba1
        have k_cd := ba1 _ _ n_cd k_cd
        have f_nl := bb1.free kp h_nl
        have n_nl : nl ≠ p := fun z => by rw [z, kp] at h_nl; cases h_nl
        have d_cd_nl : cd ≠ nl := fun z => by rw [← z, k_cd] at h_nl; cases h_nl
        generalize z : upd Ha1 nl _ = Hb1
        have s1 : Same Ha1 Hb1 := by rw [← z]; exact same_upd h_nl
        have k_nl := (congrFun z nl).symm.trans upd_same
        clear z
        have kp := s1 _ _ kp
        have k_cd := s1 _ _ k_cd
        have bc1 := bb1.trans (But.of s1)
        walk_at "go"
        refine ⟨(by show 0 ≤ sizeLine; decide), fun tl h_tl => ?_⟩
        simp only [upd_upd, List.nil_append, List.cons_append] at h_tl ⊢
        generalize z : upd Hb1 p _ = Ha2 at h_tl ⊢
        have ba2 : But p Hb1 Ha2 := by rw [← z]; exact But.refl.upd
        have kp := (congrFun z p).symm.trans upd_same
        clear z
        have bb2 := bc1.trans ba2
        have k_cd := ba2 _ _ n_cd k_cd
        have k_nl := ba2 _ _ n_nl k_nl
        have f_tl := bb2.free kp h_tl
        have n_tl : tl ≠ p := fun z => by rw [z, kp] at h_tl; cases h_tl
        have d_cd_tl : cd ≠ tl := fun z => by rw [← z, k_cd] at h_tl; cases h_tl
        have d_nl_tl : nl ≠ tl := fun z => by rw [← z, k_nl] at h_tl; cases h_tl
        generalize z : upd Ha2 tl _ = Hb2
        have s2 : Same Ha2 Hb2 := by rw [← z]; exact same_upd h_tl
        have k_tl := (congrFun z tl).symm.trans upd_same
        clear z
        have kp := s2 _ _ kp
        have k_cd := s2 _ _ k_cd
        have k_nl := s2 _ _ k_nl
        have bc2 := bb2.trans (But.of s2)
        walk_at "go"
        refine ⟨(by show 0 ≤ sizeLine; decide), fun ol h_ol => ?_⟩
        simp only [upd_upd, List.nil_append, List.cons_append] at h_ol ⊢
        generalize z : upd Hb2 p _ = Ha3 at h_ol ⊢
        have ba3 : But p Hb2 Ha3 := by rw [← z]; exact But.refl.upd
        have kp := (congrFun z p).symm.trans upd_same
        clear z
        have bb3 := bc2.trans ba3
        have k_cd := ba3 _ _ n_cd k_cd
        have k_nl := ba3 _ _ n_nl k_nl
        have k_tl := ba3 _ _ n_tl k_tl
        have f_ol := bb3.free kp h_ol
        have n_ol : ol ≠ p := fun z => by rw [z, kp] at h_ol; cases h_ol
        have d_cd_ol : cd ≠ ol := fun z => by rw [← z, k_cd] at h_ol; cases h_ol
        have d_nl_ol : nl ≠ ol := fun z => by rw [← z, k_nl] at h_ol; cases h_ol
        have d_tl_ol : tl ≠ ol := fun z => by rw [← z, k_tl] at h_ol; cases h_ol
        generalize z : upd Ha3 ol _ = Hb3
        have s3 : Same Ha3 Hb3 := by rw [← z]; exact same_upd h_ol
        have k_ol := (congrFun z ol).symm.trans upd_same
        clear z
        have kp := s3 _ _ kp
        have k_cd := s3 _ _ k_cd
        have k_nl := s3 _ _ k_nl
        have k_tl := s3 _ _ k_tl
        have bc3 := bb3.trans (But.of s3)
        walk_at "go"
        refine ⟨(by show 0 ≤ sizeLine; decide), fun gl h_gl => ?_⟩
        simp only [upd_upd, List.nil_append, List.cons_append] at h_gl ⊢
        generalize z : upd Hb3 p _ = Ha4 at h_gl ⊢
        have ba4 : But p Hb3 Ha4 := by rw [← z]; exact But.refl.upd
        have kp := (congrFun z p).symm.trans upd_same
        clear z
        have bb4 := bc3.trans ba4
        have k_cd := ba4 _ _ n_cd k_cd
        have k_nl := ba4 _ _ n_nl k_nl
        have k_tl := ba4 _ _ n_tl k_tl
        have k_ol := ba4 _ _ n_ol k_ol
        have f_gl := bb4.free kp h_gl
        have n_gl : gl ≠ p := fun z => by rw [z, kp] at h_gl; cases h_gl
        have d_cd_gl : cd ≠ gl := fun z => by rw [← z, k_cd] at h_gl; cases h_gl
        have d_nl_gl : nl ≠ gl := fun z => by rw [← z, k_nl] at h_gl; cases h_gl
        have d_tl_gl : tl ≠ gl := fun z => by rw [← z, k_tl] at h_gl; cases h_gl
        have d_ol_gl : ol ≠ gl := fun z => by rw [← z, k_ol] at h_gl; cases h_gl
        generalize z : upd Ha4 gl _ = Hb4
        have s4 : Same Ha4 Hb4 := by rw [← z]; exact same_upd h_gl
        have k_gl := (congrFun z gl).symm.trans upd_same
        clear z
        have kp := s4 _ _ kp
        have k_cd := s4 _ _ k_cd
        have k_nl := s4 _ _ k_nl
        have k_tl := s4 _ _ k_tl
        have k_ol := s4 _ _ k_ol
        have bc4 := bb4.trans (But.of s4)
        walk_at "go"
        refine ⟨(by show 0 ≤ sizeLine; decide), fun cl h_cl => ?_⟩
        simp only [upd_upd, List.nil_append, List.cons_append] at h_cl ⊢
        generalize z : upd Hb4 p _ = Ha5 at h_cl ⊢
        have ba5 : But p Hb4 Ha5 := by rw [← z]; exact But.refl.upd
        have kp := (congrFun z p).symm.trans upd_same
        clear z
        have bb5 := bc4.trans ba5
        have k_cd := ba5 _ _ n_cd k_cd
        have k_nl := ba5 _ _ n_nl k_nl
        have k_tl := ba5 _ _ n_tl k_tl
        have k_ol := ba5 _ _ n_ol k_ol
        have k_gl := ba5 _ _ n_gl k_gl
        have f_cl := bb5.free kp h_cl
        have n_cl : cl ≠ p := fun z => by rw [z, kp] at h_cl; cases h_cl
        have d_cd_cl : cd ≠ cl := fun z => by rw [← z, k_cd] at h_cl; cases h_cl
        have d_nl_cl : nl ≠ cl := fun z => by rw [← z, k_nl] at h_cl; cases h_cl
        have d_tl_cl : tl ≠ cl := fun z => by rw [← z, k_tl] at h_cl; cases h_cl
        have d_ol_cl : ol ≠ cl := fun z => by rw [← z, k_ol] at h_cl; cases h_cl
        have d_gl_cl : gl ≠ cl := fun z => by rw [← z, k_gl] at h_cl; cases h_cl
        generalize z : upd Ha5 cl _ = Hb5
        have s5 : Same Ha5 Hb5 := by rw [← z]; exact same_upd h_cl
        have k_cl := (congrFun z cl).symm.trans upd_same
        clear z
        have kp := s5 _ _ kp
        have k_cd := s5 _ _ k_cd
        have k_nl := s5 _ _ k_nl
        have k_tl := s5 _ _ k_tl
        have k_ol := s5 _ _ k_ol
        have k_gl := s5 _ _ k_gl
        have bc5 := bb5.trans (But.of s5)
        walk_at "go"
        simp only [upd_upd, List.nil_append, List.cons_append]
        generalize z : upd Hb5 p _ = HZ
        have bz : But p Hb5 HZ := by rw [← z]; exact But.refl.upd
        have kp := (congrFun z p).symm.trans upd_same
        clear z
        have k_cd := bz _ _ n_cd k_cd
        have k_nl := bz _ _ n_nl k_nl
        have k_tl := bz _ _ n_tl k_tl
        have k_ol := bz _ _ n_ol k_ol
        have k_gl := bz _ _ n_gl k_gl
        have k_cl := bz _ _ n_cl k_cl
        refine q (fun b => if b = p ∨ b = cd ∨ b = nl ∨ b = tl ∨ b = ol then some 0 else none) ⟨p, dx, cd, nl, tl, ol, gl, cl, 1⟩ (fun _ => ⟨p, p, p, p, .non⟩) HZ (fun b hb => ?_) rfl ?_ (bc5.trans bz)
        · by_cases z : b = p ∨ b = cd ∨ b = nl ∨ b = tl ∨ b = ol
          · rcases z with z | z | z | z | z
            · exact .inl z
            · exact .inr (by rw [z]; exact f_cd)
            · exact .inr (by rw [z]; exact f_nl)
            · exact .inr (by rw [z]; exact f_tl)
            · exact .inr (by rw [z]; exact f_ol)
          · exact absurd (if_neg z) hb
        · refine ⟨kp, ⟨[], k_cd, Nat.le_refl _, fun k => (by show none = Option.map _ (pos _ 0 k); rw [pos0]; rfl)⟩, k_nl, k_tl, k_ol, fun i c e => (by cases e), fun i hi => absurd hi (Nat.not_lt_zero i), if_pos (.inl rfl), if_pos (.inr (.inl rfl)), if_pos (.inr (.inr (.inl rfl))), if_pos (.inr (.inr (.inr (.inl rfl)))), if_pos (.inr (.inr (.inr (.inr rfl)))), d_nl_tl, d_tl_ol, ⟨w2, w3⟩, ⟨m2, m3⟩, (by decide), (by show 0 ≤ 100; decide), fun i c e => (by cases e)⟩
      · rw [if_pos rfl]
        walk_at "go"
        intro cd h_cd
        simp only [upd_upd, List.nil_append, List.cons_append] at h_cd ⊢
        generalize z : upd H p _ = Ha0 at h_cd ⊢
        have ba0 : But p H Ha0 := by rw [← z]; exact But.refl.upd
        have kp := (congrFun z p).symm.trans upd_same
        clear z
        have bb0 := ba0
        have f_cd := bb0.free kp h_cd
        have n_cd : cd ≠ p := fun z => by rw [z, kp] at h_cd; cases h_cd
        generalize z : upd Ha0 cd _ = Hb0
        have s0 : Same Ha0 Hb0 := by rw [← z]; exact same_upd h_cd
        have k_cd := (congrFun z cd).symm.trans upd_same
        clear z
        have kp := s0 _ _ kp
        have bc0 := bb0.trans (But.of s0)
        walk_at "go"
        refine ⟨(by show 0 ≤ sizeLine; decide), fun nl h_nl => ?_⟩
        simp only [upd_upd, List.nil_append, List.cons_append] at h_nl ⊢
        generalize z : upd Hb0 p _ = Ha1 at h_nl ⊢
        have ba1 : But p Hb0 Ha1 := by rw [← z]; exact But.refl.upd
        have kp := (congrFun z p).symm.trans upd_same
        clear z
        have bb1 := bc0.trans ba1
        have k_cd := ba1 _ _ n_cd k_cd
        have f_nl := bb1.free kp h_nl
        have n_nl : nl ≠ p := fun z => by rw [z, kp] at h_nl; cases h_nl
        have d_cd_nl : cd ≠ nl := fun z => by rw [← z, k_cd] at h_nl; cases h_nl
        generalize z : upd Ha1 nl _ = Hb1
        have s1 : Same Ha1 Hb1 := by rw [← z]; exact same_upd h_nl
        have k_nl := (congrFun z nl).symm.trans upd_same
        clear z
        have kp := s1 _ _ kp
        have k_cd := s1 _ _ k_cd
        have bc1 := bb1.trans (But.of s1)
        walk_at "go"
        refine ⟨(by show 0 ≤ sizeLine; decide), fun tl h_tl => ?_⟩
        simp only [upd_upd, List.nil_append, List.cons_append] at h_tl ⊢
        generalize z : upd Hb1 p _ = Ha2 at h_tl ⊢
        have ba2 : But p Hb1 Ha2 := by rw [← z]; exact But.refl.upd
        have kp := (congrFun z p).symm.trans upd_same
        clear z
        have bb2 := bc1.trans ba2
        have k_cd := ba2 _ _ n_cd k_cd
        have k_nl := ba2 _ _ n_nl k_nl
        have f_tl := bb2.free kp h_tl
        have n_tl : tl ≠ p := fun z => by rw [z, kp] at h_tl; cases h_tl
        have d_cd_tl : cd ≠ tl := fun z => by rw [← z, k_cd] at h_tl; cases h_tl
        have d_nl_tl : nl ≠ tl := fun z => by rw [← z, k_nl] at h_tl; cases h_tl
        generalize z : upd Ha2 tl _ = Hb2
        have s2 : Same Ha2 Hb2 := by rw [← z]; exact same_upd h_tl
        have k_tl := (congrFun z tl).symm.trans upd_same
        clear z
        have kp := s2 _ _ kp
        have k_cd := s2 _ _ k_cd
        have k_nl := s2 _ _ k_nl
        have bc2 := bb2.trans (But.of s2)
        walk_at "go"
        refine ⟨(by show 0 ≤ sizeLine; decide), fun ol h_ol => ?_⟩
        simp only [upd_upd, List.nil_append, List.cons_append] at h_ol ⊢
        generalize z : upd Hb2 p _ = Ha3 at h_ol ⊢
        have ba3 : But p Hb2 Ha3 := by rw [← z]; exact But.refl.upd
        have kp := (congrFun z p).symm.trans upd_same
        clear z
        have bb3 := bc2.trans ba3
        have k_cd := ba3 _ _ n_cd k_cd
        have k_nl := ba3 _ _ n_nl k_nl
        have k_tl := ba3 _ _ n_tl k_tl
        have f_ol := bb3.free kp h_ol
        have n_ol : ol ≠ p := fun z => by rw [z, kp] at h_ol; cases h_ol
        have d_cd_ol : cd ≠ ol := fun z => by rw [← z, k_cd] at h_ol; cases h_ol
        have d_nl_ol : nl ≠ ol := fun z => by rw [← z, k_nl] at h_ol; cases h_ol
        have d_tl_ol : tl ≠ ol := fun z => by rw [← z, k_tl] at h_ol; cases h_ol
        generalize z : upd Ha3 ol _ = Hb3
        have s3 : Same Ha3 Hb3 := by rw [← z]; exact same_upd h_ol
        have k_ol := (congrFun z ol).symm.trans upd_same
        clear z
        have kp := s3 _ _ kp
        have k_cd := s3 _ _ k_cd
        have k_nl := s3 _ _ k_nl
        have k_tl := s3 _ _ k_tl
        have bc3 := bb3.trans (But.of s3)
        walk_at "go"
        refine ⟨(by show 0 ≤ sizeLine; decide), fun gl h_gl => ?_⟩
        simp only [upd_upd, List.nil_append, List.cons_append] at h_gl ⊢
        generalize z : upd Hb3 p _ = Ha4 at h_gl ⊢
        have ba4 : But p Hb3 Ha4 := by rw [← z]; exact But.refl.upd
        have kp := (congrFun z p).symm.trans upd_same
        clear z
        have bb4 := bc3.trans ba4
        have k_cd := ba4 _ _ n_cd k_cd
        have k_nl := ba4 _ _ n_nl k_nl
        have k_tl := ba4 _ _ n_tl k_tl
        have k_ol := ba4 _ _ n_ol k_ol
        have f_gl := bb4.free kp h_gl
        have n_gl : gl ≠ p := fun z => by rw [z, kp] at h_gl; cases h_gl
        have d_cd_gl : cd ≠ gl := fun z => by rw [← z, k_cd] at h_gl; cases h_gl
        have d_nl_gl : nl ≠ gl := fun z => by rw [← z, k_nl] at h_gl; cases h_gl
        have d_tl_gl : tl ≠ gl := fun z => by rw [← z, k_tl] at h_gl; cases h_gl
        have d_ol_gl : ol ≠ gl := fun z => by rw [← z, k_ol] at h_gl; cases h_gl
        generalize z : upd Ha4 gl _ = Hb4
        have s4 : Same Ha4 Hb4 := by rw [← z]; exact same_upd h_gl
        have k_gl := (congrFun z gl).symm.trans upd_same
        clear z
        have kp := s4 _ _ kp
        have k_cd := s4 _ _ k_cd
        have k_nl := s4 _ _ k_nl
        have k_tl := s4 _ _ k_tl
        have k_ol := s4 _ _ k_ol
        have bc4 := bb4.trans (But.of s4)
        walk_at "go"
        refine ⟨(by show 0 ≤ sizeLine; decide), fun cl h_cl => ?_⟩
        simp only [upd_upd, List.nil_append, List.cons_append] at h_cl ⊢
        generalize z : upd Hb4 p _ = Ha5 at h_cl ⊢
        have ba5 : But p Hb4 Ha5 := by rw [← z]; exact But.refl.upd
        have kp := (congrFun z p).symm.trans upd_same
        clear z
        have bb5 := bc4.trans ba5
        have k_cd := ba5 _ _ n_cd k_cd
        have k_nl := ba5 _ _ n_nl k_nl
        have k_tl := ba5 _ _ n_tl k_tl
        have k_ol := ba5 _ _ n_ol k_ol
        have k_gl := ba5 _ _ n_gl k_gl
        have f_cl := bb5.free kp h_cl
        have n_cl : cl ≠ p := fun z => by rw [z, kp] at h_cl; cases h_cl
        have d_cd_cl : cd ≠ cl := fun z => by rw [← z, k_cd] at h_cl; cases h_cl
        have d_nl_cl : nl ≠ cl := fun z => by rw [← z, k_nl] at h_cl; cases h_cl
        have d_tl_cl : tl ≠ cl := fun z => by rw [← z, k_tl] at h_cl; cases h_cl
        have d_ol_cl : ol ≠ cl := fun z => by rw [← z, k_ol] at h_cl; cases h_cl
        have d_gl_cl : gl ≠ cl := fun z => by rw [← z, k_gl] at h_cl; cases h_cl
        generalize z : upd Ha5 cl _ = Hb5
        have s5 : Same Ha5 Hb5 := by rw [← z]; exact same_upd h_cl
        have k_cl := (congrFun z cl).symm.trans upd_same
        clear z
        have kp := s5 _ _ kp
        have k_cd := s5 _ _ k_cd
        have k_nl := s5 _ _ k_nl
        have k_tl := s5 _ _ k_tl
        have k_ol := s5 _ _ k_ol
        have k_gl := s5 _ _ k_gl
        have bc5 := bb5.trans (But.of s5)
        walk_at "go"
        simp only [upd_upd, List.nil_append, List.cons_append]
        generalize z : upd Hb5 p _ = HZ
        have bz : But p Hb5 HZ := by rw [← z]; exact But.refl.upd
        have kp := (congrFun z p).symm.trans upd_same
        clear z
        have k_cd := bz _ _ n_cd k_cd
        have k_nl := bz _ _ n_nl k_nl
        have k_tl := bz _ _ n_tl k_tl
        have k_ol := bz _ _ n_ol k_ol
        have k_gl := bz _ _ n_gl k_gl
        have k_cl := bz _ _ n_cl k_cl
        refine q (fun b => if b = p ∨ b = cd ∨ b = nl ∨ b = tl ∨ b = ol then some 0 else none) ⟨p, dx, cd, nl, tl, ol, gl, cl, 2⟩ (fun _ => ⟨p, p, p, p, .non⟩) HZ (fun b hb => ?_) rfl ?_ (bc5.trans bz)
        · by_cases z : b = p ∨ b = cd ∨ b = nl ∨ b = tl ∨ b = ol
          · rcases z with z | z | z | z | z
            · exact .inl z
            · exact .inr (by rw [z]; exact f_cd)
            · exact .inr (by rw [z]; exact f_nl)
            · exact .inr (by rw [z]; exact f_tl)
            · exact .inr (by rw [z]; exact f_ol)
          · exact absurd (if_neg z) hb
        · refine ⟨kp, ⟨[], k_cd, Nat.le_refl _, fun k => (by show none = Option.map _ (pos _ 0 k); rw [pos0]; rfl)⟩, k_nl, k_tl, k_ol, fun i c e => (by cases e), fun i hi => absurd hi (Nat.not_lt_zero i), if_pos (.inl rfl), if_pos (.inr (.inl rfl)), if_pos (.inr (.inr (.inl rfl))), if_pos (.inr (.inr (.inr (.inl rfl)))), if_pos (.inr (.inr (.inr (.inr rfl)))), d_nl_tl, d_tl_ol, ⟨w2, w3⟩, ⟨m2, m3⟩, (by decide), (by show 0 ≤ 100; decide), fun i c e => (by cases e)⟩

end
end My
namespace My
open PySem PySem.Spec L2
local macro_rules | `(tactic| walk_at "side") => `(tactic| first | assumption | decide | omega | exact ⟨by decide, by decide⟩ | exact ⟨by decide, by decide, by decide⟩ | decide +kernel | exact cdivW (by decide +kernel) (by decide +kernel) | exact Or.inl ⟨by omega, by omega⟩ | exact Or.inr ⟨by omega, by omega⟩ | (simp only [List.length_map, List.length_cons, List.length_nil, List.length_append]; omega))
local macro_rules | `(tactic| walk_at "fact") => `(tactic| first | assumption | omega | with_reducible rfl)
local macro_rules | `(tactic| walk_at "use") => `(tactic| fail "use")
local macro_rules | `(tactic| walk_at "go1") => `(tactic| with_reducible first | refine g_seq ?_ | refine g_asg ?_ | refine g_ret ?_ | refine g_ifS ?_ | refine g_drop ?_ | refine g_star ?_ | refine g_nx ?_ | refine g_rt ?_ | refine g_bkE ?_ | refine g_ctE ?_ | refine g_next ?_ | refine g_retN ?_ | refine g_brk ?_ | refine g_ct ?_ | refine g_c ?_ | refine g_op ?_ | refine g_un ?_ | refine g_rI0 ?_ | refine g_rU ?_ | refine g_rEqI ?_ | refine g_rNeI ?_ | refine g_isN ?_ | refine g_rIsB ?_ | refine g_rNotB ?_ | refine g_test ?_ | refine g_B ?_ | refine g_bl ?_ | refine g_and ?_ | refine g_or ?_ | refine g_not ?_ | refine g_andV ?_ | refine g_orV ?_ | refine g_notV ?_ | refine g_if ?_ | refine g_chain ?_ | refine g_yes ?_ | refine g_lc ?_ | refine g_revR ?_ | refine g_rng1 ?_ | refine g_iList ?_ | refine g_nil ?_ | refine g_cons ?_ | refine g_tup ?_ | refine g_lst ?_ | refine g_call ?_ | refine g_CB ?_ | refine g_sl ?_ | refine g_noPart ?_ | refine g_part ?_ | refine g_intE ?_ | refine g_ref ?_ | refine g_fld ?_ | refine g_sfld ?_ | refine g_meth ?_ | refine g_make ?_ | refine g_prop ?_  | refine g_ipI ?_ | refine g_int1 ?_ | refine g_int1B ?_ | refine g_one ?_ | refine g_two ?_ | refine g_isiI ?_ | refine g_isiIB ?_ | refine g_isiB ?_ | refine g_BM ?_ | refine g_BM0 ?_ | refine g_sub ?_)
local macro_rules | `(tactic| walk_at "go") => `(tactic| repeat (first | walk_at "go1" | ((with_reducible refine' g_nameE ?sd_ ?_); case sd_ => dsimp only [List.set_cons_succ, List.set_cons_zero]) | ((with_reducible refine' g_var ?sd_ ?_); case sd_ => exact rfl) | ((with_reducible refine' g_aug ?sd_ ?_); case sd_ => exact rfl) | ((with_reducible refine' g_rI ?sd_ ?_); case sd_ => walk_at "side") | ((with_reducible refine' g_dT ?sd_ ?_); case sd_ => walk_at "fact") | ((with_reducible refine' g_dF ?sd_ ?_); case sd_ => walk_at "fact") | ((with_reducible refine' g_nT ?sd_ ?_); case sd_ => walk_at "fact") | ((with_reducible refine' g_nF ?sd_ ?_); case sd_ => walk_at "fact") | (with_reducible refine g_iT rfl ?_) | (with_reducible refine g_iF rfl ?_) | walk_at "use"))
local macro_rules | `(tactic| walk_at "nw") => `(tactic| (generalize zq : upd _ _ _ = Hq; have sq : Same _ Hq := (by rw [← zq]; exact same_upd (by assumption)); have kq := (congrFun zq _).symm.trans upd_same; clear zq))
local macro_rules | `(tactic| walk_at "bt") => `(tactic| (generalize zq : upd _ _ _ = Hq; have bq : But _ _ Hq := (by rw [← zq]; exact But.refl.upd); have kq := (congrFun zq _).symm.trans upd_same; clear zq))
local macro_rules | `(tactic| walk_at "use") => `(tactic| first | ((with_reducible refine' fd_Channel_number ?ho_ ?hv_ ?_); (case ho_ => first | assumption | exact upd_same); (case hv_ => exact rfl)) | ((with_reducible refine' fd_Channel_announced ?ho_ ?hv_ ?_); (case ho_ => first | assumption | exact upd_same); (case hv_ => exact rfl)) | ((with_reducible refine' fd_Channel_queue ?ho_ ?hv_ ?_); (case ho_ => first | assumption | exact upd_same); (case hv_ => exact rfl)) | ((with_reducible refine' fd_Channel_credit ?ho_ ?hv_ ?_); (case ho_ => first | assumption | exact upd_same); (case hv_ => exact rfl)) | ((with_reducible refine' fd_Channel_finished ?ho_ ?hv_ ?_); (case ho_ => first | assumption | exact upd_same); (case hv_ => exact rfl)) | ((with_reducible refine' fd_Channel_end_sent ?ho_ ?hv_ ?_); (case ho_ => first | assumption | exact upd_same); (case hv_ => exact rfl)) | ((with_reducible refine' fd_Channel_unread ?ho_ ?hv_ ?_); (case ho_ => first | assumption | exact upd_same); (case hv_ => exact rfl)) | ((with_reducible refine' fd_Channel_due ?ho_ ?hv_ ?_); (case ho_ => first | assumption | exact upd_same); (case hv_ => exact rfl)) | ((with_reducible refine' fd_Channel_end_came ?ho_ ?hv_ ?_); (case ho_ => first | assumption | exact upd_same); (case hv_ => exact rfl)) | ((with_reducible refine' fd_Channel_broken ?ho_ ?hv_ ?_); (case ho_ => first | assumption | exact upd_same); (case hv_ => exact rfl)) | ((with_reducible refine' fd_Channel_reset_told ?ho_ ?hv_ ?_); (case ho_ => first | assumption | exact upd_same); (case hv_ => exact rfl)) | ((with_reducible refine' nw_Channel_number ?ho_ ?hv_ ?_); (case ho_ => first | assumption | exact upd_same); (case hv_ => exact rfl)) | ((with_reducible refine' nw_Channel_announced ?ho_ ?hv_ ?_); (case ho_ => first | assumption | exact upd_same); (case hv_ => exact rfl)) | ((with_reducible refine' nw_Channel_queue ?ho_ ?hv_ ?_); (case ho_ => first | assumption | exact upd_same); (case hv_ => exact rfl)) | ((with_reducible refine' nw_Channel_credit ?ho_ ?hv_ ?_); (case ho_ => first | assumption | exact upd_same); (case hv_ => exact rfl)) | ((with_reducible refine' nw_Channel_finished ?ho_ ?hv_ ?_); (case ho_ => first | assumption | exact upd_same); (case hv_ => exact rfl)) | ((with_reducible refine' nw_Channel_end_sent ?ho_ ?hv_ ?_); (case ho_ => first | assumption | exact upd_same); (case hv_ => exact rfl)) | ((with_reducible refine' nw_Channel_unread ?ho_ ?hv_ ?_); (case ho_ => first | assumption | exact upd_same); (case hv_ => exact rfl)) | ((with_reducible refine' nw_Channel_due ?ho_ ?hv_ ?_); (case ho_ => first | assumption | exact upd_same); (case hv_ => exact rfl)) | ((with_reducible refine' nw_Channel_end_came ?ho_ ?hv_ ?_); (case ho_ => first | assumption | exact upd_same); (case hv_ => exact rfl)) | ((with_reducible refine' nw_Channel_broken ?ho_ ?hv_ ?_); (case ho_ => first | assumption | exact upd_same); (case hv_ => exact rfl)) | ((with_reducible refine' nw_Channel_reset_told ?ho_ ?hv_ ?_); (case ho_ => first | assumption | exact upd_same); (case hv_ => exact rfl)) | ((with_reducible refine' st_Channel_number ?ho_ ?hv_ ?_); (case ho_ => first | assumption | exact upd_same); (case hv_ => exact Nat.le_of_ble_eq_true rfl)) | ((with_reducible refine' st_Channel_announced ?ho_ ?hv_ ?_); (case ho_ => first | assumption | exact upd_same); (case hv_ => exact Nat.le_of_ble_eq_true rfl)) | ((with_reducible refine' st_Channel_queue ?ho_ ?hv_ ?_); (case ho_ => first | assumption | exact upd_same); (case hv_ => exact Nat.le_of_ble_eq_true rfl)) | ((with_reducible refine' st_Channel_credit ?ho_ ?hv_ ?_); (case ho_ => first | assumption | exact upd_same); (case hv_ => exact Nat.le_of_ble_eq_true rfl)) | ((with_reducible refine' st_Channel_finished ?ho_ ?hv_ ?_); (case ho_ => first | assumption | exact upd_same); (case hv_ => exact Nat.le_of_ble_eq_true rfl)) | ((with_reducible refine' st_Channel_end_sent ?ho_ ?hv_ ?_); (case ho_ => first | assumption | exact upd_same); (case hv_ => exact Nat.le_of_ble_eq_true rfl)) | ((with_reducible refine' st_Channel_unread ?ho_ ?hv_ ?_); (case ho_ => first | assumption | exact upd_same); (case hv_ => exact Nat.le_of_ble_eq_true rfl)) | ((with_reducible refine' st_Channel_due ?ho_ ?hv_ ?_); (case ho_ => first | assumption | exact upd_same); (case hv_ => exact Nat.le_of_ble_eq_true rfl)) | ((with_reducible refine' st_Channel_end_came ?ho_ ?hv_ ?_); (case ho_ => first | assumption | exact upd_same); (case hv_ => exact Nat.le_of_ble_eq_true rfl)) | ((with_reducible refine' st_Channel_broken ?ho_ ?hv_ ?_); (case ho_ => first | assumption | exact upd_same); (case hv_ => exact Nat.le_of_ble_eq_true rfl)) | ((with_reducible refine' st_Channel_reset_told ?ho_ ?hv_ ?_); (case ho_ => first | assumption | exact upd_same); (case hv_ => exact Nat.le_of_ble_eq_true rfl)) | ((with_reducible refine' me_Channel_break_off ?ho_ ?_); (case ho_ => first | assumption | exact upd_same)))
local macro_rules | `(tactic| walk_at "use") => `(tactic| first | ((with_reducible refine' fd_Channels_failure ?ho_ ?hv_ ?_); (case ho_ => first | assumption | exact upd_same); (case hv_ => exact rfl)) | ((with_reducible refine' fd_Channels__window ?ho_ ?hv_ ?_); (case ho_ => first | assumption | exact upd_same); (case hv_ => exact rfl)) | ((with_reducible refine' fd_Channels__most ?ho_ ?hv_ ?_); (case ho_ => first | assumption | exact upd_same); (case hv_ => exact rfl)) | ((with_reducible refine' fd_Channels__next_here ?ho_ ?hv_ ?_); (case ho_ => first | assumption | exact upd_same); (case hv_ => exact rfl)) | ((with_reducible refine' fd_Channels__next_there ?ho_ ?hv_ ?_); (case ho_ => first | assumption | exact upd_same); (case hv_ => exact rfl)) | ((with_reducible refine' fd_Channels__channels ?ho_ ?hv_ ?_); (case ho_ => first | assumption | exact upd_same); (case hv_ => exact rfl)) | ((with_reducible refine' fd_Channels__numbers ?ho_ ?hv_ ?_); (case ho_ => first | assumption | exact upd_same); (case hv_ => exact rfl)) | ((with_reducible refine' fd_Channels__turns ?ho_ ?hv_ ?_); (case ho_ => first | assumption | exact upd_same); (case hv_ => exact rfl)) | ((with_reducible refine' fd_Channels__offered ?ho_ ?hv_ ?_); (case ho_ => first | assumption | exact upd_same); (case hv_ => exact rfl)) | ((with_reducible refine' fd_Channels__going ?ho_ ?hv_ ?_); (case ho_ => first | assumption | exact upd_same); (case hv_ => exact rfl)) | ((with_reducible refine' fd_Channels__coming ?ho_ ?hv_ ?_); (case ho_ => first | assumption | exact upd_same); (case hv_ => exact rfl)) | ((with_reducible refine' nw_Channels_failure ?ho_ ?hv_ ?_); (case ho_ => first | assumption | exact upd_same); (case hv_ => exact rfl)) | ((with_reducible refine' nw_Channels__window ?ho_ ?hv_ ?_); (case ho_ => first | assumption | exact upd_same); (case hv_ => exact rfl)) | ((with_reducible refine' nw_Channels__most ?ho_ ?hv_ ?_); (case ho_ => first | assumption | exact upd_same); (case hv_ => exact rfl)) | ((with_reducible refine' nw_Channels__next_here ?ho_ ?hv_ ?_); (case ho_ => first | assumption | exact upd_same); (case hv_ => exact rfl)) | ((with_reducible refine' nw_Channels__next_there ?ho_ ?hv_ ?_); (case ho_ => first | assumption | exact upd_same); (case hv_ => exact rfl)) | ((with_reducible refine' nw_Channels__channels ?ho_ ?hv_ ?_); (case ho_ => first | assumption | exact upd_same); (case hv_ => exact rfl)) | ((with_reducible refine' nw_Channels__numbers ?ho_ ?hv_ ?_); (case ho_ => first | assumption | exact upd_same); (case hv_ => exact rfl)) | ((with_reducible refine' nw_Channels__turns ?ho_ ?hv_ ?_); (case ho_ => first | assumption | exact upd_same); (case hv_ => exact rfl)) | ((with_reducible refine' nw_Channels__offered ?ho_ ?hv_ ?_); (case ho_ => first | assumption | exact upd_same); (case hv_ => exact rfl)) | ((with_reducible refine' nw_Channels__going ?ho_ ?hv_ ?_); (case ho_ => first | assumption | exact upd_same); (case hv_ => exact rfl)) | ((with_reducible refine' nw_Channels__coming ?ho_ ?hv_ ?_); (case ho_ => first | assumption | exact upd_same); (case hv_ => exact rfl)) | ((with_reducible refine' st_Channels_failure ?ho_ ?hv_ ?_); (case ho_ => first | assumption | exact upd_same); (case hv_ => exact Nat.le_of_ble_eq_true rfl)) | ((with_reducible refine' st_Channels__window ?ho_ ?hv_ ?_); (case ho_ => first | assumption | exact upd_same); (case hv_ => exact Nat.le_of_ble_eq_true rfl)) | ((with_reducible refine' st_Channels__most ?ho_ ?hv_ ?_); (case ho_ => first | assumption | exact upd_same); (case hv_ => exact Nat.le_of_ble_eq_true rfl)) | ((with_reducible refine' st_Channels__next_here ?ho_ ?hv_ ?_); (case ho_ => first | assumption | exact upd_same); (case hv_ => exact Nat.le_of_ble_eq_true rfl)) | ((with_reducible refine' st_Channels__next_there ?ho_ ?hv_ ?_); (case ho_ => first | assumption | exact upd_same); (case hv_ => exact Nat.le_of_ble_eq_true rfl)) | ((with_reducible refine' st_Channels__channels ?ho_ ?hv_ ?_); (case ho_ => first | assumption | exact upd_same); (case hv_ => exact Nat.le_of_ble_eq_true rfl)) | ((with_reducible refine' st_Channels__numbers ?ho_ ?hv_ ?_); (case ho_ => first | assumption | exact upd_same); (case hv_ => exact Nat.le_of_ble_eq_true rfl)) | ((with_reducible refine' st_Channels__turns ?ho_ ?hv_ ?_); (case ho_ => first | assumption | exact upd_same); (case hv_ => exact Nat.le_of_ble_eq_true rfl)) | ((with_reducible refine' st_Channels__offered ?ho_ ?hv_ ?_); (case ho_ => first | assumption | exact upd_same); (case hv_ => exact Nat.le_of_ble_eq_true rfl)) | ((with_reducible refine' st_Channels__going ?ho_ ?hv_ ?_); (case ho_ => first | assumption | exact upd_same); (case hv_ => exact Nat.le_of_ble_eq_true rfl)) | ((with_reducible refine' st_Channels__coming ?ho_ ?hv_ ?_); (case ho_ => first | assumption | exact upd_same); (case hv_ => exact Nat.le_of_ble_eq_true rfl)) | ((with_reducible refine' me_Channels_len__ ?ho_ ?_); (case ho_ => first | assumption | exact upd_same)) | ((with_reducible refine' me_Channels_iter__ ?ho_ ?_); (case ho_ => first | assumption | exact upd_same)) | ((with_reducible refine' me_Channels_open_channel ?ho_ ?_); (case ho_ => first | assumption | exact upd_same)) | ((with_reducible refine' me_Channels_accept ?ho_ ?_); (case ho_ => first | assumption | exact upd_same)) | ((with_reducible refine' me_Channels_write ?ho_ ?_); (case ho_ => first | assumption | exact upd_same)) | ((with_reducible refine' me_Channels_read ?ho_ ?_); (case ho_ => first | assumption | exact upd_same)) | ((with_reducible refine' me_Channels_finish ?ho_ ?_); (case ho_ => first | assumption | exact upd_same)) | ((with_reducible refine' me_Channels_reset ?ho_ ?_); (case ho_ => first | assumption | exact upd_same)) | ((with_reducible refine' me_Channels_status ?ho_ ?_); (case ho_ => first | assumption | exact upd_same)) | ((with_reducible refine' me_Channels_known ?ho_ ?_); (case ho_ => first | assumption | exact upd_same)) | ((with_reducible refine' me_Channels_add ?ho_ ?_); (case ho_ => first | assumption | exact upd_same)) | ((with_reducible refine' me_Channels_room_of ?ho_ ?_); (case ho_ => first | assumption | exact upd_same)))
section
variable {P : Program} {w : World} {K : PySem.W.Frag} {mg : Str → Option Value} {base : Heap}
local macro_rules | `(tactic| walk_at "use") => `(tactic| with_reducible first | refine g_rs0 ?_ | refine g_rs1 ?_ | refine g_tryA ?_ | refine g_tryO ?_ | refine g_callS ?_ | refine g_joined ?_ | refine g_jsnil ?_ | refine g_jscons ?_ | refine g_fmt ?_)
local macro_rules | `(tactic| walk_at "fit") => `(tactic| (refine fit2 ?_; (try simp only [PySem.Str.length_append]); omega))
local macro_rules | `(tactic| walk_at "use") => `(tactic| first | ((with_reducible refine' g_addS ?sd_ ?_); case sd_ => (first | omega | (simp only [PySem.Str.length_append]; omega))) | ((with_reducible refine' g_slS ?sd_ ?_); case sd_ => omega) | (with_reducible refine g_m0 ?_))

local macro_rules | `(tactic| walk_at "use") => `(tactic| with_reducible first | refine g_dgetI ?_ | refine g_dputI ?_ | refine g_dget1I ?_ | refine g_dget2I ?_ | refine g_dinI ?_ | refine g_dnotinI ?_ | refine g_dnewK ?_)

/-! an attribute among the targets of a tuple -/
section
variable {X : Cx} {K : PySem.W.Frag} {o : Expr} {ta : TE} {f : Str} {pos : Pos}
def gFld (K : PySem.W.Frag) (ta : TE) (f : Str) : TG := fun v σ H Q => ta σ H fun x H2 => ∃ a C dx fs, x = .ref a ∧ H2 a = some (.ins C dx fs) ∧ Cls K C ∧ NoAttr K C f ∧ fs.length < 1000 ∧ Q σ (upd H2 a (.ins C dx (putF f v fs)))
theorem pg_fld (ho : PE X o ta) : PG X (.Attribute o f pos) (gFld X.K ta f) := by
  refine ⟨fun pins s σ H v u Q I r h => ?_⟩
  rw [assign_Attribute]
  refine wpAny_bind (wpAny_holding (thn (ho.run pins s σ H _ I h) fun ov s1 ⟨x, H1, I1, r1, q1⟩ => ?_))
  obtain ⟨a, C, dx, fs, ex, ea, c, n, l, q⟩ := q1
  subst ex
  obtain rfl : ov = Value.ref a := r1
  refine wpAny_bind (wpAny_standAt (wpAny_bind (wpAny_holding (setattr_ok I1 ea c n l r fun s3 I3 => ?_))))
  exact wpAny_release ⟨σ, _, I3, q⟩
theorem g_gfld {σ : St} {H : Hp} {v : V} {Q : St → Hp → Prop} (h : ta σ H fun x H2 => ∃ a C dx fs, x = .ref a ∧ H2 a = some (.ins C dx fs) ∧ Cls K C ∧ NoAttr K C f ∧ fs.length < 1000 ∧ Q σ (upd H2 a (.ins C dx (putF f v fs)))) : gFld K ta f v σ H Q := h
theorem g_gfldV {σ : St} {H : Hp} {v : V} {Q : St → Hp → Prop} {i j : Nat} {a C dx : Addr} {ks : List Str} {vs : List V} (hσ : σ[i]? = some (some (.ref a))) (ho : H a = some (.ins C dx (obj ks vs))) (c : Cls K C) (n : NoAttr K C f) (nd : ks.Nodup) (h1 : ks.length < 1000) (hk : ks[j]? = some f) (hv : j < vs.length)
    (q : Q σ (upd H a (.ins C dx (obj ks (vs.set j v))))) : gFld K (tVar i) f v σ H Q :=
  ⟨_, hσ, a, C, dx, _, rfl, ho, c, n, Nat.lt_of_le_of_lt (obj_len ks vs) h1, by rw [obj_put nd hk hv]; exact q⟩
end
/-! `xs[i] += n` -/
section
variable {X : Cx}
theorem get_list : PGet X (rIxL X.K) := by
  intro pins s σ H o i ov iv Q I ro ri h
  obtain ⟨p, xs, k, z, rfl, rfl, hq, he, q⟩ := h
  cases ro
  obtain ⟨t, rfl⟩ := ri
  obtain ⟨its, r, pl, hz⟩ := I.list hq
  obtain ⟨j, h1, h2, h3, h4, h5⟩ := atI_get he
  obtain ⟨w, ew, rw'⟩ := r.get h2
  have hl := r.length
  have hn := line63
  have fin : EP X pins σ Q w s := ⟨z, H, I, rw', q⟩
  by_cases h0 : 0 ≤ k
  · have hj : k.toNat = j := by
      rw [seqIndex_of h0 h5] at h1
      exact Option.some.inj h1
    exact wpAny_getItem_list pl.isList h0 (by omega) (by rw [hj]; simpa using ew) fin
  · have hj : (k + (its.toArray.size : Int)).toNat = j := by
      rw [seqIndex_neg (by omega) h4] at h1
      rw [List.size_toArray, ← hl]
      exact Option.some.inj h1
    exact wpAny_getItem_list_neg pl.isList (by omega) (by rw [List.size_toArray] <;> omega) (by omega) (by rw [hj]; simpa using ew) fin
theorem g_augS {to ti te : TE} {tget : V → V → Hp → VK → Prop} {tip : TIp} {tset : TSet} {D : Ends} {σ : St} {H : Hp} (h : to σ H fun o H1 => ti σ H1 fun i H2 => tget o i H2 fun x H3 => te σ H3 fun y H4 => tip x y H4 fun z H5 => tset o i z H5 fun H6 => D.nx σ H6) : tAugS to ti te tget tip tset D σ H := h
end
local macro_rules | `(tactic| walk_at "use") => `(tactic| with_reducible first | refine g_augS ?_)
/-! `o.f += n` -/
section
variable {K : PySem.W.Frag} {f : Str}
theorem g_fldaug {tv : TE} {rd : V → V → Hp → VK → Prop} {D : Ends} {σ : St} {H : Hp} {i j : Nat} {a C dx : Addr} {ks : List Str} {vs : List V} {v : V} (hσ : σ[i]? = some (some (.ref a))) (ho : H a = some (.ins C dx (obj ks vs))) (c : Cls K C) (n : NoAttr K C f) (nd : ks.Nodup) (hk : ks[j]? = some f) (hv : vs[j]? = some v)
    (h : tv σ H fun y H2 => rd v y H2 fun z H3 => ∃ dx' fs', H3 a = some (.ins C dx' fs') ∧ fs'.length < 1000 ∧ D.nx σ (upd H3 a (.ins C dx' (putF f z fs')))) : sFldAug K (tVar i) tv rd f D σ H :=
  ⟨_, hσ, a, C, dx, _, v, rfl, ho, c, n, (obj_get nd hk).trans hv, h⟩
theorem g_fldaugE {H : Hp} {j : Nat} {a C dx : Addr} {ks : List Str} {vs : List V} {z : V} {A : Hp → Prop} (ho : H a = some (.ins C dx (obj ks vs))) (nd : ks.Nodup) (h1 : ks.length < 1000) (hk : ks[j]? = some f) (hv : j < vs.length) (q : A (upd H a (.ins C dx (obj ks (vs.set j z))))) :
    ∃ dx' fs', H a = some (.ins C dx' fs') ∧ fs'.length < 1000 ∧ A (upd H a (.ins C dx' (putF f z fs'))) := ⟨dx, _, ho, Nat.lt_of_le_of_lt (obj_len ks vs) h1, by rw [obj_put nd hk hv]; exact q⟩
end

theorem g_makeK {C : Addr} {n m : Nat} {sp : Sp} {gV : List V → List V → List V} {E : XK} {t tk : TA} {σ : St} {H : Hp} {Q : VK} (h : t σ H fun vs H1 => tk σ H1 fun zs H2 => vs.length = n ∧ zs.length = m ∧
  ∀ x dx, H2 x = none → H2 dx = none → dx ≠ x → sp (gV (.ref x :: vs) zs) (upd (upd H2 dx (.own x)) x (.ins C dx [])) (fun v H3 => v = .non ∧ Q (.ref x) H3) E) : tMakeK C n m sp gV E t tk σ H Q := h
local macro_rules | `(tactic| walk_at "use") => `(tactic| with_reducible refine g_makeK ?_)

def sp_Channels_open_channel (CS CC TM : Addr) : Sp := fun vs H Q E => ∃ (own : Addr → Option Nat) (S : Sa) (x : Nat → Ca) (w m t : Int) (cs : List Ch), vs = [.ref S.p] ∧ SdO CS CC own H S x w m t cs ∧
  ((cs.length = 100 ∧ E (.ref TM) none H) ∨ (cs.length < 100 ∧ ∀ own' S' x' H', (∀ b, H b ≠ none → own' b = own b) → S'.p = S.p → SdO CS CC own' H' S' x' w m t (cs ++ [⟨[], false, none⟩]) → (∀ b o, own b = none → H b = some o → H' b = some o) → Q (.int (nb t cs.length)) H'))
local macro_rules | `(tactic| walk_at "use") => `(tactic| with_reducible first | refine g_cval ?_ | refine cvq_Channels_MOST_CHANNELS ?_)
theorem kbt_0 {P : Program} {K : PySem.W.Frag} {mg : Str → Option Value} (T : Txt P K mg) : ∃ g, KBn K T.d_Channel_init__ ["self", "number", "announced"] 2 ["announced"] g (fun vs zs => vs ++ ((zs.drop 0).take 1)) :=
  ⟨_, kb_pure (ps := ["self", "number", "announced"]) T.F_Channel_init__ 2 ["announced"] (fun vs zs => vs ++ ((zs.drop 0).take 1)) (fun r1 r2 => r1.append ((r2.drop 0).take 1)) (fun kV doc pm an cdv ct us ws l1 l2 => match us, l1, ws, l2 with | [_, _], _, [_], _ => rfl)⟩
theorem ok_Channels_open_channel (T : Txt P K mg) : FnOk P w K mg base (L2.CX P w) 3 T.f_Channels_open_channel T.d_Channels_open_channel ["self"] (sp_Channels_open_channel T.C_Channels T.C_Channel T.C_TooManyChannels) := by
  refine T.F_Channels_open_channel.okX sc_Channels_open_channel (fun vs H Q E h => ?_) (fun cdv A outer s H vs Q E hr h => ?_)
  · obtain ⟨own, S, x, w, m, t, cs, rfl, O, q⟩ := h
    rfl
  · obtain ⟨own, S, x, w, m, t, cs, rfl, O, q⟩ := h
    have hu := hu_of hr
    obtain ⟨gk_0, kb_0⟩ := kbt_0 T
    refine ⟨_, (pss_cons (ps_if (pt_cmpR op_gt (pe_fld (pv 0) rfl) (pe_op op_mul pe_int (ClX.pe_cval (pe_glob (v := .ref T.C_Channels) (by rfl) T.c_Channels rfl))) (nomark _)) (pss_one (ps_rs rfl (takes_of rfl rfl rfl rfl) (pmk_0 PySem.F.excBase_ValueError T.xP_TooManyChannels T.c_TooManyChannels T.ke_TooManyChannels (raises_own T.be_TooManyChannels T.te_TooManyChannels) rfl))) pss_nil)
        (pss_cons (ps_set (i := 1) sc_Channels_open_channel.nd rfl (Or.inl rfl) (pe_fld (pv 0) rfl))
        (pss_cons (ps_fldaug (pv 0) pe_int in_add)
        (pss_cons (ps_expr (pe_meth (pv 0) T.k_Channels T.a_Channels_add (ok_Channels_add T) (hr.mono (by decide)) T.b_Channels_add .nil pass0 (pa_cons (pe_makeK T.mk_Channel (ok_Channel_init__ T) (hr.mono (by decide)) rfl T.c_Channel kb_0 pass0 (pa_cons (pv 1) pa_nil) (pk_cons pe_bl pk_nil)) pa_nil)))
        (pss_one (ps_ret (pv 1))))))), ?_⟩
    dsimp only [cxOf, Cx.nox, Cx.wish, L2.start, List.map, List.cons_append, List.nil_append, List.length_cons, List.length_nil, Nat.reduceAdd, Nat.reduceSub, Nat.zero_add, List.replicate_succ, List.replicate_zero]
    have ho := O.ho
    have ht01 := O.h1
    rcases q with ⟨hn, q⟩ | ⟨hn, q⟩
    · have h200 : 2 * 100 < nb t cs.length := by unfold nb; omega
      walk_at "go"
      exact q
    · have h200 : ¬ 2 * 100 < nb t cs.length := by unfold nb; omega
      walk_at "go"
      refine g_fldaug (i := 0) (j := 3) rfl ho T.k_Channels T.n_Channels__next_here nd_Channels rfl rfl ?_
      refine ⟨nb t cs.length, 2, rfl, rfl, ?_⟩
      refine g_fldaugE (j := 3) ho nd_Channels (by show 11 < 1000; decide) rfl (by show 3 < 11; decide) ?_
      simp only [List.set_cons_succ, List.set_cons_zero]
      rw [show nb t cs.length + 2 = nb t (cs.length + 1) by unfold nb; omega]
      walk_at "bt"
      rename_i H1 b1 k1
      walk_at "go"
      refine ⟨rfl, rfl, fun y dy hy hdy hne => ?_⟩
      have s2 : Same H1 (upd (upd H1 dy (.own y)) y (.ins T.C_Channel dy [])) := (same_upd hdy).trans (same_upd (by rw [upd_ne hne.symm]; exact hy))
      refine ⟨y, dy, nb t cs.length, rfl, upd_same, fun lq lu H3 hq hu hqu b3 cO => ⟨rfl, ?_⟩⟩
      have fz : ∀ b, H1 b = none → H b = none := fun b e => b1.free k1 e
      have f2 : ∀ b, upd (upd H1 dy (.own y)) y (.ins T.C_Channel dy []) b = none → H1 b = none := fun b e => by
        cases z : H1 b with
        | none => rfl
        | some o => rw [s2 _ _ z] at e; cases e
      have npy : S.p ≠ y := fun z => by rw [← z, k1] at hy; cases hy
      have k3 := b3 _ _ npy (s2 _ _ k1)
      have b4 : But S.p H H3 := fun b o hb e => b3 _ _ (fun z => by rw [z, fz _ hy] at e; cases e) (s2 _ _ (b1 _ _ hb e))
      walk_at "go"
      refine ⟨own, S, x, w, m, t, cs, ⟨y, dy, lq, lu, .non⟩, H, rfl, O, hn, b4, k3, cO, fz _ hy, fz _ (f2 _ hq), fz _ (f2 _ hu), fun own' S' H' e1 e2 O' fr => ?_⟩
      walk_at "go"
      exact q own' S' _ H' e1 e2 O' fr

end
end My
namespace My
open PySem PySem.Spec L2
local macro_rules | `(tactic| walk_at "side") => `(tactic| first | assumption | decide | omega | exact ⟨by decide, by decide⟩ | exact ⟨by decide, by decide, by decide⟩ | decide +kernel | exact cdivW (by decide +kernel) (by decide +kernel) | exact Or.inl ⟨by omega, by omega⟩ | exact Or.inr ⟨by omega, by omega⟩ | (simp only [List.length_map, List.length_cons, List.length_nil, List.length_append]; omega))
local macro_rules | `(tactic| walk_at "fact") => `(tactic| first | assumption | omega | with_reducible rfl)
local macro_rules | `(tactic| walk_at "use") => `(tactic| fail "use")
local macro_rules | `(tactic| walk_at "go1") => `(tactic| with_reducible first | refine g_seq ?_ | refine g_asg ?_ | refine g_ret ?_ | refine g_ifS ?_ | refine g_drop ?_ | refine g_star ?_ | refine g_nx ?_ | refine g_rt ?_ | refine g_bkE ?_ | refine g_ctE ?_ | refine g_next ?_ | refine g_retN ?_ | refine g_brk ?_ | refine g_ct ?_ | refine g_c ?_ | refine g_op ?_ | refine g_un ?_ | refine g_rI0 ?_ | refine g_rU ?_ | refine g_rEqI ?_ | refine g_rNeI ?_ | refine g_isN ?_ | refine g_rIsB ?_ | refine g_rNotB ?_ | refine g_test ?_ | refine g_B ?_ | refine g_bl ?_ | refine g_and ?_ | refine g_or ?_ | refine g_not ?_ | refine g_andV ?_ | refine g_orV ?_ | refine g_notV ?_ | refine g_if ?_ | refine g_chain ?_ | refine g_yes ?_ | refine g_lc ?_ | refine g_revR ?_ | refine g_rng1 ?_ | refine g_iList ?_ | refine g_nil ?_ | refine g_cons ?_ | refine g_tup ?_ | refine g_lst ?_ | refine g_call ?_ | refine g_CB ?_ | refine g_sl ?_ | refine g_noPart ?_ | refine g_part ?_ | refine g_intE ?_ | refine g_ref ?_ | refine g_fld ?_ | refine g_sfld ?_ | refine g_meth ?_ | refine g_make ?_ | refine g_prop ?_  | refine g_ipI ?_ | refine g_int1 ?_ | refine g_int1B ?_ | refine g_one ?_ | refine g_two ?_ | refine g_isiI ?_ | refine g_isiIB ?_ | refine g_isiB ?_ | refine g_BM ?_ | refine g_BM0 ?_ | refine g_sub ?_)
local macro_rules | `(tactic| walk_at "go") => `(tactic| repeat (first | walk_at "go1" | ((with_reducible refine' g_nameE ?sd_ ?_); case sd_ => dsimp only [List.set_cons_succ, List.set_cons_zero]) | ((with_reducible refine' g_var ?sd_ ?_); case sd_ => exact rfl) | ((with_reducible refine' g_aug ?sd_ ?_); case sd_ => exact rfl) | ((with_reducible refine' g_rI ?sd_ ?_); case sd_ => walk_at "side") | ((with_reducible refine' g_dT ?sd_ ?_); case sd_ => walk_at "fact") | ((with_reducible refine' g_dF ?sd_ ?_); case sd_ => walk_at "fact") | ((with_reducible refine' g_nT ?sd_ ?_); case sd_ => walk_at "fact") | ((with_reducible refine' g_nF ?sd_ ?_); case sd_ => walk_at "fact") | (with_reducible refine g_iT rfl ?_) | (with_reducible refine g_iF rfl ?_) | walk_at "use"))
local macro_rules | `(tactic| walk_at "nw") => `(tactic| (generalize zq : upd _ _ _ = Hq; have sq : Same _ Hq := (by rw [← zq]; exact same_upd (by assumption)); have kq := (congrFun zq _).symm.trans upd_same; clear zq))
local macro_rules | `(tactic| walk_at "bt") => `(tactic| (generalize zq : upd _ _ _ = Hq; have bq : But _ _ Hq := (by rw [← zq]; exact But.refl.upd); have kq := (congrFun zq _).symm.trans upd_same; clear zq))
local macro_rules | `(tactic| walk_at "use") => `(tactic| first | ((with_reducible refine' fd_Channel_number ?ho_ ?hv_ ?_); (case ho_ => first | assumption | exact upd_same); (case hv_ => exact rfl)) | ((with_reducible refine' fd_Channel_announced ?ho_ ?hv_ ?_); (case ho_ => first | assumption | exact upd_same); (case hv_ => exact rfl)) | ((with_reducible refine' fd_Channel_queue ?ho_ ?hv_ ?_); (case ho_ => first | assumption | exact upd_same); (case hv_ => exact rfl)) | ((with_reducible refine' fd_Channel_credit ?ho_ ?hv_ ?_); (case ho_ => first | assumption | exact upd_same); (case hv_ => exact rfl)) | ((with_reducible refine' fd_Channel_finished ?ho_ ?hv_ ?_); (case ho_ => first | assumption | exact upd_same); (case hv_ => exact rfl)) | ((with_reducible refine' fd_Channel_end_sent ?ho_ ?hv_ ?_); (case ho_ => first | assumption | exact upd_same); (case hv_ => exact rfl)) | ((with_reducible refine' fd_Channel_unread ?ho_ ?hv_ ?_); (case ho_ => first | assumption | exact upd_same); (case hv_ => exact rfl)) | ((with_reducible refine' fd_Channel_due ?ho_ ?hv_ ?_); (case ho_ => first | assumption | exact upd_same); (case hv_ => exact rfl)) | ((with_reducible refine' fd_Channel_end_came ?ho_ ?hv_ ?_); (case ho_ => first | assumption | exact upd_same); (case hv_ => exact rfl)) | ((with_reducible refine' fd_Channel_broken ?ho_ ?hv_ ?_); (case ho_ => first | assumption | exact upd_same); (case hv_ => exact rfl)) | ((with_reducible refine' fd_Channel_reset_told ?ho_ ?hv_ ?_); (case ho_ => first | assumption | exact upd_same); (case hv_ => exact rfl)) | ((with_reducible refine' nw_Channel_number ?ho_ ?hv_ ?_); (case ho_ => first | assumption | exact upd_same); (case hv_ => exact rfl)) | ((with_reducible refine' nw_Channel_announced ?ho_ ?hv_ ?_); (case ho_ => first | assumption | exact upd_same); (case hv_ => exact rfl)) | ((with_reducible refine' nw_Channel_queue ?ho_ ?hv_ ?_); (case ho_ => first | assumption | exact upd_same); (case hv_ => exact rfl)) | ((with_reducible refine' nw_Channel_credit ?ho_ ?hv_ ?_); (case ho_ => first | assumption | exact upd_same); (case hv_ => exact rfl)) | ((with_reducible refine' nw_Channel_finished ?ho_ ?hv_ ?_); (case ho_ => first | assumption | exact upd_same); (case hv_ => exact rfl)) | ((with_reducible refine' nw_Channel_end_sent ?ho_ ?hv_ ?_); (case ho_ => first | assumption | exact upd_same); (case hv_ => exact rfl)) | ((with_reducible refine' nw_Channel_unread ?ho_ ?hv_ ?_); (case ho_ => first | assumption | exact upd_same); (case hv_ => exact rfl)) | ((with_reducible refine' nw_Channel_due ?ho_ ?hv_ ?_); (case ho_ => first | assumption | exact upd_same); (case hv_ => exact rfl)) | ((with_reducible refine' nw_Channel_end_came ?ho_ ?hv_ ?_); (case ho_ => first | assumption | exact upd_same); (case hv_ => exact rfl)) | ((with_reducible refine' nw_Channel_broken ?ho_ ?hv_ ?_); (case ho_ => first | assumption | exact upd_same); (case hv_ => exact rfl)) | ((with_reducible refine' nw_Channel_reset_told ?ho_ ?hv_ ?_); (case ho_ => first | assumption | exact upd_same); (case hv_ => exact rfl)) | ((with_reducible refine' st_Channel_number ?ho_ ?hv_ ?_); (case ho_ => first | assumption | exact upd_same); (case hv_ => exact Nat.le_of_ble_eq_true rfl)) | ((with_reducible refine' st_Channel_announced ?ho_ ?hv_ ?_); (case ho_ => first | assumption | exact upd_same); (case hv_ => exact Nat.le_of_ble_eq_true rfl)) | ((with_reducible refine' st_Channel_queue ?ho_ ?hv_ ?_); (case ho_ => first | assumption | exact upd_same); (case hv_ => exact Nat.le_of_ble_eq_true rfl)) | ((with_reducible refine' st_Channel_credit ?ho_ ?hv_ ?_); (case ho_ => first | assumption | exact upd_same); (case hv_ => exact Nat.le_of_ble_eq_true rfl)) | ((with_reducible refine' st_Channel_finished ?ho_ ?hv_ ?_); (case ho_ => first | assumption | exact upd_same); (case hv_ => exact Nat.le_of_ble_eq_true rfl)) | ((with_reducible refine' st_Channel_end_sent ?ho_ ?hv_ ?_); (case ho_ => first | assumption | exact upd_same); (case hv_ => exact Nat.le_of_ble_eq_true rfl)) | ((with_reducible refine' st_Channel_unread ?ho_ ?hv_ ?_); (case ho_ => first | assumption | exact upd_same); (case hv_ => exact Nat.le_of_ble_eq_true rfl)) | ((with_reducible refine' st_Channel_due ?ho_ ?hv_ ?_); (case ho_ => first | assumption | exact upd_same); (case hv_ => exact Nat.le_of_ble_eq_true rfl)) | ((with_reducible refine' st_Channel_end_came ?ho_ ?hv_ ?_); (case ho_ => first | assumption | exact upd_same); (case hv_ => exact Nat.le_of_ble_eq_true rfl)) | ((with_reducible refine' st_Channel_broken ?ho_ ?hv_ ?_); (case ho_ => first | assumption | exact upd_same); (case hv_ => exact Nat.le_of_ble_eq_true rfl)) | ((with_reducible refine' st_Channel_reset_told ?ho_ ?hv_ ?_); (case ho_ => first | assumption | exact upd_same); (case hv_ => exact Nat.le_of_ble_eq_true rfl)) | ((with_reducible refine' me_Channel_break_off ?ho_ ?_); (case ho_ => first | assumption | exact upd_same)))
local macro_rules | `(tactic| walk_at "use") => `(tactic| first | ((with_reducible refine' fd_Channels_failure ?ho_ ?hv_ ?_); (case ho_ => first | assumption | exact upd_same); (case hv_ => exact rfl)) | ((with_reducible refine' fd_Channels__window ?ho_ ?hv_ ?_); (case ho_ => first | assumption | exact upd_same); (case hv_ => exact rfl)) | ((with_reducible refine' fd_Channels__most ?ho_ ?hv_ ?_); (case ho_ => first | assumption | exact upd_same); (case hv_ => exact rfl)) | ((with_reducible refine' fd_Channels__next_here ?ho_ ?hv_ ?_); (case ho_ => first | assumption | exact upd_same); (case hv_ => exact rfl)) | ((with_reducible refine' fd_Channels__next_there ?ho_ ?hv_ ?_); (case ho_ => first | assumption | exact upd_same); (case hv_ => exact rfl)) | ((with_reducible refine' fd_Channels__channels ?ho_ ?hv_ ?_); (case ho_ => first | assumption | exact upd_same); (case hv_ => exact rfl)) | ((with_reducible refine' fd_Channels__numbers ?ho_ ?hv_ ?_); (case ho_ => first | assumption | exact upd_same); (case hv_ => exact rfl)) | ((with_reducible refine' fd_Channels__turns ?ho_ ?hv_ ?_); (case ho_ => first | assumption | exact upd_same); (case hv_ => exact rfl)) | ((with_reducible refine' fd_Channels__offered ?ho_ ?hv_ ?_); (case ho_ => first | assumption | exact upd_same); (case hv_ => exact rfl)) | ((with_reducible refine' fd_Channels__going ?ho_ ?hv_ ?_); (case ho_ => first | assumption | exact upd_same); (case hv_ => exact rfl)) | ((with_reducible refine' fd_Channels__coming ?ho_ ?hv_ ?_); (case ho_ => first | assumption | exact upd_same); (case hv_ => exact rfl)) | ((with_reducible refine' nw_Channels_failure ?ho_ ?hv_ ?_); (case ho_ => first | assumption | exact upd_same); (case hv_ => exact rfl)) | ((with_reducible refine' nw_Channels__window ?ho_ ?hv_ ?_); (case ho_ => first | assumption | exact upd_same); (case hv_ => exact rfl)) | ((with_reducible refine' nw_Channels__most ?ho_ ?hv_ ?_); (case ho_ => first | assumption | exact upd_same); (case hv_ => exact rfl)) | ((with_reducible refine' nw_Channels__next_here ?ho_ ?hv_ ?_); (case ho_ => first | assumption | exact upd_same); (case hv_ => exact rfl)) | ((with_reducible refine' nw_Channels__next_there ?ho_ ?hv_ ?_); (case ho_ => first | assumption | exact upd_same); (case hv_ => exact rfl)) | ((with_reducible refine' nw_Channels__channels ?ho_ ?hv_ ?_); (case ho_ => first | assumption | exact upd_same); (case hv_ => exact rfl)) | ((with_reducible refine' nw_Channels__numbers ?ho_ ?hv_ ?_); (case ho_ => first | assumption | exact upd_same); (case hv_ => exact rfl)) | ((with_reducible refine' nw_Channels__turns ?ho_ ?hv_ ?_); (case ho_ => first | assumption | exact upd_same); (case hv_ => exact rfl)) | ((with_reducible refine' nw_Channels__offered ?ho_ ?hv_ ?_); (case ho_ => first | assumption | exact upd_same); (case hv_ => exact rfl)) | ((with_reducible refine' nw_Channels__going ?ho_ ?hv_ ?_); (case ho_ => first | assumption | exact upd_same); (case hv_ => exact rfl)) | ((with_reducible refine' nw_Channels__coming ?ho_ ?hv_ ?_); (case ho_ => first | assumption | exact upd_same); (case hv_ => exact rfl)) | ((with_reducible refine' st_Channels_failure ?ho_ ?hv_ ?_); (case ho_ => first | assumption | exact upd_same); (case hv_ => exact Nat.le_of_ble_eq_true rfl)) | ((with_reducible refine' st_Channels__window ?ho_ ?hv_ ?_); (case ho_ => first | assumption | exact upd_same); (case hv_ => exact Nat.le_of_ble_eq_true rfl)) | ((with_reducible refine' st_Channels__most ?ho_ ?hv_ ?_); (case ho_ => first | assumption | exact upd_same); (case hv_ => exact Nat.le_of_ble_eq_true rfl)) | ((with_reducible refine' st_Channels__next_here ?ho_ ?hv_ ?_); (case ho_ => first | assumption | exact upd_same); (case hv_ => exact Nat.le_of_ble_eq_true rfl)) | ((with_reducible refine' st_Channels__next_there ?ho_ ?hv_ ?_); (case ho_ => first | assumption | exact upd_same); (case hv_ => exact Nat.le_of_ble_eq_true rfl)) | ((with_reducible refine' st_Channels__channels ?ho_ ?hv_ ?_); (case ho_ => first | assumption | exact upd_same); (case hv_ => exact Nat.le_of_ble_eq_true rfl)) | ((with_reducible refine' st_Channels__numbers ?ho_ ?hv_ ?_); (case ho_ => first | assumption | exact upd_same); (case hv_ => exact Nat.le_of_ble_eq_true rfl)) | ((with_reducible refine' st_Channels__turns ?ho_ ?hv_ ?_); (case ho_ => first | assumption | exact upd_same); (case hv_ => exact Nat.le_of_ble_eq_true rfl)) | ((with_reducible refine' st_Channels__offered ?ho_ ?hv_ ?_); (case ho_ => first | assumption | exact upd_same); (case hv_ => exact Nat.le_of_ble_eq_true rfl)) | ((with_reducible refine' st_Channels__going ?ho_ ?hv_ ?_); (case ho_ => first | assumption | exact upd_same); (case hv_ => exact Nat.le_of_ble_eq_true rfl)) | ((with_reducible refine' st_Channels__coming ?ho_ ?hv_ ?_); (case ho_ => first | assumption | exact upd_same); (case hv_ => exact Nat.le_of_ble_eq_true rfl)) | ((with_reducible refine' me_Channels_len__ ?ho_ ?_); (case ho_ => first | assumption | exact upd_same)) | ((with_reducible refine' me_Channels_iter__ ?ho_ ?_); (case ho_ => first | assumption | exact upd_same)) | ((with_reducible refine' me_Channels_open_channel ?ho_ ?_); (case ho_ => first | assumption | exact upd_same)) | ((with_reducible refine' me_Channels_accept ?ho_ ?_); (case ho_ => first | assumption | exact upd_same)) | ((with_reducible refine' me_Channels_write ?ho_ ?_); (case ho_ => first | assumption | exact upd_same)) | ((with_reducible refine' me_Channels_read ?ho_ ?_); (case ho_ => first | assumption | exact upd_same)) | ((with_reducible refine' me_Channels_finish ?ho_ ?_); (case ho_ => first | assumption | exact upd_same)) | ((with_reducible refine' me_Channels_reset ?ho_ ?_); (case ho_ => first | assumption | exact upd_same)) | ((with_reducible refine' me_Channels_status ?ho_ ?_); (case ho_ => first | assumption | exact upd_same)) | ((with_reducible refine' me_Channels_known ?ho_ ?_); (case ho_ => first | assumption | exact upd_same)) | ((with_reducible refine' me_Channels_add ?ho_ ?_); (case ho_ => first | assumption | exact upd_same)) | ((with_reducible refine' me_Channels_room_of ?ho_ ?_); (case ho_ => first | assumption | exact upd_same)))
section
variable {P : Program} {w : World} {K : PySem.W.Frag} {mg : Str → Option Value} {base : Heap}
local macro_rules | `(tactic| walk_at "use") => `(tactic| with_reducible first | refine g_rs0 ?_ | refine g_rs1 ?_ | refine g_tryA ?_ | refine g_tryO ?_ | refine g_callS ?_ | refine g_joined ?_ | refine g_jsnil ?_ | refine g_jscons ?_ | refine g_fmt ?_)
local macro_rules | `(tactic| walk_at "fit") => `(tactic| (refine fit2 ?_; (try simp only [PySem.Str.length_append]); omega))
local macro_rules | `(tactic| walk_at "use") => `(tactic| first | ((with_reducible refine' g_addS ?sd_ ?_); case sd_ => (first | omega | (simp only [PySem.Str.length_append]; omega))) | ((with_reducible refine' g_slS ?sd_ ?_); case sd_ => omega) | (with_reducible refine g_m0 ?_))

local macro_rules | `(tactic| walk_at "use") => `(tactic| with_reducible first | refine g_dgetI ?_ | refine g_dputI ?_ | refine g_dget1I ?_ | refine g_dget2I ?_ | refine g_dinI ?_ | refine g_dnotinI ?_ | refine g_dnewK ?_)

section
variable {K : PySem.W.Frag} {H : Hp} {Q : VK}
theorem dec_str {s t : Str} : decide (V.str s = V.str t) = decide (s = t) := decide_eq_decide.mpr ⟨V.str.inj, congrArg _⟩
theorem g_rEqS {s t : Str} (q : Q (.bl (decide (s = t))) H) : rEq (.str s) (.str t) H Q := g_rEq rfl (by rw [dec_str]; exact q)
theorem g_rNeS {s t : Str} (q : Q (.bl (!decide (s = t))) H) : rNe (.str s) (.str t) H Q := g_rNe rfl (by rw [dec_str]; exact q)
theorem inV_str {s : Str} : ∀ {ws : List Str}, inV (.str s) (ws.map V.str) = decide (s ∈ ws)
  | [] => (decide_eq_false (by simp)).symm
  | t :: ws => by
    show ((t == s) || inV (.str s) (ws.map V.str)) = _
    rw [inV_str, Bool.eq_iff_iff]
    simp only [Bool.or_eq_true, beq_iff_eq, decide_eq_true_eq, List.mem_cons]
    exact ⟨fun h => h.imp Eq.symm id, fun h => h.imp Eq.symm id⟩
theorem flat_strs : ∀ {ws : List Str}, (ws.map V.str).all flatV = true
  | [] => rfl
  | _ :: ws => flat_strs (ws := ws)
theorem g_inS {p : Addr} {ws : List Str} {s : Str} (h : SqT K H p (ws.map V.str)) (q : Q (.bl (decide (s ∈ ws))) H) : rIn K false (.str s) (.ref p) H Q :=
  ⟨p, _, rfl, .inr h, rfl, flat_strs, by rw [if_neg (by decide), inV_str]; exact q⟩
theorem g_isiS {s : Str} (q : Q (.bl true) H) : rIsi K [.str s, .ty "str"] H Q := g_isi (.ty _) (.base (.str _)) (kit_ty (by decide +kernel)) q
end
local macro_rules | `(tactic| walk_at "use") => `(tactic| with_reducible first | refine g_rEqS ?_ | refine g_rNeS ?_ | refine g_isiS ?_)

def sp_l_refused (K : PySem.W.Frag) : Sp := fun vs H Q _ => ∃ (f : Bool) (w m : Int), vs = [.bl f, .int w, .int m] ∧ -1000000 ≤ w ∧ w ≤ 1000000 ∧ -1000000 ≤ m ∧ m ≤ 1000000 ∧ ¬ (1 ≤ w ∧ w ≤ 65535 ∧ 1 ≤ m ∧ m ≤ 65535) ∧ ∀ H', Same H H' → Q (.bl true) H'
theorem kbt_1 {P : Program} {K : PySem.W.Frag} {mg : Str → Option Value} (T : Txt P K mg) : ∃ g, KBn K T.d_Channels_init__ ["self", "first", "window", "most"] 1 ["first", "window", "most"] g (fun vs zs => vs ++ ((zs.drop 0).take 1 ++ ((zs.drop 1).take 1 ++ ((zs.drop 2).take 1)))) :=
  ⟨_, kb_pure (ps := ["self", "first", "window", "most"]) T.F_Channels_init__ 1 ["first", "window", "most"] (fun vs zs => vs ++ ((zs.drop 0).take 1 ++ ((zs.drop 1).take 1 ++ ((zs.drop 2).take 1)))) (fun r1 r2 => r1.append (((r2.drop 0).take 1).append (((r2.drop 1).take 1).append ((r2.drop 2).take 1)))) (fun kV doc pm an cdv ct us ws l1 l2 => match us, l1, ws, l2 with | [_], _, [_, _, _], _ => rfl)⟩
theorem ok_l_refused (T : Txt P K mg) : FnOk P w K mg base CX0 3 T.f_l_refused T.d_l_refused ["first", "window", "most"] (sp_l_refused K) := by
  refine T.F_l_refused.ok sc_l_refused (fun vs H Q E h => ?_) (fun cdv A outer s H vs Q E hr h => ?_)
  · obtain ⟨f, w, m, rfl, w0, w1, m0, m1, hn, q⟩ := h
    rfl
  · obtain ⟨f, w, m, rfl, w0, w1, m0, m1, hn, q⟩ := h
    have hu := hu_of hr
    obtain ⟨gk_1, kb_1⟩ := kbt_1 T
    refine ⟨_, (pss_cons (ps_tryA (i := 3) rfl rfl sc_l_refused.nd rfl rfl ⟨rfl, by decide, .inl T.c_InvalidOptions⟩ takes0 (fun W pn xe tk po_ => (pss_one (ps_expr (pe_makeK0T T.mk_Channels (ok_Channels_init__ T) (hr.mono (by decide)) rfl T.c_Channels kb_1 (fun σ => passAt tk σ) (pk_cons (pv 0) (pk_cons (pv 1) (pk_cons (pv 2) pk_nil))))))) (fun a oe cls d pn hz_ hf_ => (pss_one (ps_ret (pe_and (pe_callB (call_isE2 hz_ hf_) (by rfl) T.n_isinstance (by decide +kernel) (pa_cons (pv 3) (pa_cons (pe_glob (v := .ref T.C_ThroughlineError) (by rfl) T.c_ThroughlineError rfl) pa_nil))) (pe_one (pe_not (pe_callB (call_isE2 hz_ hf_) (by rfl) T.n_isinstance (by decide +kernel) (pa_cons (pv 3) (pa_cons (pe_glob (v := .ref T.C_InvalidAmount) (by rfl) T.c_InvalidAmount rfl) pa_nil))))))))))
        (pss_one (ps_ret pe_bl))), ?_⟩
    dsimp only [cxOf, Cx.nox, Cx.wish, L2.start, List.map, List.cons_append, List.nil_append, List.length_cons, List.length_nil, Nat.reduceAdd, Nat.reduceSub, Nat.zero_add, List.replicate_succ, List.replicate_zero]
    walk_at "go"
    refine g_makeKT ?_
    walk_at "go"
    refine ⟨rfl, fun y dy hy hdy hne => ?_⟩
    have s2 : Same H (upd (upd H dy (.own y)) y (.ins T.C_Channels dy [])) := (same_upd hdy).trans (same_upd (by rw [upd_ne hne.symm]; exact hy))
    refine ⟨y, dy, f, w, m, rfl, upd_same, w0, w1, m0, m1, .inl ⟨hn, ?_⟩⟩
    refine g_caught T.em_InvalidOptions_InvalidOptions fun e he => ?_
    dsimp only [List.set_cons_succ, List.set_cons_zero]
    walk_at "go"
    refine g_isER T.xc_InvalidOptions T.ko_InvalidOptions_ThroughlineError ?_
    walk_at "go"
    refine g_isER T.xc_InvalidOptions T.ko_InvalidOptions_InvalidAmount ?_
    walk_at "go"
    exact q _ s2
/-- a pair of a text and True is made -/
def PrA (w : Str) (Q : VK) (H : Hp) : Prop := ∀ p, H p = none → Q (.ref p) (upd H p (.tup [.str w, .bl true]))
def sp_l_call (K : PySem.W.Frag) (CS CC : Addr) : Sp := fun vs H Q _ => ∃ (own : Addr → Option Nat) (S : Sa) (x : Nat → Ca) (w m t : Int) (cs : List Ch) (a : Addr) (nm : Str), vs = [.ref S.p, .str nm, .ref a] ∧ SdO CS CC own H S x w m t cs ∧
  ((nm = "open" ∧ ((cs.length = 100 ∧ PrA "many" Q H) ∨ (cs.length < 100 ∧ ∀ own' S' x' H', (∀ b, H b ≠ none → own' b = own b) → S'.p = S.p → SdO CS CC own' H' S' x' w m t (cs ++ [⟨[], false, none⟩]) → (∀ b o, own b = none → H b = some o → H' b = some o) → Q (.int (nb t cs.length)) H'))) ∨
  (∃ (k : Int) (l : Addr) (bs : List Int), nm = "write" ∧ H a = some (.tup [.int k, .ref l]) ∧ SqL K H l (bs.map V.int) ∧ Kn t cs k (PrA "unknown" Q H) fun i c => ∀ H', SdO CS CC own H' S x w m t (cs.set i ⟨c.q ++ bs.take (room w c).toNat, c.fin, c.br⟩) → But (x i).q H H' → Q (.int (min (room w c) (bs.length : Int))) H') ∨
  (∃ (k n : Int), nm = "read" ∧ H a = some (.tup [.int k, .int n]) ∧ -1000000 ≤ n ∧ n ≤ 1000000 ∧ Kn t cs k (PrA "unknown" Q H) fun i c => (n < 0 ∧ PrA "amount" Q H) ∨ (0 ≤ n ∧ ∀ l H', H l = none → Same H H' → H' l = some (.lst []) → Q (.ref l) H')) ∨
  (∃ (k n : Int), nm = "finish" ∧ H a = some (.tup [.int k, .int n]) ∧ Kn t cs k (PrA "unknown" Q H) fun i c => ∀ H', SdO CS CC own H' S x w m t (cs.set i ⟨c.q, true, c.br⟩) → But (x i).a H H' → Q .non H') ∨
  (∃ (k n : Int), nm = "reset" ∧ H a = some (.tup [.int k, .int n]) ∧ -1000000 ≤ n ∧ n ≤ 1000000 ∧ Kn t cs k (PrA "unknown" Q H) fun i c => (¬ (0 ≤ n ∧ n ≤ 65535) ∧ PrA "amount" Q H) ∨ ((0 ≤ n ∧ n ≤ 65535) ∧ (c.br ≠ none → Q .non H) ∧ (c.br = none → ∀ own' x' H', (∀ b, H b ≠ none → own' b = own b) → SdO CS CC own' H' S x' w m t (cs.set i ⟨[], c.fin, some n⟩) → But (x i).a H H' → Q .non H'))) ∨
  (∃ (k n : Int), nm = "status" ∧ H a = some (.tup [.int k, .int n]) ∧ Kn t cs k (PrA "unknown" Q H) fun i c => False))
local macro_rules | `(tactic| walk_at "use") => `(tactic| with_reducible first | refine g_tryMA ?_ | refine g_methT ?_)
theorem ok_l_call (T : Txt P K mg) : FnOk P w K mg base CX0 4 T.f_l_call T.d_l_call ["side", "name", "args"] (sp_l_call K T.C_Channels T.C_Channel) := by
  refine T.F_l_call.ok sc_l_call (fun vs H Q E h => ?_) (fun cdv A outer s H vs Q E hr h => ?_)
  · obtain ⟨own, S, x, w, m, t, cs, a, nm, rfl, O, q⟩ := h
    rfl
  · obtain ⟨own, S, x, w, m, t, cs, a, nm, rfl, O, q⟩ := h
    have hu := hu_of hr
    refine ⟨_, (pss_one (ps_tryMA rfl rfl sc_l_call.nd takes0 (fun W pn xe tk po_ => (pss_cons (ps_if (pt_cmpR op_eq (pv 1) pe_str (nomark _)) (pss_one (ps_ret (pe_meth0T (pv 0) T.k_Channels T.a_Channels_open_channel (ok_Channels_open_channel T) (hr.mono (by decide)) T.b_Channels_open_channel (fun σ => passAt tk σ)))) pss_nil)
        (pss_cons (ps_if (pt_cmpR op_eq (pv 1) pe_str (nomark _)) (pss_one (ps_ret (pe_meth0 (pv 0) T.k_Channels T.a_Channels_accept (ok_Channels_accept T) (hr.mono (by decide)) T.b_Channels_accept .nil pass0))) pss_nil)
        (pss_cons (ps_if (pt_cmpR op_eq (pv 1) pe_str (nomark _)) (pss_one (ps_ret (pe_methT (pv 0) T.k_Channels T.a_Channels_write (ok_Channels_write T) (hr.mono (by decide)) T.b_Channels_write (fun σ => passAt tk σ) (pa_cons (pe_ix (r := rIxT K) ix_tup (pv 2) pe_int (fun _ _ => rfl)) (pa_cons (pe_ix (r := rIxT K) ix_tup (pv 2) pe_int (fun _ _ => rfl)) pa_nil))))) pss_nil)
        (pss_cons (ps_if (pt_cmpR op_eq (pv 1) pe_str (nomark _)) (pss_one (ps_ret (pe_methT (pv 0) T.k_Channels T.a_Channels_read (ok_Channels_read T) (hr.mono (by decide)) T.b_Channels_read (fun σ => passAt tk σ) (pa_cons (pe_ix (r := rIxT K) ix_tup (pv 2) pe_int (fun _ _ => rfl)) (pa_cons (pe_ix (r := rIxT K) ix_tup (pv 2) pe_int (fun _ _ => rfl)) pa_nil))))) pss_nil)
        (pss_cons (ps_if (pt_cmpR op_eq (pv 1) pe_str (nomark _)) (pss_one (ps_ret (pe_methT (pv 0) T.k_Channels T.a_Channels_finish (ok_Channels_finish T) (hr.mono (by decide)) T.b_Channels_finish (fun σ => passAt tk σ) (pa_cons (pe_ix (r := rIxT K) ix_tup (pv 2) pe_int (fun _ _ => rfl)) pa_nil)))) pss_nil)
        (pss_cons (ps_if (pt_cmpR op_eq (pv 1) pe_str (nomark _)) (pss_one (ps_ret (pe_methT (pv 0) T.k_Channels T.a_Channels_reset (ok_Channels_reset T) (hr.mono (by decide)) T.b_Channels_reset (fun σ => passAt tk σ) (pa_cons (pe_ix (r := rIxT K) ix_tup (pv 2) pe_int (fun _ _ => rfl)) (pa_cons (pe_ix (r := rIxT K) ix_tup (pv 2) pe_int (fun _ _ => rfl)) pa_nil))))) pss_nil)
        (pss_cons (ps_if (pt_cmpR op_eq (pv 1) pe_str (nomark _)) (pss_one (ps_ret (pe_dead))) pss_nil)
        (pss_one (ps_ret (pe_methT (pv 0) T.k_Channels T.a_Channels_status (ok_Channels_status T) (hr.mono (by decide)) T.b_Channels_status (fun σ => passAt tk σ) (pa_cons (pe_ix (r := rIxT K) ix_tup (pv 2) pe_int (fun _ _ => rfl)) pa_nil)))))))))))) (.cons (i := 3) rfl rfl ⟨rfl, by decide, .inl T.c_UnknownChannel⟩ (fun a oe cls d pn hz_ hf_ => (pss_one (ps_ret (pe_tup (pa_cons pe_str (pa_cons (pe_and (pe_callB (call_isE2 hz_ hf_) (by rfl) T.n_isinstance (by decide +kernel) (pa_cons (pv 3) (pa_cons (pe_glob (v := .ref T.C_ThroughlineError) (by rfl) T.c_ThroughlineError rfl) pa_nil))) (pe_one (pe_not (pe_callB (call_isE2 hz_ hf_) (by rfl) T.n_isinstance (by decide +kernel) (pa_cons (pv 3) (pa_cons (pe_glob (v := .ref T.C_InvalidAmount) (by rfl) T.c_InvalidAmount rfl) pa_nil)))))) pa_nil)))))) (.cons (i := 3) rfl rfl ⟨rfl, by decide, .inl T.c_TooManyChannels⟩ (fun a oe cls d pn hz_ hf_ => (pss_one (ps_ret (pe_tup (pa_cons pe_str (pa_cons (pe_and (pe_callB (call_isE2 hz_ hf_) (by rfl) T.n_isinstance (by decide +kernel) (pa_cons (pv 3) (pa_cons (pe_glob (v := .ref T.C_ThroughlineError) (by rfl) T.c_ThroughlineError rfl) pa_nil))) (pe_one (pe_not (pe_callB (call_isE2 hz_ hf_) (by rfl) T.n_isinstance (by decide +kernel) (pa_cons (pv 3) (pa_cons (pe_glob (v := .ref T.C_UnknownChannel) (by rfl) T.c_UnknownChannel rfl) pa_nil)))))) pa_nil)))))) (.cons (i := 3) rfl rfl ⟨rfl, by decide, .inl T.c_InvalidAmount⟩ (fun a oe cls d pn hz_ hf_ => (pss_one (ps_ret (pe_tup (pa_cons pe_str (pa_cons (pe_and (pe_callB (call_isE2 hz_ hf_) (by rfl) T.n_isinstance (by decide +kernel) (pa_cons (pv 3) (pa_cons (pe_glob (v := .ref T.C_ThroughlineError) (by rfl) T.c_ThroughlineError rfl) pa_nil))) (pe_one (pe_not (pe_callB (call_isE2 hz_ hf_) (by rfl) T.n_isinstance (by decide +kernel) (pa_cons (pv 3) (pa_cons (pe_glob (v := .ref T.C_UnknownChannel) (by rfl) T.c_UnknownChannel rfl) pa_nil)))))) pa_nil)))))) .nil))))), ?_⟩
    dsimp only [cxOf, Cx.nox, Cx.wish, L2.start, List.map, List.cons_append, List.nil_append, List.length_cons, List.length_nil, Nat.reduceAdd, Nat.reduceSub, Nat.zero_add, List.replicate_succ, List.replicate_zero]
    have ho := O.ho
    rcases q with ⟨rfl, q⟩ | q
    · walk_at "go"
      try refine g_methE ho (by decide) ?_
      walk_at "go"
      rcases q with ⟨hn, q⟩ | ⟨hn, q⟩
      · refine ⟨own, S, x, w, m, t, cs, rfl, O, .inl ⟨hn, ?_⟩⟩
        refine g_missed T.em_TooManyChannels_UnknownChannel (g_caught T.em_TooManyChannels_TooManyChannels fun e he => ?_)
        dsimp only [List.set_cons_succ, List.set_cons_zero]
        walk_at "go"
        refine g_isER T.xc_TooManyChannels T.ko_TooManyChannels_ThroughlineError ?_
        walk_at "go"
        refine g_isER T.xc_TooManyChannels T.ko_TooManyChannels_UnknownChannel ?_
        walk_at "go"
        exact ⟨by show 2 ≤ sizeLine; decide, q⟩
      · exact ⟨own, S, x, w, m, t, cs, rfl, O, .inr ⟨hn, q⟩⟩
    · rcases q with ⟨k, l, bs, rfl, ha, hS, h0, h1, q⟩ | ⟨k, n, rfl, ha, n0, n1, h0, h1, q⟩ | ⟨k, n, rfl, ha, h0, h1, q⟩ | ⟨k, n, rfl, ha, n0, n1, h0, h1, q⟩ | ⟨k, n, rfl, ha, h0, h1, q⟩
      · walk_at "go"
        refine g_ixT (st ha) rfl ?_
        walk_at "go"
        refine g_ixT (st ha) rfl ?_
        walk_at "go"
        refine ⟨own, S, x, w, m, t, cs, k, l, bs, rfl, O, hS, h0, h1, ?_⟩
        rcases q with ⟨e1, q⟩ | ⟨i, c, e1, hi, q⟩
        · refine .inl ⟨e1, ?_⟩
          refine g_caught T.em_UnknownChannel_UnknownChannel fun e he => ?_
          dsimp only [List.set_cons_succ, List.set_cons_zero]
          walk_at "go"
          refine g_isER T.xc_UnknownChannel T.ko_UnknownChannel_ThroughlineError ?_
          walk_at "go"
          refine g_isER T.xc_UnknownChannel T.ko_UnknownChannel_InvalidAmount ?_
          walk_at "go"
          exact ⟨by show 2 ≤ sizeLine; decide, q⟩
        · exact .inr ⟨i, c, e1, hi, q⟩
      · walk_at "go"
        refine g_ixT (st ha) rfl ?_
        walk_at "go"
        refine g_ixT (st ha) rfl ?_
        walk_at "go"
        refine ⟨own, S, x, w, m, t, cs, k, n, rfl, O, n0, n1, h0, h1, ?_⟩
        rcases q with ⟨e1, q⟩ | ⟨i, c, e1, hi, q⟩
        · refine .inl ⟨e1, ?_⟩
          refine g_caught T.em_UnknownChannel_UnknownChannel fun e he => ?_
          dsimp only [List.set_cons_succ, List.set_cons_zero]
          walk_at "go"
          refine g_isER T.xc_UnknownChannel T.ko_UnknownChannel_ThroughlineError ?_
          walk_at "go"
          refine g_isER T.xc_UnknownChannel T.ko_UnknownChannel_InvalidAmount ?_
          walk_at "go"
          exact ⟨by show 2 ≤ sizeLine; decide, q⟩
        · refine .inr ⟨i, c, e1, hi, ?_⟩
          rcases q with ⟨hn, q⟩ | q
          · refine .inl ⟨hn, ?_⟩
            refine g_missed T.em_InvalidAmount_UnknownChannel (g_missed T.em_InvalidAmount_TooManyChannels (g_caught T.em_InvalidAmount_InvalidAmount fun e he => ?_))
            dsimp only [List.set_cons_succ, List.set_cons_zero]
            walk_at "go"
            refine g_isER T.xc_InvalidAmount T.ko_InvalidAmount_ThroughlineError ?_
            walk_at "go"
            refine g_isER T.xc_InvalidAmount T.ko_InvalidAmount_UnknownChannel ?_
            walk_at "go"
            exact ⟨by show 2 ≤ sizeLine; decide, q⟩
          · exact .inr q
      · walk_at "go"
        refine g_ixT (st ha) rfl ?_
        walk_at "go"
        refine ⟨own, S, x, w, m, t, cs, k, rfl, O, h0, h1, ?_⟩
        rcases q with ⟨e1, q⟩ | ⟨i, c, e1, hi, q⟩
        · refine .inl ⟨e1, ?_⟩
          refine g_caught T.em_UnknownChannel_UnknownChannel fun e he => ?_
          dsimp only [List.set_cons_succ, List.set_cons_zero]
          walk_at "go"
          refine g_isER T.xc_UnknownChannel T.ko_UnknownChannel_ThroughlineError ?_
          walk_at "go"
          refine g_isER T.xc_UnknownChannel T.ko_UnknownChannel_InvalidAmount ?_
          walk_at "go"
          exact ⟨by show 2 ≤ sizeLine; decide, q⟩
        · exact .inr ⟨i, c, e1, hi, q⟩
      · walk_at "go"
        refine g_ixT (st ha) rfl ?_
        walk_at "go"
        refine g_ixT (st ha) rfl ?_
        walk_at "go"
        refine ⟨own, S, x, w, m, t, cs, k, n, rfl, O, n0, n1, h0, h1, ?_⟩
        rcases q with ⟨e1, q⟩ | ⟨i, c, e1, hi, q⟩
        · refine .inl ⟨e1, ?_⟩
          refine g_caught T.em_UnknownChannel_UnknownChannel fun e he => ?_
          dsimp only [List.set_cons_succ, List.set_cons_zero]
          walk_at "go"
          refine g_isER T.xc_UnknownChannel T.ko_UnknownChannel_ThroughlineError ?_
          walk_at "go"
          refine g_isER T.xc_UnknownChannel T.ko_UnknownChannel_InvalidAmount ?_
          walk_at "go"
          exact ⟨by show 2 ≤ sizeLine; decide, q⟩
        · refine .inr ⟨i, c, e1, hi, ?_⟩
          rcases q with ⟨hn, q⟩ | q
          · refine .inl ⟨hn, ?_⟩
            refine g_missed T.em_InvalidAmount_UnknownChannel (g_missed T.em_InvalidAmount_TooManyChannels (g_caught T.em_InvalidAmount_InvalidAmount fun e he => ?_))
            dsimp only [List.set_cons_succ, List.set_cons_zero]
            walk_at "go"
            refine g_isER T.xc_InvalidAmount T.ko_InvalidAmount_ThroughlineError ?_
            walk_at "go"
            refine g_isER T.xc_InvalidAmount T.ko_InvalidAmount_UnknownChannel ?_
            walk_at "go"
            exact ⟨by show 2 ≤ sizeLine; decide, q⟩
          · exact .inr q
      · walk_at "go"
        refine g_ixT (st ha) rfl ?_
        walk_at "go"
        refine ⟨own, S, x, w, m, t, cs, k, rfl, O, h0, h1, ?_⟩
        rcases q with ⟨e1, q⟩ | ⟨i, c, e1, hi, q⟩
        · refine .inl ⟨e1, ?_⟩
          refine g_caught T.em_UnknownChannel_UnknownChannel fun e he => ?_
          dsimp only [List.set_cons_succ, List.set_cons_zero]
          walk_at "go"
          refine g_isER T.xc_UnknownChannel T.ko_UnknownChannel_ThroughlineError ?_
          walk_at "go"
          refine g_isER T.xc_UnknownChannel T.ko_UnknownChannel_InvalidAmount ?_
          walk_at "go"
          exact ⟨by show 2 ≤ sizeLine; decide, q⟩
        · exact q.elim

end
end My
namespace My
open PySem PySem.Spec L2
local macro_rules | `(tactic| walk_at "side") => `(tactic| first | assumption | decide | omega | exact ⟨by decide, by decide⟩ | exact ⟨by decide, by decide, by decide⟩ | decide +kernel | exact cdivW (by decide +kernel) (by decide +kernel) | exact Or.inl ⟨by omega, by omega⟩ | exact Or.inr ⟨by omega, by omega⟩ | (simp only [List.length_map, List.length_cons, List.length_nil, List.length_append]; omega))
local macro_rules | `(tactic| walk_at "fact") => `(tactic| first | assumption | omega | with_reducible rfl)
local macro_rules | `(tactic| walk_at "use") => `(tactic| fail "use")
local macro_rules | `(tactic| walk_at "go1") => `(tactic| with_reducible first | refine g_seq ?_ | refine g_asg ?_ | refine g_ret ?_ | refine g_ifS ?_ | refine g_drop ?_ | refine g_star ?_ | refine g_nx ?_ | refine g_rt ?_ | refine g_bkE ?_ | refine g_ctE ?_ | refine g_next ?_ | refine g_retN ?_ | refine g_brk ?_ | refine g_ct ?_ | refine g_c ?_ | refine g_op ?_ | refine g_un ?_ | refine g_rI0 ?_ | refine g_rU ?_ | refine g_rEqI ?_ | refine g_rNeI ?_ | refine g_isN ?_ | refine g_rIsB ?_ | refine g_rNotB ?_ | refine g_test ?_ | refine g_B ?_ | refine g_bl ?_ | refine g_and ?_ | refine g_or ?_ | refine g_not ?_ | refine g_andV ?_ | refine g_orV ?_ | refine g_notV ?_ | refine g_if ?_ | refine g_chain ?_ | refine g_yes ?_ | refine g_lc ?_ | refine g_revR ?_ | refine g_rng1 ?_ | refine g_iList ?_ | refine g_nil ?_ | refine g_cons ?_ | refine g_tup ?_ | refine g_lst ?_ | refine g_call ?_ | refine g_CB ?_ | refine g_sl ?_ | refine g_noPart ?_ | refine g_part ?_ | refine g_intE ?_ | refine g_ref ?_ | refine g_fld ?_ | refine g_sfld ?_ | refine g_meth ?_ | refine g_make ?_ | refine g_prop ?_  | refine g_ipI ?_ | refine g_int1 ?_ | refine g_int1B ?_ | refine g_one ?_ | refine g_two ?_ | refine g_isiI ?_ | refine g_isiIB ?_ | refine g_isiB ?_ | refine g_BM ?_ | refine g_BM0 ?_ | refine g_sub ?_)
local macro_rules | `(tactic| walk_at "go") => `(tactic| repeat (first | walk_at "go1" | ((with_reducible refine' g_nameE ?sd_ ?_); case sd_ => dsimp only [List.set_cons_succ, List.set_cons_zero]) | ((with_reducible refine' g_var ?sd_ ?_); case sd_ => exact rfl) | ((with_reducible refine' g_aug ?sd_ ?_); case sd_ => exact rfl) | ((with_reducible refine' g_rI ?sd_ ?_); case sd_ => walk_at "side") | ((with_reducible refine' g_dT ?sd_ ?_); case sd_ => walk_at "fact") | ((with_reducible refine' g_dF ?sd_ ?_); case sd_ => walk_at "fact") | ((with_reducible refine' g_nT ?sd_ ?_); case sd_ => walk_at "fact") | ((with_reducible refine' g_nF ?sd_ ?_); case sd_ => walk_at "fact") | (with_reducible refine g_iT rfl ?_) | (with_reducible refine g_iF rfl ?_) | walk_at "use"))
local macro_rules | `(tactic| walk_at "nw") => `(tactic| (generalize zq : upd _ _ _ = Hq; have sq : Same _ Hq := (by rw [← zq]; exact same_upd (by assumption)); have kq := (congrFun zq _).symm.trans upd_same; clear zq))
local macro_rules | `(tactic| walk_at "bt") => `(tactic| (generalize zq : upd _ _ _ = Hq; have bq : But _ _ Hq := (by rw [← zq]; exact But.refl.upd); have kq := (congrFun zq _).symm.trans upd_same; clear zq))
local macro_rules | `(tactic| walk_at "use") => `(tactic| first | ((with_reducible refine' fd_Channel_number ?ho_ ?hv_ ?_); (case ho_ => first | assumption | exact upd_same); (case hv_ => exact rfl)) | ((with_reducible refine' fd_Channel_announced ?ho_ ?hv_ ?_); (case ho_ => first | assumption | exact upd_same); (case hv_ => exact rfl)) | ((with_reducible refine' fd_Channel_queue ?ho_ ?hv_ ?_); (case ho_ => first | assumption | exact upd_same); (case hv_ => exact rfl)) | ((with_reducible refine' fd_Channel_credit ?ho_ ?hv_ ?_); (case ho_ => first | assumption | exact upd_same); (case hv_ => exact rfl)) | ((with_reducible refine' fd_Channel_finished ?ho_ ?hv_ ?_); (case ho_ => first | assumption | exact upd_same); (case hv_ => exact rfl)) | ((with_reducible refine' fd_Channel_end_sent ?ho_ ?hv_ ?_); (case ho_ => first | assumption | exact upd_same); (case hv_ => exact rfl)) | ((with_reducible refine' fd_Channel_unread ?ho_ ?hv_ ?_); (case ho_ => first | assumption | exact upd_same); (case hv_ => exact rfl)) | ((with_reducible refine' fd_Channel_due ?ho_ ?hv_ ?_); (case ho_ => first | assumption | exact upd_same); (case hv_ => exact rfl)) | ((with_reducible refine' fd_Channel_end_came ?ho_ ?hv_ ?_); (case ho_ => first | assumption | exact upd_same); (case hv_ => exact rfl)) | ((with_reducible refine' fd_Channel_broken ?ho_ ?hv_ ?_); (case ho_ => first | assumption | exact upd_same); (case hv_ => exact rfl)) | ((with_reducible refine' fd_Channel_reset_told ?ho_ ?hv_ ?_); (case ho_ => first | assumption | exact upd_same); (case hv_ => exact rfl)) | ((with_reducible refine' nw_Channel_number ?ho_ ?hv_ ?_); (case ho_ => first | assumption | exact upd_same); (case hv_ => exact rfl)) | ((with_reducible refine' nw_Channel_announced ?ho_ ?hv_ ?_); (case ho_ => first | assumption | exact upd_same); (case hv_ => exact rfl)) | ((with_reducible refine' nw_Channel_queue ?ho_ ?hv_ ?_); (case ho_ => first | assumption | exact upd_same); (case hv_ => exact rfl)) | ((with_reducible refine' nw_Channel_credit ?ho_ ?hv_ ?_); (case ho_ => first | assumption | exact upd_same); (case hv_ => exact rfl)) | ((with_reducible refine' nw_Channel_finished ?ho_ ?hv_ ?_); (case ho_ => first | assumption | exact upd_same); (case hv_ => exact rfl)) | ((with_reducible refine' nw_Channel_end_sent ?ho_ ?hv_ ?_); (case ho_ => first | assumption | exact upd_same); (case hv_ => exact rfl)) | ((with_reducible refine' nw_Channel_unread ?ho_ ?hv_ ?_); (case ho_ => first | assumption | exact upd_same); (case hv_ => exact rfl)) | ((with_reducible refine' nw_Channel_due ?ho_ ?hv_ ?_); (case ho_ => first | assumption | exact upd_same); (case hv_ => exact rfl)) | ((with_reducible refine' nw_Channel_end_came ?ho_ ?hv_ ?_); (case ho_ => first | assumption | exact upd_same); (case hv_ => exact rfl)) | ((with_reducible refine' nw_Channel_broken ?ho_ ?hv_ ?_); (case ho_ => first | assumption | exact upd_same); (case hv_ => exact rfl)) | ((with_reducible refine' nw_Channel_reset_told ?ho_ ?hv_ ?_); (case ho_ => first | assumption | exact upd_same); (case hv_ => exact rfl)) | ((with_reducible refine' st_Channel_number ?ho_ ?hv_ ?_); (case ho_ => first | assumption | exact upd_same); (case hv_ => exact Nat.le_of_ble_eq_true rfl)) | ((with_reducible refine' st_Channel_announced ?ho_ ?hv_ ?_); (case ho_ => first | assumption | exact upd_same); (case hv_ => exact Nat.le_of_ble_eq_true rfl)) | ((with_reducible refine' st_Channel_queue ?ho_ ?hv_ ?_); (case ho_ => first | assumption | exact upd_same); (case hv_ => exact Nat.le_of_ble_eq_true rfl)) | ((with_reducible refine' st_Channel_credit ?ho_ ?hv_ ?_); (case ho_ => first | assumption | exact upd_same); (case hv_ => exact Nat.le_of_ble_eq_true rfl)) | ((with_reducible refine' st_Channel_finished ?ho_ ?hv_ ?_); (case ho_ => first | assumption | exact upd_same); (case hv_ => exact Nat.le_of_ble_eq_true rfl)) | ((with_reducible refine' st_Channel_end_sent ?ho_ ?hv_ ?_); (case ho_ => first | assumption | exact upd_same); (case hv_ => exact Nat.le_of_ble_eq_true rfl)) | ((with_reducible refine' st_Channel_unread ?ho_ ?hv_ ?_); (case ho_ => first | assumption | exact upd_same); (case hv_ => exact Nat.le_of_ble_eq_true rfl)) | ((with_reducible refine' st_Channel_due ?ho_ ?hv_ ?_); (case ho_ => first | assumption | exact upd_same); (case hv_ => exact Nat.le_of_ble_eq_true rfl)) | ((with_reducible refine' st_Channel_end_came ?ho_ ?hv_ ?_); (case ho_ => first | assumption | exact upd_same); (case hv_ => exact Nat.le_of_ble_eq_true rfl)) | ((with_reducible refine' st_Channel_broken ?ho_ ?hv_ ?_); (case ho_ => first | assumption | exact upd_same); (case hv_ => exact Nat.le_of_ble_eq_true rfl)) | ((with_reducible refine' st_Channel_reset_told ?ho_ ?hv_ ?_); (case ho_ => first | assumption | exact upd_same); (case hv_ => exact Nat.le_of_ble_eq_true rfl)) | ((with_reducible refine' me_Channel_break_off ?ho_ ?_); (case ho_ => first | assumption | exact upd_same)))
local macro_rules | `(tactic| walk_at "use") => `(tactic| first | ((with_reducible refine' fd_Channels_failure ?ho_ ?hv_ ?_); (case ho_ => first | assumption | exact upd_same); (case hv_ => exact rfl)) | ((with_reducible refine' fd_Channels__window ?ho_ ?hv_ ?_); (case ho_ => first | assumption | exact upd_same); (case hv_ => exact rfl)) | ((with_reducible refine' fd_Channels__most ?ho_ ?hv_ ?_); (case ho_ => first | assumption | exact upd_same); (case hv_ => exact rfl)) | ((with_reducible refine' fd_Channels__next_here ?ho_ ?hv_ ?_); (case ho_ => first | assumption | exact upd_same); (case hv_ => exact rfl)) | ((with_reducible refine' fd_Channels__next_there ?ho_ ?hv_ ?_); (case ho_ => first | assumption | exact upd_same); (case hv_ => exact rfl)) | ((with_reducible refine' fd_Channels__channels ?ho_ ?hv_ ?_); (case ho_ => first | assumption | exact upd_same); (case hv_ => exact rfl)) | ((with_reducible refine' fd_Channels__numbers ?ho_ ?hv_ ?_); (case ho_ => first | assumption | exact upd_same); (case hv_ => exact rfl)) | ((with_reducible refine' fd_Channels__turns ?ho_ ?hv_ ?_); (case ho_ => first | assumption | exact upd_same); (case hv_ => exact rfl)) | ((with_reducible refine' fd_Channels__offered ?ho_ ?hv_ ?_); (case ho_ => first | assumption | exact upd_same); (case hv_ => exact rfl)) | ((with_reducible refine' fd_Channels__going ?ho_ ?hv_ ?_); (case ho_ => first | assumption | exact upd_same); (case hv_ => exact rfl)) | ((with_reducible refine' fd_Channels__coming ?ho_ ?hv_ ?_); (case ho_ => first | assumption | exact upd_same); (case hv_ => exact rfl)) | ((with_reducible refine' nw_Channels_failure ?ho_ ?hv_ ?_); (case ho_ => first | assumption | exact upd_same); (case hv_ => exact rfl)) | ((with_reducible refine' nw_Channels__window ?ho_ ?hv_ ?_); (case ho_ => first | assumption | exact upd_same); (case hv_ => exact rfl)) | ((with_reducible refine' nw_Channels__most ?ho_ ?hv_ ?_); (case ho_ => first | assumption | exact upd_same); (case hv_ => exact rfl)) | ((with_reducible refine' nw_Channels__next_here ?ho_ ?hv_ ?_); (case ho_ => first | assumption | exact upd_same); (case hv_ => exact rfl)) | ((with_reducible refine' nw_Channels__next_there ?ho_ ?hv_ ?_); (case ho_ => first | assumption | exact upd_same); (case hv_ => exact rfl)) | ((with_reducible refine' nw_Channels__channels ?ho_ ?hv_ ?_); (case ho_ => first | assumption | exact upd_same); (case hv_ => exact rfl)) | ((with_reducible refine' nw_Channels__numbers ?ho_ ?hv_ ?_); (case ho_ => first | assumption | exact upd_same); (case hv_ => exact rfl)) | ((with_reducible refine' nw_Channels__turns ?ho_ ?hv_ ?_); (case ho_ => first | assumption | exact upd_same); (case hv_ => exact rfl)) | ((with_reducible refine' nw_Channels__offered ?ho_ ?hv_ ?_); (case ho_ => first | assumption | exact upd_same); (case hv_ => exact rfl)) | ((with_reducible refine' nw_Channels__going ?ho_ ?hv_ ?_); (case ho_ => first | assumption | exact upd_same); (case hv_ => exact rfl)) | ((with_reducible refine' nw_Channels__coming ?ho_ ?hv_ ?_); (case ho_ => first | assumption | exact upd_same); (case hv_ => exact rfl)) | ((with_reducible refine' st_Channels_failure ?ho_ ?hv_ ?_); (case ho_ => first | assumption | exact upd_same); (case hv_ => exact Nat.le_of_ble_eq_true rfl)) | ((with_reducible refine' st_Channels__window ?ho_ ?hv_ ?_); (case ho_ => first | assumption | exact upd_same); (case hv_ => exact Nat.le_of_ble_eq_true rfl)) | ((with_reducible refine' st_Channels__most ?ho_ ?hv_ ?_); (case ho_ => first | assumption | exact upd_same); (case hv_ => exact Nat.le_of_ble_eq_true rfl)) | ((with_reducible refine' st_Channels__next_here ?ho_ ?hv_ ?_); (case ho_ => first | assumption | exact upd_same); (case hv_ => exact Nat.le_of_ble_eq_true rfl)) | ((with_reducible refine' st_Channels__next_there ?ho_ ?hv_ ?_); (case ho_ => first | assumption | exact upd_same); (case hv_ => exact Nat.le_of_ble_eq_true rfl)) | ((with_reducible refine' st_Channels__channels ?ho_ ?hv_ ?_); (case ho_ => first | assumption | exact upd_same); (case hv_ => exact Nat.le_of_ble_eq_true rfl)) | ((with_reducible refine' st_Channels__numbers ?ho_ ?hv_ ?_); (case ho_ => first | assumption | exact upd_same); (case hv_ => exact Nat.le_of_ble_eq_true rfl)) | ((with_reducible refine' st_Channels__turns ?ho_ ?hv_ ?_); (case ho_ => first | assumption | exact upd_same); (case hv_ => exact Nat.le_of_ble_eq_true rfl)) | ((with_reducible refine' st_Channels__offered ?ho_ ?hv_ ?_); (case ho_ => first | assumption | exact upd_same); (case hv_ => exact Nat.le_of_ble_eq_true rfl)) | ((with_reducible refine' st_Channels__going ?ho_ ?hv_ ?_); (case ho_ => first | assumption | exact upd_same); (case hv_ => exact Nat.le_of_ble_eq_true rfl)) | ((with_reducible refine' st_Channels__coming ?ho_ ?hv_ ?_); (case ho_ => first | assumption | exact upd_same); (case hv_ => exact Nat.le_of_ble_eq_true rfl)) | ((with_reducible refine' me_Channels_len__ ?ho_ ?_); (case ho_ => first | assumption | exact upd_same)) | ((with_reducible refine' me_Channels_iter__ ?ho_ ?_); (case ho_ => first | assumption | exact upd_same)) | ((with_reducible refine' me_Channels_open_channel ?ho_ ?_); (case ho_ => first | assumption | exact upd_same)) | ((with_reducible refine' me_Channels_accept ?ho_ ?_); (case ho_ => first | assumption | exact upd_same)) | ((with_reducible refine' me_Channels_write ?ho_ ?_); (case ho_ => first | assumption | exact upd_same)) | ((with_reducible refine' me_Channels_read ?ho_ ?_); (case ho_ => first | assumption | exact upd_same)) | ((with_reducible refine' me_Channels_finish ?ho_ ?_); (case ho_ => first | assumption | exact upd_same)) | ((with_reducible refine' me_Channels_reset ?ho_ ?_); (case ho_ => first | assumption | exact upd_same)) | ((with_reducible refine' me_Channels_status ?ho_ ?_); (case ho_ => first | assumption | exact upd_same)) | ((with_reducible refine' me_Channels_known ?ho_ ?_); (case ho_ => first | assumption | exact upd_same)) | ((with_reducible refine' me_Channels_add ?ho_ ?_); (case ho_ => first | assumption | exact upd_same)) | ((with_reducible refine' me_Channels_room_of ?ho_ ?_); (case ho_ => first | assumption | exact upd_same)))
section
variable {P : Program} {w : World} {K : PySem.W.Frag} {mg : Str → Option Value} {base : Heap}
local macro_rules | `(tactic| walk_at "use") => `(tactic| with_reducible first | refine g_rs0 ?_ | refine g_rs1 ?_ | refine g_tryA ?_ | refine g_tryO ?_ | refine g_callS ?_ | refine g_joined ?_ | refine g_jsnil ?_ | refine g_jscons ?_ | refine g_fmt ?_)
local macro_rules | `(tactic| walk_at "fit") => `(tactic| (refine fit2 ?_; (try simp only [PySem.Str.length_append]); omega))
local macro_rules | `(tactic| walk_at "use") => `(tactic| first | ((with_reducible refine' g_addS ?sd_ ?_); case sd_ => (first | omega | (simp only [PySem.Str.length_append]; omega))) | ((with_reducible refine' g_slS ?sd_ ?_); case sd_ => omega) | (with_reducible refine g_m0 ?_))

local macro_rules | `(tactic| walk_at "use") => `(tactic| with_reducible first | refine g_dgetI ?_ | refine g_dputI ?_ | refine g_dget1I ?_ | refine g_dget2I ?_ | refine g_dinI ?_ | refine g_dnotinI ?_ | refine g_dnewK ?_)

section
variable {K : PySem.W.Frag} {H : Hp} {Q : VK}
end
local macro_rules | `(tactic| walk_at "use") => `(tactic| with_reducible first | refine g_rEqS ?_ | refine g_rNeS ?_ | refine g_isiS ?_)

local macro_rules | `(tactic| walk_at "use") => `(tactic| first | ((with_reducible refine' dg_D_writable ?ho_ ?hv_ ?_); (case ho_ => first | assumption | exact upd_same); (case hv_ => exact rfl)) | ((with_reducible refine' dg_D_waiting ?ho_ ?hv_ ?_); (case ho_ => first | assumption | exact upd_same); (case hv_ => exact rfl)) | ((with_reducible refine' dg_D_readable ?ho_ ?hv_ ?_); (case ho_ => first | assumption | exact upd_same); (case hv_ => exact rfl)) | ((with_reducible refine' dg_D_finished ?ho_ ?hv_ ?_); (case ho_ => first | assumption | exact upd_same); (case hv_ => exact rfl)) | ((with_reducible refine' dg_D_at_end ?ho_ ?hv_ ?_); (case ho_ => first | assumption | exact upd_same); (case hv_ => exact rfl)) | ((with_reducible refine' dg_D_reset ?ho_ ?hv_ ?_); (case ho_ => first | assumption | exact upd_same); (case hv_ => exact rfl)) | ((with_reducible refine' dn_D_writable ?ho_ ?hv_ ?_); (case ho_ => first | assumption | exact upd_same); (case hv_ => exact rfl)) | ((with_reducible refine' dn_D_waiting ?ho_ ?hv_ ?_); (case ho_ => first | assumption | exact upd_same); (case hv_ => exact rfl)) | ((with_reducible refine' dn_D_readable ?ho_ ?hv_ ?_); (case ho_ => first | assumption | exact upd_same); (case hv_ => exact rfl)) | ((with_reducible refine' dn_D_finished ?ho_ ?hv_ ?_); (case ho_ => first | assumption | exact upd_same); (case hv_ => exact rfl)) | ((with_reducible refine' dn_D_at_end ?ho_ ?hv_ ?_); (case ho_ => first | assumption | exact upd_same); (case hv_ => exact rfl)) | ((with_reducible refine' dn_D_reset ?ho_ ?hv_ ?_); (case ho_ => first | assumption | exact upd_same); (case hv_ => exact rfl)) | ((with_reducible refine' dp_D_writable ?ho_ ?hv_ ?_); (case ho_ => first | assumption | exact upd_same); (case hv_ => exact Nat.le_of_ble_eq_true rfl)) | ((with_reducible refine' dp_D_waiting ?ho_ ?hv_ ?_); (case ho_ => first | assumption | exact upd_same); (case hv_ => exact Nat.le_of_ble_eq_true rfl)) | ((with_reducible refine' dp_D_readable ?ho_ ?hv_ ?_); (case ho_ => first | assumption | exact upd_same); (case hv_ => exact Nat.le_of_ble_eq_true rfl)) | ((with_reducible refine' dp_D_finished ?ho_ ?hv_ ?_); (case ho_ => first | assumption | exact upd_same); (case hv_ => exact Nat.le_of_ble_eq_true rfl)) | ((with_reducible refine' dp_D_at_end ?ho_ ?hv_ ?_); (case ho_ => first | assumption | exact upd_same); (case hv_ => exact Nat.le_of_ble_eq_true rfl)) | ((with_reducible refine' dp_D_reset ?ho_ ?hv_ ?_); (case ho_ => first | assumption | exact upd_same); (case hv_ => exact Nat.le_of_ble_eq_true rfl)))
local macro_rules | `(tactic| walk_at "use") => `(tactic| with_reducible first | refine g_dgetT ?_ | refine g_dputT ?_)
local macro_rules | `(tactic| walk_at "use") => `(tactic| first | ((with_reducible refine' dg_R_queue ?ho_ ?hv_ ?_); (case ho_ => first | assumption | exact upd_same); (case hv_ => exact rfl)) | ((with_reducible refine' dg_R_finished ?ho_ ?hv_ ?_); (case ho_ => first | assumption | exact upd_same); (case hv_ => exact rfl)) | ((with_reducible refine' dg_R_reset ?ho_ ?hv_ ?_); (case ho_ => first | assumption | exact upd_same); (case hv_ => exact rfl)) | ((with_reducible refine' dn_R_queue ?ho_ ?hv_ ?_); (case ho_ => first | assumption | exact upd_same); (case hv_ => exact rfl)) | ((with_reducible refine' dn_R_finished ?ho_ ?hv_ ?_); (case ho_ => first | assumption | exact upd_same); (case hv_ => exact rfl)) | ((with_reducible refine' dn_R_reset ?ho_ ?hv_ ?_); (case ho_ => first | assumption | exact upd_same); (case hv_ => exact rfl)) | ((with_reducible refine' dp_R_queue ?ho_ ?hv_ ?_); (case ho_ => first | assumption | exact upd_same); (case hv_ => exact Nat.le_of_ble_eq_true rfl)) | ((with_reducible refine' dp_R_finished ?ho_ ?hv_ ?_); (case ho_ => first | assumption | exact upd_same); (case hv_ => exact Nat.le_of_ble_eq_true rfl)) | ((with_reducible refine' dp_R_reset ?ho_ ?hv_ ?_); (case ho_ => first | assumption | exact upd_same); (case hv_ => exact Nat.le_of_ble_eq_true rfl)))
local macro_rules | `(tactic| walk_at "use") => `(tactic| with_reducible first | refine g_dgetT ?_ | refine g_dputT ?_)
/-! ### a sorted list of texts is one only -/
theorem rising_pw {f : Str → Nat} {ks : List Str} (hk : ∀ a ∈ ks, ∀ b ∈ ks, ltCps b.cps.toList a.cps.toList = false → f a ≤ f b) : ∀ {l : List Str} {p : Str}, p ∈ ks → (∀ x ∈ l, x ∈ ks) → PyProof.Rows.risingS p l = true → (List.map f (p :: l)).Pairwise (· ≤ ·)
  | [], _, _, _, _ => List.pairwise_singleton _ _
  | x :: r, p, hp, hl, h => by
    have h : (!ltCps x.cps.toList p.cps.toList && PyProof.Rows.risingS x r) = true := h
    rw [Bool.and_eq_true] at h
    have hx := hl x (List.mem_cons_self ..)
    have h1 := hk p hp x hx (by
      have := h.1
      cases e : ltCps x.cps.toList p.cps.toList with
      | false => rfl
      | true => rw [e] at this; cases this)
    have h2 := rising_pw hk hx (fun y hy => hl y (List.mem_cons_of_mem _ hy)) h.2
    refine List.pairwise_cons.mpr ⟨fun y hy => ?_, h2⟩
    rcases List.mem_cons.mp hy with z | z
    · rw [z]; exact h1
    · exact Nat.le_trans h1 ((List.pairwise_cons.mp h2).1 y z)
theorem map_inj_mem {α β : Type} {f : α → β} : ∀ {xs ys : List α}, (∀ a ∈ xs, ∀ b ∈ ys, f a = f b → a = b) → xs.map f = ys.map f → xs = ys
  | [], [], _, _ => rfl
  | [], _ :: _, _, e => by cases e
  | _ :: _, [], _, e => by cases e
  | x :: xs, y :: ys, h, e => by
    have e1 : f x = f y := by injection e
    have e2 : xs.map f = ys.map f := by injection e
    rw [h x (List.mem_cons_self ..) y (List.mem_cons_self ..) e1, map_inj_mem (fun a ha b hb => h a (List.mem_cons_of_mem _ ha) b (List.mem_cons_of_mem _ hb)) e2]
theorem sorted_one {f : Str → Nat} {ks ys zs : List Str} (hk : ∀ a ∈ ks, ∀ b ∈ ks, ltCps b.cps.toList a.cps.toList = false → f a ≤ f b) (hi : ∀ a ∈ ks, ∀ b ∈ ks, f a = f b → a = b) (hz : PyProof.Rows.sortedS ks = true) (hp0 : zs.Perm ks) (hp : ys.Perm zs) (hs : PyProof.Rows.sortedS ys = true) : ys = ks := by
  have hp := hp.trans hp0
  have hm : ∀ a ∈ ys, a ∈ ks := fun a ha => hp.mem_iff.mp ha
  have pw : ∀ l : List Str, (∀ a ∈ l, a ∈ ks) → PyProof.Rows.sortedS l = true → (l.map f).Pairwise (· ≤ ·) := fun l hl h => by
    cases l with
    | nil => exact List.Pairwise.nil
    | cons x r => exact rising_pw hk (hl x (List.mem_cons_self ..)) (fun y hy => hl y (List.mem_cons_of_mem _ hy)) h
  refine map_inj_mem (fun a ha b hb => hi a (hm a ha) b hb) (List.Perm.eq_of_pairwise (le := (· ≤ ·)) (fun _ _ _ _ a b => Nat.le_antisymm a b) (pw ys hm hs) (pw ks (fun a h => h) hz) (hp.map f))

def sp_l_cell (K : PySem.W.Frag) : Sp := fun vs H Q _ => ∃ (a : Addr) (ns : List Int) (k : Int), vs = [.ref a, .int k] ∧ SqL K H a (ns.map V.int) ∧ 0 ≤ k ∧ Q (.int (cell ns k)) H
theorem u_cell {a : Addr} {ns : List Int} {k : Int} {H Q E} (h : SqL K H a (ns.map V.int)) (h0 : 0 ≤ k) (q : Q (.int (cell ns k)) H) : sp_l_cell K ([.ref a, .int k] ++ []) H Q E := ⟨a, ns, k, rfl, h, h0, q⟩
theorem ok_l_cell (T : Txt P K mg) : FnOk P w K mg base CX0 1 T.f_l_cell T.d_l_cell ["script", "k"] (sp_l_cell K) := by
  refine T.F_l_cell.ok sc_l_cell (fun vs H Q E h => ?_) (fun cdv A outer s H vs Q E hr h => ?_)
  · obtain ⟨a, ns, k, rfl, hS, h0, q⟩ := h
    rfl
  · obtain ⟨a, ns, k, rfl, hS, h0, q⟩ := h
    have hu := hu_of hr
    refine ⟨_, (pss_cons (ps_if (pt_cmpR op_lt (pv 1) (pe_callB call_len_seq (by rfl) T.n_len (by decide +kernel) (pa_cons (pv 0) pa_nil)) (nomark _)) (pss_one (ps_ret (pe_ix ix_list (pv 0) (pv 1) (fun _ _ => rfl)))) pss_nil)
        (pss_one (ps_ret pe_int))), ?_⟩
    dsimp only [cxOf, Cx.nox, Cx.wish, L2.start, List.map, List.cons_append, List.nil_append, List.length_cons, List.length_nil, Nat.reduceAdd, Nat.reduceSub, Nat.zero_add, List.replicate_succ, List.replicate_zero]
    walk_at "go"
    refine g_len (.inl hS) ?_
    walk_at "go"
    rw [List.length_map]
    refine g_ite (fun h => ?_) (fun h => ?_)
    · walk_at "go"
      refine g_ixL hS (atI_map h0 h) ?_
      exact q
    · walk_at "go"
      rw [cell_out h] at q
      exact q
local macro_rules | `(tactic| walk_at "use") => `(tactic| with_reducible refine u_cell (by assumption) (by decide) ?_)

def sp_l_is_integer (K : PySem.W.Frag) : Sp := fun vs H Q _ => ∃ (n : Int), vs = [.int n] ∧ Q (.bl true) H
theorem u_isint {n : Int} {H Q E} (q : Q (.bl true) H) : sp_l_is_integer K ([.int n] ++ []) H Q E := ⟨n, rfl, q⟩
theorem ok_l_is_integer (T : Txt P K mg) : FnOk P w K mg base CX0 1 T.f_l_is_integer T.d_l_is_integer ["told"] (sp_l_is_integer K) := by
  refine T.F_l_is_integer.ok sc_l_is_integer (fun vs H Q E h => ?_) (fun cdv A outer s H vs Q E hr h => ?_)
  · obtain ⟨n, rfl, q⟩ := h
    rfl
  · obtain ⟨n, rfl, q⟩ := h
    have hu := hu_of hr
    refine ⟨_, (pss_one (ps_ret (pe_and (pe_callB call_isi (by rfl) T.n_isinstance (by decide +kernel) (pa_cons (pv 0) (pa_cons (pe_bltn (v := .ty "int") (by rfl) T.n_int (by decide +kernel) rfl) pa_nil))) (pe_one (pe_not (pe_callB call_isi (by rfl) T.n_isinstance (by decide +kernel) (pa_cons (pv 0) (pa_cons (pe_bltn (v := .ty "bool") (by rfl) T.n_bool (by decide +kernel) rfl) pa_nil)))))))), ?_⟩
    dsimp only [cxOf, Cx.nox, Cx.wish, L2.start, List.map, List.cons_append, List.nil_append, List.length_cons, List.length_nil, Nat.reduceAdd, Nat.reduceSub, Nat.zero_add, List.replicate_succ, List.replicate_zero]
    walk_at "go"
    exact q
local macro_rules | `(tactic| walk_at "use") => `(tactic| with_reducible refine u_isint ?_)

def sp_l_start (K : PySem.W.Frag) : Sp := fun vs H Q _ => ∃ c k : Int, vs = [.int c, .int k] ∧ ∀ p n, H p = none → Q (.ref p) (upd H p (.lst [.int n]))
theorem u_start {c k : Int} {H Q E} (q : ∀ p n, H p = none → Q (.ref p) (upd H p (.lst [.int n]))) : sp_l_start K ([.int c, .int k] ++ []) H Q E := ⟨c, k, rfl, q⟩
theorem one_ok : 1 ≤ sizeLine := by decide
theorem abs_mod {a : Int} : (a % 618970019642690137449562111).natAbs < 2 ^ 89 := by omega
theorem ok_l_start (T : Txt P K mg) : FnOk P w K mg base CX0 1 T.f_l_start T.d_l_start ["cell", "k"] (sp_l_start K) := by
  refine T.F_l_start.ok sc_l_start (fun vs H Q E h => ?_) (fun cdv A outer s H vs Q E hr h => ?_)
  · obtain ⟨c, k, rfl, q⟩ := h
    rfl
  · obtain ⟨c, k, rfl, q⟩ := h
    have hu := hu_of hr
    refine ⟨_, (pss_cons (ps_set (i := 2) sc_l_start.nd rfl (Or.inl rfl) pe_int)
        (pss_cons (ps_if (pt_chain op_lt op_lt (pe_un un_neg pe_int) (pv 0) pe_int) (pss_cons (ps_set (i := 3) sc_l_start.nd rfl (Or.inl rfl) (pe_op op_mod (pe_callTy call_int1 (by rfl) T.n_int (by decide +kernel) (pa_cons (pe_op op_add (pe_op op_mul (pv 0) pe_int) (pe_op op_mul (pe_op op_add (pv 1) pe_int) pe_int)) pa_nil)) (pv 2)))
        (pss_one (ps_ret (pe_lst (pa_cons (pe_op op_mod (pe_callTy call_int1 (by rfl) T.n_int (by decide +kernel) (pa_cons (pe_op op_add (pe_op op_add (pe_op op_mulW (pv 3) (pv 3)) (pe_op op_mul pe_int (pv 3))) (pv 1)) pa_nil)) (pv 2)) pa_nil))))) pss_nil)
        (pss_one (ps_ret (pe_lst (pa_cons (pv 0) pa_nil)))))), ?_⟩
    dsimp only [cxOf, Cx.nox, Cx.wish, L2.start, List.map, List.cons_append, List.nil_append, List.length_cons, List.length_nil, Nat.reduceAdd, Nat.reduceSub, Nat.zero_add, List.replicate_succ, List.replicate_zero]
    walk_at "go"
    refine g_ite (fun c1 => ?_) (fun c1 => ?_)
    · walk_at "go"
      refine g_ite (fun c2 => ?_) (fun c2 => ?_)
      · walk_at "go"
        refine g_rI (wide_mul abs_mod abs_mod (by decide) (by decide) (by decide)) ?_
        walk_at "go"
        exact ⟨one_ok, fun p hp => q p _ hp⟩
      · walk_at "go"
        exact ⟨one_ok, fun p hp => q p _ hp⟩
    · walk_at "go"
      exact ⟨one_ok, fun p hp => q p _ hp⟩
theorem lt8000 {m : Int} (h : m < 18446744073709551616) : m < 2 ^ 8000 := Int.lt_trans h (by decide +kernel)
def sp_l_digit (K : PySem.W.Frag) : Sp := fun vs H Q _ => ∃ (p : Addr) (n m : Int), vs = [.ref p, .int m] ∧ H p = some (.lst [.int n]) ∧ 0 < m ∧ m < 18446744073709551616 ∧ Q (.int (n % m)) (upd H p (.lst [.int (n / m)]))
theorem u_digit {p : Addr} {n m : Int} {H Q E} (h : H p = some (.lst [.int n])) (h0 : 0 < m) (h1 : m < 18446744073709551616) (q : Q (.int (n % m)) (upd H p (.lst [.int (n / m)]))) : sp_l_digit K ([.ref p, .int m] ++ []) H Q E := ⟨p, n, m, rfl, h, h0, h1, q⟩
theorem ok_l_digit (T : Txt P K mg) : FnOk P w K mg base CX0 1 T.f_l_digit T.d_l_digit ["state", "many"] (sp_l_digit K) := by
  refine T.F_l_digit.ok sc_l_digit (fun vs H Q E h => ?_) (fun cdv A outer s H vs Q E hr h => ?_)
  · obtain ⟨p, n, m, rfl, hp, h0, h1, q⟩ := h
    rfl
  · obtain ⟨p, n, m, rfl, hp, h0, h1, q⟩ := h
    have hu := hu_of hr
    refine ⟨_, (pss_cons (ps_set (i := 2) sc_l_digit.nd rfl (Or.inl rfl) (pe_op op_mod (pe_callTy call_int1 (by rfl) T.n_int (by decide +kernel) (pa_cons (pe_ix ix_list (pv 0) pe_int (fun _ _ => rfl)) pa_nil)) (pv 1)))
        (pss_cons (ps_asg (pe_op op_fdivW (pe_ix ix_list (pv 0) pe_int (fun _ _ => rfl)) (pv 1)) (pg_sub (pv 0) pe_int set_list))
        (pss_one (ps_ret (pv 2))))), ?_⟩
    dsimp only [cxOf, Cx.nox, Cx.wish, L2.start, List.map, List.cons_append, List.nil_append, List.length_cons, List.length_nil, Nat.reduceAdd, Nat.reduceSub, Nat.zero_add, List.replicate_succ, List.replicate_zero]
    walk_at "go"
    refine g_ixL (sl hp) (at_of (j := 0) rfl rfl) ?_
    walk_at "go"
    refine g_ixL (sl hp) (at_of (j := 0) rfl rfl) ?_
    walk_at "go"
    refine g_rI (cdivW h0 (lt8000 h1)) ?_
    walk_at "go"
    refine g_setL (j := 0) hp rfl ?_
    walk_at "go"
    exact q

/-- [_law_digit(state, m) for j in range(cnt)] -/
theorem lc_digs {σ : St} {H1 : Hp} {p : Addr} {n m : Int} {cnt is j : Nat} {D : Addr} {Qd : Hp → Prop} (hD : H1 D = none) (hp : H1 p = some (.lst [.int n])) (h0 : 0 < m) (h1 : m < 18446744073709551616) (hc : cnt ≤ 100000)
    (hσ : ∀ x, ((wipe σ [j]).set j (some x))[is]? = some (some (.ref p)))
    (q : ∀ (H' : Hp) (us : List Int) (n' : Int), But p H1 H' → H' D = some (.lst (us.map V.int)) → H' p = some (.lst [.int n']) → us.length = cnt → (∀ u ∈ us, 0 ≤ u ∧ u < m) → Qd H') :
    ∃ W : Nat → Nat → Hp → Prop, (∃ m, W 0 m (upd H1 D (.lst []))) ∧ ∀ i m0 H, W i m0 H →
      ((Itr 0 cnt).stop i H ∧ Qd H) ∨ ((Itr 0 cnt).go i H ∧ ∃ Nx : Hp → Prop, (∀ H', Nx H' → ∃ m', m' < m0 ∧ W (i + 1) m' H') ∧ ∀ x H', (Itr 0 cnt).yld i H x H' → gName j x (wipe σ [j]) H' fun σ2 H2 => wipe σ2 [j] = wipe σ [j] ∧ tYes σ2 H2 fun b H3 =>
        if b = true then tCall (sp_l_digit K) [] E0 (tCons (tVar is) (tCons (tC (.int m)) tNil)) σ2 H3 fun y H4 => ∃ acc, H4 D = some (.lst acc) ∧ acc.length < sizeLine ∧ Nx (upd H4 D (.lst (acc ++ [y]))) else Nx H3) := by
  have nDp : p ≠ D := ne_of_none hp hD
  refine lc_it walk_range (fun i H => But p H1 H ∧ ∃ (us : List Int) (n' : Int), H D = some (.lst (us.map V.int)) ∧ H p = some (.lst [.int n']) ∧ us.length = i ∧ (∀ u ∈ us, 0 ≤ u ∧ u < m)) ?_ (fun _ _ _ _ => trivial) ?_ ?_
  · refine ⟨But.of (same_upd hD), [], n, upd_same, (same_upd hD) _ _ hp, rfl, fun u z => nomatch z⟩
  · rintro i x H H' hi ⟨bt, us, n', hu, hn, hl, hb⟩ ⟨rfl, rfl⟩
    refine ⟨?_, ?_⟩
    · show ((σ.set j none).set j (some _)).set j none = σ.set j none
      rw [List.set_set, List.set_set]
    refine g_yes ?_
    refine iteT ?_
    refine g_call ?_
    refine g_cons ?_
    refine g_var (hσ _) ?_
    refine g_cons ?_
    refine g_c ?_
    refine g_nil ?_
    refine u_digit hn h0 h1 ?_
    refine ⟨us.map V.int, ?_, ?_, ?_⟩
    · rw [upd_ne (Ne.symm nDp)]
      exact hu
    · rw [List.length_map]
      exact szl (by omega)
    · refine ⟨?_, us ++ [n' % m], n' / m, ?_, ?_, ?_, ?_⟩
      · intro b o nb e
        by_cases z : b = D
        · rw [z, hD] at e; cases e
        · rw [upd_ne z, upd_ne nb]
          exact bt b o nb e
      · rw [upd_same, List.map_append]
        rfl
      · rw [upd_ne nDp, upd_same]
      · rw [List.length_append, hl]
        rfl
      · intro u hu
        rcases List.mem_append.mp hu with z | z
        · exact hb u z
        · rw [List.mem_singleton.mp z]
          exact ⟨Int.emod_nonneg _ (by omega), Int.emod_lt_of_pos _ h0⟩
  · rintro H ⟨bt, us, n', hu, hn, hl, hb⟩
    exact q H us n' bt hu hn hl hb

/-! ### the law's rows beside the side (k50) -/
structure Ra where
  a : Addr
  q : Addr
  b : V
def RwO (H : Hp) (r : Ra) (c : Ch) : Prop := H r.a = some (.dK (dk kd_R [.ref r.q, .bl c.fin, r.b])) ∧ H r.q = some (.lst (c.q.map V.int)) ∧ BrO H r.b c.br
def rowsK (t : Int) (r : Nat → Ra) (n : Nat) : List (Key × V) := (List.range n).map fun i => (Sum.inl (nb t i), V.ref (r i).a)
theorem rowsK_len {t : Int} {r : Nat → Ra} {n : Nat} : (rowsK t r n).length = n := by unfold rowsK; rw [List.length_map, List.length_range]
theorem rowsK_keys {t : Int} {r : Nat → Ra} {n : Nat} : (rowsK t r n).map (·.1) = (nbs t n).map Sum.inl := by
  unfold rowsK nbs
  rw [List.map_map, List.map_map]
  rfl
theorem rowsK_at {t : Int} {r : Nat → Ra} {n i : Nat} {k : Key} {v : V} (h : (rowsK t r n)[i]? = some (k, v)) : i < n ∧ k = .inl (nb t i) ∧ v = .ref (r i).a := by
  unfold rowsK at h
  rw [List.getElem?_map] at h
  obtain ⟨j, e1, e2⟩ := Option.map_eq_some_iff.mp h
  obtain ⟨hi, e3⟩ := List.getElem?_eq_some_iff.mp e1
  rw [List.getElem_range] at e3
  subst e3
  cases e2
  exact ⟨by simpa using hi, rfl, rfl⟩
theorem rowsK_cong {t : Int} {r r' : Nat → Ra} {n : Nat} (h : ∀ i, i < n → (r' i).a = (r i).a) : rowsK t r' n = rowsK t r n := by
  unfold rowsK
  exact List.map_congr_left fun i hi => by rw [h i (List.mem_range.mp hi)]
theorem rowsK_succ {t : Int} {r : Nat → Ra} {n : Nat} : putK (rowsK t r n) (.inl (nb t n)) (.ref (r n).a) = rowsK t r (n + 1) := by
  have e : ((rowsK t r n).any fun kv => decide (kv.1 = .inl (nb t n))) = false := by
    rw [List.any_eq_false]
    intro p hp
    unfold rowsK at hp
    obtain ⟨i, hi, rfl⟩ := List.mem_map.mp hp
    have := List.mem_range.mp hi
    intro z
    have z := Sum.inl.inj (of_decide_eq_true z)
    unfold nb at z
    omega
  unfold putK
  rw [e, if_neg (by decide)]
  unfold rowsK
  rw [List.range_succ, List.map_append]
  rfl
theorem pos_succ {t k : Int} {n : Nat} : pos t (n + 1) k = if k = nb t n then some n else pos t n k := by
  by_cases z : k = nb t n
  · rw [if_pos z, pos_some.mpr ⟨Nat.lt_succ_self _, z⟩]
  · rw [if_neg z]
    cases e : pos t n k with
    | some j =>
      obtain ⟨j1, j2⟩ := pos_some.mp e
      exact pos_some.mpr ⟨Nat.lt_succ_of_lt j1, j2⟩
    | none =>
      cases e2 : pos t (n + 1) k with
      | none => rfl
      | some j =>
        obtain ⟨j1, j2⟩ := pos_some.mp e2
        by_cases z3 : j = n
        · exact absurd (z3 ▸ j2) z
        · rw [pos_some.mpr ⟨by omega, j2⟩] at e; cases e
theorem rowsK_get {t k : Int} {r : Nat → Ra} : ∀ {n : Nat}, valV (rowsK t r n) (.inl k) = (pos t n k).map fun i => V.ref (r i).a
  | 0 => by rw [pos0]; rfl
  | n + 1 => by
    rw [← rowsK_succ, valV_put, rowsK_get, pos_succ]
    by_cases z : k = nb t n
    · rw [if_pos z, if_pos (by rw [z])]
      rfl
    · rw [if_neg z, if_neg fun w => z (Sum.inl.inj w)]
/-- the ghost, without places that are not there -/
noncomputable def nrm (own : Addr → Option Nat) (H : Hp) : Addr → Option Nat := fun b => if H b = none then none else own b
theorem nrm_of {own : Addr → Option Nat} {H : Hp} {b : Addr} (h : H b ≠ none) : nrm own H b = own b := if_neg h
theorem SdO.mem {CS CC : Addr} {own : Addr → Option Nat} {H : Hp} {S : Sa} {x : Nat → Ca} {w m t : Int} {cs : List Ch} (O : SdO CS CC own H S x w m t cs) : H S.p ≠ none ∧ H S.cd ≠ none ∧ H S.nl ≠ none ∧ H S.tl ≠ none ∧ H S.ol ≠ none := by
  obtain ⟨kvs, e, _⟩ := id O.hd
  exact ⟨by rw [O.ho]; exact nofun, by rw [e]; exact nofun, by rw [O.hn]; exact nofun, by rw [O.ht]; exact nofun, by rw [O.hl]; exact nofun⟩
theorem SdO.nrm {CS CC : Addr} {own : Addr → Option Nat} {H : Hp} {S : Sa} {x : Nat → Ca} {w m t : Int} {cs : List Ch} (O : SdO CS CC own H S x w m t cs) : SdO CS CC (My.nrm own H) H S x w m t cs := by
  obtain ⟨m1, m2, m3, m4, m5⟩ := O.mem
  refine ⟨O.ho, O.hd, O.hn, O.ht, O.hl, O.hc, fun i hi => ?_, (nrm_of m1).trans O.op, (nrm_of m2).trans O.od, (nrm_of m3).trans O.on, (nrm_of m4).trans O.ot, (nrm_of m5).trans O.ol, O.n1, O.n2, O.hw, O.hm, O.h1, O.h2, O.hq⟩
  obtain ⟨o1, o2, o3⟩ := O.oc i hi
  obtain ⟨a1, a2, a3⟩ := (O.hc i _ (List.getElem?_eq_getElem hi)).mem
  exact ⟨(nrm_of a1).trans o1, (nrm_of a2).trans o2, (nrm_of a3).trans o3⟩
/-- what the side owns stays, and so do tuples -/
theorem SdO.keep {CS CC : Addr} {own : Addr → Option Nat} {H H' : Hp} {S : Sa} {x : Nat → Ca} {w m t : Int} {cs : List Ch} (O : SdO CS CC own H S x w m t cs) (s : ∀ b o, own b ≠ none ∨ (∃ k, o = HO.tup k) → H b = some o → H' b = some o) : SdO CS CC own H' S x w m t cs := by
  have n0 : ∀ {b : Addr} {k : Nat}, own b = some k → own b ≠ none := fun e => by rw [e]; exact nofun
  refine ⟨s _ _ (.inl (n0 O.op)) O.ho, O.hd.at fun o e => s _ _ (.inl (n0 O.od)) e, s _ _ (.inl (n0 O.on)) O.hn, s _ _ (.inl (n0 O.ot)) O.ht, s _ _ (.inl (n0 O.ol)) O.hl, fun i c e => ?_, O.oc, O.op, O.od, O.on, O.ot, O.ol, O.n1, O.n2, O.hw, O.hm, O.h1, O.h2, O.hq⟩
  obtain ⟨o1, o2, o3⟩ := O.oc i (ls_i e)
  refine (O.hc i c e).keep fun b o h e => s b o ?_ e
  rcases h with h | h | h | h
  · exact .inl (by rw [h]; exact n0 o1)
  · exact .inl (by rw [h]; exact n0 o2)
  · exact .inl (by rw [h]; exact n0 o3)
  · exact .inr h
structure RnO (CS CC : Addr) (H0 : Hp) (own : Addr → Option Nat) (H : Hp) (S : Sa) (x : Nat → Ca) (w m t : Int) (cs : List Ch) (d : Addr) (r : Nat → Ra) (rs : List Ch) : Prop where
  sd : SdO CS CC own H S x w m t cs
  nz : ∀ b, H b = none → own b = none
  sm : Same H0 H
  fr : ∀ b, own b ≠ none → H0 b = none
  hd : H d = some (.dK (rowsK t r rs.length))
  od : own d = none
  d0 : H0 d = none
  hr : ∀ i c, rs[i]? = some c → RwO H (r i) c
  hw : ∀ i, i < rs.length → own (r i).a = none ∧ own (r i).q = none ∧ H0 (r i).a = none ∧ H0 (r i).q = none ∧ ∀ tt, (r i).b = .ref tt → own tt = none
  ja : ∀ i j, i < rs.length → j < rs.length → (r i).a = (r j).a → i = j
  jq : ∀ i j, i < rs.length → j < rs.length → (r i).q = (r j).q → i = j
theorem some_none {α : Type} {o : Option α} {x : α} (h : o = some x) : o ≠ none := by rw [h]; exact nofun
theorem free_of {H H' : Hp} (k : ∀ b o, H b = some o → H' b ≠ none) {b : Addr} (h : H' b = none) : H b = none := by
  cases e : H b with
  | none => rfl
  | some o => exact absurd h (k b o e)
theorem RnO.same {CS CC : Addr} {H0 : Hp} {own : Addr → Option Nat} {H H' : Hp} {S : Sa} {x : Nat → Ca} {w m t : Int} {cs : List Ch} {d : Addr} {r : Nat → Ra} {rs : List Ch} (R : RnO CS CC H0 own H S x w m t cs d r rs) (s : Same H H') : RnO CS CC H0 own H' S x w m t cs d r rs :=
  ⟨R.sd.same s, fun b h => R.nz b (free_of (fun b o e => some_none (s b o e)) h), R.sm.trans s, R.fr, s _ _ R.hd, R.od, R.d0, fun i c e => ⟨s _ _ (R.hr i c e).1, s _ _ (R.hr i c e).2.1, (R.hr i c e).2.2.same fun tt o _ e => s tt o e⟩, R.hw, R.ja, R.jq⟩
theorem BrO.mem {H : Hp} {b : V} {br : Option Int} (h : BrO H b br) : ∀ tt, b = .ref tt → H tt ≠ none := fun tt e => by
  cases br with
  | none => rw [show b = .non from h] at e; cases e
  | some k =>
    obtain ⟨t2, e2, e3⟩ := h
    rw [e2] at e
    cases e
    exact some_none e3
/-- the side has done something -/
theorem RnO.side {CS CC : Addr} {H0 : Hp} {own own' : Addr → Option Nat} {H H' : Hp} {S S' : Sa} {x x' : Nat → Ca} {w m t : Int} {cs cs' : List Ch} {d : Addr} {r : Nat → Ra} {rs : List Ch} (R : RnO CS CC H0 own H S x w m t cs d r rs) (O : SdO CS CC own' H' S' x' w m t cs')
    (e : ∀ b, H b ≠ none → own' b = own b) (k : ∀ b o, own b = none → H b = some o → H' b = some o) : RnO CS CC H0 (nrm own' H') H' S' x' w m t cs' d r rs := by
  have nn : ∀ b o, H b = some o → own b = none → nrm own' H' b = none := fun b o h z => by rw [nrm_of (some_none (k b o z h)), e _ (some_none h), z]
  refine ⟨O.nrm, fun b h => if_pos h, fun b o h => ?_, fun b h => ?_, k _ _ R.od R.hd, nn _ _ R.hd R.od, R.d0, fun i c h => ?_, fun i hi => ?_, R.ja, R.jq⟩
  · have z : own b = none := by
      cases z : own b with
      | none => rfl
      | some j => rw [R.fr b (some_none z)] at h; cases h
    exact k _ _ z (R.sm _ _ h)
  · cases z : H b with
    | none =>
      cases z0 : H0 b with
      | none => rfl
      | some o => rw [R.sm _ _ z0] at z; cases z
    | some o =>
      refine R.fr b fun z2 => h (nn _ _ z z2)
  · obtain ⟨h1, h2, h3⟩ := R.hr i c h
    obtain ⟨w1, w2, w3, w4, w5⟩ := R.hw i (ls_i h)
    refine ⟨k _ _ w1 h1, k _ _ w2 h2, ?_⟩
    generalize (r i).b = b at h3 w5
    cases hc : c.br with
    | none => rw [hc] at h3; exact h3
    | some n =>
      rw [hc] at h3
      obtain ⟨tt, e2, e3⟩ := h3
      exact ⟨tt, e2, k _ _ (w5 _ e2) e3⟩
  · obtain ⟨h1, h2, h3⟩ := R.hr i _ (List.getElem?_eq_getElem hi)
    obtain ⟨w1, w2, w3, w4, w5⟩ := R.hw i hi
    refine ⟨nn _ _ h1 w1, nn _ _ h2 w2, w3, w4, fun tt et => ?_⟩
    have := h3.mem tt et
    cases z : H tt with
    | none => exact absurd z this
    | some o => exact nn _ _ z (w5 _ et)
/-- row i has changed -/
theorem RnO.row {CS CC : Addr} {H0 : Hp} {own : Addr → Option Nat} {H H' : Hp} {S : Sa} {x : Nat → Ca} {w m t : Int} {cs : List Ch} {d : Addr} {r : Nat → Ra} {rs : List Ch} {i : Nat} {c c' : Ch} {y : Ra} (R : RnO CS CC H0 own H S x w m t cs d r rs) (hi : rs[i]? = some c) (ya : y.a = (r i).a) (yq : y.q = (r i).q)
    (k : ∀ b o, b ≠ (r i).a → b ≠ (r i).q → H b = some o → H' b = some o) (h' : RwO H' y c') (hb : ∀ tt, y.b = .ref tt → own tt = none) : RnO CS CC H0 own H' S x w m t cs d (fun j => if j = i then y else r j) (rs.set i c') := by
  have hil := ls_i hi
  obtain ⟨h1, h2, h3⟩ := R.hr i c hi
  obtain ⟨w1, w2, w3, w4, w5⟩ := R.hw i hil
  have ex : ∀ j, (if j = i then y else r j).a = (r j).a := fun j => by
    by_cases z : j = i
    · rw [if_pos z, z]; exact ya
    · rw [if_neg z]
  have eq : ∀ j, (if j = i then y else r j).q = (r j).q := fun j => by
    by_cases z : j = i
    · rw [if_pos z, z]; exact yq
    · rw [if_neg z]
  have tk : ∀ b kk, H b = some (.tup kk) → H' b = some (.tup kk) := fun b kk e => k _ _ (ne_of e h1 (fun z => nomatch z)) (ne_of e h2 (fun z => nomatch z)) e
  have dn : d ≠ (r i).a := fun z => by
    have e := R.hd
    rw [z, h1] at e
    injection e with e
    injection e with e
    have := congrArg (List.map (·.1)) e
    rw [rowsK_keys] at this
    obtain ⟨n, hn⟩ : ∃ n, rs.length = n + 1 := ⟨rs.length - 1, by omega⟩
    rw [hn] at this
    have := congrArg List.head? this
    unfold nbs at this
    rw [List.range_succ_eq_map] at this
    cases this
  refine ⟨R.sd.keep fun b o h e => ?_, fun b h => ?_, fun b o e => ?_, R.fr, ?_, R.od, R.d0, fun j c2 e => ?_, fun j hj => ?_, fun a b ha hb => ?_, fun a b ha hb => ?_⟩
  · rcases h with h | ⟨kk, h⟩
    · exact k _ _ (fun z => h (z ▸ w1)) (fun z => h (z ▸ w2)) e
    · rw [h] at e ⊢
      exact tk _ _ e
  · refine R.nz b (free_of (fun b o e => ?_) h)
    by_cases z1 : b = (r i).a
    · rw [z1, ← ya]; exact some_none h'.1
    · by_cases z2 : b = (r i).q
      · rw [z2, ← yq]; exact some_none h'.2.1
      · exact some_none (k _ _ z1 z2 e)
  · exact k _ _ (fun z => by rw [z, w3] at e; cases e) (fun z => by rw [z, w4] at e; cases e) (R.sm _ _ e)
  · rw [List.length_set, rowsK_cong fun j _ => ex j]
    exact k _ _ dn (ne_of R.hd h2 (fun z => nomatch z)) R.hd
  · by_cases z : j = i
    · subst z
      rw [List.getElem?_set_self hil] at e
      rw [if_pos rfl, ← Option.some.inj e]
      exact h'
    · rw [List.getElem?_set_ne (Ne.symm z)] at e
      rw [if_neg z]
      obtain ⟨g1, g2, g3⟩ := R.hr j c2 e
      refine ⟨k _ _ (fun q => z (R.ja _ _ (ls_i e) hil q)) (ne_of g1 h2 (fun z => nomatch z)) g1, k _ _ (ne_of g2 h1 (fun z => nomatch z)) (fun q => z (R.jq _ _ (ls_i e) hil q)) g2, g3.same fun tt o ⟨kk, ek⟩ et => ?_⟩
      rw [ek] at et ⊢
      exact tk _ _ et
  · rw [List.length_set] at hj
    by_cases z : j = i
    · subst z
      rw [if_pos rfl]
      exact ⟨ya ▸ w1, yq ▸ w2, ya ▸ w3, yq ▸ w4, hb⟩
    · rw [if_neg z]
      exact R.hw j hj
  · rw [List.length_set] at ha hb
    rw [ex, ex]
    exact R.ja a b ha hb
  · rw [List.length_set] at ha hb
    rw [eq, eq]
    exact R.jq a b ha hb
/-- a row is new -/
theorem RnO.opn {CS CC : Addr} {H0 : Hp} {own : Addr → Option Nat} {H H1 H' : Hp} {S : Sa} {x : Nat → Ca} {w m t : Int} {cs : List Ch} {d : Addr} {r : Nat → Ra} {rs : List Ch} {y : Ra} (R : RnO CS CC H0 own H S x w m t cs d r rs) (s : Same H H1) (b' : But d H1 H')
    (hd : H' d = some (.dK (rowsK t (fun j => if j = rs.length then y else r j) (rs.length + 1)))) (h' : RwO H' y ⟨[], false, none⟩) (ha : H y.a = none) (hq : H y.q = none) : RnO CS CC H0 own H' S x w m t cs d (fun j => if j = rs.length then y else r j) (rs ++ [⟨[], false, none⟩]) := by
  have k : ∀ b o, b ≠ d → H b = some o → H' b = some o := fun b o n e => b' _ _ n (s _ _ e)
  have elen : (rs ++ [(⟨[], false, none⟩ : Ch)]).length = rs.length + 1 := by rw [List.length_append]; rfl
  have zn : ∀ b, H b = none → H0 b = none := fun b h => free_of (fun b o e => some_none (R.sm b o e)) h
  refine ⟨R.sd.keep fun b o h e => ?_, fun b h => ?_, fun b o e => ?_, R.fr, ?_, R.od, R.d0, fun j c2 e => ?_, fun j hj => ?_, fun a b h1 h2 h3 => ?_, fun a b h1 h2 h3 => ?_⟩
  · rcases h with h | ⟨kk, h⟩
    · exact k _ _ (fun z => h (z ▸ R.od)) e
    · exact k _ _ (fun z => by rw [z, R.hd] at e; rw [h] at e; cases e) e
  · refine R.nz b (free_of (fun b o e => ?_) h)
    by_cases z1 : b = d
    · rw [z1]; exact some_none hd
    · exact some_none (k _ _ z1 e)
  · exact k _ _ (fun z => by rw [z, R.d0] at e; cases e) (R.sm _ _ e)
  · rw [elen]; exact hd
  · by_cases z : j = rs.length
    · subst z
      rw [List.getElem?_append_right (Nat.le_refl _), Nat.sub_self] at e
      rw [if_pos rfl, ← Option.some.inj e]
      exact h'
    · have hj := ls_i e
      rw [elen] at hj
      rw [List.getElem?_append_left (by omega)] at e
      rw [if_neg z]
      obtain ⟨g1, g2, g3⟩ := R.hr j c2 e
      refine ⟨k _ _ (fun q => ?_) g1, k _ _ (ne_of g2 R.hd (fun z => nomatch z)) g2, g3.same fun tt o ⟨kk, ek⟩ et => k _ _ (fun z => by rw [z, R.hd] at et; rw [ek] at et; cases et) et⟩
      have e2 := R.hd
      rw [← q, g1] at e2
      injection e2 with e2
      injection e2 with e2
      have := congrArg (List.map (·.1)) e2
      rw [rowsK_keys] at this
      obtain ⟨n, hn⟩ : ∃ n, rs.length = n + 1 := ⟨rs.length - 1, by omega⟩
      rw [hn] at this
      have := congrArg List.head? this
      unfold nbs at this
      rw [List.range_succ_eq_map] at this
      cases this
  · rw [elen] at hj
    by_cases z : j = rs.length
    · rw [if_pos z]
      refine ⟨R.nz _ ha, R.nz _ hq, zn _ ha, zn _ hq, fun tt et => ?_⟩
      have e3 : y.b = .non := h'.2.2
      rw [e3] at et
      cases et
    · rw [if_neg z]
      exact R.hw j (by omega)
  · rw [elen] at h1 h2
    by_cases z1 : a = rs.length
    · by_cases z2 : b = rs.length
      · rw [z1, z2]
      · rw [if_pos z1, if_neg z2] at h3
        obtain ⟨g1, g2, g3⟩ := R.hr b _ (List.getElem?_eq_getElem (by omega))
        rw [← h3, ha] at g1
        cases g1
    · by_cases z2 : b = rs.length
      · rw [if_neg z1, if_pos z2] at h3
        obtain ⟨g1, g2, g3⟩ := R.hr a _ (List.getElem?_eq_getElem (by omega))
        rw [h3, ha] at g1
        cases g1
      · rw [if_neg z1, if_neg z2] at h3
        exact R.ja a b (by omega) (by omega) h3
  · rw [elen] at h1 h2
    by_cases z1 : a = rs.length
    · by_cases z2 : b = rs.length
      · rw [z1, z2]
      · rw [if_pos z1, if_neg z2] at h3
        obtain ⟨g1, g2, g3⟩ := R.hr b _ (List.getElem?_eq_getElem (by omega))
        rw [← h3, hq] at g2
        cases g2
    · by_cases z2 : b = rs.length
      · rw [if_neg z1, if_pos z2] at h3
        obtain ⟨g1, g2, g3⟩ := R.hr a _ (List.getElem?_eq_getElem (by omega))
        rw [h3, hq] at g2
        cases g2
      · rw [if_neg z1, if_neg z2] at h3
        exact R.jq a b (by omega) (by omega) h3
/-- the run's state -/
def RN (CS CC : Addr) (H0 : Hp) (p d : Addr) (w m t : Int) (H : Hp) : Prop := ∃ own S x cs r, S.p = p ∧ RnO CS CC H0 own H S x w m t cs d r cs
theorem RN.same {CS CC : Addr} {H0 : Hp} {p d : Addr} {w m t : Int} {H H' : Hp} (h : RN CS CC H0 p d w m t H) (s : Same H H') : RN CS CC H0 p d w m t H' := by
  obtain ⟨own, S, x, cs, r, e, R⟩ := h
  exact ⟨own, S, x, cs, r, e, R.same s⟩

def sp_Channels_iter__ (CS CC : Addr) : Nat → Sp := fun n vs H Q _ => ∃ (own : Addr → Option Nat) (S : Sa) (x : Nat → Ca) (w m t : Int) (cs : List Ch), vs = [.ref S.p] ∧ SdO CS CC own H S x w m t cs ∧ ∀ it, H it = none → n ≤ it → Q (.ref it) (upd H it (ItO S.nl it 0))
theorem okN_Channels_iter__ (T : Txt P K mg) : FnN P w K mg base 1 T.f_Channels_iter__ T.d_Channels_iter__ ["self"] (sp_Channels_iter__ T.C_Channels T.C_Channel) := by
  refine fnN_of T.F_Channels_iter__ sc_Channels_iter__ (fun n vs H Q E h => ?_) (fun cdv A outer s H vs Q E hr h => ?_)
  · obtain ⟨own, S, x, w, m, t, cs, rfl, O, q⟩ := h
    rfl
  · obtain ⟨own, S, x, w, m, t, cs, rfl, O, q⟩ := h
    have hu := hu_of hr
    refine ⟨_, (pss_one (ps_ret (pe_callB ItX.call_iterN (by rfl) T.n_iter (by decide +kernel) (pa_cons (pe_fld (pv 0) rfl) pa_nil)))), ?_⟩
    dsimp only [cxOf, Cx.nox, Cx.wish, L2.start, List.map, List.cons_append, List.nil_append, List.length_cons, List.length_nil, Nat.reduceAdd, Nat.reduceSub, Nat.zero_add, List.replicate_succ, List.replicate_zero]
    have ho := O.ho
    walk_at "go"
    exact ⟨S.nl, _, rfl, sl O.hn, q⟩
end
end My
namespace My
open PySem PySem.Spec L2
local macro_rules | `(tactic| walk_at "side") => `(tactic| first | assumption | decide | omega | exact ⟨by decide, by decide⟩ | exact ⟨by decide, by decide, by decide⟩ | decide +kernel | exact cdivW (by decide +kernel) (by decide +kernel) | exact Or.inl ⟨by omega, by omega⟩ | exact Or.inr ⟨by omega, by omega⟩ | (simp only [List.length_map, List.length_cons, List.length_nil, List.length_append]; omega))
local macro_rules | `(tactic| walk_at "fact") => `(tactic| first | assumption | omega | with_reducible rfl)
local macro_rules | `(tactic| walk_at "use") => `(tactic| fail "use")
local macro_rules | `(tactic| walk_at "go1") => `(tactic| with_reducible first | refine g_seq ?_ | refine g_asg ?_ | refine g_ret ?_ | refine g_ifS ?_ | refine g_drop ?_ | refine g_star ?_ | refine g_nx ?_ | refine g_rt ?_ | refine g_bkE ?_ | refine g_ctE ?_ | refine g_next ?_ | refine g_retN ?_ | refine g_brk ?_ | refine g_ct ?_ | refine g_c ?_ | refine g_op ?_ | refine g_un ?_ | refine g_rI0 ?_ | refine g_rU ?_ | refine g_rEqI ?_ | refine g_rNeI ?_ | refine g_isN ?_ | refine g_rIsB ?_ | refine g_rNotB ?_ | refine g_test ?_ | refine g_B ?_ | refine g_bl ?_ | refine g_and ?_ | refine g_or ?_ | refine g_not ?_ | refine g_andV ?_ | refine g_orV ?_ | refine g_notV ?_ | refine g_if ?_ | refine g_chain ?_ | refine g_yes ?_ | refine g_lc ?_ | refine g_revR ?_ | refine g_rng1 ?_ | refine g_iList ?_ | refine g_nil ?_ | refine g_cons ?_ | refine g_tup ?_ | refine g_lst ?_ | refine g_call ?_ | refine g_CB ?_ | refine g_sl ?_ | refine g_noPart ?_ | refine g_part ?_ | refine g_intE ?_ | refine g_ref ?_ | refine g_fld ?_ | refine g_sfld ?_ | refine g_meth ?_ | refine g_make ?_ | refine g_prop ?_  | refine g_ipI ?_ | refine g_int1 ?_ | refine g_int1B ?_ | refine g_one ?_ | refine g_two ?_ | refine g_isiI ?_ | refine g_isiIB ?_ | refine g_isiB ?_ | refine g_BM ?_ | refine g_BM0 ?_ | refine g_sub ?_)
local macro_rules | `(tactic| walk_at "go") => `(tactic| repeat (first | walk_at "go1" | ((with_reducible refine' g_nameE ?sd_ ?_); case sd_ => dsimp only [List.set_cons_succ, List.set_cons_zero]) | ((with_reducible refine' g_var ?sd_ ?_); case sd_ => exact rfl) | ((with_reducible refine' g_aug ?sd_ ?_); case sd_ => exact rfl) | ((with_reducible refine' g_rI ?sd_ ?_); case sd_ => walk_at "side") | ((with_reducible refine' g_dT ?sd_ ?_); case sd_ => walk_at "fact") | ((with_reducible refine' g_dF ?sd_ ?_); case sd_ => walk_at "fact") | ((with_reducible refine' g_nT ?sd_ ?_); case sd_ => walk_at "fact") | ((with_reducible refine' g_nF ?sd_ ?_); case sd_ => walk_at "fact") | (with_reducible refine g_iT rfl ?_) | (with_reducible refine g_iF rfl ?_) | walk_at "use"))
local macro_rules | `(tactic| walk_at "nw") => `(tactic| (generalize zq : upd _ _ _ = Hq; have sq : Same _ Hq := (by rw [← zq]; exact same_upd (by assumption)); have kq := (congrFun zq _).symm.trans upd_same; clear zq))
local macro_rules | `(tactic| walk_at "bt") => `(tactic| (generalize zq : upd _ _ _ = Hq; have bq : But _ _ Hq := (by rw [← zq]; exact But.refl.upd); have kq := (congrFun zq _).symm.trans upd_same; clear zq))
local macro_rules | `(tactic| walk_at "use") => `(tactic| first | ((with_reducible refine' fd_Channel_number ?ho_ ?hv_ ?_); (case ho_ => first | assumption | exact upd_same); (case hv_ => exact rfl)) | ((with_reducible refine' fd_Channel_announced ?ho_ ?hv_ ?_); (case ho_ => first | assumption | exact upd_same); (case hv_ => exact rfl)) | ((with_reducible refine' fd_Channel_queue ?ho_ ?hv_ ?_); (case ho_ => first | assumption | exact upd_same); (case hv_ => exact rfl)) | ((with_reducible refine' fd_Channel_credit ?ho_ ?hv_ ?_); (case ho_ => first | assumption | exact upd_same); (case hv_ => exact rfl)) | ((with_reducible refine' fd_Channel_finished ?ho_ ?hv_ ?_); (case ho_ => first | assumption | exact upd_same); (case hv_ => exact rfl)) | ((with_reducible refine' fd_Channel_end_sent ?ho_ ?hv_ ?_); (case ho_ => first | assumption | exact upd_same); (case hv_ => exact rfl)) | ((with_reducible refine' fd_Channel_unread ?ho_ ?hv_ ?_); (case ho_ => first | assumption | exact upd_same); (case hv_ => exact rfl)) | ((with_reducible refine' fd_Channel_due ?ho_ ?hv_ ?_); (case ho_ => first | assumption | exact upd_same); (case hv_ => exact rfl)) | ((with_reducible refine' fd_Channel_end_came ?ho_ ?hv_ ?_); (case ho_ => first | assumption | exact upd_same); (case hv_ => exact rfl)) | ((with_reducible refine' fd_Channel_broken ?ho_ ?hv_ ?_); (case ho_ => first | assumption | exact upd_same); (case hv_ => exact rfl)) | ((with_reducible refine' fd_Channel_reset_told ?ho_ ?hv_ ?_); (case ho_ => first | assumption | exact upd_same); (case hv_ => exact rfl)) | ((with_reducible refine' nw_Channel_number ?ho_ ?hv_ ?_); (case ho_ => first | assumption | exact upd_same); (case hv_ => exact rfl)) | ((with_reducible refine' nw_Channel_announced ?ho_ ?hv_ ?_); (case ho_ => first | assumption | exact upd_same); (case hv_ => exact rfl)) | ((with_reducible refine' nw_Channel_queue ?ho_ ?hv_ ?_); (case ho_ => first | assumption | exact upd_same); (case hv_ => exact rfl)) | ((with_reducible refine' nw_Channel_credit ?ho_ ?hv_ ?_); (case ho_ => first | assumption | exact upd_same); (case hv_ => exact rfl)) | ((with_reducible refine' nw_Channel_finished ?ho_ ?hv_ ?_); (case ho_ => first | assumption | exact upd_same); (case hv_ => exact rfl)) | ((with_reducible refine' nw_Channel_end_sent ?ho_ ?hv_ ?_); (case ho_ => first | assumption | exact upd_same); (case hv_ => exact rfl)) | ((with_reducible refine' nw_Channel_unread ?ho_ ?hv_ ?_); (case ho_ => first | assumption | exact upd_same); (case hv_ => exact rfl)) | ((with_reducible refine' nw_Channel_due ?ho_ ?hv_ ?_); (case ho_ => first | assumption | exact upd_same); (case hv_ => exact rfl)) | ((with_reducible refine' nw_Channel_end_came ?ho_ ?hv_ ?_); (case ho_ => first | assumption | exact upd_same); (case hv_ => exact rfl)) | ((with_reducible refine' nw_Channel_broken ?ho_ ?hv_ ?_); (case ho_ => first | assumption | exact upd_same); (case hv_ => exact rfl)) | ((with_reducible refine' nw_Channel_reset_told ?ho_ ?hv_ ?_); (case ho_ => first | assumption | exact upd_same); (case hv_ => exact rfl)) | ((with_reducible refine' st_Channel_number ?ho_ ?hv_ ?_); (case ho_ => first | assumption | exact upd_same); (case hv_ => exact Nat.le_of_ble_eq_true rfl)) | ((with_reducible refine' st_Channel_announced ?ho_ ?hv_ ?_); (case ho_ => first | assumption | exact upd_same); (case hv_ => exact Nat.le_of_ble_eq_true rfl)) | ((with_reducible refine' st_Channel_queue ?ho_ ?hv_ ?_); (case ho_ => first | assumption | exact upd_same); (case hv_ => exact Nat.le_of_ble_eq_true rfl)) | ((with_reducible refine' st_Channel_credit ?ho_ ?hv_ ?_); (case ho_ => first | assumption | exact upd_same); (case hv_ => exact Nat.le_of_ble_eq_true rfl)) | ((with_reducible refine' st_Channel_finished ?ho_ ?hv_ ?_); (case ho_ => first | assumption | exact upd_same); (case hv_ => exact Nat.le_of_ble_eq_true rfl)) | ((with_reducible refine' st_Channel_end_sent ?ho_ ?hv_ ?_); (case ho_ => first | assumption | exact upd_same); (case hv_ => exact Nat.le_of_ble_eq_true rfl)) | ((with_reducible refine' st_Channel_unread ?ho_ ?hv_ ?_); (case ho_ => first | assumption | exact upd_same); (case hv_ => exact Nat.le_of_ble_eq_true rfl)) | ((with_reducible refine' st_Channel_due ?ho_ ?hv_ ?_); (case ho_ => first | assumption | exact upd_same); (case hv_ => exact Nat.le_of_ble_eq_true rfl)) | ((with_reducible refine' st_Channel_end_came ?ho_ ?hv_ ?_); (case ho_ => first | assumption | exact upd_same); (case hv_ => exact Nat.le_of_ble_eq_true rfl)) | ((with_reducible refine' st_Channel_broken ?ho_ ?hv_ ?_); (case ho_ => first | assumption | exact upd_same); (case hv_ => exact Nat.le_of_ble_eq_true rfl)) | ((with_reducible refine' st_Channel_reset_told ?ho_ ?hv_ ?_); (case ho_ => first | assumption | exact upd_same); (case hv_ => exact Nat.le_of_ble_eq_true rfl)) | ((with_reducible refine' me_Channel_break_off ?ho_ ?_); (case ho_ => first | assumption | exact upd_same)))
local macro_rules | `(tactic| walk_at "use") => `(tactic| first | ((with_reducible refine' fd_Channels_failure ?ho_ ?hv_ ?_); (case ho_ => first | assumption | exact upd_same); (case hv_ => exact rfl)) | ((with_reducible refine' fd_Channels__window ?ho_ ?hv_ ?_); (case ho_ => first | assumption | exact upd_same); (case hv_ => exact rfl)) | ((with_reducible refine' fd_Channels__most ?ho_ ?hv_ ?_); (case ho_ => first | assumption | exact upd_same); (case hv_ => exact rfl)) | ((with_reducible refine' fd_Channels__next_here ?ho_ ?hv_ ?_); (case ho_ => first | assumption | exact upd_same); (case hv_ => exact rfl)) | ((with_reducible refine' fd_Channels__next_there ?ho_ ?hv_ ?_); (case ho_ => first | assumption | exact upd_same); (case hv_ => exact rfl)) | ((with_reducible refine' fd_Channels__channels ?ho_ ?hv_ ?_); (case ho_ => first | assumption | exact upd_same); (case hv_ => exact rfl)) | ((with_reducible refine' fd_Channels__numbers ?ho_ ?hv_ ?_); (case ho_ => first | assumption | exact upd_same); (case hv_ => exact rfl)) | ((with_reducible refine' fd_Channels__turns ?ho_ ?hv_ ?_); (case ho_ => first | assumption | exact upd_same); (case hv_ => exact rfl)) | ((with_reducible refine' fd_Channels__offered ?ho_ ?hv_ ?_); (case ho_ => first | assumption | exact upd_same); (case hv_ => exact rfl)) | ((with_reducible refine' fd_Channels__going ?ho_ ?hv_ ?_); (case ho_ => first | assumption | exact upd_same); (case hv_ => exact rfl)) | ((with_reducible refine' fd_Channels__coming ?ho_ ?hv_ ?_); (case ho_ => first | assumption | exact upd_same); (case hv_ => exact rfl)) | ((with_reducible refine' nw_Channels_failure ?ho_ ?hv_ ?_); (case ho_ => first | assumption | exact upd_same); (case hv_ => exact rfl)) | ((with_reducible refine' nw_Channels__window ?ho_ ?hv_ ?_); (case ho_ => first | assumption | exact upd_same); (case hv_ => exact rfl)) | ((with_reducible refine' nw_Channels__most ?ho_ ?hv_ ?_); (case ho_ => first | assumption | exact upd_same); (case hv_ => exact rfl)) | ((with_reducible refine' nw_Channels__next_here ?ho_ ?hv_ ?_); (case ho_ => first | assumption | exact upd_same); (case hv_ => exact rfl)) | ((with_reducible refine' nw_Channels__next_there ?ho_ ?hv_ ?_); (case ho_ => first | assumption | exact upd_same); (case hv_ => exact rfl)) | ((with_reducible refine' nw_Channels__channels ?ho_ ?hv_ ?_); (case ho_ => first | assumption | exact upd_same); (case hv_ => exact rfl)) | ((with_reducible refine' nw_Channels__numbers ?ho_ ?hv_ ?_); (case ho_ => first | assumption | exact upd_same); (case hv_ => exact rfl)) | ((with_reducible refine' nw_Channels__turns ?ho_ ?hv_ ?_); (case ho_ => first | assumption | exact upd_same); (case hv_ => exact rfl)) | ((with_reducible refine' nw_Channels__offered ?ho_ ?hv_ ?_); (case ho_ => first | assumption | exact upd_same); (case hv_ => exact rfl)) | ((with_reducible refine' nw_Channels__going ?ho_ ?hv_ ?_); (case ho_ => first | assumption | exact upd_same); (case hv_ => exact rfl)) | ((with_reducible refine' nw_Channels__coming ?ho_ ?hv_ ?_); (case ho_ => first | assumption | exact upd_same); (case hv_ => exact rfl)) | ((with_reducible refine' st_Channels_failure ?ho_ ?hv_ ?_); (case ho_ => first | assumption | exact upd_same); (case hv_ => exact Nat.le_of_ble_eq_true rfl)) | ((with_reducible refine' st_Channels__window ?ho_ ?hv_ ?_); (case ho_ => first | assumption | exact upd_same); (case hv_ => exact Nat.le_of_ble_eq_true rfl)) | ((with_reducible refine' st_Channels__most ?ho_ ?hv_ ?_); (case ho_ => first | assumption | exact upd_same); (case hv_ => exact Nat.le_of_ble_eq_true rfl)) | ((with_reducible refine' st_Channels__next_here ?ho_ ?hv_ ?_); (case ho_ => first | assumption | exact upd_same); (case hv_ => exact Nat.le_of_ble_eq_true rfl)) | ((with_reducible refine' st_Channels__next_there ?ho_ ?hv_ ?_); (case ho_ => first | assumption | exact upd_same); (case hv_ => exact Nat.le_of_ble_eq_true rfl)) | ((with_reducible refine' st_Channels__channels ?ho_ ?hv_ ?_); (case ho_ => first | assumption | exact upd_same); (case hv_ => exact Nat.le_of_ble_eq_true rfl)) | ((with_reducible refine' st_Channels__numbers ?ho_ ?hv_ ?_); (case ho_ => first | assumption | exact upd_same); (case hv_ => exact Nat.le_of_ble_eq_true rfl)) | ((with_reducible refine' st_Channels__turns ?ho_ ?hv_ ?_); (case ho_ => first | assumption | exact upd_same); (case hv_ => exact Nat.le_of_ble_eq_true rfl)) | ((with_reducible refine' st_Channels__offered ?ho_ ?hv_ ?_); (case ho_ => first | assumption | exact upd_same); (case hv_ => exact Nat.le_of_ble_eq_true rfl)) | ((with_reducible refine' st_Channels__going ?ho_ ?hv_ ?_); (case ho_ => first | assumption | exact upd_same); (case hv_ => exact Nat.le_of_ble_eq_true rfl)) | ((with_reducible refine' st_Channels__coming ?ho_ ?hv_ ?_); (case ho_ => first | assumption | exact upd_same); (case hv_ => exact Nat.le_of_ble_eq_true rfl)) | ((with_reducible refine' me_Channels_len__ ?ho_ ?_); (case ho_ => first | assumption | exact upd_same)) | ((with_reducible refine' me_Channels_iter__ ?ho_ ?_); (case ho_ => first | assumption | exact upd_same)) | ((with_reducible refine' me_Channels_open_channel ?ho_ ?_); (case ho_ => first | assumption | exact upd_same)) | ((with_reducible refine' me_Channels_accept ?ho_ ?_); (case ho_ => first | assumption | exact upd_same)) | ((with_reducible refine' me_Channels_write ?ho_ ?_); (case ho_ => first | assumption | exact upd_same)) | ((with_reducible refine' me_Channels_read ?ho_ ?_); (case ho_ => first | assumption | exact upd_same)) | ((with_reducible refine' me_Channels_finish ?ho_ ?_); (case ho_ => first | assumption | exact upd_same)) | ((with_reducible refine' me_Channels_reset ?ho_ ?_); (case ho_ => first | assumption | exact upd_same)) | ((with_reducible refine' me_Channels_status ?ho_ ?_); (case ho_ => first | assumption | exact upd_same)) | ((with_reducible refine' me_Channels_known ?ho_ ?_); (case ho_ => first | assumption | exact upd_same)) | ((with_reducible refine' me_Channels_add ?ho_ ?_); (case ho_ => first | assumption | exact upd_same)) | ((with_reducible refine' me_Channels_room_of ?ho_ ?_); (case ho_ => first | assumption | exact upd_same)))
section
variable {P : Program} {w : World} {K : PySem.W.Frag} {mg : Str → Option Value} {base : Heap}
local macro_rules | `(tactic| walk_at "use") => `(tactic| with_reducible first | refine g_rs0 ?_ | refine g_rs1 ?_ | refine g_tryA ?_ | refine g_tryO ?_ | refine g_callS ?_ | refine g_joined ?_ | refine g_jsnil ?_ | refine g_jscons ?_ | refine g_fmt ?_)
local macro_rules | `(tactic| walk_at "fit") => `(tactic| (refine fit2 ?_; (try simp only [PySem.Str.length_append]); omega))
local macro_rules | `(tactic| walk_at "use") => `(tactic| first | ((with_reducible refine' g_addS ?sd_ ?_); case sd_ => (first | omega | (simp only [PySem.Str.length_append]; omega))) | ((with_reducible refine' g_slS ?sd_ ?_); case sd_ => omega) | (with_reducible refine g_m0 ?_))

local macro_rules | `(tactic| walk_at "use") => `(tactic| with_reducible first | refine g_dgetI ?_ | refine g_dputI ?_ | refine g_dget1I ?_ | refine g_dget2I ?_ | refine g_dinI ?_ | refine g_dnotinI ?_ | refine g_dnewK ?_)

section
variable {K : PySem.W.Frag} {H : Hp} {Q : VK}
end
local macro_rules | `(tactic| walk_at "use") => `(tactic| with_reducible first | refine g_rEqS ?_ | refine g_rNeS ?_ | refine g_isiS ?_)

local macro_rules | `(tactic| walk_at "use") => `(tactic| first | ((with_reducible refine' dg_D_writable ?ho_ ?hv_ ?_); (case ho_ => first | assumption | exact upd_same); (case hv_ => exact rfl)) | ((with_reducible refine' dg_D_waiting ?ho_ ?hv_ ?_); (case ho_ => first | assumption | exact upd_same); (case hv_ => exact rfl)) | ((with_reducible refine' dg_D_readable ?ho_ ?hv_ ?_); (case ho_ => first | assumption | exact upd_same); (case hv_ => exact rfl)) | ((with_reducible refine' dg_D_finished ?ho_ ?hv_ ?_); (case ho_ => first | assumption | exact upd_same); (case hv_ => exact rfl)) | ((with_reducible refine' dg_D_at_end ?ho_ ?hv_ ?_); (case ho_ => first | assumption | exact upd_same); (case hv_ => exact rfl)) | ((with_reducible refine' dg_D_reset ?ho_ ?hv_ ?_); (case ho_ => first | assumption | exact upd_same); (case hv_ => exact rfl)) | ((with_reducible refine' dn_D_writable ?ho_ ?hv_ ?_); (case ho_ => first | assumption | exact upd_same); (case hv_ => exact rfl)) | ((with_reducible refine' dn_D_waiting ?ho_ ?hv_ ?_); (case ho_ => first | assumption | exact upd_same); (case hv_ => exact rfl)) | ((with_reducible refine' dn_D_readable ?ho_ ?hv_ ?_); (case ho_ => first | assumption | exact upd_same); (case hv_ => exact rfl)) | ((with_reducible refine' dn_D_finished ?ho_ ?hv_ ?_); (case ho_ => first | assumption | exact upd_same); (case hv_ => exact rfl)) | ((with_reducible refine' dn_D_at_end ?ho_ ?hv_ ?_); (case ho_ => first | assumption | exact upd_same); (case hv_ => exact rfl)) | ((with_reducible refine' dn_D_reset ?ho_ ?hv_ ?_); (case ho_ => first | assumption | exact upd_same); (case hv_ => exact rfl)) | ((with_reducible refine' dp_D_writable ?ho_ ?hv_ ?_); (case ho_ => first | assumption | exact upd_same); (case hv_ => exact Nat.le_of_ble_eq_true rfl)) | ((with_reducible refine' dp_D_waiting ?ho_ ?hv_ ?_); (case ho_ => first | assumption | exact upd_same); (case hv_ => exact Nat.le_of_ble_eq_true rfl)) | ((with_reducible refine' dp_D_readable ?ho_ ?hv_ ?_); (case ho_ => first | assumption | exact upd_same); (case hv_ => exact Nat.le_of_ble_eq_true rfl)) | ((with_reducible refine' dp_D_finished ?ho_ ?hv_ ?_); (case ho_ => first | assumption | exact upd_same); (case hv_ => exact Nat.le_of_ble_eq_true rfl)) | ((with_reducible refine' dp_D_at_end ?ho_ ?hv_ ?_); (case ho_ => first | assumption | exact upd_same); (case hv_ => exact Nat.le_of_ble_eq_true rfl)) | ((with_reducible refine' dp_D_reset ?ho_ ?hv_ ?_); (case ho_ => first | assumption | exact upd_same); (case hv_ => exact Nat.le_of_ble_eq_true rfl)))
local macro_rules | `(tactic| walk_at "use") => `(tactic| with_reducible first | refine g_dgetT ?_ | refine g_dputT ?_)
local macro_rules | `(tactic| walk_at "use") => `(tactic| first | ((with_reducible refine' dg_R_queue ?ho_ ?hv_ ?_); (case ho_ => first | assumption | exact upd_same); (case hv_ => exact rfl)) | ((with_reducible refine' dg_R_finished ?ho_ ?hv_ ?_); (case ho_ => first | assumption | exact upd_same); (case hv_ => exact rfl)) | ((with_reducible refine' dg_R_reset ?ho_ ?hv_ ?_); (case ho_ => first | assumption | exact upd_same); (case hv_ => exact rfl)) | ((with_reducible refine' dn_R_queue ?ho_ ?hv_ ?_); (case ho_ => first | assumption | exact upd_same); (case hv_ => exact rfl)) | ((with_reducible refine' dn_R_finished ?ho_ ?hv_ ?_); (case ho_ => first | assumption | exact upd_same); (case hv_ => exact rfl)) | ((with_reducible refine' dn_R_reset ?ho_ ?hv_ ?_); (case ho_ => first | assumption | exact upd_same); (case hv_ => exact rfl)) | ((with_reducible refine' dp_R_queue ?ho_ ?hv_ ?_); (case ho_ => first | assumption | exact upd_same); (case hv_ => exact Nat.le_of_ble_eq_true rfl)) | ((with_reducible refine' dp_R_finished ?ho_ ?hv_ ?_); (case ho_ => first | assumption | exact upd_same); (case hv_ => exact Nat.le_of_ble_eq_true rfl)) | ((with_reducible refine' dp_R_reset ?ho_ ?hv_ ?_); (case ho_ => first | assumption | exact upd_same); (case hv_ => exact Nat.le_of_ble_eq_true rfl)))
local macro_rules | `(tactic| walk_at "use") => `(tactic| with_reducible first | refine g_dgetT ?_ | refine g_dputT ?_)
local macro_rules | `(tactic| walk_at "use") => `(tactic| with_reducible first | refine g_disp ?_ | refine g_pcons ?_ | refine g_pnil ?_)
local macro_rules | `(tactic| walk_at "use") => `(tactic| with_reducible refine u_cell (by assumption) (by omega) ?_)

theorem g_gtup {K : PySem.W.Frag} {n : Nat} {t : List V → St → Hp → (St → Hp → Prop) → Prop} {a : Addr} {xs : List V} {σ : St} {H : Hp} {Q : St → Hp → Prop} (h : SqT K H a xs) (l : xs.length = n) (q : t xs σ H Q) : gTup K n t (.ref a) σ H Q := ⟨a, xs, rfl, h, l, q⟩
theorem g_gcons {t : TG} {u : List V → St → Hp → (St → Hp → Prop) → Prop} {v : V} {r : List V} {σ : St} {H : Hp} {Q : St → Hp → Prop} (h : t v σ H fun σ' H' => u r σ' H' Q) : gCons t u (v :: r) σ H Q := ⟨v, r, rfl, h⟩
theorem g_gnil {σ : St} {H : Hp} {Q : St → Hp → Prop} (q : Q σ H) : gNil [] σ H Q := ⟨rfl, q⟩
local macro_rules | `(tactic| walk_at "use") => `(tactic| with_reducible first | refine g_gcons ?_ | refine g_gnil ?_)

local macro_rules | `(tactic| walk_at "use") => `(tactic| with_reducible refine u_isint ?_)
theorem g_eqPr {p q : Addr} {s : Str} {H : Hp} {Q : VK} (hs : SeqAt.shaped (.tuple [.str s, .bool true]) = true) (h1 : H p = some (.tup [.str s, .bl true])) (h2 : H q = some (.tup [.str s, .bl true])) (k : Q (.bl true) H) : rEqD K (.ref p) (.ref q) H Q :=
  ⟨_, _, .tup (st h1) (.cons (.str _) (.cons (.bl _) .nil)), .tup (st h2) (.cons (.str _) (.cons (.bl _) .nil)), hs, hs, by
    rw [show PyData.eqv (.tuple [.str s, .bool true]) (.tuple [.str s, .bool true]) = true by show ((s == s) && ((true == true) && true)) = true; simp]
    exact k⟩
theorem md_R (a b c : V) : mergeK [] (dk kd_R [a, b, c]) = dk kd_R [a, b, c] := by first | rfl | kernel_rfl
def ksD : List Str := ["at_end", "finished", "readable", "reset", "waiting", "writable"]
theorem sorted_D {ys : List Str} (hp : ys.Perm kd_D) (hs : PyProof.Rows.sortedS ys = true) : ys = ksD :=
  sorted_one (f := fun s => ksD.idxOf s) (by decide +kernel) (by decide +kernel) (by decide +kernel) (by decide +kernel) hp hs
theorem dp_strs {H : Hp} : ∀ {ws : List Str}, DpAll K H (ws.map V.str) (ws.map PyData.str)
  | [] => .nil
  | _ :: _ => .cons (.str _) dp_strs
def sp_l_status (K : PySem.W.Frag) : Sp := fun vs H Q _ => ∃ (dd : Addr) (y : Ra) (c : Ch) (w : Int) (b : V), vs = [.ref dd, .ref y.a, .int w] ∧ H dd = some (.dK (dk kd_D [.int (room w c), .int (c.q.length : Int), .int 0, .bl c.fin, .bl false, b])) ∧ BrO H b c.br ∧ RwO H y c ∧ ∀ H', Same H H' → Q (.bl true) H'
theorem ok_l_status (T : Txt P K mg) : FnOk P w K mg base CX0 2 T.f_l_status T.d_l_status ["told", "row", "window"] (sp_l_status K) := by
  refine T.F_l_status.ok sc_l_status (fun vs H Q E h => ?_) (fun cdv A outer s H vs Q E hr h => ?_)
  · obtain ⟨dd, y, c, w, b, rfl, hd, hb, ⟨hy, hq, hyb⟩, q⟩ := h
    rfl
  · obtain ⟨dd, y, c, w, b, rfl, hd, hb, ⟨hy, hq, hyb⟩, q⟩ := h
    have hu := hu_of hr
    refine ⟨_, (pss_cons (ps_if (PW.pt (pw_or (pt_not (pt_val (pe_callB call_isi (by rfl) T.n_isinstance (by decide +kernel) (pa_cons (pv 0) (pa_cons (pe_bltn (v := .ty "dict") (by rfl) T.n_dict (by decide +kernel) rfl) pa_nil))))) (pw_or1 (pt_cmpR (op_neD hr.units) (pe_callB (call_sortedD rfl) (by rfl) T.n_sorted (by decide +kernel) (pa_cons (pv 0) pa_nil)) (pe_lst (pa_cons pe_str (pa_cons pe_str (pa_cons pe_str (pa_cons pe_str (pa_cons pe_str (pa_cons pe_str pa_nil))))))) (nomark _))))) (pss_one (ps_ret pe_bl)) pss_nil)
        (pss_cons (ps_set (i := 3) sc_l_status.nd rfl (Or.inl rfl) (pe_op op_sub (pv 2) (pe_callB call_len_seq (by rfl) T.n_len (by decide +kernel) (pa_cons (pe_dget hu (pv 1) pe_str (fun _ _ => rfl)) pa_nil))))
        (C8.pss_cut (ps_if (PW.pt (pw_or (pt_val (pe_dget hu (pv 1) pe_str (fun _ _ => rfl))) (pw_or1 (pt_cmpR op_notN (pe_dget hu (pv 1) pe_str (fun _ _ => rfl)) pe_non (nomark _))))) (pss_one (ps_set (i := 3) sc_l_status.nd rfl (Or.inl rfl) pe_int)) pss_nil)
        (pss_cons (ps_for PassesOwn.never rfl (pi_list (pe_lst (pa_cons (pe_tup (pa_cons pe_str (pa_cons (pv 3) pa_nil))) (pa_cons (pe_tup (pa_cons pe_str (pa_cons (pe_callB call_len_seq (by rfl) T.n_len (by decide +kernel) (pa_cons (pe_dget hu (pv 1) pe_str (fun _ _ => rfl)) pa_nil)) pa_nil))) (pa_cons (pe_tup (pa_cons pe_str (pa_cons pe_int pa_nil))) pa_nil))))) (pg_tup rfl (pgs_cons (pg_name (i := 4) sc_l_status.nd rfl (Or.inl rfl)) (pgs_cons (pg_name (i := 5) sc_l_status.nd rfl (Or.inl rfl)) pgs_nil))) (pss_one (ps_if (PW.pt (pw_or (pt_not (pt_val (pe_call (ok_l_is_integer T) (hr.mono (by decide)) rfl T.m_l_is_integer T.F_l_is_integer.kp T.b_l_is_integer .nil pass0 (pa_cons (pe_dget hu (pv 0) (pv 4) (fun _ _ => rfl)) pa_nil)))) (pw_or1 (pt_cmpR op_ne (pe_dget hu (pv 0) (pv 4) (fun _ _ => rfl)) (pv 5) (nomark _))))) (pss_one (ps_ret pe_bl)) pss_nil)))
        (pss_cons (ps_if (PW.pt (pw_or (pt_not (pt_val (pe_callB call_isi (by rfl) T.n_isinstance (by decide +kernel) (pa_cons (pe_dget hu (pv 0) pe_str (fun _ _ => rfl)) (pa_cons (pe_bltn (v := .ty "bool") (by rfl) T.n_bool (by decide +kernel) rfl) pa_nil))))) (pw_or (pt_cmpR op_ne (pe_dget hu (pv 0) pe_str (fun _ _ => rfl)) (pe_dget hu (pv 1) pe_str (fun _ _ => rfl)) (nomark _)) (pw_or1 (pt_cmpR op_notBl (pe_dget hu (pv 0) pe_str (fun _ _ => rfl)) pe_bl (nomark _)))))) (pss_one (ps_ret pe_bl)) pss_nil)
        (pss_one (ps_ret (pe_cmpR (op_eqD hr.units) (pe_dget hu (pv 0) pe_str (fun _ _ => rfl)) (pe_dget hu (pv 1) pe_str (fun _ _ => rfl)) (nomark _))))))))), ?_⟩
    dsimp only [cxOf, Cx.nox, Cx.wish, L2.start, List.map, List.cons_append, List.nil_append, List.length_cons, List.length_nil, Nat.reduceAdd, Nat.reduceSub, Nat.zero_add, List.replicate_succ, List.replicate_zero]
    walk_at "go"
    refine g_isi (b := true) (.ty _) (.base (.dK hd)) (kit_ty (by decide +kernel)) ?_
    walk_at "go"
    refine ⟨dd, _, kd_D, rfl, .inl hd, rfl, by decide, fun ys l1 hp hs hf => ?_⟩
    obtain rfl := sorted_D hp hs
    walk_at "nw"
    rename_i H1 s1 k1
    walk_at "go"
    refine ⟨by show 6 ≤ sizeLine; decide, fun l2 h2 => ?_⟩
    walk_at "nw"
    rename_i H2 s2 k2
    have s12 := s1.trans s2
    refine ⟨_, _, .lst (sl (s2 _ _ k1)) dp_strs, .lst (xs := ksD.map V.str) (sl k2) dp_strs, (by decide +kernel), (by decide +kernel), ?_⟩
    rw [show PyData.eqv (.list (ksD.map PyData.str)) (.list (ksD.map PyData.str)) = true by decide +kernel]
    have hd := s12 _ _ hd
    have hy := s12 _ _ hy
    have hq := s12 _ _ hq
    have hb : BrO H2 b c.br := hb.same fun tt o _ e => s12 tt o e
    have hyb : BrO H2 y.b c.br := hyb.same fun tt o _ e => s12 tt o e
    obtain ⟨ya, yq, yb⟩ := y
    dsimp only at hy hq hyb
    walk_at "go"
    refine g_len (.inl (sl hq)) ?_
    rw [List.length_map]
    walk_at "go"
    refine g_cut (fun σ' H' => σ' = [some (.ref dd), some (.ref ya), some (.int w), some (.int (room w c)), none, none] ∧ H' = H2) ?_ ?_
    · unfold room
      obtain ⟨cq, cf, cb⟩ := c
      dsimp only at hy hq hyb hd ⊢
      cases cf
      · cases cb with
        | none =>
          obtain rfl : yb = .non := hyb
          rw [if_neg (by simp)]
          walk_at "go"
          exact ⟨rfl, rfl⟩
        | some k =>
          obtain ⟨tb, rfl, hk⟩ := hyb
          rw [if_pos (by simp)]
          walk_at "go"
          exact ⟨rfl, rfl⟩
      · rw [if_pos (by simp)]
        walk_at "go"
        exact ⟨rfl, rfl⟩
    · rintro σ' H' ⟨rfl, rfl⟩
      walk_at "go"
      refine g_for ?_
      walk_at "go"
      refine ⟨by show 2 ≤ sizeLine; decide, fun t1 ht1 => ?_⟩
      walk_at "nw"
      rename_i H3 s3 kt1
      have hy3 := s3 _ _ hy
      have hq3 := s3 _ _ hq
      walk_at "go"
      refine g_len (.inl (sl hq3)) ?_
      rw [List.length_map]
      walk_at "go"
      refine ⟨by show 2 ≤ sizeLine; decide, fun t2 ht2 => ?_⟩
      walk_at "nw"
      rename_i H4 s4 kt2
      walk_at "go"
      refine ⟨by show 2 ≤ sizeLine; decide, fun t3 ht3 => ?_⟩
      walk_at "nw"
      rename_i H5 s5 kt3
      walk_at "go"
      refine ⟨by show 3 ≤ sizeLine; decide, fun l4 hl4 => ?_⟩
      walk_at "nw"
      rename_i H6 s6 kl4
      have c36 := s3.trans (s4.trans (s5.trans s6))
      have e1 := s6 _ _ (s5 _ _ (s4 _ _ kt1))
      have e2 := s6 _ _ (s5 _ _ kt2)
      have e3 := s6 _ _ kt3
      have hd6 := c36 _ _ hd
      have hy6 := c36 _ _ hy
      have hb6 : BrO H6 b c.br := hb.same fun tt o _ e => c36 tt o e
      have hyb6 : BrO H6 yb c.br := hyb.same fun tt o _ e => c36 tt o e
      walk_at "go"
      refine ⟨⟨_, sl kl4⟩, ?_⟩
      refine for_list (xs := [.ref t1, .ref t2, .ref t3]) (fun i σ H' => H' = H6 ∧ ∃ v4 v5, σ = [some (.ref dd), some (.ref ya), some (.int w), some (.int (room w c)), v4, v5]) ⟨rfl, none, none, rfl⟩ (fun i σ H' _ ⟨e, _⟩ => by rw [e]; exact sl kl4) ?turn ?done
      case turn =>
        rintro i x0 σ H' hx ⟨rfl, v4, v5, rfl⟩
        have hx : ∃ (tt : Addr) (nm : Str) (n : Int), x0 = .ref tt ∧ H' tt = some (.tup [.str nm, .int n]) ∧ DGet H' dd (.str nm) (some (.int n)) := by
          match i, hx with
          | 0, hx => cases hx; exact ⟨t1, _, _, rfl, e1, .inl ⟨_, .inr _, .inl hd6, rfl, by unfold dk; rw [val_map, obj_get ndd_D (i := 0) rfl]; rfl⟩⟩
          | 1, hx => cases hx; exact ⟨t2, _, _, rfl, e2, .inl ⟨_, .inr _, .inl hd6, rfl, by unfold dk; rw [val_map, obj_get ndd_D (i := 1) rfl]; rfl⟩⟩
          | 2, hx => cases hx; exact ⟨t3, _, _, rfl, e3, .inl ⟨_, .inr _, .inl hd6, rfl, by unfold dk; rw [val_map, obj_get ndd_D (i := 2) rfl]; rfl⟩⟩
          | n + 3, hx => cases hx
        obtain ⟨tt, nm, n, rfl, ht, hg⟩ := hx
        refine g_gtup (st ht) rfl ?_
        walk_at "go"
        refine ⟨dd, _, rfl, hg, ?_⟩
        walk_at "go"
        refine ⟨dd, _, rfl, hg, ?_⟩
        walk_at "go"
        exact ⟨rfl, _, _, rfl⟩
      case done =>
        rintro σ H' ⟨rfl, v4, v5, rfl⟩
        walk_at "go"
        refine g_rNe rfl ?_
        rw [decide_eq_true rfl]
        walk_at "go"
        have sq := s2.trans c36
        have fin : Q (.bl true) H' := q _ (s1.trans sq)
        cases hbr : c.br with
        | none =>
          rw [hbr] at hb6 hyb6
          obtain rfl : b = .non := hb6
          obtain rfl : yb = .non := hyb6
          exact ⟨.none, .none, .non, .non, rfl, rfl, fin⟩
        | some k =>
          rw [hbr] at hb6 hyb6
          obtain ⟨u1, rfl, hu1⟩ := hb6
          obtain ⟨u2, rfl, hu2⟩ := hyb6
          have sh : SeqAt.shaped (.tuple [.str "here", .int k]) = true := by
            show (PyData.canLayAll0 [.str "here", .int k] && decide (PyData.depthAll [.str "here", .int k] + 1 ≤ 64)) = true
            first | rfl | kernel_rfl
          refine ⟨_, _, .tup (st hu1) (.cons (.str _) (.cons (.int _) .nil)), .tup (st hu2) (.cons (.str _) (.cons (.int _) .nil)), sh, sh, ?_⟩
          rw [show PyData.eqv (.tuple [.str "here", .int k]) (.tuple [.str "here", .int k]) = true by
            show (("here" == ("here" : Str)) && ((k == k) && true)) = true
            simp]
          exact fin
theorem rowsK_opn {t : Int} {r : Nat → Ra} {n : Nat} {y : Ra} : putK (rowsK t r n) (.inl (nb t n)) (.ref y.a) = rowsK t (fun j => if j = n then y else r j) (n + 1) := by
  rw [← rowsK_succ, rowsK_cong (r := r) (r' := fun j => if j = n then y else r j) fun j hj => by show (if j = n then y else r j).a = _; rw [if_neg (Nat.ne_of_lt hj)]]
  show _ = putK _ _ (V.ref (if n = n then y else r n).a)
  rw [if_pos rfl]
def sp_l_open (K : PySem.W.Frag) (CS CC : Addr) : Sp := fun vs H Q _ => ∃ (H0 : Hp) (p d : Addr) (w m t : Int), vs = [.ref p, .ref d, .int t] ∧ RN CS CC H0 p d w m t H ∧ ∀ H', RN CS CC H0 p d w m t H' → Q (.bl true) H'
theorem ok_l_open (T : Txt P K mg) : FnOk P w K mg base CX0 5 T.f_l_open T.d_l_open ["side", "rows", "turn"] (sp_l_open K T.C_Channels T.C_Channel) := by
  refine T.F_l_open.ok sc_l_open (fun vs H Q E h => ?_) (fun cdv A outer s H vs Q E hr h => ?_)
  · obtain ⟨H0, p, d, w, m, t, rfl, ⟨own, S, x, cs, r, rfl, R⟩, q⟩ := h
    rfl
  · obtain ⟨H0, p, d, w, m, t, rfl, ⟨own, S, x, cs, r, rfl, R⟩, q⟩ := h
    have hu := hu_of hr
    refine ⟨_, (pss_cons (ps_set (i := 3) sc_l_open.nd rfl (Or.inl rfl) (pe_call (ok_l_call T) (hr.mono (by decide)) rfl T.m_l_call T.F_l_call.kp T.b_l_call .nil pass0 (pa_cons (pv 0) (pa_cons pe_str (pa_cons (pe_tup pa_nil) pa_nil)))))
        (pss_cons (ps_if (pt_cmpR op_eq (pe_callB call_lenD (by rfl) T.n_len (by decide +kernel) (pa_cons (pv 1) pa_nil)) pe_int (nomark _)) (pss_one (ps_ret (pe_cmpR (op_eqD hr.units) (pv 3) (pe_tup (pa_cons pe_str (pa_cons pe_bl pa_nil))) (nomark _)))) pss_nil)
        (pss_cons (ps_set (i := 4) sc_l_open.nd rfl (Or.inl rfl) (pe_op op_add (pe_op op_add (pe_op op_mul pe_int (pe_callB call_lenD (by rfl) T.n_len (by decide +kernel) (pa_cons (pv 1) pa_nil))) pe_int) (pv 2)))
        (pss_cons (ps_dput hu (pv 1) (pv 4) (pe_disp (pps_cons pe_str (pe_lst pa_nil) (pps_cons pe_str pe_bl (pps_cons pe_str pe_non pps_nil))) (by rfl) (by rfl) (fun z => by cases z) (by decide)) rfl)
        (pss_one (ps_ret (pe_and (pe_call (ok_l_is_integer T) (hr.mono (by decide)) rfl T.m_l_is_integer T.F_l_is_integer.kp T.b_l_is_integer .nil pass0 (pa_cons (pv 3) pa_nil)) (pe_one (pe_cmpR op_eq (pv 3) (pv 4) (nomark _)))))))))), ?_⟩
    dsimp only [cxOf, Cx.nox, Cx.wish, L2.start, List.map, List.cons_append, List.nil_append, List.length_cons, List.length_nil, Nat.reduceAdd, Nat.reduceSub, Nat.zero_add, List.replicate_succ, List.replicate_zero]
    walk_at "go"
    refine ⟨by show 0 ≤ sizeLine; decide, fun ta hta => ?_⟩
    walk_at "nw"
    rename_i H1 s1 k1
    have R1 := R.same s1
    have hd1 := R1.hd
    refine ⟨own, S, x, w, m, t, cs, ta, "open", rfl, R1.sd, .inl ⟨rfl, ?_⟩⟩
    have h2 := R1.sd.h2
    by_cases hn : cs.length = 100
    · refine .inl ⟨hn, fun pr hpr => ?_⟩
      walk_at "nw"
      rename_i H2 s2 k2
      have R2 := R1.same s2
      walk_at "go"
      refine ⟨d, _, rfl, R2.hd, ?_⟩
      rw [rowsK_len, hn]
      walk_at "go"
      refine ⟨by show 2 ≤ sizeLine; decide, fun pt hpt => ?_⟩
      walk_at "nw"
      rename_i H3 s3 k3
      refine g_eqPr (by decide +kernel) (s3 _ _ k2) k3 ?_
      exact q _ ⟨own, S, x, cs, r, rfl, R2.same s3⟩
    · refine .inr ⟨by omega, fun own' S' x' H2 e1 e2 O2 fr => ?_⟩
      have R2 := R1.side O2 e1 fr
      have hd2 := R2.hd
      walk_at "go"
      refine ⟨d, _, rfl, hd2, ?_⟩
      rw [rowsK_len]
      walk_at "go"
      refine ⟨d, _, rfl, hd2, ?_⟩
      rw [rowsK_len]
      walk_at "go"
      intro e he
      walk_at "nw"
      rename_i H3 s3 k3
      walk_at "go"
      refine ⟨by show 0 ≤ sizeLine; decide, fun l hl => ?_⟩
      walk_at "nw"
      rename_i H4 s4 k4
      have nel : l ≠ e := fun z => by rw [z, k3] at hl; cases hl
      have k3 := s4 _ _ k3
      walk_at "go"
      refine ⟨k3, dk kd_R [.ref l, .bl false, .non], rfl, by show 3 ≤ 15; decide, ?_⟩
      rw [md_R]
      have R4 := R2.same (s3.trans s4)
      walk_at "bt"
      rename_i H5 b5 k5
      have he4 : H2 e = none := he
      have s5 : Same H2 H5 := ((But.of (s3.trans s4)).trans b5).same he
      have k4 := b5 _ _ nel k4
      walk_at "go"
      have hd5 := s5 _ _ hd2
      have ek : (2 * (cs.length : Int) + 1 + t) = nb t cs.length := rfl
      rw [ek]
      refine ⟨d, _, rfl, DPut.k (k := .inl (nb t cs.length)) hd5 (szl (by rw [rowsK_len]; omega)), ?_⟩
      rw [rowsK_opn (y := ⟨e, l, .non⟩)]
      walk_at "bt"
      rename_i H6 b6 k6
      walk_at "go"
      have ned : e ≠ d := fun z => by rw [z, hd2] at he; cases he
      have nld : l ≠ d := fun z => by rw [z, s3 _ _ hd2] at hl; cases hl
      have R6 := R2.opn (y := ⟨e, l, .non⟩) s5 b6 k6 ⟨b6 _ _ ned k5, b6 _ _ nld k4, rfl⟩ he (free_of (fun b o e => some_none (s3 b o e)) hl)
      rw [decide_eq_true rfl]
      exact q _ ⟨_, _, _, _, _, e2, R6⟩
def sp_l_read (K : PySem.W.Frag) (CS CC : Addr) : Sp := fun vs H Q _ => ∃ (H0 : Hp) (p d : Addr) (w m t k n : Int), vs = [.ref p, .ref d, .int k, .int n] ∧ RN CS CC H0 p d w m t H ∧ 0 ≤ k ∧ k ≤ 1000000 ∧ -1000000 ≤ n ∧ n ≤ 1000000 ∧ ∀ H', RN CS CC H0 p d w m t H' → Q (.bl true) H'
theorem pos_none {t k : Int} {n : Nat} : pos t n k = none ∨ ∃ i, pos t n k = some i := by
  cases pos t n k with
  | none => exact .inl rfl
  | some i => exact .inr ⟨i, rfl⟩
theorem RnO.get {CS CC : Addr} {H0 : Hp} {own : Addr → Option Nat} {H : Hp} {S : Sa} {x : Nat → Ca} {w m t : Int} {cs : List Ch} {d : Addr} {r : Nat → Ra} {rs : List Ch} (R : RnO CS CC H0 own H S x w m t cs d r rs) (k : Int) : DGet H d (.int k) ((pos t rs.length k).map fun i => V.ref (r i).a) := by
  have z := DGet.k (k := .inl k) R.hd
  rw [rowsK_get] at z
  exact z
theorem ok_l_read (T : Txt P K mg) : FnOk P w K mg base CX0 5 T.f_l_read T.d_l_read ["side", "rows", "number", "count"] (sp_l_read K T.C_Channels T.C_Channel) := by
  refine T.F_l_read.ok sc_l_read (fun vs H Q E h => ?_) (fun cdv A outer s H vs Q E hr h => ?_)
  · obtain ⟨H0, p, d, w, m, t, k, n, rfl, ⟨own, S, x, cs, r, rfl, R⟩, k0, k1, n0, n1, q⟩ := h
    rfl
  · obtain ⟨H0, p, d, w, m, t, k, n, rfl, ⟨own, S, x, cs, r, rfl, R⟩, k0, k1, n0, n1, q⟩ := h
    have hu := hu_of hr
    refine ⟨_, (pss_cons (ps_set (i := 4) sc_l_read.nd rfl (Or.inl rfl) (pe_call (ok_l_call T) (hr.mono (by decide)) rfl T.m_l_call T.F_l_call.kp T.b_l_call .nil pass0 (pa_cons (pv 0) (pa_cons pe_str (pa_cons (pe_tup (pa_cons (pv 2) (pa_cons (pv 3) pa_nil))) pa_nil)))))
        (pss_cons (ps_if (pt_cmp (pc_dnotin hu (pv 2) (pv 1))) (pss_one (ps_ret (pe_cmpR (op_eqD hr.units) (pv 4) (pe_tup (pa_cons pe_str (pa_cons pe_bl pa_nil))) (nomark _)))) pss_nil)
        (pss_cons (ps_if (pt_cmpR op_lt (pv 3) pe_int (nomark _)) (pss_one (ps_ret (pe_cmpR (op_eqD hr.units) (pv 4) (pe_tup (pa_cons pe_str (pa_cons pe_bl pa_nil))) (nomark _)))) pss_nil)
        (pss_one (ps_ret (pe_and (pe_callB call_isi (by rfl) T.n_isinstance (by decide +kernel) (pa_cons (pv 4) (pa_cons (pe_bltn (v := .ty "list") (by rfl) T.n_list (by decide +kernel) rfl) pa_nil))) (pe_one (pe_cmpR op_eq (pe_callB call_len_seq (by rfl) T.n_len (by decide +kernel) (pa_cons (pv 4) pa_nil)) pe_int (nomark _))))))))), ?_⟩
    dsimp only [cxOf, Cx.nox, Cx.wish, L2.start, List.map, List.cons_append, List.nil_append, List.length_cons, List.length_nil, Nat.reduceAdd, Nat.reduceSub, Nat.zero_add, List.replicate_succ, List.replicate_zero]
    walk_at "go"
    refine ⟨by show 2 ≤ sizeLine; decide, fun ta hta => ?_⟩
    walk_at "nw"
    rename_i H1 s1 kt
    have R1 := R.same s1
    have gd := R1.get k
    refine ⟨own, S, x, w, m, t, cs, ta, "read", rfl, R1.sd, .inr (.inr (.inl ⟨k, n, rfl, kt, n0, n1, k0, k1, ?_⟩))⟩
    rcases pos_none (t := t) (n := cs.length) (k := k) with e | ⟨i, e⟩
    · refine .inl ⟨e, fun pr hpr => ?_⟩
      rw [e] at gd
      walk_at "nw"
      rename_i H2 s2 k2
      have R2 := R1.same s2
      have gd2 := R2.get k
      rw [e] at gd2
      walk_at "go"
      refine ⟨d, _, rfl, gd2, ?_⟩
      walk_at "go"
      refine ⟨by show 2 ≤ sizeLine; decide, fun pt hpt => ?_⟩
      walk_at "nw"
      rename_i H3 s3 k3
      refine g_eqPr (by decide +kernel) (s3 _ _ k2) k3 ?_
      exact q _ ⟨own, S, x, cs, r, rfl, R2.same s3⟩
    · refine .inr ⟨i, _, e, List.getElem?_eq_getElem (pos_some.mp e).1, ?_⟩
      by_cases hn : n < 0
      · refine .inl ⟨hn, fun pr hpr => ?_⟩
        walk_at "nw"
        rename_i H2 s2 k2
        have R2 := R1.same s2
        have gd2 := R2.get k
        rw [e] at gd2
        walk_at "go"
        refine ⟨d, _, rfl, gd2, ?_⟩
        walk_at "go"
        refine ⟨by show 2 ≤ sizeLine; decide, fun pt hpt => ?_⟩
        walk_at "nw"
        rename_i H3 s3 k3
        refine g_eqPr (by decide +kernel) (s3 _ _ k2) k3 ?_
        exact q _ ⟨own, S, x, cs, r, rfl, R2.same s3⟩
      · refine .inr ⟨by omega, fun l H2 hl s2 k2 => ?_⟩
        have R2 := R1.same s2
        have gd2 := R2.get k
        rw [e] at gd2
        walk_at "go"
        refine ⟨d, _, rfl, gd2, ?_⟩
        walk_at "go"
        refine g_isiL k2 ?_
        walk_at "go"
        refine g_len (.inl (sl k2)) ?_
        walk_at "go"
        exact q _ ⟨own, S, x, cs, r, rfl, R2⟩

end
end My
namespace My
open PySem PySem.Spec L2
local macro_rules | `(tactic| walk_at "side") => `(tactic| first | assumption | decide | omega | exact ⟨by decide, by decide⟩ | exact ⟨by decide, by decide, by decide⟩ | decide +kernel | exact cdivW (by decide +kernel) (by decide +kernel) | exact Or.inl ⟨by omega, by omega⟩ | exact Or.inr ⟨by omega, by omega⟩ | (simp only [List.length_map, List.length_cons, List.length_nil, List.length_append]; omega))
local macro_rules | `(tactic| walk_at "fact") => `(tactic| first | assumption | omega | with_reducible rfl)
local macro_rules | `(tactic| walk_at "use") => `(tactic| fail "use")
local macro_rules | `(tactic| walk_at "go1") => `(tactic| with_reducible first | refine g_seq ?_ | refine g_asg ?_ | refine g_ret ?_ | refine g_ifS ?_ | refine g_drop ?_ | refine g_star ?_ | refine g_nx ?_ | refine g_rt ?_ | refine g_bkE ?_ | refine g_ctE ?_ | refine g_next ?_ | refine g_retN ?_ | refine g_brk ?_ | refine g_ct ?_ | refine g_c ?_ | refine g_op ?_ | refine g_un ?_ | refine g_rI0 ?_ | refine g_rU ?_ | refine g_rEqI ?_ | refine g_rNeI ?_ | refine g_isN ?_ | refine g_rIsB ?_ | refine g_rNotB ?_ | refine g_test ?_ | refine g_B ?_ | refine g_bl ?_ | refine g_and ?_ | refine g_or ?_ | refine g_not ?_ | refine g_andV ?_ | refine g_orV ?_ | refine g_notV ?_ | refine g_if ?_ | refine g_chain ?_ | refine g_yes ?_ | refine g_lc ?_ | refine g_revR ?_ | refine g_rng1 ?_ | refine g_iList ?_ | refine g_nil ?_ | refine g_cons ?_ | refine g_tup ?_ | refine g_lst ?_ | refine g_call ?_ | refine g_CB ?_ | refine g_sl ?_ | refine g_noPart ?_ | refine g_part ?_ | refine g_intE ?_ | refine g_ref ?_ | refine g_fld ?_ | refine g_sfld ?_ | refine g_meth ?_ | refine g_make ?_ | refine g_prop ?_  | refine g_ipI ?_ | refine g_int1 ?_ | refine g_int1B ?_ | refine g_one ?_ | refine g_two ?_ | refine g_isiI ?_ | refine g_isiIB ?_ | refine g_isiB ?_ | refine g_BM ?_ | refine g_BM0 ?_ | refine g_sub ?_)
local macro_rules | `(tactic| walk_at "go") => `(tactic| repeat (first | walk_at "go1" | ((with_reducible refine' g_nameE ?sd_ ?_); case sd_ => dsimp only [List.set_cons_succ, List.set_cons_zero]) | ((with_reducible refine' g_var ?sd_ ?_); case sd_ => exact rfl) | ((with_reducible refine' g_aug ?sd_ ?_); case sd_ => exact rfl) | ((with_reducible refine' g_rI ?sd_ ?_); case sd_ => walk_at "side") | ((with_reducible refine' g_dT ?sd_ ?_); case sd_ => walk_at "fact") | ((with_reducible refine' g_dF ?sd_ ?_); case sd_ => walk_at "fact") | ((with_reducible refine' g_nT ?sd_ ?_); case sd_ => walk_at "fact") | ((with_reducible refine' g_nF ?sd_ ?_); case sd_ => walk_at "fact") | (with_reducible refine g_iT rfl ?_) | (with_reducible refine g_iF rfl ?_) | walk_at "use"))
local macro_rules | `(tactic| walk_at "nw") => `(tactic| (generalize zq : upd _ _ _ = Hq; have sq : Same _ Hq := (by rw [← zq]; exact same_upd (by assumption)); have kq := (congrFun zq _).symm.trans upd_same; clear zq))
local macro_rules | `(tactic| walk_at "bt") => `(tactic| (generalize zq : upd _ _ _ = Hq; have bq : But _ _ Hq := (by rw [← zq]; exact But.refl.upd); have kq := (congrFun zq _).symm.trans upd_same; clear zq))
local macro_rules | `(tactic| walk_at "use") => `(tactic| first | ((with_reducible refine' fd_Channel_number ?ho_ ?hv_ ?_); (case ho_ => first | assumption | exact upd_same); (case hv_ => exact rfl)) | ((with_reducible refine' fd_Channel_announced ?ho_ ?hv_ ?_); (case ho_ => first | assumption | exact upd_same); (case hv_ => exact rfl)) | ((with_reducible refine' fd_Channel_queue ?ho_ ?hv_ ?_); (case ho_ => first | assumption | exact upd_same); (case hv_ => exact rfl)) | ((with_reducible refine' fd_Channel_credit ?ho_ ?hv_ ?_); (case ho_ => first | assumption | exact upd_same); (case hv_ => exact rfl)) | ((with_reducible refine' fd_Channel_finished ?ho_ ?hv_ ?_); (case ho_ => first | assumption | exact upd_same); (case hv_ => exact rfl)) | ((with_reducible refine' fd_Channel_end_sent ?ho_ ?hv_ ?_); (case ho_ => first | assumption | exact upd_same); (case hv_ => exact rfl)) | ((with_reducible refine' fd_Channel_unread ?ho_ ?hv_ ?_); (case ho_ => first | assumption | exact upd_same); (case hv_ => exact rfl)) | ((with_reducible refine' fd_Channel_due ?ho_ ?hv_ ?_); (case ho_ => first | assumption | exact upd_same); (case hv_ => exact rfl)) | ((with_reducible refine' fd_Channel_end_came ?ho_ ?hv_ ?_); (case ho_ => first | assumption | exact upd_same); (case hv_ => exact rfl)) | ((with_reducible refine' fd_Channel_broken ?ho_ ?hv_ ?_); (case ho_ => first | assumption | exact upd_same); (case hv_ => exact rfl)) | ((with_reducible refine' fd_Channel_reset_told ?ho_ ?hv_ ?_); (case ho_ => first | assumption | exact upd_same); (case hv_ => exact rfl)) | ((with_reducible refine' nw_Channel_number ?ho_ ?hv_ ?_); (case ho_ => first | assumption | exact upd_same); (case hv_ => exact rfl)) | ((with_reducible refine' nw_Channel_announced ?ho_ ?hv_ ?_); (case ho_ => first | assumption | exact upd_same); (case hv_ => exact rfl)) | ((with_reducible refine' nw_Channel_queue ?ho_ ?hv_ ?_); (case ho_ => first | assumption | exact upd_same); (case hv_ => exact rfl)) | ((with_reducible refine' nw_Channel_credit ?ho_ ?hv_ ?_); (case ho_ => first | assumption | exact upd_same); (case hv_ => exact rfl)) | ((with_reducible refine' nw_Channel_finished ?ho_ ?hv_ ?_); (case ho_ => first | assumption | exact upd_same); (case hv_ => exact rfl)) | ((with_reducible refine' nw_Channel_end_sent ?ho_ ?hv_ ?_); (case ho_ => first | assumption | exact upd_same); (case hv_ => exact rfl)) | ((with_reducible refine' nw_Channel_unread ?ho_ ?hv_ ?_); (case ho_ => first | assumption | exact upd_same); (case hv_ => exact rfl)) | ((with_reducible refine' nw_Channel_due ?ho_ ?hv_ ?_); (case ho_ => first | assumption | exact upd_same); (case hv_ => exact rfl)) | ((with_reducible refine' nw_Channel_end_came ?ho_ ?hv_ ?_); (case ho_ => first | assumption | exact upd_same); (case hv_ => exact rfl)) | ((with_reducible refine' nw_Channel_broken ?ho_ ?hv_ ?_); (case ho_ => first | assumption | exact upd_same); (case hv_ => exact rfl)) | ((with_reducible refine' nw_Channel_reset_told ?ho_ ?hv_ ?_); (case ho_ => first | assumption | exact upd_same); (case hv_ => exact rfl)) | ((with_reducible refine' st_Channel_number ?ho_ ?hv_ ?_); (case ho_ => first | assumption | exact upd_same); (case hv_ => exact Nat.le_of_ble_eq_true rfl)) | ((with_reducible refine' st_Channel_announced ?ho_ ?hv_ ?_); (case ho_ => first | assumption | exact upd_same); (case hv_ => exact Nat.le_of_ble_eq_true rfl)) | ((with_reducible refine' st_Channel_queue ?ho_ ?hv_ ?_); (case ho_ => first | assumption | exact upd_same); (case hv_ => exact Nat.le_of_ble_eq_true rfl)) | ((with_reducible refine' st_Channel_credit ?ho_ ?hv_ ?_); (case ho_ => first | assumption | exact upd_same); (case hv_ => exact Nat.le_of_ble_eq_true rfl)) | ((with_reducible refine' st_Channel_finished ?ho_ ?hv_ ?_); (case ho_ => first | assumption | exact upd_same); (case hv_ => exact Nat.le_of_ble_eq_true rfl)) | ((with_reducible refine' st_Channel_end_sent ?ho_ ?hv_ ?_); (case ho_ => first | assumption | exact upd_same); (case hv_ => exact Nat.le_of_ble_eq_true rfl)) | ((with_reducible refine' st_Channel_unread ?ho_ ?hv_ ?_); (case ho_ => first | assumption | exact upd_same); (case hv_ => exact Nat.le_of_ble_eq_true rfl)) | ((with_reducible refine' st_Channel_due ?ho_ ?hv_ ?_); (case ho_ => first | assumption | exact upd_same); (case hv_ => exact Nat.le_of_ble_eq_true rfl)) | ((with_reducible refine' st_Channel_end_came ?ho_ ?hv_ ?_); (case ho_ => first | assumption | exact upd_same); (case hv_ => exact Nat.le_of_ble_eq_true rfl)) | ((with_reducible refine' st_Channel_broken ?ho_ ?hv_ ?_); (case ho_ => first | assumption | exact upd_same); (case hv_ => exact Nat.le_of_ble_eq_true rfl)) | ((with_reducible refine' st_Channel_reset_told ?ho_ ?hv_ ?_); (case ho_ => first | assumption | exact upd_same); (case hv_ => exact Nat.le_of_ble_eq_true rfl)) | ((with_reducible refine' me_Channel_break_off ?ho_ ?_); (case ho_ => first | assumption | exact upd_same)))
local macro_rules | `(tactic| walk_at "use") => `(tactic| first | ((with_reducible refine' fd_Channels_failure ?ho_ ?hv_ ?_); (case ho_ => first | assumption | exact upd_same); (case hv_ => exact rfl)) | ((with_reducible refine' fd_Channels__window ?ho_ ?hv_ ?_); (case ho_ => first | assumption | exact upd_same); (case hv_ => exact rfl)) | ((with_reducible refine' fd_Channels__most ?ho_ ?hv_ ?_); (case ho_ => first | assumption | exact upd_same); (case hv_ => exact rfl)) | ((with_reducible refine' fd_Channels__next_here ?ho_ ?hv_ ?_); (case ho_ => first | assumption | exact upd_same); (case hv_ => exact rfl)) | ((with_reducible refine' fd_Channels__next_there ?ho_ ?hv_ ?_); (case ho_ => first | assumption | exact upd_same); (case hv_ => exact rfl)) | ((with_reducible refine' fd_Channels__channels ?ho_ ?hv_ ?_); (case ho_ => first | assumption | exact upd_same); (case hv_ => exact rfl)) | ((with_reducible refine' fd_Channels__numbers ?ho_ ?hv_ ?_); (case ho_ => first | assumption | exact upd_same); (case hv_ => exact rfl)) | ((with_reducible refine' fd_Channels__turns ?ho_ ?hv_ ?_); (case ho_ => first | assumption | exact upd_same); (case hv_ => exact rfl)) | ((with_reducible refine' fd_Channels__offered ?ho_ ?hv_ ?_); (case ho_ => first | assumption | exact upd_same); (case hv_ => exact rfl)) | ((with_reducible refine' fd_Channels__going ?ho_ ?hv_ ?_); (case ho_ => first | assumption | exact upd_same); (case hv_ => exact rfl)) | ((with_reducible refine' fd_Channels__coming ?ho_ ?hv_ ?_); (case ho_ => first | assumption | exact upd_same); (case hv_ => exact rfl)) | ((with_reducible refine' nw_Channels_failure ?ho_ ?hv_ ?_); (case ho_ => first | assumption | exact upd_same); (case hv_ => exact rfl)) | ((with_reducible refine' nw_Channels__window ?ho_ ?hv_ ?_); (case ho_ => first | assumption | exact upd_same); (case hv_ => exact rfl)) | ((with_reducible refine' nw_Channels__most ?ho_ ?hv_ ?_); (case ho_ => first | assumption | exact upd_same); (case hv_ => exact rfl)) | ((with_reducible refine' nw_Channels__next_here ?ho_ ?hv_ ?_); (case ho_ => first | assumption | exact upd_same); (case hv_ => exact rfl)) | ((with_reducible refine' nw_Channels__next_there ?ho_ ?hv_ ?_); (case ho_ => first | assumption | exact upd_same); (case hv_ => exact rfl)) | ((with_reducible refine' nw_Channels__channels ?ho_ ?hv_ ?_); (case ho_ => first | assumption | exact upd_same); (case hv_ => exact rfl)) | ((with_reducible refine' nw_Channels__numbers ?ho_ ?hv_ ?_); (case ho_ => first | assumption | exact upd_same); (case hv_ => exact rfl)) | ((with_reducible refine' nw_Channels__turns ?ho_ ?hv_ ?_); (case ho_ => first | assumption | exact upd_same); (case hv_ => exact rfl)) | ((with_reducible refine' nw_Channels__offered ?ho_ ?hv_ ?_); (case ho_ => first | assumption | exact upd_same); (case hv_ => exact rfl)) | ((with_reducible refine' nw_Channels__going ?ho_ ?hv_ ?_); (case ho_ => first | assumption | exact upd_same); (case hv_ => exact rfl)) | ((with_reducible refine' nw_Channels__coming ?ho_ ?hv_ ?_); (case ho_ => first | assumption | exact upd_same); (case hv_ => exact rfl)) | ((with_reducible refine' st_Channels_failure ?ho_ ?hv_ ?_); (case ho_ => first | assumption | exact upd_same); (case hv_ => exact Nat.le_of_ble_eq_true rfl)) | ((with_reducible refine' st_Channels__window ?ho_ ?hv_ ?_); (case ho_ => first | assumption | exact upd_same); (case hv_ => exact Nat.le_of_ble_eq_true rfl)) | ((with_reducible refine' st_Channels__most ?ho_ ?hv_ ?_); (case ho_ => first | assumption | exact upd_same); (case hv_ => exact Nat.le_of_ble_eq_true rfl)) | ((with_reducible refine' st_Channels__next_here ?ho_ ?hv_ ?_); (case ho_ => first | assumption | exact upd_same); (case hv_ => exact Nat.le_of_ble_eq_true rfl)) | ((with_reducible refine' st_Channels__next_there ?ho_ ?hv_ ?_); (case ho_ => first | assumption | exact upd_same); (case hv_ => exact Nat.le_of_ble_eq_true rfl)) | ((with_reducible refine' st_Channels__channels ?ho_ ?hv_ ?_); (case ho_ => first | assumption | exact upd_same); (case hv_ => exact Nat.le_of_ble_eq_true rfl)) | ((with_reducible refine' st_Channels__numbers ?ho_ ?hv_ ?_); (case ho_ => first | assumption | exact upd_same); (case hv_ => exact Nat.le_of_ble_eq_true rfl)) | ((with_reducible refine' st_Channels__turns ?ho_ ?hv_ ?_); (case ho_ => first | assumption | exact upd_same); (case hv_ => exact Nat.le_of_ble_eq_true rfl)) | ((with_reducible refine' st_Channels__offered ?ho_ ?hv_ ?_); (case ho_ => first | assumption | exact upd_same); (case hv_ => exact Nat.le_of_ble_eq_true rfl)) | ((with_reducible refine' st_Channels__going ?ho_ ?hv_ ?_); (case ho_ => first | assumption | exact upd_same); (case hv_ => exact Nat.le_of_ble_eq_true rfl)) | ((with_reducible refine' st_Channels__coming ?ho_ ?hv_ ?_); (case ho_ => first | assumption | exact upd_same); (case hv_ => exact Nat.le_of_ble_eq_true rfl)) | ((with_reducible refine' me_Channels_len__ ?ho_ ?_); (case ho_ => first | assumption | exact upd_same)) | ((with_reducible refine' me_Channels_iter__ ?ho_ ?_); (case ho_ => first | assumption | exact upd_same)) | ((with_reducible refine' me_Channels_open_channel ?ho_ ?_); (case ho_ => first | assumption | exact upd_same)) | ((with_reducible refine' me_Channels_accept ?ho_ ?_); (case ho_ => first | assumption | exact upd_same)) | ((with_reducible refine' me_Channels_write ?ho_ ?_); (case ho_ => first | assumption | exact upd_same)) | ((with_reducible refine' me_Channels_read ?ho_ ?_); (case ho_ => first | assumption | exact upd_same)) | ((with_reducible refine' me_Channels_finish ?ho_ ?_); (case ho_ => first | assumption | exact upd_same)) | ((with_reducible refine' me_Channels_reset ?ho_ ?_); (case ho_ => first | assumption | exact upd_same)) | ((with_reducible refine' me_Channels_status ?ho_ ?_); (case ho_ => first | assumption | exact upd_same)) | ((with_reducible refine' me_Channels_known ?ho_ ?_); (case ho_ => first | assumption | exact upd_same)) | ((with_reducible refine' me_Channels_add ?ho_ ?_); (case ho_ => first | assumption | exact upd_same)) | ((with_reducible refine' me_Channels_room_of ?ho_ ?_); (case ho_ => first | assumption | exact upd_same)))
section
variable {P : Program} {w : World} {K : PySem.W.Frag} {mg : Str → Option Value} {base : Heap}
local macro_rules | `(tactic| walk_at "use") => `(tactic| with_reducible first | refine g_rs0 ?_ | refine g_rs1 ?_ | refine g_tryA ?_ | refine g_tryO ?_ | refine g_callS ?_ | refine g_joined ?_ | refine g_jsnil ?_ | refine g_jscons ?_ | refine g_fmt ?_)
local macro_rules | `(tactic| walk_at "fit") => `(tactic| (refine fit2 ?_; (try simp only [PySem.Str.length_append]); omega))
local macro_rules | `(tactic| walk_at "use") => `(tactic| first | ((with_reducible refine' g_addS ?sd_ ?_); case sd_ => (first | omega | (simp only [PySem.Str.length_append]; omega))) | ((with_reducible refine' g_slS ?sd_ ?_); case sd_ => omega) | (with_reducible refine g_m0 ?_))

local macro_rules | `(tactic| walk_at "use") => `(tactic| with_reducible first | refine g_dgetI ?_ | refine g_dputI ?_ | refine g_dget1I ?_ | refine g_dget2I ?_ | refine g_dinI ?_ | refine g_dnotinI ?_ | refine g_dnewK ?_)

section
variable {K : PySem.W.Frag} {H : Hp} {Q : VK}
end
local macro_rules | `(tactic| walk_at "use") => `(tactic| with_reducible first | refine g_rEqS ?_ | refine g_rNeS ?_ | refine g_isiS ?_)

local macro_rules | `(tactic| walk_at "use") => `(tactic| first | ((with_reducible refine' dg_D_writable ?ho_ ?hv_ ?_); (case ho_ => first | assumption | exact upd_same); (case hv_ => exact rfl)) | ((with_reducible refine' dg_D_waiting ?ho_ ?hv_ ?_); (case ho_ => first | assumption | exact upd_same); (case hv_ => exact rfl)) | ((with_reducible refine' dg_D_readable ?ho_ ?hv_ ?_); (case ho_ => first | assumption | exact upd_same); (case hv_ => exact rfl)) | ((with_reducible refine' dg_D_finished ?ho_ ?hv_ ?_); (case ho_ => first | assumption | exact upd_same); (case hv_ => exact rfl)) | ((with_reducible refine' dg_D_at_end ?ho_ ?hv_ ?_); (case ho_ => first | assumption | exact upd_same); (case hv_ => exact rfl)) | ((with_reducible refine' dg_D_reset ?ho_ ?hv_ ?_); (case ho_ => first | assumption | exact upd_same); (case hv_ => exact rfl)) | ((with_reducible refine' dn_D_writable ?ho_ ?hv_ ?_); (case ho_ => first | assumption | exact upd_same); (case hv_ => exact rfl)) | ((with_reducible refine' dn_D_waiting ?ho_ ?hv_ ?_); (case ho_ => first | assumption | exact upd_same); (case hv_ => exact rfl)) | ((with_reducible refine' dn_D_readable ?ho_ ?hv_ ?_); (case ho_ => first | assumption | exact upd_same); (case hv_ => exact rfl)) | ((with_reducible refine' dn_D_finished ?ho_ ?hv_ ?_); (case ho_ => first | assumption | exact upd_same); (case hv_ => exact rfl)) | ((with_reducible refine' dn_D_at_end ?ho_ ?hv_ ?_); (case ho_ => first | assumption | exact upd_same); (case hv_ => exact rfl)) | ((with_reducible refine' dn_D_reset ?ho_ ?hv_ ?_); (case ho_ => first | assumption | exact upd_same); (case hv_ => exact rfl)) | ((with_reducible refine' dp_D_writable ?ho_ ?hv_ ?_); (case ho_ => first | assumption | exact upd_same); (case hv_ => exact Nat.le_of_ble_eq_true rfl)) | ((with_reducible refine' dp_D_waiting ?ho_ ?hv_ ?_); (case ho_ => first | assumption | exact upd_same); (case hv_ => exact Nat.le_of_ble_eq_true rfl)) | ((with_reducible refine' dp_D_readable ?ho_ ?hv_ ?_); (case ho_ => first | assumption | exact upd_same); (case hv_ => exact Nat.le_of_ble_eq_true rfl)) | ((with_reducible refine' dp_D_finished ?ho_ ?hv_ ?_); (case ho_ => first | assumption | exact upd_same); (case hv_ => exact Nat.le_of_ble_eq_true rfl)) | ((with_reducible refine' dp_D_at_end ?ho_ ?hv_ ?_); (case ho_ => first | assumption | exact upd_same); (case hv_ => exact Nat.le_of_ble_eq_true rfl)) | ((with_reducible refine' dp_D_reset ?ho_ ?hv_ ?_); (case ho_ => first | assumption | exact upd_same); (case hv_ => exact Nat.le_of_ble_eq_true rfl)))
local macro_rules | `(tactic| walk_at "use") => `(tactic| with_reducible first | refine g_dgetT ?_ | refine g_dputT ?_)
local macro_rules | `(tactic| walk_at "use") => `(tactic| first | ((with_reducible refine' dg_R_queue ?ho_ ?hv_ ?_); (case ho_ => first | assumption | exact upd_same); (case hv_ => exact rfl)) | ((with_reducible refine' dg_R_finished ?ho_ ?hv_ ?_); (case ho_ => first | assumption | exact upd_same); (case hv_ => exact rfl)) | ((with_reducible refine' dg_R_reset ?ho_ ?hv_ ?_); (case ho_ => first | assumption | exact upd_same); (case hv_ => exact rfl)) | ((with_reducible refine' dn_R_queue ?ho_ ?hv_ ?_); (case ho_ => first | assumption | exact upd_same); (case hv_ => exact rfl)) | ((with_reducible refine' dn_R_finished ?ho_ ?hv_ ?_); (case ho_ => first | assumption | exact upd_same); (case hv_ => exact rfl)) | ((with_reducible refine' dn_R_reset ?ho_ ?hv_ ?_); (case ho_ => first | assumption | exact upd_same); (case hv_ => exact rfl)) | ((with_reducible refine' dp_R_queue ?ho_ ?hv_ ?_); (case ho_ => first | assumption | exact upd_same); (case hv_ => exact Nat.le_of_ble_eq_true rfl)) | ((with_reducible refine' dp_R_finished ?ho_ ?hv_ ?_); (case ho_ => first | assumption | exact upd_same); (case hv_ => exact Nat.le_of_ble_eq_true rfl)) | ((with_reducible refine' dp_R_reset ?ho_ ?hv_ ?_); (case ho_ => first | assumption | exact upd_same); (case hv_ => exact Nat.le_of_ble_eq_true rfl)))
local macro_rules | `(tactic| walk_at "use") => `(tactic| with_reducible first | refine g_dgetT ?_ | refine g_dputT ?_)
local macro_rules | `(tactic| walk_at "use") => `(tactic| with_reducible first | refine g_disp ?_ | refine g_pcons ?_ | refine g_pnil ?_)
local macro_rules | `(tactic| walk_at "use") => `(tactic| with_reducible refine u_cell (by assumption) (by omega) ?_)

local macro_rules | `(tactic| walk_at "use") => `(tactic| with_reducible first | refine g_gcons ?_ | refine g_gnil ?_)

local macro_rules | `(tactic| walk_at "use") => `(tactic| with_reducible refine u_isint ?_)
def sp_l_reset (K : PySem.W.Frag) (CS CC : Addr) : Sp := fun vs H Q _ => ∃ (H0 : Hp) (p d : Addr) (w m t k n : Int), vs = [.ref p, .ref d, .int k, .int n] ∧ RN CS CC H0 p d w m t H ∧ 0 ≤ k ∧ k ≤ 1000000 ∧ -1000000 ≤ n ∧ n ≤ 1000000 ∧ ∀ H', RN CS CC H0 p d w m t H' → Q (.bl true) H'
theorem ok_l_reset (T : Txt P K mg) : FnOk P w K mg base CX0 5 T.f_l_reset T.d_l_reset ["side", "rows", "number", "code"] (sp_l_reset K T.C_Channels T.C_Channel) := by
  refine T.F_l_reset.ok sc_l_reset (fun vs H Q E h => ?_) (fun cdv A outer s H vs Q E hr h => ?_)
  · obtain ⟨H0, p, d, w, m, t, k, n, rfl, ⟨own, S, x, cs, r, rfl, R⟩, k0, k1, n0, n1, q⟩ := h
    rfl
  · obtain ⟨H0, p, d, w, m, t, k, n, rfl, ⟨own, S, x, cs, r, rfl, R⟩, k0, k1, n0, n1, q⟩ := h
    have hu := hu_of hr
    refine ⟨_, (pss_cons (ps_set (i := 4) sc_l_reset.nd rfl (Or.inl rfl) (pe_call (ok_l_call T) (hr.mono (by decide)) rfl T.m_l_call T.F_l_call.kp T.b_l_call .nil pass0 (pa_cons (pv 0) (pa_cons pe_str (pa_cons (pe_tup (pa_cons (pv 2) (pa_cons (pv 3) pa_nil))) pa_nil)))))
        (pss_cons (ps_if (pt_cmp (pc_dnotin hu (pv 2) (pv 1))) (pss_one (ps_ret (pe_cmpR (op_eqD hr.units) (pv 4) (pe_tup (pa_cons pe_str (pa_cons pe_bl pa_nil))) (nomark _)))) pss_nil)
        (pss_cons (ps_if (pt_not (pt_chain op_le op_le pe_int (pv 3) pe_int)) (pss_one (ps_ret (pe_cmpR (op_eqD hr.units) (pv 4) (pe_tup (pa_cons pe_str (pa_cons pe_bl pa_nil))) (nomark _)))) pss_nil)
        (pss_cons (ps_set (i := 5) sc_l_reset.nd rfl (Or.inl rfl) (pe_dget hu (pv 1) (pv 2) (fun _ _ => rfl)))
        (pss_cons (ps_if (pt_cmpR op_isN (pe_dget hu (pv 5) pe_str (fun _ _ => rfl)) pe_non (nomark _)) (pss_cons (ps_dput hu (pv 5) pe_str (pe_tup (pa_cons pe_str (pa_cons (pv 3) pa_nil))) rfl)
        (pss_one (ps_expr (pe_bm0 PySem.F.plainAttrs_list PySem.F.slot_list_clear PySem.F.type_list_clear mt_clear (pe_dget hu (pv 5) pe_str (fun _ _ => rfl)))))) pss_nil)
        (pss_one (ps_ret (pe_cmpR op_isN (pv 4) pe_non (nomark _))))))))), ?_⟩
    dsimp only [cxOf, Cx.nox, Cx.wish, L2.start, List.map, List.cons_append, List.nil_append, List.length_cons, List.length_nil, Nat.reduceAdd, Nat.reduceSub, Nat.zero_add, List.replicate_succ, List.replicate_zero]
    walk_at "go"
    refine ⟨by show 2 ≤ sizeLine; decide, fun ta hta => ?_⟩
    walk_at "nw"
    rename_i H1 s1 kt
    have R1 := R.same s1
    refine ⟨own, S, x, w, m, t, cs, ta, "reset", rfl, R1.sd, .inr (.inr (.inr (.inr (.inl ⟨k, n, rfl, kt, n0, n1, k0, k1, ?_⟩))))⟩
    rcases pos_none (t := t) (n := cs.length) (k := k) with e | ⟨i, e⟩
    · refine .inl ⟨e, fun pr hpr => ?_⟩
      walk_at "nw"
      rename_i H2 s2 k2
      have R2 := R1.same s2
      have gd2 := R2.get k
      rw [e] at gd2
      walk_at "go"
      refine ⟨d, _, rfl, gd2, ?_⟩
      walk_at "go"
      refine ⟨by show 2 ≤ sizeLine; decide, fun pt hpt => ?_⟩
      walk_at "nw"
      rename_i H3 s3 k3
      refine g_eqPr (by decide +kernel) (s3 _ _ k2) k3 ?_
      exact q _ ⟨own, S, x, cs, r, rfl, R2.same s3⟩
    · obtain ⟨hil, _⟩ := pos_some.mp e
      obtain ⟨c, hi⟩ : ∃ c, cs[i]? = some c := ⟨_, List.getElem?_eq_getElem hil⟩
      refine .inr ⟨i, c, e, hi, ?_⟩
      by_cases hn : 0 ≤ n ∧ n ≤ 65535
      · have hn1 := hn.1
        have hn2 := hn.2
        refine .inr ⟨hn, fun hb => ?_, fun hb own' x' H2 e1 O2 b2 => ?_⟩
        · have gd2 := R1.get k
          rw [e] at gd2
          obtain ⟨h1, h2, h3⟩ := R1.hr i c hi
          walk_at "go"
          obtain ⟨kk, hkk⟩ := Option.ne_none_iff_exists'.mp hb
          rw [hkk] at h3
          obtain ⟨tt, ett, htt⟩ := h3
          rw [ett] at h1
          refine ⟨d, _, rfl, gd2, ?_⟩
          walk_at "go"
          refine ⟨d, _, rfl, gd2, ?_⟩
          walk_at "go"
          exact q _ ⟨own, S, x, cs, r, rfl, R1⟩
        · have R2 := R1.side O2 e1 (fun b o z e => b2 _ _ (fun zz => by rw [zz, (R1.sd.oc i hil).1] at z; cases z) e)
          have gd2 := R2.get k
          rw [e] at gd2
          obtain ⟨h1, h2, h3⟩ := R2.hr i c hi
          rw [hb] at h3
          obtain ⟨w1, w2, w3, w4, w5⟩ := R2.hw i hil
          generalize hrb : (r i).b = rb at h1 h3
          obtain rfl : rb = .non := h3
          walk_at "go"
          refine ⟨d, _, rfl, gd2, ?_⟩
          walk_at "go"
          refine ⟨d, _, rfl, gd2, ?_⟩
          walk_at "go"
          refine ⟨by show 2 ≤ sizeLine; decide, fun tt htt => ?_⟩
          walk_at "nw"
          rename_i H3 s3 k3
          have h13 := s3 _ _ h1
          have h23 := s3 _ _ h2
          walk_at "go"
          simp only [List.set_cons_succ, List.set_cons_zero]
          walk_at "bt"
          rename_i H4 b4 k4
          have nqa : (r i).q ≠ (r i).a := ne_of h2 h1 (fun z => nomatch z)
          have h24 := b4 _ _ nqa h23
          walk_at "go"
          refine ⟨ty_l h24, ?_⟩
          refine ⟨(r i).q, _, rfl, rfl, h24, ?_⟩
          walk_at "bt"
          rename_i H5 b5 k5
          walk_at "go"
          have k3a := b4 _ _ (ne_of k3 h13 (fun z => nomatch z)) k3
          refine q _ ⟨_, _, _, _, _, rfl, (R2.same s3).row hi (y := ⟨(r i).a, (r i).q, .ref tt⟩) rfl rfl (fun b o n1 n2 e => b5 _ _ n2 (b4 _ _ n1 e)) (c' := ⟨[], c.fin, some n⟩) ⟨b5 _ _ nqa.symm k4, k5, tt, rfl, b5 _ _ (ne_of k3a h24 (fun z => nomatch z)) k3a⟩ (fun t2 e2 => by cases e2; exact R2.nz _ htt)⟩
      · refine .inl ⟨hn, fun pr hpr => ?_⟩
        walk_at "nw"
        rename_i H2 s2 k2
        have R2 := R1.same s2
        have gd2 := R2.get k
        rw [e] at gd2
        walk_at "go"
        refine ⟨d, _, rfl, gd2, ?_⟩
        walk_at "go"
        by_cases z : 0 ≤ n
        · rw [if_pos (decide_eq_true z)]
          have z2 : ¬ n ≤ 65535 := by omega
          refine ⟨n, 65535, rfl, rfl, _, rfl, ?_⟩
          rw [if_pos (show (!decide (n ≤ 65535)) = true by rw [decide_eq_false z2]; rfl)]
          walk_at "go"
          refine ⟨by show 2 ≤ sizeLine; decide, fun pt hpt => ?_⟩
          walk_at "nw"
          rename_i H3 s3 k3
          refine g_eqPr (by decide +kernel) (s3 _ _ k2) k3 ?_
          exact q _ ⟨own, S, x, cs, r, rfl, R2.same s3⟩
        · rw [if_neg (by rw [decide_eq_false z]; exact Bool.false_ne_true)]
          refine ⟨_, rfl, ?_⟩
          rw [if_pos (show (!false) = true from rfl)]
          walk_at "go"
          refine ⟨by show 2 ≤ sizeLine; decide, fun pt hpt => ?_⟩
          walk_at "nw"
          rename_i H3 s3 k3
          refine g_eqPr (by decide +kernel) (s3 _ _ k2) k3 ?_
          exact q _ ⟨own, S, x, cs, r, rfl, R2.same s3⟩
/-- a place that is nobody's has changed -/
theorem RnO.out {CS CC : Addr} {H0 : Hp} {own : Addr → Option Nat} {H H' : Hp} {S : Sa} {x : Nat → Ca} {w m t : Int} {cs : List Ch} {d : Addr} {r : Nat → Ra} {rs : List Ch} {g : Addr} {us : List V} (R : RnO CS CC H0 own H S x w m t cs d r rs) (hg : own g = none) (g0 : H0 g = none) (eg : H g = some (.lst us))
    (gr : ∀ i, i < rs.length → g ≠ (r i).q) (b : But g H H') (h' : H' g ≠ none) : RnO CS CC H0 own H' S x w m t cs d r rs := by
  have tk : ∀ bb kk, H bb = some (.tup kk) → H' bb = some (.tup kk) := fun bb kk e => b _ _ (ne_of e eg (fun z => nomatch z)) e
  refine ⟨R.sd.keep fun bb o h e => ?_, fun bb h => ?_, But.tr2 R.sm g0 b, R.fr, b _ _ (ne_of R.hd eg (fun z => nomatch z)) R.hd, R.od, R.d0, fun i c e => ?_, R.hw, R.ja, R.jq⟩
  · rcases h with h | ⟨kk, h⟩
    · exact b _ _ (fun z => h (z ▸ hg)) e
    · rw [h] at e ⊢
      exact tk _ _ e
  · refine R.nz bb (free_of (fun bb o e => ?_) h)
    by_cases z : bb = g
    · rw [z]; exact h'
    · exact some_none (b _ _ z e)
  · obtain ⟨h1, h2, h3⟩ := R.hr i c e
    exact ⟨b _ _ (ne_of h1 eg (fun z => nomatch z)) h1, b _ _ (gr i (ls_i e)).symm h2, h3.same fun tt o ⟨kk, ek⟩ et => by rw [ek] at et ⊢; exact tk _ _ et⟩
def sp_l_write (K : PySem.W.Frag) (CS CC : Addr) : Sp := fun vs H Q _ => ∃ (H0 Hb : Hp) (p d l : Addr) (w m t k : Int) (bs : List Int), vs = [.ref p, .ref d, .int k, .ref l, .int w] ∧ RN CS CC H0 p d w m t Hb ∧ Same Hb H ∧ Hb l = none ∧ H l = some (.lst (bs.map V.int)) ∧ bs.length ≤ 100 ∧ 0 ≤ k ∧ k ≤ 1000000 ∧ ∀ H', RN CS CC H0 p d w m t H' → Q (.bl true) H'
theorem ok_l_write (T : Txt P K mg) : FnOk P w K mg base CX0 5 T.f_l_write T.d_l_write ["side", "rows", "number", "octets", "window"] (sp_l_write K T.C_Channels T.C_Channel) := by
  refine T.F_l_write.ok sc_l_write (fun vs H Q E h => ?_) (fun cdv A outer s H vs Q E hr h => ?_)
  · obtain ⟨H0, Hb, p, d, l, w, m, t, k, bs, rfl, ⟨own, S, x, cs, r, rfl, R⟩, sb, hl0, hl, hbs, k0, k1, q⟩ := h
    rfl
  · obtain ⟨H0, Hb, p, d, l, w, m, t, k, bs, rfl, ⟨own, S, x, cs, r, rfl, R⟩, sb, hl0, hl, hbs, k0, k1, q⟩ := h
    have hu := hu_of hr
    refine ⟨_, (pss_cons (ps_set (i := 5) sc_l_write.nd rfl (Or.inl rfl) (pe_callTy call_list_of (by rfl) T.n_list (by decide +kernel) (pa_cons (pv 3) pa_nil)))
        (pss_cons (ps_set (i := 6) sc_l_write.nd rfl (Or.inl rfl) (pe_call (ok_l_call T) (hr.mono (by decide)) rfl T.m_l_call T.F_l_call.kp T.b_l_call .nil pass0 (pa_cons (pv 0) (pa_cons pe_str (pa_cons (pe_tup (pa_cons (pv 2) (pa_cons (pv 5) pa_nil))) pa_nil)))))
        (pss_cons (ps_expr (pe_bm PySem.F.plainAttrs_list PySem.F.slot_list_append PySem.F.type_list_append mt_append (pv 5) (pa_cons pe_int pa_nil)))
        (pss_cons (ps_if (pt_cmp (pc_dnotin hu (pv 2) (pv 1))) (pss_one (ps_ret (pe_cmpR (op_eqD hr.units) (pv 6) (pe_tup (pa_cons pe_str (pa_cons pe_bl pa_nil))) (nomark _)))) pss_nil)
        (pss_cons (ps_set (i := 7) sc_l_write.nd rfl (Or.inl rfl) (pe_dget hu (pv 1) (pv 2) (fun _ _ => rfl)))
        (pss_cons (ps_set (i := 8) sc_l_write.nd rfl (Or.inl rfl) (pe_op op_sub (pv 4) (pe_callB call_len_seq (by rfl) T.n_len (by decide +kernel) (pa_cons (pe_dget hu (pv 7) pe_str (fun _ _ => rfl)) pa_nil))))
        (C8.pss_cut (ps_if (PW.pt (pw_or (pt_val (pe_dget hu (pv 7) pe_str (fun _ _ => rfl))) (pw_or1 (pt_cmpR op_notN (pe_dget hu (pv 7) pe_str (fun _ _ => rfl)) pe_non (nomark _))))) (pss_one (ps_set (i := 8) sc_l_write.nd rfl (Or.inl rfl) pe_int)) pss_nil)
        (pss_cons (ps_expr (pe_bm PySem.F.plainAttrs_list PySem.F.slot_list_extend PySem.F.type_list_extend mt_extend (pe_dget hu (pv 7) pe_str (fun _ _ => rfl)) (pa_cons (pe_slice sl_list (pv 3) po_none (po_some (pv 8))) pa_nil)))
        (pss_one (ps_ret (pe_and (pe_call (ok_l_is_integer T) (hr.mono (by decide)) rfl T.m_l_is_integer T.F_l_is_integer.kp T.b_l_is_integer .nil pass0 (pa_cons (pv 6) pa_nil)) (pe_one (pe_cmpR op_eq (pv 6) (pe_callB (call_min2 rfl) (by rfl) T.n_min (by decide +kernel) (pa_cons (pv 8) (pa_cons (pe_callB call_len_seq (by rfl) T.n_len (by decide +kernel) (pa_cons (pv 3) pa_nil)) pa_nil))) (nomark _)))))))))))))), ?_⟩
    dsimp only [cxOf, Cx.nox, Cx.wish, L2.start, List.map, List.cons_append, List.nil_append, List.length_cons, List.length_nil, Nat.reduceAdd, Nat.reduceSub, Nat.zero_add, List.replicate_succ, List.replicate_zero]
    walk_at "go"
    refine ⟨l, _, rfl, .inl (sl hl), fun g hg => ?_⟩
    walk_at "nw"
    rename_i H1 s1 kg
    walk_at "go"
    refine ⟨by show 2 ≤ sizeLine; decide, fun ta hta => ?_⟩
    walk_at "nw"
    rename_i H2 s2 kt
    have s02 := sb.trans (s1.trans s2)
    have R2 := R.same s02
    have hgb : Hb g = none := free_of (fun b o e => some_none (sb b o e)) hg
    have kg2 := s2 _ _ kg
    have hl2 := s2 _ _ (s1 _ _ hl)
    refine ⟨own, S, x, w, m, t, cs, ta, "write", rfl, R2.sd, .inr (.inl ⟨k, g, bs, rfl, kt, sl kg2, k0, k1, ?_⟩)⟩
    rcases pos_none (t := t) (n := cs.length) (k := k) with e | ⟨i, e⟩
    · refine .inl ⟨e, fun pr hpr => ?_⟩
      walk_at "nw"
      rename_i H3 s3 k3
      walk_at "go"
      refine ⟨ty_l (s3 _ _ kg2), ?_⟩
      walk_at "go"
      refine g_append (s3 _ _ kg2) (szl (by rw [List.length_map]; omega)) ?_
      walk_at "bt"
      rename_i H4 b4 k4
      have R4 := R.same (((But.of (s02.trans s3)).trans b4).same hgb)
      have gd4 := R4.get k
      rw [e] at gd4
      walk_at "go"
      refine ⟨d, _, rfl, gd4, ?_⟩
      walk_at "go"
      refine ⟨by show 2 ≤ sizeLine; decide, fun pt hpt => ?_⟩
      walk_at "nw"
      rename_i H5 s5 k5
      refine g_eqPr (by decide +kernel) (s5 _ _ (b4 _ _ (ne_of k3 (s3 _ _ kg2) (fun z => nomatch z)) k3)) k5 ?_
      exact q _ ⟨own, S, x, cs, r, rfl, R4.same s5⟩
    · obtain ⟨hil, _⟩ := pos_some.mp e
      obtain ⟨c, hi⟩ : ∃ c, cs[i]? = some c := ⟨_, List.getElem?_eq_getElem hil⟩
      refine .inr ⟨i, c, e, hi, fun H3 O3 b3 => ?_⟩
      obtain ⟨o1, o2, o3⟩ := R2.sd.oc i hil
      have R3 := R2.side O3 (fun _ _ => rfl) (fun b o z e => b3 _ _ (fun zz => by rw [zz, o2] at z; cases z) e)
      have ogn : own g = none := R.nz _ hgb
      have oln : own l = none := R.nz _ hl0
      have kg3 := b3 _ _ (fun z => by rw [z, o2] at ogn; cases ogn) kg2
      have hl3 := b3 _ _ (fun z => by rw [z, o2] at oln; cases oln) hl2
      walk_at "go"
      refine ⟨ty_l kg3, ?_⟩
      walk_at "go"
      refine g_append kg3 (szl (by rw [List.length_map]; omega)) ?_
      walk_at "bt"
      rename_i H4 b4 k4
      have nlg : l ≠ g := fun z => by rw [← z, hl] at hg; cases hg
      have hl4 := b4 _ _ nlg hl3
      have R4 := R3.out (by rw [nrm_of (some_none kg3)]; exact ogn) (free_of (fun b o e => some_none (R.sm b o e)) hgb) kg3 (fun j hj z => by
        obtain ⟨_, g2, _⟩ := R.hr j _ (List.getElem?_eq_getElem hj)
        rw [← z, hgb] at g2
        cases g2) b4 (some_none k4)
      have gd4 := R4.get k
      rw [e] at gd4
      obtain ⟨hy, hq, hyb⟩ := R4.hr i c hi
      have hqw := R.sd.hq i c hi
      have hww := R.sd.hw
      obtain ⟨r0, r1⟩ := room_b hqw
      walk_at "go"
      refine ⟨d, _, rfl, gd4, ?_⟩
      walk_at "go"
      refine ⟨d, _, rfl, gd4, ?_⟩
      walk_at "go"
      refine g_len (.inl (sl hq)) ?_
      rw [List.length_map]
      walk_at "go"
      refine g_cut (fun σ' H' => σ' = [some (.ref S.p), some (.ref d), some (.int k), some (.ref l), some (.int w), some (.ref g), some (.int (min (room w c) (bs.length : Int))), some (.ref (r i).a), some (.int (room w c))] ∧ H' = H4) ?_ ?_
      · have hy' := hy
        generalize (r i).b = yb at hy' hyb
        cases hcf : c.fin
        · rw [hcf] at hy'
          cases hcb : c.br with
          | none =>
            rw [hcb] at hyb
            obtain rfl : yb = .non := hyb
            have er : room w c = w - (c.q.length : Int) := by unfold room; rw [if_neg (by rw [hcf, hcb]; simp)]
            rw [er]
            walk_at "go"
            exact ⟨rfl, rfl⟩
          | some kk =>
            rw [hcb] at hyb
            obtain ⟨tb, rfl, hk⟩ := hyb
            have er : room w c = 0 := by unfold room; rw [if_pos (by rw [hcb]; simp)]
            rw [er]
            walk_at "go"
            exact ⟨rfl, rfl⟩
        · rw [hcf] at hy'
          have er : room w c = 0 := by unfold room; rw [if_pos (by rw [hcf]; simp)]
          rw [er]
          walk_at "go"
          exact ⟨rfl, rfl⟩
      · rintro σ' H' ⟨rfl, rfl⟩
        walk_at "go"
        refine ⟨ty_l hq, ?_⟩
        walk_at "go"
        refine g_slL (sl hl4) fun l5 hl5 => ?_
        have ec : cutV (bs.map V.int) none (some (room w c)) = (bs.take (room w c).toNat).map V.int := by
          rw [show room w c = ((room w c).toNat : Int) by omega, cut_lo, ← List.map_take]
          rfl
        rw [ec]
        walk_at "nw"
        rename_i H5 s5 k5
        have hq5 := s5 _ _ hq
        walk_at "go"
        have lt : (bs.take (room w c).toNat).length ≤ (room w c).toNat := by rw [List.length_take]; exact Nat.min_le_left _ _
        refine ⟨(r i).q, l5, _, _, rfl, rfl, hq5, k5, by rw [List.length_map, List.length_map]; exact sz (by omega), ?_⟩
        rw [← List.map_append]
        walk_at "bt"
        rename_i H6 b6 k6
        have hl6 := b6 _ _ (fun z => by
          obtain ⟨_, g2, _⟩ := R.hr i c hi
          rw [← z, hl0] at g2
          cases g2) (s5 _ _ hl4)
        walk_at "go"
        refine g_len (.inl (sl hl6)) ?_
        rw [List.length_map]
        walk_at "go"
        rw [show (if (bs.length : Int) < room w c then (bs.length : Int) else room w c) = min (room w c) (bs.length : Int) by split <;> omega, decide_eq_true rfl]
        have nqa : (r i).q ≠ (r i).a := ne_of hq hy (fun z => nomatch z)
        refine q _ ⟨_, _, _, _, _, rfl, (R4.same s5).row hi (y := r i) rfl rfl (fun b o n1 n2 e => b6 _ _ n2 e) (c' := ⟨c.q ++ List.take (room w c).toNat bs, c.fin, c.br⟩) ⟨b6 _ _ nqa.symm (s5 _ _ hy), k6, ?_⟩ (R4.hw i hil).2.2.2.2⟩
        exact hyb.same fun tt o ⟨kk, ek⟩ et => b6 _ _ (ne_of (s5 _ _ et) hq5 (by rw [ek]; exact fun z => nomatch z)) (s5 _ _ et)

end
end My
namespace My
open PySem PySem.Spec L2
local macro_rules | `(tactic| walk_at "side") => `(tactic| first | assumption | decide | omega | exact ⟨by decide, by decide⟩ | exact ⟨by decide, by decide, by decide⟩ | decide +kernel | exact cdivW (by decide +kernel) (by decide +kernel) | exact Or.inl ⟨by omega, by omega⟩ | exact Or.inr ⟨by omega, by omega⟩ | (simp only [List.length_map, List.length_cons, List.length_nil, List.length_append]; omega))
local macro_rules | `(tactic| walk_at "fact") => `(tactic| first | assumption | omega | with_reducible rfl)
local macro_rules | `(tactic| walk_at "use") => `(tactic| fail "use")
local macro_rules | `(tactic| walk_at "go1") => `(tactic| with_reducible first | refine g_seq ?_ | refine g_asg ?_ | refine g_ret ?_ | refine g_ifS ?_ | refine g_drop ?_ | refine g_star ?_ | refine g_nx ?_ | refine g_rt ?_ | refine g_bkE ?_ | refine g_ctE ?_ | refine g_next ?_ | refine g_retN ?_ | refine g_brk ?_ | refine g_ct ?_ | refine g_c ?_ | refine g_op ?_ | refine g_un ?_ | refine g_rI0 ?_ | refine g_rU ?_ | refine g_rEqI ?_ | refine g_rNeI ?_ | refine g_isN ?_ | refine g_rIsB ?_ | refine g_rNotB ?_ | refine g_test ?_ | refine g_B ?_ | refine g_bl ?_ | refine g_and ?_ | refine g_or ?_ | refine g_not ?_ | refine g_andV ?_ | refine g_orV ?_ | refine g_notV ?_ | refine g_if ?_ | refine g_chain ?_ | refine g_yes ?_ | refine g_lc ?_ | refine g_revR ?_ | refine g_rng1 ?_ | refine g_iList ?_ | refine g_nil ?_ | refine g_cons ?_ | refine g_tup ?_ | refine g_lst ?_ | refine g_call ?_ | refine g_CB ?_ | refine g_sl ?_ | refine g_noPart ?_ | refine g_part ?_ | refine g_intE ?_ | refine g_ref ?_ | refine g_fld ?_ | refine g_sfld ?_ | refine g_meth ?_ | refine g_make ?_ | refine g_prop ?_  | refine g_ipI ?_ | refine g_int1 ?_ | refine g_int1B ?_ | refine g_one ?_ | refine g_two ?_ | refine g_isiI ?_ | refine g_isiIB ?_ | refine g_isiB ?_ | refine g_BM ?_ | refine g_BM0 ?_ | refine g_sub ?_)
local macro_rules | `(tactic| walk_at "go") => `(tactic| repeat (first | walk_at "go1" | ((with_reducible refine' g_nameE ?sd_ ?_); case sd_ => dsimp only [List.set_cons_succ, List.set_cons_zero]) | ((with_reducible refine' g_var ?sd_ ?_); case sd_ => exact rfl) | ((with_reducible refine' g_aug ?sd_ ?_); case sd_ => exact rfl) | ((with_reducible refine' g_rI ?sd_ ?_); case sd_ => walk_at "side") | ((with_reducible refine' g_dT ?sd_ ?_); case sd_ => walk_at "fact") | ((with_reducible refine' g_dF ?sd_ ?_); case sd_ => walk_at "fact") | ((with_reducible refine' g_nT ?sd_ ?_); case sd_ => walk_at "fact") | ((with_reducible refine' g_nF ?sd_ ?_); case sd_ => walk_at "fact") | (with_reducible refine g_iT rfl ?_) | (with_reducible refine g_iF rfl ?_) | walk_at "use"))
local macro_rules | `(tactic| walk_at "nw") => `(tactic| (generalize zq : upd _ _ _ = Hq; have sq : Same _ Hq := (by rw [← zq]; exact same_upd (by assumption)); have kq := (congrFun zq _).symm.trans upd_same; clear zq))
local macro_rules | `(tactic| walk_at "bt") => `(tactic| (generalize zq : upd _ _ _ = Hq; have bq : But _ _ Hq := (by rw [← zq]; exact But.refl.upd); have kq := (congrFun zq _).symm.trans upd_same; clear zq))
local macro_rules | `(tactic| walk_at "use") => `(tactic| first | ((with_reducible refine' fd_Channel_number ?ho_ ?hv_ ?_); (case ho_ => first | assumption | exact upd_same); (case hv_ => exact rfl)) | ((with_reducible refine' fd_Channel_announced ?ho_ ?hv_ ?_); (case ho_ => first | assumption | exact upd_same); (case hv_ => exact rfl)) | ((with_reducible refine' fd_Channel_queue ?ho_ ?hv_ ?_); (case ho_ => first | assumption | exact upd_same); (case hv_ => exact rfl)) | ((with_reducible refine' fd_Channel_credit ?ho_ ?hv_ ?_); (case ho_ => first | assumption | exact upd_same); (case hv_ => exact rfl)) | ((with_reducible refine' fd_Channel_finished ?ho_ ?hv_ ?_); (case ho_ => first | assumption | exact upd_same); (case hv_ => exact rfl)) | ((with_reducible refine' fd_Channel_end_sent ?ho_ ?hv_ ?_); (case ho_ => first | assumption | exact upd_same); (case hv_ => exact rfl)) | ((with_reducible refine' fd_Channel_unread ?ho_ ?hv_ ?_); (case ho_ => first | assumption | exact upd_same); (case hv_ => exact rfl)) | ((with_reducible refine' fd_Channel_due ?ho_ ?hv_ ?_); (case ho_ => first | assumption | exact upd_same); (case hv_ => exact rfl)) | ((with_reducible refine' fd_Channel_end_came ?ho_ ?hv_ ?_); (case ho_ => first | assumption | exact upd_same); (case hv_ => exact rfl)) | ((with_reducible refine' fd_Channel_broken ?ho_ ?hv_ ?_); (case ho_ => first | assumption | exact upd_same); (case hv_ => exact rfl)) | ((with_reducible refine' fd_Channel_reset_told ?ho_ ?hv_ ?_); (case ho_ => first | assumption | exact upd_same); (case hv_ => exact rfl)) | ((with_reducible refine' nw_Channel_number ?ho_ ?hv_ ?_); (case ho_ => first | assumption | exact upd_same); (case hv_ => exact rfl)) | ((with_reducible refine' nw_Channel_announced ?ho_ ?hv_ ?_); (case ho_ => first | assumption | exact upd_same); (case hv_ => exact rfl)) | ((with_reducible refine' nw_Channel_queue ?ho_ ?hv_ ?_); (case ho_ => first | assumption | exact upd_same); (case hv_ => exact rfl)) | ((with_reducible refine' nw_Channel_credit ?ho_ ?hv_ ?_); (case ho_ => first | assumption | exact upd_same); (case hv_ => exact rfl)) | ((with_reducible refine' nw_Channel_finished ?ho_ ?hv_ ?_); (case ho_ => first | assumption | exact upd_same); (case hv_ => exact rfl)) | ((with_reducible refine' nw_Channel_end_sent ?ho_ ?hv_ ?_); (case ho_ => first | assumption | exact upd_same); (case hv_ => exact rfl)) | ((with_reducible refine' nw_Channel_unread ?ho_ ?hv_ ?_); (case ho_ => first | assumption | exact upd_same); (case hv_ => exact rfl)) | ((with_reducible refine' nw_Channel_due ?ho_ ?hv_ ?_); (case ho_ => first | assumption | exact upd_same); (case hv_ => exact rfl)) | ((with_reducible refine' nw_Channel_end_came ?ho_ ?hv_ ?_); (case ho_ => first | assumption | exact upd_same); (case hv_ => exact rfl)) | ((with_reducible refine' nw_Channel_broken ?ho_ ?hv_ ?_); (case ho_ => first | assumption | exact upd_same); (case hv_ => exact rfl)) | ((with_reducible refine' nw_Channel_reset_told ?ho_ ?hv_ ?_); (case ho_ => first | assumption | exact upd_same); (case hv_ => exact rfl)) | ((with_reducible refine' st_Channel_number ?ho_ ?hv_ ?_); (case ho_ => first | assumption | exact upd_same); (case hv_ => exact Nat.le_of_ble_eq_true rfl)) | ((with_reducible refine' st_Channel_announced ?ho_ ?hv_ ?_); (case ho_ => first | assumption | exact upd_same); (case hv_ => exact Nat.le_of_ble_eq_true rfl)) | ((with_reducible refine' st_Channel_queue ?ho_ ?hv_ ?_); (case ho_ => first | assumption | exact upd_same); (case hv_ => exact Nat.le_of_ble_eq_true rfl)) | ((with_reducible refine' st_Channel_credit ?ho_ ?hv_ ?_); (case ho_ => first | assumption | exact upd_same); (case hv_ => exact Nat.le_of_ble_eq_true rfl)) | ((with_reducible refine' st_Channel_finished ?ho_ ?hv_ ?_); (case ho_ => first | assumption | exact upd_same); (case hv_ => exact Nat.le_of_ble_eq_true rfl)) | ((with_reducible refine' st_Channel_end_sent ?ho_ ?hv_ ?_); (case ho_ => first | assumption | exact upd_same); (case hv_ => exact Nat.le_of_ble_eq_true rfl)) | ((with_reducible refine' st_Channel_unread ?ho_ ?hv_ ?_); (case ho_ => first | assumption | exact upd_same); (case hv_ => exact Nat.le_of_ble_eq_true rfl)) | ((with_reducible refine' st_Channel_due ?ho_ ?hv_ ?_); (case ho_ => first | assumption | exact upd_same); (case hv_ => exact Nat.le_of_ble_eq_true rfl)) | ((with_reducible refine' st_Channel_end_came ?ho_ ?hv_ ?_); (case ho_ => first | assumption | exact upd_same); (case hv_ => exact Nat.le_of_ble_eq_true rfl)) | ((with_reducible refine' st_Channel_broken ?ho_ ?hv_ ?_); (case ho_ => first | assumption | exact upd_same); (case hv_ => exact Nat.le_of_ble_eq_true rfl)) | ((with_reducible refine' st_Channel_reset_told ?ho_ ?hv_ ?_); (case ho_ => first | assumption | exact upd_same); (case hv_ => exact Nat.le_of_ble_eq_true rfl)) | ((with_reducible refine' me_Channel_break_off ?ho_ ?_); (case ho_ => first | assumption | exact upd_same)))
local macro_rules | `(tactic| walk_at "use") => `(tactic| first | ((with_reducible refine' fd_Channels_failure ?ho_ ?hv_ ?_); (case ho_ => first | assumption | exact upd_same); (case hv_ => exact rfl)) | ((with_reducible refine' fd_Channels__window ?ho_ ?hv_ ?_); (case ho_ => first | assumption | exact upd_same); (case hv_ => exact rfl)) | ((with_reducible refine' fd_Channels__most ?ho_ ?hv_ ?_); (case ho_ => first | assumption | exact upd_same); (case hv_ => exact rfl)) | ((with_reducible refine' fd_Channels__next_here ?ho_ ?hv_ ?_); (case ho_ => first | assumption | exact upd_same); (case hv_ => exact rfl)) | ((with_reducible refine' fd_Channels__next_there ?ho_ ?hv_ ?_); (case ho_ => first | assumption | exact upd_same); (case hv_ => exact rfl)) | ((with_reducible refine' fd_Channels__channels ?ho_ ?hv_ ?_); (case ho_ => first | assumption | exact upd_same); (case hv_ => exact rfl)) | ((with_reducible refine' fd_Channels__numbers ?ho_ ?hv_ ?_); (case ho_ => first | assumption | exact upd_same); (case hv_ => exact rfl)) | ((with_reducible refine' fd_Channels__turns ?ho_ ?hv_ ?_); (case ho_ => first | assumption | exact upd_same); (case hv_ => exact rfl)) | ((with_reducible refine' fd_Channels__offered ?ho_ ?hv_ ?_); (case ho_ => first | assumption | exact upd_same); (case hv_ => exact rfl)) | ((with_reducible refine' fd_Channels__going ?ho_ ?hv_ ?_); (case ho_ => first | assumption | exact upd_same); (case hv_ => exact rfl)) | ((with_reducible refine' fd_Channels__coming ?ho_ ?hv_ ?_); (case ho_ => first | assumption | exact upd_same); (case hv_ => exact rfl)) | ((with_reducible refine' nw_Channels_failure ?ho_ ?hv_ ?_); (case ho_ => first | assumption | exact upd_same); (case hv_ => exact rfl)) | ((with_reducible refine' nw_Channels__window ?ho_ ?hv_ ?_); (case ho_ => first | assumption | exact upd_same); (case hv_ => exact rfl)) | ((with_reducible refine' nw_Channels__most ?ho_ ?hv_ ?_); (case ho_ => first | assumption | exact upd_same); (case hv_ => exact rfl)) | ((with_reducible refine' nw_Channels__next_here ?ho_ ?hv_ ?_); (case ho_ => first | assumption | exact upd_same); (case hv_ => exact rfl)) | ((with_reducible refine' nw_Channels__next_there ?ho_ ?hv_ ?_); (case ho_ => first | assumption | exact upd_same); (case hv_ => exact rfl)) | ((with_reducible refine' nw_Channels__channels ?ho_ ?hv_ ?_); (case ho_ => first | assumption | exact upd_same); (case hv_ => exact rfl)) | ((with_reducible refine' nw_Channels__numbers ?ho_ ?hv_ ?_); (case ho_ => first | assumption | exact upd_same); (case hv_ => exact rfl)) | ((with_reducible refine' nw_Channels__turns ?ho_ ?hv_ ?_); (case ho_ => first | assumption | exact upd_same); (case hv_ => exact rfl)) | ((with_reducible refine' nw_Channels__offered ?ho_ ?hv_ ?_); (case ho_ => first | assumption | exact upd_same); (case hv_ => exact rfl)) | ((with_reducible refine' nw_Channels__going ?ho_ ?hv_ ?_); (case ho_ => first | assumption | exact upd_same); (case hv_ => exact rfl)) | ((with_reducible refine' nw_Channels__coming ?ho_ ?hv_ ?_); (case ho_ => first | assumption | exact upd_same); (case hv_ => exact rfl)) | ((with_reducible refine' st_Channels_failure ?ho_ ?hv_ ?_); (case ho_ => first | assumption | exact upd_same); (case hv_ => exact Nat.le_of_ble_eq_true rfl)) | ((with_reducible refine' st_Channels__window ?ho_ ?hv_ ?_); (case ho_ => first | assumption | exact upd_same); (case hv_ => exact Nat.le_of_ble_eq_true rfl)) | ((with_reducible refine' st_Channels__most ?ho_ ?hv_ ?_); (case ho_ => first | assumption | exact upd_same); (case hv_ => exact Nat.le_of_ble_eq_true rfl)) | ((with_reducible refine' st_Channels__next_here ?ho_ ?hv_ ?_); (case ho_ => first | assumption | exact upd_same); (case hv_ => exact Nat.le_of_ble_eq_true rfl)) | ((with_reducible refine' st_Channels__next_there ?ho_ ?hv_ ?_); (case ho_ => first | assumption | exact upd_same); (case hv_ => exact Nat.le_of_ble_eq_true rfl)) | ((with_reducible refine' st_Channels__channels ?ho_ ?hv_ ?_); (case ho_ => first | assumption | exact upd_same); (case hv_ => exact Nat.le_of_ble_eq_true rfl)) | ((with_reducible refine' st_Channels__numbers ?ho_ ?hv_ ?_); (case ho_ => first | assumption | exact upd_same); (case hv_ => exact Nat.le_of_ble_eq_true rfl)) | ((with_reducible refine' st_Channels__turns ?ho_ ?hv_ ?_); (case ho_ => first | assumption | exact upd_same); (case hv_ => exact Nat.le_of_ble_eq_true rfl)) | ((with_reducible refine' st_Channels__offered ?ho_ ?hv_ ?_); (case ho_ => first | assumption | exact upd_same); (case hv_ => exact Nat.le_of_ble_eq_true rfl)) | ((with_reducible refine' st_Channels__going ?ho_ ?hv_ ?_); (case ho_ => first | assumption | exact upd_same); (case hv_ => exact Nat.le_of_ble_eq_true rfl)) | ((with_reducible refine' st_Channels__coming ?ho_ ?hv_ ?_); (case ho_ => first | assumption | exact upd_same); (case hv_ => exact Nat.le_of_ble_eq_true rfl)) | ((with_reducible refine' me_Channels_len__ ?ho_ ?_); (case ho_ => first | assumption | exact upd_same)) | ((with_reducible refine' me_Channels_iter__ ?ho_ ?_); (case ho_ => first | assumption | exact upd_same)) | ((with_reducible refine' me_Channels_open_channel ?ho_ ?_); (case ho_ => first | assumption | exact upd_same)) | ((with_reducible refine' me_Channels_accept ?ho_ ?_); (case ho_ => first | assumption | exact upd_same)) | ((with_reducible refine' me_Channels_write ?ho_ ?_); (case ho_ => first | assumption | exact upd_same)) | ((with_reducible refine' me_Channels_read ?ho_ ?_); (case ho_ => first | assumption | exact upd_same)) | ((with_reducible refine' me_Channels_finish ?ho_ ?_); (case ho_ => first | assumption | exact upd_same)) | ((with_reducible refine' me_Channels_reset ?ho_ ?_); (case ho_ => first | assumption | exact upd_same)) | ((with_reducible refine' me_Channels_status ?ho_ ?_); (case ho_ => first | assumption | exact upd_same)) | ((with_reducible refine' me_Channels_known ?ho_ ?_); (case ho_ => first | assumption | exact upd_same)) | ((with_reducible refine' me_Channels_add ?ho_ ?_); (case ho_ => first | assumption | exact upd_same)) | ((with_reducible refine' me_Channels_room_of ?ho_ ?_); (case ho_ => first | assumption | exact upd_same)))
section
variable {P : Program} {w : World} {K : PySem.W.Frag} {mg : Str → Option Value} {base : Heap}
local macro_rules | `(tactic| walk_at "use") => `(tactic| with_reducible first | refine g_rs0 ?_ | refine g_rs1 ?_ | refine g_tryA ?_ | refine g_tryO ?_ | refine g_callS ?_ | refine g_joined ?_ | refine g_jsnil ?_ | refine g_jscons ?_ | refine g_fmt ?_)
local macro_rules | `(tactic| walk_at "fit") => `(tactic| (refine fit2 ?_; (try simp only [PySem.Str.length_append]); omega))
local macro_rules | `(tactic| walk_at "use") => `(tactic| first | ((with_reducible refine' g_addS ?sd_ ?_); case sd_ => (first | omega | (simp only [PySem.Str.length_append]; omega))) | ((with_reducible refine' g_slS ?sd_ ?_); case sd_ => omega) | (with_reducible refine g_m0 ?_))

local macro_rules | `(tactic| walk_at "use") => `(tactic| with_reducible first | refine g_dgetI ?_ | refine g_dputI ?_ | refine g_dget1I ?_ | refine g_dget2I ?_ | refine g_dinI ?_ | refine g_dnotinI ?_ | refine g_dnewK ?_)

section
variable {K : PySem.W.Frag} {H : Hp} {Q : VK}
end
local macro_rules | `(tactic| walk_at "use") => `(tactic| with_reducible first | refine g_rEqS ?_ | refine g_rNeS ?_ | refine g_isiS ?_)

local macro_rules | `(tactic| walk_at "use") => `(tactic| first | ((with_reducible refine' dg_D_writable ?ho_ ?hv_ ?_); (case ho_ => first | assumption | exact upd_same); (case hv_ => exact rfl)) | ((with_reducible refine' dg_D_waiting ?ho_ ?hv_ ?_); (case ho_ => first | assumption | exact upd_same); (case hv_ => exact rfl)) | ((with_reducible refine' dg_D_readable ?ho_ ?hv_ ?_); (case ho_ => first | assumption | exact upd_same); (case hv_ => exact rfl)) | ((with_reducible refine' dg_D_finished ?ho_ ?hv_ ?_); (case ho_ => first | assumption | exact upd_same); (case hv_ => exact rfl)) | ((with_reducible refine' dg_D_at_end ?ho_ ?hv_ ?_); (case ho_ => first | assumption | exact upd_same); (case hv_ => exact rfl)) | ((with_reducible refine' dg_D_reset ?ho_ ?hv_ ?_); (case ho_ => first | assumption | exact upd_same); (case hv_ => exact rfl)) | ((with_reducible refine' dn_D_writable ?ho_ ?hv_ ?_); (case ho_ => first | assumption | exact upd_same); (case hv_ => exact rfl)) | ((with_reducible refine' dn_D_waiting ?ho_ ?hv_ ?_); (case ho_ => first | assumption | exact upd_same); (case hv_ => exact rfl)) | ((with_reducible refine' dn_D_readable ?ho_ ?hv_ ?_); (case ho_ => first | assumption | exact upd_same); (case hv_ => exact rfl)) | ((with_reducible refine' dn_D_finished ?ho_ ?hv_ ?_); (case ho_ => first | assumption | exact upd_same); (case hv_ => exact rfl)) | ((with_reducible refine' dn_D_at_end ?ho_ ?hv_ ?_); (case ho_ => first | assumption | exact upd_same); (case hv_ => exact rfl)) | ((with_reducible refine' dn_D_reset ?ho_ ?hv_ ?_); (case ho_ => first | assumption | exact upd_same); (case hv_ => exact rfl)) | ((with_reducible refine' dp_D_writable ?ho_ ?hv_ ?_); (case ho_ => first | assumption | exact upd_same); (case hv_ => exact Nat.le_of_ble_eq_true rfl)) | ((with_reducible refine' dp_D_waiting ?ho_ ?hv_ ?_); (case ho_ => first | assumption | exact upd_same); (case hv_ => exact Nat.le_of_ble_eq_true rfl)) | ((with_reducible refine' dp_D_readable ?ho_ ?hv_ ?_); (case ho_ => first | assumption | exact upd_same); (case hv_ => exact Nat.le_of_ble_eq_true rfl)) | ((with_reducible refine' dp_D_finished ?ho_ ?hv_ ?_); (case ho_ => first | assumption | exact upd_same); (case hv_ => exact Nat.le_of_ble_eq_true rfl)) | ((with_reducible refine' dp_D_at_end ?ho_ ?hv_ ?_); (case ho_ => first | assumption | exact upd_same); (case hv_ => exact Nat.le_of_ble_eq_true rfl)) | ((with_reducible refine' dp_D_reset ?ho_ ?hv_ ?_); (case ho_ => first | assumption | exact upd_same); (case hv_ => exact Nat.le_of_ble_eq_true rfl)))
local macro_rules | `(tactic| walk_at "use") => `(tactic| with_reducible first | refine g_dgetT ?_ | refine g_dputT ?_)
local macro_rules | `(tactic| walk_at "use") => `(tactic| first | ((with_reducible refine' dg_R_queue ?ho_ ?hv_ ?_); (case ho_ => first | assumption | exact upd_same); (case hv_ => exact rfl)) | ((with_reducible refine' dg_R_finished ?ho_ ?hv_ ?_); (case ho_ => first | assumption | exact upd_same); (case hv_ => exact rfl)) | ((with_reducible refine' dg_R_reset ?ho_ ?hv_ ?_); (case ho_ => first | assumption | exact upd_same); (case hv_ => exact rfl)) | ((with_reducible refine' dn_R_queue ?ho_ ?hv_ ?_); (case ho_ => first | assumption | exact upd_same); (case hv_ => exact rfl)) | ((with_reducible refine' dn_R_finished ?ho_ ?hv_ ?_); (case ho_ => first | assumption | exact upd_same); (case hv_ => exact rfl)) | ((with_reducible refine' dn_R_reset ?ho_ ?hv_ ?_); (case ho_ => first | assumption | exact upd_same); (case hv_ => exact rfl)) | ((with_reducible refine' dp_R_queue ?ho_ ?hv_ ?_); (case ho_ => first | assumption | exact upd_same); (case hv_ => exact Nat.le_of_ble_eq_true rfl)) | ((with_reducible refine' dp_R_finished ?ho_ ?hv_ ?_); (case ho_ => first | assumption | exact upd_same); (case hv_ => exact Nat.le_of_ble_eq_true rfl)) | ((with_reducible refine' dp_R_reset ?ho_ ?hv_ ?_); (case ho_ => first | assumption | exact upd_same); (case hv_ => exact Nat.le_of_ble_eq_true rfl)))
local macro_rules | `(tactic| walk_at "use") => `(tactic| with_reducible first | refine g_dgetT ?_ | refine g_dputT ?_)
local macro_rules | `(tactic| walk_at "use") => `(tactic| with_reducible first | refine g_disp ?_ | refine g_pcons ?_ | refine g_pnil ?_)
local macro_rules | `(tactic| walk_at "use") => `(tactic| with_reducible refine u_cell (by assumption) (by omega) ?_)

local macro_rules | `(tactic| walk_at "use") => `(tactic| with_reducible first | refine g_gcons ?_ | refine g_gnil ?_)

local macro_rules | `(tactic| walk_at "use") => `(tactic| with_reducible refine u_isint ?_)
def sp_l_step (K : PySem.W.Frag) (CS CC : Addr) : Sp := fun vs H Q _ => ∃ (H0 Hb : Hp) (p d st : Addr) (w m t n : Int), vs = [.ref p, .ref d, .ref st, .int w, .int t] ∧ RN CS CC H0 p d w m t Hb ∧ Same Hb H ∧ Hb st = none ∧ H st = some (.lst [.int n]) ∧ ∀ H', RN CS CC H0 p d w m t H' → Q (.bl true) H'
theorem ok_l_step (T : Txt P K mg) : FnOk P w K mg base CX0 6 T.f_l_step T.d_l_step ["side", "rows", "state", "window", "turn"] (sp_l_step K T.C_Channels T.C_Channel) := by
  refine T.F_l_step.ok sc_l_step (fun vs H Q E h => ?_) (fun cdv A outer s H vs Q E hr h => ?_)
  · obtain ⟨H0, Hb, p, d, sl_, w, m, t, n, rfl, ⟨own, S, x, cs, r, rfl, R⟩, sb, hs0, hs, q⟩ := h
    rfl
  · obtain ⟨H0, Hb, p, d, sl_, w, m, t, n, rfl, ⟨own, S, x, cs, r, rfl, R⟩, sb, hs0, hs, q⟩ := h
    have hu := hu_of hr
    refine ⟨_, (pss_cons (ps_set (i := 5) sc_l_step.nd rfl (Or.inl rfl) (pe_call (ok_l_digit T) (hr.mono (by decide)) rfl T.m_l_digit T.F_l_digit.kp T.b_l_digit .nil pass0 (pa_cons (pv 2) (pa_cons pe_int pa_nil))))
        (pss_cons (ps_set (i := 6) sc_l_step.nd rfl (Or.inl rfl) (pe_op op_add (pe_op op_add (pe_op op_add pe_int (pv 4)) (pe_op op_mul pe_int (pe_call (ok_l_digit T) (hr.mono (by decide)) rfl T.m_l_digit T.F_l_digit.kp T.b_l_digit .nil pass0 (pa_cons (pv 2) (pa_cons (pe_callB (call_max2 rfl) (by rfl) T.n_max (by decide +kernel) (pa_cons pe_int (pa_cons (pe_callB (call_min2 rfl) (by rfl) T.n_min (by decide +kernel) (pa_cons (pe_callB call_lenD (by rfl) T.n_len (by decide +kernel) (pa_cons (pv 1) pa_nil)) (pa_cons pe_int pa_nil))) pa_nil))) pa_nil))))) (pe_callTy call_int1 (by rfl) T.n_int (by decide +kernel) (pa_cons (pe_cmpR op_eq (pe_call (ok_l_digit T) (hr.mono (by decide)) rfl T.m_l_digit T.F_l_digit.kp T.b_l_digit .nil pass0 (pa_cons (pv 2) (pa_cons pe_int pa_nil))) pe_int (nomark _)) pa_nil))))
        (pss_cons (ps_if (pt_cmpR op_eq (pv 5) pe_int (nomark _)) (pss_one (ps_ret (pe_call (ok_l_open T) (hr.mono (by decide)) rfl T.m_l_open T.F_l_open.kp T.b_l_open .nil pass0 (pa_cons (pv 0) (pa_cons (pv 1) (pa_cons (pv 4) pa_nil)))))) pss_nil)
        (pss_cons (ps_if (pt_cmpR op_lt (pv 5) pe_int (nomark _)) (pss_cons (ps_setLc (i := 7) (own := [("k", 9)]) (g := gName 9) (tt := tYes) rfl sc_l_step.nd rfl rfl (sw_true rfl rfl rfl (by decide +kernel)) (pi_range1 (by rfl) T.n_range (pa_cons (pe_call (ok_l_digit T) (hr.mono (by decide)) rfl T.m_l_digit T.F_l_digit.kp T.b_l_digit .nil pass0 (pa_cons (pv 2) (pa_cons pe_int pa_nil))) pa_nil)) (blkOk_by (N := ["side", "rows", "state", "window", "turn", "kind", "number", "octets", "told", "k"]) (sc := defScope s_l_step) (by decide +kernel)) (fun _ _ _ _ _ => (pg_name (i := 9) sc_l_step.nd rfl (Or.inl rfl))) (fun _ _ _ _ _ => pts_nil) (fun _ _ _ _ _ => (pe_call (ok_l_digit T) (hr.mono (by decide)) rfl T.m_l_digit T.F_l_digit.kp T.b_l_digit .nil pass0 (pa_cons (pv 2) (pa_cons pe_int pa_nil)))))
        (pss_one (ps_ret (pe_call (ok_l_write T) (hr.mono (by decide)) rfl T.m_l_write T.F_l_write.kp T.b_l_write .nil pass0 (pa_cons (pv 0) (pa_cons (pv 1) (pa_cons (pv 6) (pa_cons (pv 7) (pa_cons (pv 3) pa_nil))))))))) pss_nil)
        (pss_cons (ps_if (pt_cmpR op_eq (pv 5) pe_int (nomark _)) (pss_cons (ps_set (i := 8) sc_l_step.nd rfl (Or.inl rfl) (pe_call (ok_l_call T) (hr.mono (by decide)) rfl T.m_l_call T.F_l_call.kp T.b_l_call .nil pass0 (pa_cons (pv 0) (pa_cons pe_str (pa_cons (pe_tup (pa_cons (pv 6) (pa_cons pe_int pa_nil))) pa_nil)))))
        (pss_cons (ps_if (pt_cmp (pc_dnotin hu (pv 6) (pv 1))) (pss_one (ps_ret (pe_cmpR (op_eqD hr.units) (pv 8) (pe_tup (pa_cons pe_str (pa_cons pe_bl pa_nil))) (nomark _)))) pss_nil)
        (pss_cons (ps_dput hu (pe_dget hu (pv 1) (pv 6) (fun _ _ => rfl)) pe_str pe_bl rfl)
        (pss_one (ps_ret (pe_cmpR op_isN (pv 8) pe_non (nomark _))))))) pss_nil)
        (pss_cons (ps_if (pt_cmpR op_eq (pv 5) pe_int (nomark _)) (pss_one (ps_ret (pe_call (ok_l_reset T) (hr.mono (by decide)) rfl T.m_l_reset T.F_l_reset.kp T.b_l_reset .nil pass0 (pa_cons (pv 0) (pa_cons (pv 1) (pa_cons (pv 6) (pa_cons (pe_ix ix_tup (pe_tup (pa_cons (pe_call (ok_l_digit T) (hr.mono (by decide)) rfl T.m_l_digit T.F_l_digit.kp T.b_l_digit .nil pass0 (pa_cons (pv 2) (pa_cons pe_int pa_nil))) (pa_cons (pe_un un_neg pe_int) (pa_cons pe_int (pa_cons pe_int pa_nil))))) (pe_call (ok_l_digit T) (hr.mono (by decide)) rfl T.m_l_digit T.F_l_digit.kp T.b_l_digit .nil pass0 (pa_cons (pv 2) (pa_cons pe_int pa_nil))) (fun _ _ => rfl)) pa_nil))))))) pss_nil)
        (pss_cons (ps_if (pt_cmpR op_eq (pv 5) pe_int (nomark _)) (pss_one (ps_ret (pe_call (ok_l_read T) (hr.mono (by decide)) rfl T.m_l_read T.F_l_read.kp T.b_l_read .nil pass0 (pa_cons (pv 0) (pa_cons (pv 1) (pa_cons (pv 6) (pa_cons (pe_op op_sub (pe_call (ok_l_digit T) (hr.mono (by decide)) rfl T.m_l_digit T.F_l_digit.kp T.b_l_digit .nil pass0 (pa_cons (pv 2) (pa_cons pe_int pa_nil))) pe_int) pa_nil))))))) pss_nil)
        (pss_one (ps_ret (pe_cmpR (op_eqD hr.units) (pe_call (ok_l_call T) (hr.mono (by decide)) rfl T.m_l_call T.F_l_call.kp T.b_l_call .nil pass0 (pa_cons (pv 0) (pa_cons pe_str (pa_cons (pe_tup (pa_cons (pe_op op_add (pv 6) pe_int) (pa_cons pe_int pa_nil))) pa_nil)))) (pe_tup (pa_cons pe_str (pa_cons pe_bl pa_nil))) (nomark _))))))))))), ?_⟩
    dsimp only [cxOf, Cx.nox, Cx.wish, L2.start, List.map, List.cons_append, List.nil_append, List.length_cons, List.length_nil, Nat.reduceAdd, Nat.reduceSub, Nat.zero_add, List.replicate_succ, List.replicate_zero]
    have h1 := R.sd.h1
    have h2 := R.sd.h2
    have nds : d ≠ sl_ := fun z => by have e := R.hd; rw [z, hs0] at e; cases e
    have hdH := sb _ _ R.hd
    walk_at "go"
    refine u_digit hs (by decide) (by decide) ?_
    have b1 : But sl_ H (upd H sl_ (.lst [.int (n / 8)])) := But.refl.upd
    generalize zq1 : upd H sl_ (.lst [.int (n / 8)]) = H1 at b1
    have k1 : H1 sl_ = some (.lst [.int (n / 8)]) := by rw [← zq1]; exact upd_same
    clear zq1
    have hd1 := b1 _ _ nds hdH
    walk_at "go"
    refine ⟨d, _, rfl, hd1, ?_⟩
    rw [rowsK_len]
    walk_at "go"
    have hM : ∀ M : Int, M = (if (if 9 < (cs.length : Int) then 9 else (cs.length : Int)) > 1 then if 9 < (cs.length : Int) then 9 else (cs.length : Int) else 1) → 1 ≤ M ∧ M ≤ 9 := fun M e => by rw [e]; split <;> split <;> omega
    generalize hMe : (if (if 9 < (cs.length : Int) then (9 : Int) else (cs.length : Int)) > 1 then if 9 < (cs.length : Int) then (9 : Int) else (cs.length : Int) else 1) = M
    obtain ⟨M1, M2⟩ := hM M hMe.symm
    refine u_digit k1 (by omega) (by omega) ?_
    have b2 : But sl_ H1 (upd H1 sl_ (.lst [.int (n / 8 / M)])) := But.refl.upd
    generalize zq2 : upd H1 sl_ (.lst [.int (n / 8 / M)]) = H2 at b2
    have k2 : H2 sl_ = some (.lst [.int (n / 8 / M)]) := by rw [← zq2]; exact upd_same
    clear zq2
    have u0 := Int.emod_nonneg (n / 8) (show M ≠ 0 by omega)
    have u1 := Int.emod_lt_of_pos (n / 8) (show 0 < M by omega)
    generalize n / 8 % M = u at u0 u1
    generalize n / 8 / M = n2 at k2
    walk_at "go"
    refine u_digit k2 (by decide) (by decide) ?_
    have b3 : But sl_ H2 (upd H2 sl_ (.lst [.int (n2 / 9)])) := But.refl.upd
    generalize zq3 : upd H2 sl_ (.lst [.int (n2 / 9)]) = H3 at b3
    have k3 : H3 sl_ = some (.lst [.int (n2 / 9)]) := by rw [← zq3]; exact upd_same
    clear zq3
    generalize n2 / 9 = n3 at k3
    walk_at "go"
    generalize hk : 1 + t + 2 * u + (if decide (n2 % 9 = 0) = true then 1 else 0) = k
    have k01 : 0 ≤ k ∧ k ≤ 1000 := by
      rw [← hk]
      split <;> omega
    obtain ⟨k0, k9⟩ := k01
    have s3 : Same Hb H3 := ((But.of sb).trans (b1.trans (b2.trans b3))).same hs0
    have R3 := R.same s3
    walk_at "go"
    refine g_ite (fun z1 => ?_) fun z1 => ?_
    · walk_at "go"
      exact ⟨H0, S.p, d, w, m, t, rfl, ⟨own, S, x, cs, r, rfl, R3⟩, q⟩
    walk_at "go"
    refine g_ite (fun z2 => ?_) fun z2 => ?_
    · walk_at "go"
      refine u_digit k3 (by decide) (by decide) ?_
      have b4 : But sl_ H3 (upd H3 sl_ (.lst [.int (n3 / 13)])) := But.refl.upd
      generalize zq4 : upd H3 sl_ (.lst [.int (n3 / 13)]) = H4 at b4
      have k4 : H4 sl_ = some (.lst [.int (n3 / 13)]) := by rw [← zq4]; exact upd_same
      clear zq4
      have c0 := Int.emod_nonneg n3 (show (13 : Int) ≠ 0 by decide)
      have c1 := Int.emod_lt_of_pos n3 (show (0 : Int) < 13 by decide)
      walk_at "go"
      refine ⟨by omega, by omega, fun D hD => ?_⟩
      refine lc_digs hD k4 (by decide) (by decide) (by omega) (fun x => rfl) fun H5 us n5 b5 e5 k5 l5 r5 => ?_
      have nDs : D ≠ sl_ := fun z => by rw [z, k4] at hD; cases hD
      have s4 : Same Hb H4 := ((But.of s3).trans b4).same hs0
      have s5 : Same Hb H5 := ((But.of s4).trans b5).same hs0
      have hDb : Hb D = none := free_of (fun b o e => some_none (s4 b o e)) hD
      walk_at "go"
      exact ⟨H0, Hb, S.p, d, D, w, m, t, k, us, rfl, ⟨own, S, x, cs, r, rfl, R⟩, s5, hDb, e5, (by omega), k0, (by omega), q⟩
    walk_at "go"
    refine g_ite (fun z3 => ?_) fun z3 => ?_
    · walk_at "go"
      refine ⟨by show 2 ≤ sizeLine; decide, fun ta hta => ?_⟩
      walk_at "nw"
      rename_i H4 s4 kt
      have R4 := R3.same s4
      walk_at "go"
      refine ⟨own, S, x, w, m, t, cs, ta, "finish", rfl, R4.sd, .inr (.inr (.inr (.inl ⟨k, 0, rfl, kt, k0, (by omega), ?_⟩)))⟩
      rcases pos_none (t := t) (n := cs.length) (k := k) with e | ⟨i, e⟩
      · refine .inl ⟨e, fun pr hpr => ?_⟩
        walk_at "nw"
        rename_i H5 s5 k5
        have R5 := R4.same s5
        have gd5 := R5.get k
        rw [e] at gd5
        walk_at "go"
        refine ⟨d, _, rfl, gd5, ?_⟩
        walk_at "go"
        refine ⟨by show 2 ≤ sizeLine; decide, fun pt hpt => ?_⟩
        walk_at "nw"
        rename_i H6 s6 k6
        refine g_eqPr (by decide +kernel) (s6 _ _ k5) k6 ?_
        exact q _ ⟨own, S, x, cs, r, rfl, R5.same s6⟩
      · obtain ⟨hil, _⟩ := pos_some.mp e
        obtain ⟨c, hi⟩ : ∃ c, cs[i]? = some c := ⟨_, List.getElem?_eq_getElem hil⟩
        refine .inr ⟨i, c, e, hi, fun H5 O5 b5 => ?_⟩
        have R5 := R4.side O5 (fun _ _ => rfl) (fun b o z e => b5 _ _ (fun zz => by rw [zz, (R4.sd.oc i hil).1] at z; cases z) e)
        have gd5 := R5.get k
        rw [e] at gd5
        obtain ⟨g1, g2, g3⟩ := R5.hr i c hi
        walk_at "go"
        refine ⟨d, _, rfl, gd5, ?_⟩
        walk_at "go"
        refine ⟨d, _, rfl, gd5, ?_⟩
        walk_at "go"
        simp only [List.set_cons_succ, List.set_cons_zero]
        walk_at "bt"
        rename_i H6 b6 k6
        walk_at "go"
        refine q _ ⟨_, _, _, _, _, rfl, R5.row hi (y := r i) rfl rfl (fun b o n1 n2 e => b6 _ _ n1 e) (c' := ⟨c.q, true, c.br⟩) ⟨k6, b6 _ _ (ne_of g2 g1 (fun z => nomatch z)) g2, ?_⟩ (R5.hw i hil).2.2.2.2⟩
        exact g3.same fun tt o ⟨kk, ek⟩ et => b6 _ _ (ne_of et g1 (by rw [ek]; exact fun z => nomatch z)) et
    walk_at "go"
    refine g_ite (fun z4 => ?_) fun z4 => ?_
    · walk_at "go"
      refine u_digit k3 (by decide) (by decide) ?_
      have b4 : But sl_ H3 (upd H3 sl_ (.lst [.int (n3 / 65536)])) := But.refl.upd
      generalize zq4 : upd H3 sl_ (.lst [.int (n3 / 65536)]) = H4 at b4
      have k4 : H4 sl_ = some (.lst [.int (n3 / 65536)]) := by rw [← zq4]; exact upd_same
      clear zq4
      have c0 := Int.emod_nonneg n3 (show (65536 : Int) ≠ 0 by decide)
      have c1 := Int.emod_lt_of_pos n3 (show (0 : Int) < 65536 by decide)
      walk_at "go"
      refine ⟨by show 4 ≤ sizeLine; decide, fun ta hta => ?_⟩
      walk_at "nw"
      rename_i H5 s5 kt
      have nts : ta ≠ sl_ := fun z => by rw [z, k4] at hta; cases hta
      walk_at "go"
      refine u_digit (s5 _ _ k4) (by decide) (by decide) ?_
      have b6 : But sl_ H5 (upd H5 sl_ (.lst [.int (n3 / 65536 / 4)])) := But.refl.upd
      generalize upd H5 sl_ (.lst [.int (n3 / 65536 / 4)]) = H6 at b6
      have kt6 := b6 _ _ nts kt
      have e0 := Int.emod_nonneg (n3 / 65536) (show (4 : Int) ≠ 0 by decide)
      have e1 := Int.emod_lt_of_pos (n3 / 65536) (show (0 : Int) < 4 by decide)
      generalize n3 / 65536 % 4 = j at e0 e1
      have s6 : Same Hb H6 := ((But.of s3).trans (b4.trans ((But.of s5).trans b6))).same hs0
      obtain ⟨y, hy, y0, y1⟩ : ∃ y, atI [V.int (n3 % 65536), V.int (-1), V.int 65536, V.int 0] j = some (.int y) ∧ -1000000 ≤ y ∧ y ≤ 1000000 := by
        have : j = 0 ∨ j = 1 ∨ j = 2 ∨ j = 3 := by omega
        rcases this with rfl | rfl | rfl | rfl
        · exact ⟨n3 % 65536, rfl, by omega, by omega⟩
        · exact ⟨-1, rfl, by omega, by omega⟩
        · exact ⟨65536, rfl, by omega, by omega⟩
        · exact ⟨0, rfl, by omega, by omega⟩
      refine g_ixT (st kt6) hy ?_
      walk_at "go"
      exact ⟨H0, S.p, d, w, m, t, k, y, rfl, ⟨own, S, x, cs, r, rfl, R.same s6⟩, k0, (by omega), y0, y1, q⟩
    walk_at "go"
    refine g_ite (fun z5 => ?_) fun z5 => ?_
    · walk_at "go"
      refine u_digit k3 (by decide) (by decide) ?_
      have b4 : But sl_ H3 (upd H3 sl_ (.lst [.int (n3 / 5)])) := But.refl.upd
      generalize zq4 : upd H3 sl_ (.lst [.int (n3 / 5)]) = H4 at b4
      have k4 : H4 sl_ = some (.lst [.int (n3 / 5)]) := by rw [← zq4]; exact upd_same
      clear zq4
      have c0 := Int.emod_nonneg n3 (show (5 : Int) ≠ 0 by decide)
      have c1 := Int.emod_lt_of_pos n3 (show (0 : Int) < 5 by decide)
      have s4 : Same Hb H4 := ((But.of s3).trans b4).same hs0
      walk_at "go"
      exact ⟨H0, S.p, d, w, m, t, k, n3 % 5 - 1, rfl, ⟨own, S, x, cs, r, rfl, R.same s4⟩, k0, (by omega), (by omega), (by omega), q⟩
    walk_at "go"
    refine ⟨by show 2 ≤ sizeLine; decide, fun ta hta => ?_⟩
    walk_at "nw"
    rename_i H4 s4 kt
    have R4 := R3.same s4
    walk_at "go"
    refine ⟨own, S, x, w, m, t, cs, ta, "status", rfl, R4.sd, .inr (.inr (.inr (.inr (.inr ⟨k + 90000, 0, rfl, kt, (by omega), (by omega), .inl ⟨?_, fun pr hpr => ?_⟩⟩))))⟩
    · rcases pos_none (t := t) (n := cs.length) (k := k + 90000) with e | ⟨i, e⟩
      · exact e
      · obtain ⟨g1, g2⟩ := pos_some.mp e
        unfold nb at g2
        omega
    · walk_at "nw"
      rename_i H5 s5 k5
      walk_at "go"
      refine ⟨by show 2 ≤ sizeLine; decide, fun pt hpt => ?_⟩
      walk_at "nw"
      rename_i H6 s6 k6
      refine g_eqPr (by decide +kernel) (s6 _ _ k5) k6 ?_
      exact q _ ⟨own, S, x, cs, r, rfl, R4.same (s5.trans s6)⟩

end
end My
namespace My
open PySem PySem.Spec L2
local macro_rules | `(tactic| walk_at "side") => `(tactic| first | assumption | decide | omega | exact ⟨by decide, by decide⟩ | exact ⟨by decide, by decide, by decide⟩ | decide +kernel | exact cdivW (by decide +kernel) (by decide +kernel) | exact Or.inl ⟨by omega, by omega⟩ | exact Or.inr ⟨by omega, by omega⟩ | (simp only [List.length_map, List.length_cons, List.length_nil, List.length_append]; omega))
local macro_rules | `(tactic| walk_at "fact") => `(tactic| first | assumption | omega | with_reducible rfl)
local macro_rules | `(tactic| walk_at "use") => `(tactic| fail "use")
local macro_rules | `(tactic| walk_at "go1") => `(tactic| with_reducible first | refine g_seq ?_ | refine g_asg ?_ | refine g_ret ?_ | refine g_ifS ?_ | refine g_drop ?_ | refine g_star ?_ | refine g_nx ?_ | refine g_rt ?_ | refine g_bkE ?_ | refine g_ctE ?_ | refine g_next ?_ | refine g_retN ?_ | refine g_brk ?_ | refine g_ct ?_ | refine g_c ?_ | refine g_op ?_ | refine g_un ?_ | refine g_rI0 ?_ | refine g_rU ?_ | refine g_rEqI ?_ | refine g_rNeI ?_ | refine g_isN ?_ | refine g_rIsB ?_ | refine g_rNotB ?_ | refine g_test ?_ | refine g_B ?_ | refine g_bl ?_ | refine g_and ?_ | refine g_or ?_ | refine g_not ?_ | refine g_andV ?_ | refine g_orV ?_ | refine g_notV ?_ | refine g_if ?_ | refine g_chain ?_ | refine g_yes ?_ | refine g_lc ?_ | refine g_revR ?_ | refine g_rng1 ?_ | refine g_iList ?_ | refine g_nil ?_ | refine g_cons ?_ | refine g_tup ?_ | refine g_lst ?_ | refine g_call ?_ | refine g_CB ?_ | refine g_sl ?_ | refine g_noPart ?_ | refine g_part ?_ | refine g_intE ?_ | refine g_ref ?_ | refine g_fld ?_ | refine g_sfld ?_ | refine g_meth ?_ | refine g_make ?_ | refine g_prop ?_  | refine g_ipI ?_ | refine g_int1 ?_ | refine g_int1B ?_ | refine g_one ?_ | refine g_two ?_ | refine g_isiI ?_ | refine g_isiIB ?_ | refine g_isiB ?_ | refine g_BM ?_ | refine g_BM0 ?_ | refine g_sub ?_)
local macro_rules | `(tactic| walk_at "go") => `(tactic| repeat (first | walk_at "go1" | ((with_reducible refine' g_nameE ?sd_ ?_); case sd_ => dsimp only [List.set_cons_succ, List.set_cons_zero]) | ((with_reducible refine' g_var ?sd_ ?_); case sd_ => exact rfl) | ((with_reducible refine' g_aug ?sd_ ?_); case sd_ => exact rfl) | ((with_reducible refine' g_rI ?sd_ ?_); case sd_ => walk_at "side") | ((with_reducible refine' g_dT ?sd_ ?_); case sd_ => walk_at "fact") | ((with_reducible refine' g_dF ?sd_ ?_); case sd_ => walk_at "fact") | ((with_reducible refine' g_nT ?sd_ ?_); case sd_ => walk_at "fact") | ((with_reducible refine' g_nF ?sd_ ?_); case sd_ => walk_at "fact") | (with_reducible refine g_iT rfl ?_) | (with_reducible refine g_iF rfl ?_) | walk_at "use"))
local macro_rules | `(tactic| walk_at "nw") => `(tactic| (generalize zq : upd _ _ _ = Hq; have sq : Same _ Hq := (by rw [← zq]; exact same_upd (by assumption)); have kq := (congrFun zq _).symm.trans upd_same; clear zq))
local macro_rules | `(tactic| walk_at "bt") => `(tactic| (generalize zq : upd _ _ _ = Hq; have bq : But _ _ Hq := (by rw [← zq]; exact But.refl.upd); have kq := (congrFun zq _).symm.trans upd_same; clear zq))
local macro_rules | `(tactic| walk_at "use") => `(tactic| first | ((with_reducible refine' fd_Channel_number ?ho_ ?hv_ ?_); (case ho_ => first | assumption | exact upd_same); (case hv_ => exact rfl)) | ((with_reducible refine' fd_Channel_announced ?ho_ ?hv_ ?_); (case ho_ => first | assumption | exact upd_same); (case hv_ => exact rfl)) | ((with_reducible refine' fd_Channel_queue ?ho_ ?hv_ ?_); (case ho_ => first | assumption | exact upd_same); (case hv_ => exact rfl)) | ((with_reducible refine' fd_Channel_credit ?ho_ ?hv_ ?_); (case ho_ => first | assumption | exact upd_same); (case hv_ => exact rfl)) | ((with_reducible refine' fd_Channel_finished ?ho_ ?hv_ ?_); (case ho_ => first | assumption | exact upd_same); (case hv_ => exact rfl)) | ((with_reducible refine' fd_Channel_end_sent ?ho_ ?hv_ ?_); (case ho_ => first | assumption | exact upd_same); (case hv_ => exact rfl)) | ((with_reducible refine' fd_Channel_unread ?ho_ ?hv_ ?_); (case ho_ => first | assumption | exact upd_same); (case hv_ => exact rfl)) | ((with_reducible refine' fd_Channel_due ?ho_ ?hv_ ?_); (case ho_ => first | assumption | exact upd_same); (case hv_ => exact rfl)) | ((with_reducible refine' fd_Channel_end_came ?ho_ ?hv_ ?_); (case ho_ => first | assumption | exact upd_same); (case hv_ => exact rfl)) | ((with_reducible refine' fd_Channel_broken ?ho_ ?hv_ ?_); (case ho_ => first | assumption | exact upd_same); (case hv_ => exact rfl)) | ((with_reducible refine' fd_Channel_reset_told ?ho_ ?hv_ ?_); (case ho_ => first | assumption | exact upd_same); (case hv_ => exact rfl)) | ((with_reducible refine' nw_Channel_number ?ho_ ?hv_ ?_); (case ho_ => first | assumption | exact upd_same); (case hv_ => exact rfl)) | ((with_reducible refine' nw_Channel_announced ?ho_ ?hv_ ?_); (case ho_ => first | assumption | exact upd_same); (case hv_ => exact rfl)) | ((with_reducible refine' nw_Channel_queue ?ho_ ?hv_ ?_); (case ho_ => first | assumption | exact upd_same); (case hv_ => exact rfl)) | ((with_reducible refine' nw_Channel_credit ?ho_ ?hv_ ?_); (case ho_ => first | assumption | exact upd_same); (case hv_ => exact rfl)) | ((with_reducible refine' nw_Channel_finished ?ho_ ?hv_ ?_); (case ho_ => first | assumption | exact upd_same); (case hv_ => exact rfl)) | ((with_reducible refine' nw_Channel_end_sent ?ho_ ?hv_ ?_); (case ho_ => first | assumption | exact upd_same); (case hv_ => exact rfl)) | ((with_reducible refine' nw_Channel_unread ?ho_ ?hv_ ?_); (case ho_ => first | assumption | exact upd_same); (case hv_ => exact rfl)) | ((with_reducible refine' nw_Channel_due ?ho_ ?hv_ ?_); (case ho_ => first | assumption | exact upd_same); (case hv_ => exact rfl)) | ((with_reducible refine' nw_Channel_end_came ?ho_ ?hv_ ?_); (case ho_ => first | assumption | exact upd_same); (case hv_ => exact rfl)) | ((with_reducible refine' nw_Channel_broken ?ho_ ?hv_ ?_); (case ho_ => first | assumption | exact upd_same); (case hv_ => exact rfl)) | ((with_reducible refine' nw_Channel_reset_told ?ho_ ?hv_ ?_); (case ho_ => first | assumption | exact upd_same); (case hv_ => exact rfl)) | ((with_reducible refine' st_Channel_number ?ho_ ?hv_ ?_); (case ho_ => first | assumption | exact upd_same); (case hv_ => exact Nat.le_of_ble_eq_true rfl)) | ((with_reducible refine' st_Channel_announced ?ho_ ?hv_ ?_); (case ho_ => first | assumption | exact upd_same); (case hv_ => exact Nat.le_of_ble_eq_true rfl)) | ((with_reducible refine' st_Channel_queue ?ho_ ?hv_ ?_); (case ho_ => first | assumption | exact upd_same); (case hv_ => exact Nat.le_of_ble_eq_true rfl)) | ((with_reducible refine' st_Channel_credit ?ho_ ?hv_ ?_); (case ho_ => first | assumption | exact upd_same); (case hv_ => exact Nat.le_of_ble_eq_true rfl)) | ((with_reducible refine' st_Channel_finished ?ho_ ?hv_ ?_); (case ho_ => first | assumption | exact upd_same); (case hv_ => exact Nat.le_of_ble_eq_true rfl)) | ((with_reducible refine' st_Channel_end_sent ?ho_ ?hv_ ?_); (case ho_ => first | assumption | exact upd_same); (case hv_ => exact Nat.le_of_ble_eq_true rfl)) | ((with_reducible refine' st_Channel_unread ?ho_ ?hv_ ?_); (case ho_ => first | assumption | exact upd_same); (case hv_ => exact Nat.le_of_ble_eq_true rfl)) | ((with_reducible refine' st_Channel_due ?ho_ ?hv_ ?_); (case ho_ => first | assumption | exact upd_same); (case hv_ => exact Nat.le_of_ble_eq_true rfl)) | ((with_reducible refine' st_Channel_end_came ?ho_ ?hv_ ?_); (case ho_ => first | assumption | exact upd_same); (case hv_ => exact Nat.le_of_ble_eq_true rfl)) | ((with_reducible refine' st_Channel_broken ?ho_ ?hv_ ?_); (case ho_ => first | assumption | exact upd_same); (case hv_ => exact Nat.le_of_ble_eq_true rfl)) | ((with_reducible refine' st_Channel_reset_told ?ho_ ?hv_ ?_); (case ho_ => first | assumption | exact upd_same); (case hv_ => exact Nat.le_of_ble_eq_true rfl)) | ((with_reducible refine' me_Channel_break_off ?ho_ ?_); (case ho_ => first | assumption | exact upd_same)))
local macro_rules | `(tactic| walk_at "use") => `(tactic| first | ((with_reducible refine' fd_Channels_failure ?ho_ ?hv_ ?_); (case ho_ => first | assumption | exact upd_same); (case hv_ => exact rfl)) | ((with_reducible refine' fd_Channels__window ?ho_ ?hv_ ?_); (case ho_ => first | assumption | exact upd_same); (case hv_ => exact rfl)) | ((with_reducible refine' fd_Channels__most ?ho_ ?hv_ ?_); (case ho_ => first | assumption | exact upd_same); (case hv_ => exact rfl)) | ((with_reducible refine' fd_Channels__next_here ?ho_ ?hv_ ?_); (case ho_ => first | assumption | exact upd_same); (case hv_ => exact rfl)) | ((with_reducible refine' fd_Channels__next_there ?ho_ ?hv_ ?_); (case ho_ => first | assumption | exact upd_same); (case hv_ => exact rfl)) | ((with_reducible refine' fd_Channels__channels ?ho_ ?hv_ ?_); (case ho_ => first | assumption | exact upd_same); (case hv_ => exact rfl)) | ((with_reducible refine' fd_Channels__numbers ?ho_ ?hv_ ?_); (case ho_ => first | assumption | exact upd_same); (case hv_ => exact rfl)) | ((with_reducible refine' fd_Channels__turns ?ho_ ?hv_ ?_); (case ho_ => first | assumption | exact upd_same); (case hv_ => exact rfl)) | ((with_reducible refine' fd_Channels__offered ?ho_ ?hv_ ?_); (case ho_ => first | assumption | exact upd_same); (case hv_ => exact rfl)) | ((with_reducible refine' fd_Channels__going ?ho_ ?hv_ ?_); (case ho_ => first | assumption | exact upd_same); (case hv_ => exact rfl)) | ((with_reducible refine' fd_Channels__coming ?ho_ ?hv_ ?_); (case ho_ => first | assumption | exact upd_same); (case hv_ => exact rfl)) | ((with_reducible refine' nw_Channels_failure ?ho_ ?hv_ ?_); (case ho_ => first | assumption | exact upd_same); (case hv_ => exact rfl)) | ((with_reducible refine' nw_Channels__window ?ho_ ?hv_ ?_); (case ho_ => first | assumption | exact upd_same); (case hv_ => exact rfl)) | ((with_reducible refine' nw_Channels__most ?ho_ ?hv_ ?_); (case ho_ => first | assumption | exact upd_same); (case hv_ => exact rfl)) | ((with_reducible refine' nw_Channels__next_here ?ho_ ?hv_ ?_); (case ho_ => first | assumption | exact upd_same); (case hv_ => exact rfl)) | ((with_reducible refine' nw_Channels__next_there ?ho_ ?hv_ ?_); (case ho_ => first | assumption | exact upd_same); (case hv_ => exact rfl)) | ((with_reducible refine' nw_Channels__channels ?ho_ ?hv_ ?_); (case ho_ => first | assumption | exact upd_same); (case hv_ => exact rfl)) | ((with_reducible refine' nw_Channels__numbers ?ho_ ?hv_ ?_); (case ho_ => first | assumption | exact upd_same); (case hv_ => exact rfl)) | ((with_reducible refine' nw_Channels__turns ?ho_ ?hv_ ?_); (case ho_ => first | assumption | exact upd_same); (case hv_ => exact rfl)) | ((with_reducible refine' nw_Channels__offered ?ho_ ?hv_ ?_); (case ho_ => first | assumption | exact upd_same); (case hv_ => exact rfl)) | ((with_reducible refine' nw_Channels__going ?ho_ ?hv_ ?_); (case ho_ => first | assumption | exact upd_same); (case hv_ => exact rfl)) | ((with_reducible refine' nw_Channels__coming ?ho_ ?hv_ ?_); (case ho_ => first | assumption | exact upd_same); (case hv_ => exact rfl)) | ((with_reducible refine' st_Channels_failure ?ho_ ?hv_ ?_); (case ho_ => first | assumption | exact upd_same); (case hv_ => exact Nat.le_of_ble_eq_true rfl)) | ((with_reducible refine' st_Channels__window ?ho_ ?hv_ ?_); (case ho_ => first | assumption | exact upd_same); (case hv_ => exact Nat.le_of_ble_eq_true rfl)) | ((with_reducible refine' st_Channels__most ?ho_ ?hv_ ?_); (case ho_ => first | assumption | exact upd_same); (case hv_ => exact Nat.le_of_ble_eq_true rfl)) | ((with_reducible refine' st_Channels__next_here ?ho_ ?hv_ ?_); (case ho_ => first | assumption | exact upd_same); (case hv_ => exact Nat.le_of_ble_eq_true rfl)) | ((with_reducible refine' st_Channels__next_there ?ho_ ?hv_ ?_); (case ho_ => first | assumption | exact upd_same); (case hv_ => exact Nat.le_of_ble_eq_true rfl)) | ((with_reducible refine' st_Channels__channels ?ho_ ?hv_ ?_); (case ho_ => first | assumption | exact upd_same); (case hv_ => exact Nat.le_of_ble_eq_true rfl)) | ((with_reducible refine' st_Channels__numbers ?ho_ ?hv_ ?_); (case ho_ => first | assumption | exact upd_same); (case hv_ => exact Nat.le_of_ble_eq_true rfl)) | ((with_reducible refine' st_Channels__turns ?ho_ ?hv_ ?_); (case ho_ => first | assumption | exact upd_same); (case hv_ => exact Nat.le_of_ble_eq_true rfl)) | ((with_reducible refine' st_Channels__offered ?ho_ ?hv_ ?_); (case ho_ => first | assumption | exact upd_same); (case hv_ => exact Nat.le_of_ble_eq_true rfl)) | ((with_reducible refine' st_Channels__going ?ho_ ?hv_ ?_); (case ho_ => first | assumption | exact upd_same); (case hv_ => exact Nat.le_of_ble_eq_true rfl)) | ((with_reducible refine' st_Channels__coming ?ho_ ?hv_ ?_); (case ho_ => first | assumption | exact upd_same); (case hv_ => exact Nat.le_of_ble_eq_true rfl)) | ((with_reducible refine' me_Channels_len__ ?ho_ ?_); (case ho_ => first | assumption | exact upd_same)) | ((with_reducible refine' me_Channels_iter__ ?ho_ ?_); (case ho_ => first | assumption | exact upd_same)) | ((with_reducible refine' me_Channels_open_channel ?ho_ ?_); (case ho_ => first | assumption | exact upd_same)) | ((with_reducible refine' me_Channels_accept ?ho_ ?_); (case ho_ => first | assumption | exact upd_same)) | ((with_reducible refine' me_Channels_write ?ho_ ?_); (case ho_ => first | assumption | exact upd_same)) | ((with_reducible refine' me_Channels_read ?ho_ ?_); (case ho_ => first | assumption | exact upd_same)) | ((with_reducible refine' me_Channels_finish ?ho_ ?_); (case ho_ => first | assumption | exact upd_same)) | ((with_reducible refine' me_Channels_reset ?ho_ ?_); (case ho_ => first | assumption | exact upd_same)) | ((with_reducible refine' me_Channels_status ?ho_ ?_); (case ho_ => first | assumption | exact upd_same)) | ((with_reducible refine' me_Channels_known ?ho_ ?_); (case ho_ => first | assumption | exact upd_same)) | ((with_reducible refine' me_Channels_add ?ho_ ?_); (case ho_ => first | assumption | exact upd_same)) | ((with_reducible refine' me_Channels_room_of ?ho_ ?_); (case ho_ => first | assumption | exact upd_same)))
section
variable {P : Program} {w : World} {K : PySem.W.Frag} {mg : Str → Option Value} {base : Heap}
local macro_rules | `(tactic| walk_at "use") => `(tactic| with_reducible first | refine g_rs0 ?_ | refine g_rs1 ?_ | refine g_tryA ?_ | refine g_tryO ?_ | refine g_callS ?_ | refine g_joined ?_ | refine g_jsnil ?_ | refine g_jscons ?_ | refine g_fmt ?_)
local macro_rules | `(tactic| walk_at "fit") => `(tactic| (refine fit2 ?_; (try simp only [PySem.Str.length_append]); omega))
local macro_rules | `(tactic| walk_at "use") => `(tactic| first | ((with_reducible refine' g_addS ?sd_ ?_); case sd_ => (first | omega | (simp only [PySem.Str.length_append]; omega))) | ((with_reducible refine' g_slS ?sd_ ?_); case sd_ => omega) | (with_reducible refine g_m0 ?_))

local macro_rules | `(tactic| walk_at "use") => `(tactic| with_reducible first | refine g_dgetI ?_ | refine g_dputI ?_ | refine g_dget1I ?_ | refine g_dget2I ?_ | refine g_dinI ?_ | refine g_dnotinI ?_ | refine g_dnewK ?_)

section
variable {K : PySem.W.Frag} {H : Hp} {Q : VK}
end
local macro_rules | `(tactic| walk_at "use") => `(tactic| with_reducible first | refine g_rEqS ?_ | refine g_rNeS ?_ | refine g_isiS ?_)

local macro_rules | `(tactic| walk_at "use") => `(tactic| first | ((with_reducible refine' dg_D_writable ?ho_ ?hv_ ?_); (case ho_ => first | assumption | exact upd_same); (case hv_ => exact rfl)) | ((with_reducible refine' dg_D_waiting ?ho_ ?hv_ ?_); (case ho_ => first | assumption | exact upd_same); (case hv_ => exact rfl)) | ((with_reducible refine' dg_D_readable ?ho_ ?hv_ ?_); (case ho_ => first | assumption | exact upd_same); (case hv_ => exact rfl)) | ((with_reducible refine' dg_D_finished ?ho_ ?hv_ ?_); (case ho_ => first | assumption | exact upd_same); (case hv_ => exact rfl)) | ((with_reducible refine' dg_D_at_end ?ho_ ?hv_ ?_); (case ho_ => first | assumption | exact upd_same); (case hv_ => exact rfl)) | ((with_reducible refine' dg_D_reset ?ho_ ?hv_ ?_); (case ho_ => first | assumption | exact upd_same); (case hv_ => exact rfl)) | ((with_reducible refine' dn_D_writable ?ho_ ?hv_ ?_); (case ho_ => first | assumption | exact upd_same); (case hv_ => exact rfl)) | ((with_reducible refine' dn_D_waiting ?ho_ ?hv_ ?_); (case ho_ => first | assumption | exact upd_same); (case hv_ => exact rfl)) | ((with_reducible refine' dn_D_readable ?ho_ ?hv_ ?_); (case ho_ => first | assumption | exact upd_same); (case hv_ => exact rfl)) | ((with_reducible refine' dn_D_finished ?ho_ ?hv_ ?_); (case ho_ => first | assumption | exact upd_same); (case hv_ => exact rfl)) | ((with_reducible refine' dn_D_at_end ?ho_ ?hv_ ?_); (case ho_ => first | assumption | exact upd_same); (case hv_ => exact rfl)) | ((with_reducible refine' dn_D_reset ?ho_ ?hv_ ?_); (case ho_ => first | assumption | exact upd_same); (case hv_ => exact rfl)) | ((with_reducible refine' dp_D_writable ?ho_ ?hv_ ?_); (case ho_ => first | assumption | exact upd_same); (case hv_ => exact Nat.le_of_ble_eq_true rfl)) | ((with_reducible refine' dp_D_waiting ?ho_ ?hv_ ?_); (case ho_ => first | assumption | exact upd_same); (case hv_ => exact Nat.le_of_ble_eq_true rfl)) | ((with_reducible refine' dp_D_readable ?ho_ ?hv_ ?_); (case ho_ => first | assumption | exact upd_same); (case hv_ => exact Nat.le_of_ble_eq_true rfl)) | ((with_reducible refine' dp_D_finished ?ho_ ?hv_ ?_); (case ho_ => first | assumption | exact upd_same); (case hv_ => exact Nat.le_of_ble_eq_true rfl)) | ((with_reducible refine' dp_D_at_end ?ho_ ?hv_ ?_); (case ho_ => first | assumption | exact upd_same); (case hv_ => exact Nat.le_of_ble_eq_true rfl)) | ((with_reducible refine' dp_D_reset ?ho_ ?hv_ ?_); (case ho_ => first | assumption | exact upd_same); (case hv_ => exact Nat.le_of_ble_eq_true rfl)))
local macro_rules | `(tactic| walk_at "use") => `(tactic| with_reducible first | refine g_dgetT ?_ | refine g_dputT ?_)
local macro_rules | `(tactic| walk_at "use") => `(tactic| first | ((with_reducible refine' dg_R_queue ?ho_ ?hv_ ?_); (case ho_ => first | assumption | exact upd_same); (case hv_ => exact rfl)) | ((with_reducible refine' dg_R_finished ?ho_ ?hv_ ?_); (case ho_ => first | assumption | exact upd_same); (case hv_ => exact rfl)) | ((with_reducible refine' dg_R_reset ?ho_ ?hv_ ?_); (case ho_ => first | assumption | exact upd_same); (case hv_ => exact rfl)) | ((with_reducible refine' dn_R_queue ?ho_ ?hv_ ?_); (case ho_ => first | assumption | exact upd_same); (case hv_ => exact rfl)) | ((with_reducible refine' dn_R_finished ?ho_ ?hv_ ?_); (case ho_ => first | assumption | exact upd_same); (case hv_ => exact rfl)) | ((with_reducible refine' dn_R_reset ?ho_ ?hv_ ?_); (case ho_ => first | assumption | exact upd_same); (case hv_ => exact rfl)) | ((with_reducible refine' dp_R_queue ?ho_ ?hv_ ?_); (case ho_ => first | assumption | exact upd_same); (case hv_ => exact Nat.le_of_ble_eq_true rfl)) | ((with_reducible refine' dp_R_finished ?ho_ ?hv_ ?_); (case ho_ => first | assumption | exact upd_same); (case hv_ => exact Nat.le_of_ble_eq_true rfl)) | ((with_reducible refine' dp_R_reset ?ho_ ?hv_ ?_); (case ho_ => first | assumption | exact upd_same); (case hv_ => exact Nat.le_of_ble_eq_true rfl)))
local macro_rules | `(tactic| walk_at "use") => `(tactic| with_reducible first | refine g_dgetT ?_ | refine g_dputT ?_)
/-! ### len(o), o an own object with a __len__ -/
section
open PyProof.Rows
variable {X : Cx} {C f : Addr} {fd : FuncData} {ps : List Str} {k : Nat}
def rLenO (C : Addr) (sp : Sp) : List V → Hp → VK → Prop := fun xs H Q => ∃ a dx fs, xs = [.ref a] ∧ H a = some (.ins C dx fs) ∧ sp [.ref a] H (fun v H' => ∃ n : Int, v = .int n ∧ 0 ≤ n ∧ n < 1000000 ∧ Q (.int n) H') E0
theorem call_lenO {sp : Sp} (hm : Meth X.K C "__len__" f) (F : FnOk X.prog X.w X.K X.mg X.base CX0 k f fd ps sp) (hr : Room (k + 1) X.A) (hb : Binds X.K fd ps []) : CallR X (.builtin "len") (rLenO C sp) := by
  obtain ⟨hat, hfn, _⟩ := hm
  intro pins s σ H xs us Q I rv h
  obtain ⟨a, dx, fs, rfl, ha, hq⟩ := h
  obtain ⟨u, rfl, ru⟩ := rv.one
  cases ru
  have sb : Sub X k X.A.in1 := Sub.in1 (⟨hr, rfl⟩ : Sub X (k + 1) X.A)
  obtain ⟨mA, J, _⟩ := ins_get I.hok ha
  obtain ⟨od, J, _⟩ := J.look
  have kIn := I.kIn
  have hl := F.len _ _ _ _ hq
  have bnd : BindsTo s fd ⟨[.ref a], []⟩ (ps.zip [.ref a]) := by
    have z := hb s [.ref a] kIn (by simpa using hl)
    simpa using z
  have e0 : Env0 X.prog X.w X.K X.mg X.base X.A.in1 X.stack s H := by
    have e := I.env0
    exact ⟨by rw [sb.fr]; exact e.frames, e.mod, e.bs, e.bsz, e.funs, e.frf, e.hok, e.bare⟩
  refine Calls.call_function_entry kind_len plain_len entry_len (args_len1 _) ?_
  unfold Builtin.«len»
  refine wpAny_bind (m := oneArg "len" _) (wpAny_pure ?_)
  refine wpAny_bind (m := callSpecial? (.ref a) (Str.ofString "__len__")) ?_
  simp only [callSpecial?]
  refine wpAny_bind (wpAny_bind (J.type.here ((PySem.W.looks_findIn kIn hat).here ?_)))
  refine wpAny_holding ?_
  refine wpAny_bind ((PySem.W.bind_fn kIn _ (beq_iff_eq.mp hfn)).here ?_)
  dsimp only
  refine wpAny_bind (wpAny_call (codeAny_mono (F.run X.A.in1 X.stack s H ⟨[.ref a], []⟩ [.ref a] [.ref a] _ E0 sb.room e0 bnd (.cons rfl .nil) hq) fun r s' hq => ?_))
  match r, hq with
  | .error _, hq => exact False.elim hq
  | .ok .next, hq => exact False.elim hq
  | .ok .brk, hq => exact False.elim hq
  | .ok .cont, hq => exact False.elim hq
  | .ok (.ret z), hq =>
    obtain ⟨v, H', I', rv, n, ev, n0, n1, q⟩ := I.after hq
    subst ev
    obtain ⟨t, rfl⟩ := rv
    refine wpAny_pure ?_
    refine wpAny_bind (wpAny_holding (wpAny_pure ?_))
    refine wpAny_bind (wpAny_letGo ?_)
    show wpAny _ _ (if n < 0 then _ else _) _ _ _
    rw [if_neg (by omega)]
    show wpAny _ _ (if n ≥ 2 ^ 63 then _ else _) _ _ _
    rw [if_neg (by omega)]
    exact wpAny_bind (wpAny_mkInt (wpAny_pure ⟨_, rfl, .int n, H', I'.tok _, ⟨_, rfl⟩, q⟩))
end

theorem dk_at {ks : List Str} {vs : List V} {i : Nat} {k : Key} {v : V} (h : (dk ks vs)[i]? = some (k, v)) : ∃ n, k = .inr n ∧ ks[i]? = some n ∧ vs[i]? = some v := by
  unfold dk at h
  rw [List.getElem?_map] at h
  cases e : (obj ks vs)[i]? with
  | none => rw [e] at h; cases h
  | some q =>
    rw [e] at h
    cases h
    refine ⟨q.1, rfl, ?_⟩
    induction ks generalizing vs i with
    | nil => cases e
    | cons k0 ks ih =>
      cases vs with
      | nil => cases e
      | cons v0 vs =>
        cases i with
        | zero => cases e; exact ⟨rfl, rfl⟩
        | succ i => exact ih e
theorem g_iKeys {td : TE} {σ : St} {H : Hp} {R : It → Hp → Prop} (h : td σ H fun x H1 => ∃ d o, x = .ref d ∧ ((∃ kvs, H1 d = some (.frz o (.dK kvs)) ∧ R (Itk d o kvs) H1) ∨ ∃ kvs, H1 d = some (.frz o (.dT kvs)) ∧ R (Itkt d o kvs) H1)) : iKeys td σ H R := h
theorem g_lock {t : TS} {D : Ends} {σ : St} {H : Hp} {d : Addr} {u : HO} (e : H d = some u) (m : Mut (some u)) (h : ∀ od, t ⟨fun σ' H' => H' d = some (.frz od u) ∧ D.nx σ' (upd H' d u), fun v H' => H' d = some (.frz od u) ∧ D.rt v (upd H' d u), fun σ' H' => H' d = some (.frz od u) ∧ D.bk σ' (upd H' d u), fun σ' H' => H' d = some (.frz od u) ∧ D.ct σ' (upd H' d u)⟩ σ (upd H d (.frz od u))) : tLock t D σ H := ⟨d, u, e, m, h⟩

local macro_rules | `(tactic| walk_at "use") => `(tactic| with_reducible first | refine u_isint ?_ | refine u_start ?_ | refine g_iOwnL ?_ | refine g_makeK ?_ | refine g_cval ?_ | refine cvq_Channels_MOST_CHANNELS ?_)
theorem RN.basis {CS CC : Addr} {H0 : Hp} {p d : Addr} {w m t : Int} {H : Hp} (h : RN CS CC H0 p d w m t H) : Same H0 H := by
  obtain ⟨own, S, x, cs, r, e, R⟩ := h
  exact R.sm
theorem ix4 {j : Int} {x0 x1 x2 x3 : V} (h0 : 0 ≤ j) (h1 : j < 4) : atI [x0, x1, x2, x3] j = some (if j = 0 then x0 else if j = 1 then x1 else if j = 2 then x2 else x3) := by
  have : j = 0 ∨ j = 1 ∨ j = 2 ∨ j = 3 := by omega
  rcases this with rfl | rfl | rfl | rfl <;> rfl
def sp_law (K : PySem.W.Frag) : Sp := fun vs H Q _ => ∃ (a : Addr) (ns : List Int), vs = [.ref a] ∧ SqL K H a (ns.map V.int) ∧ ns.length ≤ 63 ∧ ∀ H', Q (.bl true) H'
theorem ok_law (T : Txt P K mg) : FnOk P w K mg base CX0 7 T.f_law T.d_law ["script"] (sp_law K) := by
  refine T.F_law.ok sc_law (fun vs H Q E h => ?_) (fun cdv A outer s H vs Q E hr h => ?_)
  · obtain ⟨a, ns, rfl, hS, hlen, q⟩ := h
    rfl
  · obtain ⟨a, ns, rfl, hS, hlen, q⟩ := h
    have hu := hu_of hr
    obtain ⟨gk_1, kb_1⟩ := kbt_1 T
    refine ⟨_, (pss_cons (ps_set (i := 1) sc_law.nd rfl (Or.inl rfl) (pe_call (ok_l_start T) (hr.mono (by decide)) rfl T.m_l_start T.F_l_start.kp T.b_l_start .nil pass0 (pa_cons (pe_call (ok_l_cell T) (hr.mono (by decide)) rfl T.m_l_cell T.F_l_cell.kp T.b_l_cell .nil pass0 (pa_cons (pv 0) (pa_cons pe_int pa_nil))) (pa_cons pe_int pa_nil))))
        (pss_cons (ps_set (i := 2) sc_law.nd rfl (Or.inl rfl) (pe_call (ok_l_digit T) (hr.mono (by decide)) rfl T.m_l_digit T.F_l_digit.kp T.b_l_digit .nil pass0 (pa_cons (pv 1) (pa_cons pe_int pa_nil))))
        (pss_cons (ps_set (i := 3) sc_law.nd rfl (Or.inl rfl) (pe_ix ix_tup (pe_tup (pa_cons (pe_op op_add pe_int (pe_call (ok_l_digit T) (hr.mono (by decide)) rfl T.m_l_digit T.F_l_digit.kp T.b_l_digit .nil pass0 (pa_cons (pv 1) (pa_cons pe_int pa_nil)))) (pa_cons (pe_op op_add pe_int (pe_call (ok_l_digit T) (hr.mono (by decide)) rfl T.m_l_digit T.F_l_digit.kp T.b_l_digit .nil pass0 (pa_cons (pv 1) (pa_cons pe_int pa_nil)))) pa_nil))) (pe_callTy call_int1 (by rfl) T.n_int (by decide +kernel) (pa_cons (pe_cmpR op_eq (pe_call (ok_l_digit T) (hr.mono (by decide)) rfl T.m_l_digit T.F_l_digit.kp T.b_l_digit .nil pass0 (pa_cons (pv 1) (pa_cons pe_int pa_nil))) pe_int (nomark _)) pa_nil)) (fun _ _ => rfl)))
        (pss_cons (ps_set (i := 4) sc_law.nd rfl (Or.inl rfl) (pe_op op_add pe_int (pe_call (ok_l_digit T) (hr.mono (by decide)) rfl T.m_l_digit T.F_l_digit.kp T.b_l_digit .nil pass0 (pa_cons (pv 1) (pa_cons pe_int pa_nil)))))
        (pss_cons (ps_set (i := 5) sc_law.nd rfl (Or.inl rfl) (pe_ix ix_tup (pe_tup (pa_cons pe_int (pa_cons pe_int (pa_cons (pe_un un_neg pe_int) (pa_cons (pe_op op_add pe_int (pe_call (ok_l_digit T) (hr.mono (by decide)) rfl T.m_l_digit T.F_l_digit.kp T.b_l_digit .nil pass0 (pa_cons (pv 1) (pa_cons pe_int pa_nil)))) pa_nil))))) (pe_call (ok_l_digit T) (hr.mono (by decide)) rfl T.m_l_digit T.F_l_digit.kp T.b_l_digit .nil pass0 (pa_cons (pv 1) (pa_cons pe_int pa_nil))) (fun _ _ => rfl)))
        (pss_cons (ps_if (PW.pt (pw_or (pt_not (pt_val (pe_call (ok_l_refused T) (hr.mono (by decide)) rfl T.m_l_refused T.F_l_refused.kp T.b_l_refused .nil pass0 (pa_cons (pe_cmpR op_eq (pv 2) pe_int (nomark _)) (pa_cons (pv 5) (pa_cons (pv 4) pa_nil)))))) (pw_or1 (pt_not (pt_val (pe_call (ok_l_refused T) (hr.mono (by decide)) rfl T.m_l_refused T.F_l_refused.kp T.b_l_refused .nil pass0 (pa_cons (pe_cmpR op_eq (pv 2) pe_int (nomark _)) (pa_cons (pv 3) (pa_cons (pv 5) pa_nil))))))))) (pss_one (ps_ret pe_bl)) pss_nil)
        (pss_cons (ps_set (i := 6) sc_law.nd rfl (Or.inl rfl) (pe_makeK0 T.mk_Channels (ok_Channels_init__ T) (hr.mono (by decide)) rfl T.c_Channels kb_1 passL (pk_cons (pe_cmpR op_eq (pv 2) pe_int (nomark _)) (pk_cons (pv 3) (pk_cons (pv 4) pk_nil)))))
        (pss_cons (ps_set (i := 7) sc_law.nd rfl (Or.inl rfl) pe_dnewK)
        (pss_cons (ps_for PassesOwn.never rfl (pi_range1 (by rfl) T.n_range (pa_cons (pe_ix ix_tup (pe_tup (pa_cons pe_int (pa_cons pe_int pa_nil))) (pe_callTy call_int1 (by rfl) T.n_int (by decide +kernel) (pa_cons (pe_cmpR op_eq (pe_call (ok_l_digit T) (hr.mono (by decide)) rfl T.m_l_digit T.F_l_digit.kp T.b_l_digit .nil pass0 (pa_cons (pv 1) (pa_cons pe_int pa_nil))) pe_int (nomark _)) pa_nil)) (fun _ _ => rfl)) pa_nil)) (pg_name (i := 8) sc_law.nd rfl (Or.inl rfl)) (pss_one (ps_if (pt_not (pt_val (pe_call (ok_l_open T) (hr.mono (by decide)) rfl T.m_l_open T.F_l_open.kp T.b_l_open .nil pass0 (pa_cons (pv 6) (pa_cons (pv 7) (pa_cons (pv 2) pa_nil)))))) (pss_one (ps_ret pe_bl)) pss_nil)))
        (pss_cons (ps_for PassesOwn.never rfl (pi_range1 (by rfl) T.n_range (pa_cons (pe_callB (call_min2 rfl) (by rfl) T.n_min (by decide +kernel) (pa_cons pe_int (pa_cons (pe_callB (call_max2 rfl) (by rfl) T.n_max (by decide +kernel) (pa_cons pe_int (pa_cons (pe_op op_sub (pe_callB call_len_seq (by rfl) T.n_len (by decide +kernel) (pa_cons (pv 0) pa_nil)) pe_int) pa_nil))) pa_nil))) pa_nil)) (pg_name (i := 8) sc_law.nd rfl (Or.inl rfl)) (pss_one (ps_if (pt_not (pt_val (pe_call (ok_l_step T) (hr.mono (by decide)) rfl T.m_l_step T.F_l_step.kp T.b_l_step .nil pass0 (pa_cons (pv 6) (pa_cons (pv 7) (pa_cons (pe_call (ok_l_start T) (hr.mono (by decide)) rfl T.m_l_start T.F_l_start.kp T.b_l_start .nil pass0 (pa_cons (pe_call (ok_l_cell T) (hr.mono (by decide)) rfl T.m_l_cell T.F_l_cell.kp T.b_l_cell .nil pass0 (pa_cons (pv 0) (pa_cons (pe_op op_add pe_int (pv 8)) pa_nil))) (pa_cons (pv 8) pa_nil))) (pa_cons (pv 3) (pa_cons (pv 2) pa_nil)))))))) (pss_one (ps_ret pe_bl)) pss_nil)))
        (pss_cons (ps_if (PW.pt (pw_or (pt_cmpR (op_neD hr.units) (pe_lc (own := [("number", 9)]) (g := gName 9) (tt := tYes) rfl sc_law.nd (pi_ownL (pv 6) T.a_Channels_iter__ (okN_Channels_iter__ T) (hr.mono (by decide)) T.b_Channels_iter__) (blkOk_by (N := ["script", "state", "turn", "window", "most", "bad", "side", "rows", "k", "number"]) (sc := defScope s_law) (by decide +kernel)) (fun _ _ _ _ _ => (pg_name (i := 9) sc_law.nd rfl (Or.inl rfl))) (fun _ _ _ _ _ => pts_nil) (fun _ _ _ _ _ => (pv 9))) (pe_callB (cr_sortedDI rfl) (by rfl) T.n_sorted (by decide +kernel) (pa_cons (pv 7) pa_nil)) (nomark _)) (pw_or (pt_cmpR op_ne (pe_callB (call_lenO T.a_Channels_len__ (ok_Channels_len__ T) (hr.mono (by decide)) T.b_Channels_len__) (by rfl) T.n_len (by decide +kernel) (pa_cons (pv 6) pa_nil)) (pe_callB call_lenD (by rfl) T.n_len (by decide +kernel) (pa_cons (pv 7) pa_nil)) (nomark _)) (pw_or1 (pt_cmpR op_notN (pe_meth0 (pv 6) T.k_Channels T.a_Channels_accept (ok_Channels_accept T) (hr.mono (by decide)) T.b_Channels_accept .nil pass0) pe_non (nomark _)))))) (pss_one (ps_ret pe_bl)) pss_nil)
        (pss_cons (ps_lock (ps_for PassesOwn.never rfl (pi_keys (pv 7)) (pg_name (i := 9) sc_law.nd rfl (Or.inl rfl)) (pss_one (ps_if (pt_not (pt_val (pe_call (ok_l_status T) (hr.mono (by decide)) rfl T.m_l_status T.F_l_status.kp T.b_l_status .nil pass0 (pa_cons (pe_meth (pv 6) T.k_Channels T.a_Channels_status (ok_Channels_status T) (hr.mono (by decide)) T.b_Channels_status .nil passL (pa_cons (pv 9) pa_nil)) (pa_cons (pe_dget hu (pv 7) (pv 9) (fun _ _ => rfl)) (pa_cons (pv 3) pa_nil)))))) (pss_one (ps_ret pe_bl)) pss_nil))))
        (pss_one (ps_ret (pe_and (pe_cmpR op_isN (pe_fld (pv 6) rfl) pe_non (nomark _)) (pe_one (pe_cmpR op_eq (ClX.pe_cval (pe_glob (v := .ref T.C_Channels) (by rfl) T.c_Channels rfl)) pe_int (nomark _)))))))))))))))))), ?_⟩
    dsimp only [cxOf, Cx.nox, Cx.wish, L2.start, List.map, List.cons_append, List.nil_append, List.length_cons, List.length_nil, Nat.reduceAdd, Nat.reduceSub, Nat.zero_add, List.replicate_succ, List.replicate_zero]
    walk_at "go"
    refine ⟨a, ns, 0, rfl, hS, by decide, ?_⟩
    walk_at "go"
    intro sl_ n0 hst
    walk_at "nw"
    rename_i H1 s1 k1
    walk_at "go"
    refine u_digit k1 (by decide) (by decide) ?_
    have b2 : But sl_ H1 (upd H1 sl_ (.lst [.int (n0 / 2)])) := But.refl.upd
    generalize zq : upd H1 sl_ (.lst [.int (n0 / 2)]) = H2 at b2
    have k2 : H2 sl_ = some (.lst [.int (n0 / 2)]) := by rw [← zq]; exact upd_same
    clear zq
    have f0 := Int.emod_nonneg n0 (show (2 : Int) ≠ 0 by decide)
    have f1 := Int.emod_lt_of_pos n0 (show (0 : Int) < 2 by decide)
    generalize n0 / 2 = n2 at k2
    generalize n0 % 2 = f at f0 f1
    walk_at "go"
    refine u_digit k2 (by decide) (by decide) ?_
    have b3 : But sl_ H2 (upd H2 sl_ (.lst [.int (n2 / 30)])) := But.refl.upd
    generalize zq : upd H2 sl_ (.lst [.int (n2 / 30)]) = H3 at b3
    have k3 : H3 sl_ = some (.lst [.int (n2 / 30)]) := by rw [← zq]; exact upd_same
    clear zq
    have g0 := Int.emod_nonneg n2 (show (30 : Int) ≠ 0 by decide)
    have g1 := Int.emod_lt_of_pos n2 (show (0 : Int) < 30 by decide)
    generalize n2 / 30 = n3 at k3
    generalize n2 % 30 = u1 at g0 g1
    walk_at "go"
    refine u_digit k3 (by decide) (by decide) ?_
    have b4 : But sl_ H3 (upd H3 sl_ (.lst [.int (n3 / 65535)])) := But.refl.upd
    generalize zq : upd H3 sl_ (.lst [.int (n3 / 65535)]) = H4 at b4
    have k4 : H4 sl_ = some (.lst [.int (n3 / 65535)]) := by rw [← zq]; exact upd_same
    clear zq
    have h0 := Int.emod_nonneg n3 (show (65535 : Int) ≠ 0 by decide)
    have h1 := Int.emod_lt_of_pos n3 (show (0 : Int) < 65535 by decide)
    generalize n3 / 65535 = n4 at k4
    generalize n3 % 65535 = u2 at h0 h1
    walk_at "go"
    refine ⟨by show 2 ≤ sizeLine; decide, fun tw htw => ?_⟩
    walk_at "nw"
    rename_i H5 s5 kw
    have k5 := s5 _ _ k4
    have ntw : tw ≠ sl_ := fun z => by rw [z, k4] at htw; cases htw
    walk_at "go"
    refine u_digit k5 (by decide) (by decide) ?_
    have b6 : But sl_ H5 (upd H5 sl_ (.lst [.int (n4 / 4)])) := But.refl.upd
    generalize zq : upd H5 sl_ (.lst [.int (n4 / 4)]) = H6 at b6
    have k6 : H6 sl_ = some (.lst [.int (n4 / 4)]) := by rw [← zq]; exact upd_same
    clear zq
    have i0 := Int.emod_nonneg n4 (show (4 : Int) ≠ 0 by decide)
    have i1 := Int.emod_lt_of_pos n4 (show (0 : Int) < 4 by decide)
    generalize n4 / 4 = n6 at k6
    generalize n4 % 4 = u3 at i0 i1
    walk_at "go"
    have kw6 := b6 _ _ ntw kw
    obtain ⟨W, hW, W0, W1⟩ : ∃ W, atI [V.int (1 + u1), V.int (1 + u2)] (if decide (u3 = 0) = true then 1 else 0) = some (.int W) ∧ 1 ≤ W ∧ W ≤ 65535 := by
      by_cases z : u3 = 0
      · rw [if_pos (decide_eq_true z)]
        exact ⟨1 + u2, rfl, by omega, by omega⟩
      · rw [if_neg (by rw [decide_eq_false z]; exact Bool.false_ne_true)]
        exact ⟨1 + u1, rfl, by omega, by omega⟩
    refine g_ixT (st kw6) hW ?_
    walk_at "go"
    refine u_digit k6 (by decide) (by decide) ?_
    have b7 : But sl_ H6 (upd H6 sl_ (.lst [.int (n6 / 65535)])) := But.refl.upd
    generalize zq : upd H6 sl_ (.lst [.int (n6 / 65535)]) = H7 at b7
    have k7 : H7 sl_ = some (.lst [.int (n6 / 65535)]) := by rw [← zq]; exact upd_same
    clear zq
    have j0 := Int.emod_nonneg n6 (show (65535 : Int) ≠ 0 by decide)
    have j1 := Int.emod_lt_of_pos n6 (show (0 : Int) < 65535 by decide)
    generalize n6 / 65535 = n7 at k7
    generalize n6 % 65535 = u4 at j0 j1
    walk_at "go"
    refine u_digit k7 (by decide) (by decide) ?_
    have b8 : But sl_ H7 (upd H7 sl_ (.lst [.int (n7 / 900)])) := But.refl.upd
    generalize zq : upd H7 sl_ (.lst [.int (n7 / 900)]) = H8 at b8
    have k8 : H8 sl_ = some (.lst [.int (n7 / 900)]) := by rw [← zq]; exact upd_same
    clear zq
    have l0 := Int.emod_nonneg n7 (show (900 : Int) ≠ 0 by decide)
    have l1 := Int.emod_lt_of_pos n7 (show (0 : Int) < 900 by decide)
    generalize n7 / 900 = n8 at k8
    generalize n7 % 900 = u5 at l0 l1
    walk_at "go"
    refine ⟨by show 4 ≤ sizeLine; decide, fun tb htb => ?_⟩
    walk_at "nw"
    rename_i H9 s9 kb
    have k9 := s9 _ _ k8
    have ntb : tb ≠ sl_ := fun z => by rw [z, k8] at htb; cases htb
    walk_at "go"
    refine u_digit k9 (by decide) (by decide) ?_
    have b10 : But sl_ H9 (upd H9 sl_ (.lst [.int (n8 / 4)])) := But.refl.upd
    generalize zq : upd H9 sl_ (.lst [.int (n8 / 4)]) = H10 at b10
    have k10 : H10 sl_ = some (.lst [.int (n8 / 4)]) := by rw [← zq]; exact upd_same
    clear zq
    have o0 := Int.emod_nonneg n8 (show (4 : Int) ≠ 0 by decide)
    have o1 := Int.emod_lt_of_pos n8 (show (0 : Int) < 4 by decide)
    generalize n8 / 4 = n10 at k10
    generalize n8 % 4 = u6 at o0 o1
    walk_at "go"
    have kb10 := b10 _ _ ntb kb
    obtain ⟨B, hB, B0, B1, B2⟩ : ∃ B, atI [V.int 0, V.int 65536, V.int (-1), V.int (65536 + u5)] u6 = some (.int B) ∧ -1000000 ≤ B ∧ B ≤ 1000000 ∧ ¬ (1 ≤ B ∧ B ≤ 65535) := by
      have : u6 = 0 ∨ u6 = 1 ∨ u6 = 2 ∨ u6 = 3 := by omega
      rcases this with rfl | rfl | rfl | rfl
      · exact ⟨0, rfl, by omega, by omega, by omega⟩
      · exact ⟨65536, rfl, by omega, by omega, by omega⟩
      · exact ⟨-1, rfl, by omega, by omega, by omega⟩
      · exact ⟨65536 + u5, rfl, by omega, by omega, by omega⟩
    refine g_ixT (st kb10) hB ?_
    walk_at "go"
    refine ⟨_, B, 1 + u4, rfl, (by omega), (by omega), (by omega), (by omega), (by omega), fun H11 s11 => ?_⟩
    walk_at "go"
    refine ⟨_, W, B, rfl, (by omega), (by omega), (by omega), (by omega), (by omega), fun H12 s12 => ?_⟩
    walk_at "go"
    have s0 : Same H H12 := ((((((((((But.of s1).trans b2).trans b3).trans b4).trans (But.of s5)).trans b6).trans b7).trans b8).trans (But.of s9)).trans (b10.trans (But.of (s11.trans s12)))).same hst
    have k12 := s12 _ _ (s11 _ _ k10)
    refine ⟨rfl, rfl, fun y dy hy hdy hne => ?_⟩
    have s13 : Same H12 (upd (upd H12 dy (.own y)) y (.ins T.C_Channels dy [])) := (same_upd hdy).trans (same_upd (by rw [upd_ne hne.symm]; exact hy))
    refine ⟨y, dy, _, W, 1 + u4, rfl, upd_same, (by omega), (by omega), (by omega), (by omega), .inr ⟨⟨W0, W1, by omega, by omega⟩, fun own S x H14 hown hSp O b14 => ⟨rfl, ?_⟩⟩⟩
    have et : (if decide (f = 0) = true then 0 else 1) = f := by
      by_cases z : f = 0
      · rw [if_pos (decide_eq_true z)]; exact z.symm
      · rw [if_neg (by rw [decide_eq_false z]; exact Bool.false_ne_true)]; omega
    rw [et] at O
    have s14 : Same H12 H14 := ((But.of s13).trans b14).same hy
    have k14 := s14 _ _ k12
    have own12 : ∀ b, nrm own H14 b ≠ none → H12 b = none := fun b hb => by
      have hb2 : own b ≠ none := fun z => hb (by
        unfold nrm
        split
        · rfl
        · exact z)
      rcases hown b hb2 with z | z
      · rw [z]; exact hy
      · exact free_of (fun b o e => some_none (s13 b o e)) z
    clear s13 hown
    walk_at "go"
    intro d hd
    walk_at "nw"
    rename_i H15 s15 kd
    have k15 := s15 _ _ k14
    walk_at "go"
    refine g_for ?_
    walk_at "go"
    refine ⟨by show 2 ≤ sizeLine; decide, fun t2 ht2 => ?_⟩
    walk_at "nw"
    rename_i H16 s16 kt2
    have k16 := s16 _ _ k15
    have nt2 : t2 ≠ sl_ := fun z => by rw [z, k15] at ht2; cases ht2
    walk_at "go"
    refine u_digit k16 (by decide) (by decide) ?_
    have b17 : But sl_ H16 (upd H16 sl_ (.lst [.int (n10 / 8)])) := But.refl.upd
    generalize zq : upd H16 sl_ (.lst [.int (n10 / 8)]) = H17 at b17
    have k17 : H17 sl_ = some (.lst [.int (n10 / 8)]) := by rw [← zq]; exact upd_same
    clear zq
    generalize n10 / 8 = n17 at k17
    generalize n10 % 8 = u7
    have kt17 := b17 _ _ nt2 kt2
    obtain ⟨N, hN, N0, N1⟩ : ∃ N, atI [V.int 2, V.int 102] (if decide (u7 = 0) = true then 1 else 0) = some (.int N) ∧ 0 ≤ N ∧ N ≤ 102 := by
      by_cases z : u7 = 0
      · rw [if_pos (decide_eq_true z)]
        exact ⟨102, rfl, by omega, by omega⟩
      · rw [if_neg (by rw [decide_eq_false z]; exact Bool.false_ne_true)]
        exact ⟨2, rfl, by omega, by omega⟩
    walk_at "go"
    refine g_ixT (st kt17) hN ?_
    have c16 := s15.trans s16
    have nsl : ∀ b, nrm own H14 b ≠ none → b ≠ sl_ := fun b hb z => by
      have e := own12 b hb
      rw [z, k12] at e
      cases e
    have nz0 : ∀ b, H17 b = none → nrm own H14 b = none := fun b hb => if_pos (free_of (fun b o e => by
      by_cases z : b = sl_
      · rw [z]; exact some_none k17
      · exact some_none (b17 _ _ z (c16 _ _ e))) hb)
    have hdn : nrm own H14 d = none := if_pos hd
    have s017 : Same H H17 := ((But.of (s0.trans (s14.trans c16))).trans b17).same hst
    have hd17 : H17 d = some (.dK []) := b17 _ _ (fun z => by rw [z, k14] at hd; cases hd) (s16 _ _ kd)
    have hN0 : RN T.C_Channels T.C_Channel H y d W (1 + u4) f H17 := by
      refine ⟨nrm own H14, S, x, [], fun _ => ⟨d, d, .non⟩, hSp, (O.nrm.same c16).keep fun b o h e => b17 _ _ (fun z => ?_) e, nz0, s017, fun b hb => free_of (fun b o e => some_none (s0 b o e)) (own12 b hb), hd17, hdn, free_of (fun b o e => some_none ((s0.trans s14) b o e)) hd, fun i c e => (by cases e), fun i hi => absurd hi (Nat.not_lt_zero i), fun i j hi => absurd hi (Nat.not_lt_zero i), fun i j hi => absurd hi (Nat.not_lt_zero i)⟩
      rcases h with h | ⟨kk, h⟩
      · exact nsl b h z
      · rw [z, k16] at e
        rw [h] at e
        cases e
    walk_at "go"
    refine ⟨by omega, by omega, ?_⟩
    refine for_range (lo := 0) (fun i σ H' => ∃ v8, σ = [some (.ref a), some (.ref sl_), some (.int f), some (.int W), some (.int (1 + u4)), some (.int B), some (.ref y), some (.ref d), v8, none] ∧ RN T.C_Channels T.C_Channel H y d W (1 + u4) f H') ⟨none, rfl, hN0⟩ ?turn1 ?done1
    case turn1 =>
      rintro i σ H' hi ⟨v8, rfl, hR⟩
      walk_at "go"
      refine ⟨H, y, d, W, 1 + u4, f, rfl, hR, fun H2 hR2 => ?_⟩
      walk_at "go"
      exact ⟨_, rfl, hR2⟩
    case done1 =>
      rintro σ H18 ⟨v8, rfl, hR⟩
      clear hN0 hd17 s017 hdn nz0 nsl c16 kt17 b17 kt2 k16 ht2 s16 k15 kd s15 hd own12 k14 s14 b14 O
      walk_at "go"
      refine g_for ?_
      walk_at "go"
      refine g_len (.inl (hR.basis.seq hS)) ?_
      rw [List.length_map]
      walk_at "go"
      refine ⟨by split <;> split <;> omega, by split <;> split <;> omega, ?_⟩
      refine for_range (lo := 0) (fun i σ H' => ∃ v8, σ = [some (.ref a), some (.ref sl_), some (.int f), some (.int W), some (.int (1 + u4)), some (.int B), some (.ref y), some (.ref d), v8, none] ∧ RN T.C_Channels T.C_Channel H y d W (1 + u4) f H') ⟨_, rfl, hR⟩ ?turn2 ?done2
      case turn2 =>
        rintro i σ H' hi ⟨v8, rfl, hR⟩
        walk_at "go"
        refine ⟨a, ns, 1 + (0 + (i : Int)), rfl, hR.basis.seq hS, (by omega), ?_⟩
        walk_at "go"
        intro l n hl
        walk_at "nw"
        rename_i H3 s3 k3
        walk_at "go"
        refine ⟨H, H', y, d, l, W, 1 + u4, f, n, rfl, hR, s3, hl, k3, fun H2 hR2 => ?_⟩
        walk_at "go"
        exact ⟨_, rfl, hR2⟩
      case done2 =>
        rintro σ H19 ⟨v8, rfl, own, S, x, cs, r, rfl, R⟩
        walk_at "go"
        refine ⟨S.p, S.dx, _, rfl, R.sd.ho, fun n => ⟨own, S, x, W, 1 + u4, f, cs, rfl, R.sd, fun it nit hn => ⟨it, S.nl, rfl, hn, upd_same, ?_⟩⟩⟩
        rw [ItX.dropH_upd nit]
        have h2 := R.sd.h2
        have hnl : (nbs f cs.length).length = cs.length := by unfold nbs; rw [List.length_map, List.length_range]
        intro D hD
        refine lc_vals walk_list ((nbs f cs.length).map V.int) hD rfl (fun H s => s.seq (sl R.sd.hn)) ?turn3 ?done3
        case turn3 =>
          rintro i x' H1 H2 hi2 p2 ⟨rfl, hx'⟩
          refine ⟨rfl, ?_⟩
          walk_at "go"
          exact lc_next hD p2 (by rw [List.length_map, hnl]; omega) hx'
        case done3 =>
          intro H20 s20 k20
          have R20 := R.same s20
          walk_at "go"
          refine ⟨d, _, nbs f cs.length, rfl, .inl R20.hd, rowsK_keys, fun ys l hp hs hf => ?_⟩
          obtain rfl := nbs_one hp hs
          walk_at "nw"
          rename_i H21 s21 k21
          have R21 := R20.same s21
          refine g_neL (sl (s21 _ _ k20)) (sl k21) ?_
          rw [decide_eq_true rfl]
          walk_at "go"
          refine ⟨S.p, S.dx, _, rfl, R21.sd.ho, own, S, x, W, 1 + u4, f, cs, rfl, R21.sd, (cs.length : Int), rfl, by omega, by omega, ?_⟩
          walk_at "go"
          refine ⟨d, _, rfl, R21.hd, ?_⟩
          rw [rowsK_len]
          have ho := R21.sd.ho
          walk_at "go"
          refine ⟨own, S, x, W, 1 + u4, f, cs, rfl, R21.sd, ?_⟩
          walk_at "go"
          refine g_lock R21.hd trivial fun od => ?_
          refine g_for ?_
          refine g_iKeys ?_
          walk_at "go"
          refine ⟨d, od, rfl, .inl ⟨_, upd_same, ?_⟩⟩
          have eF : (upd H21 d (.frz od (.dK (rowsK f r cs.length)))) d = some (.frz od (.dK (rowsK f r cs.length))) := upd_same
          have bF : But d H21 (upd H21 d (.frz od (.dK (rowsK f r cs.length)))) := But.refl.upd
          have OF : SdO T.C_Channels T.C_Channel own (upd H21 d (.frz od (.dK (rowsK f r cs.length)))) S x W (1 + u4) f cs := R21.sd.keep fun b o h e => bF _ _ (fun z => by
            rcases h with h | ⟨kk, h⟩
            · exact h (z ▸ R21.od)
            · rw [z, R21.hd] at e
              rw [h] at e
              cases e) e
          have RF : ∀ (i : Nat) (c : Ch), cs[i]? = some c → RwO (upd H21 d (.frz od (.dK (rowsK f r cs.length)))) (r i) c := fun i c e => by
            obtain ⟨g1, g2, g3⟩ := R21.hr i c e
            have nd : (r i).a ≠ d := fun z => by
              have e2 := R21.hd
              rw [← z, g1] at e2
              injection e2 with e2
              injection e2 with e2
              have := congrArg (List.map (·.1)) e2
              rw [rowsK_keys] at this
              have hj := ls_i e
              obtain ⟨n, hn⟩ : ∃ n, cs.length = n + 1 := ⟨cs.length - 1, by omega⟩
              rw [hn] at this
              have := congrArg List.head? this
              unfold nbs at this
              rw [List.range_succ_eq_map] at this
              cases this
            refine ⟨bF _ _ nd g1, bF _ _ (ne_of g2 R21.hd (fun z => nomatch z)) g2, g3.same fun tt o ⟨kk, ek⟩ et => bF _ _ (fun z => by rw [z, R21.hd] at et; rw [ek] at et; cases et) et⟩
          generalize upd H21 d (.frz od (.dK (rowsK f r cs.length))) = HF at eF bF OF RF
          refine for_it walk_keys (fun i σ H' => ∃ v9, σ = [some (.ref a), some (.ref sl_), some (.int f), some (.int W), some (.int (1 + u4)), some (.int B), some (.ref S.p), some (.ref d), v8, v9] ∧ Same HF H') ⟨none, rfl, fun _ _ e => e⟩ (fun i σ H' _ ⟨_, _, s⟩ => s _ _ eF) ?turn4 ?done4
          case turn4 =>
            rintro i x0 σ H' H'' hi ⟨v9, rfl, s⟩ ⟨rfl, k, vv, hk, rfl⟩
            obtain ⟨hin, rfl, rfl⟩ := rowsK_at hk
            obtain ⟨c, hc⟩ : ∃ c, cs[i]? = some c := ⟨_, List.getElem?_eq_getElem hin⟩
            have Os := OF.same s
            have hoF := Os.ho
            walk_at "go"
            refine ⟨own, S, x, W, 1 + u4, f, cs, nb f i, rfl, Os, (by unfold nb; omega), (by unfold nb; omega), .inr ⟨i, c, pos_some.mpr ⟨hin, rfl⟩, hc, fun dd H2 hdd s2 k2 => ?_⟩⟩
            walk_at "go"
            refine ⟨d, .ref (r i).a, rfl, .inl ⟨_, .inl (nb f i), .inr ⟨od, (s.trans s2) _ _ eF⟩, rfl, (by rw [rowsK_get, pos_some.mpr ⟨hin, rfl⟩]; rfl)⟩, ?_⟩
            walk_at "go"
            have hbr : BrO H2 (x i).b c.br := (Os.hc i c hc).2.2.2.2.same fun tt o _ e => s2 _ _ e
            obtain ⟨g1, g2, g3⟩ := RF i c hc
            refine ⟨dd, r i, c, W, (x i).b, rfl, k2, hbr, ⟨s2 _ _ (s _ _ g1), s2 _ _ (s _ _ g2), g3.same fun tt o _ e => s2 _ _ (s _ _ e)⟩, fun H3 s3 => ?_⟩
            walk_at "go"
            exact ⟨_, rfl, s.trans (s2.trans s3)⟩
          case done4 =>
            rintro σ H' ⟨v9, rfl, s⟩
            refine ⟨s _ _ eF, ?_⟩
            generalize zq : upd H' d _ = HZ
            have hoZ : HZ S.p = some (.ins T.C_Channels S.dx (obj ky_Channels [.non, .int W, .int (1 + u4), .int (nb f cs.length), .int S.nt, .ref S.cd, .ref S.nl, .ref S.tl, .ref S.ol, .ref S.gl, .ref S.cl])) := by
              rw [← zq, upd_ne (fun z => by rw [z] at ho; rw [R21.hd] at ho; cases ho)]
              exact s _ _ OF.ho
            clear zq
            walk_at "go"
            exact q _

end
end My
namespace My
open PySem PySem.Spec L2
local macro_rules | `(tactic| walk_at "side") => `(tactic| first | assumption | decide | omega | exact ⟨by decide, by decide⟩ | exact ⟨by decide, by decide, by decide⟩ | decide +kernel | exact cdivW (by decide +kernel) (by decide +kernel) | exact Or.inl ⟨by omega, by omega⟩ | exact Or.inr ⟨by omega, by omega⟩ | (simp only [List.length_map, List.length_cons, List.length_nil, List.length_append]; omega))
local macro_rules | `(tactic| walk_at "fact") => `(tactic| first | assumption | omega | with_reducible rfl)
local macro_rules | `(tactic| walk_at "use") => `(tactic| fail "use")
local macro_rules | `(tactic| walk_at "go1") => `(tactic| with_reducible first | refine g_seq ?_ | refine g_asg ?_ | refine g_ret ?_ | refine g_ifS ?_ | refine g_drop ?_ | refine g_star ?_ | refine g_nx ?_ | refine g_rt ?_ | refine g_bkE ?_ | refine g_ctE ?_ | refine g_next ?_ | refine g_retN ?_ | refine g_brk ?_ | refine g_ct ?_ | refine g_c ?_ | refine g_op ?_ | refine g_un ?_ | refine g_rI0 ?_ | refine g_rU ?_ | refine g_rEqI ?_ | refine g_rNeI ?_ | refine g_isN ?_ | refine g_rIsB ?_ | refine g_rNotB ?_ | refine g_test ?_ | refine g_B ?_ | refine g_bl ?_ | refine g_and ?_ | refine g_or ?_ | refine g_not ?_ | refine g_andV ?_ | refine g_orV ?_ | refine g_notV ?_ | refine g_if ?_ | refine g_chain ?_ | refine g_yes ?_ | refine g_lc ?_ | refine g_revR ?_ | refine g_rng1 ?_ | refine g_iList ?_ | refine g_nil ?_ | refine g_cons ?_ | refine g_tup ?_ | refine g_lst ?_ | refine g_call ?_ | refine g_CB ?_ | refine g_sl ?_ | refine g_noPart ?_ | refine g_part ?_ | refine g_intE ?_ | refine g_ref ?_ | refine g_fld ?_ | refine g_sfld ?_ | refine g_meth ?_ | refine g_make ?_ | refine g_prop ?_  | refine g_ipI ?_ | refine g_int1 ?_ | refine g_int1B ?_ | refine g_one ?_ | refine g_two ?_ | refine g_isiI ?_ | refine g_isiIB ?_ | refine g_isiB ?_ | refine g_BM ?_ | refine g_BM0 ?_ | refine g_sub ?_)
local macro_rules | `(tactic| walk_at "go") => `(tactic| repeat (first | walk_at "go1" | ((with_reducible refine' g_nameE ?sd_ ?_); case sd_ => dsimp only [List.set_cons_succ, List.set_cons_zero]) | ((with_reducible refine' g_var ?sd_ ?_); case sd_ => exact rfl) | ((with_reducible refine' g_aug ?sd_ ?_); case sd_ => exact rfl) | ((with_reducible refine' g_rI ?sd_ ?_); case sd_ => walk_at "side") | ((with_reducible refine' g_dT ?sd_ ?_); case sd_ => walk_at "fact") | ((with_reducible refine' g_dF ?sd_ ?_); case sd_ => walk_at "fact") | ((with_reducible refine' g_nT ?sd_ ?_); case sd_ => walk_at "fact") | ((with_reducible refine' g_nF ?sd_ ?_); case sd_ => walk_at "fact") | (with_reducible refine g_iT rfl ?_) | (with_reducible refine g_iF rfl ?_) | walk_at "use"))
local macro_rules | `(tactic| walk_at "nw") => `(tactic| (generalize zq : upd _ _ _ = Hq; have sq : Same _ Hq := (by rw [← zq]; exact same_upd (by assumption)); have kq := (congrFun zq _).symm.trans upd_same; clear zq))
local macro_rules | `(tactic| walk_at "bt") => `(tactic| (generalize zq : upd _ _ _ = Hq; have bq : But _ _ Hq := (by rw [← zq]; exact But.refl.upd); have kq := (congrFun zq _).symm.trans upd_same; clear zq))
theorem all_mk {l : PySem.W.OpenLaw} {w : World} {K : PySem.W.Frag} {h : Heap} {mg : Str → Option Value} {fa : Addr} (X : K.In h) (G : h.Ns mainGlobals mg) (hfa : mg "law" = some (.ref fa))
    {t_GREATEST_SIZE : Tok} {t_GREATEST_CODE : Tok} {C_ThroughlineError : Addr} {C_InvalidOptions : Addr} {C_InvalidAmount : Addr} {C_UnknownChannel : Addr} {C_TooManyChannels : Addr} {C_Channel : Addr} {C_Channels : Addr} {tcc_Channels_MOST_CHANNELS : Tok} {f_Channel_init__ : Addr} {od_Channel_init__ an_Channel_init__ : Option Addr} {sl_Channel_init__ : Array (Option Value)} {oc_Channel_init__ dc_Channel_init__ pm_Channel_init__ cd_Channel_init__ ct_Channel_init__ : Value} {kV_Channel_init__ : Value} {f_Channel_break_off : Addr} {od_Channel_break_off an_Channel_break_off : Option Addr} {sl_Channel_break_off : Array (Option Value)} {oc_Channel_break_off kV_Channel_break_off dc_Channel_break_off pm_Channel_break_off cd_Channel_break_off ct_Channel_break_off : Value} {f_Channels_init__ : Addr} {od_Channels_init__ an_Channels_init__ : Option Addr} {sl_Channels_init__ : Array (Option Value)} {oc_Channels_init__ dc_Channels_init__ pm_Channels_init__ cd_Channels_init__ ct_Channels_init__ : Value} {kV_Channels_init__ : Value} {f_Channels_len__ : Addr} {od_Channels_len__ an_Channels_len__ : Option Addr} {sl_Channels_len__ : Array (Option Value)} {oc_Channels_len__ kV_Channels_len__ dc_Channels_len__ pm_Channels_len__ cd_Channels_len__ ct_Channels_len__ : Value} {f_Channels_iter__ : Addr} {od_Channels_iter__ an_Channels_iter__ : Option Addr} {sl_Channels_iter__ : Array (Option Value)} {oc_Channels_iter__ kV_Channels_iter__ dc_Channels_iter__ pm_Channels_iter__ cd_Channels_iter__ ct_Channels_iter__ : Value} {f_Channels_open_channel : Addr} {od_Channels_open_channel an_Channels_open_channel : Option Addr} {sl_Channels_open_channel : Array (Option Value)} {oc_Channels_open_channel kV_Channels_open_channel dc_Channels_open_channel pm_Channels_open_channel cd_Channels_open_channel ct_Channels_open_channel : Value} {f_Channels_accept : Addr} {od_Channels_accept an_Channels_accept : Option Addr} {sl_Channels_accept : Array (Option Value)} {oc_Channels_accept kV_Channels_accept dc_Channels_accept pm_Channels_accept cd_Channels_accept ct_Channels_accept : Value} {f_Channels_write : Addr} {od_Channels_write an_Channels_write : Option Addr} {sl_Channels_write : Array (Option Value)} {oc_Channels_write kV_Channels_write dc_Channels_write pm_Channels_write cd_Channels_write ct_Channels_write : Value} {f_Channels_read : Addr} {od_Channels_read an_Channels_read : Option Addr} {sl_Channels_read : Array (Option Value)} {oc_Channels_read kV_Channels_read dc_Channels_read pm_Channels_read cd_Channels_read ct_Channels_read : Value} {f_Channels_finish : Addr} {od_Channels_finish an_Channels_finish : Option Addr} {sl_Channels_finish : Array (Option Value)} {oc_Channels_finish kV_Channels_finish dc_Channels_finish pm_Channels_finish cd_Channels_finish ct_Channels_finish : Value} {f_Channels_reset : Addr} {od_Channels_reset an_Channels_reset : Option Addr} {sl_Channels_reset : Array (Option Value)} {oc_Channels_reset kV_Channels_reset dc_Channels_reset pm_Channels_reset cd_Channels_reset ct_Channels_reset : Value} {f_Channels_status : Addr} {od_Channels_status an_Channels_status : Option Addr} {sl_Channels_status : Array (Option Value)} {oc_Channels_status kV_Channels_status dc_Channels_status pm_Channels_status cd_Channels_status ct_Channels_status : Value} {f_Channels_known : Addr} {od_Channels_known an_Channels_known : Option Addr} {sl_Channels_known : Array (Option Value)} {oc_Channels_known kV_Channels_known dc_Channels_known pm_Channels_known cd_Channels_known ct_Channels_known : Value} {f_Channels_add : Addr} {od_Channels_add an_Channels_add : Option Addr} {sl_Channels_add : Array (Option Value)} {oc_Channels_add kV_Channels_add dc_Channels_add pm_Channels_add cd_Channels_add ct_Channels_add : Value} {f_Channels_room_of : Addr} {od_Channels_room_of an_Channels_room_of : Option Addr} {sl_Channels_room_of : Array (Option Value)} {oc_Channels_room_of kV_Channels_room_of dc_Channels_room_of pm_Channels_room_of cd_Channels_room_of ct_Channels_room_of : Value} {f_l_cell : Addr} {od_l_cell an_l_cell : Option Addr} {sl_l_cell : Array (Option Value)} {oc_l_cell kV_l_cell dc_l_cell pm_l_cell cd_l_cell ct_l_cell : Value} {f_l_is_integer : Addr} {od_l_is_integer an_l_is_integer : Option Addr} {sl_l_is_integer : Array (Option Value)} {oc_l_is_integer kV_l_is_integer dc_l_is_integer pm_l_is_integer cd_l_is_integer ct_l_is_integer : Value} {f_l_start : Addr} {od_l_start an_l_start : Option Addr} {sl_l_start : Array (Option Value)} {oc_l_start kV_l_start dc_l_start pm_l_start cd_l_start ct_l_start : Value} {f_l_digit : Addr} {od_l_digit an_l_digit : Option Addr} {sl_l_digit : Array (Option Value)} {oc_l_digit kV_l_digit dc_l_digit pm_l_digit cd_l_digit ct_l_digit : Value} {f_l_call : Addr} {od_l_call an_l_call : Option Addr} {sl_l_call : Array (Option Value)} {oc_l_call kV_l_call dc_l_call pm_l_call cd_l_call ct_l_call : Value} {f_l_refused : Addr} {od_l_refused an_l_refused : Option Addr} {sl_l_refused : Array (Option Value)} {oc_l_refused kV_l_refused dc_l_refused pm_l_refused cd_l_refused ct_l_refused : Value} {f_l_status : Addr} {od_l_status an_l_status : Option Addr} {sl_l_status : Array (Option Value)} {oc_l_status kV_l_status dc_l_status pm_l_status cd_l_status ct_l_status : Value} {f_l_write : Addr} {od_l_write an_l_write : Option Addr} {sl_l_write : Array (Option Value)} {oc_l_write kV_l_write dc_l_write pm_l_write cd_l_write ct_l_write : Value} {f_l_reset : Addr} {od_l_reset an_l_reset : Option Addr} {sl_l_reset : Array (Option Value)} {oc_l_reset kV_l_reset dc_l_reset pm_l_reset cd_l_reset ct_l_reset : Value} {f_l_read : Addr} {od_l_read an_l_read : Option Addr} {sl_l_read : Array (Option Value)} {oc_l_read kV_l_read dc_l_read pm_l_read cd_l_read ct_l_read : Value} {f_l_open : Addr} {od_l_open an_l_open : Option Addr} {sl_l_open : Array (Option Value)} {oc_l_open kV_l_open dc_l_open pm_l_open cd_l_open ct_l_open : Value} {f_l_step : Addr} {od_l_step an_l_step : Option Addr} {sl_l_step : Array (Option Value)} {oc_l_step kV_l_step dc_l_step pm_l_step cd_l_step ct_l_step : Value} {f_law : Addr} {od_law an_law : Option Addr} {sl_law : Array (Option Value)} {oc_law kV_law dc_law pm_law cd_law ct_law : Value}
    (v_GREATEST_SIZE : PySem.W.nsIn K mainGlobals "GREATEST_SIZE" = some (some (.int 65535 t_GREATEST_SIZE)))
    (v_GREATEST_CODE : PySem.W.nsIn K mainGlobals "GREATEST_CODE" = some (some (.int 65535 t_GREATEST_CODE)))
    (c_ThroughlineError : PySem.W.nsIn K mainGlobals "ThroughlineError" = some (some (.ref C_ThroughlineError)))
    (be_ThroughlineError : PySem.W.subIn K (.ref C_ThroughlineError) (.type "BaseException") = some true)
    (te_ThroughlineError : PySem.W.typeIn K (.ref C_ThroughlineError) = some (.type "type"))
    (hd_ThroughlineError : PySem.W.hasDictIn K C_ThroughlineError = true)
    (ic_ThroughlineError : PySem.W.isClsIn K C_ThroughlineError = true)
    (c_InvalidOptions : PySem.W.nsIn K mainGlobals "InvalidOptions" = some (some (.ref C_InvalidOptions)))
    (be_InvalidOptions : PySem.W.subIn K (.ref C_InvalidOptions) (.type "BaseException") = some true)
    (te_InvalidOptions : PySem.W.typeIn K (.ref C_InvalidOptions) = some (.type "type"))
    (hd_InvalidOptions : PySem.W.hasDictIn K C_InvalidOptions = true)
    (ic_InvalidOptions : PySem.W.isClsIn K C_InvalidOptions = true)
    (c_InvalidAmount : PySem.W.nsIn K mainGlobals "InvalidAmount" = some (some (.ref C_InvalidAmount)))
    (be_InvalidAmount : PySem.W.subIn K (.ref C_InvalidAmount) (.type "BaseException") = some true)
    (te_InvalidAmount : PySem.W.typeIn K (.ref C_InvalidAmount) = some (.type "type"))
    (hd_InvalidAmount : PySem.W.hasDictIn K C_InvalidAmount = true)
    (ic_InvalidAmount : PySem.W.isClsIn K C_InvalidAmount = true)
    (c_UnknownChannel : PySem.W.nsIn K mainGlobals "UnknownChannel" = some (some (.ref C_UnknownChannel)))
    (be_UnknownChannel : PySem.W.subIn K (.ref C_UnknownChannel) (.type "BaseException") = some true)
    (te_UnknownChannel : PySem.W.typeIn K (.ref C_UnknownChannel) = some (.type "type"))
    (hd_UnknownChannel : PySem.W.hasDictIn K C_UnknownChannel = true)
    (ic_UnknownChannel : PySem.W.isClsIn K C_UnknownChannel = true)
    (c_TooManyChannels : PySem.W.nsIn K mainGlobals "TooManyChannels" = some (some (.ref C_TooManyChannels)))
    (be_TooManyChannels : PySem.W.subIn K (.ref C_TooManyChannels) (.type "BaseException") = some true)
    (te_TooManyChannels : PySem.W.typeIn K (.ref C_TooManyChannels) = some (.type "type"))
    (hd_TooManyChannels : PySem.W.hasDictIn K C_TooManyChannels = true)
    (ic_TooManyChannels : PySem.W.isClsIn K C_TooManyChannels = true)
    (xP_InvalidOptions : PySem.W.excIn K C_InvalidOptions [.type "ValueError", .type "Exception", .type "BaseException", .type "object"] "ValueError.__new__" = true)
    (ke_InvalidOptions : PySem.W.keepIn K (.ref C_InvalidOptions) = true)
    (xg_InvalidOptions : PySem.W.findIn K (.ref C_InvalidOptions) "__getattribute__" = some (some (.builtin "BaseException.__getattribute__")))
    (xk_InvalidOptions : PySem.W.findIn K (.ref C_InvalidOptions) "__getattr__" = some none)
    (xa_InvalidOptions : PySem.W.findIn K (.ref C_InvalidOptions) "__class__" = some (some (.builtin "object.__class__")))
    (xm_InvalidOptions : PySem.W.mroIn K C_InvalidOptions (.type "object") = some true)
    (hn_all : PySem.W.specialIn K (.builtin "object.__class__") "__get__" = some (some (.builtin "getset_descriptor.__get__")))
    (ht_all : PySem.W.takesIn K (.builtin "object.__class__") = some true)
    (su_InvalidOptions_UnknownChannel : PySem.W.subIn K (.ref C_InvalidOptions) (.ref C_UnknownChannel) = some false)
    (su_InvalidOptions_TooManyChannels : PySem.W.subIn K (.ref C_InvalidOptions) (.ref C_TooManyChannels) = some false)
    (su_InvalidOptions_InvalidAmount : PySem.W.subIn K (.ref C_InvalidOptions) (.ref C_InvalidAmount) = some false)
    (su_InvalidOptions_InvalidOptions : PySem.W.subIn K (.ref C_InvalidOptions) (.ref C_InvalidOptions) = some true)
    (su_InvalidOptions_ThroughlineError : PySem.W.subIn K (.ref C_InvalidOptions) (.ref C_ThroughlineError) = some true)
    (sr_InvalidOptions : PySem.W.subIn K (.ref C_InvalidOptions) (.ref C_InvalidOptions) = some true)
    (xP_TooManyChannels : PySem.W.excIn K C_TooManyChannels [.type "ValueError", .type "Exception", .type "BaseException", .type "object"] "ValueError.__new__" = true)
    (ke_TooManyChannels : PySem.W.keepIn K (.ref C_TooManyChannels) = true)
    (xg_TooManyChannels : PySem.W.findIn K (.ref C_TooManyChannels) "__getattribute__" = some (some (.builtin "BaseException.__getattribute__")))
    (xk_TooManyChannels : PySem.W.findIn K (.ref C_TooManyChannels) "__getattr__" = some none)
    (xa_TooManyChannels : PySem.W.findIn K (.ref C_TooManyChannels) "__class__" = some (some (.builtin "object.__class__")))
    (xm_TooManyChannels : PySem.W.mroIn K C_TooManyChannels (.type "object") = some true)
    (su_TooManyChannels_UnknownChannel : PySem.W.subIn K (.ref C_TooManyChannels) (.ref C_UnknownChannel) = some false)
    (su_TooManyChannels_TooManyChannels : PySem.W.subIn K (.ref C_TooManyChannels) (.ref C_TooManyChannels) = some true)
    (su_TooManyChannels_InvalidAmount : PySem.W.subIn K (.ref C_TooManyChannels) (.ref C_InvalidAmount) = some false)
    (su_TooManyChannels_InvalidOptions : PySem.W.subIn K (.ref C_TooManyChannels) (.ref C_InvalidOptions) = some false)
    (su_TooManyChannels_ThroughlineError : PySem.W.subIn K (.ref C_TooManyChannels) (.ref C_ThroughlineError) = some true)
    (sr_TooManyChannels : PySem.W.subIn K (.ref C_TooManyChannels) (.ref C_TooManyChannels) = some true)
    (xP_InvalidAmount : PySem.W.excIn K C_InvalidAmount [.type "ValueError", .type "Exception", .type "BaseException", .type "object"] "ValueError.__new__" = true)
    (ke_InvalidAmount : PySem.W.keepIn K (.ref C_InvalidAmount) = true)
    (xg_InvalidAmount : PySem.W.findIn K (.ref C_InvalidAmount) "__getattribute__" = some (some (.builtin "BaseException.__getattribute__")))
    (xk_InvalidAmount : PySem.W.findIn K (.ref C_InvalidAmount) "__getattr__" = some none)
    (xa_InvalidAmount : PySem.W.findIn K (.ref C_InvalidAmount) "__class__" = some (some (.builtin "object.__class__")))
    (xm_InvalidAmount : PySem.W.mroIn K C_InvalidAmount (.type "object") = some true)
    (su_InvalidAmount_UnknownChannel : PySem.W.subIn K (.ref C_InvalidAmount) (.ref C_UnknownChannel) = some false)
    (su_InvalidAmount_TooManyChannels : PySem.W.subIn K (.ref C_InvalidAmount) (.ref C_TooManyChannels) = some false)
    (su_InvalidAmount_InvalidAmount : PySem.W.subIn K (.ref C_InvalidAmount) (.ref C_InvalidAmount) = some true)
    (su_InvalidAmount_InvalidOptions : PySem.W.subIn K (.ref C_InvalidAmount) (.ref C_InvalidOptions) = some false)
    (su_InvalidAmount_ThroughlineError : PySem.W.subIn K (.ref C_InvalidAmount) (.ref C_ThroughlineError) = some true)
    (sr_InvalidAmount : PySem.W.subIn K (.ref C_InvalidAmount) (.ref C_InvalidAmount) = some true)
    (xP_UnknownChannel : PySem.W.excIn K C_UnknownChannel [.type "ValueError", .type "Exception", .type "BaseException", .type "object"] "ValueError.__new__" = true)
    (ke_UnknownChannel : PySem.W.keepIn K (.ref C_UnknownChannel) = true)
    (xg_UnknownChannel : PySem.W.findIn K (.ref C_UnknownChannel) "__getattribute__" = some (some (.builtin "BaseException.__getattribute__")))
    (xk_UnknownChannel : PySem.W.findIn K (.ref C_UnknownChannel) "__getattr__" = some none)
    (xa_UnknownChannel : PySem.W.findIn K (.ref C_UnknownChannel) "__class__" = some (some (.builtin "object.__class__")))
    (xm_UnknownChannel : PySem.W.mroIn K C_UnknownChannel (.type "object") = some true)
    (su_UnknownChannel_UnknownChannel : PySem.W.subIn K (.ref C_UnknownChannel) (.ref C_UnknownChannel) = some true)
    (su_UnknownChannel_TooManyChannels : PySem.W.subIn K (.ref C_UnknownChannel) (.ref C_TooManyChannels) = some false)
    (su_UnknownChannel_InvalidAmount : PySem.W.subIn K (.ref C_UnknownChannel) (.ref C_InvalidAmount) = some false)
    (su_UnknownChannel_InvalidOptions : PySem.W.subIn K (.ref C_UnknownChannel) (.ref C_InvalidOptions) = some false)
    (su_UnknownChannel_ThroughlineError : PySem.W.subIn K (.ref C_UnknownChannel) (.ref C_ThroughlineError) = some true)
    (sr_UnknownChannel : PySem.W.subIn K (.ref C_UnknownChannel) (.ref C_UnknownChannel) = some true)
    (c_Channel : PySem.W.nsIn K mainGlobals "Channel" = some (some (.ref C_Channel)))
    (pg_Channel : PySem.W.plainGet K C_Channel Str.empty = true)
    (hd_Channel : PySem.W.hasDictIn K C_Channel = true)
    (po_Channel : PySem.W.plainOver K C_Channel = true)
    (sa_Channel : PySem.W.findIn K (.ref C_Channel) "__setattr__" = some (some (.builtin "object.__setattr__")))
    (mk0_Channel : PySem.W.makesIn K C_Channel = true)
    (kc_Channel : PySem.W.keepIn K (.ref C_Channel) = true)
    (n_Channel_number : PySem.W.findIn K (.ref C_Channel) "number" = some none)
    (n_Channel_announced : PySem.W.findIn K (.ref C_Channel) "announced" = some none)
    (n_Channel_queue : PySem.W.findIn K (.ref C_Channel) "queue" = some none)
    (n_Channel_credit : PySem.W.findIn K (.ref C_Channel) "credit" = some none)
    (n_Channel_finished : PySem.W.findIn K (.ref C_Channel) "finished" = some none)
    (n_Channel_end_sent : PySem.W.findIn K (.ref C_Channel) "end_sent" = some none)
    (n_Channel_unread : PySem.W.findIn K (.ref C_Channel) "unread" = some none)
    (n_Channel_due : PySem.W.findIn K (.ref C_Channel) "due" = some none)
    (n_Channel_end_came : PySem.W.findIn K (.ref C_Channel) "end_came" = some none)
    (n_Channel_broken : PySem.W.findIn K (.ref C_Channel) "broken" = some none)
    (n_Channel_reset_told : PySem.W.findIn K (.ref C_Channel) "reset_told" = some none)
    (c_Channels : PySem.W.nsIn K mainGlobals "Channels" = some (some (.ref C_Channels)))
    (pg_Channels : PySem.W.plainGet K C_Channels Str.empty = true)
    (hd_Channels : PySem.W.hasDictIn K C_Channels = true)
    (po_Channels : PySem.W.plainOver K C_Channels = true)
    (sa_Channels : PySem.W.findIn K (.ref C_Channels) "__setattr__" = some (some (.builtin "object.__setattr__")))
    (mk0_Channels : PySem.W.makesIn K C_Channels = true)
    (kc_Channels : PySem.W.keepIn K (.ref C_Channels) = true)
    (n_Channels_failure : PySem.W.findIn K (.ref C_Channels) "failure" = some none)
    (n_Channels__window : PySem.W.findIn K (.ref C_Channels) "_window" = some none)
    (n_Channels__most : PySem.W.findIn K (.ref C_Channels) "_most" = some none)
    (n_Channels__next_here : PySem.W.findIn K (.ref C_Channels) "_next_here" = some none)
    (n_Channels__next_there : PySem.W.findIn K (.ref C_Channels) "_next_there" = some none)
    (n_Channels__channels : PySem.W.findIn K (.ref C_Channels) "_channels" = some none)
    (n_Channels__numbers : PySem.W.findIn K (.ref C_Channels) "_numbers" = some none)
    (n_Channels__turns : PySem.W.findIn K (.ref C_Channels) "_turns" = some none)
    (n_Channels__offered : PySem.W.findIn K (.ref C_Channels) "_offered" = some none)
    (n_Channels__going : PySem.W.findIn K (.ref C_Channels) "_going" = some none)
    (n_Channels__coming : PySem.W.findIn K (.ref C_Channels) "_coming" = some none)
    (rd_Channels : PySem.W.readsIn K C_Channels (.type "type") = true)
    (gg_Channels : PySem.W.specialIn K (.ref C_Channels) "__getattribute__" = some (some (.builtin "type.__getattribute__")))
    (cva_Channels_MOST_CHANNELS : PySem.W.findCls K (.ref C_Channels) (.type "type") "MOST_CHANNELS" = some (.val (.int 100 tcc_Channels_MOST_CHANNELS)))
    (a_Channel_init__ : PySem.W.findIn K (.ref C_Channel) "__init__" = some (some (.ref f_Channel_init__)))
    (i_Channel_init__ : PySem.W.isFn K (.ref f_Channel_init__) = true)
    (l_Channel_init__ : K.lookup f_Channel_init__ = some ⟨oc_Channel_init__, od_Channel_init__, .func (PySem.W.fnOf "__init__" "Channel.__init__" (defArgs s_Channel_init__) (defBody s_Channel_init__) (defScope s_Channel_init__) .none kV_Channel_init__ dc_Channel_init__ pm_Channel_init__ an_Channel_init__ cd_Channel_init__ ct_Channel_init__), sl_Channel_init__⟩)
    (cc_Channel_init__ : PySem.W.codeIn K cd_Channel_init__ "Channel.__init__" = true)
    (kk_Channel_init__ : PySem.W.keepIn K (.ref f_Channel_init__) = true)
    (a_Channel_break_off : PySem.W.findIn K (.ref C_Channel) "break_off" = some (some (.ref f_Channel_break_off)))
    (i_Channel_break_off : PySem.W.isFn K (.ref f_Channel_break_off) = true)
    (l_Channel_break_off : K.lookup f_Channel_break_off = some ⟨oc_Channel_break_off, od_Channel_break_off, .func (PySem.W.fnOf "break_off" "Channel.break_off" (defArgs s_Channel_break_off) (defBody s_Channel_break_off) (defScope s_Channel_break_off) .none kV_Channel_break_off dc_Channel_break_off pm_Channel_break_off an_Channel_break_off cd_Channel_break_off ct_Channel_break_off), sl_Channel_break_off⟩)
    (cc_Channel_break_off : PySem.W.codeIn K cd_Channel_break_off "Channel.break_off" = true)
    (kk_Channel_break_off : PySem.W.keepIn K (.ref f_Channel_break_off) = true)
    (a_Channels_init__ : PySem.W.findIn K (.ref C_Channels) "__init__" = some (some (.ref f_Channels_init__)))
    (i_Channels_init__ : PySem.W.isFn K (.ref f_Channels_init__) = true)
    (l_Channels_init__ : K.lookup f_Channels_init__ = some ⟨oc_Channels_init__, od_Channels_init__, .func (PySem.W.fnOf "__init__" "Channels.__init__" (defArgs s_Channels_init__) (defBody s_Channels_init__) (defScope s_Channels_init__) .none kV_Channels_init__ dc_Channels_init__ pm_Channels_init__ an_Channels_init__ cd_Channels_init__ ct_Channels_init__), sl_Channels_init__⟩)
    (cc_Channels_init__ : PySem.W.codeIn K cd_Channels_init__ "Channels.__init__" = true)
    (kk_Channels_init__ : PySem.W.keepIn K (.ref f_Channels_init__) = true)
    (a_Channels_len__ : PySem.W.findIn K (.ref C_Channels) "__len__" = some (some (.ref f_Channels_len__)))
    (i_Channels_len__ : PySem.W.isFn K (.ref f_Channels_len__) = true)
    (l_Channels_len__ : K.lookup f_Channels_len__ = some ⟨oc_Channels_len__, od_Channels_len__, .func (PySem.W.fnOf "__len__" "Channels.__len__" (defArgs s_Channels_len__) (defBody s_Channels_len__) (defScope s_Channels_len__) .none kV_Channels_len__ dc_Channels_len__ pm_Channels_len__ an_Channels_len__ cd_Channels_len__ ct_Channels_len__), sl_Channels_len__⟩)
    (cc_Channels_len__ : PySem.W.codeIn K cd_Channels_len__ "Channels.__len__" = true)
    (kk_Channels_len__ : PySem.W.keepIn K (.ref f_Channels_len__) = true)
    (a_Channels_iter__ : PySem.W.findIn K (.ref C_Channels) "__iter__" = some (some (.ref f_Channels_iter__)))
    (i_Channels_iter__ : PySem.W.isFn K (.ref f_Channels_iter__) = true)
    (l_Channels_iter__ : K.lookup f_Channels_iter__ = some ⟨oc_Channels_iter__, od_Channels_iter__, .func (PySem.W.fnOf "__iter__" "Channels.__iter__" (defArgs s_Channels_iter__) (defBody s_Channels_iter__) (defScope s_Channels_iter__) .none kV_Channels_iter__ dc_Channels_iter__ pm_Channels_iter__ an_Channels_iter__ cd_Channels_iter__ ct_Channels_iter__), sl_Channels_iter__⟩)
    (cc_Channels_iter__ : PySem.W.codeIn K cd_Channels_iter__ "Channels.__iter__" = true)
    (kk_Channels_iter__ : PySem.W.keepIn K (.ref f_Channels_iter__) = true)
    (a_Channels_open_channel : PySem.W.findIn K (.ref C_Channels) "open_channel" = some (some (.ref f_Channels_open_channel)))
    (i_Channels_open_channel : PySem.W.isFn K (.ref f_Channels_open_channel) = true)
    (l_Channels_open_channel : K.lookup f_Channels_open_channel = some ⟨oc_Channels_open_channel, od_Channels_open_channel, .func (PySem.W.fnOf "open_channel" "Channels.open_channel" (defArgs s_Channels_open_channel) (defBody s_Channels_open_channel) (defScope s_Channels_open_channel) .none kV_Channels_open_channel dc_Channels_open_channel pm_Channels_open_channel an_Channels_open_channel cd_Channels_open_channel ct_Channels_open_channel), sl_Channels_open_channel⟩)
    (cc_Channels_open_channel : PySem.W.codeIn K cd_Channels_open_channel "Channels.open_channel" = true)
    (kk_Channels_open_channel : PySem.W.keepIn K (.ref f_Channels_open_channel) = true)
    (a_Channels_accept : PySem.W.findIn K (.ref C_Channels) "accept" = some (some (.ref f_Channels_accept)))
    (i_Channels_accept : PySem.W.isFn K (.ref f_Channels_accept) = true)
    (l_Channels_accept : K.lookup f_Channels_accept = some ⟨oc_Channels_accept, od_Channels_accept, .func (PySem.W.fnOf "accept" "Channels.accept" (defArgs s_Channels_accept) (defBody s_Channels_accept) (defScope s_Channels_accept) .none kV_Channels_accept dc_Channels_accept pm_Channels_accept an_Channels_accept cd_Channels_accept ct_Channels_accept), sl_Channels_accept⟩)
    (cc_Channels_accept : PySem.W.codeIn K cd_Channels_accept "Channels.accept" = true)
    (kk_Channels_accept : PySem.W.keepIn K (.ref f_Channels_accept) = true)
    (a_Channels_write : PySem.W.findIn K (.ref C_Channels) "write" = some (some (.ref f_Channels_write)))
    (i_Channels_write : PySem.W.isFn K (.ref f_Channels_write) = true)
    (l_Channels_write : K.lookup f_Channels_write = some ⟨oc_Channels_write, od_Channels_write, .func (PySem.W.fnOf "write" "Channels.write" (defArgs s_Channels_write) (defBody s_Channels_write) (defScope s_Channels_write) .none kV_Channels_write dc_Channels_write pm_Channels_write an_Channels_write cd_Channels_write ct_Channels_write), sl_Channels_write⟩)
    (cc_Channels_write : PySem.W.codeIn K cd_Channels_write "Channels.write" = true)
    (kk_Channels_write : PySem.W.keepIn K (.ref f_Channels_write) = true)
    (a_Channels_read : PySem.W.findIn K (.ref C_Channels) "read" = some (some (.ref f_Channels_read)))
    (i_Channels_read : PySem.W.isFn K (.ref f_Channels_read) = true)
    (l_Channels_read : K.lookup f_Channels_read = some ⟨oc_Channels_read, od_Channels_read, .func (PySem.W.fnOf "read" "Channels.read" (defArgs s_Channels_read) (defBody s_Channels_read) (defScope s_Channels_read) .none kV_Channels_read dc_Channels_read pm_Channels_read an_Channels_read cd_Channels_read ct_Channels_read), sl_Channels_read⟩)
    (cc_Channels_read : PySem.W.codeIn K cd_Channels_read "Channels.read" = true)
    (kk_Channels_read : PySem.W.keepIn K (.ref f_Channels_read) = true)
    (a_Channels_finish : PySem.W.findIn K (.ref C_Channels) "finish" = some (some (.ref f_Channels_finish)))
    (i_Channels_finish : PySem.W.isFn K (.ref f_Channels_finish) = true)
    (l_Channels_finish : K.lookup f_Channels_finish = some ⟨oc_Channels_finish, od_Channels_finish, .func (PySem.W.fnOf "finish" "Channels.finish" (defArgs s_Channels_finish) (defBody s_Channels_finish) (defScope s_Channels_finish) .none kV_Channels_finish dc_Channels_finish pm_Channels_finish an_Channels_finish cd_Channels_finish ct_Channels_finish), sl_Channels_finish⟩)
    (cc_Channels_finish : PySem.W.codeIn K cd_Channels_finish "Channels.finish" = true)
    (kk_Channels_finish : PySem.W.keepIn K (.ref f_Channels_finish) = true)
    (a_Channels_reset : PySem.W.findIn K (.ref C_Channels) "reset" = some (some (.ref f_Channels_reset)))
    (i_Channels_reset : PySem.W.isFn K (.ref f_Channels_reset) = true)
    (l_Channels_reset : K.lookup f_Channels_reset = some ⟨oc_Channels_reset, od_Channels_reset, .func (PySem.W.fnOf "reset" "Channels.reset" (defArgs s_Channels_reset) (defBody s_Channels_reset) (defScope s_Channels_reset) .none kV_Channels_reset dc_Channels_reset pm_Channels_reset an_Channels_reset cd_Channels_reset ct_Channels_reset), sl_Channels_reset⟩)
    (cc_Channels_reset : PySem.W.codeIn K cd_Channels_reset "Channels.reset" = true)
    (kk_Channels_reset : PySem.W.keepIn K (.ref f_Channels_reset) = true)
    (a_Channels_status : PySem.W.findIn K (.ref C_Channels) "status" = some (some (.ref f_Channels_status)))
    (i_Channels_status : PySem.W.isFn K (.ref f_Channels_status) = true)
    (l_Channels_status : K.lookup f_Channels_status = some ⟨oc_Channels_status, od_Channels_status, .func (PySem.W.fnOf "status" "Channels.status" (defArgs s_Channels_status) (defBody s_Channels_status) (defScope s_Channels_status) .none kV_Channels_status dc_Channels_status pm_Channels_status an_Channels_status cd_Channels_status ct_Channels_status), sl_Channels_status⟩)
    (cc_Channels_status : PySem.W.codeIn K cd_Channels_status "Channels.status" = true)
    (kk_Channels_status : PySem.W.keepIn K (.ref f_Channels_status) = true)
    (a_Channels_known : PySem.W.findIn K (.ref C_Channels) "_known" = some (some (.ref f_Channels_known)))
    (i_Channels_known : PySem.W.isFn K (.ref f_Channels_known) = true)
    (l_Channels_known : K.lookup f_Channels_known = some ⟨oc_Channels_known, od_Channels_known, .func (PySem.W.fnOf "_known" "Channels._known" (defArgs s_Channels_known) (defBody s_Channels_known) (defScope s_Channels_known) .none kV_Channels_known dc_Channels_known pm_Channels_known an_Channels_known cd_Channels_known ct_Channels_known), sl_Channels_known⟩)
    (cc_Channels_known : PySem.W.codeIn K cd_Channels_known "Channels._known" = true)
    (kk_Channels_known : PySem.W.keepIn K (.ref f_Channels_known) = true)
    (a_Channels_add : PySem.W.findIn K (.ref C_Channels) "_add" = some (some (.ref f_Channels_add)))
    (i_Channels_add : PySem.W.isFn K (.ref f_Channels_add) = true)
    (l_Channels_add : K.lookup f_Channels_add = some ⟨oc_Channels_add, od_Channels_add, .func (PySem.W.fnOf "_add" "Channels._add" (defArgs s_Channels_add) (defBody s_Channels_add) (defScope s_Channels_add) .none kV_Channels_add dc_Channels_add pm_Channels_add an_Channels_add cd_Channels_add ct_Channels_add), sl_Channels_add⟩)
    (cc_Channels_add : PySem.W.codeIn K cd_Channels_add "Channels._add" = true)
    (kk_Channels_add : PySem.W.keepIn K (.ref f_Channels_add) = true)
    (a_Channels_room_of : PySem.W.findIn K (.ref C_Channels) "_room_of" = some (some (.ref f_Channels_room_of)))
    (i_Channels_room_of : PySem.W.isFn K (.ref f_Channels_room_of) = true)
    (l_Channels_room_of : K.lookup f_Channels_room_of = some ⟨oc_Channels_room_of, od_Channels_room_of, .func (PySem.W.fnOf "_room_of" "Channels._room_of" (defArgs s_Channels_room_of) (defBody s_Channels_room_of) (defScope s_Channels_room_of) .none kV_Channels_room_of dc_Channels_room_of pm_Channels_room_of an_Channels_room_of cd_Channels_room_of ct_Channels_room_of), sl_Channels_room_of⟩)
    (cc_Channels_room_of : PySem.W.codeIn K cd_Channels_room_of "Channels._room_of" = true)
    (kk_Channels_room_of : PySem.W.keepIn K (.ref f_Channels_room_of) = true)
    (a_l_cell : PySem.W.nsIn K mainGlobals "_law_cell" = some (some (.ref f_l_cell)))
    (l_l_cell : K.lookup f_l_cell = some ⟨oc_l_cell, od_l_cell, .func (PySem.W.fnOf "_law_cell" "_law_cell" (defArgs s_l_cell) (defBody s_l_cell) (defScope s_l_cell) .none kV_l_cell dc_l_cell pm_l_cell an_l_cell cd_l_cell ct_l_cell), sl_l_cell⟩)
    (cc_l_cell : PySem.W.codeIn K cd_l_cell "_law_cell" = true)
    (kk_l_cell : PySem.W.keepIn K (.ref f_l_cell) = true)
    (a_l_is_integer : PySem.W.nsIn K mainGlobals "_law_is_integer" = some (some (.ref f_l_is_integer)))
    (l_l_is_integer : K.lookup f_l_is_integer = some ⟨oc_l_is_integer, od_l_is_integer, .func (PySem.W.fnOf "_law_is_integer" "_law_is_integer" (defArgs s_l_is_integer) (defBody s_l_is_integer) (defScope s_l_is_integer) .none kV_l_is_integer dc_l_is_integer pm_l_is_integer an_l_is_integer cd_l_is_integer ct_l_is_integer), sl_l_is_integer⟩)
    (cc_l_is_integer : PySem.W.codeIn K cd_l_is_integer "_law_is_integer" = true)
    (kk_l_is_integer : PySem.W.keepIn K (.ref f_l_is_integer) = true)
    (a_l_start : PySem.W.nsIn K mainGlobals "_law_start" = some (some (.ref f_l_start)))
    (l_l_start : K.lookup f_l_start = some ⟨oc_l_start, od_l_start, .func (PySem.W.fnOf "_law_start" "_law_start" (defArgs s_l_start) (defBody s_l_start) (defScope s_l_start) .none kV_l_start dc_l_start pm_l_start an_l_start cd_l_start ct_l_start), sl_l_start⟩)
    (cc_l_start : PySem.W.codeIn K cd_l_start "_law_start" = true)
    (kk_l_start : PySem.W.keepIn K (.ref f_l_start) = true)
    (a_l_digit : PySem.W.nsIn K mainGlobals "_law_digit" = some (some (.ref f_l_digit)))
    (l_l_digit : K.lookup f_l_digit = some ⟨oc_l_digit, od_l_digit, .func (PySem.W.fnOf "_law_digit" "_law_digit" (defArgs s_l_digit) (defBody s_l_digit) (defScope s_l_digit) .none kV_l_digit dc_l_digit pm_l_digit an_l_digit cd_l_digit ct_l_digit), sl_l_digit⟩)
    (cc_l_digit : PySem.W.codeIn K cd_l_digit "_law_digit" = true)
    (kk_l_digit : PySem.W.keepIn K (.ref f_l_digit) = true)
    (a_l_call : PySem.W.nsIn K mainGlobals "_law_call" = some (some (.ref f_l_call)))
    (l_l_call : K.lookup f_l_call = some ⟨oc_l_call, od_l_call, .func (PySem.W.fnOf "_law_call" "_law_call" (defArgs s_l_call) (defBody s_l_call) (defScope s_l_call) .none kV_l_call dc_l_call pm_l_call an_l_call cd_l_call ct_l_call), sl_l_call⟩)
    (cc_l_call : PySem.W.codeIn K cd_l_call "_law_call" = true)
    (kk_l_call : PySem.W.keepIn K (.ref f_l_call) = true)
    (a_l_refused : PySem.W.nsIn K mainGlobals "_law_refused" = some (some (.ref f_l_refused)))
    (l_l_refused : K.lookup f_l_refused = some ⟨oc_l_refused, od_l_refused, .func (PySem.W.fnOf "_law_refused" "_law_refused" (defArgs s_l_refused) (defBody s_l_refused) (defScope s_l_refused) .none kV_l_refused dc_l_refused pm_l_refused an_l_refused cd_l_refused ct_l_refused), sl_l_refused⟩)
    (cc_l_refused : PySem.W.codeIn K cd_l_refused "_law_refused" = true)
    (kk_l_refused : PySem.W.keepIn K (.ref f_l_refused) = true)
    (a_l_status : PySem.W.nsIn K mainGlobals "_law_status" = some (some (.ref f_l_status)))
    (l_l_status : K.lookup f_l_status = some ⟨oc_l_status, od_l_status, .func (PySem.W.fnOf "_law_status" "_law_status" (defArgs s_l_status) (defBody s_l_status) (defScope s_l_status) .none kV_l_status dc_l_status pm_l_status an_l_status cd_l_status ct_l_status), sl_l_status⟩)
    (cc_l_status : PySem.W.codeIn K cd_l_status "_law_status" = true)
    (kk_l_status : PySem.W.keepIn K (.ref f_l_status) = true)
    (a_l_write : PySem.W.nsIn K mainGlobals "_law_write" = some (some (.ref f_l_write)))
    (l_l_write : K.lookup f_l_write = some ⟨oc_l_write, od_l_write, .func (PySem.W.fnOf "_law_write" "_law_write" (defArgs s_l_write) (defBody s_l_write) (defScope s_l_write) .none kV_l_write dc_l_write pm_l_write an_l_write cd_l_write ct_l_write), sl_l_write⟩)
    (cc_l_write : PySem.W.codeIn K cd_l_write "_law_write" = true)
    (kk_l_write : PySem.W.keepIn K (.ref f_l_write) = true)
    (a_l_reset : PySem.W.nsIn K mainGlobals "_law_reset" = some (some (.ref f_l_reset)))
    (l_l_reset : K.lookup f_l_reset = some ⟨oc_l_reset, od_l_reset, .func (PySem.W.fnOf "_law_reset" "_law_reset" (defArgs s_l_reset) (defBody s_l_reset) (defScope s_l_reset) .none kV_l_reset dc_l_reset pm_l_reset an_l_reset cd_l_reset ct_l_reset), sl_l_reset⟩)
    (cc_l_reset : PySem.W.codeIn K cd_l_reset "_law_reset" = true)
    (kk_l_reset : PySem.W.keepIn K (.ref f_l_reset) = true)
    (a_l_read : PySem.W.nsIn K mainGlobals "_law_read" = some (some (.ref f_l_read)))
    (l_l_read : K.lookup f_l_read = some ⟨oc_l_read, od_l_read, .func (PySem.W.fnOf "_law_read" "_law_read" (defArgs s_l_read) (defBody s_l_read) (defScope s_l_read) .none kV_l_read dc_l_read pm_l_read an_l_read cd_l_read ct_l_read), sl_l_read⟩)
    (cc_l_read : PySem.W.codeIn K cd_l_read "_law_read" = true)
    (kk_l_read : PySem.W.keepIn K (.ref f_l_read) = true)
    (a_l_open : PySem.W.nsIn K mainGlobals "_law_open" = some (some (.ref f_l_open)))
    (l_l_open : K.lookup f_l_open = some ⟨oc_l_open, od_l_open, .func (PySem.W.fnOf "_law_open" "_law_open" (defArgs s_l_open) (defBody s_l_open) (defScope s_l_open) .none kV_l_open dc_l_open pm_l_open an_l_open cd_l_open ct_l_open), sl_l_open⟩)
    (cc_l_open : PySem.W.codeIn K cd_l_open "_law_open" = true)
    (kk_l_open : PySem.W.keepIn K (.ref f_l_open) = true)
    (a_l_step : PySem.W.nsIn K mainGlobals "_law_step" = some (some (.ref f_l_step)))
    (l_l_step : K.lookup f_l_step = some ⟨oc_l_step, od_l_step, .func (PySem.W.fnOf "_law_step" "_law_step" (defArgs s_l_step) (defBody s_l_step) (defScope s_l_step) .none kV_l_step dc_l_step pm_l_step an_l_step cd_l_step ct_l_step), sl_l_step⟩)
    (cc_l_step : PySem.W.codeIn K cd_l_step "_law_step" = true)
    (kk_l_step : PySem.W.keepIn K (.ref f_l_step) = true)
    (a_law : PySem.W.nsIn K mainGlobals "law" = some (some (.ref f_law)))
    (l_law : K.lookup f_law = some ⟨oc_law, od_law, .func (PySem.W.fnOf "law" "law" (defArgs s_law) (defBody s_law) (defScope s_law) .none kV_law dc_law pm_law an_law cd_law ct_law), sl_law⟩)
    (cc_law : PySem.W.codeIn K cd_law "law" = true)
    (kk_law : PySem.W.keepIn K (.ref f_law) = true)
    (z_bool : PySem.W.nsIn K mainGlobals "bool" = some none)
    (z_dict : PySem.W.nsIn K mainGlobals "dict" = some none)
    (z_int : PySem.W.nsIn K mainGlobals "int" = some none)
    (z_isinstance : PySem.W.nsIn K mainGlobals "isinstance" = some none)
    (z_iter : PySem.W.nsIn K mainGlobals "iter" = some none)
    (z_len : PySem.W.nsIn K mainGlobals "len" = some none)
    (z_list : PySem.W.nsIn K mainGlobals "list" = some none)
    (z_max : PySem.W.nsIn K mainGlobals "max" = some none)
    (z_min : PySem.W.nsIn K mainGlobals "min" = some none)
    (z_range : PySem.W.nsIn K mainGlobals "range" = some none)
    (z_sorted : PySem.W.nsIn K mainGlobals "sorted" = some none)
    : ∃ fd : FuncData, (∀ (s : Shared) (v : Value), BindsTo s fd ⟨[v], []⟩ [("script", v)]) ∧ ∀ base : Heap, K.In base → base.Ns mainGlobals mg → FnOk l.prog w K mg base CX0 7 fa fd ["script"] (sp_law K) := by
  have e := hfa.symm.trans (PySem.W.mg_of X G a_law)
  have e2 : f_law = fa := by
    injection e with e
    injection e with e
    exact e.symm
  subst e2
  have F_Channel_init__ : FunD K "__init__" "Channel.__init__" (defArgs s_Channel_init__) (defBody s_Channel_init__) (defScope s_Channel_init__) [] [] f_Channel_init__ _ := ⟨⟨_, _, _, _, _, _, _, _, _, _, rfl, l_Channel_init__, cc_Channel_init__, .inl ⟨rfl, rfl⟩, .inl rfl⟩, kk_Channel_init__⟩
  have F_Channel_break_off := fun_mk (st := s_Channel_break_off) l_Channel_break_off cc_Channel_break_off kk_Channel_break_off
  have b_Channel_break_off := F_Channel_break_off.binds (ps := ["self", "place", "code"]) fun _ _ _ _ _ _ us hl => match us, hl with | [_, _, _], _ => rfl
  have F_Channels_init__ : FunD K "__init__" "Channels.__init__" (defArgs s_Channels_init__) (defBody s_Channels_init__) (defScope s_Channels_init__) [] [] f_Channels_init__ _ := ⟨⟨_, _, _, _, _, _, _, _, _, _, rfl, l_Channels_init__, cc_Channels_init__, .inl ⟨rfl, rfl⟩, .inl rfl⟩, kk_Channels_init__⟩
  have F_Channels_len__ := fun_mk (st := s_Channels_len__) l_Channels_len__ cc_Channels_len__ kk_Channels_len__
  have b_Channels_len__ := F_Channels_len__.binds (ps := ["self"]) fun _ _ _ _ _ _ us hl => match us, hl with | [_], _ => rfl
  have F_Channels_iter__ := fun_mk (st := s_Channels_iter__) l_Channels_iter__ cc_Channels_iter__ kk_Channels_iter__
  have b_Channels_iter__ := F_Channels_iter__.binds (ps := ["self"]) fun _ _ _ _ _ _ us hl => match us, hl with | [_], _ => rfl
  have F_Channels_open_channel := fun_mk (st := s_Channels_open_channel) l_Channels_open_channel cc_Channels_open_channel kk_Channels_open_channel
  have b_Channels_open_channel := F_Channels_open_channel.binds (ps := ["self"]) fun _ _ _ _ _ _ us hl => match us, hl with | [_], _ => rfl
  have F_Channels_accept := fun_mk (st := s_Channels_accept) l_Channels_accept cc_Channels_accept kk_Channels_accept
  have b_Channels_accept := F_Channels_accept.binds (ps := ["self"]) fun _ _ _ _ _ _ us hl => match us, hl with | [_], _ => rfl
  have F_Channels_write := fun_mk (st := s_Channels_write) l_Channels_write cc_Channels_write kk_Channels_write
  have b_Channels_write := F_Channels_write.binds (ps := ["self", "channel", "octets"]) fun _ _ _ _ _ _ us hl => match us, hl with | [_, _, _], _ => rfl
  have F_Channels_read := fun_mk (st := s_Channels_read) l_Channels_read cc_Channels_read kk_Channels_read
  have b_Channels_read := F_Channels_read.binds (ps := ["self", "channel", "count"]) fun _ _ _ _ _ _ us hl => match us, hl with | [_, _, _], _ => rfl
  have F_Channels_finish := fun_mk (st := s_Channels_finish) l_Channels_finish cc_Channels_finish kk_Channels_finish
  have b_Channels_finish := F_Channels_finish.binds (ps := ["self", "channel"]) fun _ _ _ _ _ _ us hl => match us, hl with | [_, _], _ => rfl
  have F_Channels_reset := fun_mk (st := s_Channels_reset) l_Channels_reset cc_Channels_reset kk_Channels_reset
  have b_Channels_reset := F_Channels_reset.binds (ps := ["self", "channel", "code"]) fun _ _ _ _ _ _ us hl => match us, hl with | [_, _, _], _ => rfl
  have F_Channels_status := fun_mk (st := s_Channels_status) l_Channels_status cc_Channels_status kk_Channels_status
  have b_Channels_status := F_Channels_status.binds (ps := ["self", "channel"]) fun _ _ _ _ _ _ us hl => match us, hl with | [_, _], _ => rfl
  have F_Channels_known := fun_mk (st := s_Channels_known) l_Channels_known cc_Channels_known kk_Channels_known
  have b_Channels_known := F_Channels_known.binds (ps := ["self", "number"]) fun _ _ _ _ _ _ us hl => match us, hl with | [_, _], _ => rfl
  have F_Channels_add := fun_mk (st := s_Channels_add) l_Channels_add cc_Channels_add kk_Channels_add
  have b_Channels_add := F_Channels_add.binds (ps := ["self", "channel"]) fun _ _ _ _ _ _ us hl => match us, hl with | [_, _], _ => rfl
  have F_Channels_room_of := fun_mk (st := s_Channels_room_of) l_Channels_room_of cc_Channels_room_of kk_Channels_room_of
  have b_Channels_room_of := F_Channels_room_of.binds (ps := ["self", "channel"]) fun _ _ _ _ _ _ us hl => match us, hl with | [_, _], _ => rfl
  have F_l_cell := fun_mk (st := s_l_cell) l_l_cell cc_l_cell kk_l_cell
  have b_l_cell := F_l_cell.binds (ps := ["script", "k"]) fun _ _ _ _ _ _ us hl => match us, hl with | [_, _], _ => rfl
  have F_l_is_integer := fun_mk (st := s_l_is_integer) l_l_is_integer cc_l_is_integer kk_l_is_integer
  have b_l_is_integer := F_l_is_integer.binds (ps := ["told"]) fun _ _ _ _ _ _ us hl => match us, hl with | [_], _ => rfl
  have F_l_start := fun_mk (st := s_l_start) l_l_start cc_l_start kk_l_start
  have b_l_start := F_l_start.binds (ps := ["cell", "k"]) fun _ _ _ _ _ _ us hl => match us, hl with | [_, _], _ => rfl
  have F_l_digit := fun_mk (st := s_l_digit) l_l_digit cc_l_digit kk_l_digit
  have b_l_digit := F_l_digit.binds (ps := ["state", "many"]) fun _ _ _ _ _ _ us hl => match us, hl with | [_, _], _ => rfl
  have F_l_call := fun_mk (st := s_l_call) l_l_call cc_l_call kk_l_call
  have b_l_call := F_l_call.binds (ps := ["side", "name", "args"]) fun _ _ _ _ _ _ us hl => match us, hl with | [_, _, _], _ => rfl
  have F_l_refused := fun_mk (st := s_l_refused) l_l_refused cc_l_refused kk_l_refused
  have b_l_refused := F_l_refused.binds (ps := ["first", "window", "most"]) fun _ _ _ _ _ _ us hl => match us, hl with | [_, _, _], _ => rfl
  have F_l_status := fun_mk (st := s_l_status) l_l_status cc_l_status kk_l_status
  have b_l_status := F_l_status.binds (ps := ["told", "row", "window"]) fun _ _ _ _ _ _ us hl => match us, hl with | [_, _, _], _ => rfl
  have F_l_write := fun_mk (st := s_l_write) l_l_write cc_l_write kk_l_write
  have b_l_write := F_l_write.binds (ps := ["side", "rows", "number", "octets", "window"]) fun _ _ _ _ _ _ us hl => match us, hl with | [_, _, _, _, _], _ => rfl
  have F_l_reset := fun_mk (st := s_l_reset) l_l_reset cc_l_reset kk_l_reset
  have b_l_reset := F_l_reset.binds (ps := ["side", "rows", "number", "code"]) fun _ _ _ _ _ _ us hl => match us, hl with | [_, _, _, _], _ => rfl
  have F_l_read := fun_mk (st := s_l_read) l_l_read cc_l_read kk_l_read
  have b_l_read := F_l_read.binds (ps := ["side", "rows", "number", "count"]) fun _ _ _ _ _ _ us hl => match us, hl with | [_, _, _, _], _ => rfl
  have F_l_open := fun_mk (st := s_l_open) l_l_open cc_l_open kk_l_open
  have b_l_open := F_l_open.binds (ps := ["side", "rows", "turn"]) fun _ _ _ _ _ _ us hl => match us, hl with | [_, _, _], _ => rfl
  have F_l_step := fun_mk (st := s_l_step) l_l_step cc_l_step kk_l_step
  have b_l_step := F_l_step.binds (ps := ["side", "rows", "state", "window", "turn"]) fun _ _ _ _ _ _ us hl => match us, hl with | [_, _, _, _, _], _ => rfl
  have F_law := fun_mk (st := s_law) l_law cc_law kk_law
  have b_law := F_law.binds (ps := ["script"]) fun _ _ _ _ _ _ us hl => match us, hl with | [_], _ => rfl
  let T : Txt l.prog K mg := { t_GREATEST_SIZE := t_GREATEST_SIZE, t_GREATEST_CODE := t_GREATEST_CODE, C_ThroughlineError := C_ThroughlineError, C_InvalidOptions := C_InvalidOptions, C_InvalidAmount := C_InvalidAmount, C_UnknownChannel := C_UnknownChannel, C_TooManyChannels := C_TooManyChannels, C_Channel := C_Channel, C_Channels := C_Channels, f_Channel_init__ := f_Channel_init__, d_Channel_init__ := _, f_Channel_break_off := f_Channel_break_off, d_Channel_break_off := _, f_Channels_init__ := f_Channels_init__, d_Channels_init__ := _, f_Channels_len__ := f_Channels_len__, d_Channels_len__ := _, f_Channels_iter__ := f_Channels_iter__, d_Channels_iter__ := _, f_Channels_open_channel := f_Channels_open_channel, d_Channels_open_channel := _, f_Channels_accept := f_Channels_accept, d_Channels_accept := _, f_Channels_write := f_Channels_write, d_Channels_write := _, f_Channels_read := f_Channels_read, d_Channels_read := _, f_Channels_finish := f_Channels_finish, d_Channels_finish := _, f_Channels_reset := f_Channels_reset, d_Channels_reset := _, f_Channels_status := f_Channels_status, d_Channels_status := _, f_Channels_known := f_Channels_known, d_Channels_known := _, f_Channels_add := f_Channels_add, d_Channels_add := _, f_Channels_room_of := f_Channels_room_of, d_Channels_room_of := _, f_l_cell := f_l_cell, d_l_cell := _, f_l_is_integer := f_l_is_integer, d_l_is_integer := _, f_l_start := f_l_start, d_l_start := _, f_l_digit := f_l_digit, d_l_digit := _, f_l_call := f_l_call, d_l_call := _, f_l_refused := f_l_refused, d_l_refused := _, f_l_status := f_l_status, d_l_status := _, f_l_write := f_l_write, d_l_write := _, f_l_reset := f_l_reset, d_l_reset := _, f_l_read := f_l_read, d_l_read := _, f_l_open := f_l_open, d_l_open := _, f_l_step := f_l_step, d_l_step := _, f_law := f_law, d_law := _, v_GREATEST_SIZE := PySem.W.mg_of X G v_GREATEST_SIZE, v_GREATEST_CODE := PySem.W.mg_of X G v_GREATEST_CODE, c_ThroughlineError := PySem.W.mg_of X G c_ThroughlineError, c_InvalidOptions := PySem.W.mg_of X G c_InvalidOptions, c_InvalidAmount := PySem.W.mg_of X G c_InvalidAmount, c_UnknownChannel := PySem.W.mg_of X G c_UnknownChannel, c_TooManyChannels := PySem.W.mg_of X G c_TooManyChannels, xP_InvalidOptions := xP_InvalidOptions, ke_InvalidOptions := ke_InvalidOptions, be_InvalidOptions := be_InvalidOptions, te_InvalidOptions := te_InvalidOptions, xc_InvalidOptions := ⟨xg_InvalidOptions, xk_InvalidOptions, be_InvalidOptions, hd_InvalidOptions, xa_InvalidOptions, hn_all, ht_all, xm_InvalidOptions⟩, em_InvalidOptions_UnknownChannel := PySem.W.exm_ref be_UnknownChannel hd_UnknownChannel te_UnknownChannel su_InvalidOptions_UnknownChannel, em_InvalidOptions_TooManyChannels := PySem.W.exm_ref be_TooManyChannels hd_TooManyChannels te_TooManyChannels su_InvalidOptions_TooManyChannels, em_InvalidOptions_InvalidAmount := PySem.W.exm_ref be_InvalidAmount hd_InvalidAmount te_InvalidAmount su_InvalidOptions_InvalidAmount, em_InvalidOptions_InvalidOptions := PySem.W.exm_ref be_InvalidOptions hd_InvalidOptions te_InvalidOptions su_InvalidOptions_InvalidOptions, ko_InvalidOptions_ThroughlineError := kit_refT ic_ThroughlineError te_ThroughlineError su_InvalidOptions_ThroughlineError, ko_InvalidOptions_InvalidAmount := kit_refF ic_InvalidAmount te_InvalidAmount su_InvalidOptions_InvalidAmount sr_InvalidOptions, ko_InvalidOptions_UnknownChannel := kit_refF ic_UnknownChannel te_UnknownChannel su_InvalidOptions_UnknownChannel sr_InvalidOptions, xP_TooManyChannels := xP_TooManyChannels, ke_TooManyChannels := ke_TooManyChannels, be_TooManyChannels := be_TooManyChannels, te_TooManyChannels := te_TooManyChannels, xc_TooManyChannels := ⟨xg_TooManyChannels, xk_TooManyChannels, be_TooManyChannels, hd_TooManyChannels, xa_TooManyChannels, hn_all, ht_all, xm_TooManyChannels⟩, em_TooManyChannels_UnknownChannel := PySem.W.exm_ref be_UnknownChannel hd_UnknownChannel te_UnknownChannel su_TooManyChannels_UnknownChannel, em_TooManyChannels_TooManyChannels := PySem.W.exm_ref be_TooManyChannels hd_TooManyChannels te_TooManyChannels su_TooManyChannels_TooManyChannels, em_TooManyChannels_InvalidAmount := PySem.W.exm_ref be_InvalidAmount hd_InvalidAmount te_InvalidAmount su_TooManyChannels_InvalidAmount, em_TooManyChannels_InvalidOptions := PySem.W.exm_ref be_InvalidOptions hd_InvalidOptions te_InvalidOptions su_TooManyChannels_InvalidOptions, ko_TooManyChannels_ThroughlineError := kit_refT ic_ThroughlineError te_ThroughlineError su_TooManyChannels_ThroughlineError, ko_TooManyChannels_InvalidAmount := kit_refF ic_InvalidAmount te_InvalidAmount su_TooManyChannels_InvalidAmount sr_TooManyChannels, ko_TooManyChannels_UnknownChannel := kit_refF ic_UnknownChannel te_UnknownChannel su_TooManyChannels_UnknownChannel sr_TooManyChannels, xP_InvalidAmount := xP_InvalidAmount, ke_InvalidAmount := ke_InvalidAmount, be_InvalidAmount := be_InvalidAmount, te_InvalidAmount := te_InvalidAmount, xc_InvalidAmount := ⟨xg_InvalidAmount, xk_InvalidAmount, be_InvalidAmount, hd_InvalidAmount, xa_InvalidAmount, hn_all, ht_all, xm_InvalidAmount⟩, em_InvalidAmount_UnknownChannel := PySem.W.exm_ref be_UnknownChannel hd_UnknownChannel te_UnknownChannel su_InvalidAmount_UnknownChannel, em_InvalidAmount_TooManyChannels := PySem.W.exm_ref be_TooManyChannels hd_TooManyChannels te_TooManyChannels su_InvalidAmount_TooManyChannels, em_InvalidAmount_InvalidAmount := PySem.W.exm_ref be_InvalidAmount hd_InvalidAmount te_InvalidAmount su_InvalidAmount_InvalidAmount, em_InvalidAmount_InvalidOptions := PySem.W.exm_ref be_InvalidOptions hd_InvalidOptions te_InvalidOptions su_InvalidAmount_InvalidOptions, ko_InvalidAmount_ThroughlineError := kit_refT ic_ThroughlineError te_ThroughlineError su_InvalidAmount_ThroughlineError, ko_InvalidAmount_InvalidAmount := kit_refT ic_InvalidAmount te_InvalidAmount su_InvalidAmount_InvalidAmount, ko_InvalidAmount_UnknownChannel := kit_refF ic_UnknownChannel te_UnknownChannel su_InvalidAmount_UnknownChannel sr_InvalidAmount, xP_UnknownChannel := xP_UnknownChannel, ke_UnknownChannel := ke_UnknownChannel, be_UnknownChannel := be_UnknownChannel, te_UnknownChannel := te_UnknownChannel, xc_UnknownChannel := ⟨xg_UnknownChannel, xk_UnknownChannel, be_UnknownChannel, hd_UnknownChannel, xa_UnknownChannel, hn_all, ht_all, xm_UnknownChannel⟩, em_UnknownChannel_UnknownChannel := PySem.W.exm_ref be_UnknownChannel hd_UnknownChannel te_UnknownChannel su_UnknownChannel_UnknownChannel, em_UnknownChannel_TooManyChannels := PySem.W.exm_ref be_TooManyChannels hd_TooManyChannels te_TooManyChannels su_UnknownChannel_TooManyChannels, em_UnknownChannel_InvalidAmount := PySem.W.exm_ref be_InvalidAmount hd_InvalidAmount te_InvalidAmount su_UnknownChannel_InvalidAmount, em_UnknownChannel_InvalidOptions := PySem.W.exm_ref be_InvalidOptions hd_InvalidOptions te_InvalidOptions su_UnknownChannel_InvalidOptions, ko_UnknownChannel_ThroughlineError := kit_refT ic_ThroughlineError te_ThroughlineError su_UnknownChannel_ThroughlineError, ko_UnknownChannel_InvalidAmount := kit_refF ic_InvalidAmount te_InvalidAmount su_UnknownChannel_InvalidAmount sr_UnknownChannel, ko_UnknownChannel_UnknownChannel := kit_refT ic_UnknownChannel te_UnknownChannel su_UnknownChannel_UnknownChannel, c_Channel := PySem.W.mg_of X G c_Channel, k_Channel := ⟨pg_Channel, hd_Channel, po_Channel, sa_Channel⟩, n_Channel_number := n_Channel_number, n_Channel_announced := n_Channel_announced, n_Channel_queue := n_Channel_queue, n_Channel_credit := n_Channel_credit, n_Channel_finished := n_Channel_finished, n_Channel_end_sent := n_Channel_end_sent, n_Channel_unread := n_Channel_unread, n_Channel_due := n_Channel_due, n_Channel_end_came := n_Channel_end_came, n_Channel_broken := n_Channel_broken, n_Channel_reset_told := n_Channel_reset_told, c_Channels := PySem.W.mg_of X G c_Channels, k_Channels := ⟨pg_Channels, hd_Channels, po_Channels, sa_Channels⟩, n_Channels_failure := n_Channels_failure, n_Channels__window := n_Channels__window, n_Channels__most := n_Channels__most, n_Channels__next_here := n_Channels__next_here, n_Channels__next_there := n_Channels__next_there, n_Channels__channels := n_Channels__channels, n_Channels__numbers := n_Channels__numbers, n_Channels__turns := n_Channels__turns, n_Channels__offered := n_Channels__offered, n_Channels__going := n_Channels__going, n_Channels__coming := n_Channels__coming, F_Channel_init__ := F_Channel_init__, mk_Channel := ⟨mk0_Channel, a_Channel_init__, i_Channel_init__, kc_Channel⟩, F_Channel_break_off := F_Channel_break_off, b_Channel_break_off := b_Channel_break_off, a_Channel_break_off := ⟨a_Channel_break_off, i_Channel_break_off, kk_Channel_break_off⟩, F_Channels_init__ := F_Channels_init__, mk_Channels := ⟨mk0_Channels, a_Channels_init__, i_Channels_init__, kc_Channels⟩, F_Channels_len__ := F_Channels_len__, b_Channels_len__ := b_Channels_len__, a_Channels_len__ := ⟨a_Channels_len__, i_Channels_len__, kk_Channels_len__⟩, F_Channels_iter__ := F_Channels_iter__, b_Channels_iter__ := b_Channels_iter__, a_Channels_iter__ := ⟨a_Channels_iter__, i_Channels_iter__, kk_Channels_iter__⟩, F_Channels_open_channel := F_Channels_open_channel, b_Channels_open_channel := b_Channels_open_channel, a_Channels_open_channel := ⟨a_Channels_open_channel, i_Channels_open_channel, kk_Channels_open_channel⟩, F_Channels_accept := F_Channels_accept, b_Channels_accept := b_Channels_accept, a_Channels_accept := ⟨a_Channels_accept, i_Channels_accept, kk_Channels_accept⟩, F_Channels_write := F_Channels_write, b_Channels_write := b_Channels_write, a_Channels_write := ⟨a_Channels_write, i_Channels_write, kk_Channels_write⟩, F_Channels_read := F_Channels_read, b_Channels_read := b_Channels_read, a_Channels_read := ⟨a_Channels_read, i_Channels_read, kk_Channels_read⟩, F_Channels_finish := F_Channels_finish, b_Channels_finish := b_Channels_finish, a_Channels_finish := ⟨a_Channels_finish, i_Channels_finish, kk_Channels_finish⟩, F_Channels_reset := F_Channels_reset, b_Channels_reset := b_Channels_reset, a_Channels_reset := ⟨a_Channels_reset, i_Channels_reset, kk_Channels_reset⟩, F_Channels_status := F_Channels_status, b_Channels_status := b_Channels_status, a_Channels_status := ⟨a_Channels_status, i_Channels_status, kk_Channels_status⟩, F_Channels_known := F_Channels_known, b_Channels_known := b_Channels_known, a_Channels_known := ⟨a_Channels_known, i_Channels_known, kk_Channels_known⟩, F_Channels_add := F_Channels_add, b_Channels_add := b_Channels_add, a_Channels_add := ⟨a_Channels_add, i_Channels_add, kk_Channels_add⟩, F_Channels_room_of := F_Channels_room_of, b_Channels_room_of := b_Channels_room_of, a_Channels_room_of := ⟨a_Channels_room_of, i_Channels_room_of, kk_Channels_room_of⟩, F_l_cell := F_l_cell, b_l_cell := b_l_cell, m_l_cell := PySem.W.mg_of X G a_l_cell, F_l_is_integer := F_l_is_integer, b_l_is_integer := b_l_is_integer, m_l_is_integer := PySem.W.mg_of X G a_l_is_integer, F_l_start := F_l_start, b_l_start := b_l_start, m_l_start := PySem.W.mg_of X G a_l_start, F_l_digit := F_l_digit, b_l_digit := b_l_digit, m_l_digit := PySem.W.mg_of X G a_l_digit, F_l_call := F_l_call, b_l_call := b_l_call, m_l_call := PySem.W.mg_of X G a_l_call, F_l_refused := F_l_refused, b_l_refused := b_l_refused, m_l_refused := PySem.W.mg_of X G a_l_refused, F_l_status := F_l_status, b_l_status := b_l_status, m_l_status := PySem.W.mg_of X G a_l_status, F_l_write := F_l_write, b_l_write := b_l_write, m_l_write := PySem.W.mg_of X G a_l_write, F_l_reset := F_l_reset, b_l_reset := b_l_reset, m_l_reset := PySem.W.mg_of X G a_l_reset, F_l_read := F_l_read, b_l_read := b_l_read, m_l_read := PySem.W.mg_of X G a_l_read, F_l_open := F_l_open, b_l_open := b_l_open, m_l_open := PySem.W.mg_of X G a_l_open, F_l_step := F_l_step, b_l_step := b_l_step, m_l_step := PySem.W.mg_of X G a_l_step, F_law := F_law, b_law := b_law, m_law := PySem.W.mg_of X G a_law, cr_Channels := ⟨rd_Channels, gg_Channels⟩, cv_Channels_MOST_CHANNELS := ⟨_, cva_Channels_MOST_CHANNELS, by first | exact rfl | exact ⟨_, rfl⟩⟩, n_bool := PySem.W.mg_none_of X G z_bool, n_dict := PySem.W.mg_none_of X G z_dict, n_int := PySem.W.mg_none_of X G z_int, n_isinstance := PySem.W.mg_none_of X G z_isinstance, n_iter := PySem.W.mg_none_of X G z_iter, n_len := PySem.W.mg_none_of X G z_len, n_list := PySem.W.mg_none_of X G z_list, n_max := PySem.W.mg_none_of X G z_max, n_min := PySem.W.mg_none_of X G z_min, n_range := PySem.W.mg_none_of X G z_range, n_sorted := PySem.W.mg_none_of X G z_sorted }
  exact ⟨PySem.W.fnOf "law" "law" (defArgs s_law) (defBody s_law) (defScope s_law) .none kV_law dc_law pm_law an_law cd_law ct_law, fun s v => .of_eq rfl, fun base _ _ => ok_law T⟩
theorem walk {l : PySem.W.OpenLaw} {q : Program} {loose : List Str} {XP : (Str → Option Value) → Heap → Prop} {YP : World → Heap → Prop} {d : DefRec} {K : Params → PySem.W.Frag} (hn : l.most = some 63) (hdf : d.params.defaults = [])
    (hY : ∀ (w : World) (h : Heap), YP w h → (K w.params).In h)
    (F : ∀ (w : World) (mg : Str → Option Value) (fa : Addr) (h : Heap), (K w.params).In h → h.Ns mainGlobals mg → mg d.name = some (.ref fa) →
      ∃ fd : FuncData, (∀ (s : Shared) (u : Value), BindsTo s fd ⟨[u], []⟩ [("script", u)]) ∧ ∀ base : Heap, (K w.params).In base → base.Ns mainGlobals mg → FnOk l.prog w (K w.params) mg base CX0 7 fa fd ["script"] (sp_law (K w.params))) :
    PySem.W.WalkO q loose XP YP l.row.toRowW d [] (fun f vs => PySem.call f vs) :=
  L2.walk_of (n := 63) (k := 7) (x := "script") (CX := fun _ => CX0) (sp := fun w => sp_law (K w.params)) hn (by decide) hdf ⟨rfl, by decide, by decide⟩ hY F (fun _ _ a ns hl _ hS => ⟨a, ns, rfl, hS, hl, fun _ => rfl⟩) fun _ _ _ _ _ z => z
end My
open PySem PySem.W PyProof.Rows
set_option maxRecDepth 100000 in
set_option maxHeartbeats 0 in
theorem PySem.Challenge.cw_throughline_k50_calls_on_channels_holds : PySem.Challenge.rw_throughline_k50_calls_on_channels.Holds := by
  w_on; o_law; k_head; (case hw => w_witness2)
  k_fill
  refine My.walk (l := PySem.Challenge.rw_throughline_k50_calls_on_channels) rfl rfl (fun w h Y => PySem.W.kIn_of Y) ?F
  case F =>
    intro w mg fa h KX G hmg
    refine' My.all_mk KX G hmg ?v_GREATEST_SIZE ?v_GREATEST_CODE ?c_ThroughlineError ?be_ThroughlineError ?te_ThroughlineError ?hd_ThroughlineError ?ic_ThroughlineError ?c_InvalidOptions ?be_InvalidOptions ?te_InvalidOptions ?hd_InvalidOptions ?ic_InvalidOptions ?c_InvalidAmount ?be_InvalidAmount ?te_InvalidAmount ?hd_InvalidAmount ?ic_InvalidAmount ?c_UnknownChannel ?be_UnknownChannel ?te_UnknownChannel ?hd_UnknownChannel ?ic_UnknownChannel ?c_TooManyChannels ?be_TooManyChannels ?te_TooManyChannels ?hd_TooManyChannels ?ic_TooManyChannels ?xP_InvalidOptions ?ke_InvalidOptions ?xg_InvalidOptions ?xk_InvalidOptions ?xa_InvalidOptions ?xm_InvalidOptions ?hn_all ?ht_all ?su_InvalidOptions_UnknownChannel ?su_InvalidOptions_TooManyChannels ?su_InvalidOptions_InvalidAmount ?su_InvalidOptions_InvalidOptions ?su_InvalidOptions_ThroughlineError ?sr_InvalidOptions ?xP_TooManyChannels ?ke_TooManyChannels ?xg_TooManyChannels ?xk_TooManyChannels ?xa_TooManyChannels ?xm_TooManyChannels ?su_TooManyChannels_UnknownChannel ?su_TooManyChannels_TooManyChannels ?su_TooManyChannels_InvalidAmount ?su_TooManyChannels_InvalidOptions ?su_TooManyChannels_ThroughlineError ?sr_TooManyChannels ?xP_InvalidAmount ?ke_InvalidAmount ?xg_InvalidAmount ?xk_InvalidAmount ?xa_InvalidAmount ?xm_InvalidAmount ?su_InvalidAmount_UnknownChannel ?su_InvalidAmount_TooManyChannels ?su_InvalidAmount_InvalidAmount ?su_InvalidAmount_InvalidOptions ?su_InvalidAmount_ThroughlineError ?sr_InvalidAmount ?xP_UnknownChannel ?ke_UnknownChannel ?xg_UnknownChannel ?xk_UnknownChannel ?xa_UnknownChannel ?xm_UnknownChannel ?su_UnknownChannel_UnknownChannel ?su_UnknownChannel_TooManyChannels ?su_UnknownChannel_InvalidAmount ?su_UnknownChannel_InvalidOptions ?su_UnknownChannel_ThroughlineError ?sr_UnknownChannel ?c_Channel ?pg_Channel ?hd_Channel ?po_Channel ?sa_Channel ?mk0_Channel ?kc_Channel ?n_Channel_number ?n_Channel_announced ?n_Channel_queue ?n_Channel_credit ?n_Channel_finished ?n_Channel_end_sent ?n_Channel_unread ?n_Channel_due ?n_Channel_end_came ?n_Channel_broken ?n_Channel_reset_told ?c_Channels ?pg_Channels ?hd_Channels ?po_Channels ?sa_Channels ?mk0_Channels ?kc_Channels ?n_Channels_failure ?n_Channels__window ?n_Channels__most ?n_Channels__next_here ?n_Channels__next_there ?n_Channels__channels ?n_Channels__numbers ?n_Channels__turns ?n_Channels__offered ?n_Channels__going ?n_Channels__coming ?rd_Channels ?gg_Channels ?cva_Channels_MOST_CHANNELS ?a_Channel_init__ ?i_Channel_init__ ?l_Channel_init__ ?cc_Channel_init__ ?kk_Channel_init__ ?a_Channel_break_off ?i_Channel_break_off ?l_Channel_break_off ?cc_Channel_break_off ?kk_Channel_break_off ?a_Channels_init__ ?i_Channels_init__ ?l_Channels_init__ ?cc_Channels_init__ ?kk_Channels_init__ ?a_Channels_len__ ?i_Channels_len__ ?l_Channels_len__ ?cc_Channels_len__ ?kk_Channels_len__ ?a_Channels_iter__ ?i_Channels_iter__ ?l_Channels_iter__ ?cc_Channels_iter__ ?kk_Channels_iter__ ?a_Channels_open_channel ?i_Channels_open_channel ?l_Channels_open_channel ?cc_Channels_open_channel ?kk_Channels_open_channel ?a_Channels_accept ?i_Channels_accept ?l_Channels_accept ?cc_Channels_accept ?kk_Channels_accept ?a_Channels_write ?i_Channels_write ?l_Channels_write ?cc_Channels_write ?kk_Channels_write ?a_Channels_read ?i_Channels_read ?l_Channels_read ?cc_Channels_read ?kk_Channels_read ?a_Channels_finish ?i_Channels_finish ?l_Channels_finish ?cc_Channels_finish ?kk_Channels_finish ?a_Channels_reset ?i_Channels_reset ?l_Channels_reset ?cc_Channels_reset ?kk_Channels_reset ?a_Channels_status ?i_Channels_status ?l_Channels_status ?cc_Channels_status ?kk_Channels_status ?a_Channels_known ?i_Channels_known ?l_Channels_known ?cc_Channels_known ?kk_Channels_known ?a_Channels_add ?i_Channels_add ?l_Channels_add ?cc_Channels_add ?kk_Channels_add ?a_Channels_room_of ?i_Channels_room_of ?l_Channels_room_of ?cc_Channels_room_of ?kk_Channels_room_of ?a_l_cell ?l_l_cell ?cc_l_cell ?kk_l_cell ?a_l_is_integer ?l_l_is_integer ?cc_l_is_integer ?kk_l_is_integer ?a_l_start ?l_l_start ?cc_l_start ?kk_l_start ?a_l_digit ?l_l_digit ?cc_l_digit ?kk_l_digit ?a_l_call ?l_l_call ?cc_l_call ?kk_l_call ?a_l_refused ?l_l_refused ?cc_l_refused ?kk_l_refused ?a_l_status ?l_l_status ?cc_l_status ?kk_l_status ?a_l_write ?l_l_write ?cc_l_write ?kk_l_write ?a_l_reset ?l_l_reset ?cc_l_reset ?kk_l_reset ?a_l_read ?l_l_read ?cc_l_read ?kk_l_read ?a_l_open ?l_l_open ?cc_l_open ?kk_l_open ?a_l_step ?l_l_step ?cc_l_step ?kk_l_step ?a_law ?l_law ?cc_law ?kk_law ?z_bool ?z_dict ?z_int ?z_isinstance ?z_iter ?z_len ?z_list ?z_max ?z_min ?z_range ?z_sorted
    (case v_GREATEST_SIZE => k_is)
    (case v_GREATEST_CODE => k_is)
    (case c_ThroughlineError => k_is)
    (case be_ThroughlineError => k_is)
    (case te_ThroughlineError => k_is)
    (case hd_ThroughlineError => k_is)
    (case ic_ThroughlineError => k_is)
    (case c_InvalidOptions => k_is)
    (case be_InvalidOptions => k_is)
    (case te_InvalidOptions => k_is)
    (case hd_InvalidOptions => k_is)
    (case ic_InvalidOptions => k_is)
    (case c_InvalidAmount => k_is)
    (case be_InvalidAmount => k_is)
    (case te_InvalidAmount => k_is)
    (case hd_InvalidAmount => k_is)
    (case ic_InvalidAmount => k_is)
    (case c_UnknownChannel => k_is)
    (case be_UnknownChannel => k_is)
    (case te_UnknownChannel => k_is)
    (case hd_UnknownChannel => k_is)
    (case ic_UnknownChannel => k_is)
    (case c_TooManyChannels => k_is)
    (case be_TooManyChannels => k_is)
    (case te_TooManyChannels => k_is)
    (case hd_TooManyChannels => k_is)
    (case ic_TooManyChannels => k_is)
    (case xP_InvalidOptions => k_exc)
    (case ke_InvalidOptions => k_is)
    (case xg_InvalidOptions => k_is)
    (case xk_InvalidOptions => k_is)
    (case xa_InvalidOptions => k_is)
    (case xm_InvalidOptions => k_is)
    (case hn_all => k_is)
    (case ht_all => k_is)
    (case su_InvalidOptions_UnknownChannel => first | k_is | rfl)
    (case su_InvalidOptions_TooManyChannels => first | k_is | rfl)
    (case su_InvalidOptions_InvalidAmount => first | k_is | rfl)
    (case su_InvalidOptions_InvalidOptions => first | k_is | rfl)
    (case su_InvalidOptions_ThroughlineError => first | k_is | rfl)
    (case sr_InvalidOptions => first | rfl | k_is)
    (case xP_TooManyChannels => k_exc)
    (case ke_TooManyChannels => k_is)
    (case xg_TooManyChannels => k_is)
    (case xk_TooManyChannels => k_is)
    (case xa_TooManyChannels => k_is)
    (case xm_TooManyChannels => k_is)
    (case su_TooManyChannels_UnknownChannel => first | k_is | rfl)
    (case su_TooManyChannels_TooManyChannels => first | k_is | rfl)
    (case su_TooManyChannels_InvalidAmount => first | k_is | rfl)
    (case su_TooManyChannels_InvalidOptions => first | k_is | rfl)
    (case su_TooManyChannels_ThroughlineError => first | k_is | rfl)
    (case sr_TooManyChannels => first | rfl | k_is)
    (case xP_InvalidAmount => k_exc)
    (case ke_InvalidAmount => k_is)
    (case xg_InvalidAmount => k_is)
    (case xk_InvalidAmount => k_is)
    (case xa_InvalidAmount => k_is)
    (case xm_InvalidAmount => k_is)
    (case su_InvalidAmount_UnknownChannel => first | k_is | rfl)
    (case su_InvalidAmount_TooManyChannels => first | k_is | rfl)
    (case su_InvalidAmount_InvalidAmount => first | k_is | rfl)
    (case su_InvalidAmount_InvalidOptions => first | k_is | rfl)
    (case su_InvalidAmount_ThroughlineError => first | k_is | rfl)
    (case sr_InvalidAmount => first | rfl | k_is)
    (case xP_UnknownChannel => k_exc)
    (case ke_UnknownChannel => k_is)
    (case xg_UnknownChannel => k_is)
    (case xk_UnknownChannel => k_is)
    (case xa_UnknownChannel => k_is)
    (case xm_UnknownChannel => k_is)
    (case su_UnknownChannel_UnknownChannel => first | k_is | rfl)
    (case su_UnknownChannel_TooManyChannels => first | k_is | rfl)
    (case su_UnknownChannel_InvalidAmount => first | k_is | rfl)
    (case su_UnknownChannel_InvalidOptions => first | k_is | rfl)
    (case su_UnknownChannel_ThroughlineError => first | k_is | rfl)
    (case sr_UnknownChannel => first | rfl | k_is)
    (case c_Channel => k_is)
    (case pg_Channel => k_is)
    (case hd_Channel => k_is)
    (case po_Channel => k_is)
    (case sa_Channel => k_is)
    (case mk0_Channel => k_is)
    (case kc_Channel => k_is)
    (case n_Channel_number => k_is)
    (case n_Channel_announced => k_is)
    (case n_Channel_queue => k_is)
    (case n_Channel_credit => k_is)
    (case n_Channel_finished => k_is)
    (case n_Channel_end_sent => k_is)
    (case n_Channel_unread => k_is)
    (case n_Channel_due => k_is)
    (case n_Channel_end_came => k_is)
    (case n_Channel_broken => k_is)
    (case n_Channel_reset_told => k_is)
    (case c_Channels => k_is)
    (case pg_Channels => k_is)
    (case hd_Channels => k_is)
    (case po_Channels => k_is)
    (case sa_Channels => k_is)
    (case mk0_Channels => k_is)
    (case kc_Channels => k_is)
    (case n_Channels_failure => k_is)
    (case n_Channels__window => k_is)
    (case n_Channels__most => k_is)
    (case n_Channels__next_here => k_is)
    (case n_Channels__next_there => k_is)
    (case n_Channels__channels => k_is)
    (case n_Channels__numbers => k_is)
    (case n_Channels__turns => k_is)
    (case n_Channels__offered => k_is)
    (case n_Channels__going => k_is)
    (case n_Channels__coming => k_is)
    (case rd_Channels => k_is)
    (case gg_Channels => k_is)
    (case cva_Channels_MOST_CHANNELS => k_is)
    (case a_Channel_init__ => k_is)
    (case i_Channel_init__ => k_is)
    (case l_Channel_init__ => k_is)
    (case cc_Channel_init__ => k_is)
    (case kk_Channel_init__ => k_is)
    (case a_Channel_break_off => k_is)
    (case i_Channel_break_off => k_is)
    (case l_Channel_break_off => k_is)
    (case cc_Channel_break_off => k_is)
    (case kk_Channel_break_off => k_is)
    (case a_Channels_init__ => k_is)
    (case i_Channels_init__ => k_is)
    (case l_Channels_init__ => k_is)
    (case cc_Channels_init__ => k_is)
    (case kk_Channels_init__ => k_is)
    (case a_Channels_len__ => k_is)
    (case i_Channels_len__ => k_is)
    (case l_Channels_len__ => k_is)
    (case cc_Channels_len__ => k_is)
    (case kk_Channels_len__ => k_is)
    (case a_Channels_iter__ => k_is)
    (case i_Channels_iter__ => k_is)
    (case l_Channels_iter__ => k_is)
    (case cc_Channels_iter__ => k_is)
    (case kk_Channels_iter__ => k_is)
    (case a_Channels_open_channel => k_is)
    (case i_Channels_open_channel => k_is)
    (case l_Channels_open_channel => k_is)
    (case cc_Channels_open_channel => k_is)
    (case kk_Channels_open_channel => k_is)
    (case a_Channels_accept => k_is)
    (case i_Channels_accept => k_is)
    (case l_Channels_accept => k_is)
    (case cc_Channels_accept => k_is)
    (case kk_Channels_accept => k_is)
    (case a_Channels_write => k_is)
    (case i_Channels_write => k_is)
    (case l_Channels_write => k_is)
    (case cc_Channels_write => k_is)
    (case kk_Channels_write => k_is)
    (case a_Channels_read => k_is)
    (case i_Channels_read => k_is)
    (case l_Channels_read => k_is)
    (case cc_Channels_read => k_is)
    (case kk_Channels_read => k_is)
    (case a_Channels_finish => k_is)
    (case i_Channels_finish => k_is)
    (case l_Channels_finish => k_is)
    (case cc_Channels_finish => k_is)
    (case kk_Channels_finish => k_is)
    (case a_Channels_reset => k_is)
    (case i_Channels_reset => k_is)
    (case l_Channels_reset => k_is)
    (case cc_Channels_reset => k_is)
    (case kk_Channels_reset => k_is)
    (case a_Channels_status => k_is)
    (case i_Channels_status => k_is)
    (case l_Channels_status => k_is)
    (case cc_Channels_status => k_is)
    (case kk_Channels_status => k_is)
    (case a_Channels_known => k_is)
    (case i_Channels_known => k_is)
    (case l_Channels_known => k_is)
    (case cc_Channels_known => k_is)
    (case kk_Channels_known => k_is)
    (case a_Channels_add => k_is)
    (case i_Channels_add => k_is)
    (case l_Channels_add => k_is)
    (case cc_Channels_add => k_is)
    (case kk_Channels_add => k_is)
    (case a_Channels_room_of => k_is)
    (case i_Channels_room_of => k_is)
    (case l_Channels_room_of => k_is)
    (case cc_Channels_room_of => k_is)
    (case kk_Channels_room_of => k_is)
    (case a_l_cell => k_is)
    (case l_l_cell => k_is)
    (case cc_l_cell => k_is)
    (case kk_l_cell => k_is)
    (case a_l_is_integer => k_is)
    (case l_l_is_integer => k_is)
    (case cc_l_is_integer => k_is)
    (case kk_l_is_integer => k_is)
    (case a_l_start => k_is)
    (case l_l_start => k_is)
    (case cc_l_start => k_is)
    (case kk_l_start => k_is)
    (case a_l_digit => k_is)
    (case l_l_digit => k_is)
    (case cc_l_digit => k_is)
    (case kk_l_digit => k_is)
    (case a_l_call => k_is)
    (case l_l_call => k_is)
    (case cc_l_call => k_is)
    (case kk_l_call => k_is)
    (case a_l_refused => k_is)
    (case l_l_refused => k_is)
    (case cc_l_refused => k_is)
    (case kk_l_refused => k_is)
    (case a_l_status => k_is)
    (case l_l_status => k_is)
    (case cc_l_status => k_is)
    (case kk_l_status => k_is)
    (case a_l_write => k_is)
    (case l_l_write => k_is)
    (case cc_l_write => k_is)
    (case kk_l_write => k_is)
    (case a_l_reset => k_is)
    (case l_l_reset => k_is)
    (case cc_l_reset => k_is)
    (case kk_l_reset => k_is)
    (case a_l_read => k_is)
    (case l_l_read => k_is)
    (case cc_l_read => k_is)
    (case kk_l_read => k_is)
    (case a_l_open => k_is)
    (case l_l_open => k_is)
    (case cc_l_open => k_is)
    (case kk_l_open => k_is)
    (case a_l_step => k_is)
    (case l_l_step => k_is)
    (case cc_l_step => k_is)
    (case kk_l_step => k_is)
    (case a_law => k_is)
    (case l_law => k_is)
    (case cc_law => k_is)
    (case kk_law => k_is)
    (case z_bool => k_is)
    (case z_dict => k_is)
    (case z_int => k_is)
    (case z_isinstance => k_is)
    (case z_iter => k_is)
    (case z_len => k_is)
    (case z_list => k_is)
    (case z_max => k_is)
    (case z_min => k_is)
    (case z_range => k_is)
    (case z_sorted => k_is)
#print axioms PySem.Challenge.cw_throughline_k50_calls_on_channels_holds

