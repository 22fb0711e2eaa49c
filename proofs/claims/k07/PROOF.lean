import PyProof.Rows.All
import Wide.All
import OpenK.AllK
import Wide.FinOn
import HandS.ForMost
import HandS.IsInst
import HandS.Wide
import HandS.Style
import HandS.Conv
import HandS.RevRange
import HandS.Walk
import HandS.Property
import HandS.Star
import HandS.Codes
import HandS.TupAny
import KE.KItemsList
import PyProof.ZipIter
import HandS.ListItems
import HandS.Zip
import HandS.WideBits
import HandS.MakeKwOnly
import HandS.Defaults
import KE.KSuper
import KE.RegKSuper
import HandS.Nested
import HandS.ClsMeth
import HandS.Flow
import HandS.Rev
import HandS.Iter
import HandS.Dict
import HandS.Small
import HandS.FStr
import HandS.More
import HandS.Exc
import HandS.ExcIs
import HandS.ExcInit
import HandS.ExcField
import HandS.WordsExc
import HandS.TryOnly
import KE.KExcIs
import HandS.RaiseMore
import HandS.ForExc
import PySem.Challenge.RW_throughline_k07_options_read
set_option Elab.async false
set_option linter.all false
set_option maxRecDepth 100000
set_option maxHeartbeats 4000000
namespace My
open PySem PySem.Spec L2
/-! ### readings, one rule a construct -/
section
variable {K : PySem.W.Frag} {σ : St} {H : Hp} {Q : VK} {v x y z : V} {ta tb te tc : TE} {tt tu : TT} {r : R2} {D : Ends} {ts us : TS} {P : Bool → Hp → Prop} {i j : Int}
theorem g_var {i : Nat} (h : σ[i]? = some (some v)) (q : Q v H) : tVar i σ H Q := ⟨v, h, q⟩
theorem g_c (q : Q v H) : tC v σ H Q := q
theorem g_op (h : ta σ H fun x H1 => tb σ H1 fun y H2 => r x y H2 Q) : tOp r ta tb σ H Q := h
theorem g_un {r : V → Hp → VK → Prop} (h : ta σ H fun x H1 => r x H1 Q) : tUn r ta σ H Q := h
theorem g_rI0 {g : Int → Int → V} (q : Q (g i j) H) : rI0 g (.int i) (.int j) H Q := ⟨i, j, rfl, rfl, q⟩
theorem g_rI {C : Int → Int → Prop} {g : Int → Int → V} (c : C i j) (q : Q (g i j) H) : rI C g (.int i) (.int j) H Q := ⟨i, j, rfl, rfl, c, q⟩
theorem g_rU {g : Int → V} (q : Q (g i) H) : rU g (.int i) H Q := ⟨i, rfl, q⟩
theorem g_rEqI (q : Q (.bl (decide (i = j))) H) : rEq (.int i) (.int j) H Q := ⟨rfl, by rw [dec_int]; exact q⟩
theorem g_rNeI (q : Q (.bl (!decide (i = j))) H) : rNe (.int i) (.int j) H Q := ⟨rfl, by rw [dec_int]; exact q⟩
theorem g_rEq (s : scal x y = true) (q : Q (.bl (decide (x = y))) H) : rEq x y H Q := ⟨s, q⟩
theorem g_rNe (s : scal x y = true) (q : Q (.bl (!decide (x = y))) H) : rNe x y H Q := ⟨s, q⟩
theorem g_isN {A : Prop} (q : A) : V.non = V.non ∧ A := ⟨rfl, q⟩
theorem g_rIsB {a b : Bool} (q : Q (.bl (decide (a = b))) H) : rIsB (.bl a) (.bl b) H Q := ⟨a, b, rfl, rfl, q⟩
theorem g_rNotB {a b : Bool} (q : Q (.bl (!decide (a = b))) H) : rNotB (.bl a) (.bl b) H Q := ⟨a, b, rfl, rfl, q⟩
theorem g_test {t : TE} (h : t σ H fun x H' => ∃ k, x = .bl k ∧ P k H') : tTest t σ H P := h
theorem g_B {t : TE} (h : t σ H fun x H' => ∃ k, x = .bl k ∧ P k H') : tB t σ H P := h
theorem g_bl {b : Bool} {A : Bool → Prop} (q : A b) : ∃ k, V.bl b = .bl k ∧ A k := ⟨b, rfl, q⟩
theorem g_and (h : tt σ H fun c H1 => if c = true then tu σ H1 P else P false H1) : tAnd tt tu σ H P := h
theorem g_or (h : tt σ H fun c H1 => if c = true then P true H1 else tu σ H1 P) : tOr tt tu σ H P := h
theorem g_not (h : tt σ H fun c H1 => P (!c) H1) : tNot tt σ H P := h
theorem g_andV (h : ta σ H fun x H1 => ∃ c, x = .bl c ∧ if c = true then tb σ H1 Q else Q (.bl false) H1) : tAndV ta tb σ H Q := h
theorem g_orV (h : ta σ H fun x H1 => ∃ c, x = .bl c ∧ if c = true then Q (.bl true) H1 else tb σ H1 Q) : tOrV ta tb σ H Q := h
theorem g_notV (h : ta σ H fun x H1 => ∃ c, x = .bl c ∧ Q (.bl (!c)) H1) : tNotV ta σ H Q := h
theorem g_if (h : tt σ H fun c H1 => if c = true then ta σ H1 Q else tb σ H1 Q) : tIf tt ta tb σ H Q := h
theorem g_chain {r' : R2} (h : ta σ H fun x H1 => tb σ H1 fun y H2 => r x y H2 fun z H3 => ∃ k, z = .bl k ∧ (if k = true then tc σ H3 fun w' H4 => r' y w' H4 Q else Q (.bl false) H3)) : tChain r r' ta tb tc σ H Q := h
theorem g_nil {A : List V → Hp → Prop} (q : A [] H) : tNil σ H A := q
theorem g_cons {tr : TA} {A : List V → Hp → Prop} (h : ta σ H fun x H1 => tr σ H1 fun xs H2 => A (x :: xs) H2) : tCons ta tr σ H A := h
theorem g_tup {t : TA} (h : t σ H fun xs H1 => xs.length ≤ sizeLine ∧ ∀ p, H1 p = none → Q (.ref p) (upd H1 p (.tup xs))) : tTup t σ H Q := h
theorem g_lst {t : TA} (h : t σ H fun xs H1 => xs.length ≤ sizeLine ∧ ∀ p, H1 p = none → Q (.ref p) (upd H1 p (.lst xs))) : tLst t σ H Q := h
theorem g_call {sp : Sp} {dvs : List V} {E : XK} {t : TA} (h : t σ H fun vs H1 => sp (vs ++ dvs) H1 Q E) : tCall sp dvs E t σ H Q := h
theorem g_CB {r : List V → Hp → VK → Prop} {t : TA} (h : t σ H fun vs H1 => r vs H1 Q) : tCB r t σ H Q := h
theorem g_sl {r : V → Option Int → Option Int → Hp → VK → Prop} {tl th : TO} (h : te σ H fun x H1 => tl σ H1 fun l H2 => th σ H2 fun u H3 => r x l u H3 Q) : tSl r te tl th σ H Q := h
theorem g_noPart {A : Option Int → Hp → Prop} (q : A none H) : tNoPart σ H A := q
theorem g_part {A : Option Int → Hp → Prop} (h : te σ H fun x H1 => ∃ i, x = .int i ∧ A (some i) H1) : tPart te σ H A := h
theorem g_intE {A : Int → Prop} (q : A i) : ∃ k, V.int i = .int k ∧ A k := ⟨i, rfl, q⟩
theorem g_seq (h : ts { D with nx := us D } σ H) : tSeq ts us D σ H := h
theorem g_next (q : D.nx σ H) : tNext D σ H := q
theorem g_brk (q : D.bk σ H) : tBreak D σ H := q
theorem g_ct (q : D.ct σ H) : tCont D σ H := q
theorem g_asg {g : TG} (h : te σ H fun x H1 => g x σ H1 D.nx) : tAsg te g D σ H := h
theorem g_name {i : Nat} {A : St → Hp → Prop} (q : A (σ.set i (some v)) H) : gName i v σ H A := q
theorem g_aug {i : Nat} {ti : TIp} (h : σ[i]? = some (some x)) (q : te σ H fun y H1 => ti x y H1 fun z H2 => D.nx (σ.set i (some z)) H2) : tAug i te ti D σ H := ⟨x, h, q⟩
theorem g_ipI {f : Int → Int → Int} (q : Q (.int (f i j)) H) : ipI f (.int i) (.int j) H Q := ⟨i, j, rfl, rfl, q⟩
theorem g_drop (h : te σ H fun _ H1 => D.nx σ H1) : tDrop te D σ H := h
theorem g_ret (h : te σ H D.rt) : tRet te D σ H := h
theorem g_retN (q : D.rt .non H) : tRetN D σ H := q
theorem g_ifS (h : tt σ H fun b H1 => if b = true then ts D σ H1 else us D σ H1) : tIfS tt ts us D σ H := h
theorem g_for {wi : TI} {g : TG} {tb : TS} (h : wi σ H fun J H1 => ∃ W : Nat → Nat → St → Hp → Prop, (∃ m, W 0 m σ H1) ∧ ∀ i m σ H, W i m σ H →
    (J.stop i H ∧ D.nx σ H) ∨ (J.go i H ∧ ∃ N : St → Hp → Prop, (∀ σ' H', N σ' H' → ∃ m', m' < m ∧ W (i + 1) m' σ' H') ∧ ∀ x H', J.yld i H x H' → g x σ H' fun σ2 H2 => tb { D with nx := N, ct := N, bk := D.nx } σ2 H2)) : tFor wi g tb D σ H := h
theorem g_iT {c : Bool} {A B : Prop} (e : c = true) (h : A) : if c = true then A else B := by rw [if_pos e]; exact h
theorem g_iF {c : Bool} {A B : Prop} (e : c = false) (h : B) : if c = true then A else B := by rw [e]; exact iteF h
theorem g_ite {p A B : Prop} [Decidable p] (h1 : p → A) (h2 : ¬ p → B) : if decide p = true then A else B := by
  by_cases h : p
  · rw [decide_eq_true h]; exact iteT (h1 h)
  · rw [decide_eq_false h]; exact iteF (h2 h)
theorem g_iteN {p A B : Prop} [Decidable p] (h1 : ¬ p → A) (h2 : p → B) : if (!decide p) = true then A else B := by
  by_cases h : p
  · rw [decide_eq_true h]; exact iteF (h2 h)
  · rw [decide_eq_false h]; exact iteT (h1 h)
theorem g_iteB {b : Bool} {A B : Prop} (h1 : b = true → A) (h2 : b = false → B) : if b = true then A else B := by
  cases b with
  | true => exact iteT (h1 rfl)
  | false => exact iteF (h2 rfl)
theorem g_iteNB {b : Bool} {A B : Prop} (h1 : b = false → A) (h2 : b = true → B) : if (!b) = true then A else B := by
  cases b with
  | true => exact iteF (h2 rfl)
  | false => exact iteT (h1 rfl)
/-! calls of built-ins, by values -/
theorem g_int1 {A : Int → Prop} {B : Bool → Prop} (q : A i) : (∃ i', [V.int i] = [V.int i'] ∧ A i') ∨ ∃ k, [V.int i] = [V.bl k] ∧ B k := .inl ⟨i, rfl, q⟩
theorem g_int1B {b : Bool} {A : Int → Prop} {B : Bool → Prop} (q : B b) : (∃ i', [V.bl b] = [V.int i'] ∧ A i') ∨ ∃ k, [V.bl b] = [V.bl k] ∧ B k := .inr ⟨b, rfl, q⟩
theorem g_one {A : Int → Prop} (q : A i) : ∃ i', [V.int i] = [V.int i'] ∧ A i' := ⟨i, rfl, q⟩
theorem g_two {A : Int → Int → Prop} (q : A i j) : ∃ i' j', [V.int i, V.int j] = [V.int i', V.int j'] ∧ A i' j' := ⟨i, j, rfl, q⟩
theorem g_isi {c : V} {t u : Value} {b : Bool} (hc : ClsV c u) (ht : TyX K H x t) (e : PySem.W.kitOne K t u = some b) (q : Q (.bl b) H) : rIsi K [x, c] H Q := ⟨x, c, t, u, b, rfl, hc, ht, e, q⟩
theorem g_isiI (q : Q (.bl true) H) : rIsi K [.int i, .ty "int"] H Q := g_isi (.ty _) (.base (.int _)) (kit_ty (by decide +kernel)) q
theorem g_isiB {b : Bool} (q : Q (.bl true) H) : rIsi K [.bl b, .ty "bool"] H Q := g_isi (.ty _) (.base (.bl _)) (kit_ty (by decide +kernel)) q
theorem g_isiIB (q : Q (.bl false) H) : rIsi K [.int i, .ty "bool"] H Q := g_isi (.ty _) (.base (.int _)) (kit_ty (by decide +kernel)) q
theorem g_isiL {p : Addr} {xs : List V} (h : H p = some (.lst xs)) (q : Q (.bl true) H) : rIsi K [.ref p, .ty "list"] H Q := g_isi (.ty _) (.base (.lst h)) (kit_ty (by decide +kernel)) q
theorem g_isiU {p : Addr} {xs : List V} (h : H p = some (.tup xs)) (q : Q (.bl true) H) : rIsi K [.ref p, .ty "tuple"] H Q := g_isi (.ty _) (.base (.tup h)) (kit_ty (by decide +kernel)) q
theorem g_ixL {p : Addr} {xs : List V} (h : SqL K H p xs) (e : atI xs i = some v) (q : Q v H) : rIxL K (.ref p) (.int i) H Q := ⟨p, xs, i, v, rfl, rfl, h, e, q⟩
theorem g_ixT {p : Addr} {xs : List V} (h : SqT K H p xs) (e : atI xs i = some v) (q : Q v H) : rIxT K (.ref p) (.int i) H Q := ⟨p, xs, i, v, rfl, rfl, h, e, q⟩
theorem g_append {p : Addr} {xs : List V} (h : H p = some (.lst xs)) (l : xs.length < sizeLine) (q : Q .non (upd H p (.lst (xs ++ [y])))) : rAppend (.ref p) [y] H Q := ⟨p, xs, y, rfl, rfl, h, l, q⟩
theorem g_BM {T : String} {r : V → List V → Hp → VK → Prop} {t : TA} (h : te σ H fun x H1 => tyV K T x H1 ∧ t σ H1 fun xs H2 => r x xs H2 Q) : tBM K T r te t σ H Q := h
theorem g_BM0 {T : String} {r : V → List V → Hp → VK → Prop} (h : te σ H fun x H1 => tyV K T x H1 ∧ r x [] H1 Q) : tBM0 K T r te σ H Q := h
theorem ty_l {p : Addr} {xs : List V} (h : H p = some (.lst xs)) : tyV K "list" (.ref p) H := Or.inl ⟨rfl, _, Or.inl (Or.inl h)⟩
theorem g_setL {p : Addr} {xs : List V} {k : Int} {j : Nat} {A : Hp → Prop} (h : H p = some (.lst xs)) (e : ixN xs.length k = some j) (q : A (upd H p (.lst (xs.set j v)))) : rSetL (.ref p) (.int k) v H A := ⟨p, xs, k, j, rfl, rfl, h, e, q⟩
theorem g_sub {to ti : TE} {t : TSet} {A : St → Hp → Prop} (h : to σ H fun o H1 => ti σ H1 fun i H2 => t o i v H2 fun H3 => A σ H3) : gSub to ti t v σ H A := h
theorem g_len {p : Addr} {xs : List V} {A : Addr → List V → Prop} (h : SqL K H p xs ∨ SqT K H p xs) (q : A p xs) : ∃ p' ys, [V.ref p] = [V.ref p'] ∧ (SqL K H p' ys ∨ SqT K H p' ys) ∧ A p' ys := ⟨p, xs, rfl, h, q⟩
theorem g_slL {p : Addr} {xs : List V} {lo hi : Option Int} (h : SqL K H p xs) (q : ∀ l, H l = none → Q (.ref l) (upd H l (.lst (cutV xs lo hi)))) : rSlL K (.ref p) lo hi H Q := ⟨p, xs, rfl, h, q⟩
theorem g_cat {p q : Addr} {xs ys : List V} (h : H p = some (.lst xs)) (h2 : H q = some (.lst ys)) (l : xs.length + ys.length ≤ sizeLine) (k : ∀ l, H l = none → Q (.ref l) (upd H l (.lst (xs ++ ys)))) : rCat (.ref p) (.ref q) H Q := ⟨p, q, xs, ys, rfl, rfl, h, h2, l, k⟩
end
/-! ### heaps -/
theorem same_upd {H : Hp} {p : Addr} {o : HO} (h : H p = none) : Same H (upd H p o) := fun b x e => by
  rw [upd_ne (ne_of_none e h)]
  exact e
theorem sm {H H' : Hp} {p : Addr} {o : HO} (s : Same H H') (h : H p = some o) : H' p = some o := s p o h
theorem sq_upd {K : PySem.W.Frag} {H : Hp} {p a : Addr} {o : HO} {xs : List V} (n : H p = none) (h : SqL K H a xs) : SqL K (upd H p o) a xs := (same_upd n).seq h
theorem sl {K : PySem.W.Frag} {H : Hp} {a : Addr} {xs : List V} (h : H a = some (.lst xs)) : SqL K H a xs := Or.inl (Or.inl h)
theorem st {K : PySem.W.Frag} {H : Hp} {a : Addr} {xs : List V} (h : H a = some (.tup xs)) : SqT K H a xs := Or.inl (Or.inl h)
theorem Same.sqt {K : PySem.W.Frag} {H H' : Hp} {a : Addr} {xs : List V} (e : Same H H') (h : SqT K H a xs) : SqT K H' a xs := by
  rcases h with (h | ⟨o, h⟩) | h
  · exact .inl (.inl (e _ _ h))
  · exact .inl (.inr ⟨o, e _ _ h⟩)
  · exact .inr h
theorem upd_keep {H : Hp} {p b : Addr} {o o' : HO} (n : H p = none) (h : H b = some o') : upd H p o b = some o' := (same_upd n) b o' h
theorem ne_new {H : Hp} {p b : Addr} {o : HO} (h : H b = some o) (n : H p = none) : b ≠ p := ne_of_none h n
/-- H' is H but at p -/
def But (p : Addr) (H H' : Hp) : Prop := ∀ b o, b ≠ p → H b = some o → H' b = some o
theorem But.refl {p : Addr} {H : Hp} : But p H H := fun _ _ _ h => h
theorem But.of {p : Addr} {H H' : Hp} (s : Same H H') : But p H H' := fun b o _ h => s b o h
theorem But.trans {p : Addr} {H H1 H2 : Hp} (a : But p H H1) (b : But p H1 H2) : But p H H2 := fun c o n h => b c o n (a c o n h)
theorem But.upd {p : Addr} {H H' : Hp} {o : HO} (a : But p H H') : But p H (upd H' p o) := fun b o n h => by rw [upd_ne n]; exact a b o n h
theorem But.same {p : Addr} {H H' : Hp} (a : But p H H') (n : H p = none) : Same H H' := fun b o h => a b o (ne_of_none h n) h
theorem But.tr2 {p : Addr} {H H1 H2 : Hp} (s : Same H H1) (n : H p = none) (a : But p H1 H2) : Same H H2 := fun b o h => a b o (ne_of_none h n) (s b o h)
/-! ### numbers -/
theorem cdivW {a b : Int} (h : 0 < b) (h2 : b < 2 ^ 8000) : CDivW a b := by
  refine ⟨h, ?_⟩
  have e : b.natAbs < 2 ^ 8000 := by
    have : ((b.natAbs : Nat) : Int) < ((2 ^ 8000 : Nat) : Int) := by
      rw [Int.natAbs_of_nonneg (Int.le_of_lt h)]
      exact_mod_cast h2
    exact_mod_cast this
  by_cases z : b.natAbs = 0
  · rw [z]; decide
  · exact Nat.lt_of_lt_of_le (Nat.log2_lt z |>.mpr e) (by decide)
theorem sz {n : Nat} (h : n ≤ 100000) : n ≤ sizeLine := Nat.le_trans h (by decide)
theorem szl {n : Nat} (h : n < 100000) : n < sizeLine := Nat.lt_of_lt_of_le h (by decide)
/-! ### loops -/
theorem for_l {K : PySem.W.Frag} {tl : TE} {g : TG} {tb : TS} {D : Ends} {σ : St} {H : Hp} {a : Addr} {xs : List V} (Pv : Nat → St → Hp → Prop) (hs : SqL K H a xs) (h0 : Pv 0 σ H) (hl : ∀ i σ H, i ≤ xs.length → Pv i σ H → SqL K H a xs)
    (turn : ∀ i x σ H, xs[i]? = some x → Pv i σ H → g x σ H fun σ2 H2 => tb { D with nx := Pv (i + 1), ct := Pv (i + 1), bk := D.nx } σ2 H2) (hd : ∀ σ H, Pv xs.length σ H → D.nx σ H) (e : ∀ R : V → Hp → Prop, R (.ref a) H → tl σ H R) : tFor (iList K tl) g tb D σ H := by
  refine g_for ?_
  refine e _ ⟨a, rfl, ⟨_, hs⟩, ?_⟩
  exact for_list (xs := xs) Pv h0 hl turn hd
theorem for_r {ta : TA} {g : TG} {tb : TS} {D : Ends} {σ : St} {H : Hp} {n : Int} (N : Nat) (en : n.toNat = N) (b1 : -(2 ^ 62) ≤ n) (b2 : n < 2 ^ 62) (Pv : Nat → St → Hp → Prop) (h0 : Pv 0 σ H)
    (turn : ∀ (i : Nat) σ H, i < N → Pv i σ H → g (.int (i : Int)) σ H fun σ2 H2 => tb { D with nx := Pv (i + 1), ct := Pv (i + 1), bk := D.nx } σ2 H2) (hd : ∀ σ H, Pv N σ H → D.nx σ H) (e : ∀ R : List V → Hp → Prop, R [.int n] H → ta σ H R) : tFor (iRng1 ta) g tb D σ H := by
  subst en
  refine g_for ?_
  refine e _ ⟨n, rfl, b1, b2, ?_⟩
  refine for_range (lo := 0) Pv h0 (fun i σ H hi p => ?_) hd
  have z := turn i σ H hi p
  rw [Int.zero_add]
  exact z
theorem g_nx {nx : St → Hp → Prop} {rt : VK} {bk ct : St → Hp → Prop} {σ : St} {H : Hp} (q : nx σ H) : (Ends.mk nx rt bk ct).nx σ H := q
theorem g_bkE {nx : St → Hp → Prop} {rt : VK} {bk ct : St → Hp → Prop} {σ : St} {H : Hp} (q : bk σ H) : (Ends.mk nx rt bk ct).bk σ H := q
theorem g_ctE {nx : St → Hp → Prop} {rt : VK} {bk ct : St → Hp → Prop} {σ : St} {H : Hp} (q : ct σ H) : (Ends.mk nx rt bk ct).ct σ H := q
theorem g_rt {nx : St → Hp → Prop} {rt : VK} {bk ct : St → Hp → Prop} {v : V} {H : Hp} (q : rt v H) : (Ends.mk nx rt bk ct).rt v H := q
/-- a cell of the script -/
def cell (ns : List Int) (k : Int) : Int := ns.getD k.toNat 0
theorem atI_map {ns : List Int} {k : Int} (h0 : 0 ≤ k) (h : k < (ns.length : Int)) : atI (ns.map V.int) k = some (.int (cell ns k)) := by
  have e : k = ((k.toNat : Nat) : Int) := by omega
  have hl : k.toNat < ns.length := by omega
  have e2 : cell ns k = ns[k.toNat] := by
    unfold cell
    rw [List.getD_eq_getElem?_getD, List.getElem?_eq_getElem hl]; rfl
  rw [e2]
  refine at_of e ?_
  rw [List.getElem?_map, List.getElem?_eq_getElem hl]; rfl
theorem cell_out {ns : List Int} {k : Int} (h : ¬ k < (ns.length : Int)) : cell ns k = 0 := by
  unfold cell
  rw [List.getD_eq_getElem?_getD, List.getElem?_eq_none (by omega)]; rfl
theorem atI_some {xs : List V} {i : Int} (h0 : 0 ≤ i) (h : i < (xs.length : Int)) : ∃ v, xs[i.toNat]? = some v ∧ atI xs i = some v := by
  have hl : i.toNat < xs.length := by omega
  exact ⟨xs[i.toNat], List.getElem?_eq_getElem hl, at_of (by omega) (List.getElem?_eq_getElem hl)⟩
theorem atI_ints {xs : List Int} {i : Int} (h0 : 0 ≤ i) (h : i < (xs.length : Int)) : ∃ n, atI (xs.map V.int) i = some (.int n) ∧ xs[i.toNat]? = some n := by
  have hl : i.toNat < xs.length := by omega
  refine ⟨xs[i.toNat], at_of (j := i.toNat) (by omega) ?_, List.getElem?_eq_getElem hl⟩
  rw [List.getElem?_map, List.getElem?_eq_getElem hl]; rfl
theorem g_dT {p A B : Prop} [Decidable p] (h : p) (q : A) : if decide p = true then A else B := by rw [decide_eq_true h]; exact iteT q
theorem g_dF {p A B : Prop} [Decidable p] (h : ¬ p) (q : B) : if decide p = true then A else B := by rw [decide_eq_false h]; exact iteF q
theorem g_nT {p A B : Prop} [Decidable p] (h : ¬ p) (q : A) : if (!decide p) = true then A else B := by rw [decide_eq_false h]; exact iteT q
theorem g_nF {p A B : Prop} [Decidable p] (h : p) (q : B) : if (!decide p) = true then A else B := by rw [decide_eq_true h]; exact iteF q
/-! ### comprehensions: the list ys, value by value -/
theorem g_yes {σ : St} {H : Hp} {P : Bool → Hp → Prop} (q : P true H) : tYes σ H P := q
theorem g_lc {wi : TI} {g : TG} {tt : TT} {te : TE} {vs : List Nat} {σ : St} {H : Hp} {Q : VK} (h : wi σ H fun J H1 => ∀ D, H1 D = none → ∃ W : Nat → Nat → Hp → Prop, (∃ m, W 0 m (upd H1 D (.lst []))) ∧ ∀ i m H, W i m H →
  (J.stop i H ∧ Q (.ref D) H) ∨ (J.go i H ∧ ∃ Nx : Hp → Prop, (∀ H', Nx H' → ∃ m', m' < m ∧ W (i + 1) m' H') ∧ ∀ x H', J.yld i H x H' → g x (wipe σ vs) H' fun σ2 H2 => wipe σ2 vs = wipe σ vs ∧ tt σ2 H2 fun b H3 =>
    if b = true then te σ2 H3 fun y H4 => ∃ acc, H4 D = some (.lst acc) ∧ acc.length < sizeLine ∧ Nx (upd H4 D (.lst (acc ++ [y]))) else Nx H3)) : tLc wi g tt te vs σ H Q := h
theorem g_revR {ta : TE} {σ : St} {H : Hp} {R : It → Hp → Prop} (h : ta σ H fun x H1 => ∃ n : Int, x = .int n ∧ -(2 ^ 62) ≤ (0 : Int) ∧ (0 : Int) < 2 ^ 62 ∧ -(2 ^ 62) ≤ n ∧ n < 2 ^ 62 ∧ R (Itc (0 + (((n - 0).toNat : Nat) : Int) - 1) (-1) (n - 0).toNat) H1) : iRevR (tRg1 ta) σ H R := h
theorem g_rng1 {ta : TA} {σ : St} {H : Hp} {R : It → Hp → Prop} (h : ta σ H fun vs H1 => ∃ j : Int, vs = [.int j] ∧ -(2 ^ 62) ≤ j ∧ j < 2 ^ 62 ∧ R (Itr 0 j.toNat) H1) : iRng1 ta σ H R := h
theorem g_iList {K : PySem.W.Frag} {tl : TE} {σ : St} {H : Hp} {R : It → Hp → Prop} (h : tl σ H fun x H1 => ∃ a, x = .ref a ∧ (∃ xs, SqL K H1 a xs) ∧ R (Itl K a) H1) : iList K tl σ H R := h
def LcP (H1 : Hp) (D : Addr) (ys : List V) (i : Nat) (H : Hp) : Prop := Same H1 H ∧ H D = some (.lst (ys.take i))
theorem lc_vals {J : It} {n : Nat} {G : Hp → Prop} {Y : Nat → Hp → V → Hp → Prop} (w : Walk J n G Y) (ys : List V) {g : TG} {tt : TT} {te : TE} {vs : List Nat} {σ : St} {H1 : Hp} {D : Addr} {Qd : Hp → Prop} (hD : H1 D = none) (hlen : ys.length = n) (hG : ∀ H, Same H1 H → G H)
    (hs : ∀ i x H H', i < n → LcP H1 D ys i H → Y i H x H' → g x (wipe σ vs) H' fun σ2 H2 => wipe σ2 vs = wipe σ vs ∧ tt σ2 H2 fun b H3 =>
      if b = true then te σ2 H3 fun y H4 => ∃ acc, H4 D = some (.lst acc) ∧ acc.length < sizeLine ∧ LcP H1 D ys (i + 1) (upd H4 D (.lst (acc ++ [y]))) else LcP H1 D ys (i + 1) H3)
    (hd : ∀ H, Same H1 H → H D = some (.lst ys) → Qd H) :
    ∃ W : Nat → Nat → Hp → Prop, (∃ m, W 0 m (upd H1 D (.lst []))) ∧ ∀ i m H, W i m H →
      (J.stop i H ∧ Qd H) ∨ (J.go i H ∧ ∃ Nx : Hp → Prop, (∀ H', Nx H' → ∃ m', m' < m ∧ W (i + 1) m' H') ∧ ∀ x H', J.yld i H x H' → g x (wipe σ vs) H' fun σ2 H2 => wipe σ2 vs = wipe σ vs ∧ tt σ2 H2 fun b H3 =>
        if b = true then te σ2 H3 fun y H4 => ∃ acc, H4 D = some (.lst acc) ∧ acc.length < sizeLine ∧ Nx (upd H4 D (.lst (acc ++ [y]))) else Nx H3) := by
  refine lc_it w (LcP H1 D ys) ⟨same_upd hD, by rw [upd_same]; rfl⟩ (fun i H _ p => hG H p.1) hs (fun H p => hd H p.1 ?_)
  have e := p.2
  rw [← hlen, List.take_length] at e
  exact e
theorem lc_next {H1 H4 : Hp} {D : Addr} {ys : List V} {i : Nat} {y : V} (hD : H1 D = none) (p : LcP H1 D ys i H4) (hz : ys.length ≤ 100000) (hy : ys[i]? = some y) :
    ∃ acc, H4 D = some (.lst acc) ∧ acc.length < sizeLine ∧ LcP H1 D ys (i + 1) (upd H4 D (.lst (acc ++ [y]))) := by
  refine ⟨_, p.2, ?_, ?_, ?_⟩
  · rw [List.length_take]
    obtain ⟨h, _⟩ := List.getElem?_eq_some_iff.mp hy
    exact szl (by omega)
  · exact (But.of p.1).upd.same hD
  · rw [upd_same, List.take_add_one, hy]
    rfl
theorem LcP.same {H1 H4 H5 : Hp} {D : Addr} {ys : List V} {i : Nat} (p : LcP H1 D ys i H4) (s : Same H4 H5) : LcP H1 D ys i H5 := ⟨p.1.trans s, s _ _ p.2⟩
theorem map_get {α : Type} {f : α → V} {xs : List α} {i : Nat} {y : V} (h : (xs.map f)[i]? = some y) : ∃ z, xs[i]? = some z ∧ y = f z := by
  rw [List.getElem?_map] at h
  cases e : xs[i]? with
  | none => rw [e] at h; cases h
  | some z => rw [e] at h; exact ⟨z, rfl, (Option.some.inj h).symm⟩
/-! ### == of lists of ints -/
section
variable {K : PySem.W.Frag} {H : Hp} {Q : VK}
theorem dpAll_ints : ∀ {ns : List Int}, DpAll K H (ns.map V.int) (ns.map PyData.int)
  | [] => .nil
  | n :: _ => .cons (.int n) dpAll_ints
theorem lay_ints : ∀ {ns : List Int}, PyData.canLayAll0 (ns.map PyData.int) = true
  | [] => rfl
  | _ :: ns => by
    show (true && PyData.canLayAll0 (ns.map PyData.int)) = true
    rw [lay_ints]; rfl
theorem depth_ints : ∀ {ns : List Int}, PyData.depthAll (ns.map PyData.int) = 0
  | [] => rfl
  | _ :: ns => by
    show max 0 (PyData.depthAll (ns.map PyData.int)) = 0
    rw [depth_ints]; rfl
theorem shaped_ints {ns : List Int} : SeqAt.shaped (.list (ns.map PyData.int)) = true := by
  show (PyData.canLayAll0 (ns.map PyData.int) && decide (PyData.depthAll (ns.map PyData.int) + 1 ≤ 64)) = true
  rw [lay_ints, depth_ints]; rfl
theorem eqvAll_ints : ∀ {ns ms : List Int}, PyData.eqvAll (ns.map PyData.int) (ms.map PyData.int) = decide (ns = ms)
  | [], [] => rfl
  | [], _ :: _ => rfl
  | _ :: _, [] => rfl
  | n :: ns, m :: ms => by
    show ((n == m) && PyData.eqvAll (ns.map PyData.int) (ms.map PyData.int)) = decide (n :: ns = m :: ms)
    rw [eqvAll_ints, Bool.eq_iff_iff]
    simp
theorem dp_ints {a : Addr} {ns : List Int} (h : SqL K H a (ns.map V.int)) : Dp K H (.ref a) (.list (ns.map PyData.int)) := .lst h dpAll_ints
theorem g_eqL {a b : Addr} {ns ms : List Int} (h1 : SqL K H a (ns.map V.int)) (h2 : SqL K H b (ms.map V.int)) (q : Q (.bl (decide (ns = ms))) H) : rEqD K (.ref a) (.ref b) H Q :=
  ⟨_, _, dp_ints h1, dp_ints h2, shaped_ints, shaped_ints, by rw [show PyData.eqv (.list (ns.map PyData.int)) (.list (ms.map PyData.int)) = decide (ns = ms) from eqvAll_ints]; exact q⟩
theorem g_neL {a b : Addr} {ns ms : List Int} (h1 : SqL K H a (ns.map V.int)) (h2 : SqL K H b (ms.map V.int)) (q : Q (.bl (!decide (ns = ms))) H) : rNeD K (.ref a) (.ref b) H Q :=
  ⟨_, _, dp_ints h1, dp_ints h2, shaped_ints, shaped_ints, by rw [show PyData.eqv (.list (ns.map PyData.int)) (.list (ms.map PyData.int)) = decide (ns = ms) from eqvAll_ints]; exact q⟩
theorem g_sum {a : Addr} {ns : List Int} (h : SqL K H a (ns.map V.int)) (q : Q (.int ns.sum) H) : rSum K [.ref a] H Q := ⟨a, ns, rfl, h, q⟩
end
theorem ixN_nat {n : Nat} {k : Int} (h0 : 0 ≤ k) (h : k < (n : Int)) : ixN n k = some k.toNat := by
  unfold ixN
  rw [if_pos h0, if_pos h]
theorem g_ref {a : Addr} {A : Addr → Prop} (q : A a) : ∃ b, V.ref a = .ref b ∧ A b := ⟨a, rfl, q⟩
/-! ### objects: the attributes by their places -/
def obj : List Str → List V → List (Str × V)
  | k :: ks, v :: vs => (k, v) :: obj ks vs
  | _, _ => []
theorem obj_len : ∀ (ks : List Str) (vs : List V), (obj ks vs).length ≤ ks.length
  | [], _ => Nat.zero_le _
  | _ :: _, [] => Nat.zero_le _
  | _ :: ks, _ :: vs => Nat.succ_le_succ (obj_len ks vs)
theorem obj_get : ∀ {ks : List Str} {vs : List V} {i : Nat} {k : Str}, ks.Nodup → ks[i]? = some k → (obj ks vs).lookup k = vs[i]?
  | [], _, _, _, _, h => by cases h
  | k0 :: ks, [], i, k, _, _ => by simp [obj]
  | k0 :: ks, v :: vs, 0, k, _, h => by
    have e : k0 = k := Option.some.inj h
    subst e
    simp [obj]
  | k0 :: ks, v :: vs, i + 1, k, nd, h => by
    have nd' := List.nodup_cons.mp nd
    have hk : k ∈ ks := List.mem_of_getElem? h
    have ne : (k == k0) = false := by
      rw [beq_eq_false_iff_ne]
      intro e
      subst e
      exact nd'.1 hk
    show List.lookup k ((k0, v) :: obj ks vs) = vs[i]?
    rw [List.lookup_cons, ne]
    exact obj_get nd'.2 h
theorem obj_none : ∀ {ks : List Str} {vs : List V} {k : Str}, k ∉ ks → (obj ks vs).lookup k = none
  | [], _, _, _ => rfl
  | _ :: _, [], _, _ => rfl
  | k0 :: ks, v :: vs, k, h => by
    have ne : (k == k0) = false := by
      rw [beq_eq_false_iff_ne]
      intro e
      subst e
      exact h (List.mem_cons_self ..)
    show List.lookup k ((k0, v) :: obj ks vs) = none
    rw [List.lookup_cons, ne]
    exact obj_none fun z => h (List.mem_cons_of_mem _ z)
theorem obj_put : ∀ {ks : List Str} {vs : List V} {i : Nat} {k : Str} {y : V}, ks.Nodup → ks[i]? = some k → i < vs.length → putF k y (obj ks vs) = obj ks (vs.set i y)
  | [], _, _, _, _, _, h, _ => by cases h
  | _ :: _, [], _, _, _, _, _, h => by simp at h
  | k0 :: ks, v :: vs, 0, k, y, _, h, _ => by
    have e : k0 = k := Option.some.inj h
    subst e
    show (if k0 = k0 then _ else _) = _
    rw [if_pos rfl]
    rfl
  | k0 :: ks, v :: vs, i + 1, k, y, nd, h, hl => by
    have nd' := List.nodup_cons.mp nd
    have hk : k ∈ ks := List.mem_of_getElem? h
    have ne : ¬ k0 = k := by
      intro e
      subst e
      exact nd'.1 hk
    show (if k0 = k then _ else (k0, v) :: putF k y (obj ks vs)) = (k0, v) :: obj ks (vs.set i y)
    rw [if_neg ne, obj_put nd'.2 h (by simpa using hl)]
theorem obj_new : ∀ {ks : List Str} {vs : List V} {k : Str} {y : V}, ks.Nodup → ks[vs.length]? = some k → putF k y (obj ks vs) = obj ks (vs ++ [y])
  | [], _, _, _, _, h => by simp at h
  | k0 :: ks, [], k, y, _, h => by
    have e : k0 = k := Option.some.inj h
    subst e
    show [(k0, y)] = obj (k0 :: ks) [y]
    cases ks <;> rfl
  | k0 :: ks, v :: vs, k, y, nd, h => by
    have nd' := List.nodup_cons.mp nd
    have h' : ks[vs.length]? = some k := h
    have hk : k ∈ ks := List.mem_of_getElem? h'
    have ne : ¬ k0 = k := by
      intro e
      subst e
      exact nd'.1 hk
    show (if k0 = k then _ else (k0, v) :: putF k y (obj ks vs)) = (k0, v) :: obj ks (vs ++ [y])
    rw [if_neg ne, obj_new nd'.2 h']
section
variable {K : PySem.W.Frag} {σ : St} {H : Hp} {Q : VK} {v y : V} {ta tv : TE} {D : Ends} {f m : Str} {a C dx : Addr} {ks : List Str} {vs : List V} {i : Nat}
theorem g_fld (h : ta σ H fun x H1 => ∃ a C dx fs v, x = .ref a ∧ H1 a = some (.ins C dx fs) ∧ Cls K C ∧ NoAttr K C f ∧ fs.lookup f = some v ∧ Q v H1) : tFld K ta f σ H Q := h
theorem g_fldE {A : V → Prop} (ho : H a = some (.ins C dx (obj ks vs))) (c : Cls K C) (n : NoAttr K C f) (nd : ks.Nodup) (hk : ks[i]? = some f) (hv : vs[i]? = some v) (q : A v) :
    ∃ a' C' dx' fs v', V.ref a = .ref a' ∧ H a' = some (.ins C' dx' fs) ∧ Cls K C' ∧ NoAttr K C' f ∧ fs.lookup f = some v' ∧ A v' := ⟨a, C, dx, _, v, rfl, ho, c, n, (obj_get nd hk).trans hv, q⟩
theorem g_sfld (h : tv σ H fun y H1 => ta σ H1 fun x H2 => ∃ a C dx fs, x = .ref a ∧ H2 a = some (.ins C dx fs) ∧ Cls K C ∧ NoAttr K C f ∧ fs.length < 1000 ∧ D.nx σ (upd H2 a (.ins C dx (putF f y fs)))) : sFld K ta tv f D σ H := h
theorem g_putE {A : Hp → Prop} (ho : H a = some (.ins C dx (obj ks vs))) (c : Cls K C) (n : NoAttr K C f) (nd : ks.Nodup) (h1 : ks.length < 1000) (hk : ks[i]? = some f) (hv : i < vs.length) (q : A (upd H a (.ins C dx (obj ks (vs.set i y))))) :
    ∃ a' C' dx' fs, V.ref a = .ref a' ∧ H a' = some (.ins C' dx' fs) ∧ Cls K C' ∧ NoAttr K C' f ∧ fs.length < 1000 ∧ A (upd H a' (.ins C' dx' (putF f y fs))) :=
  ⟨a, C, dx, _, rfl, ho, c, n, Nat.lt_of_le_of_lt (obj_len ks vs) h1, by rw [obj_put nd hk hv]; exact q⟩
theorem g_newE {A : Hp → Prop} (ho : H a = some (.ins C dx (obj ks vs))) (c : Cls K C) (n : NoAttr K C f) (nd : ks.Nodup) (h1 : ks.length < 1000) (hk : ks[vs.length]? = some f) (q : A (upd H a (.ins C dx (obj ks (vs ++ [y]))))) :
    ∃ a' C' dx' fs, V.ref a = .ref a' ∧ H a' = some (.ins C' dx' fs) ∧ Cls K C' ∧ NoAttr K C' f ∧ fs.length < 1000 ∧ A (upd H a' (.ins C' dx' (putF f y fs))) :=
  ⟨a, C, dx, _, rfl, ho, c, n, Nat.lt_of_le_of_lt (obj_len ks vs) h1, by rw [obj_new nd hk]; exact q⟩
theorem g_meth {sp : Sp} {dvs : List V} {E : XK} {t : TA} (h : ta σ H fun x H1 => ∃ a dx fs, x = .ref a ∧ H1 a = some (.ins C dx fs) ∧ fs.lookup m = none ∧ t σ H1 fun vs H2 => sp (x :: (vs ++ dvs)) H2 Q E) : tMeth C m sp dvs E ta t σ H Q := h
theorem g_methE {A : Prop} (ho : H a = some (.ins C dx (obj ks vs))) (no : m ∉ ks) (q : A) : ∃ a' dx' fs, V.ref a = .ref a' ∧ H a' = some (.ins C dx' fs) ∧ fs.lookup m = none ∧ A := ⟨a, dx, _, rfl, ho, obj_none no, q⟩
theorem g_make {sp : Sp} {dvs : List V} {E : XK} {t : TA} (h : t σ H fun vs H1 => ∀ x dx, H1 x = none → H1 dx = none → dx ≠ x → sp (.ref x :: (vs ++ dvs)) (upd (upd H1 dx (.own x)) x (.ins C dx [])) (fun v H2 => v = .non ∧ Q (.ref x) H2) E) : tMake C sp dvs E t σ H Q := h
theorem g_prop {sp : Sp} {dvs : List V} {E : XK} (h : ta σ H fun x H1 => ∃ a dx fs, x = .ref a ∧ H1 a = some (.ins C dx fs) ∧ sp (.ref a :: dvs) H1 Q E) : tProp C sp dvs E ta σ H Q := h
theorem g_propE {A : Addr → Prop} (ho : H a = some (.ins C dx (obj ks vs))) (q : A a) : ∃ a' dx' fs, V.ref a = .ref a' ∧ H a' = some (.ins C dx' fs) ∧ A a' := ⟨a, dx, _, rfl, ho, q⟩
theorem g_absE {A : Int → Prop} {n : Int} (q : A n) : ∃ i, [V.int n] = [V.int i] ∧ A i := ⟨n, rfl, q⟩
end
/-- a slice of ints -/
theorem cut_ints (ns : List Int) (lo hi : Option Int) : ∃ ms : List Int, cutV (ns.map V.int) lo hi = ms.map V.int ∧ ms.length ≤ ns.length := by
  unfold cutV
  refine ⟨(ns.drop (HT.sIx (ns.map V.int).length 0 lo)).take (HT.sIx (ns.map V.int).length (ns.map V.int).length hi - HT.sIx (ns.map V.int).length 0 lo), ?_, ?_⟩
  · rw [List.map_take, List.map_drop]
  · rw [List.length_take, List.length_drop]
    omega
theorem g_nameE {i : Nat} {v : V} {σ σ' : St} {H : Hp} {A : St → Hp → Prop} (e : σ.set i (some v) = σ') (q : A σ' H) : gName i v σ H A := by
  subst e
  exact q
theorem but_sq {K : PySem.W.Frag} {p : Addr} {H H' : Hp} {a : Addr} {xs : List V} (e : But p H H') (n : a ≠ p) (h : SqL K H a xs) : SqL K H' a xs := by
  rcases h with (h | ⟨o, h⟩) | h
  · exact .inl (.inl (e _ _ n h))
  · exact .inl (.inr ⟨o, e _ _ n h⟩)
  · exact .inr h
theorem g_star {K : PySem.W.Frag} {te : TE} {t : TA} {σ : St} {H : Hp} {Q : List V → Hp → Prop} (h : te σ H fun x H1 => ∃ p xs, x = V.ref p ∧ (SqT K H1 p xs ∨ SqL K H1 p xs) ∧ t σ H1 fun ys H2 => Q (xs ++ ys) H2) : StX.tStar K te t σ H Q := h
theorem g_while {c : TT} {tb : TS} {D : Ends} {σ : St} {H : Hp} (W : Nat → St → Hp → Prop) (h0 : ∃ m, W m σ H) (h : ∀ m σ H, W m σ H → c σ H fun b H1 => if b = true then ∃ N : St → Hp → Prop, (∀ σ' H', N σ' H' → ∃ m', m' < m ∧ W m' σ' H') ∧ tb { D with nx := N, ct := N, bk := D.nx } σ H1 else D.nx σ H1) : tWhile c tb D σ H := ⟨W, h0, h⟩
theorem g_cut {t u : TS} {D : Ends} {σ : St} {H : Hp} (Mid : St → Hp → Prop) (h1 : t { D with nx := Mid } σ H) (h2 : ∀ σ' H', Mid σ' H' → u D σ' H') : C8.tCut t u D σ H := ⟨Mid, h1, h2⟩
theorem g_min {K : PySem.W.Frag} {a : Addr} {ns : List Int} {H : Hp} {Q : VK} (h : SqL K H a (ns.map V.int)) (h0 : 0 < ns.length) (q : ∀ m, m ∈ ns → (∀ y, y ∈ ns → m ≤ y) → Q (.int m) H) : rMin K [.ref a] H Q := ⟨a, ns, rfl, h, h0, q⟩
theorem g_max {K : PySem.W.Frag} {a : Addr} {ns : List Int} {H : Hp} {Q : VK} (h : SqL K H a (ns.map V.int)) (h0 : 0 < ns.length) (q : ∀ m, m ∈ ns → (∀ y, y ∈ ns → y ≤ m) → Q (.int m) H) : rMax K [.ref a] H Q := ⟨a, ns, rfl, h, h0, q⟩
theorem atI_nat' {xs : List V} {i : Int} {j : Nat} {v : V} (e : i = (j : Int)) (h : xs[j]? = some v) : atI xs i = some v := at_of e h
theorem ixN_last {n : Nat} (h : 0 < n) : ixN n (-1) = some (n - 1) := by
  unfold ixN
  rw [if_neg (by decide), if_pos (by omega)]
  congr 1
  omega
theorem atI_neg1 {xs : List V} {v : V} (h : xs[xs.length - 1]? = some v) : atI xs (-1) = some v := by
  obtain ⟨hl, _⟩ := List.getElem?_eq_some_iff.mp h
  unfold atI
  rw [ixN_last (by omega)]
  exact h
theorem snoc_of {α : Type} {xs : List α} (h : 0 < xs.length) : ∃ a x, xs = a ++ [x] :=
  ⟨xs.dropLast, xs.getLast (List.ne_nil_of_length_pos h), (List.dropLast_concat_getLast _).symm⟩
theorem set_last {α : Type} {a : List α} {x y : α} : (a ++ [x]).set a.length y = a ++ [y] := by
  rw [List.set_append_right _ _ (Nat.le_refl _), Nat.sub_self]
  rfl
end My
namespace My
open PySem PySem.Spec L2
local macro_rules | `(tactic| walk_at "side") => `(tactic| first | assumption | decide | omega | exact ⟨by decide, by decide⟩ | exact ⟨by decide, by decide, by decide⟩ | decide +kernel | exact cdivW (by decide +kernel) (by decide +kernel) | exact Or.inl ⟨by omega, by omega⟩ | exact Or.inr ⟨by omega, by omega⟩ | (simp only [List.length_map, List.length_cons, List.length_nil, List.length_append]; omega))
local macro_rules | `(tactic| walk_at "fact") => `(tactic| first | assumption | omega | with_reducible rfl)
local macro_rules | `(tactic| walk_at "use") => `(tactic| fail "use")
local macro_rules | `(tactic| walk_at "go1") => `(tactic| with_reducible first | refine g_seq ?_ | refine g_asg ?_ | refine g_ret ?_ | refine g_ifS ?_ | refine g_drop ?_ | refine g_star ?_ | refine g_nx ?_ | refine g_rt ?_ | refine g_bkE ?_ | refine g_ctE ?_ | refine g_next ?_ | refine g_retN ?_ | refine g_brk ?_ | refine g_ct ?_ | refine g_c ?_ | refine g_op ?_ | refine g_un ?_ | refine g_rI0 ?_ | refine g_rU ?_ | refine g_rEqI ?_ | refine g_rNeI ?_ | refine g_isN ?_ | refine g_rIsB ?_ | refine g_rNotB ?_ | refine g_test ?_ | refine g_B ?_ | refine g_bl ?_ | refine g_and ?_ | refine g_or ?_ | refine g_not ?_ | refine g_andV ?_ | refine g_orV ?_ | refine g_notV ?_ | refine g_if ?_ | refine g_chain ?_ | refine g_yes ?_ | refine g_lc ?_ | refine g_revR ?_ | refine g_rng1 ?_ | refine g_iList ?_ | refine g_nil ?_ | refine g_cons ?_ | refine g_tup ?_ | refine g_lst ?_ | refine g_call ?_ | refine g_CB ?_ | refine g_sl ?_ | refine g_noPart ?_ | refine g_part ?_ | refine g_intE ?_ | refine g_ref ?_ | refine g_fld ?_ | refine g_sfld ?_ | refine g_meth ?_ | refine g_make ?_ | refine g_prop ?_  | refine g_ipI ?_ | refine g_int1 ?_ | refine g_int1B ?_ | refine g_one ?_ | refine g_two ?_ | refine g_isiI ?_ | refine g_isiIB ?_ | refine g_isiB ?_ | refine g_BM ?_ | refine g_BM0 ?_ | refine g_sub ?_)
local macro_rules | `(tactic| walk_at "go") => `(tactic| repeat (first | walk_at "go1" | ((with_reducible refine' g_nameE ?sd_ ?_); case sd_ => dsimp only [List.set_cons_succ, List.set_cons_zero]) | ((with_reducible refine' g_var ?sd_ ?_); case sd_ => exact rfl) | ((with_reducible refine' g_aug ?sd_ ?_); case sd_ => exact rfl) | ((with_reducible refine' g_rI ?sd_ ?_); case sd_ => walk_at "side") | ((with_reducible refine' g_dT ?sd_ ?_); case sd_ => walk_at "fact") | ((with_reducible refine' g_dF ?sd_ ?_); case sd_ => walk_at "fact") | ((with_reducible refine' g_nT ?sd_ ?_); case sd_ => walk_at "fact") | ((with_reducible refine' g_nF ?sd_ ?_); case sd_ => walk_at "fact") | (with_reducible refine g_iT rfl ?_) | (with_reducible refine g_iF rfl ?_) | walk_at "use"))
local macro_rules | `(tactic| walk_at "nw") => `(tactic| (generalize zq : upd _ _ _ = Hq; have sq : Same _ Hq := (by rw [← zq]; exact same_upd (by assumption)); have kq := (congrFun zq _).symm.trans upd_same; clear zq))
local macro_rules | `(tactic| walk_at "bt") => `(tactic| (generalize zq : upd _ _ _ = Hq; have bq : But _ _ Hq := (by rw [← zq]; exact But.refl.upd); have kq := (congrFun zq _).symm.trans upd_same; clear zq))
/-! ### a method whose first statement is super().__init__(e, ..) of a plain class -/
structure PSsS (X : Cx) (body : List Stmt) (t : TS) : Prop where
  run : ∀ (b0 : List Stmt) (pins : List (Addr × Obj)) (s : Shared) (σ : L2.St) (H : Hp) (D : Ends), Inv X pins σ H s → t D σ H → PySem.wpAt (model X.prog X.w) X.A (.func b0 X.env) (execs body X.env) (SP X pins D) X.xe s
/-- what of the text such a method must have: f of the class at C, over a base whose __init__ is f2 -/
structure SupK (K : PySem.W.Frag) (P : Program) (f f2 C cda cc : Addr) (fd : FuncData) : Prop where
  fo : ∃ oc od sl, K.lookup f = some ⟨oc, od, .func fd, sl⟩
  code : ∃ ccl cdd ccs vs file tf, K.lookup cda = some ⟨ccl, cdd, .fields vs, ccs⟩ ∧ vs[2]? = some (.str file tf) ∧ ((P.main.file : Str) == file) = true
  cell : ∃ cl cld csl, K.lookup cc = some ⟨cl, cld, .cell (some (.ref C)), csl⟩
  cls : ∃ cd, PySem.W.clsIn K C = some cd
  sub : PySem.W.mroIn K C (.ref C) = some true
  top : (P.main.scope.names.lookup ("super" : Str)).isSome = false
  up : PySem.W.ks_superIn K C C "__init__" = some (some (.ref f2))
  ty : PySem.W.typeIn K (.ref f2) = some (.type "function")
  fn : PySem.W.fnIn K f2 = true
  op : PySem.W.nsIn K cStatics "thirdparty.any" = some none
def tSup (C : Addr) (sp : Sp) (ta : TA) (t : TS) : TS := fun D σ H => ∃ x dx fs, σ[0]? = some (some (.ref x)) ∧ H x = some (.ins C dx fs) ∧ ta σ H fun us H1 => sp (.ref x :: us) H1 (fun _ H2 => t D σ H2) E0
theorem pss_super {X : Cx} {f f2 C cda cc : Addr} {fd fd2 : FuncData} {k : Nat} {ps2 : List Str} {sp2 : Sp} {ta : TA} {t : TS} {pl : Sem Bool} {p0 p1 p2 p3 p4 : Pos} {e : Expr} {es : List Expr} {rest : List Stmt} {ar : Arg} {prm : Arguments}
    (F : SupK X.K X.prog f f2 C cda cc fd) (hfu : X.env.func = some f) (hco : X.env.code = .ref cda) (hcl : X.env.cells.lookup ("__class__" : Str) = some cc) (hmg : X.mg "super" = none) (hks : X.env.kindOf "super" = some .globalImplicit) (hkc : X.env.kindOf "__class__" = some .free)
    (hpar : fd.params = prm) (hp : (prm.posonlyargs ++ prm.args).head? = some ar) (h0 : X.N[0]? = some ar.arg) (hka : X.env.kindOf ar.arg = some .local)
    (F2 : FnOk X.prog X.w X.K X.mg X.base CX0 k f2 fd2 ps2 sp2) (b2 : Binds X.K fd2 ps2 []) (hr : Room k X.A) (ha : PA X (e :: es) ta) (hs : PSs X rest t)
    (hi : interactive X.env = false := by rfl) (hsw : swapsWith (.Call (.Attribute (.Call (.Name "super" p0) [] [] p1) "__init__" p2) (e :: es) [] p3) none p4.line X.env = pure false := by rfl)
    (hst : starEach (e :: es) X.env = (false, eval e X.env) :: starEach es X.env := by rfl) (hpl : (backTo p3 (starEach es X.env)).any (·.1) = false := by rfl)
    (ht : eval (.Call (.Attribute (.Call (.Name "super" p0) [] [] p1) "__init__" p2) (e :: es) [] p3) X.env = (do
      let ov ← attributeBase (.Call (.Name "super" p0) [] [] p1) "__init__" X.env (eval (.Call (.Name "super" p0) [] [] p1) X.env)
      standAt p2.atName
      let (f, first) ← holding [ov] (getMethod ov "__init__" pl)
      callWith p3 f first (backTo p3 (starEach (e :: es) X.env)) []) := by rfl) :
    PSsS X (.Expr (.Call (.Attribute (.Call (.Name "super" p0) [] [] p1) "__init__" p2) (e :: es) [] p3) p4 :: rest) (tSup C sp2 ta t) := by
  refine ⟨fun b0 pins s σ H D I hq => ?_⟩
  obtain ⟨x, dx, fs, hx0, hx, hq⟩ := hq
  obtain ⟨oc, od, sl, hfo⟩ := F.fo
  obtain ⟨ccl, cdd, ccs, cvs, file, tf, hcode, hvs, hfile⟩ := F.code
  obtain ⟨cl, cld, csl, hcell⟩ := F.cell
  obtain ⟨cd, hcd⟩ := F.cls
  have KX : X.K.In s.heap := I.kIn
  obtain ⟨oD, hD1, hD2⟩ : ∃ oD, s.heap.get? C = some oD ∧ oD.data = .cls cd := by
    unfold PySem.W.clsIn at hcd
    split at hcd
    · rename_i c d cd' sl' ho
      cases hcd
      exact ⟨_, KX _ _ ho, rfl⟩
    · cases hcd
  obtain ⟨mA, J0, _⟩ := ins_get I.hok hx
  obtain ⟨odx, J, _⟩ := J0.look
  obtain ⟨m, hns, hvals⟩ := I.loc
  have hself : m ar.arg = some (.ref x) := by
    obtain ⟨u, ru, lk⟩ := hvals 0 ar.arg (.ref x) h0 hx0 (.inl hka)
    cases ru
    rcases lk with ⟨_, z⟩ | ⟨z, _⟩
    · exact z
    · rw [hka] at z
      rcases z with z | z <;> cases z
  refine ks_wpAt_execs_cons (ks_wpAt_Expr_any (ks_wpAt_MethodCall (pl := pl) ?_ ht) hi hsw)
  refine ks_wpAt_super_base hks hkc (by decide) hfu (KX _ _ hfo) rfl (by rw [hpar]; exact hp) hco (KX _ _ hcode) rfl hvs hfile F.top ?_
  obtain ⟨mb, hb1, hb2⟩ := I.mod.blt
  refine PySem.W.ks_loadName_global I.ok.kind hks (Calls.loadGlobal_builtin (by rw [I.ok.glob]; exact I.mod.glob.keeps I.bk) hmg (by rw [I.ok.blt]; exact hb1.keeps I.bk) ((hb2 "super" (by decide)).trans (show bootBuiltins "super" = some (.type "super") by first | boot_by_name | rfl | kernel_rfl)) ⟨rfl, ?_⟩)
  refine wpAny_loadName_free I.ok.kind hkc hcl ⟨_, KX _ _ hcell, rfl⟩ ?_
  refine wpAny_loadName_local I.ok.kind hka hns hself ?_
  refine ks_wpAny_isType_cls hD1 hD2 ⟨rfl, ?_⟩
  refine ks_wpAny_call_super hD1 hD2 J.at_ J.cls (fun c e => ?_) (PySem.W.looks_mroIn KX F.sub) (fun h' eso ks => ?_)
  · have := J.no
    unfold PySem.W.notCls at this
    rw [e] at this
    exact Bool.noConfusion this
  have I1 : Inv X pins σ H { s with heap := h' } := I.kept ks
  obtain ⟨mA', J0', _⟩ := ins_get I1.hok hx
  obtain ⟨odx', J1, _⟩ := J0'.look
  have hxC : x ≠ C := PySem.W.ks_ne I1.kIn J1 hcd
  obtain ⟨of, hof, hofc⟩ : ∃ of, h'.get? f2 = some of ∧ of.cls = .type "function" := by
    have ht' : (X.K.lookup f2).map (·.cls) = some (.type "function") := F.ty
    cases z : X.K.lookup f2 with
    | none => rw [z] at ht'; cases ht'
    | some of => rw [z] at ht'; exact ⟨of, I1.kIn _ _ z, Option.some.inj ht'⟩
  have hm := F.up
  unfold PySem.W.ks_superIn at hm
  rw [hcd] at hm
  refine ks_wpAny_getMethod_super eso (PySem.W.looks_opaque I1.kIn F.op) (l₀ := cd.mro) ?_ rfl I1.kIn hm hof hofc hxC (by decide) ?_
  · exact fun A Q E s k q => wpAny_bind ((PySem.W.looks_clsIn I1.kIn hcd) A _ E s k (wpAny_pure q))
  have hb : (h'.push (PySem.W.methodObj (.ref f2) (.ref x))).get? h'.objs.size = some (PySem.W.methodObj (.ref f2) (.ref x)) := Heap.get?_push_at rfl rfl
  have I2 : Inv X pins σ H { s with heap := h'.push (PySem.W.methodObj (.ref f2) (.ref x)), toks := s.toks + 1 } := I1.kept (t' := s.toks + 1) fun b ob z => Heap.get?_push_of_some _ z
  have I3 : Inv X ((h'.objs.size, PySem.W.methodObj (.ref f2) (.ref x)) :: pins) σ H { s with heap := h'.push (PySem.W.methodObj (.ref f2) (.ref x)), toks := s.toks + 1 } := I2.pins_of fun q hq => by
    rcases List.mem_cons.mp hq with e | e
    · subst e
      exact ⟨hb, I1.hok.fresh (Nat.le_refl _), Nat.ne_of_gt I1.lt, I1.nofs (Nat.le_refl _), fun v z => nomatch z⟩
    · exact I2.pin q (List.mem_append_right _ e)
  rw [hst]
  refine PySem.W.callWith_of (P := PySem.W.MethP X.K h'.objs.size f2 (.ref x)) (by show ((false || (backTo p3 (starEach es X.env)).any (·.1)) || false) = false; rw [hpl]; rfl) (PySem.W.keeps_M F.fn) (Calls.evalArgs_plain ?_)
  have har := ha.run p3 _ _ σ H _ I3 hq
  rw [hst] at har
  refine thn har fun us s3 ⟨vs, H1, I4, rv, q⟩ => ?_
  have hp4 := (I4.pin (h'.objs.size, PySem.W.methodObj (.ref f2) (.ref x)) (List.mem_append_right _ List.mem_cons_self)).1
  have I5 : Inv X pins σ H1 s3 := I4.pins_of fun q hq => I4.pin q (List.mem_append_right _ (List.mem_cons_of_mem _ hq))
  refine ⟨⟨hp4, I4.kIn⟩, ?_⟩
  have r2 : Vals (V.ref x :: vs) (Value.ref x :: us) := .cons rfl rv
  have hl := F2.len _ _ _ _ q
  refine wpAny_call (ks_codeAny_call_bound hp4 (codeAny_mono (F2.run X.A X.stack s3 H1 ⟨Value.ref x :: us, []⟩ (Value.ref x :: us) (V.ref x :: vs) _ E0 hr I5.env0 (by
    have := b2 s3 (Value.ref x :: us) I5.kIn (by rw [List.append_nil, ← r2.length]; exact hl)
    simpa using this) r2 q) fun r s' hq => ?_))
  cases r with
  | error e => exact hq.elim
  | ok fl =>
    cases fl with
    | ret w =>
      obtain ⟨z, H', I', rz, q⟩ := I5.after hq
      exact wpAt_of_wpAny (hs.run pins s' σ H' D I' q)
    | next => exact False.elim hq
    | brk => exact False.elim hq
    | cont => exact False.elim hq
/-- THE RULE: such a method by its body -/
theorem fn_ofS {CX : CXT} {P : Program} {w : World} {K : PySem.W.Frag} {mg : Str → Option Value} {base : Heap} {k : Nat} {f f2 C cda cc : Addr} {name qual : Str} {params : Arguments} {body : List Stmt} {scope : Scope} {dV kV doc pm ct : Value} {an : Option Addr}
    {N ps : List Str} {sp : Sp} (F : SupK K P f f2 C cda cc (PySem.W.fnX name qual params body scope [("__class__", cc)] dV kV doc pm an (.ref cda) ct)) (hcd : PySem.W.codeIn K (.ref cda) qual = true) (S : NdefX.NScope N ps ["__class__"] scope)
    (len : ∀ vs H Q E, sp vs H Q E → vs.length = ps.length)
    (hbody : ∀ (A : Around) (outer : List Env) (s : Shared) (H : Hp) (vs : List V) (Q : VK) (E : XK), Room k (A.deeper (NdefX.envF ⟨name, qual, params, body, scope, [("__class__", cc)], cda⟩ f s.heap.objs.size)) → sp vs H Q E →
      ∃ t, PSsS (NdefX.ncx CX P w K mg base N ⟨name, qual, params, body, scope, [("__class__", cc)], cda⟩ f A outer s H E) body t ∧ t { nx := fun _ H' => Q .non H', rt := Q } (NdefX.startF N vs [none]) H) :
    FnOk P w K mg base CX (k + 1) f (PySem.W.fnX name qual params body scope [("__class__", cc)] dV kV doc pm an (.ref cda) ct) ps sp := by
  refine ⟨len, fun A outer s H args us vs Q E hr e0 hb r hsp => ?_⟩
  have hl := len _ _ _ _ hsp
  obtain ⟨oc, od, sl, lk⟩ := F.fo
  obtain ⟨cl, cld, csl, hcell⟩ := F.cell
  have KX : K.In s.heap := e0.mod.kin.keeps fun b o e => (e0.bs b o e).1
  have lim : s.heap.NoLimit := e0.mod.nolimit.keeps fun b o e => (e0.bs b o e).1
  have look1 : ∀ (y : Str) (c : Addr), List.lookup y [(("__class__" : Str), cc)] = some c → c = cc ∧ y = "__class__" := fun y c e => by
    rw [List.lookup_cons] at e
    split at e
    · rename_i z
      cases e
      exact ⟨rfl, beq_iff_eq.mp z⟩
    · cases e
  have CA : NdefX.CellsAt [("__class__", cc)] ["__class__"] [none] s.heap H := by
    refine ⟨rfl, fun y c e => ?_, fun x y c e1 e2 => ?_, fun i y e => ?_⟩
    · obtain ⟨rfl, _⟩ := look1 y c e
      exact ⟨(e0.bs _ _ (e0.mod.kin _ _ hcell)).2, _, _, KX _ _ hcell, rfl⟩
    · rw [(look1 x c e1).2, (look1 y c e2).2]
    · cases i with
      | zero =>
        cases e
        refine ⟨cc, by rw [List.lookup_cons, beq_self_eq_true], fun v z => ?_⟩
        cases z
      | succ j => simp at e
  refine ks_codeAny_call_defAt hr.depth (KX _ _ lk) rfl lim (PySem.W.codeRec_of KX hcd) rfl hb S.nocell (fun ⟨n, _⟩ hy => S.par n (List.of_mem_zip hy).1) (fun h₁ hns kp => ?_) S.co S.gen S.kind
  obtain ⟨t, ht, hq⟩ := hbody A outer s H vs Q E (hr.deeper _) hsp
  have I : Inv (NdefX.ncx CX P w K mg base N ⟨name, qual, params, body, scope, [("__class__", cc)], cda⟩ f A outer s H E) [] (NdefX.startF N vs [none]) H { s with heap := h₁, toks := s.toks + (ps.zip us).length } := NdefX.inv_startN S hr.hd e0 hl r CA hns kp
  refine ks_wpAt_mono (ht.run body [] _ (NdefX.startF N vs [none]) H _ I hq) (fun fl s' hs => ?_) fun e s' hs => hs
  have fin : ∀ {σ' : L2.St} {H' : Hp} {v : V} {u : Value}, Inv (NdefX.ncx CX P w K mg base N ⟨name, qual, params, body, scope, [("__class__", cc)], cda⟩ f A outer s H E) [] σ' H' s' → L2.RelV v u → Q v H' → CE outer P w H s Q u s' :=
    fun {σ' H' v u} J rv q => ⟨v, H', J.os, J.bare, J.base, J.hok, rv, q⟩
  cases fl with
  | ret u =>
    obtain ⟨v, σ', H', J, rv, q⟩ := hs
    exact fin J rv q
  | next =>
    obtain ⟨σ', H', J, q⟩ := hs
    exact fin (v := V.non) (u := Value.none) J rfl q
  | brk =>
    obtain ⟨_, _, _, q⟩ := hs
    exact False.elim q
  | cont =>
    obtain ⟨_, _, _, q⟩ := hs
    exact False.elim q
/-- such a method of the text as it stands behind the top -/
structure FunS (K : PySem.W.Frag) (P : Program) (x qual : Str) (st : Stmt) (f f2 C cda cc : Addr) (fd : FuncData) : Prop where
  ex : ∃ (kV doc pm ct : Value) (an : Option Addr), fd = PySem.W.fnX x qual (defArgs st) (defBody st) (defScope st) [("__class__", cc)] .none kV doc pm an (.ref cda) ct
  sup : SupK K P f f2 C cda cc fd
  code : PySem.W.codeIn K (.ref cda) qual = true
  kp : PySem.W.keepIn K (.ref f) = true
theorem FunS.params {P : Program} {K : PySem.W.Frag} {f f2 C cda cc : Addr} {x qual : Str} {st : Stmt} {fd : FuncData} (F : FunS K P x qual st f f2 C cda cc fd) : fd.params = defArgs st := by
  obtain ⟨kV, doc, pm, ct, an, rfl⟩ := F.ex
  rfl
theorem FunS.ok {P : Program} {w : World} {K : PySem.W.Frag} {mg : Str → Option Value} {base : Heap} {k : Nat} {f f2 C cda cc : Addr} {x qual : Str} {st : Stmt} {fd : FuncData} {N ps : List Str} {sp : Sp} (F : FunS K P x qual st f f2 C cda cc fd) (S : NdefX.NScope N ps ["__class__"] (defScope st))
    (len : ∀ vs H Q E, sp vs H Q E → vs.length = ps.length)
    (hbody : ∀ (A : Around) (outer : List Env) (s : Shared) (H : Hp) (vs : List V) (Q : VK) (E : XK), Room k (A.deeper (NdefX.envF ⟨x, qual, defArgs st, defBody st, defScope st, [("__class__", cc)], cda⟩ f s.heap.objs.size)) → sp vs H Q E →
      ∃ t, PSsS (NdefX.ncx CX0 P w K mg base N ⟨x, qual, defArgs st, defBody st, defScope st, [("__class__", cc)], cda⟩ f A outer s H E) (defBody st) t ∧ t { nx := fun _ H' => Q .non H', rt := Q } (NdefX.startF N vs [none]) H) :
    FnOk P w K mg base CX0 (k + 1) f fd ps sp := by
  obtain ⟨kV, doc, pm, ct, an, rfl⟩ := F.ex
  exact fn_ofS F.sup F.code S len hbody
theorem FunS.binds {P : Program} {K : PySem.W.Frag} {f f2 C cda cc : Addr} {x qual : Str} {st : Stmt} {fd : FuncData} {ps : List Str} (F : FunS K P x qual st f f2 C cda cc fd)
    (h : ∀ (kV doc pm : Value) (an : Option Addr) (cdv ct : Value) (us : List Value), us.length = ps.length → bindArgs (PySem.W.fnX x qual (defArgs st) (defBody st) (defScope st) [("__class__", cc)] .none kV doc pm an cdv ct) ⟨us, []⟩ = pure (ps.zip us)) : Binds K fd ps [] := by
  obtain ⟨kV, doc, pm, ct, an, rfl⟩ := F.ex
  exact .all (h kV doc pm an (.ref cda) ct)
/-- C.f is a constant of the class -/
def CValE (K : PySem.W.Frag) (C : Addr) (mc : Value) (f : Str) (v : V) : Prop := ∃ u, ClX.CVal K C mc f v u
theorem g_cval {K : PySem.W.Frag} {ta : TE} {f : Str} {σ : L2.St} {H : Hp} {Q : VK} (h : ta σ H fun x H1 => ∃ C mc v u, x = .ref C ∧ ClX.CRead K C mc ∧ ClX.CVal K C mc f v u ∧ Q v H1) : ClX.tCVal K ta f σ H Q := h

/-! ### an own exception's __init__ whose first statement is super().__init__(e, ..), down to ValueError -/
structure SupXK (K : PySem.W.Frag) (P : Program) (f C cda cc : Addr) (fd : FuncData) : Prop where
  fo : ∃ oc od sl, K.lookup f = some ⟨oc, od, .func fd, sl⟩
  code : ∃ ccl cdd ccs vs file tf, K.lookup cda = some ⟨ccl, cdd, .fields vs, ccs⟩ ∧ vs[2]? = some (.str file tf) ∧ ((P.main.file : Str) == file) = true
  cell : ∃ cl cld csl, K.lookup cc = some ⟨cl, cld, .cell (some (.ref C)), csl⟩
  cls : ∃ cd, PySem.W.clsIn K C = some cd
  sub : PySem.W.mroIn K C (.ref C) = some true
  top : (P.main.scope.names.lookup ("super" : Str)).isSome = false
  up : PySem.W.ks_superIn K C C "__init__" = some (some (.builtin "ValueError.__init__"))
  ve : PySem.W.subIn K (.ref C) (.type "ValueError") = some true
  op : PySem.W.nsIn K cStatics "thirdparty.any" = some none
  oex : OexC K C
section
variable {X : Cx} {pins : List (Addr × Obj)} {σ : L2.St} {H : Hp} {s : Shared} {a C u : Addr} {A : Around} {E : Value → Shared → Prop}
theorem oinit_mw {us : List Value} {Q : Value → Shared → Prop} (T : OexC X.K C) (I : Inv X pins σ H s) (e : H a = some (exo a C none)) (hu : s.heap.get? u = some (PySem.W.kxs_mw "ValueError.__init__" a)) (hl : us.length ≤ sizeLine) (h : ∀ s', Inv X pins σ H s' → Q .none s') :
    wpAny (model X.prog X.w) A (call (.ref u) us) Q E s := by
  obtain ⟨nm, q, N, bs, bm, sn, sub, ab, col, dd, k0, k1, k2, k3, k5, hC, hbm⟩ := T.cls
  obtain ⟨t1, ho⟩ := exo_at I.hok e
  obtain ⟨hp, g, d, t, os⟩ := s
  have fin : ∀ h' t2, (∀ b o, b ≠ a → hp.get? b = some o → h'.get? b = some o) → h'.get? a = some (PySem.HandSPX.excO C t2) → Q .none ⟨h', g, d, t, os⟩ := fun h' t2 k hx => by
    have J := I.write (t' := t) (x := a) (e := a) (o := exo a C none) (by rw [e]; exact True.intro) (.inl rfl) k ⟨_, hx⟩ (exo_ok hx)
    have eu : upd H a (exo a C none) = H := by
      funext b
      by_cases hb : b = a
      · rw [hb, upd_same, e]
      · rw [upd_ne hb]
    rw [eu] at J
    exact h _ J
  refine wpAny_call (codeAny_of_tree ?_)
  show wpAny _ A.in1 (callAny (.ref u) ⟨us, []⟩) _ _ _
  simp only [callAny]
  refine wpAny_bind (wpAny_load hu ?_)
  simp only [PySem.W.kxs_mw, show (Value.type "method-wrapper" == Value.type "method" || Value.type "method-wrapper" == Value.type "builtin_function_or_method" || Value.type "method-wrapper" == Value.type "method-wrapper") = true by decide, if_true]
  refine PySem.W.KFB.if_so (by decide) ?_
  refine wpAny_bind (PySem.W.check_bound_init F.excBase_ValueError.toExcCallFacts (I.kIn _ _ hC) ho rfl ?_)
  refine wpAny_bind (wpAny_pure (wpAny_pure ?_))
  refine ⟨plainId_quiet F.excBase_ValueError.init.plain _, codeAny_builtin F.excBase_ValueError.initEntry ?_⟩
  rw [Around.under_plainId F.excBase_ValueError.init.plain _]
  wp_walk
  refine fin _ hp.objs.size (fun b o hb ho => ?_) ?_
  · rw [Heap.get?_update_other _ _ (Ne.symm hb)]
    exact Heap.get?_push_of_some _ ho
  · rw [Heap.get?_update_self _ (Heap.get?_push_of_some _ ho) rfl]
    rfl
end
def tSupX (C : Addr) (ta : TA) (t : TS) : TS := fun D σ H => ∃ x, σ[0]? = some (some (.ref x)) ∧ H x = some (exo x C none) ∧ ta σ H fun us H1 => us.length ≤ 1000 ∧ H1 x = some (exo x C none) ∧ t D σ H1
theorem pss_superX {X : Cx} {f C cda cc : Addr} {fd : FuncData} {ta : TA} {t : TS} {pl : Sem Bool} {p0 p1 p2 p3 p4 : Pos} {e : Expr} {es : List Expr} {rest : List Stmt} {ar : Arg} {prm : Arguments}
    (F : SupXK X.K X.prog f C cda cc fd) (hfu : X.env.func = some f) (hco : X.env.code = .ref cda) (hcl : X.env.cells.lookup ("__class__" : Str) = some cc) (hmg : X.mg "super" = none) (hks : X.env.kindOf "super" = some .globalImplicit) (hkc : X.env.kindOf "__class__" = some .free)
    (hpar : fd.params = prm) (hp : (prm.posonlyargs ++ prm.args).head? = some ar) (h0 : X.N[0]? = some ar.arg) (hka : X.env.kindOf ar.arg = some .local)
    (ha : PA X (e :: es) ta) (hs : PSs X rest t)
    (hi : interactive X.env = false := by rfl) (hsw : swapsWith (.Call (.Attribute (.Call (.Name "super" p0) [] [] p1) "__init__" p2) (e :: es) [] p3) none p4.line X.env = pure false := by rfl)
    (hst : starEach (e :: es) X.env = (false, eval e X.env) :: starEach es X.env := by rfl) (hpl : (backTo p3 (starEach es X.env)).any (·.1) = false := by rfl)
    (ht : eval (.Call (.Attribute (.Call (.Name "super" p0) [] [] p1) "__init__" p2) (e :: es) [] p3) X.env = (do
      let ov ← attributeBase (.Call (.Name "super" p0) [] [] p1) "__init__" X.env (eval (.Call (.Name "super" p0) [] [] p1) X.env)
      standAt p2.atName
      let (f, first) ← holding [ov] (getMethod ov "__init__" pl)
      callWith p3 f first (backTo p3 (starEach (e :: es) X.env)) []) := by rfl) :
    PSsS X (.Expr (.Call (.Attribute (.Call (.Name "super" p0) [] [] p1) "__init__" p2) (e :: es) [] p3) p4 :: rest) (tSupX C ta t) := by
  refine ⟨fun b0 pins s σ H D I hq => ?_⟩
  obtain ⟨x, hx0, hx, hq⟩ := hq
  obtain ⟨oc, od, sl, hfo⟩ := F.fo
  obtain ⟨ccl, cdd, ccs, cvs, file, tf, hcode, hvs, hfile⟩ := F.code
  obtain ⟨cl, cld, csl, hcell⟩ := F.cell
  obtain ⟨cd, hcd⟩ := F.cls
  have KX : X.K.In s.heap := I.kIn
  obtain ⟨oD, hD1, hD2⟩ : ∃ oD, s.heap.get? C = some oD ∧ oD.data = .cls cd := by
    unfold PySem.W.clsIn at hcd
    split at hcd
    · rename_i c d cd' sl' ho
      cases hcd
      exact ⟨_, KX _ _ ho, rfl⟩
    · cases hcd
  obtain ⟨t1, ho1⟩ := exo_at I.hok hx
  have J : PySem.W.InstAt s.heap x _ C none := ⟨ho1, rfl, rfl, trivial⟩
  obtain ⟨m, hns, hvals⟩ := I.loc
  have hself : m ar.arg = some (.ref x) := by
    obtain ⟨u, ru, lk⟩ := hvals 0 ar.arg (.ref x) h0 hx0 (.inl hka)
    cases ru
    rcases lk with ⟨_, z⟩ | ⟨z, _⟩
    · exact z
    · rw [hka] at z
      rcases z with z | z <;> cases z
  refine ks_wpAt_execs_cons (ks_wpAt_Expr_any (ks_wpAt_MethodCall (pl := pl) ?_ ht) hi hsw)
  refine ks_wpAt_super_base hks hkc (by decide) hfu (KX _ _ hfo) rfl (by rw [hpar]; exact hp) hco (KX _ _ hcode) rfl hvs hfile F.top ?_
  obtain ⟨mb, hb1, hb2⟩ := I.mod.blt
  refine PySem.W.ks_loadName_global I.ok.kind hks (Calls.loadGlobal_builtin (by rw [I.ok.glob]; exact I.mod.glob.keeps I.bk) hmg (by rw [I.ok.blt]; exact hb1.keeps I.bk) ((hb2 "super" (by decide)).trans (show bootBuiltins "super" = some (.type "super") by first | boot_by_name | rfl | kernel_rfl)) ⟨rfl, ?_⟩)
  refine wpAny_loadName_free I.ok.kind hkc hcl ⟨_, KX _ _ hcell, rfl⟩ ?_
  refine wpAny_loadName_local I.ok.kind hka hns hself ?_
  refine ks_wpAny_isType_cls hD1 hD2 ⟨rfl, ?_⟩
  refine ks_wpAny_call_super hD1 hD2 J.at_ J.cls (fun c e => ?_) (PySem.W.looks_mroIn KX F.sub) (fun h' eso ks => ?_)
  · cases e
  have I1 : Inv X pins σ H { s with heap := h' } := I.kept ks
  obtain ⟨t2, ho2⟩ := exo_at I1.hok hx
  have J1 : PySem.W.InstAt h' x _ C none := ⟨ho2, rfl, rfl, trivial⟩
  have hxC : x ≠ C := PySem.W.ks_ne I1.kIn J1 hcd
  have hm := F.up
  unfold PySem.W.ks_superIn at hm
  rw [hcd] at hm
  refine PySem.W.kxs_getMethod PySem.W.kxs_ValueError eso (PySem.W.looks_opaque I1.kIn F.op) (l₀ := cd.mro) ?_ rfl I1.kIn hm (J1.type.andThen (PySem.W.looks_subIn I1.kIn F.ve)) hxC (by decide) ?_
  · exact fun A Q E s k q => wpAny_bind ((PySem.W.looks_clsIn I1.kIn hcd) A _ E s k (wpAny_pure q))
  have hb : (h'.push (PySem.W.kxs_mw "ValueError.__init__" x)).get? h'.objs.size = some (PySem.W.kxs_mw "ValueError.__init__" x) := Heap.get?_push_at rfl rfl
  have I2 : Inv X pins σ H { s with heap := h'.push (PySem.W.kxs_mw "ValueError.__init__" x), toks := s.toks + 1 } := I1.kept (t' := s.toks + 1) fun b ob z => Heap.get?_push_of_some _ z
  have I3 : Inv X ((h'.objs.size, PySem.W.kxs_mw "ValueError.__init__" x) :: pins) σ H { s with heap := h'.push (PySem.W.kxs_mw "ValueError.__init__" x), toks := s.toks + 1 } := I2.pins_of fun q hq => by
    rcases List.mem_cons.mp hq with e | e
    · subst e
      exact ⟨hb, I1.hok.fresh (Nat.le_refl _), Nat.ne_of_gt I1.lt, I1.nofs (Nat.le_refl _), fun v z => nomatch z⟩
    · exact I2.pin q (List.mem_append_right _ e)
  rw [hst]
  refine PySem.W.kxs_callWith (i := "ValueError.__init__") (x := x) (by show (false || (backTo p3 (starEach es X.env)).any (·.1)) = false; rw [hpl]; rfl) (Calls.evalArgs_plain ?_)
  have har := ha.run p3 _ _ σ H _ I3 hq
  rw [hst] at har
  refine thn har fun us s3 ⟨vs, H1, I4, rv, hl, hx1, q⟩ => ?_
  have hp4 := (I4.pin (h'.objs.size, PySem.W.kxs_mw "ValueError.__init__" x) (List.mem_append_right _ List.mem_cons_self)).1
  have I5 : Inv X pins σ H1 s3 := I4.pins_of fun q hq => I4.pin q (List.mem_append_right _ (List.mem_cons_of_mem _ hq))
  refine ⟨hp4, ?_⟩
  have hlen : us.length ≤ sizeLine := by
    rw [← Paired.length rv, sizeLine_eq]
    omega
  exact oinit_mw F.oex I5 hx1 hp4 hlen fun s' J => wpAt_of_wpAny (hs.run pins s' σ H1 D J q)
/-- THE RULE: such a method by its body -/
theorem fn_ofX {CX : CXT} {P : Program} {w : World} {K : PySem.W.Frag} {mg : Str → Option Value} {base : Heap} {k : Nat} {f C cda cc : Addr} {name qual : Str} {params : Arguments} {body : List Stmt} {scope : Scope} {dV kV doc pm ct : Value} {an : Option Addr}
    {N ps : List Str} {sp : Sp} (F : SupXK K P f C cda cc (PySem.W.fnX name qual params body scope [("__class__", cc)] dV kV doc pm an (.ref cda) ct)) (hcd : PySem.W.codeIn K (.ref cda) qual = true) (S : NdefX.NScope N ps ["__class__"] scope)
    (len : ∀ vs H Q E, sp vs H Q E → vs.length = ps.length)
    (hbody : ∀ (A : Around) (outer : List Env) (s : Shared) (H : Hp) (vs : List V) (Q : VK) (E : XK), Room k (A.deeper (NdefX.envF ⟨name, qual, params, body, scope, [("__class__", cc)], cda⟩ f s.heap.objs.size)) → sp vs H Q E →
      ∃ t, PSsS (NdefX.ncx CX P w K mg base N ⟨name, qual, params, body, scope, [("__class__", cc)], cda⟩ f A outer s H E) body t ∧ t { nx := fun _ H' => Q .non H', rt := Q } (NdefX.startF N vs [none]) H) :
    FnOk P w K mg base CX (k + 1) f (PySem.W.fnX name qual params body scope [("__class__", cc)] dV kV doc pm an (.ref cda) ct) ps sp := by
  refine ⟨len, fun A outer s H args us vs Q E hr e0 hb r hsp => ?_⟩
  have hl := len _ _ _ _ hsp
  obtain ⟨oc, od, sl, lk⟩ := F.fo
  obtain ⟨cl, cld, csl, hcell⟩ := F.cell
  have KX : K.In s.heap := e0.mod.kin.keeps fun b o e => (e0.bs b o e).1
  have lim : s.heap.NoLimit := e0.mod.nolimit.keeps fun b o e => (e0.bs b o e).1
  have look1 : ∀ (y : Str) (c : Addr), List.lookup y [(("__class__" : Str), cc)] = some c → c = cc ∧ y = "__class__" := fun y c e => by
    rw [List.lookup_cons] at e
    split at e
    · rename_i z
      cases e
      exact ⟨rfl, beq_iff_eq.mp z⟩
    · cases e
  have CA : NdefX.CellsAt [("__class__", cc)] ["__class__"] [none] s.heap H := by
    refine ⟨rfl, fun y c e => ?_, fun x y c e1 e2 => ?_, fun i y e => ?_⟩
    · obtain ⟨rfl, _⟩ := look1 y c e
      exact ⟨(e0.bs _ _ (e0.mod.kin _ _ hcell)).2, _, _, KX _ _ hcell, rfl⟩
    · rw [(look1 x c e1).2, (look1 y c e2).2]
    · cases i with
      | zero =>
        cases e
        refine ⟨cc, by rw [List.lookup_cons, beq_self_eq_true], fun v z => ?_⟩
        cases z
      | succ j => simp at e
  refine ks_codeAny_call_defAt hr.depth (KX _ _ lk) rfl lim (PySem.W.codeRec_of KX hcd) rfl hb S.nocell (fun ⟨n, _⟩ hy => S.par n (List.of_mem_zip hy).1) (fun h₁ hns kp => ?_) S.co S.gen S.kind
  obtain ⟨t, ht, hq⟩ := hbody A outer s H vs Q E (hr.deeper _) hsp
  have I : Inv (NdefX.ncx CX P w K mg base N ⟨name, qual, params, body, scope, [("__class__", cc)], cda⟩ f A outer s H E) [] (NdefX.startF N vs [none]) H { s with heap := h₁, toks := s.toks + (ps.zip us).length } := NdefX.inv_startN S hr.hd e0 hl r CA hns kp
  refine ks_wpAt_mono (ht.run body [] _ (NdefX.startF N vs [none]) H _ I hq) (fun fl s' hs => ?_) fun e s' hs => hs
  have fin : ∀ {σ' : L2.St} {H' : Hp} {v : V} {u : Value}, Inv (NdefX.ncx CX P w K mg base N ⟨name, qual, params, body, scope, [("__class__", cc)], cda⟩ f A outer s H E) [] σ' H' s' → L2.RelV v u → Q v H' → CE outer P w H s Q u s' :=
    fun {σ' H' v u} J rv q => ⟨v, H', J.os, J.bare, J.base, J.hok, rv, q⟩
  cases fl with
  | ret u =>
    obtain ⟨v, σ', H', J, rv, q⟩ := hs
    exact fin J rv q
  | next =>
    obtain ⟨σ', H', J, q⟩ := hs
    exact fin (v := V.non) (u := Value.none) J rfl q
  | brk =>
    obtain ⟨_, _, _, q⟩ := hs
    exact False.elim q
  | cont =>
    obtain ⟨_, _, _, q⟩ := hs
    exact False.elim q
/-- such a method of the text as it stands behind the top -/
structure FunSX (K : PySem.W.Frag) (P : Program) (x qual : Str) (st : Stmt) (f C cda cc : Addr) (fd : FuncData) : Prop where
  ex : ∃ (kV doc pm ct : Value) (an : Option Addr), fd = PySem.W.fnX x qual (defArgs st) (defBody st) (defScope st) [("__class__", cc)] .none kV doc pm an (.ref cda) ct
  sup : SupXK K P f C cda cc fd
  code : PySem.W.codeIn K (.ref cda) qual = true
  kp : PySem.W.keepIn K (.ref f) = true
theorem FunSX.params {P : Program} {K : PySem.W.Frag} {f C cda cc : Addr} {x qual : Str} {st : Stmt} {fd : FuncData} (F : FunSX K P x qual st f C cda cc fd) : fd.params = defArgs st := by
  obtain ⟨kV, doc, pm, ct, an, rfl⟩ := F.ex
  rfl
theorem FunSX.ok {P : Program} {w : World} {K : PySem.W.Frag} {mg : Str → Option Value} {base : Heap} {k : Nat} {f C cda cc : Addr} {x qual : Str} {st : Stmt} {fd : FuncData} {N ps : List Str} {sp : Sp} (F : FunSX K P x qual st f C cda cc fd) (S : NdefX.NScope N ps ["__class__"] (defScope st))
    (len : ∀ vs H Q E, sp vs H Q E → vs.length = ps.length)
    (hbody : ∀ (A : Around) (outer : List Env) (s : Shared) (H : Hp) (vs : List V) (Q : VK) (E : XK), Room k (A.deeper (NdefX.envF ⟨x, qual, defArgs st, defBody st, defScope st, [("__class__", cc)], cda⟩ f s.heap.objs.size)) → sp vs H Q E →
      ∃ t, PSsS (NdefX.ncx CX0 P w K mg base N ⟨x, qual, defArgs st, defBody st, defScope st, [("__class__", cc)], cda⟩ f A outer s H E) (defBody st) t ∧ t { nx := fun _ H' => Q .non H', rt := Q } (NdefX.startF N vs [none]) H) :
    FnOk P w K mg base CX0 (k + 1) f fd ps sp := by
  obtain ⟨kV, doc, pm, ct, an, rfl⟩ := F.ex
  exact fn_ofX F.sup F.code S len hbody
theorem FunSX.binds {P : Program} {K : PySem.W.Frag} {f C cda cc : Addr} {x qual : Str} {st : Stmt} {fd : FuncData} {ps : List Str} (F : FunSX K P x qual st f C cda cc fd)
    (h : ∀ (kV doc pm : Value) (an : Option Addr) (cdv ct : Value) (us : List Value), us.length = ps.length → bindArgs (PySem.W.fnX x qual (defArgs st) (defBody st) (defScope st) [("__class__", cc)] .none kV doc pm an cdv ct) ⟨us, []⟩ = pure (ps.zip us)) : Binds K fd ps [] := by
  obtain ⟨kV, doc, pm, ct, an, rfl⟩ := F.ex
  exact .all (h kV doc pm an (.ref cda) ct)

def topS (i : Nat) : Stmt := PySem.Challenge.pw_throughline_k07_options_read.main.body.getD i (.Pass ⟨0, 0, 0, 0⟩)
abbrev s_DamagedSegment_init__ : Stmt := inClass (topS 3) 0
abbrev s_read_number : Stmt := topS 5
abbrev s_read_options : Stmt := topS 19
abbrev s_split : Stmt := topS 20
abbrev s_option_size : Stmt := topS 21
abbrev s_read_bodies : Stmt := topS 22
abbrev s_is_known : Stmt := topS 23
abbrev s_wire_numbers : Stmt := topS 24
abbrev s_l_is_integer : Stmt := topS 26
abbrev s_l_cell : Stmt := topS 27
abbrev s_l_row : Stmt := topS 28
abbrev s_l_number : Stmt := topS 29
abbrev s_l_pair : Stmt := topS 30
abbrev s_l_all_pairs : Stmt := topS 31
abbrev s_l_value : Stmt := topS 32
abbrev s_l_pair_of : Stmt := topS 33
abbrev s_l_body : Stmt := topS 34
abbrev s_l_skipped : Stmt := topS 35
abbrev s_l_values : Stmt := topS 36
abbrev s_l_put : Stmt := topS 37
abbrev s_l_items : Stmt := topS 38
abbrev s_l_faulty : Stmt := topS 39
abbrev s_l_raises : Stmt := topS 40
abbrev s_l_right : Stmt := topS 41
abbrev s_law : Stmt := topS 42
theorem sc_DamagedSegment_init__ : NdefX.NScope ["self", "reason", "__class__"] ["self", "reason"] ["__class__"] (defScope s_DamagedSegment_init__) := NdefX.nscope_by (by decide +kernel)
theorem sc_read_number : FnScope ["octets", "number", "octet"] ["octets"] (defScope s_read_number) := ⟨rfl, rfl, rfl, by decide +kernel, rfl, by decide +kernel, by decide +kernel⟩
theorem sc_read_options : FnScope ["octets", "bodies", "stamp", "ranges", "counts"] ["octets"] (defScope s_read_options) := ⟨rfl, rfl, rfl, by decide +kernel, rfl, by decide +kernel, by decide +kernel⟩
theorem sc_split : FnScope ["octets", "options", "at", "size", "octet"] ["octets"] (defScope s_split) := ⟨rfl, rfl, rfl, by decide +kernel, rfl, by decide +kernel, by decide +kernel⟩
theorem sc_option_size : FnScope ["octets", "at", "size"] ["octets", "at"] (defScope s_option_size) := ⟨rfl, rfl, rfl, by decide +kernel, rfl, by decide +kernel, by decide +kernel⟩
theorem sc_read_bodies : FnScope ["options", "bodies", "kind", "body"] ["options"] (defScope s_read_bodies) := ⟨rfl, rfl, rfl, by decide +kernel, rfl, by decide +kernel, by decide +kernel⟩
theorem sc_is_known : FnScope ["kind", "body"] ["kind", "body"] (defScope s_is_known) := ⟨rfl, rfl, rfl, by decide +kernel, rfl, by decide +kernel, by decide +kernel⟩
theorem sc_wire_numbers : FnScope ["octets", "at"] ["octets"] (defScope s_wire_numbers) := ⟨rfl, rfl, rfl, by decide +kernel, rfl, by decide +kernel, by decide +kernel⟩
theorem sc_l_is_integer : FnScope ["actual"] ["actual"] (defScope s_l_is_integer) := ⟨rfl, rfl, rfl, by decide +kernel, rfl, by decide +kernel, by decide +kernel⟩
theorem sc_l_cell : FnScope ["script", "k"] ["script", "k"] (defScope s_l_cell) := ⟨rfl, rfl, rfl, by decide +kernel, rfl, by decide +kernel, by decide +kernel⟩
theorem sc_l_row : FnScope ["cell", "size", "base", "row", "number", "k", "mixed"] ["cell", "size", "base"] (defScope s_l_row) := ⟨rfl, rfl, rfl, by decide +kernel, rfl, by decide +kernel, by decide +kernel⟩
theorem sc_l_number : FnScope ["actual", "expected"] ["actual", "expected"] (defScope s_l_number) := ⟨rfl, rfl, rfl, by decide +kernel, rfl, by decide +kernel, by decide +kernel⟩
theorem sc_l_pair : FnScope ["actual", "expected"] ["actual", "expected"] (defScope s_l_pair) := ⟨rfl, rfl, rfl, by decide +kernel, rfl, by decide +kernel, by decide +kernel⟩
theorem sc_l_all_pairs : FnScope ["actual", "expected", "k"] ["actual", "expected"] (defScope s_l_all_pairs) := ⟨rfl, rfl, rfl, by decide +kernel, rfl, by decide +kernel, by decide +kernel⟩
theorem sc_l_value : FnScope ["octets", "value", "octet"] ["octets"] (defScope s_l_value) := ⟨rfl, rfl, rfl, by decide +kernel, rfl, by decide +kernel, by decide +kernel⟩
theorem sc_l_pair_of : FnScope ["octets"] ["octets"] (defScope s_l_pair_of) := ⟨rfl, rfl, rfl, by decide +kernel, rfl, by decide +kernel, by decide +kernel⟩
theorem sc_l_body : FnScope ["kind", "cell"] ["kind", "cell"] (defScope s_l_body) := ⟨rfl, rfl, rfl, by decide +kernel, rfl, by decide +kernel, by decide +kernel⟩
theorem sc_l_skipped : FnScope ["cell", "kind", "body"] ["cell"] (defScope s_l_skipped) := ⟨rfl, rfl, rfl, by decide +kernel, rfl, by decide +kernel, by decide +kernel⟩
theorem sc_l_values : FnScope ["bodies", "values", "k"] ["bodies"] (defScope s_l_values) := ⟨rfl, rfl, rfl, by decide +kernel, rfl, by decide +kernel, by decide +kernel⟩
theorem sc_l_put : FnScope ["items", "item", "cell", "at"] ["items", "item", "cell"] (defScope s_l_put) := ⟨rfl, rfl, rfl, by decide +kernel, rfl, by decide +kernel, by decide +kernel⟩
theorem sc_l_items : FnScope ["script", "bodies", "items", "kind", "k"] ["script", "bodies"] (defScope s_l_items) := ⟨rfl, rfl, rfl, by decide +kernel, rfl, by decide +kernel, by decide +kernel⟩
theorem sc_l_faulty : FnScope ["items", "bodies", "fault", "cell", "kinds", "kind", "body", "whole", "longer", "item"] ["items", "bodies", "fault", "cell"] (defScope s_l_faulty) := ⟨rfl, rfl, rfl, by decide +kernel, rfl, by decide +kernel, by decide +kernel⟩
theorem sc_l_raises : FnScope ["octets", "e"] ["octets"] (defScope s_l_raises) := ⟨rfl, rfl, rfl, by decide +kernel, rfl, by decide +kernel, by decide +kernel⟩
theorem sc_l_right : FnScope ["actual", "expected", "names", "k"] ["actual", "expected"] (defScope s_l_right) := ⟨rfl, rfl, rfl, by decide +kernel, rfl, by decide +kernel, by decide +kernel⟩
theorem sc_law : FnScope ["script", "bodies", "k", "kind", "cell", "fault", "items", "octets", "item", "given"] ["script"] (defScope s_law) := ⟨rfl, rfl, rfl, by decide +kernel, rfl, by decide +kernel, by decide +kernel⟩
/-! ### a written dict with ints as keys -/
structure KDictI (K : PySem.W.Frag) (d : Addr) (es : Array DictEntry) (n : Nat) : Prop where
  at_ : K.lookup d = some ⟨.type "dict", none, .dict es n, #[]⟩
  lit : ∀ e ∈ es.toList, ∃ (i : Int) (t : Tok), e.key = .int i t ∧ e.hash = hashInt i
  low : (d == sysModules) = false
def fI (es : Array DictEntry) (k : Int) : Option Value := findBy Value.isInt es k
theorem KDictI.mapOf {K : PySem.W.Frag} {d : Addr} {es : Array DictEntry} {n : Nat} {h : Heap} {prog : Program} {w : World} (D : KDictI K d es n) (X : K.In h) : h.MapOf (intKind prog w) d (fI es) :=
  ⟨_, es, n, X _ _ D.at_, ⟨rfl, rfl, rfl⟩, rfl, (fun e he => by
    obtain ⟨i, t, e1, e2⟩ := D.lit e (Array.mem_toList_iff.mpr he)
    exact ⟨i, by rw [e1]; exact intKind_is prog w i t, e2⟩), fun _ => rfl⟩
def rInI (es : Array DictEntry) (d : Addr) : R2 := fun x y H Q => ∃ k : Int, x = .int k ∧ y = .ref d ∧ Q (.bl (fI es k).isSome) H
def rNotInI (es : Array DictEntry) (d : Addr) : R2 := fun x y H Q => ∃ k : Int, x = .int k ∧ y = .ref d ∧ Q (.bl (!(fI es k).isSome)) H
def rIxI (es : Array DictEntry) (d : Addr) : R2 := fun x y H Q => ∃ (k : Int) (u : Value) (v : V), x = .ref d ∧ y = .int k ∧ fI es k = some u ∧ RelV v u ∧ Q v H
section
variable {X : Cx} {d : Addr} {es : Array DictEntry} {n : Nat}
theorem op_inI (D : KDictI X.K d es n) : OpR X (compareOp .In) (rInI es d) := by
  intro pins s σ H x y v u Q I rx ry h
  obtain ⟨k, rfl, rfl, q⟩ := h
  obtain ⟨t, rfl⟩ := rx
  cases ry
  exact wpAny_in_of (intKind_is X.prog X.w k t) D.low (D.mapOf I.kIn) ⟨.bl (fI es k).isSome, H, I.tok _, rfl, q⟩
theorem op_notInI (D : KDictI X.K d es n) : OpR X (compareOp .NotIn) (rNotInI es d) := by
  intro pins s σ H x y v u Q I rx ry h
  obtain ⟨k, rfl, rfl, q⟩ := h
  obtain ⟨t, rfl⟩ := rx
  cases ry
  exact wpAny_notIn_of (intKind_is X.prog X.w k t) D.low (D.mapOf I.kIn) ⟨.bl (!(fI es k).isSome), H, I.tok _, rfl, q⟩
theorem ix_dI (D : KDictI X.K d es n) : IxR X (rIxI es d) := by
  intro value slice pins s σ H x y v u Q I rx ry h hs
  obtain ⟨k, u0, v0, rfl, rfl, e, r, q⟩ := h
  cases rx
  obtain ⟨t, rfl⟩ := ry
  have hm := D.mapOf (prog := X.prog) (w := X.w) I.kIn
  exact PyProof.Rows.tail_any hm.typeIs slot_dict_getitem.lookup (wpAny_getItem_of (intKind_is X.prog X.w k t) hm e ⟨v0, H, I.tok _, r, q⟩) hs
end
theorem g_inI {es : Array DictEntry} {d : Addr} {k : Int} {H : Hp} {Q : VK} (q : Q (.bl (fI es k).isSome) H) : rInI es d (.int k) (.ref d) H Q := ⟨k, rfl, rfl, q⟩
theorem g_notInI {es : Array DictEntry} {d : Addr} {k : Int} {H : Hp} {Q : VK} (q : Q (.bl (!(fI es k).isSome)) H) : rNotInI es d (.int k) (.ref d) H Q := ⟨k, rfl, rfl, q⟩
theorem g_ixI {es : Array DictEntry} {d : Addr} {k : Int} {u : Value} {v : V} {H : Hp} {Q : VK} (e : fI es k = some u) (r : RelV v u) (q : Q v H) : rIxI es d (.ref d) (.int k) H Q := ⟨k, u, v, rfl, rfl, e, r, q⟩
theorem fI_entry {es : Array DictEntry} {k : Int} {u : Value} (e : (es.toList.find? (fun e => Value.isInt k e.key)).map (·.val) = some u) : fI es k = some u := by
  unfold fI findBy
  obtain ⟨l⟩ := es
  rw [List.find?_toArray]
  exact e
def keyI (e : DictEntry) : Option Int := match e.key with | .int i _ => some i | _ => none
theorem fI_out {es : Array DictEntry} {k : Int} {ks : List Int} (e : es.toList.map keyI = ks.map some) (h : k ∉ ks) : fI es k = none := by
  unfold fI findBy
  obtain ⟨l⟩ := es
  rw [List.find?_toArray]
  have : ∀ {l : List DictEntry} {ks : List Int}, l.map keyI = ks.map some → k ∉ ks → l.find? (fun e => Value.isInt k e.key) = none := by
    intro l
    induction l with
    | nil => intro ks _ _; rfl
    | cons a l ih =>
      intro ks e h
      cases ks with
      | nil => cases e
      | cons i ks =>
        simp only [List.map_cons, List.cons.injEq] at e
        obtain ⟨e1, e2⟩ := e
        have h1 := ih e2 fun z => h (List.mem_cons_of_mem _ z)
        unfold keyI at e1
        obtain ⟨hs, key, val⟩ := a
        dsimp only at e1
        cases key with
        | int j t =>
          injection e1 with e1
          subst e1
          have ne : Value.isInt k (.int j t) = false := by
            show (j == k) = false
            rw [beq_eq_false_iff_ne]
            intro z
            exact h (z ▸ List.mem_cons_self ..)
          rw [List.find?_cons]
          show (match Value.isInt k (.int j t) with | true => _ | false => _) = none
          rw [ne]
          exact h1
        | _ => cases e1
  rw [this e h]
  rfl

def pickV (xs : List V) (lo hi : Option Int) (k : Int) : List V := (sliceRange (sliceBounds lo hi (some k) xs.length).1 (sliceBounds lo hi (some k) xs.length).2.1 (sliceBounds lo hi (some k) xs.length).2.2).filterMap (xs[·]?)
theorem vals_get : ∀ {xs : List V} {us : List Value}, Vals xs us → ∀ i : Nat, (xs[i]? = none ∧ us[i]? = none) ∨ ∃ x u, xs[i]? = some x ∧ us[i]? = some u ∧ RelV x u
  | _, _, .nil, _ => .inl ⟨rfl, rfl⟩
  | _, _, .cons r _, 0 => .inr ⟨_, _, rfl, rfl, r⟩
  | _, _, .cons _ t, i + 1 => vals_get t i
theorem vals_pick {xs : List V} {us : List Value} (r : Vals xs us) : ∀ l : List Nat, Vals (l.filterMap (xs[·]?)) (l.filterMap (us[·]?))
  | [] => .nil
  | i :: l => by
    rcases vals_get r i with ⟨a, b⟩ | ⟨x, u, a, b, c⟩
    · rw [List.filterMap_cons_none a, List.filterMap_cons_none b]
      exact vals_pick r l
    · rw [List.filterMap_cons_some a, List.filterMap_cons_some b]
      exact .cons c (vals_pick r l)
theorem pick_len {α : Type} (xs : List α) (l : List Nat) : (l.filterMap (xs[·]?)).length ≤ l.length := List.length_filterMap_le _ _
def tSl3 (K : PySem.W.Frag) (te : TE) (tl th : TO) (ts : TE) : TE := fun σ H Q => te σ H fun x H1 => tl σ H1 fun l H2 => th σ H2 fun u H3 => ts σ H3 fun z H4 => ∃ a xs k, x = .ref a ∧ z = .int k ∧ k ≠ 0 ∧ SqL K H4 a xs ∧ (pickV xs l u k).length ≤ sizeLine ∧ ∀ p, H4 p = none → Q (.ref p) (upd H4 p (.lst (pickV xs l u k)))
open PyProof.Rows in
theorem pe_stepL {X : Cx} {e stp : Expr} {lo hi : Option Expr} {te ts : TE} {tl th : TO} {p2 pos : Pos} (he : PE X e te) (hl : PO X lo tl) (hh : PO X hi th) (hs : PE X stp ts) : PE X (.Subscript e (.Slice lo hi (some stp) p2) pos) (tSl3 X.K te tl th ts) := by
  refine ⟨fun pins s σ H Q I h => ?_⟩
  refine PyProof.Rows.Subscript_ (thn (he.run pins s σ H _ I h) fun v s1 ⟨x, H1, I1, r1, q1⟩ => ?_)
  refine wpAny_Slice (thn (hl.run pins s1 σ H1 _ I1 q1) fun vl s2 ⟨l, H2, I2, pl, q2⟩ => thn (hh.run pins s2 σ H2 _ I2 q2) fun vu s3 ⟨u, H3, I3, pu, q3⟩ => ?_)
  rw [evalPart_some]
  refine thn (hs.run pins s3 σ H3 _ I3 q3) fun vk s4 ⟨z, H4, I4, rk, q4⟩ => ?_
  obtain ⟨a, xs, k, rfl, rfl, hk, hx, hz2, q⟩ := q4
  cases r1
  obtain ⟨t, rfl⟩ := rk
  have I5 : Inv X pins σ H4 { s4 with heap := s4.heap.push { cls := .type "slice", data := .fields #[vl, vu, .int k t] } } := I4.kept (t' := s4.toks) fun b ob q => Heap.get?_push_of_some _ q
  obtain ⟨its, r, ht, hz⟩ := I5.list hx
  have hlen := r.length
  show wpAny (model X.prog X.w) X.A (subscriptTail e (.Slice lo hi (some stp) p2) (.ref a) (.ref s4.heap.objs.size)) (EP X pins σ Q) X.xe { s4 with heap := s4.heap.push { cls := .type "slice", data := .fields #[vl, vu, .int k t] } }
  refine tail_any (ops := [.ref a, .ref s4.heap.objs.size]) ht.isList.typeIs (PySem.slot_list_getitem.lookup) ?_ (by with_unfolding_all rfl)
  refine wpAny_getItem_list_slice ht.isList (Heap.IsSliceOf.new _ vl vu (.int k t)) pl pu (.int k t) (fun e => hk (Option.some.inj e)) ?_ (by rw [List.size_toArray]; omega)
  have ep : slicePick its.toArray l u (some k) = ((sliceRange (sliceBounds l u (some k) xs.length).1 (sliceBounds l u (some k) xs.length).2.1 (sliceBounds l u (some k) xs.length).2.2).filterMap (its[·]?)).toArray := by
    unfold slicePick
    rw [List.size_toArray, ← hlen]
    simp only [List.getElem?_toArray]
  rw [ep]
  refine ⟨.ref _, _, I5.laid (t' := s4.toks) (o := .lst (pickV xs l u k)) (fun b ob q => Heap.get?_push_of_some _ q) (Nat.le_refl _) ?_, rfl, q _ (I5.hok.fresh (Nat.le_refl _))⟩
  exact ⟨hz2, _, 0, vals_pick r _, Heap.get?_push_size _ rfl⟩
/-! xs[::2], xs[1::2] -/
def ev {α : Type} : List α → List α
  | [] => []
  | [x] => [x]
  | x :: _ :: r => x :: ev r
def od {α : Type} : List α → List α
  | [] => []
  | [_] => []
  | _ :: y :: r => y :: od r
theorem ev_get {α : Type} : ∀ (xs : List α) (k : Nat), (ev xs)[k]? = xs[2 * k]?
  | [], _ => by simp [ev]
  | [x], 0 => rfl
  | [x], k + 1 => by
    show ([x] : List α)[k + 1]? = ([x] : List α)[2 * (k + 1)]?
    rw [List.getElem?_eq_none (by simp), List.getElem?_eq_none (by simp; omega)]
  | x :: y :: r, 0 => rfl
  | x :: y :: r, k + 1 => by
    show (ev r)[k]? = (x :: y :: r)[2 * (k + 1)]?
    rw [ev_get r k, show 2 * (k + 1) = 2 * k + 1 + 1 by omega, List.getElem?_cons_succ, List.getElem?_cons_succ]
theorem od_get {α : Type} : ∀ (xs : List α) (k : Nat), (od xs)[k]? = xs[2 * k + 1]?
  | [], _ => by simp [od]
  | [x], k => by
    show ([] : List α)[k]? = ([x] : List α)[2 * k + 1]?
    rw [List.getElem?_eq_none (by simp), List.getElem?_eq_none (by simp)]
  | x :: y :: r, 0 => rfl
  | x :: y :: r, k + 1 => by
    show (od r)[k]? = (x :: y :: r)[2 * (k + 1) + 1]?
    rw [od_get r k, show 2 * (k + 1) + 1 = 2 * k + 1 + 1 + 1 by omega, List.getElem?_cons_succ, List.getElem?_cons_succ]
theorem range_fm {α : Type} (L : List α) : ∀ c : Nat, (List.range c).filterMap (L[·]?) = L.take c
  | 0 => by simp
  | c + 1 => by
    rw [List.range_succ, List.filterMap_append, range_fm L c, List.take_add_one]
    cases h : L[c]? with
    | none => rw [List.filterMap_cons_none h]; rfl
    | some x => rw [List.filterMap_cons_some h]; rfl
theorem ev_len {α : Type} : ∀ xs : List α, (ev xs).length = (xs.length + 1) / 2
  | [] => by simp [ev]
  | [_] => by simp [ev]
  | _ :: _ :: r => by
    show (ev r).length + 1 = (r.length + 1 + 1 + 1) / 2
    rw [ev_len r]
    omega
theorem od_len {α : Type} : ∀ xs : List α, (od xs).length = xs.length / 2
  | [] => by simp [od]
  | [_] => by simp [od]
  | _ :: _ :: r => by
    show (od r).length + 1 = (r.length + 1 + 1) / 2
    rw [od_len r]
    omega
theorem fm_map {α β γ : Type} (f : α → β) (g : β → Option γ) (l : List α) : (l.map f).filterMap g = l.filterMap (fun x => g (f x)) := List.filterMap_map
theorem pick_ev (xs : List V) : pickV xs none none 2 = ev xs := by
  have e : sliceRange (sliceBounds none none (some 2) xs.length).1 (sliceBounds none none (some 2) xs.length).2.1 (sliceBounds none none (some 2) xs.length).2.2 = (List.range ((xs.length + 1) / 2)).map (fun k => 2 * k) := by
    show (List.range (if (2 : Int) > 0 then (if (0 : Int) < (xs.length : Int) then ((xs.length : Int) - 0 + 2 - 1) / 2 else 0) else _).toNat).map (fun (k : Nat) => ((0 : Int) + 2 * (k : Int)).toNat) = _
    rw [if_pos (by decide)]
    have : (if (0 : Int) < (xs.length : Int) then ((xs.length : Int) - 0 + 2 - 1) / 2 else 0).toNat = (xs.length + 1) / 2 := by
      split <;> omega
    rw [this]
    refine List.map_congr_left fun k _ => ?_
    omega
  unfold pickV
  rw [e, fm_map]
  have e2 : (fun k => xs[2 * k]?) = (fun k => (ev xs)[k]?) := funext fun k => (ev_get xs k).symm
  show (List.range ((xs.length + 1) / 2)).filterMap (fun k => xs[2 * k]?) = ev xs
  rw [e2, range_fm, ← ev_len, List.take_length]
theorem pick_od (xs : List V) : pickV xs (some 1) none 2 = od xs := by
  have e : sliceRange (sliceBounds (some 1) none (some 2) xs.length).1 (sliceBounds (some 1) none (some 2) xs.length).2.1 (sliceBounds (some 1) none (some 2) xs.length).2.2 = (List.range (xs.length / 2)).map (fun k => (2 * k + (max 0 (min 1 (xs.length : Int))).toNat)) := by
    show (List.range (if (2 : Int) > 0 then (if (max 0 (min 1 (xs.length : Int))) < (xs.length : Int) then ((xs.length : Int) - (max 0 (min 1 (xs.length : Int))) + 2 - 1) / 2 else 0) else _).toNat).map (fun (k : Nat) => ((max 0 (min 1 (xs.length : Int))) + 2 * (k : Int)).toNat) = _
    rw [if_pos (by decide)]
    have : (if (max 0 (min 1 (xs.length : Int))) < (xs.length : Int) then ((xs.length : Int) - (max 0 (min 1 (xs.length : Int))) + 2 - 1) / 2 else 0).toNat = xs.length / 2 := by
      split <;> omega
    rw [this]
    refine List.map_congr_left fun k _ => ?_
    omega
  unfold pickV
  rw [e, fm_map]
  by_cases h : xs.length = 0
  · rw [h]
    have : xs = [] := List.length_eq_zero_iff.mp h
    rw [this]; rfl
  · have e2 : (fun k => xs[2 * k + (max 0 (min 1 (xs.length : Int))).toNat]?) = (fun k => (od xs)[k]?) := funext fun k => by
      rw [show (max 0 (min 1 (xs.length : Int))).toNat = 1 by omega]
      exact (od_get xs k).symm
    show (List.range (xs.length / 2)).filterMap (fun k => xs[2 * k + (max 0 (min 1 (xs.length : Int))).toNat]?) = od xs
    rw [e2, range_fm, ← od_len, List.take_length]
theorem ev_map {α β : Type} (f : α → β) : ∀ xs : List α, ev (xs.map f) = (ev xs).map f
  | [] => rfl
  | [_] => rfl
  | x :: _ :: r => congrArg (f x :: ·) (ev_map f r)
theorem od_map {α β : Type} (f : α → β) : ∀ xs : List α, od (xs.map f) = (od xs).map f
  | [] => rfl
  | [_] => rfl
  | _ :: y :: r => congrArg (f y :: ·) (od_map f r)
/-- 256 times the sum of the even ones, and the odd ones -/
def ws (xs : List Int) : Int := 256 * (ev xs).sum + (od xs).sum
theorem ev_snoc {α : Type} (x : α) : ∀ xs : List α, ev (xs ++ [x]) = if xs.length % 2 = 0 then ev xs ++ [x] else ev xs
  | [] => rfl
  | [a] => rfl
  | a :: b :: r => by
    show a :: ev (r ++ [x]) = if (r.length + 1 + 1) % 2 = 0 then a :: ev r ++ [x] else a :: ev r
    rw [ev_snoc x r]
    by_cases h : r.length % 2 = 0
    · rw [if_pos h, if_pos (by omega)]; rfl
    · rw [if_neg h, if_neg (by omega)]
theorem od_snoc {α : Type} (x : α) : ∀ xs : List α, od (xs ++ [x]) = if xs.length % 2 = 0 then od xs else od xs ++ [x]
  | [] => rfl
  | [a] => rfl
  | a :: b :: r => by
    show b :: od (r ++ [x]) = if (r.length + 1 + 1) % 2 = 0 then b :: od r else b :: od r ++ [x]
    rw [od_snoc x r]
    by_cases h : r.length % 2 = 0
    · rw [if_pos h, if_pos (by omega)]
    · rw [if_neg h, if_neg (by omega)]; rfl
theorem ws_snoc (xs : List Int) (x : Int) : ws (xs ++ [x]) = ws xs + (if xs.length % 2 = 0 then 256 else 1) * x := by
  unfold ws
  rw [ev_snoc, od_snoc]
  by_cases h : xs.length % 2 = 0
  · rw [if_pos h, if_pos h, if_pos h, List.sum_append, List.sum_singleton]
    omega
  · rw [if_neg h, if_neg h, if_neg h, List.sum_append, List.sum_singleton]
    omega
theorem ws_take {xs : List Int} {i : Nat} {x : Int} (h : xs[i]? = some x) : ws (xs.take (i + 1)) = ws (xs.take i) + (if i % 2 = 0 then 256 else 1) * x := by
  obtain ⟨hl, _⟩ := List.getElem?_eq_some_iff.mp h
  rw [List.take_add_one, h]
  show ws (xs.take i ++ [x]) = _
  rw [ws_snoc, List.length_take, Nat.min_eq_left (Nat.le_of_lt hl)]
/-- one item changed -/
theorem ws_set : ∀ (xs : List Int) (j : Nat) (x y : Int), xs[j]? = some x → ws (xs.set j y) = ws xs + (if j % 2 = 0 then 256 else 1) * (y - x)
  | [], j, _, _, h => by cases h
  | [a], 0, x, y, h => by
    have e : a = x := Option.some.inj h
    subst e
    show 256 * ([y] : List Int).sum + 0 = 256 * ([a] : List Int).sum + 0 + 256 * (y - a)
    rw [List.sum_singleton, List.sum_singleton]
    omega
  | [a], j + 1, _, _, h => by simp at h
  | a :: b :: r, 0, x, y, h => by
    have e : a = x := Option.some.inj h
    subst e
    show 256 * (y :: ev r).sum + (b :: od r).sum = 256 * (a :: ev r).sum + (b :: od r).sum + 256 * (y - a)
    rw [List.sum_cons, List.sum_cons, List.sum_cons]
    omega
  | a :: b :: r, 1, x, y, h => by
    have e : b = x := Option.some.inj h
    subst e
    show 256 * (a :: ev r).sum + (y :: od r).sum = 256 * (a :: ev r).sum + (b :: od r).sum + 1 * (y - b)
    rw [List.sum_cons, List.sum_cons, List.sum_cons]
    omega
  | a :: b :: r, j + 2, x, y, h => by
    have ih := ws_set r j x y h
    unfold ws at ih
    show 256 * (a :: ev (r.set j y)).sum + (b :: od (r.set j y)).sum = 256 * (a :: ev r).sum + (b :: od r).sum + (if (j + 2) % 2 = 0 then 256 else 1) * (y - x)
    rw [List.sum_cons, List.sum_cons, List.sum_cons, List.sum_cons, show (j + 2) % 2 = j % 2 by omega]
    omega

/-! ### list(zip(a, b)), two lists -/
section
open PySem.W
abbrev ZipO (h : Heap) (z TI TO T : Addr) (f : Bool) : Prop :=
  h.get? z = some { cls := .type "zip", dict := none, data := .fields #[rawInt T, .bool f, .bool false, .ref TI, .ref TO], slots := #[] }
variable {prog : Program} {w : World} {A : Around} {E : Value → Shared → Prop} {s : Shared}
theorem zip_out_free {z TI TO T : Addr} {f : Bool} {oT : Obj} {Q : Bool → Shared → Prop} (hz : ZipO s.heap z TI TO T f) (hT : s.heap.get? T = some oT)
    (h : ∀ h', ZipO h' z TI TO T true → Heap.SameBut z s.heap h' → Q false { s with heap := h' }) : wpAny (model prog w) A (Builtin.SmallTypes.ownedTupleIsFree (.ref z)) Q E s := by
  unfold Builtin.SmallTypes.ownedTupleIsFree
  refine wpAny_bind (wpAny_field hz rfl (x := rawInt T) rfl ?_)
  show wpAny _ _ (loadIfAlive ((T : Int).toNat) >>= _) _ _ _
  rw [Int.toNat_natCast]
  refine wpAny_bind (kdx_alive hT ?_)
  simp only [Option.isNone_some, Bool.false_eq_true, if_false]
  refine wpAny_bind (wpAny_field hz rfl (x := .bool f) rfl ?_)
  cases f with
  | true =>
    rw [if_neg (show ¬ ((Value.bool true != Value.bool true) = true) from Bool.false_ne_true)]
    exact wpAny_pure (h _ hz (Heap.SameBut.refl _ _))
  | false =>
    rw [if_pos (show (Value.bool false != Value.bool true) = true from rfl)]
    refine wpAny_bind (wpAny_setField_rec hz (by simp) fun h₃ he₃ hs₃ => ?_)
    exact wpAny_pure (h _ he₃ hs₃)
theorem zip_out_item {z TI TO T i1 i2 l1 l2 : Addr} {f : Bool} {oT : Obj} {k1 k2 : Nat} {xs ys : Array Value} {x y : Value} {Q : Option Value → Shared → Prop} (D : ZipApart z TI TO i1 i2 l1 l2)
    (hz : ZipO s.heap z TI TO T f) (hT : s.heap.get? T = some oT) (hTI : IsPair s.heap TI (.ref i1) (.ref i2))
    (h1 : s.heap.IsListIter i1 l1 k1) (h2 : s.heap.IsListIter i2 l2 k2) (hl1 : s.heap.IsList l1 xs) (hl2 : s.heap.IsList l2 ys) (hx : xs[k1]? = some x) (hy : ys[k2]? = some y)
    (hQ : ∀ h', ZipO h' z TI TO T true → h'.IsListIter i1 l1 (k1 + 1) → h'.IsListIter i2 l2 (k2 + 1) → IsPair h' s.heap.objs.size x y → h'.objs.size = s.heap.objs.size + 1 →
      (∀ c o, c ≠ z → c ≠ i1 → c ≠ i2 → s.heap.get? c = some o → h'.get? c = some o) → Q (some (.ref s.heap.objs.size)) { s with heap := h' }) :
    wpAny (model prog w) A (pyNext (.ref z)) Q E s := by
  have hTy : s.TypeIs (.ref z) "zip" := ⟨_, hz, rfl⟩
  unfold pyNext
  refine wpAny_bind (wpAny_attempt (wpAny_callSpecial?_slot (name := Str.ofString "__next__") hTy PySem.F.slot_zip_next
    (wpAny_call_entry PySem.F.slot_zip_next hTy PySem.F.entry_zip_next ?_ (PySem.F.args_zip_next_1 _))))
  show wpAny _ _ (field (.ref z) 2 >>= _) _ _ _
  refine wpAny_bind (wpAny_field hz rfl (x := .bool false) rfl ?_)
  show wpAny _ _ (field (.ref z) 3 >>= _) _ _ _
  refine wpAny_bind (wpAny_field hz rfl (x := .ref TI) rfl ?_)
  refine wpAny_bind (wpAny_seqItems hTI rfl ?_)
  refine wpAny_bind (zip_out_free hz hT fun h₁ hz₁ hs₁ => ?_)
  simp only [Bool.false_eq_true, if_false, ← Array.forIn_toList, List.forIn_cons, List.forIn_nil]
  have hTI₁ : IsPair h₁ TI (.ref i1) (.ref i2) := hs₁.extBut _ _ D.TIz hTI
  refine wpAny_bind (wpAny_bind (wpAny_bind (wpAny_holding ?_)))
  show wpAny _ _ (Builtin.SmallTypes.nextOf (.ref i1) >>= _) _ _ _
  refine wpAny_bind (wpAny_nextOf_list_item (h1.extBut hs₁.extBut D.i1z) (hl1.extBut hs₁.extBut D.l1z) hx fun h₂ h1₂ hs₂ => wpAny_pure (wpAny_pure ?_))
  refine wpAny_bind (wpAny_bind (wpAny_holding ?_))
  show wpAny _ _ (Builtin.SmallTypes.nextOf (.ref i2) >>= _) _ _ _
  refine wpAny_bind (wpAny_nextOf_list_item ((h2.extBut hs₁.extBut D.i2z).extBut hs₂.extBut D.i12.symm) ((hl2.extBut hs₁.extBut D.l2z).extBut hs₂.extBut D.l2i1) hy fun h₃ h2₃ hs₃ => wpAny_pure (wpAny_pure (wpAny_pure ?_)))
  have hsz : h₃.objs.size = s.heap.objs.size := by rw [hs₃.1, hs₂.1, hs₁.1]
  have hz₃ : ZipO h₃ z TI TO T true := hs₃.extBut _ _ D.i2z.symm (hs₂.extBut _ _ D.i1z.symm hz₁)
  have hk₃ : ∀ c o, c ≠ z → c ≠ i1 → c ≠ i2 → s.heap.get? c = some o → h₃.get? c = some o := fun c o c1 c3 c4 e =>
    hs₃.extBut _ _ c4 (hs₂.extBut _ _ c3 (hs₁.extBut _ _ c1 e))
  have h1₃ : h₃.IsListIter i1 l1 (k1 + 1) := h1₂.extBut hs₃.extBut D.i12
  show wpAny _ _ (newTuple [x, y] >>= _) _ _ _
  refine wpAny_bind (wpAny_newTuple ?_)
  refine wpAny_pure ⟨_, rfl, wpAny_pure ?_⟩
  show Q (some (.ref h₃.objs.size)) _
  rw [hsz]
  have hT₄ : IsPair (h₃.push { cls := .type "tuple", data := .seq #[x, y] }) h₃.objs.size x y := Heap.get?_push_size _ rfl
  rw [hsz] at hT₄
  exact hQ _ (Heap.get?_push_of_some _ hz₃) (h1₃.at fun o e => Heap.get?_push_of_some _ e) (h2₃.at fun o e => Heap.get?_push_of_some _ e) hT₄ (by rw [Heap.size_push, hsz]) fun c o c1 c3 c4 e => Heap.get?_push_of_some _ (hk₃ c o c1 c3 c4 e)
theorem zip_out_end {z TI TO T i1 i2 l1 l2 : Addr} {f : Bool} {oT : Obj} {k1 : Nat} {xs : Array Value} {Q : Option Value → Shared → Prop} (hh : A.handled = none) (D : ZipApart z TI TO i1 i2 l1 l2)
    (hz : ZipO s.heap z TI TO T f) (hT : s.heap.get? T = some oT) (hTI : IsPair s.heap TI (.ref i1) (.ref i2))
    (h1 : s.heap.IsListIter i1 l1 k1) (hl1 : s.heap.IsList l1 xs) (hx : xs[k1]? = none)
    (hQ : ∀ h', (∀ c o, c ≠ z → c ≠ i1 → s.heap.get? c = some o → h'.get? c = some o) → Q none { s with heap := h' }) :
    wpAny (model prog w) A (pyNext (.ref z)) Q E s := by
  have hTy : s.TypeIs (.ref z) "zip" := ⟨_, hz, rfl⟩
  unfold pyNext
  refine wpAny_bind (wpAny_attempt (wpAny_callSpecial?_slot (name := Str.ofString "__next__") hTy PySem.F.slot_zip_next
    (wpAny_call_entry PySem.F.slot_zip_next hTy PySem.F.entry_zip_next ?_ (PySem.F.args_zip_next_1 _))))
  show wpAny _ _ (field (.ref z) 2 >>= _) _ _ _
  refine wpAny_bind (wpAny_field hz rfl (x := .bool false) rfl ?_)
  show wpAny _ _ (field (.ref z) 3 >>= _) _ _ _
  refine wpAny_bind (wpAny_field hz rfl (x := .ref TI) rfl ?_)
  refine wpAny_bind (wpAny_seqItems hTI rfl ?_)
  refine wpAny_bind (zip_out_free hz hT fun h₁ hz₁ hs₁ => ?_)
  simp only [Bool.false_eq_true, if_false, ← Array.forIn_toList, List.forIn_cons, List.forIn_nil]
  refine wpAny_bind (wpAny_bind (wpAny_bind (wpAny_holding ?_)))
  show wpAny _ _ (Builtin.SmallTypes.nextOf (.ref i1) >>= _) _ _ _
  refine wpAny_bind (wpAny_nextOf_list_end hh (h1.extBut hs₁.extBut D.i1z) (hl1.extBut hs₁.extBut D.l1z) hx fun h₂ e hs₂ he => ?_)
  obtain ⟨oe, ho, hc⟩ := he
  refine wpAny_bind (wpAny_isInstance (T := "StopIteration") (b := true) ⟨oe, ho, hc⟩ isSubtype_stop ?_)
  exact wpAny_pure (hQ _ fun c o c1 c3 x => hs₂ _ _ c3 (hs₁.extBut _ _ c1 x))
/-- where a zip stands whose tuples are kept in the list S -/
def LzSt (h : Heap) (z TI TO S : Addr) (i : Nat) : Prop :=
  (i = 0 ∧ IsZip h z TI TO .none) ∨ ∃ T f oT, ZipO h z TI TO T f ∧ h.get? T = some oT ∧ T ≠ z ∧ T ≠ S
structure LzG (xs ys : List Value) (lo : Addr) (h : Heap) (as : List Addr) : Prop where
  rise : as.Pairwise (· < ·)
  above : ∀ a ∈ as, lo < a
  pairs : ∀ (j : Nat) (a : Addr), as[j]? = some a → ∃ x y, xs[j]? = some x ∧ ys[j]? = some y ∧ h.get? a = some { cls := .type "tuple", data := .seq #[x, y] }
theorem LzG.there {xs ys : List Value} {lo : Addr} {h : Heap} {as : List Addr} (g : LzG xs ys lo h as) {a : Addr} (ha : a ∈ as) : a < h.objs.size := by
  obtain ⟨j, hj⟩ := List.mem_iff_getElem?.mp ha
  obtain ⟨_, _, _, _, e⟩ := g.pairs j a hj
  exact Heap.lt_size e
theorem lz_item {z TI TO S i1 i2 l1 l2 : Addr} {i : Nat} {xs ys : List Value} {x y : Value} {Q : Option Value → Shared → Prop} (D : ZipApart z TI TO i1 i2 l1 l2) (hst : LzSt s.heap z TI TO S i) (hS : S < s.heap.objs.size)
    (hTI : IsPair s.heap TI (.ref i1) (.ref i2)) (hTO : ∃ a b, IsPair s.heap TO a b) (h1 : s.heap.IsListIter i1 l1 i) (h2 : s.heap.IsListIter i2 l2 i) (hl1 : s.heap.IsList l1 xs.toArray) (hl2 : s.heap.IsList l2 ys.toArray) (hx : xs[i]? = some x) (hy : ys[i]? = some y)
    (hQ : ∀ h', LzSt h' z TI TO S (i + 1) → (∃ a b, IsPair h' TO a b) → h'.IsListIter i1 l1 (i + 1) → h'.IsListIter i2 l2 (i + 1) → IsPair h' s.heap.objs.size x y → h'.objs.size = s.heap.objs.size + 1 →
      (∀ c o, c ≠ z → c ≠ TO → c ≠ i1 → c ≠ i2 → s.heap.get? c = some o → h'.get? c = some o) → Q (some (.ref s.heap.objs.size)) { s with heap := h' }) :
    wpAny (model prog w) A (pyNext (.ref z)) Q E s := by
  obtain ⟨a, b, hTO⟩ := hTO
  rcases hst with ⟨rfl, hz⟩ | ⟨T, f, oT, hz, hT, n1, n2⟩
  · refine wpAny_pyNext_zip_item D hz hTI hTO h1 h2 hl1 hl2 (by simpa using hx) (by simpa using hy) fun h' hz' hTO' h1' h2' hn hsz hk => ?_
    exact hQ h' (.inr ⟨_, false, _, hz', hn, Nat.ne_of_gt (Heap.lt_size hz), Nat.ne_of_gt hS⟩) ⟨_, _, hTO'⟩ h1' h2' hn hsz hk
  · refine zip_out_item D hz hT hTI h1 h2 hl1 hl2 (by simpa using hx) (by simpa using hy) fun h' hz' h1' h2' hn hsz hk => ?_
    have hT' : ∃ oT, h'.get? T = some oT := by
      by_cases c1 : T = i1
      · subst c1; obtain ⟨o, e, _⟩ := h1'; exact ⟨o, e⟩
      · by_cases c2 : T = i2
        · subst c2; obtain ⟨o, e, _⟩ := h2'; exact ⟨o, e⟩
        · exact ⟨oT, hk T oT n1 c1 c2 hT⟩
    obtain ⟨oT', hT'⟩ := hT'
    exact hQ h' (.inr ⟨T, true, oT', hz', hT', n1, n2⟩) ⟨a, b, hk _ _ D.TOz D.TOi1 D.TOi2 hTO⟩ h1' h2' hn hsz fun c o c1 _ c3 c4 e => hk c o c1 c3 c4 e
theorem lz_end {z TI TO S i1 i2 l1 l2 : Addr} {i : Nat} {xs ys : List Value} {Q : Option Value → Shared → Prop} (hh : A.handled = none) (D : ZipApart z TI TO i1 i2 l1 l2) (hst : LzSt s.heap z TI TO S i)
    (hTI : IsPair s.heap TI (.ref i1) (.ref i2)) (hTO : ∃ a b, IsPair s.heap TO a b) (h1 : s.heap.IsListIter i1 l1 i) (h2 : s.heap.IsListIter i2 l2 i) (hl1 : s.heap.IsList l1 xs.toArray) (hl2 : s.heap.IsList l2 ys.toArray) (hx : xs[i]? = none)
    (hQ : ∀ h', (∀ c o, c ≠ z → c ≠ TO → c ≠ i1 → c ≠ i2 → s.heap.get? c = some o → h'.get? c = some o) → Q none { s with heap := h' }) :
    wpAny (model prog w) A (pyNext (.ref z)) Q E s := by
  obtain ⟨a, b, hTO⟩ := hTO
  rcases hst with ⟨rfl, hz⟩ | ⟨T, f, oT, hz, hT, n1, n2⟩
  · exact wpAny_pyNext_zip_end hh D hz hTI hTO h1 h2 hl1 hl2 (.inl (by simpa using hx)) hQ
  · exact zip_out_end hh D hz hT hTI h1 hl1 (by simpa using hx) fun h' hk => hQ h' fun c o c1 _ c3 _ e => hk c o c1 c3 e
/-- the loop of list.extend over it -/
theorem lz_loop {z TI TO S i1 i2 l1 l2 : Addr} {xs ys : List Value} {R : Result → Shared → Prop} (hh : A.handled = none) (D : ZipApart z TI TO i1 i2 l1 l2) (hSz : z < S) (hSTI : TI < S) (hSTO : TO < S) (hS1 : i1 < S) (hS2 : i2 < S) (hSl1 : l1 ≠ S) (hSl2 : l2 ≠ S) (hxy : xs.length = ys.length) (hn : xs.length ≤ sizeLine) (res : Value) {h₁ : Heap}
    (hR : ∀ h' tk acc c as, (∀ b o, b ≠ S → b ≠ z → b ≠ TO → b ≠ i1 → b ≠ i2 → h₁.get? b = some o → h'.get? b = some o) → h'.get? S = some { cls := .type "list", dict := none, data := .seq acc c, slots := #[] } → as.length = xs.length → LzG xs ys S h' as →
      acc.toList = as.map Value.ref → R (.ok (.ret res)) { s with heap := h', toks := tk }) :
    ∀ (k i : Nat) (h : Heap) (tk c : Nat) (acc : Array Value) (as : List Addr), xs.length - i = k → i ≤ xs.length → LzSt h z TI TO S i → IsPair h TI (.ref i1) (.ref i2) → (∃ a b, IsPair h TO a b) → h.IsListIter i1 l1 i → h.IsListIter i2 l2 i → h.IsList l1 xs.toArray → h.IsList l2 ys.toArray → (∀ b o, b ≠ S → b ≠ z → b ≠ TO → b ≠ i1 → b ≠ i2 → h₁.get? b = some o → h.get? b = some o) →
      h.get? S = some { cls := .type "list", dict := none, data := .seq acc c, slots := #[] } → acc.toList = as.map Value.ref → as.length = i → LzG xs ys S h as →
      codeAny (model prog w) A (.builtin "list.extend.loop" ⟨[.ref S, .ref z, res], []⟩) R { s with heap := h, toks := tk } := by
  intro k
  induction k with
  | zero =>
    intro i h tk c acc as hk hi hst hTI hTO h1 h2 hl1 hl2 hkeep hS hacc hal hG
    have hin : i = xs.length := by omega
    refine codeAny_builtin PySem.F.entry_extend_loop ?_
    rw [Around.under_plainId PySem.F.plain_extend_loop _]
    show wpAny _ A.in1 (pyNext (.ref z) >>= _) _ _ _
    refine wpAny_bind (lz_end (s := { s with heap := h, toks := tk }) (A := A.in1) (S := S) hh D hst hTI hTO h1 h2 hl1 hl2 (List.getElem?_eq_none (by omega)) fun h' he => ?_)
    refine wpAny_pure (hR h' tk acc c as (fun b o h0 h1 h2 h3 h4 e => he b o h1 h2 h3 h4 (hkeep b o h0 h1 h2 h3 h4 e)) (he S _ (Nat.ne_of_gt hSz) (Nat.ne_of_gt hSTO) (Nat.ne_of_gt hS1) (Nat.ne_of_gt hS2) hS) (by omega) ⟨hG.rise, hG.above, fun j a hj => ?_⟩ hacc)
    obtain ⟨x, y, e1, e2, e3⟩ := hG.pairs j a hj
    have ha := hG.above a (List.mem_of_getElem? hj)
    have gt : ∀ {c : Addr}, c < S → S < a → a ≠ c := fun h1 h2 => Nat.ne_of_gt (Nat.lt_trans h1 h2)
    exact ⟨x, y, e1, e2, he a _ (gt hSz ha) (gt hSTO ha) (gt hS1 ha) (gt hS2 ha) e3⟩
  | succ k ih =>
    intro i h tk c acc as hk hi hst hTI hTO h1 h2 hl1 hl2 hkeep hS hacc hal hG
    have hlt : i < xs.length := by omega
    obtain ⟨x, hx⟩ : ∃ p, xs[i]? = some p := ⟨xs[i], List.getElem?_eq_getElem hlt⟩
    obtain ⟨y, hy⟩ : ∃ p, ys[i]? = some p := ⟨ys[i]'(by omega), List.getElem?_eq_getElem (by omega)⟩
    have hsz : acc.size = i := by rw [← Array.length_toList, hacc, List.length_map, hal]
    refine codeAny_builtin PySem.F.entry_extend_loop ?_
    rw [Around.under_plainId PySem.F.plain_extend_loop _]
    show wpAny _ A.in1 (pyNext (.ref z) >>= _) _ _ _
    refine wpAny_bind (lz_item (s := { s with heap := h, toks := tk }) (S := S) D hst (Heap.lt_size hS) hTI hTO h1 h2 hl1 hl2 hx hy fun h' hst' hTO' h1' h2' ht hz hkp => ?_)
    dsimp only at ht hz hkp ⊢
    have hS' := hkp S _ (Nat.ne_of_gt hSz) (Nat.ne_of_gt hSTO) (Nat.ne_of_gt hS1) (Nat.ne_of_gt hS2) hS
    have up : ∀ b o, b ≠ S → h'.get? b = some o → (h'.update S (Obj.mapSeq (·.push (Value.ref h.objs.size)))).get? b = some o := fun b o hb e => (Heap.get?_update_other _ _ (Ne.symm hb)).trans e
    have hSl : S < h.objs.size := Heap.lt_size hS
    show wpAny _ A.in1 (updateSeq S (·.push (Value.ref h.objs.size)) >>= _) _ _ _
    refine wpAny_bind ?_
    have g : ∀ {b : Addr}, b < S → b ≠ S := fun h => Nat.ne_of_lt h
    refine wpAny_updateSeq hS' rfl (wpAny_pure ⟨plainId_quiet PySem.F.plain_extend_loop _, ih (i + 1) _ tk _ (acc.push (Value.ref h.objs.size)) (as ++ [h.objs.size]) (by omega) hlt ?st (up _ _ (g hSTI) (hkp _ _ D.TIz D.TITO D.TIi1 D.TIi2 hTI)) ?to (h1'.at fun o e => up _ o (g hS1) e) (h2'.at fun o e => up _ o (g hS2) e)
      (hl1.at fun o e => up _ o hSl1 (hkp _ o D.l1z D.l1TO D.l1i1 D.l1i2 e)) (hl2.at fun o e => up _ o hSl2 (hkp _ o D.l2z D.l2TO D.l2i1 D.l2i2 e))
      (fun b o h0 h1 h2 h3 h4 e => up b o h0 (hkp b o h1 h2 h3 h4 (hkeep b o h0 h1 h2 h3 h4 e))) (Heap.get?_update_self _ hS' rfl) (by rw [Array.toList_push, hacc, List.map_append]; rfl) (by rw [List.length_append, hal]; rfl) ⟨?_, ?_, ?_⟩⟩) (by rw [hsz]; omega) (by show (acc.push (Value.ref h.objs.size)).size ≤ sizeLine + 1; rw [Array.size_push, hsz]; omega)
    case st =>
      rcases hst' with ⟨z0, _⟩ | ⟨T, f, oT, z1, z2, z3, z4⟩
      · omega
      · exact .inr ⟨T, f, oT, up _ _ (g hSz) z1, up _ _ z4 z2, z3, z4⟩
    case to =>
      obtain ⟨a, b, e⟩ := hTO'
      exact ⟨a, b, up _ _ (g hSTO) e⟩
    · refine List.pairwise_append.mpr ⟨hG.rise, List.pairwise_singleton _ _, fun a ha b hb => ?_⟩
      rw [List.mem_singleton.mp hb]
      exact hG.there ha
    · intro a ha
      rcases List.mem_append.mp ha with ha | ha
      · exact hG.above a ha
      · rw [List.mem_singleton.mp ha]; exact hSl
    · intro j b hj
      rcases Nat.lt_trichotomy j as.length with c1 | c1 | c1
      · rw [List.getElem?_append_left c1] at hj
        obtain ⟨x', y', e1, e2, e3⟩ := hG.pairs j b hj
        have hb := hG.above b (List.mem_of_getElem? hj)
        have gt : ∀ {c : Addr}, c < S → S < b → b ≠ c := fun h1 h2 => Nat.ne_of_gt (Nat.lt_trans h1 h2)
        exact ⟨x', y', e1, e2, up b _ (Nat.ne_of_gt hb) (hkp b _ (gt hSz hb) (gt hSTO hb) (gt hS1 hb) (gt hS2 hb) e3)⟩
      · subst c1
        have hb : h.objs.size = b := by simpa using hj
        subst hb
        exact ⟨x, y, by rw [hal]; exact hx, by rw [hal]; exact hy, up _ _ (Nat.ne_of_gt hSl) ht⟩
      · have hnone : (as ++ [h.objs.size])[j]? = none := List.getElem?_eq_none (by rw [List.length_append, List.length_singleton]; omega)
        rw [hnone] at hj; cases hj
end
theorem no_len_zip : typeLookup (.type "zip") "__len__" = pure none := by rw [typeLookup_type, builtinLookup_eq_fast]; kernel_rfl
theorem no_hint_zip : typeLookup (.type "zip") "__length_hint__" = pure none := by rw [typeLookup_type, builtinLookup_eq_fast]; kernel_rfl
section
variable {prog : Program} {w : World} {A : Around} {E : Value → Shared → Prop} {s : Shared}
theorem lz_call {z TI TO i1 i2 l1 l2 : Addr} {xs ys : List Value} {Q : Value → Shared → Prop} (hh : A.handled = none) (D : ZipApart z TI TO i1 i2 l1 l2) (hz : IsZip s.heap z TI TO .none) (hTI : IsPair s.heap TI (.ref i1) (.ref i2)) (hTO : ∃ a b, IsPair s.heap TO a b)
    (h1 : s.heap.IsListIter i1 l1 0) (h2 : s.heap.IsListIter i2 l2 0) (hl1 : s.heap.IsList l1 xs.toArray) (hl2 : s.heap.IsList l2 ys.toArray) (hxy : xs.length = ys.length) (hn : xs.length ≤ sizeLine)
    (hQ : ∀ h' tk acc c as, (∀ b o, b ≠ z → b ≠ TO → b ≠ i1 → b ≠ i2 → s.heap.get? b = some o → h'.get? b = some o) → h'.get? s.heap.objs.size = some { cls := .type "list", dict := none, data := .seq acc c, slots := #[] } → as.length = xs.length → LzG xs ys s.heap.objs.size h' as →
      acc.toList = as.map Value.ref → Q (.ref s.heap.objs.size) { s with heap := h', toks := tk }) :
    wpAny (model prog w) A (call (.type "list") [.ref z]) Q E s := by
  have lz : z < s.heap.objs.size := Heap.lt_size hz
  have lTI : TI < s.heap.objs.size := Heap.lt_size hTI
  have lTO : TO < s.heap.objs.size := by obtain ⟨a, b, e⟩ := hTO; exact Heap.lt_size e
  have li1 : i1 < s.heap.objs.size := by obtain ⟨o, e, _⟩ := id h1; exact Heap.lt_size e
  have li2 : i2 < s.heap.objs.size := by obtain ⟨o, e, _⟩ := id h2; exact Heap.lt_size e
  have ll1 : l1 < s.heap.objs.size := by obtain ⟨o, e, _⟩ := id hl1; exact Heap.lt_size e
  have ll2 : l2 < s.heap.objs.size := by obtain ⟨o, e, _⟩ := id hl2; exact Heap.lt_size e
  refine callType_codes (Q₁ := fun obj s₁ => obj = .ref s.heap.objs.size ∧ s₁ = { s with heap := s.heap.push { cls := .type "list", data := .seq #[] } }) PySem.F.called_list (PySem.F.typeCall_list_1 _) PySem.F.entry_list_init
    (code_list_new _ ⟨rfl, rfl⟩) fun obj s₁ h₁ => ?_
  obtain ⟨rfl, rfl⟩ := h₁
  have hS : (s.heap.push { cls := .type "list", data := .seq #[] }).get? s.heap.objs.size = some { cls := .type "list", data := .seq #[] } := Heap.get?_push_size _ rfl
  refine ⟨⟨_, hS, rfl⟩, PySem.F.args_list_init_2 _ _, ?_⟩
  show wpAny _ A.in1.in1 (do let old ← Builtin.List.listItems (.ref s.heap.objs.size); Builtin.List.listUpdate (.ref s.heap.objs.size) (fun _ => #[]); letGo old.toList.reverse; Builtin.List.listExtendWith (.ref s.heap.objs.size) (.ref z) .none) _ _ _
  refine wpAny_bind ?_
  unfold Builtin.List.listItems
  refine wpAny_bind (wpAny_seqItems hS rfl (wpAny_pure ?_))
  show wpAny _ A.in1.in1 (updateSeq s.heap.objs.size (fun _ => #[]) >>= fun _ => letGo (#[] : Array Value).toList.reverse >>= fun _ => Builtin.List.listExtendWith (.ref s.heap.objs.size) (.ref z) .none) _ _ _
  refine wpAny_bind (wpAny_updateSeq hS rfl ?_)
  have hS2 := Heap.get?_update_self (Obj.mapSeq (fun _ => (#[] : Array Value))) hS rfl
  refine wpAny_bind (wpAny_letGo ?_)
  unfold Builtin.List.listExtendWith
  have up : ∀ (h : Heap) (f : Obj → Obj), (∀ b o, s.heap.get? b = some o → h.get? b = some o) → ∀ b o, s.heap.get? b = some o → (h.update s.heap.objs.size f).get? b = some o := fun h f q b o e =>
    (Heap.get?_update_other _ _ (Ne.symm (Nat.ne_of_lt (Heap.lt_size e)))).trans (q b o e)
  have k1 : ∀ b o, s.heap.get? b = some o → (s.heap.push { cls := .type "list", data := .seq #[] }).get? b = some o := fun b o e => Heap.get?_push_of_some _ e
  have k2 := up _ (Obj.mapSeq (fun _ => (#[] : Array Value))) k1
  have zt : ∀ {h : Heap}, (∀ b o, s.heap.get? b = some o → h.get? b = some o) → ∃ o, h.get? z = some o ∧ o.cls = .type "zip" := fun {h} q => ⟨_, q _ _ hz, rfl⟩
  refine wpAny_bind (wpAny_typeOf (T := "zip") (zt k2) ?_)
  have e1 : Builtin.List.listSameRef (.ref s.heap.objs.size) (.ref z) = false := by simp [Builtin.List.listSameRef, Nat.ne_of_gt lz]
  have e2 : (Value.type "zip" == Value.type "list") = false := by decide
  have e3 : (Value.type "zip" == Value.type "tuple") = false := by decide
  simp only [e1, e2, e3, Bool.or_false, Bool.false_eq_true, if_false]
  refine wpAny_bind (wpAny_pyIter_zip (k2 _ _ hz) ?_)
  refine wpAny_bind (wpAny_holding ?_)
  unfold Builtin.List.listLengthHint
  refine wpAny_bind (wpAny_specialOf (T := "zip") (zt k2) no_len_zip ?_)
  show wpAny _ A.in1.in1 (specialOf (Value.ref z) (Str.ofString "__length_hint__") >>= _) _ _ _
  refine wpAny_bind (wpAny_specialOf (T := "zip") (zt k2) no_hint_zip ?_)
  refine wpAny_pure ?_
  show wpAny _ A.in1.in1 (rule "list.extend.makes-room" >>= fun _ => Builtin.List.listTouch (.ref s.heap.objs.size) >>= fun _ =>
    again (.builtin "list.extend.loop" ⟨[.ref s.heap.objs.size, .ref z, .none], []⟩)) _ _ _
  refine wpAny_bind (wpAny_rule ?_)
  refine wpAny_bind ?_
  show wpAny _ A.in1.in1 (updateSeq s.heap.objs.size (·.push .none) >>= fun _ => updateSeq s.heap.objs.size (·.pop)) _ _ _
  refine wpAny_bind (wpAny_updateSeq hS2 rfl ?_)
  have hS3 := Heap.get?_update_self (Obj.mapSeq (·.push Value.none)) hS2 rfl
  refine wpAny_updateSeq (hz := by seq_fits) hS3 rfl ?_
  have hS4 := Heap.get?_update_self (Obj.mapSeq (·.pop)) hS3 rfl
  have k4 := up _ (Obj.mapSeq (·.pop)) (up _ (Obj.mapSeq (·.push Value.none)) k2)
  refine wpAny_pure ⟨plainId_quiet PySem.F.plain_extend_loop _, ?_⟩
  refine lz_loop (A := A.in1) (h₁ := s.heap) (S := s.heap.objs.size) (xs := xs) (ys := ys) hh D lz lTI lTO li1 li2 (Nat.ne_of_lt ll1) (Nat.ne_of_lt ll2) hxy hn .none (fun h' tk acc c as q1 q2 q3 q4 q5 => ⟨rfl, hQ h' tk acc c as (fun b o h0 h1 h2 h3 e => q1 b o (Nat.ne_of_lt (Heap.lt_size e)) h0 h1 h2 h3 e) q2 q3 q4 q5⟩)
    xs.length 0 _ _ _ #[] [] rfl (Nat.zero_le _) (.inl ⟨rfl, k4 _ _ hz⟩) (k4 _ _ hTI) (let ⟨a, b, e⟩ := hTO; ⟨a, b, k4 _ _ e⟩) (h1.at fun o e => k4 _ o e) (h2.at fun o e => k4 _ o e) (hl1.at fun o e => k4 _ o e) (hl2.at fun o e => k4 _ o e)
    (fun b o _ _ _ _ _ e => k4 b o e) hS4 rfl rfl ⟨List.Pairwise.nil, (fun _ ha => nomatch ha), (fun j a hj => by simp at hj)⟩
end
/-- the tuples tracked at their addresses -/
def putP : Hp → List Addr → List (V × V) → Hp
  | H, a :: as, p :: ps => putP (upd H a (.tup [p.1, p.2])) as ps
  | H, _, _ => H
theorem putP_off {b : Addr} : ∀ (as : List Addr) (ps : List (V × V)) (H : Hp), b ∉ as → putP H as ps b = H b
  | [], _, _, _ => rfl
  | _ :: _, [], _, _ => rfl
  | a :: as, p :: ps, H, h => by
    show putP (upd H a (.tup [p.1, p.2])) as ps b = H b
    rw [putP_off as ps _ (fun z => h (List.mem_cons_of_mem _ z)), upd_ne (fun z => h (by rw [z]; exact List.mem_cons_self))]
theorem putP_at : ∀ (as : List Addr) (ps : List (V × V)) (H : Hp), as.length = ps.length → as.Nodup → ∀ (j : Nat) (a : Addr), as[j]? = some a → ∃ p, ps[j]? = some p ∧ putP H as ps a = some (.tup [p.1, p.2])
  | [], _, _, _, _, j, a, h => by simp at h
  | _ :: _, [], _, h, _, _, _, _ => by simp at h
  | a :: as, p :: ps, H, h, hn, 0, b, hj => by
    have e : a = b := by simpa using hj
    subst e
    refine ⟨p, rfl, ?_⟩
    show putP (upd H a (.tup [p.1, p.2])) as ps a = _
    rw [putP_off as ps _ (List.nodup_cons.mp hn).1, upd_same]
  | a :: as, p :: ps, H, h, hn, j + 1, b, hj => putP_at as ps (upd H a (.tup [p.1, p.2])) (Nat.succ.inj h) (List.nodup_cons.mp hn).2 j b (by simpa using hj)
section
variable {X : Cx}
theorem lz_laid {pins : List (Addr × Obj)} {σ : L2.St} {H : Hp} {s s' : Shared} {xs ys : List V} {us vs : List Value} {acc : Array Value} {c S : Nat} {as : List Addr} (I : Inv X pins σ H s) (es : s'.os = s.os ∧ s'.gens = s.gens) (hz : xs.length ≤ sizeLine) (hxy : xs.length = ys.length) (rx : Vals xs us) (ry : Vals ys vs)
    (hk : ∀ b o, s.heap.get? b = some o → s'.heap.get? b = some o) (hlo : s.heap.objs.size ≤ S) (hS : s'.heap.get? S = some { cls := .type "list", dict := none, data := .seq acc c, slots := #[] }) (hl : as.length = xs.length) (hG : LzG us vs S s'.heap as) (hacc : acc.toList = as.map Value.ref) :
    ∃ H' : Hp, Same H H' ∧ H S = none ∧ (∀ t ∈ as, H t = none) ∧ S ∉ as ∧ H' S = some (.lst (as.map V.ref)) ∧ (∀ (j : Nat) t, as[j]? = some t → ∃ p, (xs.zip ys)[j]? = some p ∧ H' t = some (.tup [p.1, p.2])) ∧ Inv X pins σ H' s' := by
  have hSn : S ∉ as := fun z => Nat.lt_irrefl _ (hG.above _ z)
  have nd : as.Nodup := List.Pairwise.imp (fun {a b} (h : a < b) => Nat.ne_of_lt h) hG.rise
  have new : ∀ t ∈ as, H t = none := fun t ht => I.hok.fresh (Nat.le_trans hlo (Nat.le_of_lt (hG.above t ht)))
  have newS : H S = none := I.hok.fresh hlo
  have lz : (xs.zip ys).length = as.length := by rw [List.length_zip]; omega
  have atP := putP_at as (xs.zip ys) (upd H S (.lst (as.map V.ref))) lz.symm nd
  have off : ∀ b, b ∉ as → b ≠ S → putP (upd H S (.lst (as.map V.ref))) as (xs.zip ys) b = H b := fun b h1 h2 => by rw [putP_off as _ _ h1, upd_ne h2]
  have low : ∀ b o, s.heap.get? b = some o → b ∉ as ∧ b ≠ S := fun b o e => ⟨fun z => absurd (Heap.lt_size e) (Nat.not_lt.mpr (Nat.le_trans hlo (Nat.le_of_lt (hG.above b z)))), Nat.ne_of_lt (Nat.lt_of_lt_of_le (Heap.lt_size e) hlo)⟩
  have kp : ∀ b u, H b = some u → (putP (upd H S (.lst (as.map V.ref))) as (xs.zip ys)) b = some u := fun b u e => by
    rw [off b (fun z => by rw [new b z] at e; cases e) (fun z => by rw [z, newS] at e; cases e)]
    exact e
  have eS : putP (upd H S (.lst (as.map V.ref))) as (xs.zip ys) S = some (.lst (as.map V.ref)) := by rw [putP_off as _ _ hSn, upd_same]
  refine ⟨putP (upd H S (.lst (as.map V.ref))) as (xs.zip ys), kp, newS, new, hSn, eS, atP, ?_⟩
  refine I.call' (ch := []) es.1 ⟨fun b o q _ _ _ => hk b o q, fun b o q _ _ _ => ⟨o.slots, hk b o q⟩, fun b o q n _ => ?_, fun b o q _ => ⟨o, hk b o q⟩, fun b xs q => kp b _ q, fun b o u q => kp b _ q, fun b ps q => ⟨#[], by rw [kp b _ q]; simp⟩⟩ (fun b u q => ?_) (by have z := I.bare; rw [← es.2] at z; exact z) fun b z => by simp at z
  · obtain ⟨z1, z2⟩ := low b o q
    rw [off b z1 z2]
    exact n
  · by_cases hb : b ∈ as
    · obtain ⟨j, hj⟩ := List.mem_iff_getElem?.mp hb
      obtain ⟨p, e1, e2⟩ := atP j b hj
      rw [e2] at q
      cases q
      obtain ⟨x, y, f1, f2, f3⟩ := hG.pairs j b hj
      rw [List.getElem?_zip_eq_some] at e1
      obtain ⟨x', g1, r1⟩ := rx.get e1.1
      obtain ⟨y', g2, r2⟩ := ry.get e1.2
      rw [f1] at g1
      rw [f2] at g2
      cases g1
      cases g2
      exact ⟨by show 2 ≤ sizeLine; decide, [x, y], .cons r1 (.cons r2 .nil), ⟨_, f3, rfl, _, rfl⟩⟩
    · by_cases hb2 : b = S
      · rw [hb2] at q ⊢
        rw [eS] at q
        cases q
        refine ⟨by rw [List.length_map]; omega, acc.toList, c, by rw [hacc]; exact LiI.vals_refs as, ?_⟩
        rw [Array.toArray_toList]
        exact hS
      · rw [off b hb hb2] at q
        exact (I.hok b u q).stay (fun d v _ y => hk d v y) (fun d y => kp d _ y) fun d xs y => kp d _ y
def rListZip (K : PySem.W.Frag) : List V → Hp → VK → Prop := fun vs H Q => ∃ a b xs ys, vs = [.ref a, .ref b] ∧ SqL K H a xs ∧ SqL K H b ys ∧ xs.length = ys.length ∧ xs.length ≤ sizeLine ∧
  ∀ (H' : Hp) (p : Addr) (ts : List Addr), Same H H' → H p = none → (∀ t ∈ ts, H t = none) → p ∉ ts → H' p = some (.lst (ts.map V.ref)) → ts.length = xs.length → (∀ (j : Nat) t, ts[j]? = some t → ∃ q, (xs.zip ys)[j]? = some q ∧ H' t = some (.tup [q.1, q.2])) → Q (.ref p) H'
def tListZip (K : PySem.W.Frag) (ta : TA) : TE := fun σ H Q => ta σ H fun vs H1 => rListZip K vs H1 Q
theorem pe_listZip {e e2 : Expr} {ta : TA} {p p2 pos pos2 : Pos} (hc : X.calm = true) (hg : Gl X "list") (hm : X.mg "list" = none) (hv : bootBuiltins "list" = some (.type "list")) (hg2 : Gl X "zip") (hm2 : X.mg "zip" = none) (ha : PA X [e, e2] ta)
    (hs : starEach [.Call (.Name "zip" p2) [e, e2] [] pos2] X.env = (false, eval (.Call (.Name "zip" p2) [e, e2] [] pos2) X.env) :: starEach [] X.env := by rfl)
    (hs2 : starEach [e, e2] X.env = (false, eval e X.env) :: starEach [e2] X.env := by rfl) (hpl : (backTo pos2 (starEach [e2] X.env)).any (·.1) = false := by rfl) :
    PE X (.Call (.Name "list" p) [.Call (.Name "zip" p2) [e, e2] [] pos2] [] pos) (tListZip X.K ta) := by
  refine ⟨fun pins s σ H Q I h => ?_⟩
  refine wpAny_Call_Name_kw (ld_blt I hg hm hv ?_)
  refine PyProof.Rows.callWith_type1 ?_ hs rfl
  rw [hs]
  show wpAny _ _ (spliced ((false, eval (.Call (.Name "zip" p2) [e, e2] [] pos2) X.env) :: backTo pos (starEach [] X.env))) _ _ s
  refine Calls.spliced_cons ?_
  refine PyProof.Rows.Call_ (ld_blt I hg2 hm2 PyProof.Rows.boot_zip (PyProof.Rows.callWith_type1 (thn (ha.run pos2 pins s σ H _ I h) fun us s1 ⟨vs, H1, I1, r1, q1⟩ => ?_) hs2 hpl))
  obtain ⟨a, b, xs, ys, ex, hqx, hqy, hxy, hn, q⟩ := q1
  subst ex
  cases r1 with
  | cons r rr =>
    cases rr with
    | cons r' rr =>
      cases rr
      cases r
      cases r'
      obtain ⟨its, rv, p1, _⟩ := I1.list hqx
      obtain ⟨its2, rv2, p2, _⟩ := I1.list hqy
      have n1 := rv.length
      have n2 := rv2.length
      refine call_zip_2 p1.isList p2.isList fun h' hz hTI hTO h1 h2 hsz hk => ?_
      have la := p1.lt
      have lb := p2.lt
      refine Calls.spliced_nil ?_
      refine lz_call (xs := its) (ys := its2) (I1.ok.hd hc) (PySem.W.ktu_apart s1.heap.objs.size a b la lb) hz hTI ⟨_, _, hTO⟩ h1 h2 (p1.isList.at fun o e => hk _ o e) (p2.isList.at fun o e => hk _ o e) (by omega) (by omega) fun h'' tk acc c as hk' hS hl hG hacc => ?_
      obtain ⟨H', k1, k2, k3, k4, k5, k6, J⟩ := lz_laid (s' := { s1 with heap := h'', toks := tk }) I1 ⟨rfl, rfl⟩ hn hxy rv rv2 (fun b o e => hk' b o (Nat.ne_of_lt (Nat.lt_of_lt_of_le (Heap.lt_size e) (Nat.le_add_right _ _))) (Nat.ne_of_lt (Nat.lt_of_lt_of_le (Heap.lt_size e) (Nat.le_add_right _ _))) (Nat.ne_of_lt (Heap.lt_size e)) (Nat.ne_of_lt (Nat.lt_of_lt_of_le (Heap.lt_size e) (Nat.le_add_right _ _))) (hk b o e)) (by show _ ≤ h'.objs.size; rw [hsz]; exact Nat.le_add_right _ _) hS (by rw [n1]; exact hl) hG hacc
      exact ⟨.ref _, H', J, rfl, q H' _ as k1 k2 k3 k4 k5 (by rw [hl, n1]) k6⟩
end
theorem g_listZip {K : PySem.W.Frag} {ta : TA} {σ : St} {H : Hp} {Q : VK} (h : ta σ H fun vs H1 => rListZip K vs H1 Q) : tListZip K ta σ H Q := h

structure Txt (P : Program) (K : PySem.W.Frag) (mg : Str → Option Value) where
  t_END : Tok
  t_FILLER : Tok
  t_MSS : Tok
  t_SCALE : Tok
  t_RANGES_KNOWN : Tok
  t_RANGES : Tok
  t_STAMP : Tok
  t_COUNT : Tok
  t_COUNT_MARK : Addr
  t_GREATEST_SCALE : Tok
  t_WRONG_OPTIONS : Tok
  t_BODY_LENGTHS : Addr
  de_BODY_LENGTHS : Array DictEntry
  dn_BODY_LENGTHS : Nat
  t_BODY_LENGTHS_2 : Addr
  t_BODY_LENGTHS_3 : Addr
  t_BODY_LENGTHS_4 : Addr
  t_BODY_LENGTHS_5 : Addr
  t_BODY_LENGTHS_8 : Addr
  t_BODY_LENGTHS_253 : Addr
  C_ThroughlineError : Addr
  C_InvalidOctets : Addr
  C_DamagedSegment : Addr
  f_DamagedSegment_init__ : Addr
  d_DamagedSegment_init__ : FuncData
  cda_DamagedSegment_init__ : Addr
  cc_DamagedSegment_init__ : Addr
  f_read_number : Addr
  d_read_number : FuncData
  f_read_options : Addr
  d_read_options : FuncData
  f_split : Addr
  d_split : FuncData
  f_option_size : Addr
  d_option_size : FuncData
  f_read_bodies : Addr
  d_read_bodies : FuncData
  f_is_known : Addr
  d_is_known : FuncData
  f_wire_numbers : Addr
  d_wire_numbers : FuncData
  f_l_is_integer : Addr
  d_l_is_integer : FuncData
  f_l_cell : Addr
  d_l_cell : FuncData
  f_l_row : Addr
  d_l_row : FuncData
  f_l_number : Addr
  d_l_number : FuncData
  f_l_pair : Addr
  d_l_pair : FuncData
  f_l_all_pairs : Addr
  d_l_all_pairs : FuncData
  f_l_value : Addr
  d_l_value : FuncData
  f_l_pair_of : Addr
  d_l_pair_of : FuncData
  f_l_body : Addr
  d_l_body : FuncData
  f_l_skipped : Addr
  d_l_skipped : FuncData
  f_l_values : Addr
  d_l_values : FuncData
  f_l_put : Addr
  d_l_put : FuncData
  f_l_items : Addr
  d_l_items : FuncData
  f_l_faulty : Addr
  d_l_faulty : FuncData
  f_l_raises : Addr
  d_l_raises : FuncData
  f_l_right : Addr
  d_l_right : FuncData
  f_law : Addr
  d_law : FuncData
  v_END : mg "END" = some (.int 0 t_END)
  v_FILLER : mg "FILLER" = some (.int 1 t_FILLER)
  v_MSS : mg "MSS" = some (.int 2 t_MSS)
  v_SCALE : mg "SCALE" = some (.int 3 t_SCALE)
  v_RANGES_KNOWN : mg "RANGES_KNOWN" = some (.int 4 t_RANGES_KNOWN)
  v_RANGES : mg "RANGES" = some (.int 5 t_RANGES)
  v_STAMP : mg "STAMP" = some (.int 8 t_STAMP)
  v_COUNT : mg "COUNT" = some (.int 253 t_COUNT)
  v_COUNT_MARK : mg "COUNT_MARK" = some (.ref t_COUNT_MARK)
  es_COUNT_MARK : ∀ H : Hp, SqT K H t_COUNT_MARK [.int 83, .int 85]
  v_GREATEST_SCALE : mg "GREATEST_SCALE" = some (.int 14 t_GREATEST_SCALE)
  v_WRONG_OPTIONS : mg "WRONG_OPTIONS" = some (.str (PySem.Str.ofString "wrong options") t_WRONG_OPTIONS)
  v_BODY_LENGTHS : mg "BODY_LENGTHS" = some (.ref t_BODY_LENGTHS)
  kd_BODY_LENGTHS : KDictI K t_BODY_LENGTHS de_BODY_LENGTHS dn_BODY_LENGTHS
  ik_BODY_LENGTHS_2 : ∃ u, fI de_BODY_LENGTHS 2 = some u ∧ RelV (.ref t_BODY_LENGTHS_2) u
  es_BODY_LENGTHS_2 : ∀ H : Hp, SqT K H t_BODY_LENGTHS_2 [.int 2]
  ik_BODY_LENGTHS_3 : ∃ u, fI de_BODY_LENGTHS 3 = some u ∧ RelV (.ref t_BODY_LENGTHS_3) u
  es_BODY_LENGTHS_3 : ∀ H : Hp, SqT K H t_BODY_LENGTHS_3 [.int 1]
  ik_BODY_LENGTHS_4 : ∃ u, fI de_BODY_LENGTHS 4 = some u ∧ RelV (.ref t_BODY_LENGTHS_4) u
  es_BODY_LENGTHS_4 : ∀ H : Hp, SqT K H t_BODY_LENGTHS_4 [.int 0]
  ik_BODY_LENGTHS_5 : ∃ u, fI de_BODY_LENGTHS 5 = some u ∧ RelV (.ref t_BODY_LENGTHS_5) u
  es_BODY_LENGTHS_5 : ∀ H : Hp, SqT K H t_BODY_LENGTHS_5 [.int 8, .int 16, .int 24, .int 32]
  ik_BODY_LENGTHS_8 : ∃ u, fI de_BODY_LENGTHS 8 = some u ∧ RelV (.ref t_BODY_LENGTHS_8) u
  es_BODY_LENGTHS_8 : ∀ H : Hp, SqT K H t_BODY_LENGTHS_8 [.int 8]
  ik_BODY_LENGTHS_253 : ∃ u, fI de_BODY_LENGTHS 253 = some u ∧ RelV (.ref t_BODY_LENGTHS_253) u
  es_BODY_LENGTHS_253 : ∀ H : Hp, SqT K H t_BODY_LENGTHS_253 [.int 6, .int 10]
  nk_BODY_LENGTHS : ∀ z : Int, z ∉ ([2, 3, 4, 5, 8, 253] : List Int) → fI de_BODY_LENGTHS z = none
  c_ThroughlineError : mg "ThroughlineError" = some (.ref C_ThroughlineError)
  c_InvalidOctets : mg "InvalidOctets" = some (.ref C_InvalidOctets)
  c_DamagedSegment : mg "DamagedSegment" = some (.ref C_DamagedSegment)
  xf_DamagedSegment : XfC K C_DamagedSegment
  n_DamagedSegment_reason : PySem.W.findIn K (.ref C_DamagedSegment) "reason" = some none
  be_DamagedSegment : PySem.W.subIn K (.ref C_DamagedSegment) (.type "BaseException") = some true
  te_DamagedSegment : PySem.W.typeIn K (.ref C_DamagedSegment) = some (.type "type")
  xc_DamagedSegment : ExcC K C_DamagedSegment
  em_DamagedSegment_ThroughlineError : PySem.W.exmOne K (.ref C_DamagedSegment) (.ref C_ThroughlineError) = some true
  ko_DamagedSegment_InvalidOctets : PySem.W.kitOne K (.ref C_DamagedSegment) (.ref C_InvalidOctets) = some false
  ko_DamagedSegment_DamagedSegment : PySem.W.kitOne K (.ref C_DamagedSegment) (.ref C_DamagedSegment) = some true
  ko_DamagedSegment_ValueError : PySem.W.kitOne K (.ref C_DamagedSegment) (.type "ValueError") = some true
  F_DamagedSegment_init__ : FunSX K P "__init__" "DamagedSegment.__init__" s_DamagedSegment_init__ f_DamagedSegment_init__ C_DamagedSegment cda_DamagedSegment_init__ cc_DamagedSegment_init__ d_DamagedSegment_init__
  b_DamagedSegment_init__ : Binds K d_DamagedSegment_init__ ["self", "reason"] []
  iC_DamagedSegment : PySem.W.findIn K (.ref C_DamagedSegment) "__init__" = some (some (.ref f_DamagedSegment_init__))
  tI_DamagedSegment : PySem.W.typeIn K (.ref f_DamagedSegment_init__) = some (.type "function")
  F_read_number : Fun K "read_number" "read_number" s_read_number f_read_number d_read_number
  b_read_number : Binds K d_read_number ["octets"] []
  m_read_number : mg "read_number" = some (.ref f_read_number)
  F_read_options : Fun K "read_options" "read_options" s_read_options f_read_options d_read_options
  b_read_options : Binds K d_read_options ["octets"] []
  m_read_options : mg "read_options" = some (.ref f_read_options)
  F_split : Fun K "_split" "_split" s_split f_split d_split
  b_split : Binds K d_split ["octets"] []
  m_split : mg "_split" = some (.ref f_split)
  F_option_size : Fun K "_option_size" "_option_size" s_option_size f_option_size d_option_size
  b_option_size : Binds K d_option_size ["octets", "at"] []
  m_option_size : mg "_option_size" = some (.ref f_option_size)
  F_read_bodies : Fun K "_read_bodies" "_read_bodies" s_read_bodies f_read_bodies d_read_bodies
  b_read_bodies : Binds K d_read_bodies ["options"] []
  m_read_bodies : mg "_read_bodies" = some (.ref f_read_bodies)
  F_is_known : Fun K "_is_known" "_is_known" s_is_known f_is_known d_is_known
  b_is_known : Binds K d_is_known ["kind", "body"] []
  m_is_known : mg "_is_known" = some (.ref f_is_known)
  F_wire_numbers : Fun K "_wire_numbers" "_wire_numbers" s_wire_numbers f_wire_numbers d_wire_numbers
  b_wire_numbers : Binds K d_wire_numbers ["octets"] []
  m_wire_numbers : mg "_wire_numbers" = some (.ref f_wire_numbers)
  F_l_is_integer : Fun K "_law_is_integer" "_law_is_integer" s_l_is_integer f_l_is_integer d_l_is_integer
  b_l_is_integer : Binds K d_l_is_integer ["actual"] []
  m_l_is_integer : mg "_law_is_integer" = some (.ref f_l_is_integer)
  F_l_cell : Fun K "_law_cell" "_law_cell" s_l_cell f_l_cell d_l_cell
  b_l_cell : Binds K d_l_cell ["script", "k"] []
  m_l_cell : mg "_law_cell" = some (.ref f_l_cell)
  F_l_row : Fun K "_law_row" "_law_row" s_l_row f_l_row d_l_row
  b_l_row : Binds K d_l_row ["cell", "size", "base"] []
  m_l_row : mg "_law_row" = some (.ref f_l_row)
  F_l_number : Fun K "_law_number" "_law_number" s_l_number f_l_number d_l_number
  b_l_number : Binds K d_l_number ["actual", "expected"] []
  m_l_number : mg "_law_number" = some (.ref f_l_number)
  F_l_pair : Fun K "_law_pair" "_law_pair" s_l_pair f_l_pair d_l_pair
  b_l_pair : Binds K d_l_pair ["actual", "expected"] []
  m_l_pair : mg "_law_pair" = some (.ref f_l_pair)
  F_l_all_pairs : Fun K "_law_all_pairs" "_law_all_pairs" s_l_all_pairs f_l_all_pairs d_l_all_pairs
  b_l_all_pairs : Binds K d_l_all_pairs ["actual", "expected"] []
  m_l_all_pairs : mg "_law_all_pairs" = some (.ref f_l_all_pairs)
  F_l_value : Fun K "_law_value" "_law_value" s_l_value f_l_value d_l_value
  b_l_value : Binds K d_l_value ["octets"] []
  m_l_value : mg "_law_value" = some (.ref f_l_value)
  F_l_pair_of : Fun K "_law_pair_of" "_law_pair_of" s_l_pair_of f_l_pair_of d_l_pair_of
  b_l_pair_of : Binds K d_l_pair_of ["octets"] []
  m_l_pair_of : mg "_law_pair_of" = some (.ref f_l_pair_of)
  F_l_body : Fun K "_law_body" "_law_body" s_l_body f_l_body d_l_body
  b_l_body : Binds K d_l_body ["kind", "cell"] []
  m_l_body : mg "_law_body" = some (.ref f_l_body)
  F_l_skipped : Fun K "_law_skipped" "_law_skipped" s_l_skipped f_l_skipped d_l_skipped
  b_l_skipped : Binds K d_l_skipped ["cell"] []
  m_l_skipped : mg "_law_skipped" = some (.ref f_l_skipped)
  F_l_values : Fun K "_law_values" "_law_values" s_l_values f_l_values d_l_values
  b_l_values : Binds K d_l_values ["bodies"] []
  m_l_values : mg "_law_values" = some (.ref f_l_values)
  F_l_put : Fun K "_law_put" "_law_put" s_l_put f_l_put d_l_put
  b_l_put : Binds K d_l_put ["items", "item", "cell"] []
  m_l_put : mg "_law_put" = some (.ref f_l_put)
  F_l_items : Fun K "_law_items" "_law_items" s_l_items f_l_items d_l_items
  b_l_items : Binds K d_l_items ["script", "bodies"] []
  m_l_items : mg "_law_items" = some (.ref f_l_items)
  F_l_faulty : Fun K "_law_faulty" "_law_faulty" s_l_faulty f_l_faulty d_l_faulty
  b_l_faulty : Binds K d_l_faulty ["items", "bodies", "fault", "cell"] []
  m_l_faulty : mg "_law_faulty" = some (.ref f_l_faulty)
  F_l_raises : Fun K "_law_raises" "_law_raises" s_l_raises f_l_raises d_l_raises
  b_l_raises : Binds K d_l_raises ["octets"] []
  m_l_raises : mg "_law_raises" = some (.ref f_l_raises)
  F_l_right : Fun K "_law_right" "_law_right" s_l_right f_l_right d_l_right
  b_l_right : Binds K d_l_right ["actual", "expected"] []
  m_l_right : mg "_law_right" = some (.ref f_l_right)
  F_law : Fun K "law" "law" s_law f_law d_law
  b_law : Binds K d_law ["script"] []
  m_law : mg "law" = some (.ref f_law)
  n_ValueError : mg "ValueError" = none
  n_abs : mg "abs" = none
  n_any : mg "any" = none
  n_bool : mg "bool" = none
  n_dict : mg "dict" = none
  n_int : mg "int" = none
  n_isinstance : mg "isinstance" = none
  n_len : mg "len" = none
  n_list : mg "list" = none
  n_min : mg "min" = none
  n_range : mg "range" = none
  n_str : mg "str" = none
  n_super : mg "super" = none
  n_tuple : mg "tuple" = none
  n_zip : mg "zip" = none


end My
namespace My
open PySem PySem.Spec L2
local macro_rules | `(tactic| walk_at "side") => `(tactic| first | assumption | decide | omega | exact ⟨by decide, by decide⟩ | exact ⟨by decide, by decide, by decide⟩ | decide +kernel | exact cdivW (by decide +kernel) (by decide +kernel) | exact Or.inl ⟨by omega, by omega⟩ | exact Or.inr ⟨by omega, by omega⟩ | (simp only [List.length_map, List.length_cons, List.length_nil, List.length_append]; omega))
local macro_rules | `(tactic| walk_at "fact") => `(tactic| first | assumption | omega | with_reducible rfl)
local macro_rules | `(tactic| walk_at "use") => `(tactic| fail "use")
local macro_rules | `(tactic| walk_at "go1") => `(tactic| with_reducible first | refine g_seq ?_ | refine g_asg ?_ | refine g_ret ?_ | refine g_ifS ?_ | refine g_drop ?_ | refine g_star ?_ | refine g_nx ?_ | refine g_rt ?_ | refine g_bkE ?_ | refine g_ctE ?_ | refine g_next ?_ | refine g_retN ?_ | refine g_brk ?_ | refine g_ct ?_ | refine g_c ?_ | refine g_op ?_ | refine g_un ?_ | refine g_rI0 ?_ | refine g_rU ?_ | refine g_rEqI ?_ | refine g_rNeI ?_ | refine g_isN ?_ | refine g_rIsB ?_ | refine g_rNotB ?_ | refine g_test ?_ | refine g_B ?_ | refine g_bl ?_ | refine g_and ?_ | refine g_or ?_ | refine g_not ?_ | refine g_andV ?_ | refine g_orV ?_ | refine g_notV ?_ | refine g_if ?_ | refine g_chain ?_ | refine g_yes ?_ | refine g_lc ?_ | refine g_revR ?_ | refine g_rng1 ?_ | refine g_iList ?_ | refine g_nil ?_ | refine g_cons ?_ | refine g_tup ?_ | refine g_lst ?_ | refine g_call ?_ | refine g_CB ?_ | refine g_sl ?_ | refine g_noPart ?_ | refine g_part ?_ | refine g_intE ?_ | refine g_ref ?_ | refine g_fld ?_ | refine g_sfld ?_ | refine g_meth ?_ | refine g_make ?_ | refine g_prop ?_  | refine g_ipI ?_ | refine g_int1 ?_ | refine g_int1B ?_ | refine g_one ?_ | refine g_two ?_ | refine g_isiI ?_ | refine g_isiIB ?_ | refine g_isiB ?_ | refine g_BM ?_ | refine g_BM0 ?_ | refine g_sub ?_)
local macro_rules | `(tactic| walk_at "go") => `(tactic| repeat (first | walk_at "go1" | ((with_reducible refine' g_nameE ?sd_ ?_); case sd_ => dsimp only [List.set_cons_succ, List.set_cons_zero]) | ((with_reducible refine' g_var ?sd_ ?_); case sd_ => exact rfl) | ((with_reducible refine' g_aug ?sd_ ?_); case sd_ => exact rfl) | ((with_reducible refine' g_rI ?sd_ ?_); case sd_ => walk_at "side") | ((with_reducible refine' g_dT ?sd_ ?_); case sd_ => walk_at "fact") | ((with_reducible refine' g_dF ?sd_ ?_); case sd_ => walk_at "fact") | ((with_reducible refine' g_nT ?sd_ ?_); case sd_ => walk_at "fact") | ((with_reducible refine' g_nF ?sd_ ?_); case sd_ => walk_at "fact") | (with_reducible refine g_iT rfl ?_) | (with_reducible refine g_iF rfl ?_) | walk_at "use"))
local macro_rules | `(tactic| walk_at "nw") => `(tactic| (generalize zq : upd _ _ _ = Hq; have sq : Same _ Hq := (by rw [← zq]; exact same_upd (by assumption)); have kq := (congrFun zq _).symm.trans upd_same; clear zq))
local macro_rules | `(tactic| walk_at "bt") => `(tactic| (generalize zq : upd _ _ _ = Hq; have bq : But _ _ Hq := (by rw [← zq]; exact But.refl.upd); have kq := (congrFun zq _).symm.trans upd_same; clear zq))

section
variable {P : Program} {w : World} {K : PySem.W.Frag} {mg : Str → Option Value} {base : Heap}
/-! ### exceptions -/
section
variable {X : Cx} {K : PySem.W.Frag} {σ : St} {H : Hp} {Q : VK} {W : WX} {D : Ends} {C : Addr} {ta : TE} {t : St → Hp → XK → Prop}
def tRaise (t : St → Hp → XK → Prop) (W : WX) : TS := fun _ σ H => t σ H fun cls d H' => W cls d σ H'
theorem ps_rs {e : Expr} {pos : Pos} (hc : X.calm = true) (tk : Takes X W) (he : PMk X e t) : PS X (.Raise (some e) none pos) (tRaise t W) := ps_raise hc tk he
def tMk0 (C : Addr) : St → Hp → XK → Prop := fun _ H Q => Q (.ref C) none H
def tMk1 (C : Addr) (ta : TE) : St → Hp → XK → Prop := fun σ H Q => ta σ H fun _ H1 => Q (.ref C) none H1
theorem pmk_0 {x m : Str} {j : Nat} {p p2 pos : Pos} {bmB : List Value} {B newId initId : String} (F : ExcBaseFacts B newId initId bmB) (q : PySem.W.excIn X.K C bmB newId = true) (gC : X.mg x = some (.ref C)) (kC : PySem.W.keepIn X.K (.ref C) = true) (r : Raises X (.ref C)) (hg : Gl X x)
    (hdb : (x == ("__debug__" : Str)) = false := by decide) : PMk X (.Call (.Name x p) [.Constant (.str m) j p2] [] pos) (tMk0 C) := pmk_own F q gC kC r hg hdb
theorem pmk_1 {x : Str} {e : Expr} {p pos : Pos} {bmB : List Value} {B newId initId : String} (F : ExcBaseFacts B newId initId bmB) (q : PySem.W.excIn X.K C bmB newId = true) (gC : X.mg x = some (.ref C)) (kC : PySem.W.keepIn X.K (.ref C) = true) (r : Raises X (.ref C)) (hg : Gl X x)
    (he : PE X e ta) (hs : starEach [e] X.env = (false, eval e X.env) :: starEach [] X.env := by rfl) (hdb : (x == ("__debug__" : Str)) = false := by decide) : PMk X (.Call (.Name x p) [e] [] pos) (tMk1 C ta) := SkE.pmk_own1 F q gC kC r hg he hs hdb
theorem g_rs0 (q : W (.ref C) none σ H) : tRaise (tMk0 C) W D σ H := q
theorem g_rs1 (h : ta σ H fun _ H1 => W (.ref C) none σ H1) : tRaise (tMk1 C ta) W D σ H := h
def tTryA (K : PySem.W.Frag) (c : Value) (i : Nat) (tb : WX → TS) (ts : Addr → Value → Option Addr → TS) (Wout : WX) : TS := fun D σ H => tb (wAs K c i ts Wout D) D σ H
def tTryO (K : PySem.W.Frag) (c : Value) (tb : WX → TS) (ts : Addr → Value → Option Addr → TS) (Wout : WX) : TS := fun D σ H => tb (wOnly K c ts Wout D) D σ H
theorem ps_tryA {x n : Str} {c : Value} {i : Nat} {body suite : List Stmt} {b₀ : Stmt} {np pos pos' : Pos} {tb : WX → TS} {ts : Addr → Value → Option Addr → TS} {Wout : WX} (hs : X.stack = X.env :: X.outer) (hf : X.env.frame = some X.env.locals) (hN : X.N.Nodup) (hi : X.N[i]? = some n) (hln : X.env.kindOf n = some .local) (hc : Names X x c) (tk : Takes X Wout)
    (hb : ∀ (W : WX) (pn : List (Addr × Obj)) (xe : Value → Shared → Prop), Takes (X.tr pn xe) W → PassesOwn (model X.prog X.w) X.A X.env xe → PSs (X.tr pn xe) body (tb W))
    (hsu : ∀ (a : Addr) (oe : Obj) (cls : Value) (d : Option Addr) (pn : List (Addr × Obj)), Zc cls d oe → (∃ vs, oe.data = .fields vs) → PSs (X.suite a ((a, oe) :: pn)) (b₀ :: suite) (ts a cls d)) :
    PS X (.Try body [.ExceptHandler (some (.Name x np)) (some n) (b₀ :: suite) pos'] [] [] pos) (tTryA X.K c i tb ts Wout) := ps_try_as hs hf hN hi hln hc tk hb hsu
theorem ps_tryO {x : Str} {c : Value} {body suite : List Stmt} {b₀ : Stmt} {np pos pos' : Pos} {tb : WX → TS} {ts : Addr → Value → Option Addr → TS} {Wout : WX} (hs : X.stack = X.env :: X.outer) (hf : X.env.frame = some X.env.locals) (hc : Names X x c) (tk : Takes X Wout)
    (hb : ∀ (W : WX) (pn : List (Addr × Obj)) (xe : Value → Shared → Prop), Takes (X.tr pn xe) W → PassesOwn (model X.prog X.w) X.A X.env xe → PSs (X.tr pn xe) body (tb W))
    (hsu : ∀ (a : Addr) (oe : Obj) (cls : Value) (d : Option Addr) (pn : List (Addr × Obj)), Zc cls d oe → (∃ vs, oe.data = .fields vs) → PSs (X.suite a ((a, oe) :: pn)) (b₀ :: suite) (ts a cls d)) :
    PS X (.Try body [.ExceptHandler (some (.Name x np)) none (b₀ :: suite) pos'] [] [] pos) (tTryO X.K c tb ts Wout) := ps_try_only hs hf hc tk hb hsu
variable {c cls : Value} {d : Option Addr} {i : Nat} {tb : WX → TS} {ts : Addr → Value → Option Addr → TS} {Wout : WX}
theorem g_tryA (h : tb (wAs K c i ts Wout D) D σ H) : tTryA K c i tb ts Wout D σ H := h
theorem g_tryO (h : tb (wOnly K c ts Wout D) D σ H) : tTryO K c tb ts Wout D σ H := h
theorem g_caught (e : PySem.W.exmOne K cls c = some true) (h : ∀ a, H a = none → ts a cls d { nx := fun σ' H' => D.nx (σ'.set i none) H', rt := D.rt, bk := fun σ' H' => D.bk (σ'.set i none) H', ct := fun σ' H' => D.ct (σ'.set i none) H' } (σ.set i (some (.ref a))) H) :
    wAs K c i ts Wout D cls d σ H := ⟨true, e, fun _ => h, fun z => nomatch z⟩
theorem g_caughtO (e : PySem.W.exmOne K cls c = some true) (h : ∀ a, H a = none → ts a cls d D σ H) : wOnly K c ts Wout D cls d σ H := ⟨true, e, fun _ => h, fun z => nomatch z⟩
theorem g_callS {sp : Sp} {E : St → XK} {t : TA} (h : t σ H fun vs H1 => sp vs H1 Q (E σ)) : tCallS sp E t σ H Q := h
/-- isinstance(e, c), e the exception that the suite holds, of a class known later -/
def rIsE2 (K : PySem.W.Frag) (a : Addr) (cls : Value) (d : Option Addr) : List V → Hp → VK → Prop := fun xs H Q => ∃ (D : Addr) (c : V) (cv : Value) (b : Bool), cls = .ref D ∧ d = none ∧ ExcC K D ∧ xs = [.ref a, c] ∧ (∀ u, RelV c u → u = cv) ∧ PySem.W.kitOne K (.ref D) cv = some b ∧ Q (.bl b) H
theorem call_isE2 {a : Addr} {oe : Obj} {pn : List (Addr × Obj)} (hz : Zc cls d oe) (hf : ∃ vs, oe.data = .fields vs) : CallR (X.suite a ((a, oe) :: pn)) (.builtin "isinstance") (rIsE2 X.K a cls d) := by
  intro pins s σ H xs us Q I r h
  obtain ⟨D, c, cv, b, rfl, rfl, C, e1, hcv, e, q⟩ := h
  exact call_isE C hz hf pins s σ H xs us Q I r ⟨c, cv, b, e1, hcv, e, q⟩
theorem g_isER {R B a : Addr} {b : Bool} (C : ExcC K R) (e : PySem.W.kitOne K (.ref R) (.ref B) = some b) (q : Q (.bl b) H) : rIsE2 K a (.ref R) none [.ref a, .ref B] H Q := ⟨R, _, _, b, rfl, rfl, C, rfl, fun u r => by cases r; rfl, e, q⟩
theorem g_isET {R a : Addr} {T : String} {b : Bool} (C : ExcC K R) (e : PySem.W.kitOne K (.ref R) (.type T) = some b) (q : Q (.bl b) H) : rIsE2 K a (.ref R) none [.ref a, .ty T] H Q := ⟨R, _, _, b, rfl, rfl, C, rfl, fun u r => by cases r; rfl, e, q⟩
/-! f-strings -/
def tJoined (ts : List TE) : TE := fun σ H Q => tJs ts Str.empty σ H fun out H1 => Q (.str out) H1
theorem pe_joinedJ {v1 v2 : Expr} {rest : List Expr} {ts : List TE} {pos : Pos} (h : PJ X (v1 :: v2 :: rest) ts) : PE X (.JoinedStr (v1 :: v2 :: rest) pos) (tJoined ts) := pe_joined h
theorem g_joined {ts : List TE} (h : tJs ts Str.empty σ H fun out H1 => Q (.str out) H1) : tJoined ts σ H Q := h
theorem g_jsnil {acc : Str} {A : Str → Hp → Prop} (q : A acc H) : tJs [] acc σ H A := q
theorem g_jscons {acc : Str} {A : Str → Hp → Prop} {t : TE} {ts : List TE} (h : t σ H fun x H1 => ∃ y : Str, x = .str y ∧ (acc ++ y).length ≤ sizeLine ∧ tJs ts (acc ++ y) σ H1 A) : tJs (t :: ts) acc σ H A := h
theorem g_jsE {acc y : Str} {A : Str → Prop} (h1 : (acc ++ y).length ≤ sizeLine) (q : A y) : ∃ y' : Str, V.str y = .str y' ∧ (acc ++ y').length ≤ sizeLine ∧ A y' := ⟨y, rfl, h1, q⟩
def rAddS : R2 := fun x y H Q => ∃ i j : Str, x = .str i ∧ y = .str j ∧ i.length + j.length ≤ sizeLine ∧ Q (.str (i ++ j)) H
theorem op_addS : OpR X (binaryOp .Add) rAddS := op_add_str
theorem g_addS {y z : Str} (h : y.length + z.length ≤ 16777216) (q : Q (.str (y ++ z)) H) : rAddS (.str y) (.str z) H Q := ⟨y, z, rfl, rfl, by rw [sizeLine_eq]; exact h, q⟩
theorem g_slS {y : Str} {lo hi : Option Int} (h : y.length ≤ 16777216) (q : Q (.str (cutS y lo hi)) H) : rSlS (.str y) lo hi H Q := ⟨y, rfl, by rw [sizeLine_eq]; exact h, q⟩
theorem g_m0 {r : V → List V → Hp → VK → Prop} {to : TE} (h : to σ H fun x H1 => (∃ a, x = V.str a) ∧ r x [] H1 Q) : tM0 r to σ H Q := h
theorem g_fmtS {y : Str} {A : Str → Prop} {B : Int → Prop} (h : y.length ≤ sizeLine) (q : A y) : (∃ y' : Str, V.str y = .str y' ∧ y'.length ≤ sizeLine ∧ A y') ∨ ∃ i : Int, V.str y = .int i ∧ i.natAbs.log2 < 1920 ∧ B i := .inl ⟨y, rfl, h, q⟩
theorem g_fmtI {j : Int} {A : Str → Prop} {B : Int → Prop} (h : j.natAbs.log2 < 1920) (q : B j) : (∃ y' : Str, V.int j = .str y' ∧ y'.length ≤ sizeLine ∧ A y') ∨ ∃ i : Int, V.int j = .int i ∧ i.natAbs.log2 < 1920 ∧ B i := .inr ⟨j, rfl, h, q⟩
theorem g_fmt (h : ta σ H fun x H1 => (∃ y : Str, x = .str y ∧ y.length ≤ sizeLine ∧ Q (.str y) H1) ∨ ∃ i : Int, x = .int i ∧ i.natAbs.log2 < 1920 ∧ Q (.str (toString i)) H1) : tFmt ta σ H Q := h
end
theorem kit_refT {K : PySem.W.Frag} {t : Value} {C : Addr} (a : PySem.W.isClsIn K C = true) (b : PySem.W.typeIn K (.ref C) = some (.type "type")) (c : PySem.W.subIn K t (.ref C) = some true) : PySem.W.kitOne K t (.ref C) = some true := by
  unfold PySem.W.isClsIn at a
  unfold PySem.W.kitOne
  by_cases z : (t == Value.ref C) = true
  · rw [if_pos z]
  · rw [if_neg z]
    show (if ((PySem.W.clsIn K C).isSome && PySem.W.typeIn K (.ref C) == some (.type "type")) = true then PySem.W.subIn K t (.ref C) else none) = some true
    rw [a, b, if_pos (by rw [Bool.true_and]; exact beq_self_eq_true _)]
    exact c
theorem kit_refF {K : PySem.W.Frag} {R C : Addr} (a : PySem.W.isClsIn K C = true) (b : PySem.W.typeIn K (.ref C) = some (.type "type")) (c : PySem.W.subIn K (.ref R) (.ref C) = some false) (r : PySem.W.subIn K (.ref R) (.ref R) = some true) : PySem.W.kitOne K (.ref R) (.ref C) = some false := by
  unfold PySem.W.isClsIn at a
  unfold PySem.W.kitOne
  by_cases z : (Value.ref R == Value.ref C) = true
  · have e : Value.ref R = Value.ref C := beq_iff_eq.mp z
    injection e with e
    subst e
    rw [c] at r
    cases r
  · rw [if_neg z]
    show (if ((PySem.W.clsIn K C).isSome && PySem.W.typeIn K (.ref C) == some (.type "type")) = true then PySem.W.subIn K (.ref R) (.ref C) else none) = some false
    rw [a, b, if_pos (by rw [Bool.true_and]; exact beq_self_eq_true _)]
    exact c
theorem kit_tyT {K : PySem.W.Frag} {R : Addr} {T : String} {b : Bool} (a : PySem.W.kitMeta T = true) (c : PySem.W.subIn K (.ref R) (.type T) = some b) : PySem.W.kitOne K (.ref R) (.type T) = some b := by
  unfold PySem.W.kitOne
  rw [if_neg (by show ¬ (Value.ref R == Value.type T) = true; exact fun h => by cases (beq_iff_eq.mp h))]
  show (if PySem.W.kitMeta T = true then PySem.W.subIn K (.ref R) (.type T) else none) = some b
  rw [if_pos a]
  exact c
/-! a written dict with texts as keys -/
theorem ns_entry {K : PySem.W.Frag} {a : Addr} {c : Value} {d : Option Addr} {es : Array DictEntry} {n : Nat} {sl : Array (Option Value)} {x : Str} {u : Value} (h : K.lookup a = some ⟨c, d, .dict es n, sl⟩) (e : (es.toList.find? (·.key.isStr x)).map (·.val) = some u) : PySem.W.nsIn K a x = some (some u) := by
  unfold PySem.W.nsIn
  rw [h]
  dsimp only
  cases q : es.toList.find? (·.key.isStr x) with
  | none => rw [q] at e; cases e
  | some z => rw [q] at e; injection e with e; rw [← e]
theorem fit2 {a b : Str} (h : a.length + b.length ≤ 16777216) : (a ++ b).length ≤ sizeLine := by
  rw [PySem.Str.length_append, sizeLine_eq]
  exact h
theorem log_lt {n : Nat} (h : n < 2 ^ 64) : n.log2 < 1920 := by
  by_cases z : n = 0
  · subst z; decide
  · exact Nat.lt_trans (Nat.log2_lt z |>.mpr h) (by decide)
theorem itext {i : Int} (h : i.natAbs < 2 ^ 64) : (Str.ofString (toString i)).length ≤ 1921 := PyProof.Rows.int_text_len_1921 (log_lt h)
def keyS (e : DictEntry) : Option Str := match e.key with | .str s _ => some s | _ => none
theorem find_keys : ∀ {l : List DictEntry} {ks : List Str} {z : Str}, l.map keyS = ks.map some → z ∉ ks → l.find? (·.key.isStr z) = none ∧ l.any (·.refKey) = false
  | [], _, _, _, _ => ⟨rfl, rfl⟩
  | e :: l, [], _, h, _ => by cases h
  | e :: l, k :: ks, z, h, hz => by
    simp only [List.map_cons, List.cons.injEq] at h
    obtain ⟨i1, i2⟩ := find_keys (l := l) (ks := ks) (z := z) h.2 fun m => hz (List.mem_cons_of_mem _ m)
    have h1 := h.1
    unfold keyS at h1
    obtain ⟨hs, key, val⟩ := e
    dsimp only at h1 ⊢
    cases key with
    | str s t =>
      injection h1 with h1
      subst h1
      have ne : (s == z) = false := by
        rw [beq_eq_false_iff_ne]
        intro e
        exact hz (e ▸ List.mem_cons_self ..)
      refine ⟨?_, ?_⟩
      · rw [List.find?_cons]
        show (match (s == z) with | true => _ | false => _) = none
        rw [ne]
        exact i1
      · rw [List.any_cons, i2, Bool.or_false]
        rfl
    | _ => cases h1
theorem ns_out {K : PySem.W.Frag} {a : Addr} {c : Value} {d : Option Addr} {es : Array DictEntry} {n : Nat} {sl : Array (Option Value)} {z : Str} {ks : List Str} (h : K.lookup a = some ⟨c, d, .dict es n, sl⟩) (e : es.toList.map keyS = ks.map some) (hz : z ∉ ks) : PySem.W.nsIn K a z = some none := by
  obtain ⟨i1, i2⟩ := find_keys e hz
  unfold PySem.W.nsIn
  rw [h]
  dsimp only
  rw [i1]
  dsimp only
  rw [i2]
  rfl
section
variable {K : PySem.W.Frag} {H : Hp} {Q : VK}
def rInK (K : PySem.W.Frag) (d : Addr) : R2 := fun x y H Q => ∃ (z : Str) (r : Option Value), x = .str z ∧ y = .ref d ∧ PySem.W.nsIn K d z = some r ∧ Q (.bl r.isSome) H
def rNotInK (K : PySem.W.Frag) (d : Addr) : R2 := fun x y H Q => ∃ (z : Str) (r : Option Value), x = .str z ∧ y = .ref d ∧ PySem.W.nsIn K d z = some r ∧ Q (.bl (!r.isSome)) H
theorem op_inK {X : Cx} {d : Addr} {es : Array DictEntry} {n : Nat} (D : KDict X.K X.w d es n) : OpR X (compareOp .In) (rInK X.K d) := op_in_kd D
theorem op_notInK {X : Cx} {d : Addr} {es : Array DictEntry} {n : Nat} (D : KDict X.K X.w d es n) : OpR X (compareOp .NotIn) (rNotInK X.K d) := op_notIn_kd D
theorem g_inK {d : Addr} {z : Str} {u : Value} (e : PySem.W.nsIn K d z = some (some u)) (q : Q (.bl true) H) : rInK K d (.str z) (.ref d) H Q := ⟨z, _, rfl, rfl, e, q⟩
theorem g_inKn {d : Addr} {z : Str} (e : PySem.W.nsIn K d z = some none) (q : Q (.bl false) H) : rInK K d (.str z) (.ref d) H Q := ⟨z, _, rfl, rfl, e, q⟩
theorem g_notInK {d : Addr} {z : Str} {u : Value} (e : PySem.W.nsIn K d z = some (some u)) (q : Q (.bl false) H) : rNotInK K d (.str z) (.ref d) H Q := ⟨z, _, rfl, rfl, e, q⟩
theorem g_notInKn {d : Addr} {z : Str} (e : PySem.W.nsIn K d z = some none) (q : Q (.bl true) H) : rNotInK K d (.str z) (.ref d) H Q := ⟨z, _, rfl, rfl, e, q⟩
theorem g_ixK {w : World} {d : Addr} {z : Str} {u : Value} {v : V} {es : Array DictEntry} {n : Nat} (D : KDict K w d es n) (e : PySem.W.nsIn K d z = some (some u)) (r : RelV v u) (q : Q v H) : rIxD K w (.ref d) (.str z) H Q := ⟨d, z, v, rfl, rfl, ⟨es, n, u, D.at_, D.lit, e, r⟩, q⟩
end
local macro_rules | `(tactic| walk_at "use") => `(tactic| with_reducible first | refine g_rs0 ?_ | refine g_rs1 ?_ | refine g_tryA ?_ | refine g_tryO ?_ | refine g_callS ?_ | refine g_joined ?_ | refine g_jsnil ?_ | refine g_jscons ?_ | refine g_fmt ?_)
local macro_rules | `(tactic| walk_at "fit") => `(tactic| (refine fit2 ?_; (try simp only [PySem.Str.length_append]); omega))
local macro_rules | `(tactic| walk_at "use") => `(tactic| first | ((with_reducible refine' g_addS ?sd_ ?_); case sd_ => (first | omega | (simp only [PySem.Str.length_append]; omega))) | ((with_reducible refine' g_slS ?sd_ ?_); case sd_ => omega) | (with_reducible refine g_m0 ?_))


theorem cut_lo {xs : List V} {k : Nat} : cutV xs none (some (k : Int)) = xs.take k := by
  unfold cutV
  rw [HT.sIx_none, HT.sIx_nat, List.drop_zero, Nat.sub_zero]
  rcases Nat.le_total k xs.length with z | z
  · rw [Nat.min_eq_left z]
  · rw [Nat.min_eq_right z, List.take_of_length_le (Nat.le_refl _), List.take_of_length_le z]
theorem cut_hi {xs : List V} {k : Nat} : cutV xs (some (k : Int)) none = xs.drop k := by
  unfold cutV
  rw [HT.sIx_none, HT.sIx_nat]
  rcases Nat.le_total k xs.length with z | z
  · rw [Nat.min_eq_left z, List.take_of_length_le (by rw [List.length_drop]; omega)]
  · rw [Nat.min_eq_right z, List.drop_of_length_le (Nat.le_refl _), List.drop_of_length_le z, List.take_nil]

/-- a slice from a to b -/
theorem cut_ab {xs : List V} {a b : Nat} : cutV xs (some (a : Int)) (some (b : Int)) = (xs.drop a).take (b - a) := by
  unfold cutV
  rw [HT.sIx_nat, HT.sIx_nat]
  refine List.ext_getElem? fun j => ?_
  rw [List.getElem?_take, List.getElem?_take, List.getElem?_drop, List.getElem?_drop]
  by_cases h : j < b - a
  · rw [if_pos h]
    by_cases h2 : a + j < xs.length
    · rw [if_pos (by omega)]
      congr 1
      omega
    · rw [List.getElem?_eq_none (by omega : xs.length ≤ a + j)]
      split
      · exact List.getElem?_eq_none (by omega)
      · rfl
  · rw [if_neg h]
    by_cases h2 : j < min b xs.length - min a xs.length
    · exfalso; omega
    · rw [if_neg h2]

/-! ### exceptions of classes with an __init__ of their own: made, raised, caught, asked -/
section
variable {X : Cx} {K : PySem.W.Frag} {σ : St} {H : Hp} {Q : VK} {D : Ends} {W : WX} {ta : TA} {te to : TE} {C a : Addr} {cls : Value} {d : Option Addr} {f : Str} {v : V}
theorem g_supx {x : Addr} {t : TS} (h0 : σ[0]? = some (some (.ref x))) (e : H x = some (exo x C none)) (h : ta σ H fun us H1 => us.length ≤ 1000 ∧ H1 x = some (exo x C none) ∧ t D σ H1) : tSupX C ta t D σ H := ⟨x, h0, e, h⟩
theorem g_ost (h : te σ H fun y H1 => to σ H1 fun x H2 => ∃ a C : Addr, x = .ref a ∧ OexC K C ∧ PySem.W.findIn K (.ref C) f = some none ∧
    ((H2 a = some (exo a C none) ∧ ∀ dx, H2 dx = none → dx ≠ a → D.nx σ (upd (upd H2 dx (exd dx [(f, y)])) a (exo a C (some dx)))) ∨
      ∃ (dx : Addr) (fs : List (Str × V)), H2 a = some (exo a C (some dx)) ∧ H2 dx = some (exd dx fs) ∧ fs.length ≤ 900 ∧ D.nx σ (upd H2 dx (exd dx ((f, y) :: fs))))) : tOst K f to te D σ H := h
theorem g_mkO {sp : Sp} {dvs : List V} (h : ta σ H fun vs H1 => vs.length ≤ 1000 ∧ ∀ a, H1 a = none → sp (.ref a :: (vs ++ dvs)) (upd H1 a (exo a C none))
    (fun v H2 => v = .non ∧ ∃ (d : Addr) (fs : List (Str × V)), H2 a = some (exo a C (some d)) ∧ H2 d = some (exd d fs) ∧ H1 d = none ∧ W (.ref C) (some d) σ (upd (del H2 a) d (.xd fs))) (fun _ _ _ => False)) : tRaise (tMkO C sp dvs ta) W D σ H := h
theorem g_xf (h : te σ H fun x H1 => x = .ref a ∧ cls = .ref C ∧ ∃ (dd : Addr) (fs : List (Str × V)) (v : V), d = some dd ∧ H1 dd = some (.xd fs) ∧ fs.lookup f = some v ∧ Q v H1) : tXf a cls d C f te σ H Q := h
/-- isinstance(e, c), e caught, with a dict of its own or without one -/
def rIsE3 (K : PySem.W.Frag) (a : Addr) (cls : Value) (d : Option Addr) : List V → Hp → VK → Prop := fun xs H Q => ∃ (R : Addr) (c : V) (cv : Value) (b : Bool), cls = .ref R ∧ (d = none ∨ ∃ dd fs, d = some dd ∧ H dd = some (.xd fs)) ∧ ExcC K R ∧ xs = [.ref a, c] ∧ (∀ u, RelV c u → u = cv) ∧ PySem.W.kitOne K (.ref R) cv = some b ∧ Q (.bl b) H
theorem call_isE3 {oe : Obj} {pn : List (Addr × Obj)} (hz : Zc cls d oe) (hf : ∃ vs, oe.data = .fields vs) : CallR (X.suite a ((a, oe) :: pn)) (.builtin "isinstance") (rIsE3 X.K a cls d) := by
  intro pins s σ H xs us Q I r h
  obtain ⟨R, c, cv, b, rfl, hd, k, rfl, hcv, e, q⟩ := h
  rcases hd with rfl | ⟨dd, fs, rfl, ed⟩
  · exact call_isE2 hz hf pins s σ H _ us Q I r ⟨R, c, cv, b, rfl, rfl, k, rfl, hcv, e, q⟩
  cases r with
  | cons r1 rr =>
    cases rr with
    | cons r2 rr =>
      cases rr
      cases r1
      have ec := hcv _ r2
      subst ec
      have hat := (I.pin (a, oe) (List.mem_append_left _ List.mem_cons_self)).1
      obtain ⟨vs, hv⟩ := hf
      obtain ⟨mA, hns, _⟩ := I.hok dd _ ed
      obtain ⟨od, ho, _⟩ := lookIn_ns hns
      have J : PySem.W.InstAt s.heap a oe R (some od) := ⟨hat, hz.1, by unfold PySem.W.notCls; rw [hv], by rw [hz.2]; exact ho⟩
      obtain ⟨cd, hc, _⟩ := PySem.W.any_some k.hd
      exact PySem.W.kia_one (PySem.W.kitx_exc (by rw [hc]; rfl) k.hg k.hk k.hs k.ha k.hn k.ht k.hm) I.kIn J e (fun z => nomatch z) fun tk => ⟨.bl b, H, I.kept (t' := tk) fun _ _ z => z, rfl, q⟩
theorem g_isE3R {R B : Addr} {b : Bool} (k : ExcC K R) (hd : d = none ∨ ∃ dd fs, d = some dd ∧ H dd = some (.xd fs)) (e : PySem.W.kitOne K (.ref R) (.ref B) = some b) (q : Q (.bl b) H) : rIsE3 K a (.ref R) d [.ref a, .ref B] H Q := ⟨R, _, _, b, rfl, hd, k, rfl, fun u r => by cases r; rfl, e, q⟩
theorem g_isE3T {R : Addr} {T : String} {b : Bool} (k : ExcC K R) (hd : d = none ∨ ∃ dd fs, d = some dd ∧ H dd = some (.xd fs)) (e : PySem.W.kitOne K (.ref R) (.type T) = some b) (q : Q (.bl b) H) : rIsE3 K a (.ref R) d [.ref a, .ty T] H Q := ⟨R, _, _, b, rfl, hd, k, rfl, fun u r => by cases r; rfl, e, q⟩
/-- what an __init__ with one field promises -/
def sp_exc1 (f : Str) (C : Addr) (P : V → Prop) : Sp := fun vs H Q _ => ∃ (a : Addr) (v : V), vs = [.ref a, v] ∧ P v ∧ H a = some (exo a C none) ∧ ∀ dx, H dx = none → dx ≠ a → Q .non (upd (upd H dx (exd dx [(f, v)])) a (exo a C (some dx)))
/-- such an exception raised -/
theorem u_exc1 {P : V → Prop} {H1 : Hp} {x : Addr} (hp : P v) (n : H1 x = none) (q : ∀ dx H', H1 dx = none → Same H1 H' → H' dx = some (.xd [(f, v)]) → W (.ref C) (some dx) σ H') :
    sp_exc1 f C P [.ref x, v] (upd H1 x (exo x C none)) (fun w H2 => w = .non ∧ ∃ (d : Addr) (fs : List (Str × V)), H2 x = some (exo x C (some d)) ∧ H2 d = some (exd d fs) ∧ H1 d = none ∧ W (.ref C) (some d) σ (upd (del H2 x) d (.xd fs))) (fun _ _ _ => False) := by
  refine ⟨x, v, rfl, hp, upd_same, fun dx nd ne => ⟨rfl, dx, [(f, v)], upd_same, by rw [upd_ne ne, upd_same], ?_, ?_⟩⟩
  · rw [upd_ne ne] at nd
    exact nd
  · rw [upd_ne ne] at nd
    refine q dx _ nd (fun b o e => ?_) upd_same
    rw [upd_ne (ne_of_none e nd), del_ne (ne_of_none e n), upd_ne (ne_of_none e n), upd_ne (ne_of_none e nd), upd_ne (ne_of_none e n)]
    exact e
end

theorem szl2 {n : Nat} (h : n ≤ 2000) : n ≤ sizeLine := by
  rw [sizeLine_eq]
  omega
local macro_rules | `(tactic| walk_at "use") => `(tactic| with_reducible first | refine g_joined ?_ | refine g_jscons ?_ | refine g_jsnil ?_ | refine g_ost ?_ | refine g_fmt ?_)
theorem ok_DamagedSegment_init__ (T : Txt P K mg) : FnOk P w K mg base CX0 1 T.f_DamagedSegment_init__ T.d_DamagedSegment_init__ ["self", "reason"] (sp_exc1 "reason" T.C_DamagedSegment (fun v => ∃ r : Str, v = .str r ∧ r.length ≤ 1000)) := by
  refine T.F_DamagedSegment_init__.ok sc_DamagedSegment_init__ (fun vs H Q E h => ?_) (fun A outer s H vs Q E hr h => ?_)
  · obtain ⟨a, v, rfl, ⟨r, rfl, hr1⟩, ha, q⟩ := h
    rfl
  · obtain ⟨a, v, rfl, ⟨r, rfl, hr1⟩, ha, q⟩ := h
    have hu := hu_of hr
    refine ⟨_, (pss_superX T.F_DamagedSegment_init__.sup rfl rfl rfl T.n_super rfl rfl T.F_DamagedSegment_init__.params rfl rfl rfl (pa_cons (pe_joinedJ (.cons pe_str (.cons (pe_fmt (pv 1)) .nil))) pa_nil)
        (pss_one (ps_ost (pv 0) (pv 1)))), ?_⟩
    dsimp only [NdefX.ncx, NdefX.startF, Cx.nox, Cx.wish, L2.start, List.map, List.cons_append, List.nil_append, List.length_cons, List.length_nil, Nat.reduceAdd, Nat.reduceSub, Nat.zero_add, List.replicate_succ, List.replicate_zero]
    refine g_supx rfl ha ?_
    walk_at "go"
    refine g_jsE (szl2 (by show _ ≤ 2000; decide +kernel)) ?_
    walk_at "go"
    refine g_fmtS (szl2 (by omega)) ?_
    refine g_jsE (fit2 ?_) ?_
    · have : (Str.empty ++ ("refused: " : Str)).length = 9 := by decide +kernel
      omega
    walk_at "go"
    refine ⟨by show 1 ≤ 1000; decide, ha, ?_⟩
    walk_at "go"
    exact ⟨a, T.C_DamagedSegment, rfl, T.F_DamagedSegment_init__.sup.oex, T.n_DamagedSegment_reason, .inl ⟨ha, fun dx nd ne => q dx nd ne⟩⟩
abbrev isTx (v : V) : Prop := ∃ r : Str, v = .str r ∧ r.length ≤ 1000
/-- refused for wrong options -/
def Bad (C : Addr) (H : Hp) (E : XK) : Prop := ∀ dx H', H dx = none → Same H H' → H' dx = some (.xd [("reason", .str "wrong options")]) → E (.ref C) (some dx) H'
theorem u_bad {C x : Addr} {H1 : Hp} {E : XK} (n : H1 x = none) (b : Bad C H1 E) : sp_exc1 "reason" C (fun v => ∃ r : Str, v = .str r ∧ r.length ≤ 1000) [V.ref x, .str "wrong options"] (upd H1 x (exo x C none))
    (fun v H2 => v = .non ∧ ∃ (d : Addr) (fs : List (Str × V)), H2 x = some (exo x C (some d)) ∧ H2 d = some (exd d fs) ∧ H1 d = none ∧ E (.ref C) (some d) (upd (del H2 x) d (.xd fs))) (fun _ _ _ => False) :=
  u_exc1 (W := fun cls d _ H => E cls d H) (σ := []) ⟨_, rfl, by decide +kernel⟩ n b
def sp_option_size (K : PySem.W.Frag) (C : Addr) : Sp := fun vs H Q E => ∃ (a : Addr) (ns : List Int) (i : Nat), vs = [.ref a, .int i] ∧ SqL K H a (ns.map V.int) ∧ i < ns.length ∧ ns.length ≤ 1000 ∧
  (∀ z, ns[i + 1]? = some z → 2 ≤ z → i + z ≤ ns.length → Q (.int z) H) ∧
  ((∀ z, ns[i + 1]? = some z → ¬ (2 ≤ z ∧ i + z ≤ ns.length)) → Bad C H E)
theorem ok_option_size (T : Txt P K mg) : FnOk P w K mg base (L2.CX P w) 3 T.f_option_size T.d_option_size ["octets", "at"] (sp_option_size K T.C_DamagedSegment) := by
  refine T.F_option_size.okX sc_option_size (fun vs H Q E h => ?_) (fun cdv A outer s H vs Q E hr h => ?_)
  · obtain ⟨a, ns, i, rfl, hS, hi, hl, q1, q2⟩ := h
    rfl
  · obtain ⟨a, ns, i, rfl, hS, hi, hl, q1, q2⟩ := h
    have hu := hu_of hr
    refine ⟨_, (pss_cons (ps_if (pt_cmpR op_eq (pe_op op_add (pv 1) pe_int) (pe_callB call_len_seq (by rfl) T.n_len (by decide +kernel) (pa_cons (pv 0) pa_nil)) (nomark _)) (pss_one (ps_rs rfl (takes_of rfl rfl rfl rfl) (pmk_oex T.F_DamagedSegment_init__.sup.oex T.iC_DamagedSegment T.tI_DamagedSegment (ok_DamagedSegment_init__ T) (hr.mono (by decide)) T.b_DamagedSegment_init__ .nil pass0 rfl T.c_DamagedSegment (pa_cons (pe_glob (v := .str (PySem.Str.ofString "wrong options")) (by rfl) T.v_WRONG_OPTIONS ⟨_, rfl⟩) pa_nil)))) pss_nil)
        (pss_cons (ps_set (i := 2) sc_option_size.nd rfl (Or.inl rfl) (pe_ix ix_list (pv 0) (pe_op op_add (pv 1) pe_int) (fun _ _ => rfl)))
        (pss_cons (ps_if (PW.pt (pw_or (pt_cmpR op_lt (pv 2) pe_int (nomark _)) (pw_or1 (pt_cmpR op_gt (pe_op op_add (pv 1) (pv 2)) (pe_callB call_len_seq (by rfl) T.n_len (by decide +kernel) (pa_cons (pv 0) pa_nil)) (nomark _))))) (pss_one (ps_rs rfl (takes_of rfl rfl rfl rfl) (pmk_oex T.F_DamagedSegment_init__.sup.oex T.iC_DamagedSegment T.tI_DamagedSegment (ok_DamagedSegment_init__ T) (hr.mono (by decide)) T.b_DamagedSegment_init__ .nil pass0 rfl T.c_DamagedSegment (pa_cons (pe_glob (v := .str (PySem.Str.ofString "wrong options")) (by rfl) T.v_WRONG_OPTIONS ⟨_, rfl⟩) pa_nil)))) pss_nil)
        (pss_one (ps_ret (pv 2)))))), ?_⟩
    dsimp only [cxOf, Cx.nox, Cx.wish, L2.start, List.map, List.cons_append, List.nil_append, List.length_cons, List.length_nil, Nat.reduceAdd, Nat.reduceSub, Nat.zero_add, List.replicate_succ, List.replicate_zero]
    walk_at "go"
    refine g_len (.inl hS) ?_
    walk_at "go"
    refine g_ite (fun c => ?_) (fun c => ?_)
    · walk_at "go"
      refine g_mkO ?_
      walk_at "go"
      refine ⟨by show 1 ≤ 1000; decide, fun x nx => ?_⟩
      refine u_bad nx (q2 fun z hz => ?_)
      rw [List.getElem?_eq_none (by rw [List.length_map] at c; omega)] at hz
      cases hz
    rw [List.length_map] at c
    obtain ⟨z, er, ez⟩ := atI_ints (xs := ns) (i := (i : Int) + 1) (by omega) (by omega)
    rw [show ((i : Int) + 1).toNat = i + 1 by omega] at ez
    have no : ¬ (2 ≤ z ∧ (i : Int) + z ≤ ns.length) → Bad T.C_DamagedSegment H E := fun hn => q2 fun z' hz' => by
      rw [ez] at hz'
      cases hz'
      exact hn
    walk_at "go"
    refine g_ixL hS er ?_
    walk_at "go"
    refine g_ite (fun c1 => ?_) (fun c1 => ?_)
    · walk_at "go"
      refine g_mkO ?_
      walk_at "go"
      refine ⟨by show 1 ≤ 1000; decide, fun x nx => ?_⟩
      exact u_bad nx (no (by omega))
    walk_at "go"
    refine g_len (.inl hS) ?_
    walk_at "go"
    rw [List.length_map]
    refine g_ite (fun c2 => ?_) (fun c2 => ?_)
    · walk_at "go"
      refine g_mkO ?_
      walk_at "go"
      refine ⟨by show 1 ≤ 1000; decide, fun x nx => ?_⟩
      exact u_bad nx (no (by omega))
    walk_at "go"
    exact q1 z ez (by omega) (by omega)
/-- what a row of octets says: its options, or that it is wrong -/
inductive Spl : List Int → Option (List (Int × List Int)) → Prop where
  | nil : Spl [] (some [])
  | zero {r : List Int} (h : ∀ y ∈ r, y = 0) : Spl (0 :: r) (some [])
  | zbad {r : List Int} (h : ∃ y ∈ r, y ≠ 0) : Spl (0 :: r) none
  | fill {r : List Int} {x : Option (List (Int × List Int))} (h : Spl r x) : Spl (1 :: r) x
  | one {k : Int} (h0 : k ≠ 0) (h1 : k ≠ 1) : Spl [k] none
  | bad {k z : Int} {r : List Int} (h0 : k ≠ 0) (h1 : k ≠ 1) (h : ¬ (2 ≤ z ∧ z ≤ r.length + 2)) : Spl (k :: z :: r) none
  | opt {k : Int} {b r : List Int} {x : Option (List (Int × List Int))} (h0 : k ≠ 0) (h1 : k ≠ 1) (h : Spl r x) : Spl (k :: ((b.length : Int) + 2) :: (b ++ r)) (x.map fun os => (k, b) :: os)
theorem Spl.inv_nil {x : Option (List (Int × List Int))} (h : Spl [] x) : x = some [] := by cases h; rfl
theorem Spl.inv_fill {r : List Int} {x : Option (List (Int × List Int))} (h : Spl (1 :: r) x) : Spl r x := by
  cases h with
  | fill h => exact h
  | one h0 h1 => exact absurd rfl h1
  | bad h0 h1 h => exact absurd rfl h1
  | opt h0 h1 h => exact absurd rfl h1
theorem Spl.inv_zero {r : List Int} {x : Option (List (Int × List Int))} (h : Spl (0 :: r) x) : (x = some [] ∧ ∀ y ∈ (0 :: r), y = 0) ∨ (x = none ∧ ∃ y ∈ (0 :: r), y ≠ 0) := by
  cases h with
  | zero h => exact .inl ⟨rfl, fun y hy => by rcases List.mem_cons.mp hy with e | e; exact e; exact h y e⟩
  | zbad h => obtain ⟨y, h1, h2⟩ := h; exact .inr ⟨rfl, y, List.mem_cons_of_mem _ h1, h2⟩
  | one h0 h1 => exact absurd rfl h0
  | bad h0 h1 h => exact absurd rfl h0
  | opt h0 h1 h => exact absurd rfl h0
theorem Spl.inv_one {k : Int} {x : Option (List (Int × List Int))} (h0 : k ≠ 0) (h1 : k ≠ 1) (h : Spl [k] x) : x = none := by
  cases h with
  | zero h => exact absurd rfl h0
  | zbad h => exact absurd rfl h0
  | fill h => exact absurd rfl h1
  | one _ _ => rfl
theorem Spl.inv_opt {k z : Int} {r : List Int} {x : Option (List (Int × List Int))} (h0 : k ≠ 0) (h1 : k ≠ 1) (h : Spl (k :: z :: r) x) :
    (x = none ∧ ¬ (2 ≤ z ∧ z ≤ r.length + 2)) ∨ ∃ b r' x', r = b ++ r' ∧ z = (b.length : Int) + 2 ∧ Spl r' x' ∧ x = x'.map fun os => (k, b) :: os := by
  cases h with
  | zero h => exact absurd rfl h0
  | zbad h => exact absurd rfl h0
  | fill h => exact absurd rfl h1
  | bad _ _ h => exact .inl ⟨rfl, h⟩
  | opt _ _ h => exact .inr ⟨_, _, _, rfl, rfl, h, rfl⟩
/-- the options as a list of pairs -/
def OptL (l0 : Addr) (H : Hp) (us : List V) (os : List (Int × List Int)) : Prop := us.length = os.length ∧ ∀ (i : Nat) (k : Int) (b : List Int), os[i]? = some (k, b) → ∃ t l, us[i]? = some (V.ref t) ∧ H t = some (.tup [.int k, .ref l]) ∧ H l = some (.lst (b.map V.int)) ∧ l ≠ l0
theorem OptL.same {l0 : Addr} {H H' : Hp} {us : List V} {os : List (Int × List Int)} (h : OptL l0 H us os) (s : Same H H') : OptL l0 H' us os := ⟨h.1, fun i k b e => let ⟨t, l, h1, h2, h3, h4⟩ := h.2 i k b e; ⟨t, l, h1, s _ _ h2, s _ _ h3, h4⟩⟩
theorem OptL.add {l0 t l : Addr} {H H' : Hp} {us : List V} {os : List (Int × List Int)} {k : Int} {b : List Int} {xs : List V} (h : OptL l0 H us os) (e : H l0 = some (.lst xs)) (s : But l0 H H') (h1 : H t = some (.tup [.int k, .ref l])) (h2 : H l = some (.lst (b.map V.int))) (n : l ≠ l0) : OptL l0 H' (us ++ [.ref t]) (os ++ [(k, b)]) := by
  have T : ∀ {t : Addr} {ys : List V}, H t = some (.tup ys) → t ≠ l0 := fun h z => by rw [z, e] at h; cases h
  refine ⟨by rw [List.length_append, List.length_append, h.1]; rfl, fun i k' b' hz => ?_⟩
  rcases Nat.lt_trichotomy i os.length with c | c | c
  · rw [List.getElem?_append_left c] at hz
    obtain ⟨t', l', a1, a2, a3, a4⟩ := h.2 i k' b' hz
    exact ⟨t', l', by rw [List.getElem?_append_left (by rw [h.1]; exact c)]; exact a1, s _ _ (T a2) a2, s _ _ a4 a3, a4⟩
  · rw [List.getElem?_append_right (by omega), c, Nat.sub_self] at hz
    have ez : (k, b) = (k', b') := Option.some.inj hz
    cases ez
    refine ⟨t, l, ?_, s _ _ (T h1) h1, s _ _ n h2, n⟩
    rw [List.getElem?_append_right (by rw [h.1]; omega), h.1, c, Nat.sub_self]
    rfl
  · rw [List.getElem?_eq_none (by rw [List.length_append]; show os.length + 1 ≤ i; omega)] at hz
    cases hz
theorem Bad.same {C : Addr} {H H1 : Hp} {E : XK} (b : Bad C H E) (s : Same H H1) : Bad C H1 E := fun dx H' n s1 e => b dx H' (s.free n) (s.trans s1) e
def sp_split (K : PySem.W.Frag) (C : Addr) : Sp := fun vs H Q E => ∃ (a : Addr) (ns : List Int) (x : Option (List (Int × List Int))), vs = [.ref a] ∧ SqL K H a (ns.map V.int) ∧ ns.length ≤ 1000 ∧ Spl ns x ∧
  (∀ os, x = some os → ∀ H' l us, H l = none → Same H H' → H' l = some (.lst us) → OptL l H' us os → Q (.ref l) H') ∧ (x = none → Bad C H E)
theorem ok_split (T : Txt P K mg) : FnOk P w K mg base (L2.CX P w) 4 T.f_split T.d_split ["octets"] (sp_split K T.C_DamagedSegment) := by
  refine T.F_split.okX sc_split (fun vs H Q E h => ?_) (fun cdv A outer s H vs Q E hr h => ?_)
  · obtain ⟨a, ns, x, rfl, hS, hl, hx, q1, q2⟩ := h
    rfl
  · obtain ⟨a, ns, x, rfl, hS, hl, hx, q1, q2⟩ := h
    have hu := hu_of hr
    refine ⟨_, (pss_cons (ps_set (i := 1) sc_split.nd rfl (Or.inl rfl) (pe_lst pa_nil))
        (pss_cons (ps_set (i := 2) sc_split.nd rfl (Or.inl rfl) pe_int)
        (C8.pss_cut (ps_while (passes_of rfl) (PW.pt (pw_and (pt_cmpR op_lt (pv 2) (pe_callB call_len_seq (by rfl) T.n_len (by decide +kernel) (pa_cons (pv 0) pa_nil)) (nomark _)) (pw_and1 (pt_cmpR op_ne (pe_ix ix_list (pv 0) (pv 2) (fun _ _ => rfl)) (pe_glob (v := .int 0) (by rfl) T.v_END ⟨_, rfl⟩) (nomark _))))) (pss_one (ps_if (pt_cmpR op_eq (pe_ix ix_list (pv 0) (pv 2) (fun _ _ => rfl)) (pe_glob (v := .int 1) (by rfl) T.v_FILLER ⟨_, rfl⟩) (nomark _)) (pss_one (ps_aug (i := 2) sc_split.nd rfl (Or.inl rfl) pe_int ip_add)) (pss_cons (ps_set (i := 3) sc_split.nd rfl (Or.inl rfl) (pe_call (ok_option_size T) (hr.mono (by decide)) rfl T.m_option_size T.F_option_size.kp T.b_option_size .nil (passes_call (takes_of rfl rfl rfl rfl) (fun _ _ _ _ h => h)) (pa_cons (pv 0) (pa_cons (pv 2) pa_nil))))
        (pss_cons (ps_expr (pe_bm PySem.F.plainAttrs_list PySem.F.slot_list_append PySem.F.type_list_append mt_append (pv 1) (pa_cons (pe_tup (pa_cons (pe_ix ix_list (pv 0) (pv 2) (fun _ _ => rfl)) (pa_cons (pe_slice sl_list (pv 0) (po_some (pe_op op_add (pv 2) pe_int)) (po_some (pe_op op_add (pv 2) (pv 3)))) pa_nil))) pa_nil)))
        (pss_one (ps_aug (i := 2) sc_split.nd rfl (Or.inl rfl) (pv 3) ip_add)))))))
        (pss_cons (ps_if (pt_val (pe_callB (cr_any rfl) (by rfl) T.n_any (by decide +kernel) (pa_cons (pe_lc (own := [("octet", 4)]) (g := gName 4) (tt := tYes) rfl sc_split.nd (pi_list (pe_slice sl_list (pv 0) (po_some (pv 2)) po_none)) (blkOk_by (N := ["octets", "options", "at", "size", "octet"]) (sc := defScope s_split) (by decide +kernel)) (fun _ _ _ _ _ => (pg_name (i := 4) sc_split.nd rfl (Or.inl rfl))) (fun _ _ _ _ _ => pts_nil) (fun _ _ _ _ _ => (pe_cmpR op_ne (pv 4) (pe_glob (v := .int 0) (by rfl) T.v_END ⟨_, rfl⟩) (nomark _)))) pa_nil))) (pss_one (ps_rs rfl (takes_of rfl rfl rfl rfl) (pmk_oex T.F_DamagedSegment_init__.sup.oex T.iC_DamagedSegment T.tI_DamagedSegment (ok_DamagedSegment_init__ T) (hr.mono (by decide)) T.b_DamagedSegment_init__ .nil pass0 rfl T.c_DamagedSegment (pa_cons (pe_glob (v := .str (PySem.Str.ofString "wrong options")) (by rfl) T.v_WRONG_OPTIONS ⟨_, rfl⟩) pa_nil)))) pss_nil)
        (pss_one (ps_ret (pv 1))))))), ?_⟩
    dsimp only [cxOf, Cx.nox, Cx.wish, L2.start, List.map, List.cons_append, List.nil_append, List.length_cons, List.length_nil, Nat.reduceAdd, Nat.reduceSub, Nat.zero_add, List.replicate_succ, List.replicate_zero]
    walk_at "go"
    refine ⟨by decide, fun l nl => ?_⟩
    walk_at "nw"
    rename_i H1 s1 k1
    walk_at "go"
    refine g_cut (fun σ' H' => ∃ (i : Nat) (us : List V) (os : List (Int × List Int)) (x' : Option (List (Int × List Int))) (v3 : Option V), σ' = [some (.ref a), some (.ref l), some (.int i), v3, none] ∧ i ≤ ns.length ∧ Same H H' ∧ H' l = some (.lst us) ∧ OptL l H' us os ∧
      ((x' = some [] ∧ ∀ y ∈ ns.drop i, y = 0) ∨ (x' = none ∧ ∃ y ∈ ns.drop i, y ≠ 0)) ∧ x = x'.map (os ++ ·)) ?_ ?_
    · refine g_while (fun m σ H' => ∃ (i : Nat) (us : List V) (os : List (Int × List Int)) (x' : Option (List (Int × List Int))) (v3 : Option V), σ = [some (.ref a), some (.ref l), some (.int i), v3, none] ∧ m = ns.length - i ∧ i ≤ ns.length ∧ Same H H' ∧ H' l = some (.lst us) ∧ OptL l H' us os ∧ os.length ≤ i ∧ Spl (ns.drop i) x' ∧ x = x'.map (os ++ ·))
        ⟨ns.length - 0, 0, [], [], x, none, rfl, rfl, Nat.zero_le _, s1, k1, ⟨rfl, fun i k b e => nomatch e⟩, Nat.le_refl _, hx, by cases x <;> rfl⟩ ?_
      rintro m σ H2 ⟨i, us, os, x', v3, rfl, rfl, hi, s2, e2, O2, hle, hx', ex⟩
      have hS2 := s2.seq hS
      walk_at "go"
      refine g_len (.inl hS2) ?_
      walk_at "go"
      rw [List.length_map]
      refine g_ite (fun c => ?_) (fun c => ?_)
      · obtain ⟨k, er, ek⟩ := atI_ints (xs := ns) (i := (i : Int)) (by omega) (by omega)
        rw [Int.toNat_natCast] at ek
        have dc : ∀ {j : Nat} {y : Int}, ns[j]? = some y → ns.drop j = y :: ns.drop (j + 1) := fun {j y} e => by
          obtain ⟨hlt, e⟩ := List.getElem?_eq_some_iff.mp e
          rw [← e]
          exact List.drop_eq_getElem_cons hlt
        have ed := dc ek
        walk_at "go"
        refine g_ixL hS2 er ?_
        walk_at "go"
        refine g_iteN (fun c1 => ?_) (fun c1 => ?_)
        · refine ⟨_, fun _ _ h => h, ?_⟩
          walk_at "go"
          refine g_ixL hS2 er ?_
          walk_at "go"
          refine g_ite (fun c2 => ?_) (fun c2 => ?_)
          · walk_at "go"
            rw [ed, c2] at hx'
            exact ⟨_, by omega, i + 1, us, os, x', v3, rfl, rfl, by omega, s2, e2, O2, by omega, hx'.inv_fill, ex⟩
          walk_at "go"
          rw [ed] at hx'
          refine ⟨a, ns, i, rfl, hS2, by omega, hl, fun z hz h2 h3 => ?_, fun hno => ?_⟩
          · have ez := dc hz
            rw [ez] at hx'
            obtain ⟨b, r', x2, er2, ez2, hx2, ex2⟩ : ∃ b r' x2, ns.drop (i + 1 + 1) = b ++ r' ∧ z = (b.length : Int) + 2 ∧ Spl r' x2 ∧ x' = x2.map fun os => (k, b) :: os := by
              rcases hx'.inv_opt c1 c2 with ⟨_, h⟩ | h
              · exact absurd ⟨h2, by rw [List.length_drop]; omega⟩ h
              · exact h
            subst ez2
            have lb : b.length ≤ ns.length - (i + 2) := by
              have := congrArg List.length er2
              rw [List.length_drop, List.length_append] at this
              omega
            walk_at "go"
            refine ⟨ty_l e2, ?_⟩
            walk_at "go"
            refine g_ixL hS2 er ?_
            walk_at "go"
            rw [show (i : Int) + 2 = ((i + 2 : Nat) : Int) by omega, show (i : Int) + ((b.length : Int) + 2) = ((i + 2 + b.length : Nat) : Int) by omega]
            refine g_slL hS2 fun t nt => ?_
            rw [cut_ab, ← List.map_drop, show ns.drop (i + 2) = b ++ r' from er2, List.map_append, show i + 2 + b.length - (i + 2) = (b.map V.int).length by rw [List.length_map]; omega, List.take_left]
            walk_at "nw"
            rename_i H3 s3 k3
            walk_at "go"
            refine ⟨by show 2 ≤ sizeLine; decide, fun tt ntt => ?_⟩
            walk_at "nw"
            rename_i H4 s4 k4
            have e4 := s4 _ _ (s3 _ _ e2)
            walk_at "go"
            refine g_append e4 (szl (by have := O2.1; omega)) ?_
            walk_at "bt"
            rename_i H5 b5 k5
            walk_at "go"
            refine ⟨_, by omega, i + 2 + b.length, us ++ [.ref tt], os ++ [(k, b)], x2, some (.int ((b.length : Int) + 2)), ?_, rfl, by omega, fun y o e => b5 _ _ (ne_of_none e nl) (s4 _ _ (s3 _ _ (s2 _ _ e))), k5, ((O2.same s3).same s4).add e4 b5 k4 (s4 _ _ k3) (ne_of_none e2 nt).symm, by rw [List.length_append]; show os.length + 1 ≤ _; omega, ?_, ?_⟩
            · rw [show (i : Int) + ((b.length : Int) + 2) = ((i + 2 + b.length : Nat) : Int) by omega]
              rfl
            · rw [← List.drop_drop, show ns.drop (i + 2) = b ++ r' from er2, List.drop_left]
              exact hx2
            · rw [ex, ex2]
              cases x2 <;> simp
          · refine (q2 ?_).same s2
            have xn : x' = none := by
              cases hz : ns[i + 1]? with
              | none =>
                rw [List.drop_of_length_le (List.getElem?_eq_none_iff.mp hz)] at hx'
                exact hx'.inv_one c1 c2
              | some z =>
                rw [dc hz] at hx'
                rcases hx'.inv_opt c1 c2 with ⟨h, _⟩ | ⟨b, r', x2, er2, ez2, _, _⟩
                · exact h
                · refine absurd ⟨by omega, ?_⟩ (hno z hz)
                  have := congrArg List.length er2
                  rw [List.length_drop, List.length_append] at this
                  obtain ⟨hlt, _⟩ := List.getElem?_eq_some_iff.mp hz
                  omega
            rw [ex, xn]
            rfl
        · rw [ed, c1] at hx'
          refine ⟨i, us, os, x', v3, rfl, hi, s2, e2, O2, ?_, ex⟩
          rw [ed, c1]
          exact hx'.inv_zero
      · rw [List.drop_of_length_le (by omega)] at hx'
        exact ⟨i, us, os, x', v3, rfl, hi, s2, e2, O2, .inl ⟨hx'.inv_nil, fun y hy => by rw [List.drop_of_length_le (by omega)] at hy; cases hy⟩, ex⟩
    rintro σ' H2 ⟨i, us, os, x', v3, rfl, hi, s2, e2, O2, hz, ex⟩
    have hS2 := s2.seq hS
    walk_at "go"
    refine g_slL hS2 fun t nt => ?_
    rw [cut_hi, ← List.map_drop]
    walk_at "nw"
    rename_i H3 s3 k3
    walk_at "go"
    refine ⟨⟨_, sl k3⟩, fun D hD => ?_⟩
    refine lc_vals walk_list ((ns.drop i).map fun y => V.bl (!decide (y = 0))) hD (by rw [List.length_map, List.length_map]) (fun H s => s.seq (sl k3)) ?turn ?done
    case turn =>
      rintro j x0 H4 H5 hj pp ⟨rfl, hx0⟩
      obtain ⟨y, hy, rfl⟩ := map_get hx0
      refine ⟨rfl, ?_⟩
      walk_at "go"
      refine lc_next hD pp (by rw [List.length_map, List.length_drop]; omega) ?_
      rw [List.getElem?_map, hy]
      rfl
    case done =>
      intro H4 s4 e4
      have s24 := s3.trans s4
      walk_at "go"
      refine ⟨D, (ns.drop i).map (fun y => !decide (y = 0)), rfl, by rw [List.map_map]; exact sl e4, ?_⟩
      rcases hz with ⟨hz, h0⟩ | ⟨hz, y, hy, h0⟩
      · rw [show ((ns.drop i).map (fun y => !decide (y = 0))).any id = false by
          rw [List.any_eq_false]
          intro z hz
          obtain ⟨y, hy, rfl⟩ := List.mem_map.mp hz
          rw [decide_eq_true (h0 y hy)]
          decide]
        walk_at "go"
        refine q1 os ?_ H4 l us nl (s2.trans s24) (s24 _ _ e2) (O2.same s24)
        rw [ex, hz]
        simp
      · rw [show ((ns.drop i).map (fun y => !decide (y = 0))).any id = true by
          rw [List.any_eq_true]
          exact ⟨_, List.mem_map_of_mem hy, by rw [decide_eq_false h0]; rfl⟩]
        walk_at "go"
        refine g_mkO ?_
        walk_at "go"
        refine ⟨by show 1 ≤ 1000; decide, fun x nx => ?_⟩
        exact u_bad nx ((q2 (by rw [ex, hz]; rfl)).same (s2.trans s24))
end
end My
namespace My
open PySem PySem.Spec L2
local macro_rules | `(tactic| walk_at "side") => `(tactic| first | assumption | decide | omega | exact ⟨by decide, by decide⟩ | exact ⟨by decide, by decide, by decide⟩ | decide +kernel | exact cdivW (by decide +kernel) (by decide +kernel) | exact Or.inl ⟨by omega, by omega⟩ | exact Or.inr ⟨by omega, by omega⟩ | (simp only [List.length_map, List.length_cons, List.length_nil, List.length_append]; omega))
local macro_rules | `(tactic| walk_at "fact") => `(tactic| first | assumption | omega | with_reducible rfl)
local macro_rules | `(tactic| walk_at "use") => `(tactic| fail "use")
local macro_rules | `(tactic| walk_at "go1") => `(tactic| with_reducible first | refine g_seq ?_ | refine g_asg ?_ | refine g_ret ?_ | refine g_ifS ?_ | refine g_drop ?_ | refine g_star ?_ | refine g_nx ?_ | refine g_rt ?_ | refine g_bkE ?_ | refine g_ctE ?_ | refine g_next ?_ | refine g_retN ?_ | refine g_brk ?_ | refine g_ct ?_ | refine g_c ?_ | refine g_op ?_ | refine g_un ?_ | refine g_rI0 ?_ | refine g_rU ?_ | refine g_rEqI ?_ | refine g_rNeI ?_ | refine g_isN ?_ | refine g_rIsB ?_ | refine g_rNotB ?_ | refine g_test ?_ | refine g_B ?_ | refine g_bl ?_ | refine g_and ?_ | refine g_or ?_ | refine g_not ?_ | refine g_andV ?_ | refine g_orV ?_ | refine g_notV ?_ | refine g_if ?_ | refine g_chain ?_ | refine g_yes ?_ | refine g_lc ?_ | refine g_revR ?_ | refine g_rng1 ?_ | refine g_iList ?_ | refine g_nil ?_ | refine g_cons ?_ | refine g_tup ?_ | refine g_lst ?_ | refine g_call ?_ | refine g_CB ?_ | refine g_sl ?_ | refine g_noPart ?_ | refine g_part ?_ | refine g_intE ?_ | refine g_ref ?_ | refine g_fld ?_ | refine g_sfld ?_ | refine g_meth ?_ | refine g_make ?_ | refine g_prop ?_  | refine g_ipI ?_ | refine g_int1 ?_ | refine g_int1B ?_ | refine g_one ?_ | refine g_two ?_ | refine g_isiI ?_ | refine g_isiIB ?_ | refine g_isiB ?_ | refine g_BM ?_ | refine g_BM0 ?_ | refine g_sub ?_)
local macro_rules | `(tactic| walk_at "go") => `(tactic| repeat (first | walk_at "go1" | ((with_reducible refine' g_nameE ?sd_ ?_); case sd_ => dsimp only [List.set_cons_succ, List.set_cons_zero]) | ((with_reducible refine' g_var ?sd_ ?_); case sd_ => exact rfl) | ((with_reducible refine' g_aug ?sd_ ?_); case sd_ => exact rfl) | ((with_reducible refine' g_rI ?sd_ ?_); case sd_ => walk_at "side") | ((with_reducible refine' g_dT ?sd_ ?_); case sd_ => walk_at "fact") | ((with_reducible refine' g_dF ?sd_ ?_); case sd_ => walk_at "fact") | ((with_reducible refine' g_nT ?sd_ ?_); case sd_ => walk_at "fact") | ((with_reducible refine' g_nF ?sd_ ?_); case sd_ => walk_at "fact") | (with_reducible refine g_iT rfl ?_) | (with_reducible refine g_iF rfl ?_) | walk_at "use"))
local macro_rules | `(tactic| walk_at "nw") => `(tactic| (generalize zq : upd _ _ _ = Hq; have sq : Same _ Hq := (by rw [← zq]; exact same_upd (by assumption)); have kq := (congrFun zq _).symm.trans upd_same; clear zq))
local macro_rules | `(tactic| walk_at "bt") => `(tactic| (generalize zq : upd _ _ _ = Hq; have bq : But _ _ Hq := (by rw [← zq]; exact But.refl.upd); have kq := (congrFun zq _).symm.trans upd_same; clear zq))

section
variable {P : Program} {w : World} {K : PySem.W.Frag} {mg : Str → Option Value} {base : Heap}
local macro_rules | `(tactic| walk_at "use") => `(tactic| with_reducible first | refine g_rs0 ?_ | refine g_rs1 ?_ | refine g_tryA ?_ | refine g_tryO ?_ | refine g_callS ?_ | refine g_joined ?_ | refine g_jsnil ?_ | refine g_jscons ?_ | refine g_fmt ?_)
local macro_rules | `(tactic| walk_at "fit") => `(tactic| (refine fit2 ?_; (try simp only [PySem.Str.length_append]); omega))
local macro_rules | `(tactic| walk_at "use") => `(tactic| first | ((with_reducible refine' g_addS ?sd_ ?_); case sd_ => (first | omega | (simp only [PySem.Str.length_append]; omega))) | ((with_reducible refine' g_slS ?sd_ ?_); case sd_ => omega) | (with_reducible refine g_m0 ?_))

theorem g_gtup {K : PySem.W.Frag} {n : Nat} {t : List V → St → Hp → (St → Hp → Prop) → Prop} {a : Addr} {xs : List V} {σ : St} {H : Hp} {Q : St → Hp → Prop} (h : SqT K H a xs) (l : xs.length = n) (q : t xs σ H Q) : gTup K n t (.ref a) σ H Q := ⟨a, xs, rfl, h, l, q⟩
theorem g_gcons {t : TG} {u : List V → St → Hp → (St → Hp → Prop) → Prop} {v : V} {r : List V} {σ : St} {H : Hp} {Q : St → Hp → Prop} (h : t v σ H fun σ' H' => u r σ' H' Q) : gCons t u (v :: r) σ H Q := ⟨v, r, rfl, h⟩
theorem g_gnil {σ : St} {H : Hp} {Q : St → Hp → Prop} (q : Q σ H) : gNil [] σ H Q := ⟨rfl, q⟩
local macro_rules | `(tactic| walk_at "use") => `(tactic| with_reducible first | refine g_gcons ?_ | refine g_gnil ?_)

/-! ### dicts with ints as keys, by what they hold -/
def Dk (H : Hp) (d : Addr) (f : Int → Option V) (n : Nat) : Prop := ∃ kvs : List (Key × V), H d = some (.dK kvs) ∧ kvs.length ≤ n ∧ ∀ k : Int, valV kvs (.inl k) = f k
theorem Dk.new {H : Hp} {d : Addr} (h : H d = some (.dK [])) : Dk H d (fun _ => none) 0 := ⟨[], h, Nat.le_refl _, fun _ => rfl⟩
theorem Dk.get {H : Hp} {d : Addr} {f : Int → Option V} {n : Nat} (h : Dk H d f n) (k : Int) : DGet H d (.int k) (f k) := by
  obtain ⟨kvs, e, _, hv⟩ := h
  have z := DGet.k (k := .inl k) e
  rw [hv] at z
  exact z
theorem Dk.isD {H : Hp} {d : Addr} {f : Int → Option V} {n : Nat} (h : Dk H d f n) : IsD H d := by
  obtain ⟨kvs, e, _, _⟩ := h
  exact .inl ⟨kvs, .inl e⟩
theorem Dk.put {H : Hp} {d : Addr} {f : Int → Option V} {n : Nat} (h : Dk H d f n) (hn : n < 100000) (k : Int) (v : V) : ∃ H', DPut H d (.int k) v H' ∧ But d H H' ∧ Dk H' d (fun j => if j = k then some v else f j) (n + 1) := by
  obtain ⟨kvs, e, hl, hv⟩ := h
  refine ⟨_, DPut.k (k := .inl k) (v := v) e (szl (by omega)), But.refl.upd, putK kvs (.inl k) v, upd_same, Nat.le_trans (length_putK _ _ _) (by omega), fun j => ?_⟩
  rw [valV_put, hv]
  show _ = if j = k then some v else f j
  by_cases z : j = k
  · subst z
    rw [if_pos rfl, if_pos rfl]
  · rw [if_neg z, if_neg fun w => z (Sum.inl.inj w)]
theorem Dk.at {H H' : Hp} {d : Addr} {f : Int → Option V} {n : Nat} (h : Dk H d f n) (s : ∀ o, H d = some o → H' d = some o) : Dk H' d f n := by
  obtain ⟨kvs, e, hl, hv⟩ := h
  exact ⟨kvs, s _ e, hl, hv⟩
theorem Dk.same {H H' : Hp} {d : Addr} {f : Int → Option V} {n : Nat} (h : Dk H d f n) (s : Same H H') : Dk H' d f n := h.at (s d)
theorem Dk.none {H : Hp} {d : Addr} {f : Int → Option V} {n : Nat} (h : Dk H d f n) {p : Addr} (hp : H p = none) : d ≠ p := by
  obtain ⟨kvs, e, _, _⟩ := h
  exact ne_of_none e hp
theorem g_dgetI {td ty : TE} {σ : St} {H : Hp} {Q : VK} (h : td σ H fun x H1 => ty σ H1 fun y H2 => ∃ a v, x = .ref a ∧ DGet H2 a y (some v) ∧ Q v H2) : tDGet td ty σ H Q := h
theorem g_dputI {td ty tv : TE} {D : Ends} {σ : St} {H : Hp} (h : tv σ H fun v H1 => td σ H1 fun x H2 => ty σ H2 fun y H3 => ∃ a H4, x = .ref a ∧ DPut H3 a y v H4 ∧ D.nx σ H4) : sDPut td ty tv D σ H := h
theorem g_dget1I {td ty : TE} {σ : St} {H : Hp} {Q : VK} (h : td σ H fun x H1 => ∃ a, x = .ref a ∧ IsD H1 a ∧ ty σ H1 fun y H2 => ∃ o, DGet H2 a y o ∧ Q (o.getD .non) H2) : tDGet1 td ty σ H Q := h
theorem g_dget2I {td ty tx : TE} {σ : St} {H : Hp} {Q : VK} (h : td σ H fun x H1 => ∃ a, x = .ref a ∧ IsD H1 a ∧ ty σ H1 fun y H2 => tx σ H2 fun z H3 => ∃ o, DGet H3 a y o ∧ Q (o.getD z) H3) : tDGet2 td ty tx σ H Q := h
theorem g_dinI {td ty : TE} {σ : St} {H : Hp} {Q : VK} (h : ty σ H fun y H1 => td σ H1 fun x H2 => ∃ a o, x = .ref a ∧ DGet H2 a y o ∧ Q (.bl o.isSome) H2) : tDIn ty td σ H Q := h
theorem g_dnotinI {td ty : TE} {σ : St} {H : Hp} {Q : VK} (h : ty σ H fun y H1 => td σ H1 fun x H2 => ∃ a o, x = .ref a ∧ DGet H2 a y o ∧ Q (.bl (!o.isSome)) H2) : tDNotIn ty td σ H Q := h
theorem g_dnewK {σ : St} {H : Hp} {Q : VK} (h : ∀ p, H p = none → Q (.ref p) (upd H p (.dK []))) : tDNewK σ H Q := h
local macro_rules | `(tactic| walk_at "use") => `(tactic| with_reducible first | refine g_dgetI ?_ | refine g_dputI ?_ | refine g_dget1I ?_ | refine g_dget2I ?_ | refine g_dinI ?_ | refine g_dnotinI ?_ | refine g_dnewK ?_)


/-! ### lists of pairs in the heap -/
def tupP (p : Int × Int) : HO := .tup [.int p.1, .int p.2]
def Prs (H : Hp) (vs : List V) (ps : List (Int × Int)) : Prop := vs.length = ps.length ∧ ∀ (i : Nat) p, ps[i]? = some p → ∃ t, vs[i]? = some (V.ref t) ∧ H t = some (tupP p)
theorem Prs.nil {H : Hp} : Prs H [] [] := ⟨rfl, fun i p h => by simp at h⟩
theorem Prs.same {H H' : Hp} {vs : List V} {ps : List (Int × Int)} (h : Prs H vs ps) (s : Same H H') : Prs H' vs ps := ⟨h.1, fun i p e => by
  obtain ⟨t, h1, h2⟩ := h.2 i p e
  exact ⟨t, h1, s _ _ h2⟩⟩
theorem Prs.but {H H' : Hp} {vs : List V} {ps : List (Int × Int)} {a : Addr} {xs : List V} (h : Prs H vs ps) (s : But a H H') (e : H a = some (.lst xs)) : Prs H' vs ps := ⟨h.1, fun i p e2 => by
  obtain ⟨t, h1, h2⟩ := h.2 i p e2
  exact ⟨t, h1, s _ _ (fun z => by rw [z, e] at h2; cases h2) h2⟩⟩
theorem Prs.butD {H H' : Hp} {vs : List V} {ps : List (Int × Int)} {a : Addr} {kvs : List (Key × V)} (h : Prs H vs ps) (s : But a H H') (e : H a = some (.dK kvs)) : Prs H' vs ps := ⟨h.1, fun i p e2 => by
  obtain ⟨t, h1, h2⟩ := h.2 i p e2
  exact ⟨t, h1, s _ _ (fun z => by rw [z, e] at h2; cases h2) h2⟩⟩
theorem Prs.drop {H : Hp} {vs : List V} {ps : List (Int × Int)} (h : Prs H vs ps) (k : Nat) : Prs H (vs.drop k) (ps.drop k) := ⟨by rw [List.length_drop, List.length_drop, h.1], fun i p e => by
  rw [List.getElem?_drop] at e ⊢
  exact h.2 _ p e⟩
theorem Prs.take {H : Hp} {vs : List V} {ps : List (Int × Int)} (h : Prs H vs ps) (k : Nat) : Prs H (vs.take k) (ps.take k) := ⟨by rw [List.length_take, List.length_take, h.1], fun i p e => by
  rw [List.getElem?_take] at e ⊢
  split at e
  · rw [if_pos (by assumption)]
    exact h.2 _ p e
  · cases e⟩
theorem Prs.app {H : Hp} {vs us : List V} {ps qs : List (Int × Int)} (h : Prs H vs ps) (h' : Prs H us qs) : Prs H (vs ++ us) (ps ++ qs) := ⟨by rw [List.length_append, List.length_append, h.1, h'.1], fun i p e => by
  by_cases hi : i < ps.length
  · rw [List.getElem?_append_left hi] at e
    rw [List.getElem?_append_left (by rw [h.1]; exact hi)]
    exact h.2 i p e
  · rw [List.getElem?_append_right (by omega)] at e
    rw [List.getElem?_append_right (by rw [h.1]; omega), h.1]
    exact h'.2 _ p e⟩
theorem Prs.one {H : Hp} {t : Addr} {p : Int × Int} (h : H t = some (tupP p)) : Prs H [V.ref t] [p] := ⟨rfl, fun i q e => by
  match i, e with
  | 0, e => exact ⟨t, rfl, by rw [← Option.some.inj e]; exact h⟩⟩
theorem Prs.cons {H : Hp} {t : Addr} {p : Int × Int} {vs : List V} {ps : List (Int × Int)} (h : H t = some (tupP p)) (h' : Prs H vs ps) : Prs H (V.ref t :: vs) (p :: ps) := (Prs.one h).app h'
theorem Prs.set {H : Hp} {t : Addr} {p : Int × Int} {vs : List V} {ps : List (Int × Int)} (h' : Prs H vs ps) (j : Nat) (h : H t = some (tupP p)) : Prs H (vs.set j (V.ref t)) (ps.set j p) := ⟨by rw [List.length_set, List.length_set, h'.1], fun i q e => by
  by_cases hij : j = i
  · subst hij
    have hl : j < ps.length := by
      obtain ⟨z, _⟩ := List.getElem?_eq_some_iff.mp e
      rw [List.length_set] at z
      exact z
    rw [List.getElem?_set_self hl] at e
    rw [List.getElem?_set_self (by rw [h'.1]; exact hl)]
    exact ⟨t, rfl, by rw [← Option.some.inj e]; exact h⟩
  · rw [List.getElem?_set_ne hij] at e ⊢
    exact h'.2 i q e⟩
theorem cut_nat {xs : List V} {a b : Nat} (hab : a ≤ b) (hb : b ≤ xs.length) : cutV xs (some (a : Int)) (some (b : Int)) = (xs.drop a).take (b - a) := by
  unfold cutV
  rw [HT.sIx_nat, HT.sIx_nat, Nat.min_eq_left (a := a) (by omega), Nat.min_eq_left hb]
theorem cut_to {xs : List V} {b : Nat} (hb : b ≤ xs.length) : cutV xs none (some (b : Int)) = xs.take b := by
  unfold cutV
  rw [HT.sIx_none, HT.sIx_nat, Nat.min_eq_left hb, List.drop_zero, Nat.sub_zero]
theorem cut_from {xs : List V} {a : Nat} (ha : a ≤ xs.length) : cutV xs (some (a : Int)) none = xs.drop a := by
  unfold cutV
  rw [HT.sIx_nat, HT.sIx_none, Nat.min_eq_left ha]
  exact List.take_of_length_le (by rw [List.length_drop]; omega)
/-! == of lists of pairs -/
section
variable {K : PySem.W.Frag} {H : Hp}
def datP (p : Int × Int) : PyData := .tuple [.int p.1, .int p.2]
theorem dp_pair {t : Addr} {p : Int × Int} (h : H t = some (tupP p)) : Dp K H (.ref t) (datP p) := .tup (st h) (.cons (.int _) (.cons (.int _) .nil))
theorem dpAll_pairs : ∀ {vs : List V} {ps : List (Int × Int)}, Prs H vs ps → DpAll K H vs (ps.map datP)
  | [], [], _ => .nil
  | [], _ :: _, h => by have := h.1; simp at this
  | _ :: _, [], h => by have := h.1; simp at this
  | v :: vs, p :: ps, h => by
    obtain ⟨t, h1, h2⟩ := h.2 0 p rfl
    have e : v = V.ref t := Option.some.inj h1
    subst e
    exact .cons (dp_pair h2) (dpAll_pairs (h.drop 1))
theorem lay_pairs : ∀ {ps : List (Int × Int)}, PyData.canLayAll0 (ps.map datP) = true
  | [] => rfl
  | p :: ps => by
    show ((true && (true && true)) && PyData.canLayAll0 (ps.map datP)) = true
    rw [lay_pairs]; rfl
theorem depth_pairs : ∀ {ps : List (Int × Int)}, PyData.depthAll (ps.map datP) ≤ 1
  | [] => by show 0 ≤ 1; decide
  | p :: ps => by
    show max (max 0 (max 0 0) + 1) (PyData.depthAll (ps.map datP)) ≤ 1
    have := depth_pairs (ps := ps)
    omega
theorem shaped_pairs {ps : List (Int × Int)} : SeqAt.shaped (.list (ps.map datP)) = true := by
  show (PyData.canLayAll0 (ps.map datP) && decide (PyData.depthAll (ps.map datP) + 1 ≤ 64)) = true
  have := depth_pairs (ps := ps)
  rw [lay_pairs, decide_eq_true (by omega)]; rfl
theorem eqv_pair {p q : Int × Int} : PyData.eqv (datP p) (datP q) = decide (p = q) := by
  show ((p.1 == q.1) && ((p.2 == q.2) && true)) = decide (p = q)
  rw [Bool.eq_iff_iff]
  simp [Prod.ext_iff]
theorem eqvAll_pairs : ∀ {ps qs : List (Int × Int)}, PyData.eqvAll (ps.map datP) (qs.map datP) = decide (ps = qs)
  | [], [] => rfl
  | [], _ :: _ => rfl
  | _ :: _, [] => rfl
  | p :: ps, q :: qs => by
    show (PyData.eqv (datP p) (datP q) && PyData.eqvAll (ps.map datP) (qs.map datP)) = decide (p :: ps = q :: qs)
    rw [eqvAll_pairs, eqv_pair, Bool.eq_iff_iff]
    simp
theorem g_nePL {Q : VK} {a b : Addr} {vs us : List V} {ps qs : List (Int × Int)} (h1 : SqL K H a vs) (p1 : Prs H vs ps) (h2 : SqL K H b us) (p2 : Prs H us qs) (q : Q (.bl (!decide (ps = qs))) H) : rNeD K (.ref a) (.ref b) H Q :=
  ⟨.list (ps.map datP), .list (qs.map datP), .lst h1 (dpAll_pairs p1), .lst h2 (dpAll_pairs p2), shaped_pairs, shaped_pairs, by rw [show PyData.eqv (.list (ps.map datP)) (.list (qs.map datP)) = decide (ps = qs) from eqvAll_pairs]; exact q⟩
theorem g_eqPL {Q : VK} {a b : Addr} {vs us : List V} {ps qs : List (Int × Int)} (h1 : SqL K H a vs) (p1 : Prs H vs ps) (h2 : SqL K H b us) (p2 : Prs H us qs) (q : Q (.bl (decide (ps = qs))) H) : rEqD K (.ref a) (.ref b) H Q :=
  ⟨.list (ps.map datP), .list (qs.map datP), .lst h1 (dpAll_pairs p1), .lst h2 (dpAll_pairs p2), shaped_pairs, shaped_pairs, by rw [show PyData.eqv (.list (ps.map datP)) (.list (qs.map datP)) = decide (ps = qs) from eqvAll_pairs]; exact q⟩
theorem g_neP {Q : VK} {a b : Addr} {p r : Int × Int} (h1 : H a = some (tupP p)) (h2 : H b = some (tupP r)) (q : Q (.bl (!decide (p = r))) H) : rNeD K (.ref a) (.ref b) H Q :=
  ⟨datP p, datP r, dp_pair h1, dp_pair h2, rfl, rfl, by rw [eqv_pair]; exact q⟩
end

/-- None or an int -/
def oV : Option Int → V
  | none => .non
  | some i => .int i
/-- None or a pair -/
def StV (H : Hp) : V → Option (Int × Int) → Prop
  | v, none => v = .non
  | v, some p => ∃ t, v = .ref t ∧ H t = some (tupP p)
theorem StV.same {H H' : Hp} {v : V} {o : Option (Int × Int)} (h : StV H v o) (s : Same H H') : StV H' v o := by
  cases o with
  | none => exact h
  | some p =>
    obtain ⟨t, e, h⟩ := h
    exact ⟨t, e, s _ _ h⟩
theorem StV.butD {H H' : Hp} {v : V} {o : Option (Int × Int)} {a : Addr} {kvs : List (Key × V)} (h : StV H v o) (s : But a H H') (e : H a = some (.dK kvs)) : StV H' v o := by
  cases o with
  | none => exact h
  | some p =>
    obtain ⟨t, e1, h⟩ := h
    exact ⟨t, e1, s _ _ (fun z => by rw [z, e] at h; cases h) h⟩

local macro_rules | `(tactic| walk_at "use") => `(tactic| with_reducible first | refine g_gcons ?_ | refine g_gnil ?_)
theorem g_disp {trs : List (TE × TE)} {σ : St} {H : Hp} {Q : VK} (h : ∀ p, H p = none → tPairs trs σ (upd H p (.dK [])) fun ps H2 => H2 p = some (.dK []) ∧ ∃ kvs : List (Key × V), ps = kvs.map (fun kv => (kV kv.1, kv.2)) ∧ kvs.length ≤ 15 ∧ Q (.ref p) (upd H2 p (.dK (mergeK [] kvs)))) : tDisp trs σ H Q := h
theorem g_pcons {tk tv : TE} {r : List (TE × TE)} {σ : St} {H : Hp} {Q : List (V × V) → Hp → Prop} (h : tk σ H fun x H1 => tv σ H1 fun y H2 => tPairs r σ H2 fun ps H3 => Q ((x, y) :: ps) H3) : tPairs ((tk, tv) :: r) σ H Q := h
theorem g_pnil {σ : St} {H : Hp} {Q : List (V × V) → Hp → Prop} (q : Q [] H) : tPairs [] σ H Q := q
local macro_rules | `(tactic| walk_at "use") => `(tactic| with_reducible first | refine g_disp ?_ | refine g_pcons ?_ | refine g_pnil ?_)
local macro_rules | `(tactic| walk_at "use") => `(tactic| with_reducible refine u_cell (by assumption) (by omega) ?_)

/-! ### an expression that changes nothing, by its value: the ways of a chain are joined -/
def tCutV (t : TE) : TE := fun σ H Q => ∃ v, t σ H (fun v' H' => v' = v ∧ H' = H) ∧ Q v H
theorem pe_cutV {X : Cx} {e : Expr} {t : TE} (h : PE X e t) : PE X e (tCutV t) := by
  refine ⟨fun pins s σ H Q I hq => ?_⟩
  obtain ⟨v, hv, q⟩ := hq
  refine thn (h.run pins s σ H _ I hv) fun u s1 ⟨x, H1, I1, rx, e1, e2⟩ => ?_
  subst e1
  subst e2
  exact ⟨_, _, I1, rx, q⟩
theorem g_cutV {t : TE} {σ : St} {H : Hp} {Q : VK} (v : V) (h : t σ H fun v' H' => v' = v ∧ H' = H) (q : Q v H) : tCutV t σ H Q := ⟨v, h, q⟩
local macro_rules | `(tactic| walk_at "vb") => `(tactic| first | exact ⟨congrArg V.bl (decide_eq_decide.mpr (by omega)), rfl⟩ | exact ⟨congrArg V.bl (decide_eq_false (by omega)).symm, rfl⟩ | exact ⟨congrArg V.bl (decide_eq_true (by omega)).symm, rfl⟩)
/-! the same of a test -/
def tCutT (t : TT) : TT := fun σ H P => ∃ b, t σ H (fun b' H' => b' = b ∧ H' = H) ∧ P b H
theorem pt_cutT {X : Cx} {e : Expr} {t : TT} (h : PT X e t) : PT X e (tCutT t) := by
  refine ⟨fun pins s σ H P I hq => ?_⟩
  obtain ⟨b, hb, p⟩ := hq
  refine thn (h.run pins s σ H _ I hb) fun b' s1 ⟨H1, I1, e1, e2⟩ => ?_
  subst e1
  subst e2
  exact ⟨_, I1, p⟩
theorem g_cutT {t : TT} {σ : St} {H : Hp} {P : Bool → Hp → Prop} (b : Bool) (h : t σ H fun b' H' => b' = b ∧ H' = H) (p : P b H) : tCutT t σ H P := ⟨b, h, p⟩

local macro_rules | `(tactic| walk_at "use") => `(tactic| with_reducible first | refine g_dgetI ?_ | refine g_dputI ?_ | refine g_dget1I ?_ | refine g_dget2I ?_ | refine g_dinI ?_ | refine g_dnotinI ?_ | refine g_dnewK ?_)

/-! ### read_options: what options say -/
def vl (ns : List Int) : Int := ns.foldl (fun v x => 256 * v + x) 0
theorem vl_take {ns : List Int} {i : Nat} {x : Int} (h : ns[i]? = some x) : vl (ns.take (i + 1)) = 256 * vl (ns.take i) + x := by
  unfold vl
  rw [List.take_add_one, h, List.foldl_append]
  rfl
def sp_read_number (K : PySem.W.Frag) : Sp := fun vs H Q _ => ∃ (a : Addr) (ns : List Int), vs = [.ref a] ∧ SqL K H a (ns.map V.int) ∧ Q (.int (vl ns)) H
theorem u_read {a : Addr} {ns : List Int} {H Q E} (h : SqL K H a (ns.map V.int)) (q : Q (.int (vl ns)) H) : sp_read_number K ([.ref a] ++ []) H Q E := ⟨a, ns, rfl, h, q⟩
theorem ok_read_number (T : Txt P K mg) : FnOk P w K mg base CX0 1 T.f_read_number T.d_read_number ["octets"] (sp_read_number K) := by
  refine T.F_read_number.ok sc_read_number (fun vs H Q E h => ?_) (fun cdv A outer s H vs Q E hr h => ?_)
  · obtain ⟨a, ns, rfl, h, q⟩ := h
    rfl
  · obtain ⟨a, ns, rfl, h, q⟩ := h
    have hu := hu_of hr
    refine ⟨_, (pss_cons (ps_set (i := 1) sc_read_number.nd rfl (Or.inl rfl) pe_int)
        (pss_cons (ps_for PassesOwn.never rfl (pi_list (pv 0)) (pg_name (i := 2) sc_read_number.nd rfl (Or.inl rfl)) (pss_one (ps_set (i := 1) sc_read_number.nd rfl (Or.inl rfl) (pe_op op_add (pe_op op_mul pe_int (pv 1)) (pv 2)))))
        (pss_one (ps_ret (pv 1))))), ?_⟩
    dsimp only [cxOf, Cx.nox, Cx.wish, L2.start, List.map, List.cons_append, List.nil_append, List.length_cons, List.length_nil, Nat.reduceAdd, Nat.reduceSub, Nat.zero_add, List.replicate_succ, List.replicate_zero]
    walk_at "go"
    refine for_l (xs := ns.map V.int) (fun i σ H' => H' = H ∧ ∃ v, σ = [some (.ref a), some (.int (vl (ns.take i))), v]) h ⟨rfl, none, rfl⟩ (fun i σ H' _ ⟨e, _⟩ => by rw [e]; exact h) ?turn ?done ?ev
    case ev =>
      intro R r
      walk_at "go"
      exact r
    case done =>
      rintro σ H' ⟨rfl, v, rfl⟩
      rw [List.length_map, List.take_length]
      walk_at "go"
      exact q
    case turn =>
      rintro i x σ H' hx ⟨rfl, v, rfl⟩
      obtain ⟨z, hz, rfl⟩ := map_get hx
      walk_at "go"
      refine ⟨rfl, some (.int z), ?_⟩
      rw [vl_take hz]

def lensOf (k : Int) : Option (List Int) := if k = 2 then some [2] else if k = 3 then some [1] else if k = 4 then some [0] else if k = 5 then some [8, 16, 24, 32] else if k = 8 then some [8] else if k = 253 then some [6, 10] else none
theorem lens_cases {k : Int} {ws : List Int} (h : lensOf k = some ws) : (k = 2 ∧ ws = [2]) ∨ (k = 3 ∧ ws = [1]) ∨ (k = 4 ∧ ws = [0]) ∨ (k = 5 ∧ ws = [8, 16, 24, 32]) ∨ (k = 8 ∧ ws = [8]) ∨ (k = 253 ∧ ws = [6, 10]) := by
  unfold lensOf at h
  by_cases c : k = 2
  · rw [if_pos c] at h; cases h; exact .inl ⟨c, rfl⟩
  rw [if_neg c] at h
  by_cases c : k = 3
  · rw [if_pos c] at h; cases h; exact .inr (.inl ⟨c, rfl⟩)
  rw [if_neg c] at h
  by_cases c : k = 4
  · rw [if_pos c] at h; cases h; exact .inr (.inr (.inl ⟨c, rfl⟩))
  rw [if_neg c] at h
  by_cases c : k = 5
  · rw [if_pos c] at h; cases h; exact .inr (.inr (.inr (.inl ⟨c, rfl⟩)))
  rw [if_neg c] at h
  by_cases c : k = 8
  · rw [if_pos c] at h; cases h; exact .inr (.inr (.inr (.inr (.inl ⟨c, rfl⟩))))
  rw [if_neg c] at h
  by_cases c : k = 253
  · rw [if_pos c] at h; cases h; exact .inr (.inr (.inr (.inr (.inr ⟨c, rfl⟩))))
  rw [if_neg c] at h
  cases h
theorem lens_none {k : Int} (h : lensOf k = none) : k ∉ ([2, 3, 4, 5, 8, 253] : List Int) := by
  intro z
  simp only [List.mem_cons, List.not_mem_nil, or_false] at z
  rcases z with rfl | rfl | rfl | rfl | rfl | rfl <;> cases h
theorem lens_T (T : Txt P K mg) {k : Int} {ws : List Int} (h : lensOf k = some ws) : ∃ (t : Addr) (u : Value), fI T.de_BODY_LENGTHS k = some u ∧ RelV (.ref t) u ∧ ∀ H : Hp, SqT K H t (ws.map V.int) := by
  rcases lens_cases h with ⟨rfl, rfl⟩ | ⟨rfl, rfl⟩ | ⟨rfl, rfl⟩ | ⟨rfl, rfl⟩ | ⟨rfl, rfl⟩ | ⟨rfl, rfl⟩
  · obtain ⟨u, e, r⟩ := T.ik_BODY_LENGTHS_2; exact ⟨_, u, e, r, T.es_BODY_LENGTHS_2⟩
  · obtain ⟨u, e, r⟩ := T.ik_BODY_LENGTHS_3; exact ⟨_, u, e, r, T.es_BODY_LENGTHS_3⟩
  · obtain ⟨u, e, r⟩ := T.ik_BODY_LENGTHS_4; exact ⟨_, u, e, r, T.es_BODY_LENGTHS_4⟩
  · obtain ⟨u, e, r⟩ := T.ik_BODY_LENGTHS_5; exact ⟨_, u, e, r, T.es_BODY_LENGTHS_5⟩
  · obtain ⟨u, e, r⟩ := T.ik_BODY_LENGTHS_8; exact ⟨_, u, e, r, T.es_BODY_LENGTHS_8⟩
  · obtain ⟨u, e, r⟩ := T.ik_BODY_LENGTHS_253; exact ⟨_, u, e, r, T.es_BODY_LENGTHS_253⟩
theorem lens_in (T : Txt P K mg) (k : Int) : (fI T.de_BODY_LENGTHS k).isSome = (lensOf k).isSome := by
  cases h : lensOf k with
  | none => rw [T.nk_BODY_LENGTHS k (lens_none h)]; rfl
  | some ws => obtain ⟨t, u, e, _⟩ := lens_T T h; rw [e]; rfl
def knownO (k : Int) (b : List Int) : Bool := if k = 253 then decide (b.take 2 = [83, 85]) else (lensOf k).isSome
def okLen (k : Int) (n : Nat) : Bool := match lensOf k with
  | some ws => decide ((n : Int) ∈ ws)
  | none => false
theorem known_lens {k : Int} {b : List Int} (h : knownO k b = true) : (lensOf k).isSome = true := by
  unfold knownO at h
  by_cases c : k = 253
  · subst c; rfl
  · rw [if_neg c] at h; exact h
theorem g_eqTT {H : Hp} {Q : VK} {a b : Addr} {ns ms : List Int} (h1 : SqT K H a (ns.map V.int)) (h2 : SqT K H b (ms.map V.int)) (q : Q (.bl (decide (ns = ms))) H) : rEqD K (.ref a) (.ref b) H Q :=
  ⟨_, _, .tup h1 dpAll_ints, .tup h2 dpAll_ints, shaped_ints, shaped_ints, by rw [show PyData.eqv (.tuple (ns.map PyData.int)) (.tuple (ms.map PyData.int)) = decide (ns = ms) from eqvAll_ints]; exact q⟩
theorem inV_intR {s : Int} : ∀ {ws : List Int}, inV (.int s) (ws.map V.int) = decide (s ∈ ws)
  | [] => (decide_eq_false (by simp)).symm
  | t :: ws => by
    show ((t == s) || inV (.int s) (ws.map V.int)) = _
    rw [inV_intR, Bool.eq_iff_iff]
    simp only [Bool.or_eq_true, beq_iff_eq, decide_eq_true_eq, List.mem_cons]
    exact ⟨fun h => h.imp Eq.symm id, fun h => h.imp Eq.symm id⟩
theorem flat_intsR : ∀ {ws : List Int}, (ws.map V.int).all flatV = true
  | [] => rfl
  | _ :: ws => flat_intsR (ws := ws)
theorem g_ninI {H : Hp} {Q : VK} {p : Addr} {ws : List Int} {s : Int} (h : SqT K H p (ws.map V.int)) (q : Q (.bl (!decide (s ∈ ws))) H) : rIn K true (.int s) (.ref p) H Q :=
  ⟨p, _, rfl, .inr h, rfl, flat_intsR, by rw [if_pos rfl, inV_intR]; exact q⟩
def sp_is_known (K : PySem.W.Frag) : Sp := fun vs H Q _ => ∃ (k : Int) (l : Addr) (b : List Int), vs = [.int k, .ref l] ∧ SqL K H l (b.map V.int) ∧ ∀ H', Same H H' → Q (.bl (knownO k b)) H'
theorem u_isknown {k : Int} {l : Addr} {b : List Int} {H Q E} (h : SqL K H l (b.map V.int)) (q : ∀ H', Same H H' → Q (.bl (knownO k b)) H') : sp_is_known K ([.int k, .ref l] ++ []) H Q E := ⟨k, l, b, rfl, h, q⟩
theorem ok_is_known (T : Txt P K mg) : FnOk P w K mg base CX0 1 T.f_is_known T.d_is_known ["kind", "body"] (sp_is_known K) := by
  refine T.F_is_known.ok sc_is_known (fun vs H Q E h => ?_) (fun cdv A outer s H vs Q E hr h => ?_)
  · obtain ⟨k, l, b, rfl, h, q⟩ := h
    rfl
  · obtain ⟨k, l, b, rfl, h, q⟩ := h
    have hu := hu_of hr
    refine ⟨_, (pss_cons (ps_if (pt_cmpR op_eq (pv 0) (pe_glob (v := .int 253) (by rfl) T.v_COUNT ⟨_, rfl⟩) (nomark _)) (pss_one (ps_ret (pe_cmpR (op_eqD hr.units) (pe_callTy call_tuple_of (by rfl) T.n_tuple (by decide +kernel) (pa_cons (pe_slice sl_list (pv 1) po_none (po_some (pe_callB call_len_seq (by rfl) T.n_len (by decide +kernel) (pa_cons (pe_glob (v := .ref T.t_COUNT_MARK) (by rfl) T.v_COUNT_MARK rfl) pa_nil)))) pa_nil)) (pe_glob (v := .ref T.t_COUNT_MARK) (by rfl) T.v_COUNT_MARK rfl) (nomark _)))) pss_nil)
        (pss_one (ps_ret (pe_cmpR (op_inI T.kd_BODY_LENGTHS) (pv 0) (pe_glob (v := .ref T.t_BODY_LENGTHS) (by rfl) T.v_BODY_LENGTHS rfl) (by with_unfolding_all rfl))))), ?_⟩
    dsimp only [cxOf, Cx.nox, Cx.wish, L2.start, List.map, List.cons_append, List.nil_append, List.length_cons, List.length_nil, Nat.reduceAdd, Nat.reduceSub, Nat.zero_add, List.replicate_succ, List.replicate_zero]
    unfold knownO at q
    walk_at "go"
    refine g_ite (fun c => ?_) (fun c => ?_)
    · rw [if_pos c] at q
      walk_at "go"
      refine g_len (.inr (T.es_COUNT_MARK _)) ?_
      walk_at "go"
      refine g_slL h fun p np => ?_
      rw [show ((([V.int 83, V.int 85] : List V).length : Nat) : Int) = ((2 : Nat) : Int) from rfl, cut_lo, ← List.map_take]
      walk_at "nw"
      rename_i H1 s1 k1
      walk_at "go"
      refine ⟨p, _, rfl, .inl ⟨sl k1, fun t nt => ?_⟩⟩
      walk_at "nw"
      rename_i H2 s2 k2
      walk_at "go"
      refine g_eqTT (ms := [83, 85]) (st k2) (T.es_COUNT_MARK H2) ?_
      walk_at "go"
      exact q _ (s1.trans s2)
    · rw [if_neg c] at q
      walk_at "go"
      refine g_inI ?_
      rw [lens_in T]
      exact q _ fun _ _ z => z
abbrev Bod := Int → Option (List Int)
def putB (f : Bod) (k : Int) (b : List Int) : Bod := fun j => if j = k then some b else f j
def rbs : List (Int × List Int) → Bod → Option Bod
  | [], f => some f
  | (k, b) :: r, f => if knownO k b then (if (f k).isSome || !okLen k b.length then none else rbs r (putB f k b)) else rbs r f
theorem rbs_cons {k : Int} {b : List Int} {r : List (Int × List Int)} {f : Bod} : rbs ((k, b) :: r) f = if knownO k b then (if (f k).isSome || !okLen k b.length then none else rbs r (putB f k b)) else rbs r f := rfl
def BodO (d : Addr) (H : Hp) (f : Bod) (n : Nat) : Prop := ∃ g : Int → Option Addr, Dk H d (fun k => (g k).map V.ref) n ∧ ∀ k, (f k = none ∧ g k = none) ∨ ∃ b l, f k = some b ∧ g k = some l ∧ H l = some (.lst (b.map V.int)) ∧ l ≠ d
theorem BodO.same {d : Addr} {H H' : Hp} {f : Bod} {n : Nat} (h : BodO d H f n) (s : Same H H') : BodO d H' f n := by
  obtain ⟨g, h1, h2⟩ := h
  refine ⟨g, h1.same s, fun k => ?_⟩
  rcases h2 k with h | ⟨b, l, e1, e2, e3, e4⟩
  · exact .inl h
  · exact .inr ⟨b, l, e1, e2, s _ _ e3, e4⟩
theorem BodO.get {d : Addr} {H : Hp} {f : Bod} {n : Nat} (h : BodO d H f n) (k : Int) : (f k = none ∧ DGet H d (.int k) none) ∨ ∃ b l, f k = some b ∧ H l = some (.lst (b.map V.int)) ∧ l ≠ d ∧ DGet H d (.int k) (some (.ref l)) := by
  obtain ⟨g, h1, h2⟩ := h
  have z := h1.get k
  rcases h2 k with ⟨e1, e2⟩ | ⟨b, l, e1, e2, e3, e4⟩
  · rw [e2] at z; exact .inl ⟨e1, z⟩
  · rw [e2] at z; exact .inr ⟨b, l, e1, e3, e4, z⟩
theorem BodO.isD {d : Addr} {H : Hp} {f : Bod} {n : Nat} (h : BodO d H f n) : IsD H d := by
  obtain ⟨g, h1, _⟩ := h
  exact h1.isD
theorem BodO.put {d l : Addr} {H : Hp} {f : Bod} {n : Nat} (h : BodO d H f n) (hn : n < 100000) (k : Int) {b : List Int} (e : H l = some (.lst (b.map V.int))) : ∃ H', DPut H d (.int k) (.ref l) H' ∧ But d H H' ∧ BodO d H' (putB f k b) (n + 1) := by
  obtain ⟨g, h1, h2⟩ := h
  obtain ⟨H', p1, p2, p3⟩ := h1.put hn k (.ref l)
  have nd : l ≠ d := by
    obtain ⟨kvs, ed, _⟩ := h1
    exact fun z => by rw [z, ed] at e; cases e
  refine ⟨H', p1, p2, fun j => if j = k then some l else g j, ?_, fun j => ?_⟩
  · have : (fun j => Option.map V.ref (if j = k then some l else g j)) = fun j => if j = k then some (V.ref l) else (g j).map V.ref := funext fun j => by split <;> rfl
    rw [this]
    exact p3
  · unfold putB
    dsimp only
    by_cases c : j = k
    · rw [if_pos c, if_pos c]; exact .inr ⟨b, l, rfl, rfl, p2 _ _ nd e, nd⟩
    · rw [if_neg c, if_neg c]
      rcases h2 j with h | ⟨b', l', e1, e2, e3, e4⟩
      · exact .inl h
      · exact .inr ⟨b', l', e1, e2, p2 _ _ e4 e3, e4⟩
def sp_read_bodies (K : PySem.W.Frag) (C : Addr) : Sp := fun vs H Q E => ∃ (a : Addr) (us : List V) (os : List (Int × List Int)), vs = [.ref a] ∧ H a = some (.lst us) ∧ OptL a H us os ∧ os.length ≤ 1000 ∧
  (∀ f, rbs os (fun _ => none) = some f → ∀ H' d, H d = none → Same H H' → BodO d H' f 1000 → Q (.ref d) H') ∧ (rbs os (fun _ => none) = none → Bad C H E)
theorem BodO.le {d : Addr} {H : Hp} {f : Bod} {n m : Nat} (h : BodO d H f n) (hm : n ≤ m) : BodO d H f m := by
  obtain ⟨g, ⟨kvs, h1, h2, h3⟩, h4⟩ := h
  exact ⟨g, ⟨kvs, h1, Nat.le_trans h2 hm, h3⟩, h4⟩
theorem ok_read_bodies (T : Txt P K mg) : FnOk P w K mg base (L2.CX P w) 3 T.f_read_bodies T.d_read_bodies ["options"] (sp_read_bodies K T.C_DamagedSegment) := by
  refine T.F_read_bodies.okX sc_read_bodies (fun vs H Q E h => ?_) (fun cdv A outer s H vs Q E hr h => ?_)
  · obtain ⟨a, us, os, rfl, ha, hO, hl, q1, q2⟩ := h
    rfl
  · obtain ⟨a, us, os, rfl, ha, hO, hl, q1, q2⟩ := h
    have hu := hu_of hr
    refine ⟨_, (pss_cons (ps_set (i := 1) sc_read_bodies.nd rfl (Or.inl rfl) pe_dnewK)
        (pss_cons (ps_for (passes_of rfl) rfl (pi_list (pv 0)) (pg_tup rfl (pgs_cons (pg_name (i := 2) sc_read_bodies.nd rfl (Or.inl rfl)) (pgs_cons (pg_name (i := 3) sc_read_bodies.nd rfl (Or.inl rfl)) pgs_nil))) (pss_one (ps_if (pt_val (pe_call (ok_is_known T) (hr.mono (by decide)) rfl T.m_is_known T.F_is_known.kp T.b_is_known .nil pass0 (pa_cons (pv 2) (pa_cons (pv 3) pa_nil)))) (pss_cons (ps_if (PW.pt (pw_or (pt_cmp (pc_din hu (pv 2) (pv 1))) (pw_or1 (pt_cmpR op_notIn_seq (pe_callB call_len_seq (by rfl) T.n_len (by decide +kernel) (pa_cons (pv 3) pa_nil)) (pe_ix (ix_dI T.kd_BODY_LENGTHS) (pe_glob (v := .ref T.t_BODY_LENGTHS) (by rfl) T.v_BODY_LENGTHS rfl) (pv 2) (fun _ _ => rfl)) (by with_unfolding_all rfl))))) (pss_one (ps_rs rfl (takes_of rfl rfl rfl rfl) (pmk_oex T.F_DamagedSegment_init__.sup.oex T.iC_DamagedSegment T.tI_DamagedSegment (ok_DamagedSegment_init__ T) (hr.mono (by decide)) T.b_DamagedSegment_init__ .nil pass0 rfl T.c_DamagedSegment (pa_cons (pe_glob (v := .str (PySem.Str.ofString "wrong options")) (by rfl) T.v_WRONG_OPTIONS ⟨_, rfl⟩) pa_nil)))) pss_nil)
        (pss_one (ps_dput hu (pv 1) (pv 2) (pv 3) rfl))) pss_nil)))
        (pss_one (ps_ret (pv 1))))), ?_⟩
    dsimp only [cxOf, Cx.nox, Cx.wish, L2.start, List.map, List.cons_append, List.nil_append, List.length_cons, List.length_nil, Nat.reduceAdd, Nat.reduceSub, Nat.zero_add, List.replicate_succ, List.replicate_zero]
    walk_at "go"
    intro d nd
    walk_at "nw"
    rename_i H1 s1 k1
    walk_at "go"
    have hlen := hO.1
    refine for_l (xs := us) (fun i σ H' => ∃ (f : Bod) (v2 v3 : Option V), σ = [some (.ref a), some (.ref d), v2, v3] ∧ Same H H' ∧ BodO d H' f i ∧ rbs (os.drop i) f = rbs os (fun _ => none)) (sl (s1 _ _ ha)) ⟨fun _ => none, none, none, rfl, s1, ⟨fun _ => none, Dk.new k1, fun k => .inl ⟨rfl, rfl⟩⟩, rfl⟩ (fun i σ H' _ ⟨_, _, _, _, s, _⟩ => sl (s _ _ ha)) ?turn ?done ?ev
    case ev =>
      intro R r
      walk_at "go"
      exact r
    case done =>
      rintro σ H' ⟨f, v2, v3, rfl, s, hB, hr⟩
      rw [List.drop_of_length_le (by omega)] at hr
      walk_at "go"
      exact q1 f hr.symm H' d nd s (hB.le (by omega))
    case turn =>
      rintro i x σ H' hx ⟨f, v2, v3, rfl, s, hB, hr⟩
      have hi : i < os.length := by
        obtain ⟨z, _⟩ := List.getElem?_eq_some_iff.mp hx
        omega
      obtain ⟨k, b, ek⟩ : ∃ k b, os[i]? = some (k, b) := ⟨_, _, List.getElem?_eq_getElem hi⟩
      obtain ⟨t, l, h1, h2, h3, h4⟩ := hO.2 i k b ek
      have ex : x = V.ref t := by rw [h1] at hx; exact (Option.some.inj hx).symm
      subst ex
      have ed : os.drop i = (k, b) :: os.drop (i + 1) := by
        rw [List.drop_eq_getElem_cons hi]
        rw [List.getElem?_eq_getElem hi] at ek
        rw [Option.some.inj ek]
      rw [ed] at hr
      refine g_gtup (xs := [V.int k, V.ref l]) (st (s _ _ h2)) rfl ?_
      walk_at "go"
      refine u_isknown (sl (s _ _ h3)) fun H2 s2 => ?_
      have hB2 := hB.same s2
      have s02 := s.trans s2
      rw [rbs_cons] at hr
      refine ⟨_, rfl, ?_⟩
      refine g_iteB (fun c => ?_) (fun c => ?_)
      · rw [if_pos c] at hr
        walk_at "go"
        obtain ⟨ws, hws⟩ := Option.isSome_iff_exists.mp (known_lens c)
        obtain ⟨tt, u, eu, ru, hT⟩ := lens_T T hws
        have okE : okLen k b.length = decide ((b.length : Int) ∈ ws) := by unfold okLen; rw [hws]
        rw [okE] at hr
        rcases hB2.get k with ⟨e1, hg⟩ | ⟨b', l', e1, e2, e3, hg⟩
        · refine ⟨d, none, rfl, hg, ?_⟩
          walk_at "go"
          refine g_len (.inl (sl (s02 _ _ h3))) ?_
          walk_at "go"
          refine g_ixI eu ru ?_
          rw [List.length_map]
          refine g_ninI (hT _) ?_
          walk_at "go"
          rw [e1] at hr
          refine g_iteNB (fun c2 => ?_) (fun c2 => ?_)
          · rw [if_pos (by rw [c2]; rfl)] at hr
            walk_at "go"
            refine g_mkO ?_
            walk_at "go"
            refine ⟨by show 1 ≤ 1000; decide, fun x nx => ?_⟩
            exact u_bad nx ((q2 hr.symm).same s02)
          · rw [if_neg (by rw [c2]; decide)] at hr
            walk_at "go"
            obtain ⟨H3, p1, p2, p3⟩ := hB2.put (by omega) k (s02 _ _ h3)
            refine ⟨d, H3, rfl, p1, ?_⟩
            walk_at "go"
            exact ⟨putB f k b, _, _, rfl, But.tr2 s02 nd p2, p3, hr⟩
        · refine ⟨d, some (.ref l'), rfl, hg, ?_⟩
          walk_at "go"
          rw [e1, if_pos (by simp)] at hr
          refine g_mkO ?_
          walk_at "go"
          refine ⟨by show 1 ≤ 1000; decide, fun x nx => ?_⟩
          exact u_bad nx ((q2 hr.symm).same s02)
      · rw [if_neg (by rw [c]; decide)] at hr
        walk_at "go"
        exact ⟨f, _, _, rfl, s02, hB2.le (by omega), hr⟩
theorem BodO.getD {d p : Addr} {H : Hp} {f : Bod} {n : Nat} (h : BodO d H f n) (k : Int) (e : H p = some (.lst [])) : ∃ o l, DGet H d (.int k) o ∧ o.getD (V.ref p) = V.ref l ∧ H l = some (.lst (((f k).getD []).map V.int)) := by
  rcases h.get k with ⟨e1, hg⟩ | ⟨b', l', e1, e2, e3, hg⟩
  · exact ⟨none, p, hg, rfl, by rw [e1]; exact e⟩
  · exact ⟨_, l', hg, rfl, by rw [e1]; exact e2⟩
/-- wire numbers -/
def wn (ns : List Int) : List Int := (List.range ((ns.length + 3) / 4)).map fun j => vl ((ns.drop (4 * j)).take 4)
theorem wn_len {ns : List Int} : (wn ns).length = (ns.length + 3) / 4 := by unfold wn; rw [List.length_map, List.length_range]
theorem wn_get {ns : List Int} {j : Nat} (h : j < (ns.length + 3) / 4) : (wn ns)[j]? = some (vl ((ns.drop (4 * j)).take 4)) := by
  unfold wn
  rw [List.getElem?_map, List.getElem?_range h]
  rfl
theorem g_rng3 {ta : TA} {σ : St} {H : Hp} {R : It → Hp → Prop} (h : ta σ H fun vs H1 => ∃ (i j c : Int) (n : Nat), vs = [.int i, .int j, .int c] ∧ RgC i j c n ∧ R (Itc i c n) H1) : iRng3 ta σ H R := h
local macro_rules | `(tactic| walk_at "use") => `(tactic| with_reducible refine g_rng3 ?_)
theorem fitsL {i : Int} (h1 : -4000 ≤ i) (h2 : i ≤ 4000) : Builtin.Range.rangeFitsLong i = true := by
  unfold Builtin.Range.rangeFitsLong
  rw [decide_eq_true (show -(2 ^ 63) ≤ i by omega), decide_eq_true (show i < 2 ^ 63 by omega)]
  rfl
theorem rg4 {n : Nat} (h : n ≤ 1000) : RgC 0 (n : Int) 4 ((n + 3) / 4) := by
  by_cases h0 : n = 0
  · subst h0
    exact ⟨by decide, by decide, by decide +kernel, by decide +kernel⟩
  have e : Builtin.Range.rangeSize 0 (n : Int) 4 = (((n + 3) / 4 : Nat) : Int) := by
    rw [PyProof.Rows.rangeSize_pos (by decide) (by omega)]
    omega
  refine ⟨by decide, by decide, ?_, e⟩
  unfold Builtin.Range.small
  rw [e, fitsL (by decide) (by decide), fitsL (by omega) (by omega), fitsL (by decide) (by decide), fitsL (by omega) (by omega), if_pos (by decide), fitsL (by omega) (by omega), Bool.or_true]
  rfl
def sp_wire_numbers (K : PySem.W.Frag) : Sp := fun vs H Q _ => ∃ (a : Addr) (ns : List Int), vs = [.ref a] ∧ SqL K H a (ns.map V.int) ∧ ns.length ≤ 1000 ∧ ∀ l H', H l = none → Same H H' → H' l = some (.lst ((wn ns).map V.int)) → Q (.ref l) H'
theorem u_wire {a : Addr} {ns : List Int} {H Q E} (h : SqL K H a (ns.map V.int)) (hl : ns.length ≤ 1000) (q : ∀ l H', H l = none → Same H H' → H' l = some (.lst ((wn ns).map V.int)) → Q (.ref l) H') : sp_wire_numbers K ([.ref a] ++ []) H Q E := ⟨a, ns, rfl, h, hl, q⟩
theorem ok_wire_numbers (T : Txt P K mg) : FnOk P w K mg base CX0 2 T.f_wire_numbers T.d_wire_numbers ["octets"] (sp_wire_numbers K) := by
  refine T.F_wire_numbers.ok sc_wire_numbers (fun vs H Q E h => ?_) (fun cdv A outer s H vs Q E hr h => ?_)
  · obtain ⟨a, ns, rfl, h, hl, q⟩ := h
    rfl
  · obtain ⟨a, ns, rfl, h, hl, q⟩ := h
    have hu := hu_of hr
    refine ⟨_, (pss_one (ps_ret (pe_lc (own := [("at", 1)]) (g := gName 1) (tt := tYes) rfl sc_wire_numbers.nd (pi_range3 (by rfl) T.n_range (pa_cons pe_int (pa_cons (pe_callB call_len_seq (by rfl) T.n_len (by decide +kernel) (pa_cons (pv 0) pa_nil)) (pa_cons pe_int pa_nil)))) (blkOk_by (N := ["octets", "at"]) (sc := defScope s_wire_numbers) (by decide +kernel)) (fun _ _ _ _ _ => (pg_name (i := 1) sc_wire_numbers.nd rfl (Or.inl rfl))) (fun _ _ _ _ _ => pts_nil) (fun _ _ _ _ _ => (pe_call (ok_read_number T) (hr.mono (by decide)) rfl T.m_read_number T.F_read_number.kp T.b_read_number .nil pass0 (pa_cons (pe_slice (r := rSlL K) sl_list (pv 0) (po_some (pv 1)) (po_some (pe_op op_add (pv 1) pe_int))) pa_nil)))))), ?_⟩
    dsimp only [cxOf, Cx.nox, Cx.wish, L2.start, List.map, List.cons_append, List.nil_append, List.length_cons, List.length_nil, Nat.reduceAdd, Nat.reduceSub, Nat.zero_add, List.replicate_succ, List.replicate_zero]
    walk_at "go"
    refine g_len (.inl h) ?_
    walk_at "go"
    rw [List.length_map]
    refine ⟨0, _, 4, _, rfl, rg4 hl, ?_⟩
    intro D hD
    refine lc_vals walk_rangeC ((wn ns).map V.int) hD (by rw [List.length_map, wn_len]) (fun _ _ => trivial) ?turn ?done
    case turn =>
      rintro i x H3 H4 hi2 p ⟨rfl, rfl⟩
      refine ⟨rfl, ?_⟩
      walk_at "go"
      rw [show (0 : Int) + (i : Int) * 4 = ((4 * i : Nat) : Int) by omega, show ((4 * i : Nat) : Int) + 4 = ((4 * i + 4 : Nat) : Int) by omega]
      refine g_slL (p.1.seq h) fun l nl => ?_
      rw [cut_ab, ← List.map_drop, ← List.map_take, show 4 * i + 4 - 4 * i = 4 by omega]
      walk_at "nw"
      rename_i H5 s5 k5
      walk_at "go"
      refine u_read (sl k5) ?_
      refine lc_next hD (p.same s5) (by rw [List.length_map, wn_len]; omega) ?_
      rw [List.getElem?_map, wn_get hi2]
      rfl
    case done =>
    intro H3 s3 e3
    walk_at "go"
    exact q D H3 hD s3 e3
theorem Spl.len {ns : List Int} {x : Option (List (Int × List Int))} (h : Spl ns x) : ∀ {os}, x = some os → os.length ≤ ns.length := by
  induction h with
  | nil => intro os e; cases e; exact Nat.le_refl _
  | zero h => intro os e; cases e; exact Nat.zero_le _
  | zbad h => intro os e; cases e
  | fill h ih => intro os e; have := ih e; rw [List.length_cons]; omega
  | one h0 h1 => intro os e; cases e
  | bad h0 h1 h => intro os e; cases e
  | @opt k b r x h0 h1 h ih =>
    intro os e
    cases x with
    | none => cases e
    | some os' =>
      cases e
      have := ih rfl
      rw [List.length_cons, List.length_cons, List.length_cons, List.length_append]
      omega
theorem rbs_ok : ∀ {os : List (Int × List Int)} {f0 f : Bod}, rbs os f0 = some f → (∀ k b, f0 k = some b → knownO k b = true ∧ okLen k b.length = true) → ∀ k b, f k = some b → knownO k b = true ∧ okLen k b.length = true
  | [], f0, f, h, h0, k, b, e => by cases h; exact h0 k b e
  | (k0, b0) :: r, f0, f, h, h0, k, b, e => by
    unfold rbs at h
    by_cases c : knownO k0 b0 = true
    · rw [if_pos c] at h
      by_cases c2 : ((f0 k0).isSome || !okLen k0 b0.length) = true
      · rw [if_pos c2] at h; cases h
      · rw [if_neg c2] at h
        refine rbs_ok h (fun k' b' e' => ?_) k b e
        unfold putB at e'
        by_cases c3 : k' = k0
        · rw [if_pos c3] at e'
          cases e'
          subst c3
          refine ⟨c, ?_⟩
          cases z : okLen k' b0.length with
          | true => rfl
          | false => exact absurd (by rw [z]; simp) c2
        · rw [if_neg c3] at e'
          exact h0 k' b' e'
    · rw [if_neg c] at h
      exact rbs_ok h h0 k b e
theorem okLen_le {k : Int} {n : Nat} (h : okLen k n = true) : n ≤ 32 := by
  unfold okLen at h
  cases e : lensOf k with
  | none => rw [e] at h; cases h
  | some ws =>
    rw [e] at h
    have h := of_decide_eq_true h
    rcases lens_cases e with ⟨rfl, rfl⟩ | ⟨rfl, rfl⟩ | ⟨rfl, rfl⟩ | ⟨rfl, rfl⟩ | ⟨rfl, rfl⟩ | ⟨rfl, rfl⟩ <;> simp only [List.mem_cons, List.not_mem_nil, or_false] at h <;> omega
structure Opn where
  mss : Option Int
  scale : Option Int
  kn : Bool
  rs : List (Int × Int)
  stamp : Option (Int × Int)
  count : Option Int
  echo : Option Int
def pr8 (b : List Int) : Int × Int := (vl (b.take 4), vl (b.drop 4))
def prs8 (b : List Int) : List (Int × Int) := (List.range (b.length / 8)).map fun j => pr8 ((b.drop (8 * j)).take 8)
def opOf (f : Bod) : Opn := ⟨(f 2).map vl, (f 3).map fun b => min 14 (vl b), (f 4).isSome, prs8 ((f 5).getD []), (f 8).map pr8, (f 253).map fun b => vl ((b.drop 2).take 4), (f 253).bind fun b => if b.length = 10 then some (vl (b.drop 6)) else none⟩
def opKv (o : Opn) (r sv : V) : List (Key × V) := [(.inr "mss", oV o.mss), (.inr "scale", oV o.scale), (.inr "ranges_known", .bl o.kn), (.inr "ranges", r), (.inr "stamp", sv), (.inr "count", oV o.count), (.inr "echo", oV o.echo)]
def OpD (H : Hp) (d : Addr) (o : Opn) : Prop := ∃ p vs sv, H d = some (.dK (opKv o (.ref p) sv)) ∧ H p = some (.lst vs) ∧ Prs H vs o.rs ∧ StV H sv o.stamp
theorem OpD.same {H H' : Hp} {d : Addr} {o : Opn} (h : OpD H d o) (s : Same H H') : OpD H' d o := by
  obtain ⟨p, vs, sv, h1, h2, h3, h4⟩ := h
  exact ⟨p, vs, sv, s _ _ h1, s _ _ h2, h3.same s, h4.same s⟩
theorem mk_opKv {o : Opn} {r sv : V} : mergeK [] (opKv o r sv) = opKv o r sv := by
  show mergeK [] [_, _, _, _, _, _, _] = _
  rfl
theorem prs8_ev {b : List Int} (h : b.length % 8 = 0) : (ev (wn b)).zip (od (wn b)) = prs8 b := by
  refine List.ext_getElem? fun j => ?_
  have l1 : (ev (wn b)).length = b.length / 8 := by rw [ev_len, wn_len]; omega
  have l2 : (od (wn b)).length = b.length / 8 := by rw [od_len, wn_len]; omega
  by_cases hj : j < b.length / 8
  · have g1 : (ev (wn b))[j]? = some (vl ((b.drop (8 * j)).take 4)) := by
      rw [ev_get, wn_get (by omega), show 4 * (2 * j) = 8 * j by omega]
    have g2 : (od (wn b))[j]? = some (vl ((b.drop (8 * j + 4)).take 4)) := by
      rw [od_get, wn_get (by omega), show 4 * (2 * j + 1) = 8 * j + 4 by omega]
    rw [(List.getElem?_zip_eq_some (z := (vl ((b.drop (8 * j)).take 4), vl ((b.drop (8 * j + 4)).take 4)))  .. ).mpr ⟨g1, g2⟩]
    unfold prs8
    rw [List.getElem?_map, List.getElem?_range hj]
    show some _ = some _
    congr 1
    dsimp only
    unfold pr8
    rw [List.take_take, List.drop_take, List.drop_drop, show min 4 8 = 4 from rfl]
  · rw [List.getElem?_eq_none (by rw [List.length_zip]; omega), List.getElem?_eq_none (by unfold prs8; rw [List.length_map, List.length_range]; omega)]
theorem pr8_wn {b : List Int} (h : b.length = 8) : wn b = [(pr8 b).1, (pr8 b).2] := by
  unfold wn pr8
  rw [h]
  show [vl ((b.drop 0).take 4), vl ((b.drop 4).take 4)] = _
  rw [List.drop_zero, List.take_of_length_le (l := b.drop 4) (by rw [List.length_drop]; omega)]
def sp_read_options (K : PySem.W.Frag) (C : Addr) : Sp := fun vs H Q E => ∃ (a : Addr) (ns : List Int) (x : Option (List (Int × List Int))), vs = [.ref a] ∧ SqL K H a (ns.map V.int) ∧ ns.length ≤ 1000 ∧ Spl ns x ∧
  (∀ f, (x.bind fun os => rbs os fun _ => none) = some f → ∀ H' d, H d = none → Same H H' → OpD H' d (opOf f) → Q (.ref d) H') ∧ ((x.bind fun os => rbs os fun _ => none) = none → Bad C H E)
theorem g_sl3 {te ts : TE} {tl th : TO} {σ : St} {H : Hp} {Q : VK} (h : te σ H fun x H1 => tl σ H1 fun l H2 => th σ H2 fun u H3 => ts σ H3 fun z H4 => ∃ a xs k, x = .ref a ∧ z = .int k ∧ k ≠ 0 ∧ SqL K H4 a xs ∧ (pickV xs l u k).length ≤ sizeLine ∧ ∀ p, H4 p = none → Q (.ref p) (upd H4 p (.lst (pickV xs l u k)))) : tSl3 K te tl th ts σ H Q := h
theorem okl_eq {k : Int} {n : Nat} {ws : List Int} (e : lensOf k = some ws) (h : okLen k n = true) : (n : Int) ∈ ws := by
  unfold okLen at h
  rw [e] at h
  exact of_decide_eq_true h
theorem ok_read_options (T : Txt P K mg) : FnOk P w K mg base (L2.CX P w) 5 T.f_read_options T.d_read_options ["octets"] (sp_read_options K T.C_DamagedSegment) := by
  refine T.F_read_options.okX sc_read_options (fun vs H Q E h => ?_) (fun cdv A outer s H vs Q E hr h => ?_)
  · obtain ⟨a, ns, x, rfl, hS, hl, hx, q1, q2⟩ := h
    rfl
  · obtain ⟨a, ns, x, rfl, hS, hl, hx, q1, q2⟩ := h
    have hu := hu_of hr
    refine ⟨_, (pss_cons (ps_set (i := 1) sc_read_options.nd rfl (Or.inl rfl) (pe_call (ok_read_bodies T) (hr.mono (by decide)) rfl T.m_read_bodies T.F_read_bodies.kp T.b_read_bodies .nil (passes_call (takes_of rfl rfl rfl rfl) (fun _ _ _ _ h => h)) (pa_cons (pe_call (ok_split T) (hr.mono (by decide)) rfl T.m_split T.F_split.kp T.b_split .nil (passes_call (takes_of rfl rfl rfl rfl) (fun _ _ _ _ h => h)) (pa_cons (pv 0) pa_nil)) pa_nil)))
        (pss_cons (ps_set (i := 2) sc_read_options.nd rfl (Or.inl rfl) (pe_call (ok_wire_numbers T) (hr.mono (by decide)) rfl T.m_wire_numbers T.F_wire_numbers.kp T.b_wire_numbers .nil pass0 (pa_cons (pe_dget2 hu (pv 1) (pe_glob (v := .int 8) (by rfl) T.v_STAMP ⟨_, rfl⟩) (pe_lst pa_nil) ⟨rfl, rfl, rfl, rfl⟩) pa_nil)))
        (pss_cons (ps_set (i := 3) sc_read_options.nd rfl (Or.inl rfl) (pe_call (ok_wire_numbers T) (hr.mono (by decide)) rfl T.m_wire_numbers T.F_wire_numbers.kp T.b_wire_numbers .nil pass0 (pa_cons (pe_dget2 hu (pv 1) (pe_glob (v := .int 5) (by rfl) T.v_RANGES ⟨_, rfl⟩) (pe_lst pa_nil) ⟨rfl, rfl, rfl, rfl⟩) pa_nil)))
        (pss_cons (ps_set (i := 4) sc_read_options.nd rfl (Or.inl rfl) (pe_call (ok_wire_numbers T) (hr.mono (by decide)) rfl T.m_wire_numbers T.F_wire_numbers.kp T.b_wire_numbers .nil pass0 (pa_cons (pe_slice sl_list (pe_dget2 hu (pv 1) (pe_glob (v := .int 253) (by rfl) T.v_COUNT ⟨_, rfl⟩) (pe_lst pa_nil) ⟨rfl, rfl, rfl, rfl⟩) (po_some (pe_callB call_len_seq (by rfl) T.n_len (by decide +kernel) (pa_cons (pe_glob (v := .ref T.t_COUNT_MARK) (by rfl) T.v_COUNT_MARK rfl) pa_nil))) po_none) pa_nil)))
        (pss_one (ps_ret (pe_disp (pps_cons pe_str (pe_cutV (pe_ifExp (pt_cmp (pc_din hu (pe_glob (v := .int 2) (by rfl) T.v_MSS ⟨_, rfl⟩) (pv 1))) (pe_call (ok_read_number T) (hr.mono (by decide)) rfl T.m_read_number T.F_read_number.kp T.b_read_number .nil pass0 (pa_cons (pe_dget hu (pv 1) (pe_glob (v := .int 2) (by rfl) T.v_MSS ⟨_, rfl⟩) (fun _ _ => rfl)) pa_nil)) pe_non)) (pps_cons pe_str (pe_cutV (pe_ifExp (pt_cmp (pc_din hu (pe_glob (v := .int 3) (by rfl) T.v_SCALE ⟨_, rfl⟩) (pv 1))) (pe_callB (call_min2 rfl) (by rfl) T.n_min (by decide +kernel) (pa_cons (pe_glob (v := .int 14) (by rfl) T.v_GREATEST_SCALE ⟨_, rfl⟩) (pa_cons (pe_call (ok_read_number T) (hr.mono (by decide)) rfl T.m_read_number T.F_read_number.kp T.b_read_number .nil pass0 (pa_cons (pe_dget hu (pv 1) (pe_glob (v := .int 3) (by rfl) T.v_SCALE ⟨_, rfl⟩) (fun _ _ => rfl)) pa_nil)) pa_nil))) pe_non)) (pps_cons pe_str (pe_cmp (pc_din hu (pe_glob (v := .int 4) (by rfl) T.v_RANGES_KNOWN ⟨_, rfl⟩) (pv 1))) (pps_cons pe_str (pe_listZip rfl (by rfl) T.n_list (by decide +kernel) (by rfl) T.n_zip (pa_cons (pe_stepL (pv 3) po_none po_none pe_int) (pa_cons (pe_stepL (pv 3) (po_some pe_int) po_none pe_int) pa_nil))) (pps_cons pe_str (pe_ifExp (pt_cmpR op_gt (pe_callB call_len_seq (by rfl) T.n_len (by decide +kernel) (pa_cons (pv 2) pa_nil)) pe_int (nomark _)) (pe_tup (pa_cons (pe_ix ix_list (pv 2) pe_int (fun _ _ => rfl)) (pa_cons (pe_ix ix_list (pv 2) pe_int (fun _ _ => rfl)) pa_nil))) pe_non) (pps_cons pe_str (pe_cutV (pe_ifExp (pt_cmpR op_gt (pe_callB call_len_seq (by rfl) T.n_len (by decide +kernel) (pa_cons (pv 4) pa_nil)) pe_int (nomark _)) (pe_ix ix_list (pv 4) pe_int (fun _ _ => rfl)) pe_non)) (pps_cons pe_str (pe_cutV (pe_ifExp (pt_cmpR op_gt (pe_callB call_len_seq (by rfl) T.n_len (by decide +kernel) (pa_cons (pv 4) pa_nil)) pe_int (nomark _)) (pe_ix ix_list (pv 4) pe_int (fun _ _ => rfl)) pe_non)) pps_nil))))))) (by rfl) (by rfl) (fun z => by cases z) (by decide)))))))), ?_⟩
    dsimp only [cxOf, Cx.nox, Cx.wish, L2.start, List.map, List.cons_append, List.nil_append, List.length_cons, List.length_nil, Nat.reduceAdd, Nat.reduceSub, Nat.zero_add, List.replicate_succ, List.replicate_zero]
    walk_at "go"
    refine ⟨a, ns, x, rfl, hS, hl, hx, ?_, fun e => q2 (by rw [e]; rfl)⟩
    intro os ex H1 l us nl s1 k1 hO
    subst ex
    replace q1 : ∀ f, rbs os (fun _ => none) = some f → _ := q1
    replace q2 : rbs os (fun _ => none) = none → _ := q2
    walk_at "go"
    refine ⟨l, us, os, rfl, k1, hO, Nat.le_trans (hx.len rfl) hl, ?_, fun e => (q2 e).same s1⟩
    intro f ef H2 d nd s2 hB
    have ok : ∀ k b, f k = some b → knownO k b = true ∧ okLen k b.length = true := rbs_ok ef fun k b e => nomatch e
    have s02 := s1.trans s2
    have lb : ∀ k, ((f k).getD []).length ≤ 32 := fun k => by
      cases e : f k with
      | none => exact Nat.zero_le _
      | some b => exact okLen_le (ok k b e).2
    replace q1 := q1 f ef
    walk_at "go"
    refine ⟨hB.isD, Nat.zero_le _, fun p1 n1 => ?_⟩
    walk_at "nw"
    rename_i H3 s3 k3
    obtain ⟨o1, m1, g1, v1, e1⟩ := (hB.same s3).getD 8 k3
    refine ⟨o1, g1, ?_⟩
    rw [v1]
    walk_at "go"
    refine u_wire (sl e1) (Nat.le_trans (lb 8) (by decide)) fun w1 H4 nw1 s4 k4 => ?_
    have hB4 := (hB.same s3).same s4
    walk_at "go"
    refine ⟨hB4.isD, Nat.zero_le _, fun p2 n2 => ?_⟩
    walk_at "nw"
    rename_i H5 s5 k5
    obtain ⟨o2, m2, g2, v2, e2⟩ := (hB4.same s5).getD 5 k5
    refine ⟨o2, g2, ?_⟩
    rw [v2]
    walk_at "go"
    refine u_wire (sl e2) (Nat.le_trans (lb 5) (by decide)) fun w2 H6 nw2 s6 k6 => ?_
    have hB6 := (hB4.same s5).same s6
    have k46 := s6 _ _ (s5 _ _ k4)
    walk_at "go"
    refine ⟨hB6.isD, Nat.zero_le _, fun p3 n3 => ?_⟩
    walk_at "nw"
    rename_i H7 s7 k7
    obtain ⟨o3, m3, g3, v3, e3⟩ := (hB6.same s7).getD 253 k7
    refine ⟨o3, g3, ?_⟩
    rw [v3]
    walk_at "go"
    refine g_len (.inr (T.es_COUNT_MARK _)) ?_
    walk_at "go"
    refine g_slL (sl e3) fun p4 n4 => ?_
    rw [show ((([V.int 83, V.int 85] : List V).length : Nat) : Int) = ((2 : Nat) : Int) from rfl, cut_hi, ← List.map_drop]
    walk_at "nw"
    rename_i H8 s8 k8
    walk_at "go"
    refine u_wire (sl k8) (by have := lb 253; rw [List.length_drop]; omega) fun w3 H9 nw3 s9 k9 => ?_
    have s69 := (s7.trans s8).trans s9
    have hB9 := hB6.same s69
    have k69 := s69 _ _ k6
    have k49 := s69 _ _ k46
    have s09 := s02.trans ((((s3.trans s4).trans s5).trans s6).trans s69)
    clear g1 g2 g3 v1 v2 v3 e1 e2 e3 k3 k4 k5 k6 k7 k8 k46 hB hB4 hB6
    walk_at "go"
    intro D nD
    have nD0 := s09.free nD
    walk_at "nw"
    rename_i H10 s10 k10
    have hB10 := hB9.same s10
    walk_at "go"
    refine g_cutV (oV (opOf f).mss) ?_ ?_
    · walk_at "go"
      rcases hB10.get 2 with ⟨e, g⟩ | ⟨b, l', e, k, n, g⟩
      · refine ⟨d, none, rfl, g, ?_⟩
        walk_at "go"
        exact ⟨by show V.non = oV ((f 2).map vl); rw [e]; rfl, rfl⟩
      · refine ⟨d, some (.ref l'), rfl, g, ?_⟩
        walk_at "go"
        refine ⟨d, _, rfl, g, ?_⟩
        walk_at "go"
        refine u_read (sl k) ?_
        exact ⟨by show V.int _ = oV ((f 2).map vl); rw [e]; rfl, rfl⟩
    walk_at "go"
    refine g_cutV (oV (opOf f).scale) ?_ ?_
    · walk_at "go"
      rcases hB10.get 3 with ⟨e, g⟩ | ⟨b, l', e, k, n, g⟩
      · refine ⟨d, none, rfl, g, ?_⟩
        walk_at "go"
        exact ⟨by show V.non = oV ((f 3).map _); rw [e]; rfl, rfl⟩
      · refine ⟨d, some (.ref l'), rfl, g, ?_⟩
        walk_at "go"
        refine ⟨d, _, rfl, g, ?_⟩
        walk_at "go"
        refine u_read (sl k) ?_
        walk_at "go"
        refine ⟨by show V.int _ = oV ((f 3).map _); rw [e]; show V.int _ = V.int (min 14 (vl b)); congr 1; omega, rfl⟩
    walk_at "go"
    have g4 : ∃ o, DGet H10 d (.int 4) o ∧ o.isSome = (opOf f).kn := by
      rcases hB10.get 4 with ⟨e, g⟩ | ⟨b, l', e, k, n, g⟩
      · exact ⟨none, g, by show false = (f 4).isSome; rw [e]; rfl⟩
      · exact ⟨_, g, by show true = (f 4).isSome; rw [e]; rfl⟩
    obtain ⟨o4, g4, e4⟩ := g4
    refine ⟨d, o4, rfl, g4, ?_⟩
    rw [e4]
    walk_at "go"
    have L5 : ((f 5).getD []).length % 8 = 0 := by
      cases e : f 5 with
      | none => rfl
      | some b =>
        have := okl_eq (k := 5) rfl (ok 5 b e).2
        simp only [List.mem_cons, List.not_mem_nil, or_false] at this
        show b.length % 8 = 0
        omega
    have k40 := s10 _ _ k49
    have k60 := s10 _ _ k69
    have k90 := s10 _ _ k9
    refine g_listZip ?_
    walk_at "go"
    refine g_sl3 ?_
    walk_at "go"
    refine ⟨_, _, _, rfl, rfl, by decide, sl k60, ?_, fun x1 nx1 => ?_⟩
    · rw [pick_ev, ev_len, List.length_map, wn_len]
      have := lb 5
      exact sz (by omega)
    rw [pick_ev, ev_map]
    walk_at "nw"
    rename_i H11 s11 k11
    walk_at "go"
    refine g_sl3 ?_
    walk_at "go"
    refine ⟨_, _, _, rfl, rfl, by decide, sl (s11 _ _ k60), ?_, fun x2 nx2 => ?_⟩
    · rw [pick_od, od_len, List.length_map, wn_len]
      have := lb 5
      exact sz (by omega)
    rw [pick_od, od_map]
    walk_at "nw"
    rename_i H12 s12 k12
    walk_at "go"
    have lev : (ev (wn ((f 5).getD []))).length = ((f 5).getD []).length / 8 := by rw [ev_len, wn_len]; omega
    have lod : (od (wn ((f 5).getD []))).length = ((f 5).getD []).length / 8 := by rw [od_len, wn_len]; omega
    refine ⟨x1, x2, _, _, rfl, sl (s12 _ _ k11), sl k12, by rw [List.length_map, List.length_map]; omega, by rw [List.length_map, lev]; have := lb 5; exact sz (by omega), fun H13 p5 ts s13 n5 nts npt k13 lts pts => ?_⟩
    have hP : Prs H13 (ts.map V.ref) (opOf f).rs := by
      show Prs H13 (ts.map V.ref) (prs8 ((f 5).getD []))
      refine ⟨by rw [List.length_map, lts, List.length_map, lev]; unfold prs8; rw [List.length_map, List.length_range], fun i q eq => ?_⟩
      have hi : i < ts.length := by
        obtain ⟨z, _⟩ := List.getElem?_eq_some_iff.mp eq
        rw [lts, List.length_map, lev]
        unfold prs8 at z
        rw [List.length_map, List.length_range] at z
        exact z
      obtain ⟨q', e1, e2⟩ := pts i ts[i] (List.getElem?_eq_getElem hi)
      refine ⟨ts[i], by rw [List.getElem?_map, List.getElem?_eq_getElem hi]; rfl, ?_⟩
      rw [e2]
      rw [← prs8_ev L5, List.getElem?_zip_eq_some] at eq
      rw [List.getElem?_zip_eq_some, List.getElem?_map, List.getElem?_map, eq.1, eq.2] at e1
      have z1 : V.int q.1 = q'.1 := Option.some.inj e1.1
      have z2 : V.int q.2 = q'.2 := Option.some.inj e1.2
      rw [← z1, ← z2]
      rfl
    have s1013 := (s11.trans s12).trans s13
    have k93 := s1013 _ _ k90
    have k43 := s1013 _ _ k40
    refine g_pcons ?_
    refine g_c ?_
    have st8 : ∃ ss : List Int, wn ((f 8).getD []) = ss ∧ ((ss = [] ∧ f 8 = none) ∨ ∃ b, f 8 = some b ∧ ss = [(pr8 b).1, (pr8 b).2]) := by
      cases e : f 8 with
      | none => exact ⟨_, rfl, .inl ⟨rfl, rfl⟩⟩
      | some b =>
        have := okl_eq (k := 8) rfl (ok 8 b e).2
        simp only [List.mem_cons, List.not_mem_nil, or_false] at this
        exact ⟨_, rfl, .inr ⟨b, rfl, pr8_wn (b := b) (by omega)⟩⟩
    have ct : ∃ cs : List Int, wn (((f 253).getD []).drop 2) = cs ∧ (opOf f).count = cs[0]? ∧ (opOf f).echo = cs[1]? := by
      refine ⟨_, rfl, ?_⟩
      show (f 253).map _ = _ ∧ (f 253).bind _ = _
      cases e : f 253 with
      | none => exact ⟨rfl, rfl⟩
      | some b =>
        have := okl_eq (k := 253) rfl (ok 253 b e).2
        simp only [List.mem_cons, List.not_mem_nil, or_false] at this
        show some _ = (wn (b.drop 2))[0]? ∧ (if b.length = 10 then _ else none) = (wn (b.drop 2))[1]?
        rw [wn_get (by rw [List.length_drop]; omega), List.drop_zero]
        refine ⟨rfl, ?_⟩
        by_cases c : b.length = 10
        · rw [if_pos c, wn_get (by rw [List.length_drop]; omega), List.drop_drop, List.take_of_length_le (by rw [List.length_drop]; omega)]
        · rw [if_neg c, List.getElem?_eq_none (by rw [wn_len, List.length_drop]; omega)]
    obtain ⟨ss, es, hss⟩ := st8
    obtain ⟨cs, ec, hc1, hc2⟩ := ct
    rw [es] at k43
    rw [ec] at k93
    have stp : ∀ R : VK, (∀ v H', Same H13 H' → StV H' v (opOf f).stamp → R v H') → (tIf (tTest (tOp (rI0 fun i j => V.bl (decide (j < i))) (tCB (fun xs H Q => ∃ p ys, xs = [V.ref p] ∧ (SqL K H p ys ∨ SqT K H p ys) ∧ Q (V.int ↑ys.length) H) (tCons (tVar 2) tNil)) (tC (V.int 0)))) (tTup (tCons (tOp (rIxL K) (tVar 2) (tC (V.int 0))) (tCons (tOp (rIxL K) (tVar 2) (tC (V.int 1))) tNil))) (tC V.non)) [some (V.ref a), some (V.ref d), some (V.ref w1), some (V.ref w2), some (V.ref w3)] H13 R := by
      intro R hR
      walk_at "go"
      refine g_len (.inl (sl k43)) ?_
      walk_at "go"
      rw [List.length_map]
      rcases hss with ⟨rfl, e8⟩ | ⟨b, e8, rfl⟩
      · walk_at "go"
        exact hR _ _ (fun _ _ z => z) (by show StV H13 V.non ((f 8).map pr8); rw [e8]; rfl)
      · walk_at "go"
        refine g_ixL (sl k43) (at_of (j := 0) rfl rfl) ?_
        walk_at "go"
        refine g_ixL (sl k43) (at_of (j := 1) rfl rfl) ?_
        walk_at "go"
        refine ⟨by show 2 ≤ sizeLine; decide, fun p6 n6 => ?_⟩
        exact hR _ _ (same_upd n6) (by show StV _ _ ((f 8).map pr8); rw [e8]; exact ⟨p6, rfl, upd_same⟩)
    refine stp _ fun sv H14 s14 hsv => ?_
    clear stp
    have k94 := s14 _ _ k93
    walk_at "go"
    refine g_cutV (oV (opOf f).count) ?_ ?_
    · walk_at "go"
      refine g_len (.inl (sl k94)) ?_
      walk_at "go"
      rw [List.length_map, hc1]
      cases cs with
      | nil => walk_at "go"; exact ⟨rfl, rfl⟩
      | cons c0 cr =>
        refine g_dT (by rw [List.length_cons]; omega) ?_
        walk_at "go"
        refine g_ixL (sl k94) (at_of (j := 0) rfl rfl) ?_
        exact ⟨rfl, rfl⟩
    walk_at "go"
    refine g_cutV (oV (opOf f).echo) ?_ ?_
    · walk_at "go"
      refine g_len (.inl (sl k94)) ?_
      walk_at "go"
      rw [List.length_map, hc2]
      cases cs with
      | nil => walk_at "go"; exact ⟨rfl, rfl⟩
      | cons c0 cr =>
        cases cr with
        | nil => walk_at "go"; exact ⟨rfl, rfl⟩
        | cons c1 cr =>
          refine g_dT (by rw [List.length_cons, List.length_cons]; omega) ?_
          walk_at "go"
          refine g_ixL (sl k94) (at_of (j := 1) rfl rfl) ?_
          exact ⟨rfl, rfl⟩
    walk_at "go"
    have s1014 := s1013.trans s14
    refine ⟨s1014 _ _ k10, opKv (opOf f) (.ref p5) sv, rfl, by show 7 ≤ 15; decide, ?_⟩
    rw [mk_opKv]
    refine q1 _ D nD0 (But.tr2 ((s09.trans s10).trans s1014) nD0 But.refl.upd) ⟨p5, ts.map V.ref, sv, upd_same, ?_, ?_, ?_⟩
    · rw [upd_ne (ne_of_none ((s11.trans s12) _ _ k10) n5).symm]
      exact s14 _ _ k13
    · exact (hP.same s14).butD But.refl.upd (s1014 _ _ k10)
    · exact hsv.butD But.refl.upd (s1014 _ _ k10)

end
end My
namespace My
open PySem PySem.Spec L2
local macro_rules | `(tactic| walk_at "side") => `(tactic| first | assumption | decide | omega | exact ⟨by decide, by decide⟩ | exact ⟨by decide, by decide, by decide⟩ | decide +kernel | exact cdivW (by decide +kernel) (by decide +kernel) | exact Or.inl ⟨by omega, by omega⟩ | exact Or.inr ⟨by omega, by omega⟩ | (simp only [List.length_map, List.length_cons, List.length_nil, List.length_append]; omega))
local macro_rules | `(tactic| walk_at "fact") => `(tactic| first | assumption | omega | with_reducible rfl)
local macro_rules | `(tactic| walk_at "use") => `(tactic| fail "use")
local macro_rules | `(tactic| walk_at "go1") => `(tactic| with_reducible first | refine g_seq ?_ | refine g_asg ?_ | refine g_ret ?_ | refine g_ifS ?_ | refine g_drop ?_ | refine g_star ?_ | refine g_nx ?_ | refine g_rt ?_ | refine g_bkE ?_ | refine g_ctE ?_ | refine g_next ?_ | refine g_retN ?_ | refine g_brk ?_ | refine g_ct ?_ | refine g_c ?_ | refine g_op ?_ | refine g_un ?_ | refine g_rI0 ?_ | refine g_rU ?_ | refine g_rEqI ?_ | refine g_rNeI ?_ | refine g_isN ?_ | refine g_rIsB ?_ | refine g_rNotB ?_ | refine g_test ?_ | refine g_B ?_ | refine g_bl ?_ | refine g_and ?_ | refine g_or ?_ | refine g_not ?_ | refine g_andV ?_ | refine g_orV ?_ | refine g_notV ?_ | refine g_if ?_ | refine g_chain ?_ | refine g_yes ?_ | refine g_lc ?_ | refine g_revR ?_ | refine g_rng1 ?_ | refine g_iList ?_ | refine g_nil ?_ | refine g_cons ?_ | refine g_tup ?_ | refine g_lst ?_ | refine g_call ?_ | refine g_CB ?_ | refine g_sl ?_ | refine g_noPart ?_ | refine g_part ?_ | refine g_intE ?_ | refine g_ref ?_ | refine g_fld ?_ | refine g_sfld ?_ | refine g_meth ?_ | refine g_make ?_ | refine g_prop ?_  | refine g_ipI ?_ | refine g_int1 ?_ | refine g_int1B ?_ | refine g_one ?_ | refine g_two ?_ | refine g_isiI ?_ | refine g_isiIB ?_ | refine g_isiB ?_ | refine g_BM ?_ | refine g_BM0 ?_ | refine g_sub ?_)
local macro_rules | `(tactic| walk_at "go") => `(tactic| repeat (first | walk_at "go1" | ((with_reducible refine' g_nameE ?sd_ ?_); case sd_ => dsimp only [List.set_cons_succ, List.set_cons_zero]) | ((with_reducible refine' g_var ?sd_ ?_); case sd_ => exact rfl) | ((with_reducible refine' g_aug ?sd_ ?_); case sd_ => exact rfl) | ((with_reducible refine' g_rI ?sd_ ?_); case sd_ => walk_at "side") | ((with_reducible refine' g_dT ?sd_ ?_); case sd_ => walk_at "fact") | ((with_reducible refine' g_dF ?sd_ ?_); case sd_ => walk_at "fact") | ((with_reducible refine' g_nT ?sd_ ?_); case sd_ => walk_at "fact") | ((with_reducible refine' g_nF ?sd_ ?_); case sd_ => walk_at "fact") | (with_reducible refine g_iT rfl ?_) | (with_reducible refine g_iF rfl ?_) | walk_at "use"))
local macro_rules | `(tactic| walk_at "nw") => `(tactic| (generalize zq : upd _ _ _ = Hq; have sq : Same _ Hq := (by rw [← zq]; exact same_upd (by assumption)); have kq := (congrFun zq _).symm.trans upd_same; clear zq))
local macro_rules | `(tactic| walk_at "bt") => `(tactic| (generalize zq : upd _ _ _ = Hq; have bq : But _ _ Hq := (by rw [← zq]; exact But.refl.upd); have kq := (congrFun zq _).symm.trans upd_same; clear zq))

section
variable {P : Program} {w : World} {K : PySem.W.Frag} {mg : Str → Option Value} {base : Heap}
local macro_rules | `(tactic| walk_at "use") => `(tactic| with_reducible first | refine g_rs0 ?_ | refine g_rs1 ?_ | refine g_tryA ?_ | refine g_tryO ?_ | refine g_callS ?_ | refine g_joined ?_ | refine g_jsnil ?_ | refine g_jscons ?_ | refine g_fmt ?_)
local macro_rules | `(tactic| walk_at "fit") => `(tactic| (refine fit2 ?_; (try simp only [PySem.Str.length_append]); omega))
local macro_rules | `(tactic| walk_at "use") => `(tactic| first | ((with_reducible refine' g_addS ?sd_ ?_); case sd_ => (first | omega | (simp only [PySem.Str.length_append]; omega))) | ((with_reducible refine' g_slS ?sd_ ?_); case sd_ => omega) | (with_reducible refine g_m0 ?_))

/-! ### rows of options: what a reader makes of joined items -/
inductive Itm where
  | fil : Itm
  | opt (k : Int) (b : List Int) : Itm
def Itm.enc : Itm → List Int
  | .fil => [1]
  | .opt k b => k :: ((b.length : Int) + 2) :: b
def Itm.ok : Itm → Prop
  | .fil => True
  | .opt k _ => k ≠ 0 ∧ k ≠ 1
def opsI : List Itm → List (Int × List Int)
  | [] => []
  | .fil :: r => opsI r
  | .opt k b :: r => (k, b) :: opsI r
def encs (is : List Itm) : List Int := (is.map Itm.enc).flatten
theorem encs_cons {i : Itm} {r : List Itm} : encs (i :: r) = i.enc ++ encs r := rfl
theorem encs_app : ∀ {a b : List Itm}, encs (a ++ b) = encs a ++ encs b
  | [], _ => rfl
  | i :: a, b => by rw [List.cons_append, encs_cons, encs_cons, encs_app, List.append_assoc]
theorem opsI_app : ∀ {a b : List Itm}, opsI (a ++ b) = opsI a ++ opsI b
  | [], _ => rfl
  | .fil :: a, b => opsI_app (a := a)
  | .opt k c :: a, b => by show (k, c) :: opsI (a ++ b) = (k, c) :: (opsI a ++ opsI b); rw [opsI_app]
theorem Spl.items : ∀ {is : List Itm} {t : List Int} {x : Option (List (Int × List Int))}, (∀ i ∈ is, i.ok) → Spl t x → Spl (encs is ++ t) (x.map (opsI is ++ ·))
  | [], t, x, _, h => by
    show Spl t (x.map ([] ++ ·))
    have : x.map ([] ++ ·) = x := by cases x <;> rfl
    rw [this]; exact h
  | .fil :: is, t, x, ok, h => by
    have := Spl.items (is := is) (fun i hi => ok i (List.mem_cons_of_mem _ hi)) h
    exact .fill this
  | .opt k b :: is, t, x, ok, h => by
    have := Spl.items (is := is) (fun i hi => ok i (List.mem_cons_of_mem _ hi)) h
    have o := ok (.opt k b) List.mem_cons_self
    have z := Spl.opt (b := b) o.1 o.2 this
    have e : ((x.map (opsI is ++ ·)).map fun os => (k, b) :: os) = x.map (opsI (.opt k b :: is) ++ ·) := by cases x <;> rfl
    rw [e] at z
    have e2 : encs (.opt k b :: is) ++ t = k :: ((b.length : Int) + 2) :: (b ++ (encs is ++ t)) := by
      rw [encs_cons]
      show (k :: ((b.length : Int) + 2) :: b) ++ encs is ++ t = _
      simp
    rw [e2]
    exact z
theorem Spl.zeros {t : List Int} (h : ∀ y ∈ t, y = 0) : Spl t (some []) := by
  cases t with
  | nil => exact .nil
  | cons y r =>
    have := h y List.mem_cons_self
    subst this
    exact .zero fun y hy => h y (List.mem_cons_of_mem _ hy)
/-- the known ones -/
def kno (os : List (Int × List Int)) : List (Int × List Int) := os.filter fun p => knownO p.1 p.2
theorem rbs_kno : ∀ (os : List (Int × List Int)) (f : Bod), rbs os f = rbs (kno os) f
  | [], f => rfl
  | (k, b) :: r, f => by
    unfold kno
    by_cases c : knownO k b = true
    · rw [List.filter_cons_of_pos (p := fun p : Int × List Int => knownO p.1 p.2) (a := (k, b)) c, rbs_cons, rbs_cons, if_pos c, if_pos c]
      by_cases c2 : ((f k).isSome || !okLen k b.length) = true
      · rw [if_pos c2, if_pos c2]
      · rw [if_neg c2, if_neg c2]; exact rbs_kno r _
    · rw [List.filter_cons_of_neg (p := fun p : Int × List Int => knownO p.1 p.2) (a := (k, b)) c, rbs_cons, if_neg c]; exact rbs_kno r f
theorem rbs_some : ∀ {os : List (Int × List Int)} {f f' : Bod}, rbs os f = some f' → (∀ p ∈ os, knownO p.1 p.2 = true) → (∀ p ∈ os, okLen p.1 p.2.length = true ∧ f p.1 = none) ∧ (os.map (·.1)).Nodup
  | [], _, _, _, _ => ⟨fun p hp => (by cases hp), List.nodup_nil⟩
  | (k, b) :: r, f, f', h, hk => by
    rw [rbs_cons, if_pos (hk (k, b) List.mem_cons_self)] at h
    by_cases c2 : ((f k).isSome || !okLen k b.length) = true
    · rw [if_pos c2] at h; cases h
    · rw [if_neg c2] at h
      obtain ⟨h1, h2⟩ := rbs_some h fun p hp => hk p (List.mem_cons_of_mem _ hp)
      rw [Bool.or_eq_true] at c2
      have a1 : f k = none := by
        cases z : f k with
        | none => rfl
        | some b => exact absurd (.inl (by rw [z]; rfl)) c2
      have a2 : okLen k b.length = true := by
        cases z : okLen k b.length with
        | true => rfl
        | false => exact absurd (.inr (by rw [z]; rfl)) c2
      refine ⟨fun p hp => ?_, ?_⟩
      · rcases List.mem_cons.mp hp with e | hp
        · subst e; exact ⟨a2, a1⟩
        · obtain ⟨b1, b2⟩ := h1 p hp
          refine ⟨b1, ?_⟩
          unfold putB at b2
          by_cases z : p.1 = k
          · rw [if_pos z] at b2; cases b2
          · rw [if_neg z] at b2; exact b2
      · rw [List.map_cons]
        refine List.nodup_cons.mpr ⟨fun z => ?_, h2⟩
        obtain ⟨p, hp, e⟩ := List.mem_map.mp z
        have b2 := (h1 p hp).2
        unfold putB at b2
        rw [if_pos e] at b2
        cases b2
theorem rbs_mk : ∀ {os : List (Int × List Int)} {f : Bod}, (∀ p ∈ os, knownO p.1 p.2 = true ∧ okLen p.1 p.2.length = true ∧ f p.1 = none) → (os.map (·.1)).Nodup → ∃ f', rbs os f = some f' ∧ ∀ k b, f' k = some b ↔ f k = some b ∨ (k, b) ∈ os
  | [], f, _, _ => ⟨f, rfl, fun k b => ⟨.inl, fun h => h.elim id (fun z => by cases z)⟩⟩
  | (k0, b0) :: r, f, h, nd => by
    obtain ⟨a1, a2, a3⟩ := h (k0, b0) List.mem_cons_self
    rw [List.map_cons] at nd
    obtain ⟨n1, n2⟩ := List.nodup_cons.mp nd
    dsimp only at a1 a2 a3
    rw [rbs_cons, if_pos a1, if_neg (by rw [a2, a3]; decide)]
    obtain ⟨f', e, hf⟩ := rbs_mk (os := r) (f := putB f k0 b0) (fun p hp => by
      obtain ⟨b1, b2, b3⟩ := h p (List.mem_cons_of_mem _ hp)
      refine ⟨b1, b2, ?_⟩
      unfold putB
      rw [if_neg fun z => n1 (List.mem_map.mpr ⟨p, hp, z⟩)]
      exact b3) n2
    refine ⟨f', e, fun k b => ?_⟩
    rw [hf]
    unfold putB
    by_cases z : k = k0
    · subst z
      rw [if_pos rfl]
      have no : (k, b) ∉ r := fun w => n1 (List.mem_map.mpr ⟨_, w, rfl⟩)
      constructor
      · rintro (w | w)
        · cases w; exact .inr List.mem_cons_self
        · exact absurd w no
      · rintro (w | w)
        · rw [a3] at w; cases w
        · rcases List.mem_cons.mp w with w | w
          · cases w; exact .inl rfl
          · exact absurd w no
    · rw [if_neg z]
      constructor
      · rintro (w | w)
        · exact .inl w
        · exact .inr (List.mem_cons_of_mem _ w)
      · rintro (w | w)
        · exact .inl w
        · rcases List.mem_cons.mp w with w | w
          · cases w; exact absurd rfl z
          · exact .inr w
/-- bodies that may stand together -/
def BsOk (bs : List (Int × List Int)) : Prop := (∀ p ∈ bs, knownO p.1 p.2 = true ∧ okLen p.1 p.2.length = true) ∧ (bs.map (·.1)).Nodup
/-- what the bodies say -/
def BsF (bs : List (Int × List Int)) (f : Bod) : Prop := ∀ k b, f k = some b ↔ (k, b) ∈ bs
theorem rbs_perm {os bs : List (Int × List Int)} (h : BsOk bs) (p : (kno os).Perm bs) : ∃ f, rbs os (fun _ => none) = some f ∧ BsF bs f := by
  rw [rbs_kno]
  obtain ⟨f, e, hf⟩ := rbs_mk (os := kno os) (f := fun _ => none) (fun q hq => by
    obtain ⟨a, b⟩ := h.1 q (p.mem_iff.mp hq)
    exact ⟨a, b, rfl⟩) ((p.map _).nodup_iff.mpr h.2)
  refine ⟨f, e, fun k b => ?_⟩
  rw [hf, p.mem_iff]
  exact ⟨fun z => z.elim (fun z => nomatch z) id, .inr⟩
theorem rbs_dup {os bs : List (Int × List Int)} {q : Int × List Int} (hq : q ∈ bs) (hk : ∀ p ∈ bs, knownO p.1 p.2 = true) (p : (kno os).Perm (q :: bs)) : rbs os (fun _ => none) = none := by
  cases e : rbs os (fun _ => none) with
  | none => rfl
  | some f =>
    rw [rbs_kno] at e
    obtain ⟨_, nd⟩ := rbs_some e fun r hr => by
      have := p.mem_iff.mp hr
      rcases List.mem_cons.mp this with z | z
      · rw [z]; exact hk _ hq
      · exact hk _ z
    have nd2 := (p.map (·.1)).nodup_iff.mp nd
    rw [List.map_cons] at nd2
    exact absurd (List.mem_map.mpr ⟨q, hq, rfl⟩) (List.nodup_cons.mp nd2).1
theorem rbs_bad {os : List (Int × List Int)} {k : Int} {b : List Int} (h : (k, b) ∈ os) (h1 : knownO k b = true) (h2 : okLen k b.length = false) : rbs os (fun _ => none) = none := by
  cases e : rbs os (fun _ => none) with
  | none => rfl
  | some f =>
    rw [rbs_kno] at e
    have := (rbs_some e fun r hr => (List.mem_filter.mp hr).2).1 (k, b) (List.mem_filter.mpr ⟨h, h1⟩)
    rw [h2] at this
    exact absurd this.1 (by decide)

local macro_rules | `(tactic| walk_at "use") => `(tactic| with_reducible first | refine g_disp ?_ | refine g_pcons ?_ | refine g_pnil ?_)
local macro_rules | `(tactic| walk_at "use") => `(tactic| with_reducible refine u_cell (by assumption) (by omega) ?_)

local macro_rules | `(tactic| walk_at "use") => `(tactic| with_reducible first | refine g_dgetI ?_ | refine g_dputI ?_ | refine g_dget1I ?_ | refine g_dget2I ?_ | refine g_dinI ?_ | refine g_dnotinI ?_ | refine g_dnewK ?_)

def sp_l_is_integer (K : PySem.W.Frag) : Sp := fun vs H Q _ => ∃ (n : Int), vs = [.int n] ∧ Q (.bl true) H
theorem u_isint {n : Int} {H Q E} (q : Q (.bl true) H) : sp_l_is_integer K ([.int n] ++ []) H Q E := ⟨n, rfl, q⟩
theorem ok_l_is_integer (T : Txt P K mg) : FnOk P w K mg base CX0 1 T.f_l_is_integer T.d_l_is_integer ["actual"] (sp_l_is_integer K) := by
  refine T.F_l_is_integer.ok sc_l_is_integer (fun vs H Q E h => ?_) (fun cdv A outer s H vs Q E hr h => ?_)
  · obtain ⟨n, rfl, q⟩ := h
    rfl
  · obtain ⟨n, rfl, q⟩ := h
    have hu := hu_of hr
    refine ⟨_, (pss_one (ps_ret (pe_and (pe_callB call_isi (by rfl) T.n_isinstance (by decide +kernel) (pa_cons (pv 0) (pa_cons (pe_bltn (v := .ty "int") (by rfl) T.n_int (by decide +kernel) rfl) pa_nil))) (pe_one (pe_not (pe_callB call_isi (by rfl) T.n_isinstance (by decide +kernel) (pa_cons (pv 0) (pa_cons (pe_bltn (v := .ty "bool") (by rfl) T.n_bool (by decide +kernel) rfl) pa_nil)))))))), ?_⟩
    dsimp only [cxOf, Cx.nox, Cx.wish, L2.start, List.map, List.cons_append, List.nil_append, List.length_cons, List.length_nil, Nat.reduceAdd, Nat.reduceSub, Nat.zero_add, List.replicate_succ, List.replicate_zero]
    walk_at "go"
    exact q
local macro_rules | `(tactic| walk_at "use") => `(tactic| with_reducible refine u_isint ?_)

def sp_l_cell (K : PySem.W.Frag) : Sp := fun vs H Q _ => ∃ (a : Addr) (ns : List Int) (k : Int), vs = [.ref a, .int k] ∧ SqL K H a (ns.map V.int) ∧ 0 ≤ k ∧ Q (.int (cell ns k)) H
theorem u_cell {a : Addr} {ns : List Int} {k : Int} {H Q E} (h : SqL K H a (ns.map V.int)) (h0 : 0 ≤ k) (q : Q (.int (cell ns k)) H) : sp_l_cell K ([.ref a, .int k] ++ []) H Q E := ⟨a, ns, k, rfl, h, h0, q⟩
theorem ok_l_cell (T : Txt P K mg) : FnOk P w K mg base CX0 1 T.f_l_cell T.d_l_cell ["script", "k"] (sp_l_cell K) := by
  refine T.F_l_cell.ok sc_l_cell (fun vs H Q E h => ?_) (fun cdv A outer s H vs Q E hr h => ?_)
  · obtain ⟨a, ns, k, rfl, hS, h0, q⟩ := h
    rfl
  · obtain ⟨a, ns, k, rfl, hS, h0, q⟩ := h
    have hu := hu_of hr
    refine ⟨_, (pss_cons (ps_if (pt_cmpR op_lt (pv 1) (pe_callB call_len_seq (by rfl) T.n_len (by decide +kernel) (pa_cons (pv 0) pa_nil)) (nomark _)) (pss_one (ps_ret (pe_ix ix_list (pv 0) (pv 1) (fun _ _ => rfl)))) pss_nil)
        (pss_one (ps_ret pe_int))), ?_⟩
    dsimp only [cxOf, Cx.nox, Cx.wish, L2.start, List.map, List.cons_append, List.nil_append, List.length_cons, List.length_nil, Nat.reduceAdd, Nat.reduceSub, Nat.zero_add, List.replicate_succ, List.replicate_zero]
    walk_at "go"
    refine g_len (.inl hS) ?_
    walk_at "go"
    rw [List.length_map]
    refine g_ite (fun h => ?_) (fun h => ?_)
    · walk_at "go"
      refine g_ixL hS (atI_map h0 h) ?_
      exact q
    · walk_at "go"
      rw [cell_out h] at q
      exact q
local macro_rules | `(tactic| walk_at "use") => `(tactic| with_reducible refine u_cell (by assumption) (by decide) ?_)

def sp_l_row (K : PySem.W.Frag) : Sp := fun vs H Q _ => ∃ (c n b : Int), vs = [.int c, .int n, .int b] ∧ (0 ≤ n ∧ n ≤ 1000 ∧ 0 < b ∧ b ≤ 2 ^ 64) ∧
  ∀ (p : Addr) (row : List Int) H', (row.length : Int) = n → (∀ x ∈ row, 0 ≤ x ∧ x < b) → H p = none → Same H H' → H' p = some (.lst (row.map V.int)) → Q (.ref p) H'
theorem u_row {c n b : Int} {H Q E} (h0 : 0 ≤ n ∧ n ≤ 1000 ∧ 0 < b ∧ b ≤ 2 ^ 64)
    (q : ∀ (p : Addr) (row : List Int) H', (row.length : Int) = n → (∀ x ∈ row, 0 ≤ x ∧ x < b) → H p = none → Same H H' → H' p = some (.lst (row.map V.int)) → Q (.ref p) H') : sp_l_row K ([.int c, .int n, .int b] ++ []) H Q E := ⟨c, n, b, rfl, h0, q⟩
theorem ok_l_row (T : Txt P K mg) : FnOk P w K mg base CX0 1 T.f_l_row T.d_l_row ["cell", "size", "base"] (sp_l_row K) := by
  refine T.F_l_row.ok sc_l_row (fun vs H Q E h => ?_) (fun cdv A outer s H vs Q E hr h => ?_)
  · obtain ⟨c, n, b, rfl, h0, q⟩ := h
    rfl
  · obtain ⟨c, n, b, rfl, h0, q⟩ := h
    have hu := hu_of hr
    refine ⟨_, (pss_cons (ps_set (i := 3) sc_l_row.nd rfl (Or.inl rfl) (pe_lst pa_nil))
        (pss_cons (ps_set (i := 4) sc_l_row.nd rfl (Or.inl rfl) (pv 0))
        (pss_cons (ps_for PassesOwn.never rfl (pi_range1 (by rfl) T.n_range (pa_cons (pv 1) pa_nil)) (pg_name (i := 5) sc_l_row.nd rfl (Or.inl rfl)) (pss_one (ps_if (pt_cmpR op_ge (pv 0) (pe_op op_pow pe_int pe_int) (nomark _)) (pss_cons (ps_expr (pe_bm PySem.F.plainAttrs_list PySem.F.slot_list_append PySem.F.type_list_append mt_append (pv 3) (pa_cons (pe_op op_mod (pe_callTy call_int1 (by rfl) T.n_int (by decide +kernel) (pa_cons (pv 4) pa_nil)) (pv 2)) pa_nil)))
        (pss_one (ps_set (i := 4) sc_l_row.nd rfl (Or.inl rfl) (pe_op op_fdivW (pv 4) (pv 2))))) (pss_cons (ps_set (i := 6) sc_l_row.nd rfl (Or.inl rfl) (pe_op op_mod (pe_op op_add (pe_op op_mul (pe_op op_mod (pe_callTy call_int1 (by rfl) T.n_int (by decide +kernel) (pa_cons (pv 0) pa_nil)) pe_int) pe_int) (pe_op op_mul (pv 5) pe_int)) pe_int))
        (pss_cons (ps_set (i := 6) sc_l_row.nd rfl (Or.inl rfl) (pe_op op_mod (pe_op op_add (pe_op op_add (pe_op op_mul (pv 6) pe_int) (pe_op op_mul (pv 5) pe_int)) pe_int) pe_int))
        (pss_one (ps_expr (pe_bm PySem.F.plainAttrs_list PySem.F.slot_list_append PySem.F.type_list_append mt_append (pv 3) (pa_cons (pe_op op_mod (pe_op op_fdiv (pv 6) pe_int) (pv 2)) pa_nil)))))))))
        (pss_one (ps_ret (pv 3)))))), ?_⟩
    dsimp only [cxOf, Cx.nox, Cx.wish, L2.start, List.map, List.cons_append, List.nil_append, List.length_cons, List.length_nil, Nat.reduceAdd, Nat.reduceSub, Nat.zero_add, List.replicate_succ, List.replicate_zero]
    walk_at "go"
    refine ⟨by decide, fun p hp => ?_⟩
    walk_at "go"
    refine for_r (n := n) n.toNat rfl (by omega) (by omega) (fun i σ H' => ∃ (row : List Int) (num : Int) (v5 v6 : Option V), σ = [some (.int c), some (.int n), some (.int b), some (.ref p), some (.int num), v5, v6] ∧ row.length = i ∧ (∀ x ∈ row, 0 ≤ x ∧ x < b) ∧ But p H H' ∧ H' p = some (.lst (row.map V.int)))
      ⟨[], c, none, none, rfl, rfl, (fun x h => by cases h), But.refl.upd, upd_same⟩ ?turn ?done ?ev
    case ev =>
      intro R r
      walk_at "go"
      exact r
    case done =>
      rintro σ H' ⟨row, num, v5, v6, rfl, hl, hb, bu, e⟩
      walk_at "go"
      exact q p row H' (by omega) hb hp (bu.same hp) e
    case turn =>
      rintro i σ H' hi ⟨row, num, v5, v6, rfl, hl, hb, bu, e⟩
      have hlen : (row.map V.int).length < sizeLine := by
        rw [List.length_map]
        exact szl (by omega)
      walk_at "go"
      refine g_ite (fun h => ?_) (fun h => ?_)
      · walk_at "go"
        refine ⟨ty_l e, ?_⟩
        walk_at "go"
        refine g_append e hlen ?_
        walk_at "go"
        refine g_rI (cdivW (by omega) (Int.lt_of_le_of_lt h0.2.2.2 (by decide +kernel))) ?_
        walk_at "go"
        refine ⟨row ++ [num % b], num / b, _, _, rfl, by rw [List.length_append, hl]; rfl, fun x hx => ?_, bu.upd, by rw [upd_same, List.map_append]; rfl⟩
        rcases List.mem_append.mp hx with hx | hx
        · exact hb x hx
        · rw [List.mem_singleton.mp hx]
          exact ⟨Int.emod_nonneg _ (by omega), Int.emod_lt_of_pos _ (by omega)⟩
      · walk_at "go"
        refine ⟨ty_l e, ?_⟩
        walk_at "go"
        refine g_append e hlen ?_
        walk_at "go"
        refine ⟨row ++ [_ % b], num, _, _, rfl, by rw [List.length_append, hl]; rfl, fun x hx => ?_, bu.upd, by rw [upd_same, List.map_append]; rfl⟩
        rcases List.mem_append.mp hx with hx | hx
        · exact hb x hx
        · rw [List.mem_singleton.mp hx]
          exact ⟨Int.emod_nonneg _ (by omega), Int.emod_lt_of_pos _ (by omega)⟩

def sp_l_number (K : PySem.W.Frag) : Sp := fun vs H Q _ => ∃ o : Option Int, vs = [oV o, oV o] ∧ Q (.bl true) H
theorem u_number {o : Option Int} {H Q E} (q : Q (.bl true) H) : sp_l_number K ([oV o, oV o] ++ []) H Q E := ⟨o, rfl, q⟩
theorem ok_l_number (T : Txt P K mg) : FnOk P w K mg base CX0 2 T.f_l_number T.d_l_number ["actual", "expected"] (sp_l_number K) := by
  refine T.F_l_number.ok sc_l_number (fun vs H Q E h => ?_) (fun cdv A outer s H vs Q E hr h => ?_)
  · obtain ⟨o, rfl, q⟩ := h
    rfl
  · obtain ⟨o, rfl, q⟩ := h
    have hu := hu_of hr
    refine ⟨_, (pss_cons (ps_if (pt_cmpR op_isN (pv 1) pe_non (nomark _)) (pss_one (ps_ret (pe_cmpR op_isN (pv 0) pe_non (nomark _)))) pss_nil)
        (pss_one (ps_ret (pe_and (pe_call (ok_l_is_integer T) (hr.mono (by decide)) rfl T.m_l_is_integer T.F_l_is_integer.kp T.b_l_is_integer .nil pass0 (pa_cons (pv 0) pa_nil)) (pe_one (pe_cmpR op_eq (pv 0) (pv 1) (nomark _))))))), ?_⟩
    dsimp only [cxOf, Cx.nox, Cx.wish, L2.start, List.map, List.cons_append, List.nil_append, List.length_cons, List.length_nil, Nat.reduceAdd, Nat.reduceSub, Nat.zero_add, List.replicate_succ, List.replicate_zero]
    cases o with
    | none =>
      walk_at "go"
      exact q
    | some n =>
      show tSeq _ _ _ [some (V.int n), some (V.int n)] H
      walk_at "go"
      rw [decide_eq_true rfl]
      exact q
def sp_l_pair (K : PySem.W.Frag) : Sp := fun vs H Q _ => ∃ (x y : V) (o : Option (Int × Int)), vs = [x, y] ∧ StV H x o ∧ StV H y o ∧ Q (.bl true) H
theorem u_pair {x y : V} {o : Option (Int × Int)} {H Q E} (h1 : StV H x o) (h2 : StV H y o) (q : Q (.bl true) H) : sp_l_pair K ([x, y] ++ []) H Q E := ⟨x, y, o, rfl, h1, h2, q⟩
theorem ok_l_pair (T : Txt P K mg) : FnOk P w K mg base CX0 3 T.f_l_pair T.d_l_pair ["actual", "expected"] (sp_l_pair K) := by
  refine T.F_l_pair.ok sc_l_pair (fun vs H Q E h => ?_) (fun cdv A outer s H vs Q E hr h => ?_)
  · obtain ⟨x, y, o, rfl, h1, h2, q⟩ := h
    rfl
  · obtain ⟨x, y, o, rfl, h1, h2, q⟩ := h
    have hu := hu_of hr
    refine ⟨_, (pss_cons (ps_if (pt_cmpR op_isN (pv 1) pe_non (nomark _)) (pss_one (ps_ret (pe_cmpR op_isN (pv 0) pe_non (nomark _)))) pss_nil)
        (pss_cons (ps_if (PW.pt (pw_or (pt_not (pt_val (pe_callB call_isi (by rfl) T.n_isinstance (by decide +kernel) (pa_cons (pv 0) (pa_cons (pe_bltn (v := .ty "tuple") (by rfl) T.n_tuple (by decide +kernel) rfl) pa_nil))))) (pw_or1 (pt_cmpR op_ne (pe_callB call_len_seq (by rfl) T.n_len (by decide +kernel) (pa_cons (pv 0) pa_nil)) pe_int (nomark _))))) (pss_one (ps_ret pe_bl)) pss_nil)
        (pss_one (ps_ret (pe_and (pe_call (ok_l_number T) (hr.mono (by decide)) rfl T.m_l_number T.F_l_number.kp T.b_l_number .nil pass0 (pa_cons (pe_ix ix_tup (pv 0) pe_int (fun _ _ => rfl)) (pa_cons (pe_ix ix_tup (pv 1) pe_int (fun _ _ => rfl)) pa_nil))) (pe_one (pe_call (ok_l_number T) (hr.mono (by decide)) rfl T.m_l_number T.F_l_number.kp T.b_l_number .nil pass0 (pa_cons (pe_ix ix_tup (pv 0) pe_int (fun _ _ => rfl)) (pa_cons (pe_ix ix_tup (pv 1) pe_int (fun _ _ => rfl)) pa_nil))))))))), ?_⟩
    dsimp only [cxOf, Cx.nox, Cx.wish, L2.start, List.map, List.cons_append, List.nil_append, List.length_cons, List.length_nil, Nat.reduceAdd, Nat.reduceSub, Nat.zero_add, List.replicate_succ, List.replicate_zero]
    cases o with
    | none =>
      obtain rfl : x = .non := h1
      obtain rfl : y = .non := h2
      walk_at "go"
      exact q
    | some p =>
      obtain ⟨t1, rfl, e1⟩ := h1
      obtain ⟨t2, rfl, e2⟩ := h2
      unfold tupP at e1 e2
      walk_at "go"
      refine g_isiU e1 ?_
      walk_at "go"
      refine g_len (.inr (st e1)) ?_
      walk_at "go"
      refine g_ixT (st e1) (at_of (j := 0) rfl rfl) ?_
      walk_at "go"
      refine g_ixT (st e2) (at_of (j := 0) rfl rfl) ?_
      walk_at "go"
      refine u_number (o := some p.1) ?_
      walk_at "go"
      refine g_ixT (st e1) (at_of (j := 1) rfl rfl) ?_
      walk_at "go"
      refine g_ixT (st e2) (at_of (j := 1) rfl rfl) ?_
      walk_at "go"
      exact u_number (o := some p.2) q
def sp_l_all_pairs (K : PySem.W.Frag) : Sp := fun vs H Q _ => ∃ (a b : Addr) (us ws : List V) (ps : List (Int × Int)), vs = [.ref a, .ref b] ∧ H a = some (.lst us) ∧ Prs H us ps ∧ H b = some (.lst ws) ∧ Prs H ws ps ∧ ps.length ≤ 1000 ∧ Q (.bl true) H
theorem u_allp {a b : Addr} {us ws : List V} {ps : List (Int × Int)} {H Q E} (h1 : H a = some (.lst us)) (h2 : Prs H us ps) (h3 : H b = some (.lst ws)) (h4 : Prs H ws ps) (hl : ps.length ≤ 1000) (q : Q (.bl true) H) : sp_l_all_pairs K ([.ref a, .ref b] ++ []) H Q E := ⟨a, b, us, ws, ps, rfl, h1, h2, h3, h4, hl, q⟩
theorem ok_l_all_pairs (T : Txt P K mg) : FnOk P w K mg base CX0 4 T.f_l_all_pairs T.d_l_all_pairs ["actual", "expected"] (sp_l_all_pairs K) := by
  refine T.F_l_all_pairs.ok sc_l_all_pairs (fun vs H Q E h => ?_) (fun cdv A outer s H vs Q E hr h => ?_)
  · obtain ⟨a, b, us, ws, ps, rfl, h1, h2, h3, h4, hl, q⟩ := h
    rfl
  · obtain ⟨a, b, us, ws, ps, rfl, h1, h2, h3, h4, hl, q⟩ := h
    have hu := hu_of hr
    refine ⟨_, (pss_cons (ps_if (PW.pt (pw_or (pt_not (pt_val (pe_callB call_isi (by rfl) T.n_isinstance (by decide +kernel) (pa_cons (pv 0) (pa_cons (pe_bltn (v := .ty "list") (by rfl) T.n_list (by decide +kernel) rfl) pa_nil))))) (pw_or1 (pt_cmpR op_ne (pe_callB call_len_seq (by rfl) T.n_len (by decide +kernel) (pa_cons (pv 0) pa_nil)) (pe_callB call_len_seq (by rfl) T.n_len (by decide +kernel) (pa_cons (pv 1) pa_nil)) (nomark _))))) (pss_one (ps_ret pe_bl)) pss_nil)
        (pss_cons (ps_for PassesOwn.never rfl (pi_range1 (by rfl) T.n_range (pa_cons (pe_callB call_len_seq (by rfl) T.n_len (by decide +kernel) (pa_cons (pv 1) pa_nil)) pa_nil)) (pg_name (i := 2) sc_l_all_pairs.nd rfl (Or.inl rfl)) (pss_one (ps_if (pt_not (pt_val (pe_call (ok_l_pair T) (hr.mono (by decide)) rfl T.m_l_pair T.F_l_pair.kp T.b_l_pair .nil pass0 (pa_cons (pe_ix ix_list (pv 0) (pv 2) (fun _ _ => rfl)) (pa_cons (pe_ix ix_list (pv 1) (pv 2) (fun _ _ => rfl)) pa_nil))))) (pss_one (ps_ret pe_bl)) pss_nil)))
        (pss_one (ps_ret pe_bl)))), ?_⟩
    dsimp only [cxOf, Cx.nox, Cx.wish, L2.start, List.map, List.cons_append, List.nil_append, List.length_cons, List.length_nil, Nat.reduceAdd, Nat.reduceSub, Nat.zero_add, List.replicate_succ, List.replicate_zero]
    have l1 := h2.1
    have l2 := h4.1
    walk_at "go"
    refine g_isiL h1 ?_
    walk_at "go"
    refine g_len (.inl (sl h1)) ?_
    walk_at "go"
    refine g_len (.inl (sl h3)) ?_
    walk_at "go"
    refine for_r (n := (ws.length : Int)) ws.length (by omega) (by omega) (by omega) (fun i σ H' => H' = H ∧ ∃ v, σ = [some (.ref a), some (.ref b), v]) ⟨rfl, none, rfl⟩ ?turn ?done ?ev
    case ev =>
      intro R r
      walk_at "go"
      refine g_len (.inl (sl h3)) ?_
      walk_at "go"
      exact r
    case done =>
      rintro σ H' ⟨rfl, v, rfl⟩
      walk_at "go"
      exact q
    case turn =>
      rintro i σ H' hi ⟨rfl, v, rfl⟩
      have hp : ps[i]? = some ps[i] := List.getElem?_eq_getElem (by omega)
      obtain ⟨t1, a1, b1⟩ := h2.2 i _ hp
      obtain ⟨t2, a2, b2⟩ := h4.2 i _ hp
      walk_at "go"
      refine g_ixL (sl h1) (at_of (j := i) rfl a1) ?_
      walk_at "go"
      refine g_ixL (sl h3) (at_of (j := i) rfl a2) ?_
      walk_at "go"
      refine u_pair (o := some ps[i]) ⟨t1, rfl, b1⟩ ⟨t2, rfl, b2⟩ ?_
      walk_at "go"
      exact ⟨rfl, _, rfl⟩
def sp_l_value (K : PySem.W.Frag) : Sp := fun vs H Q _ => ∃ (a : Addr) (ns : List Int), vs = [.ref a] ∧ SqL K H a (ns.map V.int) ∧ Q (.int (vl ns)) H
theorem u_value {a : Addr} {ns : List Int} {H Q E} (h : SqL K H a (ns.map V.int)) (q : Q (.int (vl ns)) H) : sp_l_value K ([.ref a] ++ []) H Q E := ⟨a, ns, rfl, h, q⟩
theorem ok_l_value (T : Txt P K mg) : FnOk P w K mg base CX0 1 T.f_l_value T.d_l_value ["octets"] (sp_l_value K) := by
  refine T.F_l_value.ok sc_l_value (fun vs H Q E h => ?_) (fun cdv A outer s H vs Q E hr h => ?_)
  · obtain ⟨a, ns, rfl, h, q⟩ := h
    rfl
  · obtain ⟨a, ns, rfl, h, q⟩ := h
    have hu := hu_of hr
    refine ⟨_, (pss_cons (ps_set (i := 1) sc_l_value.nd rfl (Or.inl rfl) pe_int)
        (pss_cons (ps_for PassesOwn.never rfl (pi_list (pv 0)) (pg_name (i := 2) sc_l_value.nd rfl (Or.inl rfl)) (pss_one (ps_set (i := 1) sc_l_value.nd rfl (Or.inl rfl) (pe_op op_add (pe_op op_mul pe_int (pv 1)) (pv 2)))))
        (pss_one (ps_ret (pv 1))))), ?_⟩
    dsimp only [cxOf, Cx.nox, Cx.wish, L2.start, List.map, List.cons_append, List.nil_append, List.length_cons, List.length_nil, Nat.reduceAdd, Nat.reduceSub, Nat.zero_add, List.replicate_succ, List.replicate_zero]
    walk_at "go"
    refine for_l (xs := ns.map V.int) (fun i σ H' => H' = H ∧ ∃ v, σ = [some (.ref a), some (.int (vl (ns.take i))), v]) h ⟨rfl, none, rfl⟩ (fun i σ H' _ ⟨e, _⟩ => by rw [e]; exact h) ?turn ?done ?ev
    case ev =>
      intro R r
      walk_at "go"
      exact r
    case done =>
      rintro σ H' ⟨rfl, v, rfl⟩
      rw [List.length_map, List.take_length]
      walk_at "go"
      exact q
    case turn =>
      rintro i x σ H' hx ⟨rfl, v, rfl⟩
      obtain ⟨z, hz, rfl⟩ := map_get hx
      walk_at "go"
      refine ⟨rfl, some (.int z), ?_⟩
      rw [vl_take hz]
def sp_l_pair_of (K : PySem.W.Frag) : Sp := fun vs H Q _ => ∃ (a : Addr) (ns : List Int), vs = [.ref a] ∧ SqL K H a (ns.map V.int) ∧ ∀ t H', H t = none → Same H H' → H' t = some (tupP (pr8 ns)) → Q (.ref t) H'
theorem u_pairof {a : Addr} {ns : List Int} {H Q E} (h : SqL K H a (ns.map V.int)) (q : ∀ t H', H t = none → Same H H' → H' t = some (tupP (pr8 ns)) → Q (.ref t) H') : sp_l_pair_of K ([.ref a] ++ []) H Q E := ⟨a, ns, rfl, h, q⟩
theorem ok_l_pair_of (T : Txt P K mg) : FnOk P w K mg base CX0 2 T.f_l_pair_of T.d_l_pair_of ["octets"] (sp_l_pair_of K) := by
  refine T.F_l_pair_of.ok sc_l_pair_of (fun vs H Q E h => ?_) (fun cdv A outer s H vs Q E hr h => ?_)
  · obtain ⟨a, ns, rfl, h, q⟩ := h
    rfl
  · obtain ⟨a, ns, rfl, h, q⟩ := h
    have hu := hu_of hr
    refine ⟨_, (pss_one (ps_ret (pe_tup (pa_cons (pe_call (ok_l_value T) (hr.mono (by decide)) rfl T.m_l_value T.F_l_value.kp T.b_l_value .nil pass0 (pa_cons (pe_slice sl_list (pv 0) po_none (po_some pe_int)) pa_nil)) (pa_cons (pe_call (ok_l_value T) (hr.mono (by decide)) rfl T.m_l_value T.F_l_value.kp T.b_l_value .nil pass0 (pa_cons (pe_slice sl_list (pv 0) (po_some pe_int) po_none) pa_nil)) pa_nil))))), ?_⟩
    dsimp only [cxOf, Cx.nox, Cx.wish, L2.start, List.map, List.cons_append, List.nil_append, List.length_cons, List.length_nil, Nat.reduceAdd, Nat.reduceSub, Nat.zero_add, List.replicate_succ, List.replicate_zero]
    walk_at "go"
    refine g_slL h fun l1 n1 => ?_
    rw [show (4 : Int) = ((4 : Nat) : Int) from rfl, cut_lo, ← List.map_take]
    walk_at "nw"
    rename_i H1 s1 k1
    walk_at "go"
    refine u_value (sl k1) ?_
    walk_at "go"
    refine g_slL (s1.seq h) fun l2 n2 => ?_
    rw [cut_hi, ← List.map_drop]
    walk_at "nw"
    rename_i H2 s2 k2
    walk_at "go"
    refine u_value (sl k2) ?_
    walk_at "go"
    refine ⟨by show 2 ≤ sizeLine; decide, fun t nt => ?_⟩
    exact q t _ ((s1.trans s2).free nt) ((s1.trans s2).trans (same_upd nt)) upd_same
/-- a list of rows -/
def LLr (H : Hp) (vs : List V) (rs : List (List Int)) : Prop := vs.length = rs.length ∧ ∀ (i : Nat) r, rs[i]? = some r → ∃ a, vs[i]? = some (V.ref a) ∧ H a = some (.lst (r.map V.int))
theorem LLr.same {H H' : Hp} {vs : List V} {rs : List (List Int)} (h : LLr H vs rs) (s : Same H H') : LLr H' vs rs := ⟨h.1, fun i r e => by
  obtain ⟨a, h1, h2⟩ := h.2 i r e
  exact ⟨a, h1, s _ _ h2⟩⟩
theorem LLr.butD {H H' : Hp} {vs : List V} {rs : List (List Int)} {d : Addr} {kvs : List (Key × V)} (h : LLr H vs rs) (s : But d H H') (e : H d = some (.dK kvs)) : LLr H' vs rs := ⟨h.1, fun i r e2 => by
  obtain ⟨a, h1, h2⟩ := h.2 i r e2
  exact ⟨a, h1, s _ _ (fun z => by rw [z, e] at h2; cases h2) h2⟩⟩
theorem LLr.nil {H : Hp} : LLr H [] [] := ⟨rfl, fun i r e => by cases e⟩
theorem LLr.one {H : Hp} {a : Addr} {r : List Int} (h : H a = some (.lst (r.map V.int))) : LLr H [V.ref a] [r] := ⟨rfl, fun i q e => by
  match i, e with
  | 0, e => exact ⟨a, rfl, by rw [← Option.some.inj e]; exact h⟩⟩
theorem LLr.app {H : Hp} {vs us : List V} {ps qs : List (List Int)} (h : LLr H vs ps) (h' : LLr H us qs) : LLr H (vs ++ us) (ps ++ qs) := ⟨by rw [List.length_append, List.length_append, h.1, h'.1], fun i p e => by
  by_cases hi : i < ps.length
  · rw [List.getElem?_append_left hi] at e
    rw [List.getElem?_append_left (by rw [h.1]; exact hi)]
    exact h.2 i p e
  · rw [List.getElem?_append_right (by omega)] at e
    rw [List.getElem?_append_right (by rw [h.1]; omega), h.1]
    exact h'.2 _ p e⟩
theorem LLr.drop {H : Hp} {vs : List V} {ps : List (List Int)} (h : LLr H vs ps) (k : Nat) : LLr H (vs.drop k) (ps.drop k) := ⟨by rw [List.length_drop, List.length_drop, h.1], fun i p e => by
  rw [List.getElem?_drop] at e ⊢
  exact h.2 _ p e⟩
theorem LLr.take {H : Hp} {vs : List V} {ps : List (List Int)} (h : LLr H vs ps) (k : Nat) : LLr H (vs.take k) (ps.take k) := ⟨by rw [List.length_take, List.length_take, h.1], fun i p e => by
  rw [List.getElem?_take] at e ⊢
  split at e
  · rw [if_pos (by assumption)]
    exact h.2 _ p e
  · cases e⟩
def RowsO (H : Hp) (l : Addr) (rs : List (List Int)) : Prop := ∃ vs, H l = some (.lst vs) ∧ LLr H vs rs
theorem RowsO.same {H H' : Hp} {l : Addr} {rs : List (List Int)} (h : RowsO H l rs) (s : Same H H') : RowsO H' l rs := by
  obtain ⟨vs, h1, h2⟩ := h
  exact ⟨vs, s _ _ h1, h2.same s⟩
def insR (rs : List (List Int)) (j : Nat) (r : List Int) : List (List Int) := rs.take j ++ [r] ++ rs.drop j
def sp_l_put (K : PySem.W.Frag) : Sp := fun vs H Q _ => ∃ (l a : Addr) (c : Int) (rs : List (List Int)) (r : List Int), vs = [.ref l, .ref a, .int c] ∧ RowsO H l rs ∧ rs.length ≤ 1000 ∧ H a = some (.lst (r.map V.int)) ∧ ∀ l' H' j, H l' = none → Same H H' → RowsO H' l' (insR rs j r) → Q (.ref l') H'
theorem u_put {l a : Addr} {c : Int} {rs : List (List Int)} {r : List Int} {H Q E} (h : RowsO H l rs) (hl : rs.length ≤ 1000) (ha : H a = some (.lst (r.map V.int))) (q : ∀ l' H' j, H l' = none → Same H H' → RowsO H' l' (insR rs j r) → Q (.ref l') H') : sp_l_put K ([.ref l, .ref a, .int c] ++ []) H Q E := ⟨l, a, c, rs, r, rfl, h, hl, ha, q⟩
theorem ok_l_put (T : Txt P K mg) : FnOk P w K mg base CX0 1 T.f_l_put T.d_l_put ["items", "item", "cell"] (sp_l_put K) := by
  refine T.F_l_put.ok sc_l_put (fun vs H Q E h => ?_) (fun cdv A outer s H vs Q E hr h => ?_)
  · obtain ⟨l, a, c, rs, r, rfl, ⟨vs, h1, h2⟩, hl, ha, q⟩ := h
    rfl
  · obtain ⟨l, a, c, rs, r, rfl, ⟨vs, h1, h2⟩, hl, ha, q⟩ := h
    have hu := hu_of hr
    refine ⟨_, (pss_cons (ps_set (i := 3) sc_l_put.nd rfl (Or.inl rfl) (pe_op op_mod (pe_callTy call_int1 (by rfl) T.n_int (by decide +kernel) (pa_cons (pv 2) pa_nil)) (pe_op op_add (pe_callB call_len_seq (by rfl) T.n_len (by decide +kernel) (pa_cons (pv 0) pa_nil)) pe_int)))
        (pss_one (ps_ret (pe_op op_cat (pe_op op_cat (pe_slice sl_list (pv 0) po_none (po_some (pv 3))) (pe_lst (pa_cons (pv 1) pa_nil))) (pe_slice sl_list (pv 0) (po_some (pv 3)) po_none))))), ?_⟩
    dsimp only [cxOf, Cx.nox, Cx.wish, L2.start, List.map, List.cons_append, List.nil_append, List.length_cons, List.length_nil, Nat.reduceAdd, Nat.reduceSub, Nat.zero_add, List.replicate_succ, List.replicate_zero]
    have l1 := h2.1
    walk_at "go"
    refine g_len (.inl (sl h1)) ?_
    walk_at "go"
    obtain ⟨j, ej, hj⟩ : ∃ j : Nat, c % ((vs.length : Int) + 1) = (j : Int) ∧ j ≤ vs.length := ⟨(c % ((vs.length : Int) + 1)).toNat, by have := Int.emod_nonneg c (show ((vs.length : Int) + 1) ≠ 0 by omega); omega, by have := Int.emod_lt_of_pos c (show 0 < ((vs.length : Int) + 1) by omega); omega⟩
    rw [ej]
    walk_at "go"
    refine g_slL (sl h1) fun l1 n1 => ?_
    rw [cut_lo]
    walk_at "nw"
    rename_i H1 s1 k1
    walk_at "go"
    refine ⟨by show 1 ≤ sizeLine; decide, fun l2 n2 => ?_⟩
    walk_at "nw"
    rename_i H2 s2 k2
    walk_at "go"
    refine g_cat (s2 _ _ k1) k2 (by rw [List.length_take]; exact sz (by show _ + 1 ≤ _; omega)) fun l3 n3 => ?_
    walk_at "nw"
    rename_i H3 s3 k3
    have s03 := (s1.trans s2).trans s3
    walk_at "go"
    refine g_slL (sl (s03 _ _ h1)) fun l4 n4 => ?_
    rw [cut_hi]
    walk_at "nw"
    rename_i H4 s4 k4
    walk_at "go"
    refine g_cat (s4 _ _ k3) k4 (by rw [List.length_append, List.length_take, List.length_drop]; exact sz (by show _ + 1 + _ ≤ _; omega)) fun l5 n5 => ?_
    walk_at "nw"
    rename_i H5 s5 k5
    have s05 := (s03.trans s4).trans s5
    exact q l5 H5 j ((s03.trans s4).free n5) s05 ⟨_, k5, ((h2.same s05).take j |>.app (LLr.one (s05 _ _ ha))).app ((h2.same s05).drop j)⟩
def sp_l_body (K : PySem.W.Frag) : Sp := fun vs H Q _ => ∃ k c : Int, vs = [.int k, .int c] ∧ (lensOf k).isSome = true ∧ ∀ p b H', H p = none → Same H H' → H' p = some (.lst (b.map V.int)) → knownO k b = true → okLen k b.length = true → Q (.ref p) H'
theorem u_body {k c : Int} {H Q E} (h : (lensOf k).isSome = true) (q : ∀ p b H', H p = none → Same H H' → H' p = some (.lst (b.map V.int)) → knownO k b = true → okLen k b.length = true → Q (.ref p) H') : sp_l_body K ([.int k, .int c] ++ []) H Q E := ⟨k, c, rfl, h, q⟩
theorem okl_mk {k : Int} {n : Nat} {ws : List Int} (e : lensOf k = some ws) (h : (n : Int) ∈ ws) : okLen k n = true := by
  unfold okLen
  rw [e]
  exact decide_eq_true h
theorem kn_mk {k : Int} {b : List Int} (h : k ≠ 253) (e : (lensOf k).isSome = true) : knownO k b = true := by
  unfold knownO
  rw [if_neg h]
  exact e
def kdB : List (Key × V) := [(.inl 2, .int 2), (.inl 3, .int 1), (.inl 4, .int 0), (.inl 8, .int 8)]
theorem mk_kdB : mergeK [] kdB = kdB := by decide +kernel
theorem ok_l_body (T : Txt P K mg) : FnOk P w K mg base CX0 2 T.f_l_body T.d_l_body ["kind", "cell"] (sp_l_body K) := by
  refine T.F_l_body.ok sc_l_body (fun vs H Q E h => ?_) (fun cdv A outer s H vs Q E hr h => ?_)
  · obtain ⟨k, c, rfl, hk, q⟩ := h
    rfl
  · obtain ⟨k, c, rfl, hk, q⟩ := h
    have hu := hu_of hr
    refine ⟨_, (pss_cons (ps_if (pt_cmpR op_eq (pv 0) pe_int (nomark _)) (pss_one (ps_ret (pe_op op_cat (pe_lst (pa_cons pe_int (pa_cons pe_int pa_nil))) (pe_call (ok_l_row T) (hr.mono (by decide)) rfl T.m_l_row T.F_l_row.kp T.b_l_row .nil pass0 (pa_cons (pv 1) (pa_cons (pe_ix ix_list (pe_lst (pa_cons pe_int (pa_cons pe_int pa_nil))) (pe_op op_mod (pe_op op_fdiv (pe_callTy call_int1 (by rfl) T.n_int (by decide +kernel) (pa_cons (pv 1) pa_nil)) pe_int) pe_int) (fun _ _ => rfl)) (pa_cons pe_int pa_nil))))))) pss_nil)
        (pss_cons (ps_if (pt_cmpR op_eq (pv 0) pe_int (nomark _)) (pss_one (ps_ret (pe_call (ok_l_row T) (hr.mono (by decide)) rfl T.m_l_row T.F_l_row.kp T.b_l_row .nil pass0 (pa_cons (pv 1) (pa_cons (pe_op op_add pe_int (pe_op op_mul pe_int (pe_op op_mod (pe_op op_fdiv (pe_callTy call_int1 (by rfl) T.n_int (by decide +kernel) (pa_cons (pv 1) pa_nil)) pe_int) pe_int))) (pa_cons pe_int pa_nil)))))) pss_nil)
        (pss_one (ps_ret (pe_call (ok_l_row T) (hr.mono (by decide)) rfl T.m_l_row T.F_l_row.kp T.b_l_row .nil pass0 (pa_cons (pv 1) (pa_cons (pe_dget hu (pe_disp (pps_cons pe_int pe_int (pps_cons pe_int pe_int (pps_cons pe_int pe_int (pps_cons pe_int pe_int pps_nil)))) (by rfl) (by rfl) (fun z => by cases z) (by decide)) (pv 0) (fun _ _ => rfl)) (pa_cons pe_int pa_nil)))))))), ?_⟩
    dsimp only [cxOf, Cx.nox, Cx.wish, L2.start, List.map, List.cons_append, List.nil_append, List.length_cons, List.length_nil, Nat.reduceAdd, Nat.reduceSub, Nat.zero_add, List.replicate_succ, List.replicate_zero]
    walk_at "go"
    refine g_ite (fun c1 => ?_) (fun c1 => ?_)
    · subst c1
      walk_at "go"
      refine ⟨by show 2 ≤ sizeLine; decide, fun l1 n1 => ?_⟩
      walk_at "nw"
      rename_i H1 s1 k1
      walk_at "go"
      refine ⟨by show 2 ≤ sizeLine; decide, fun l2 n2 => ?_⟩
      walk_at "nw"
      rename_i H2 s2 k2
      walk_at "go"
      obtain ⟨z, ez, hz⟩ : ∃ z : Int, (z = 4 ∨ z = 8) ∧ atI [V.int 4, V.int 8] (c / 5 % 2) = some (.int z) := by
        have d0 : 0 ≤ c / 5 % 2 := Int.emod_nonneg _ (by decide)
        have d1 : c / 5 % 2 < 2 := Int.emod_lt_of_pos _ (by decide)
        generalize c / 5 % 2 = d at d0 d1
        obtain rfl | rfl : d = 0 ∨ d = 1 := by omega
        · exact ⟨4, .inl rfl, rfl⟩
        · exact ⟨8, .inr rfl, rfl⟩
      refine g_ixL (sl k2) hz ?_
      walk_at "go"
      refine u_row ⟨by omega, by omega, by decide, by decide⟩ fun p row H3 hrow hb np s3 k3 => ?_
      walk_at "go"
      refine g_cat (s3 _ _ (s2 _ _ k1)) k3 (by rw [List.length_map]; exact sz (by show 2 + _ ≤ _; omega)) fun l4 n4 => ?_
      walk_at "nw"
      rename_i H4 s4 k4
      refine q l4 (83 :: 85 :: row) H4 (((s1.trans s2).trans s3).free n4) (((s1.trans s2).trans s3).trans s4) k4 (by unfold knownO; rw [if_pos rfl]; exact decide_eq_true rfl) (okl_mk (ws := [6, 10]) rfl ?_)
      simp only [List.mem_cons, List.length_cons, List.not_mem_nil, or_false]
      omega
    · walk_at "go"
      refine g_ite (fun c2 => ?_) (fun c2 => ?_)
      · subst c2
        walk_at "go"
        have d0 : 0 ≤ c / 5 % 4 := Int.emod_nonneg _ (by decide)
        have d1 : c / 5 % 4 < 4 := Int.emod_lt_of_pos _ (by decide)
        refine u_row ⟨by omega, by omega, by decide, by decide⟩ fun p row H3 hrow hb np s3 k3 => ?_
        refine q p row H3 np s3 k3 (kn_mk (by decide) rfl) (okl_mk (ws := [8, 16, 24, 32]) rfl ?_)
        simp only [List.mem_cons, List.not_mem_nil, or_false]
        omega
      · walk_at "go"
        intro d nd
        walk_at "go"
        refine ⟨upd_same, kdB, rfl, by decide, ?_⟩
        rw [mk_kdB, upd_upd]
        walk_at "nw"
        rename_i H1 s1 k1
        walk_at "go"
        obtain ⟨n, hn, hw, n0⟩ : ∃ n : Int, valV kdB (.inl k) = some (.int n) ∧ lensOf k = some [n] ∧ 0 ≤ n ∧ n ≤ 8 := by
          obtain ⟨ws, hws⟩ := Option.isSome_iff_exists.mp hk
          rcases lens_cases hws with ⟨rfl, rfl⟩ | ⟨rfl, rfl⟩ | ⟨rfl, rfl⟩ | ⟨rfl, rfl⟩ | ⟨rfl, rfl⟩ | ⟨rfl, rfl⟩
          · exact ⟨2, rfl, rfl, by decide, by decide⟩
          · exact ⟨1, rfl, rfl, by decide, by decide⟩
          · exact ⟨0, rfl, rfl, by decide, by decide⟩
          · exact absurd rfl c2
          · exact ⟨8, rfl, rfl, by decide, by decide⟩
          · exact absurd rfl c1
        have hg := DGet.k (k := .inl k) k1
        rw [hn] at hg
        refine ⟨d, _, rfl, hg, ?_⟩
        walk_at "go"
        refine u_row ⟨by omega, by omega, by decide, by decide⟩ fun p row H3 hrow hb np s3 k3 => ?_
        refine q p row H3 (s1.free np) (s1.trans s3) k3 (kn_mk c1 hk) (okl_mk hw ?_)
        simp only [List.mem_cons, List.not_mem_nil, or_false]
        exact hrow
def sp_l_skipped (K : PySem.W.Frag) : Sp := fun vs H Q _ => ∃ c : Int, vs = [.int c] ∧ ∀ p k b H', H p = none → Same H H' → H' p = some (.lst ((Itm.enc (.opt k b)).map V.int)) → k ≠ 0 → k ≠ 1 → knownO k b = false → b.length ≤ 4 → Q (.ref p) H'
theorem u_skipped {c : Int} {H Q E} (q : ∀ p k b H', H p = none → Same H H' → H' p = some (.lst ((Itm.enc (.opt k b)).map V.int)) → k ≠ 0 → k ≠ 1 → knownO k b = false → b.length ≤ 4 → Q (.ref p) H') : sp_l_skipped K ([.int c] ++ []) H Q E := ⟨c, rfl, q⟩
theorem skk : ∀ x ∈ ([6, 7, 9, 252, 254, 255, 77] : List Int), x ≠ 0 ∧ x ≠ 1 ∧ x ≠ 253 ∧ lensOf x = none := by decide
theorem ok_l_skipped (T : Txt P K mg) : FnOk P w K mg base CX0 2 T.f_l_skipped T.d_l_skipped ["cell"] (sp_l_skipped K) := by
  refine T.F_l_skipped.ok sc_l_skipped (fun vs H Q E h => ?_) (fun cdv A outer s H vs Q E hr h => ?_)
  · obtain ⟨c, rfl, q⟩ := h
    rfl
  · obtain ⟨c, rfl, q⟩ := h
    have hu := hu_of hr
    refine ⟨_, (pss_cons (ps_if (pt_cmpR op_eq (pe_op op_mod (pe_callTy call_int1 (by rfl) T.n_int (by decide +kernel) (pa_cons (pv 0) pa_nil)) pe_int) pe_int (nomark _)) (pss_one (ps_ret (pe_lst (pa_cons pe_int (pa_cons pe_int (pa_cons pe_int (pa_cons (pe_op op_add pe_int (pe_op op_mul pe_int (pe_op op_mod (pe_op op_fdiv (pe_callTy call_int1 (by rfl) T.n_int (by decide +kernel) (pa_cons (pv 0) pa_nil)) pe_int) pe_int))) pa_nil))))))) pss_nil)
        (pss_cons (ps_set (i := 1) sc_l_skipped.nd rfl (Or.inl rfl) (pe_ix ix_list (pe_lst (pa_cons pe_int (pa_cons pe_int (pa_cons pe_int (pa_cons pe_int (pa_cons pe_int (pa_cons pe_int (pa_cons pe_int pa_nil)))))))) (pe_op op_mod (pe_op op_fdiv (pe_callTy call_int1 (by rfl) T.n_int (by decide +kernel) (pa_cons (pv 0) pa_nil)) pe_int) pe_int) (fun _ _ => rfl)))
        (pss_cons (ps_set (i := 2) sc_l_skipped.nd rfl (Or.inl rfl) (pe_call (ok_l_row T) (hr.mono (by decide)) rfl T.m_l_row T.F_l_row.kp T.b_l_row .nil pass0 (pa_cons (pv 0) (pa_cons (pe_op op_mod (pe_op op_fdiv (pe_callTy call_int1 (by rfl) T.n_int (by decide +kernel) (pa_cons (pv 0) pa_nil)) pe_int) pe_int) (pa_cons pe_int pa_nil)))))
        (pss_one (ps_ret (pe_op op_cat (pe_lst (pa_cons (pv 1) (pa_cons (pe_op op_add (pe_callB call_len_seq (by rfl) T.n_len (by decide +kernel) (pa_cons (pv 2) pa_nil)) pe_int) pa_nil))) (pv 2))))))), ?_⟩
    dsimp only [cxOf, Cx.nox, Cx.wish, L2.start, List.map, List.cons_append, List.nil_append, List.length_cons, List.length_nil, Nat.reduceAdd, Nat.reduceSub, Nat.zero_add, List.replicate_succ, List.replicate_zero]
    walk_at "go"
    refine g_ite (fun c1 => ?_) (fun c1 => ?_)
    · walk_at "go"
      refine ⟨by show 4 ≤ sizeLine; decide, fun l1 n1 => ?_⟩
      have d0 : 0 ≤ c / 2 % 2 := Int.emod_nonneg _ (by decide)
      have d1 : c / 2 % 2 < 2 := Int.emod_lt_of_pos _ (by decide)
      refine q l1 253 [83, 84 + 2 * (c / 2 % 2)] _ n1 (same_upd n1) upd_same (by decide) (by decide) ?_ (by show 2 ≤ 4; decide)
      unfold knownO
      rw [if_pos rfl]
      refine decide_eq_false fun z => ?_
      have : (84 + 2 * (c / 2 % 2)) = 85 := by
        injection z with _ z
        injection z
      omega
    · walk_at "go"
      refine ⟨by show 7 ≤ sizeLine; decide, fun l1 n1 => ?_⟩
      walk_at "nw"
      rename_i H1 s1 k1
      walk_at "go"
      obtain ⟨z, ez, hz⟩ : ∃ z : Int, z ∈ ([6, 7, 9, 252, 254, 255, 77] : List Int) ∧ atI (([6, 7, 9, 252, 254, 255, 77] : List Int).map V.int) (c / 2 % 7) = some (.int z) := by
        have d0 : 0 ≤ c / 2 % 7 := Int.emod_nonneg _ (by decide)
        have d1 : c / 2 % 7 < 7 := Int.emod_lt_of_pos _ (by decide)
        obtain ⟨z, e1, e2⟩ := atI_ints (xs := [6, 7, 9, 252, 254, 255, 77]) (i := c / 2 % 7) d0 (by show _ < (7 : Int); exact d1)
        exact ⟨z, List.mem_of_getElem? e2, e1⟩
      refine g_ixL (xs := ([6, 7, 9, 252, 254, 255, 77] : List Int).map V.int) (sl k1) hz ?_
      walk_at "go"
      have d0 : 0 ≤ c / 14 % 5 := Int.emod_nonneg _ (by decide)
      have d1 : c / 14 % 5 < 5 := Int.emod_lt_of_pos _ (by decide)
      refine u_row ⟨by omega, by omega, by decide, by decide⟩ fun p row H3 hrow hb np s3 k3 => ?_
      walk_at "go"
      refine g_len (.inl (sl k3)) ?_
      walk_at "go"
      rw [List.length_map]
      refine ⟨by show 2 ≤ sizeLine; decide, fun l4 n4 => ?_⟩
      walk_at "nw"
      rename_i H4 s4 k4
      walk_at "go"
      refine g_cat k4 (s4 _ _ k3) (by rw [List.length_map]; exact sz (by show 2 + _ ≤ _; omega)) fun l5 n5 => ?_
      walk_at "nw"
      rename_i H5 s5 k5
      obtain ⟨a1, a2, a3, a4⟩ := skk z ez
      exact q l5 z row H5 (((s1.trans s3).trans s4).free n5) (((s1.trans s3).trans s4).trans s5) k5 a1 a2 (by unfold knownO; rw [if_neg a3, a4]; rfl) (by omega)
end
end My
namespace My
open PySem PySem.Spec L2
local macro_rules | `(tactic| walk_at "side") => `(tactic| first | assumption | decide | omega | exact ⟨by decide, by decide⟩ | exact ⟨by decide, by decide, by decide⟩ | decide +kernel | exact cdivW (by decide +kernel) (by decide +kernel) | exact Or.inl ⟨by omega, by omega⟩ | exact Or.inr ⟨by omega, by omega⟩ | (simp only [List.length_map, List.length_cons, List.length_nil, List.length_append]; omega))
local macro_rules | `(tactic| walk_at "fact") => `(tactic| first | assumption | omega | with_reducible rfl)
local macro_rules | `(tactic| walk_at "use") => `(tactic| fail "use")
local macro_rules | `(tactic| walk_at "go1") => `(tactic| with_reducible first | refine g_seq ?_ | refine g_asg ?_ | refine g_ret ?_ | refine g_ifS ?_ | refine g_drop ?_ | refine g_star ?_ | refine g_nx ?_ | refine g_rt ?_ | refine g_bkE ?_ | refine g_ctE ?_ | refine g_next ?_ | refine g_retN ?_ | refine g_brk ?_ | refine g_ct ?_ | refine g_c ?_ | refine g_op ?_ | refine g_un ?_ | refine g_rI0 ?_ | refine g_rU ?_ | refine g_rEqI ?_ | refine g_rNeI ?_ | refine g_isN ?_ | refine g_rIsB ?_ | refine g_rNotB ?_ | refine g_test ?_ | refine g_B ?_ | refine g_bl ?_ | refine g_and ?_ | refine g_or ?_ | refine g_not ?_ | refine g_andV ?_ | refine g_orV ?_ | refine g_notV ?_ | refine g_if ?_ | refine g_chain ?_ | refine g_yes ?_ | refine g_lc ?_ | refine g_revR ?_ | refine g_rng1 ?_ | refine g_iList ?_ | refine g_nil ?_ | refine g_cons ?_ | refine g_tup ?_ | refine g_lst ?_ | refine g_call ?_ | refine g_CB ?_ | refine g_sl ?_ | refine g_noPart ?_ | refine g_part ?_ | refine g_intE ?_ | refine g_ref ?_ | refine g_fld ?_ | refine g_sfld ?_ | refine g_meth ?_ | refine g_make ?_ | refine g_prop ?_  | refine g_ipI ?_ | refine g_int1 ?_ | refine g_int1B ?_ | refine g_one ?_ | refine g_two ?_ | refine g_isiI ?_ | refine g_isiIB ?_ | refine g_isiB ?_ | refine g_BM ?_ | refine g_BM0 ?_ | refine g_sub ?_)
local macro_rules | `(tactic| walk_at "go") => `(tactic| repeat (first | walk_at "go1" | ((with_reducible refine' g_nameE ?sd_ ?_); case sd_ => dsimp only [List.set_cons_succ, List.set_cons_zero]) | ((with_reducible refine' g_var ?sd_ ?_); case sd_ => exact rfl) | ((with_reducible refine' g_aug ?sd_ ?_); case sd_ => exact rfl) | ((with_reducible refine' g_rI ?sd_ ?_); case sd_ => walk_at "side") | ((with_reducible refine' g_dT ?sd_ ?_); case sd_ => walk_at "fact") | ((with_reducible refine' g_dF ?sd_ ?_); case sd_ => walk_at "fact") | ((with_reducible refine' g_nT ?sd_ ?_); case sd_ => walk_at "fact") | ((with_reducible refine' g_nF ?sd_ ?_); case sd_ => walk_at "fact") | (with_reducible refine g_iT rfl ?_) | (with_reducible refine g_iF rfl ?_) | walk_at "use"))
local macro_rules | `(tactic| walk_at "nw") => `(tactic| (generalize zq : upd _ _ _ = Hq; have sq : Same _ Hq := (by rw [← zq]; exact same_upd (by assumption)); have kq := (congrFun zq _).symm.trans upd_same; clear zq))
local macro_rules | `(tactic| walk_at "bt") => `(tactic| (generalize zq : upd _ _ _ = Hq; have bq : But _ _ Hq := (by rw [← zq]; exact But.refl.upd); have kq := (congrFun zq _).symm.trans upd_same; clear zq))

section
variable {P : Program} {w : World} {K : PySem.W.Frag} {mg : Str → Option Value} {base : Heap}
local macro_rules | `(tactic| walk_at "use") => `(tactic| with_reducible first | refine g_rs0 ?_ | refine g_rs1 ?_ | refine g_tryA ?_ | refine g_tryO ?_ | refine g_callS ?_ | refine g_joined ?_ | refine g_jsnil ?_ | refine g_jscons ?_ | refine g_fmt ?_)
local macro_rules | `(tactic| walk_at "fit") => `(tactic| (refine fit2 ?_; (try simp only [PySem.Str.length_append]); omega))
local macro_rules | `(tactic| walk_at "use") => `(tactic| first | ((with_reducible refine' g_addS ?sd_ ?_); case sd_ => (first | omega | (simp only [PySem.Str.length_append]; omega))) | ((with_reducible refine' g_slS ?sd_ ?_); case sd_ => omega) | (with_reducible refine g_m0 ?_))

local macro_rules | `(tactic| walk_at "use") => `(tactic| with_reducible first | refine g_dgetI ?_ | refine g_dputI ?_ | refine g_dget1I ?_ | refine g_dget2I ?_ | refine g_dinI ?_ | refine g_dnotinI ?_ | refine g_dnewK ?_)

local macro_rules | `(tactic| walk_at "use") => `(tactic| with_reducible refine u_cell (by assumption) (by omega) ?_)
/-- the entries of the dict of bodies -/
def BsK (H : Hp) (kvs : List (Key × V)) (bs : List (Int × List Int)) : Prop := kvs.length = bs.length ∧ ∀ (i : Nat) k b, bs[i]? = some (k, b) → ∃ l, kvs[i]? = some ((Sum.inl k : Key), V.ref l) ∧ H l = some (.lst (b.map V.int))
theorem BsK.same {H H' : Hp} {kvs : List (Key × V)} {bs : List (Int × List Int)} (h : BsK H kvs bs) (s : Same H H') : BsK H' kvs bs := ⟨h.1, fun i k b e => by
  obtain ⟨l, h1, h2⟩ := h.2 i k b e
  exact ⟨l, h1, s _ _ h2⟩⟩
theorem BsK.butD {H H' : Hp} {kvs : List (Key × V)} {bs : List (Int × List Int)} {d : Addr} (h : BsK H kvs bs) (s : But d H H') {u : HO} (e : H d = some u) (n : ∀ xs, u ≠ .lst xs) : BsK H' kvs bs := ⟨h.1, fun i k b e2 => by
  obtain ⟨l, h1, h2⟩ := h.2 i k b e2
  exact ⟨l, h1, s _ _ (fun z => by rw [z, e] at h2; exact n _ (Option.some.inj h2)) h2⟩⟩
theorem BsK.get {H : Hp} {kvs : List (Key × V)} {bs : List (Int × List Int)} {f : Bod} (h : BsK H kvs bs) (F : BsF bs f) (k : Int) : (f k = none ∧ valV kvs (.inl k) = none) ∨ ∃ b l, f k = some b ∧ valV kvs (.inl k) = some (V.ref l) ∧ H l = some (.lst (b.map V.int)) := by
  unfold valV
  cases e : kvs.find? fun kv => decide (kv.1 = .inl k) with
  | none =>
    refine .inl ⟨?_, rfl⟩
    cases z : f k with
    | none => rfl
    | some b =>
      obtain ⟨i, hi⟩ := List.mem_iff_getElem?.mp ((F k b).mp z)
      obtain ⟨l, h1, _⟩ := h.2 i k b hi
      have := List.find?_eq_none.mp e _ (List.mem_of_getElem? h1)
      exact absurd (decide_eq_true rfl) this
  | some kv =>
    have hk : kv.1 = .inl k := of_decide_eq_true (List.find?_some (p := fun kv : Key × V => decide (kv.1 = .inl k)) e)
    obtain ⟨i, hi⟩ := List.mem_iff_getElem?.mp (List.mem_of_find?_eq_some e)
    have hl : i < bs.length := by
      obtain ⟨z, _⟩ := List.getElem?_eq_some_iff.mp hi
      have := h.1
      omega
    obtain ⟨l, h1, h2⟩ := h.2 i bs[i].1 bs[i].2 (List.getElem?_eq_getElem hl)
    rw [hi] at h1
    have e1 := Option.some.inj h1
    subst e1
    have ek : bs[i].1 = k := Sum.inl.inj hk
    refine .inr ⟨bs[i].2, l, (F k _).mpr ?_, rfl, h2⟩
    rw [← ek]
    exact List.getElem_mem hl
/-- get at an address -/
theorem BsK.dget {H : Hp} {d : Addr} {kvs : List (Key × V)} {bs : List (Int × List Int)} {f : Bod} (h : BsK H kvs bs) (e : H d = some (.dK kvs)) (F : BsF bs f) (k : Int) : (f k = none ∧ DGet H d (.int k) none) ∨ ∃ b l, f k = some b ∧ H l = some (.lst (b.map V.int)) ∧ DGet H d (.int k) (some (.ref l)) := by
  have z := DGet.k (k := .inl k) e
  rcases h.get F k with ⟨h1, h2⟩ | ⟨b, l, h1, h2, h3⟩
  · rw [h2] at z; exact .inl ⟨h1, z⟩
  · rw [h2] at z; exact .inr ⟨b, l, h1, h3, z⟩
/-- a comprehension of pairs, under way -/
def LcPP (H1 : Hp) (D : Addr) (ps : List (Int × Int)) (i : Nat) (H : Hp) : Prop := Same H1 H ∧ ∃ us, H D = some (.lst us) ∧ Prs H us (ps.take i)
theorem lc_pair {H1 H3 : Hp} {D t : Addr} {ps : List (Int × Int)} {i : Nat} {p : Int × Int} (hD : H1 D = none) (h : LcPP H1 D ps i H3) (ht : H3 t = none) (hp : ps[i]? = some p) (hz : ps.length ≤ 100000) :
    ∃ acc, (upd H3 t (.tup [V.int p.1, V.int p.2])) D = some (.lst acc) ∧ acc.length < sizeLine ∧ LcPP H1 D ps (i + 1) (upd (upd H3 t (.tup [V.int p.1, V.int p.2])) D (.lst (acc ++ [V.ref t]))) := by
  obtain ⟨sm, us, e, hP⟩ := h
  have ntD : t ≠ D := fun z => by rw [z, e] at ht; cases ht
  have bu : But D H3 (upd (upd H3 t (.tup [V.int p.1, V.int p.2])) D (.lst (us ++ [V.ref t]))) := (But.of (same_upd ht)).upd
  have et : (upd (upd H3 t (.tup [V.int p.1, V.int p.2])) D (.lst (us ++ [V.ref t]))) t = some (tupP p) := by rw [upd_ne ntD, upd_same]; rfl
  refine ⟨us, upd_keep ht e, ?_, ?_, us ++ [V.ref t], upd_same, ?_⟩
  · rw [hP.1, List.length_take]
    obtain ⟨h, _⟩ := List.getElem?_eq_some_iff.mp hp
    exact szl (by omega)
  · exact ((But.of sm).trans bu).same hD
  · rw [List.take_add_one, hp]
    exact (hP.but bu e).app (Prs.one et)

theorem lc_pair2 {H1 H3 H4 : Hp} {D t : Addr} {ps : List (Int × Int)} {i : Nat} {p : Int × Int} (hD : H1 D = none) (h : LcPP H1 D ps i H3) (s : Same H3 H4) (ht : H4 t = some (tupP p)) (hp : ps[i]? = some p) (hz : ps.length ≤ 100000) :
    ∃ acc, H4 D = some (.lst acc) ∧ acc.length < sizeLine ∧ LcPP H1 D ps (i + 1) (upd H4 D (.lst (acc ++ [V.ref t]))) := by
  obtain ⟨sm, us, e, hP⟩ := h
  have e4 := s _ _ e
  have ntD : t ≠ D := fun z => by rw [z, e4] at ht; cases ht
  have bu : But D H4 (upd H4 D (.lst (us ++ [V.ref t]))) := But.refl.upd
  refine ⟨us, e4, ?_, ((But.of (sm.trans s)).trans bu).same hD, us ++ [V.ref t], upd_same, ?_⟩
  · rw [hP.1, List.length_take]
    obtain ⟨h, _⟩ := List.getElem?_eq_some_iff.mp hp
    exact szl (by omega)
  · rw [List.take_add_one, hp]
    exact ((hP.same s).but bu e4).app (Prs.one (by rw [upd_ne ntD]; exact ht))
def sp_l_values (K : PySem.W.Frag) : Sp := fun vs H Q _ => ∃ (d : Addr) (kvs : List (Key × V)) (bs : List (Int × List Int)) (f : Bod), vs = [.ref d] ∧ H d = some (.dK kvs) ∧ BsK H kvs bs ∧ BsF bs f ∧ BsOk bs ∧
  ∀ v H' p us sv, H v = none → Same H H' → H' v = some (.lst [oV (opOf f).mss, oV (opOf f).scale, .bl (opOf f).kn, .ref p, sv, oV (opOf f).count, oV (opOf f).echo]) → H' p = some (.lst us) → Prs H' us (opOf f).rs → StV H' sv (opOf f).stamp → Q (.ref v) H'
theorem u_values {d : Addr} {kvs : List (Key × V)} {bs : List (Int × List Int)} {f : Bod} {H Q E} (h1 : H d = some (.dK kvs)) (h2 : BsK H kvs bs) (h3 : BsF bs f) (h4 : BsOk bs)
    (q : ∀ v H' p us sv, H v = none → Same H H' → H' v = some (.lst [oV (opOf f).mss, oV (opOf f).scale, .bl (opOf f).kn, .ref p, sv, oV (opOf f).count, oV (opOf f).echo]) → H' p = some (.lst us) → Prs H' us (opOf f).rs → StV H' sv (opOf f).stamp → Q (.ref v) H') : sp_l_values K ([.ref d] ++ []) H Q E := ⟨d, kvs, bs, f, rfl, h1, h2, h3, h4, q⟩
theorem ok_l_values (T : Txt P K mg) : FnOk P w K mg base CX0 3 T.f_l_values T.d_l_values ["bodies"] (sp_l_values K) := by
  refine T.F_l_values.ok sc_l_values (fun vs H Q E h => ?_) (fun cdv A outer s H vs Q E hr h => ?_)
  · obtain ⟨d, kvs, bs, f, rfl, hd, hB, F, ok, q⟩ := h
    rfl
  · obtain ⟨d, kvs, bs, f, rfl, hd, hB, F, ok, q⟩ := h
    have hu := hu_of hr
    refine ⟨_, (pss_cons (ps_set (i := 1) sc_l_values.nd rfl (Or.inl rfl) (pe_lst (pa_cons pe_non (pa_cons pe_non (pa_cons (pe_cmp (pc_din hu pe_int (pv 0))) (pa_cons (pe_lst pa_nil) (pa_cons pe_non (pa_cons pe_non (pa_cons pe_non pa_nil)))))))))
        (C8.pss_cut (ps_if (pt_cmp (pc_din hu pe_int (pv 0))) (pss_one (ps_asg (pe_call (ok_l_value T) (hr.mono (by decide)) rfl T.m_l_value T.F_l_value.kp T.b_l_value .nil pass0 (pa_cons (pe_dget hu (pv 0) pe_int (fun _ _ => rfl)) pa_nil)) (pg_sub (pv 1) pe_int set_list))) pss_nil)
        (C8.pss_cut (ps_if (pt_cmp (pc_din hu pe_int (pv 0))) (pss_one (ps_asg (pe_callB (call_min2 rfl) (by rfl) T.n_min (by decide +kernel) (pa_cons pe_int (pa_cons (pe_ix ix_list (pe_dget hu (pv 0) pe_int (fun _ _ => rfl)) pe_int (fun _ _ => rfl)) pa_nil))) (pg_sub (pv 1) pe_int set_list))) pss_nil)
        (C8.pss_cut (ps_if (pt_cmp (pc_din hu pe_int (pv 0))) (pss_one (ps_asg (pe_lc (own := [("k", 2)]) (g := gName 2) (tt := tYes) rfl sc_l_values.nd (pi_range1 (by rfl) T.n_range (pa_cons (pe_op op_fdiv (pe_callB call_len_seq (by rfl) T.n_len (by decide +kernel) (pa_cons (pe_dget hu (pv 0) pe_int (fun _ _ => rfl)) pa_nil)) pe_int) pa_nil)) (blkOk_by (N := ["bodies", "values", "k"]) (sc := defScope s_l_values) (by decide +kernel)) (fun _ _ _ _ _ => (pg_name (i := 2) sc_l_values.nd rfl (Or.inl rfl))) (fun _ _ _ _ _ => pts_nil) (fun _ _ _ _ _ => (pe_call (ok_l_pair_of T) (hr.mono (by decide)) rfl T.m_l_pair_of T.F_l_pair_of.kp T.b_l_pair_of .nil pass0 (pa_cons (pe_slice (r := rSlL K) sl_list (pe_dget hu (pv 0) pe_int (fun _ _ => rfl)) (po_some (pe_op op_mul pe_int (pv 2))) (po_some (pe_op op_add (pe_op op_mul pe_int (pv 2)) pe_int))) pa_nil)))) (pg_sub (pv 1) pe_int set_list))) pss_nil)
        (C8.pss_cut (ps_if (pt_cmp (pc_din hu pe_int (pv 0))) (pss_one (ps_asg (pe_call (ok_l_pair_of T) (hr.mono (by decide)) rfl T.m_l_pair_of T.F_l_pair_of.kp T.b_l_pair_of .nil pass0 (pa_cons (pe_dget hu (pv 0) pe_int (fun _ _ => rfl)) pa_nil)) (pg_sub (pv 1) pe_int set_list))) pss_nil)
        (pss_cons (ps_if (pt_cmp (pc_din hu pe_int (pv 0))) (pss_cons (ps_asg (pe_call (ok_l_value T) (hr.mono (by decide)) rfl T.m_l_value T.F_l_value.kp T.b_l_value .nil pass0 (pa_cons (pe_slice sl_list (pe_dget hu (pv 0) pe_int (fun _ _ => rfl)) (po_some pe_int) (po_some pe_int)) pa_nil)) (pg_sub (pv 1) pe_int set_list))
        (pss_one (ps_if (pt_cmpR op_eq (pe_callB call_len_seq (by rfl) T.n_len (by decide +kernel) (pa_cons (pe_dget hu (pv 0) pe_int (fun _ _ => rfl)) pa_nil)) pe_int (nomark _)) (pss_one (ps_asg (pe_call (ok_l_value T) (hr.mono (by decide)) rfl T.m_l_value T.F_l_value.kp T.b_l_value .nil pass0 (pa_cons (pe_slice sl_list (pe_dget hu (pv 0) pe_int (fun _ _ => rfl)) (po_some pe_int) po_none) pa_nil)) (pg_sub (pv 1) pe_int set_list))) pss_nil))) pss_nil)
        (pss_one (ps_ret (pv 1))))))))), ?_⟩
    dsimp only [cxOf, Cx.nox, Cx.wish, L2.start, List.map, List.cons_append, List.nil_append, List.length_cons, List.length_nil, Nat.reduceAdd, Nat.reduceSub, Nat.zero_add, List.replicate_succ, List.replicate_zero]
    have lo : ∀ k b, f k = some b → okLen k b.length = true := fun k b e => (ok.1 _ ((F k b).mp e)).2
    walk_at "go"
    have g4 : ∃ o, DGet H d (.int 4) o ∧ o.isSome = (opOf f).kn := by
      rcases hB.dget hd F 4 with ⟨e, g⟩ | ⟨b, l', e, k, g⟩
      · exact ⟨none, g, by show false = (f 4).isSome; rw [e]; rfl⟩
      · exact ⟨_, g, by show true = (f 4).isSome; rw [e]; rfl⟩
    obtain ⟨o4, g4, e4⟩ := g4
    refine ⟨d, o4, rfl, g4, ?_⟩
    rw [e4]
    clear g4 e4
    walk_at "go"
    refine ⟨Nat.zero_le _, fun l0 n0 => ?_⟩
    walk_at "nw"
    rename_i H1 s1 k1
    walk_at "go"
    refine ⟨by show 7 ≤ sizeLine; decide, fun v nv1 => ?_⟩
    have nv := s1.free nv1
    walk_at "nw"
    rename_i H2 s2 k2
    have s02 := s1.trans s2
    have k12 := s2 _ _ k1
    have nl0 : l0 ≠ v := ne_of_none k1 nv1
    clear s1 s2 k1
    walk_at "go"
    refine g_cut (fun σ' H' => σ' = [some (.ref d), some (.ref v), none] ∧ Same H H' ∧ H' l0 = some (.lst []) ∧ H' v = some (.lst [oV (opOf f).mss, .non, .bl (opOf f).kn, .ref l0, .non, .non, .non])) ?_ ?_
    · walk_at "go"
      rcases (hB.same s02).dget (s02 _ _ hd) F 2 with ⟨e, g⟩ | ⟨b, l', e, k, g⟩
      · refine ⟨d, none, rfl, g, ?_⟩
        walk_at "go"
        exact ⟨rfl, s02, k12, by rw [show (opOf f).mss = none by show (f 2).map vl = none; rw [e]; rfl]; exact k2⟩
      · refine ⟨d, _, rfl, g, ?_⟩
        walk_at "go"
        refine ⟨d, _, rfl, g, ?_⟩
        walk_at "go"
        refine u_value (sl k) ?_
        walk_at "go"
        refine g_setL k2 (j := 0) rfl ?_
        exact ⟨rfl, But.tr2 s02 nv But.refl.upd, by rw [upd_ne nl0]; exact k12, by rw [upd_same, show (opOf f).mss = some (vl b) by show (f 2).map vl = _; rw [e]; rfl]; rfl⟩
    rintro σ' H3 ⟨rfl, s3, l3, k3⟩
    walk_at "go"
    refine g_cut (fun σ' H' => σ' = [some (.ref d), some (.ref v), none] ∧ Same H H' ∧ H' l0 = some (.lst []) ∧ H' v = some (.lst [oV (opOf f).mss, oV (opOf f).scale, .bl (opOf f).kn, .ref l0, .non, .non, .non])) ?_ ?_
    · walk_at "go"
      rcases (hB.same s3).dget (s3 _ _ hd) F 3 with ⟨e, g⟩ | ⟨b, l', e, k, g⟩
      · refine ⟨d, none, rfl, g, ?_⟩
        walk_at "go"
        exact ⟨rfl, s3, l3, by rw [show (opOf f).scale = none by show (f 3).map _ = none; rw [e]; rfl]; exact k3⟩
      · refine ⟨d, _, rfl, g, ?_⟩
        walk_at "go"
        refine ⟨d, _, rfl, g, ?_⟩
        walk_at "go"
        have hl := okl_eq (k := 3) rfl (lo 3 b e)
        simp only [List.mem_cons, List.not_mem_nil, or_false] at hl
        obtain ⟨x, rfl⟩ : ∃ x, b = [x] := List.length_eq_one_iff.mp (by omega)
        refine g_ixL (sl k) (at_of (j := 0) rfl rfl) ?_
        walk_at "go"
        refine g_setL k3 (j := 1) rfl ?_
        refine ⟨rfl, But.tr2 s3 nv But.refl.upd, by rw [upd_ne nl0]; exact l3, ?_⟩
        rw [upd_same, show (opOf f).scale = some (if x < 14 then x else 14) by
          show (f 3).map _ = _
          rw [e]
          show some (min 14 (vl [x])) = _
          congr 1
          show min 14 (256 * 0 + x) = _
          split <;> omega]
        rfl
    rintro σ' H4 ⟨rfl, s4, l4, k4⟩
    walk_at "go"
    refine g_cut (fun σ' H' => ∃ p us, σ' = [some (.ref d), some (.ref v), none] ∧ Same H H' ∧ H' p = some (.lst us) ∧ p ≠ v ∧ Prs H' us (opOf f).rs ∧ H' v = some (.lst [oV (opOf f).mss, oV (opOf f).scale, .bl (opOf f).kn, .ref p, .non, .non, .non])) ?_ ?_
    · walk_at "go"
      rcases (hB.same s4).dget (s4 _ _ hd) F 5 with ⟨e, g⟩ | ⟨b, l', e, k, g⟩
      · refine ⟨d, none, rfl, g, ?_⟩
        walk_at "go"
        exact ⟨l0, [], rfl, s4, l4, nl0, by show Prs H4 [] (prs8 ((f 5).getD [])); rw [e]; exact Prs.nil, k4⟩
      · refine ⟨d, _, rfl, g, ?_⟩
        walk_at "go"
        refine ⟨d, _, rfl, g, ?_⟩
        walk_at "go"
        refine g_len (.inl (sl k)) ?_
        walk_at "go"
        rw [List.length_map]
        have hl := okl_eq (k := 5) rfl (lo 5 b e)
        simp only [List.mem_cons, List.not_mem_nil, or_false] at hl
        have ers : (opOf f).rs = prs8 b := by show prs8 ((f 5).getD []) = _; rw [e]; rfl
        have lrs : (prs8 b).length = b.length / 8 := by unfold prs8; rw [List.length_map, List.length_range]
        obtain ⟨n, en, hn⟩ : ∃ n : Nat, (b.length : Int) / 8 = (n : Int) ∧ n = b.length / 8 := ⟨b.length / 8, by omega, rfl⟩
        rw [en]
        refine ⟨by omega, by omega, fun D nD => ?_⟩
        refine lc_it walk_range (LcPP H4 D (opOf f).rs) ⟨same_upd nD, [], upd_same, by rw [List.take_zero]; exact Prs.nil⟩ (fun i H _ p => trivial) ?turn ?done
        case turn =>
          rintro i x H5 H6 hi P ⟨rfl, rfl⟩
          have hi8 : i < b.length / 8 := by omega
          refine ⟨rfl, ?_⟩
          walk_at "go"
          rcases (hB.same (s4.trans P.1)).dget ((s4.trans P.1) _ _ hd) F 5 with ⟨e5, g5⟩ | ⟨b5, l5, e5, k5, g5⟩
          · rw [e] at e5; cases e5
          rw [e] at e5
          cases e5
          refine ⟨d, _, rfl, g5, ?_⟩
          walk_at "go"
          rw [show (8 : Int) * (0 + (i : Int)) = ((8 * i : Nat) : Int) by omega, show ((8 * i : Nat) : Int) + 8 = ((8 * i + 8 : Nat) : Int) by omega]
          refine g_slL (sl k5) fun p6 n6 => ?_
          rw [cut_ab, ← List.map_drop, ← List.map_take, show 8 * i + 8 - 8 * i = 8 by omega]
          walk_at "nw"
          rename_i H7 s7 k7
          walk_at "go"
          refine u_pairof (sl k7) fun t H8 nt s8 k8 => ?_
          have e8 : (opOf f).rs[i]? = some (pr8 ((b.drop (8 * i)).take 8)) := by
            rw [ers]
            unfold prs8
            rw [List.getElem?_map, List.getElem?_range hi8]
            rfl
          exact lc_pair2 nD P (s7.trans s8) k8 e8 (by rw [ers, lrs]; omega)
        case done =>
          rintro H5 ⟨s5, us, e5, P5⟩
          rw [List.take_of_length_le (by rw [ers, lrs]; omega)] at P5
          have k5 := s5 _ _ k4
          walk_at "go"
          refine g_setL k5 (j := 3) rfl ?_
          have nDv : D ≠ v := (ne_of_none k4 nD).symm
          exact ⟨D, us, rfl, But.tr2 (s4.trans s5) nv But.refl.upd, by rw [upd_ne nDv]; exact e5, nDv, P5.but But.refl.upd k5, upd_same⟩
    rintro σ' H5 ⟨p5, us, rfl, s5, l5, np5, P5, k5⟩
    walk_at "go"
    refine g_cut (fun σ' H' => ∃ sv, σ' = [some (.ref d), some (.ref v), none] ∧ Same H H' ∧ H' p5 = some (.lst us) ∧ Prs H' us (opOf f).rs ∧ StV H' sv (opOf f).stamp ∧ H' v = some (.lst [oV (opOf f).mss, oV (opOf f).scale, .bl (opOf f).kn, .ref p5, sv, .non, .non])) ?_ ?_
    · walk_at "go"
      rcases (hB.same s5).dget (s5 _ _ hd) F 8 with ⟨e, g⟩ | ⟨b, l', e, k, g⟩
      · refine ⟨d, none, rfl, g, ?_⟩
        walk_at "go"
        exact ⟨.non, rfl, s5, l5, P5, by show StV _ _ ((f 8).map pr8); rw [e]; rfl, k5⟩
      · refine ⟨d, _, rfl, g, ?_⟩
        walk_at "go"
        refine ⟨d, _, rfl, g, ?_⟩
        walk_at "go"
        refine u_pairof (sl k) fun t H6 nt s6 k6 => ?_
        have kv := s6 _ _ k5
        walk_at "go"
        refine g_setL kv (j := 4) rfl ?_
        have ntv : t ≠ v := (ne_of_none k5 nt).symm
        exact ⟨.ref t, rfl, But.tr2 (s5.trans s6) nv But.refl.upd, by rw [upd_ne np5]; exact s6 _ _ l5, (P5.same s6).but But.refl.upd kv, by show StV _ _ ((f 8).map pr8); rw [e]; exact ⟨t, rfl, by rw [upd_ne ntv]; exact k6⟩, upd_same⟩
    rintro σ' H6 ⟨sv, rfl, s6, l6, P6, hsv, k6⟩
    walk_at "go"
    rcases (hB.same s6).dget (s6 _ _ hd) F 253 with ⟨e, g⟩ | ⟨b, l', e, k, g⟩
    · refine ⟨d, none, rfl, g, ?_⟩
      walk_at "go"
      refine q v H6 p5 us sv nv s6 ?_ l6 P6 hsv
      rw [k6, show (opOf f).count = none by show (f 253).map _ = _; rw [e]; rfl, show (opOf f).echo = none by show (f 253).bind _ = _; rw [e]; rfl]
      rfl
    · have hl := okl_eq (k := 253) rfl (lo 253 b e)
      simp only [List.mem_cons, List.not_mem_nil, or_false] at hl
      refine ⟨d, _, rfl, g, ?_⟩
      walk_at "go"
      refine ⟨d, _, rfl, g, ?_⟩
      walk_at "go"
      refine g_slL (sl k) fun p7 n7 => ?_
      rw [show (2 : Int) = ((2 : Nat) : Int) from rfl, show (6 : Int) = ((6 : Nat) : Int) from rfl, cut_ab, ← List.map_drop, ← List.map_take, show 6 - 2 = 4 from rfl]
      walk_at "nw"
      rename_i H7 s7 k7
      walk_at "go"
      refine u_value (sl k7) ?_
      walk_at "go"
      refine g_setL (s7 _ _ k6) (j := 5) rfl ?_
      walk_at "bt"
      rename_i H8 b8 k8
      have ecnt : (opOf f).count = some (vl ((b.drop 2).take 4)) := by show (f 253).map _ = _; rw [e]; rfl
      have s8 : Same H H8 := But.tr2 (s6.trans s7) nv b8
      have kv7 := s7 _ _ k6
      have P8 : Prs H8 us (opOf f).rs := (P6.same s7).but b8 kv7
      have hsv8 : StV H8 sv (opOf f).stamp := by
        have z := hsv.same s7
        cases eo : (opOf f).stamp with
        | none => rw [eo] at z; exact z
        | some pp =>
          rw [eo] at z
          obtain ⟨t, e1, h⟩ := z
          exact ⟨t, e1, b8 _ _ (fun w => by rw [w, kv7] at h; cases h) h⟩
      have l8 := b8 _ _ np5 (s7 _ _ l6)
      walk_at "go"
      rcases (hB.same s8).dget (s8 _ _ hd) F 253 with ⟨e2, g2⟩ | ⟨b2, l2, e2, k2, g2⟩
      · rw [e] at e2; cases e2
      rw [e] at e2
      cases e2
      refine ⟨d, _, rfl, g2, ?_⟩
      walk_at "go"
      refine g_len (.inl (sl k2)) ?_
      walk_at "go"
      rw [List.length_map]
      refine g_ite (fun c10 => ?_) (fun c10 => ?_)
      · walk_at "go"
        refine ⟨d, _, rfl, g2, ?_⟩
        walk_at "go"
        refine g_slL (sl k2) fun p9 n9 => ?_
        rw [cut_hi, ← List.map_drop]
        walk_at "nw"
        rename_i H9 s9 k9
        walk_at "go"
        refine u_value (sl k9) ?_
        walk_at "go"
        refine g_setL (s9 _ _ k8) (j := 6) rfl ?_
        walk_at "bt"
        rename_i H10 b10 k10
        have kv9 := s9 _ _ k8
        walk_at "go"
        refine q v H10 p5 us sv nv (But.tr2 (s8.trans s9) nv b10) ?_ (b10 _ _ np5 (s9 _ _ l8)) ((P8.same s9).but b10 kv9) ?_
        · rw [k10, ecnt, show (opOf f).echo = some (vl (b.drop 6)) by show (f 253).bind _ = _; rw [e]; show (if b.length = 10 then _ else _) = _; rw [if_pos (by omega)]]
          rfl
        · have z := hsv8.same s9
          cases eo : (opOf f).stamp with
          | none => rw [eo] at z; exact z
          | some pp =>
            rw [eo] at z
            obtain ⟨t, e1, h⟩ := z
            exact ⟨t, e1, b10 _ _ (fun w => by rw [w, kv9] at h; cases h) h⟩
      · walk_at "go"
        refine q v H8 p5 us sv nv s8 ?_ l8 P8 hsv8
        rw [k8, ecnt, show (opOf f).echo = none by show (f 253).bind _ = _; rw [e]; show (if b.length = 10 then _ else _) = _; rw [if_neg (by omega)]]
        rfl
def ItSt (is : List Itm) (bs : List (Int × List Int)) (n : Nat) : Prop := (∀ i ∈ is, i.ok) ∧ (kno (opsI is)).Perm bs ∧ (encs is).length ≤ n
theorem kno_app {a b : List (Int × List Int)} : kno (a ++ b) = kno a ++ kno b := List.filter_append ..
def insI (is : List Itm) (j : Nat) (i : Itm) : List Itm := is.take j ++ [i] ++ is.drop j
theorem insI_enc {is : List Itm} {j : Nat} {i : Itm} : (insI is j i).map Itm.enc = insR (is.map Itm.enc) j i.enc := by
  unfold insI insR
  rw [List.map_append, List.map_append, List.map_take, List.map_drop]
  rfl
theorem insI_mem {is : List Itm} {j : Nat} {i x : Itm} (h : x ∈ insI is j i) : x = i ∨ x ∈ is := by
  unfold insI at h
  rw [List.mem_append, List.mem_append] at h
  rcases h with (h | h) | h
  · exact .inr (List.mem_of_mem_take h)
  · exact .inl (List.mem_singleton.mp h)
  · exact .inr (List.mem_of_mem_drop h)
theorem insI_perm {is : List Itm} {j : Nat} {i : Itm} : (kno (opsI (insI is j i))).Perm (kno (opsI [i]) ++ kno (opsI is)) := by
  unfold insI
  rw [opsI_app, opsI_app, kno_app, kno_app, List.append_assoc]
  have e : kno (opsI is) = kno (opsI (is.take j)) ++ kno (opsI (is.drop j)) := by rw [← kno_app, ← opsI_app, List.take_append_drop]
  rw [e]
  exact List.perm_append_comm_assoc ..
theorem encs_ins {is : List Itm} {j : Nat} {i : Itm} : (encs (insI is j i)).length = (encs is).length + i.enc.length := by
  unfold insI
  have e : (encs is).length = (encs (is.take j)).length + (encs (is.drop j)).length := by rw [← List.length_append, ← encs_app, List.take_append_drop]
  rw [encs_app, encs_app, List.length_append, List.length_append, e]
  have : encs [i] = i.enc := by rw [encs_cons]; exact List.append_nil _
  rw [this]
  omega
theorem ItSt.put {is : List Itm} {bs : List (Int × List Int)} {n m : Nat} {i : Itm} (h : ItSt is bs n) (j : Nat) (hi : i.ok) (hm : n + i.enc.length ≤ m) : ItSt (insI is j i) (kno (opsI [i]) ++ bs) m := by
  obtain ⟨h1, h2, h3⟩ := h
  refine ⟨fun x hx => ?_, insI_perm.trans (h2.append_left _), by rw [encs_ins]; omega⟩
  rcases insI_mem hx with e | e
  · rw [e]; exact hi
  · exact h1 x e
theorem insI_len {is : List Itm} {j : Nat} {i : Itm} (hj : True) : (insI is j i).length = is.length + 1 := by
  unfold insI
  rw [List.length_append, List.length_append, List.length_take, List.length_drop]
  show _ + 1 + _ = _
  omega
theorem ok_ne {k : Int} (h : (lensOf k).isSome = true) : k ≠ 0 ∧ k ≠ 1 := by
  constructor <;> (intro z; subst z; exact absurd h (by decide))
def sp_l_items (K : PySem.W.Frag) : Sp := fun vs H Q _ => ∃ (a d : Addr) (ns : List Int) (kvs : List (Key × V)) (bs : List (Int × List Int)), vs = [.ref a, .ref d] ∧ SqL K H a (ns.map V.int) ∧ H d = some (.dK kvs) ∧ BsK H kvs bs ∧ BsOk bs ∧ bs.length ≤ 6 ∧
  ∀ l H' is, Same H H' → RowsO H' l (is.map Itm.enc) → ItSt is bs 260 → is.length ≤ 20 → Q (.ref l) H'
theorem u_items {a d : Addr} {ns : List Int} {kvs : List (Key × V)} {bs : List (Int × List Int)} {H Q E} (hS : SqL K H a (ns.map V.int)) (hd : H d = some (.dK kvs)) (hB : BsK H kvs bs) (ok : BsOk bs) (h6 : bs.length ≤ 6)
    (q : ∀ l H' is, Same H H' → RowsO H' l (is.map Itm.enc) → ItSt is bs 260 → is.length ≤ 20 → Q (.ref l) H') : sp_l_items K ([.ref a, .ref d] ++ []) H Q E := ⟨a, d, ns, kvs, bs, rfl, hS, hd, hB, ok, h6, q⟩
theorem g_iKeys {td : TE} {σ : St} {H : Hp} {R : It → Hp → Prop} (h : td σ H fun x H1 => ∃ d o, x = .ref d ∧ ((∃ kvs, H1 d = some (.frz o (.dK kvs)) ∧ R (Itk d o kvs) H1) ∨ ∃ kvs, H1 d = some (.frz o (.dT kvs)) ∧ R (Itkt d o kvs) H1)) : iKeys td σ H R := h
theorem g_lock {t : TS} {D : Ends} {σ : St} {H : Hp} {d : Addr} {u : HO} (e : H d = some u) (m : Mut (some u)) (h : ∀ od, t ⟨fun σ' H' => H' d = some (.frz od u) ∧ D.nx σ' (upd H' d u), fun v H' => H' d = some (.frz od u) ∧ D.rt v (upd H' d u), fun σ' H' => H' d = some (.frz od u) ∧ D.bk σ' (upd H' d u), fun σ' H' => H' d = some (.frz od u) ∧ D.ct σ' (upd H' d u)⟩ σ (upd H d (.frz od u))) : tLock t D σ H := ⟨d, u, e, m, h⟩
theorem RowsO.but {H H' : Hp} {l d : Addr} {rs : List (List Int)} {u : HO} (h : RowsO H l rs) (s : But d H H') (e : H d = some u) (n : ∀ xs, u ≠ .lst xs) : RowsO H' l rs := by
  obtain ⟨vs, h1, h2, h3⟩ := h
  have N : ∀ {x : Addr} {ys : List V}, H x = some (.lst ys) → x ≠ d := fun h z => by rw [z, e] at h; exact n _ (Option.some.inj h)
  exact ⟨vs, s _ _ (N h1) h1, h2, fun i r e2 => by
    obtain ⟨a, g1, g2⟩ := h3 i r e2
    exact ⟨a, g1, s _ _ (N g2) g2⟩⟩
theorem SqL_but {H H' : Hp} {a d : Addr} {xs : List V} {u : HO} (h : SqL K H a xs) (s : But d H H') (e : H d = some u) (n : ∀ ys, u ≠ .lst ys) (n2 : ∀ o ys, u ≠ .frz o (.lst ys)) : SqL K H' a xs := by
  rcases h with (h | ⟨o, h⟩) | h
  · exact .inl (.inl (s _ _ (fun z => by rw [z, e] at h; exact n _ (Option.some.inj h)) h))
  · exact .inl (.inr ⟨o, s _ _ (fun z => by rw [z, e] at h; exact n2 _ _ (Option.some.inj h)) h⟩)
  · exact .inr h
theorem opl {k : Int} {b : List Int} (h : knownO k b = true) : kno (opsI [.opt k b]) = [(k, b)] := by
  show ([(k, b)].filter fun p => knownO p.1 p.2) = _
  rw [List.filter_cons_of_pos (p := fun p : Int × List Int => knownO p.1 p.2) (a := (k, b)) h]
  rfl
theorem opn {k : Int} {b : List Int} (h : knownO k b = false) : kno (opsI [.opt k b]) = [] := by
  show ([(k, b)].filter fun p => knownO p.1 p.2) = _
  rw [List.filter_cons_of_neg (p := fun p : Int × List Int => knownO p.1 p.2) (a := (k, b)) (by dsimp only; rw [h]; decide)]
  rfl
theorem ItSt.to {is : List Itm} {bs bs' : List (Int × List Int)} {n : Nat} (h : ItSt is bs n) (p : bs.Perm bs') : ItSt is bs' n := ⟨h.1, h.2.1.trans p, h.2.2⟩
theorem ok_l_items (T : Txt P K mg) : FnOk P w K mg base CX0 3 T.f_l_items T.d_l_items ["script", "bodies"] (sp_l_items K) := by
  refine T.F_l_items.ok sc_l_items (fun vs H Q E h => ?_) (fun cdv A outer s H vs Q E hr h => ?_)
  · obtain ⟨a, d, ns, kvs, bs, rfl, hS, hd, hB, ok, h6, q⟩ := h
    rfl
  · obtain ⟨a, d, ns, kvs, bs, rfl, hS, hd, hB, ok, h6, q⟩ := h
    have hu := hu_of hr
    refine ⟨_, (pss_cons (ps_set (i := 2) sc_l_items.nd rfl (Or.inl rfl) (pe_lst pa_nil))
        (pss_cons (ps_lock (ps_for PassesOwn.never rfl (pi_keys (pv 1)) (pg_name (i := 3) sc_l_items.nd rfl (Or.inl rfl)) (pss_one (ps_set (i := 2) sc_l_items.nd rfl (Or.inl rfl) (pe_call (ok_l_put T) (hr.mono (by decide)) rfl T.m_l_put T.F_l_put.kp T.b_l_put .nil pass0 (pa_cons (pv 2) (pa_cons (pe_op op_cat (pe_lst (pa_cons (pv 3) (pa_cons (pe_op op_add (pe_callB call_len_seq (by rfl) T.n_len (by decide +kernel) (pa_cons (pe_dget hu (pv 1) (pv 3) (fun _ _ => rfl)) pa_nil)) pe_int) pa_nil))) (pe_dget hu (pv 1) (pv 3) (fun _ _ => rfl))) (pa_cons (pe_call (ok_l_cell T) (hr.mono (by decide)) rfl T.m_l_cell T.F_l_cell.kp T.b_l_cell .nil pass0 (pa_cons (pv 0) (pa_cons (pe_op op_add pe_int (pe_callB call_len_seq (by rfl) T.n_len (by decide +kernel) (pa_cons (pv 2) pa_nil))) pa_nil))) pa_nil))))))))
        (pss_cons (ps_for PassesOwn.never rfl (pi_range1 (by rfl) T.n_range (pa_cons (pe_op op_mod (pe_callTy call_int1 (by rfl) T.n_int (by decide +kernel) (pa_cons (pe_call (ok_l_cell T) (hr.mono (by decide)) rfl T.m_l_cell T.F_l_cell.kp T.b_l_cell .nil pass0 (pa_cons (pv 0) (pa_cons pe_int pa_nil))) pa_nil)) pe_int) pa_nil)) (pg_name (i := 4) sc_l_items.nd rfl (Or.inl rfl)) (pss_one (ps_set (i := 2) sc_l_items.nd rfl (Or.inl rfl) (pe_call (ok_l_put T) (hr.mono (by decide)) rfl T.m_l_put T.F_l_put.kp T.b_l_put .nil pass0 (pa_cons (pv 2) (pa_cons (pe_lst (pa_cons pe_int pa_nil)) (pa_cons (pe_op op_add (pe_op op_fdiv (pe_call (ok_l_cell T) (hr.mono (by decide)) rfl T.m_l_cell T.F_l_cell.kp T.b_l_cell .nil pass0 (pa_cons (pv 0) (pa_cons pe_int pa_nil))) pe_int) (pe_op op_mul pe_int (pv 4))) pa_nil)))))))
        (pss_cons (ps_for PassesOwn.never rfl (pi_range1 (by rfl) T.n_range (pa_cons (pe_op op_mod (pe_callTy call_int1 (by rfl) T.n_int (by decide +kernel) (pa_cons (pe_call (ok_l_cell T) (hr.mono (by decide)) rfl T.m_l_cell T.F_l_cell.kp T.b_l_cell .nil pass0 (pa_cons (pv 0) (pa_cons pe_int pa_nil))) pa_nil)) pe_int) pa_nil)) (pg_name (i := 4) sc_l_items.nd rfl (Or.inl rfl)) (pss_one (ps_set (i := 2) sc_l_items.nd rfl (Or.inl rfl) (pe_call (ok_l_put T) (hr.mono (by decide)) rfl T.m_l_put T.F_l_put.kp T.b_l_put .nil pass0 (pa_cons (pv 2) (pa_cons (pe_call (ok_l_skipped T) (hr.mono (by decide)) rfl T.m_l_skipped T.F_l_skipped.kp T.b_l_skipped .nil pass0 (pa_cons (pe_op op_add (pe_op op_fdiv (pe_call (ok_l_cell T) (hr.mono (by decide)) rfl T.m_l_cell T.F_l_cell.kp T.b_l_cell .nil pass0 (pa_cons (pv 0) (pa_cons pe_int pa_nil))) pe_int) (pv 4)) pa_nil)) (pa_cons (pe_op op_add (pe_op op_fdiv (pe_call (ok_l_cell T) (hr.mono (by decide)) rfl T.m_l_cell T.F_l_cell.kp T.b_l_cell .nil pass0 (pa_cons (pv 0) (pa_cons pe_int pa_nil))) pe_int) (pe_op op_mul pe_int (pv 4))) pa_nil)))))))
        (pss_one (ps_ret (pv 2))))))), ?_⟩
    dsimp only [cxOf, Cx.nox, Cx.wish, L2.start, List.map, List.cons_append, List.nil_append, List.length_cons, List.length_nil, Nat.reduceAdd, Nat.reduceSub, Nat.zero_add, List.replicate_succ, List.replicate_zero]
    walk_at "go"
    refine ⟨Nat.zero_le _, fun l0 n0 => ?_⟩
    walk_at "nw"
    rename_i H1 s1 k1
    walk_at "go"
    have hd1 := s1 _ _ hd
    refine g_lock hd1 trivial fun od => ?_
    refine g_for ?_
    refine g_iKeys ?_
    walk_at "go"
    refine ⟨d, od, rfl, .inl ⟨_, upd_same, ?_⟩⟩
    have nl : ∀ xs, (HO.frz od (.dK kvs)) ≠ .lst xs := fun xs z => nomatch z
    have nd : ∀ xs, (HO.dK kvs) ≠ .lst xs := fun xs z => nomatch z
    have bF : But d H1 (upd H1 d (.frz od (.dK kvs))) := But.refl.upd
    have nl0d : l0 ≠ d := fun z => by rw [z, hd] at n0; cases n0
    have hSF : SqL K (upd H1 d (.frz od (.dK kvs))) a (ns.map V.int) := SqL_but (s1.seq hS) bF hd1 nd fun o ys z => nomatch z
    have hBF := (hB.same s1).butD bF hd1 nd
    have kF : (upd H1 d (.frz od (.dK kvs))) l0 = some (.lst []) := by rw [upd_ne nl0d]; exact k1
    have eF : (upd H1 d (.frz od (.dK kvs))) d = some (.frz od (.dK kvs)) := upd_same
    generalize upd H1 d (.frz od (.dK kvs)) = HF at bF hSF hBF kF eF
    refine for_it walk_keys (fun i σ H' => ∃ (l : Addr) (is : List Itm) (v3 v4 : Option V), σ = [some (.ref a), some (.ref d), some (.ref l), v3, v4] ∧ Same HF H' ∧ H' d = some (.frz od (.dK kvs)) ∧ RowsO H' l (is.map Itm.enc) ∧ ItSt is (bs.take i) (34 * i) ∧ is.length = i) ⟨l0, [], none, none, rfl, fun _ _ z => z, eF, ⟨[], kF, LLr.nil⟩, ⟨fun i h => (by cases h), (by rw [List.take_zero]; exact List.Perm.nil), Nat.zero_le _⟩, rfl⟩ (fun i σ H' _ ⟨_, _, _, _, _, _, e, _⟩ => e) ?turn ?done
    case turn =>
      rintro i x0 σ H' H'' hi ⟨l, is, v3, v4, rfl, sF, e1, hR, hI, hl⟩ ⟨rfl, kk, vv, hk, rfl⟩
      have hib : i < bs.length := by rw [← hB.1]; exact hi
      obtain ⟨k, b, eb⟩ : ∃ k b, bs[i]? = some (k, b) := ⟨_, _, List.getElem?_eq_getElem hib⟩
      obtain ⟨lb, ek, el⟩ := hBF.2 i k b eb
      rw [ek] at hk
      cases hk
      obtain ⟨kn, ol⟩ := ok.1 _ (List.mem_of_getElem? eb)
      dsimp only at kn ol
      have lb32 := okLen_le ol
      obtain ⟨f, _, F⟩ := rbs_perm (os := bs) ok (by rw [show kno bs = bs from List.filter_eq_self.mpr fun p hp => (ok.1 p hp).1])
      rcases (hBF.same sF).get F k with ⟨z1, z2⟩ | ⟨b2, l2, z1, z2, z3⟩
      · rw [(F k b).mpr (List.mem_of_getElem? eb)] at z1; cases z1
      rw [(F k b).mpr (List.mem_of_getElem? eb)] at z1
      cases z1
      have hg : DGet _ d (.int k) (some (.ref l2)) := .inl ⟨_, .inl k, .inr ⟨od, e1⟩, rfl, z2.symm⟩
      have k01 := ok_ne (known_lens kn)
      walk_at "go"
      refine ⟨d, _, rfl, hg, ?_⟩
      walk_at "go"
      refine g_len (.inl (sl z3)) ?_
      walk_at "go"
      rw [List.length_map]
      refine ⟨by show 2 ≤ sizeLine; decide, fun p1 n1 => ?_⟩
      walk_at "nw"
      rename_i H2 s2 k2
      walk_at "go"
      refine ⟨d, _, rfl, .inl ⟨_, .inl k, .inr ⟨od, s2 _ _ e1⟩, rfl, z2.symm⟩, ?_⟩
      walk_at "go"
      refine g_cat k2 (s2 _ _ z3) (by rw [List.length_map]; exact sz (by show 2 + _ ≤ _; omega)) fun p3 n3 => ?_
      walk_at "nw"
      rename_i H3 s3 k3
      have sF3 := (sF.trans s2).trans s3
      have hR3 := hR.same (s2.trans s3)
      have hS3 := sF3.seq hSF
      walk_at "go"
      obtain ⟨vs, ev, hL⟩ := id hR3
      refine g_len (.inl (sl ev)) ?_
      walk_at "go"
      refine u_put (r := (Itm.opt k b).enc) hR3 (by rw [List.length_map]; omega) k3 fun l' H4 j nl' s4 hR4 => ?_
      refine ⟨l', insI is j (.opt k b), _, _, rfl, sF3.trans s4, s4 _ _ (s3 _ _ (s2 _ _ e1)), by rw [insI_enc]; exact hR4, ?_, by rw [insI_len trivial, hl]⟩
      have hput := hI.put (m := 34 * (i + 1)) (i := .opt k b) j k01 (by show 34 * i + (b.length + 1 + 1) ≤ _; omega)
      rw [opl kn] at hput
      refine hput.to ?_
      rw [List.take_add_one, eb]
      exact List.perm_append_comm
    case done =>
      rintro σ H' ⟨l, is, v3, v4, rfl, sF, e1, hR, hI, hl⟩
      refine ⟨e1, ?_⟩
      rw [hB.1] at hI hl
      rw [List.take_length] at hI
      have b7 : But d H' (upd H' d (.dK kvs)) := But.refl.upd
      have hR7 := hR.but b7 e1 nl
      have e7 : (upd H' d (.dK kvs)) d = some (.dK kvs) := upd_same
      generalize upd H' d (.dK kvs) = H7 at b7 hR7 e7
      have s7 : Same H H7 := fun x o e => by
        by_cases c : x = d
        · subst c
          rw [e7, ← hd, e]
        · exact b7 _ _ c (sF _ _ (bF _ _ c (s1 _ _ e)))
      have hS7 := s7.seq hS
      clear b7 hBF hSF kF eF bF e7
      walk_at "go"
      have d0 : 0 ≤ cell ns 13 % 4 := Int.emod_nonneg _ (by decide)
      have d1 : cell ns 13 % 4 < 4 := Int.emod_lt_of_pos _ (by decide)
      refine for_r (n := cell ns 13 % 4) (cell ns 13 % 4).toNat rfl (by omega) (by omega) (fun i σ H' => ∃ (l : Addr) (is : List Itm) (v3 v4 : Option V), σ = [some (.ref a), some (.ref d), some (.ref l), v3, v4] ∧ Same H H' ∧ RowsO H' l (is.map Itm.enc) ∧ ItSt is bs (204 + i) ∧ is.length ≤ 6 + i) ⟨l, is, _, _, rfl, s7, hR7, ⟨hI.1, hI.2.1, Nat.le_trans hI.2.2 (by omega)⟩, by omega⟩ ?turn2 ?done2 ?ev2
      case ev2 =>
        intro R r
        walk_at "go"
        exact r
      case turn2 =>
        rintro i σ H' hi ⟨l, is, v3, v4, rfl, s, hR, hI, hl⟩
        have hS2 := s.seq hS
        walk_at "go"
        refine ⟨by show 1 ≤ sizeLine; decide, fun p1 n1 => ?_⟩
        walk_at "nw"
        rename_i H2 s2 k2
        have hS3 := s2.seq hS2
        walk_at "go"
        refine u_put (r := Itm.enc .fil) (hR.same s2) (by rw [List.length_map]; omega) k2 fun l' H4 j nl' s4 hR4 => ?_
        refine ⟨l', insI is j .fil, _, _, rfl, (s.trans s2).trans s4, by rw [insI_enc]; exact hR4, hI.put j trivial (Nat.le_refl _), by rw [insI_len trivial]; omega⟩
      case done2 =>
        rintro σ H' ⟨l, is, v3, v4, rfl, s, hR, hI, hl⟩
        have hS2 := s.seq hS
        walk_at "go"
        have f0 : 0 ≤ cell ns 14 % 3 := Int.emod_nonneg _ (by decide)
        have f1 : cell ns 14 % 3 < 3 := Int.emod_lt_of_pos _ (by decide)
        refine for_r (n := cell ns 14 % 3) (cell ns 14 % 3).toNat rfl (by omega) (by omega) (fun i σ H' => ∃ (l : Addr) (is : List Itm) (v3 v4 : Option V), σ = [some (.ref a), some (.ref d), some (.ref l), v3, v4] ∧ Same H H' ∧ RowsO H' l (is.map Itm.enc) ∧ ItSt is bs (207 + 6 * i) ∧ is.length ≤ 9 + i) ⟨l, is, _, _, rfl, s, hR, ⟨hI.1, hI.2.1, Nat.le_trans hI.2.2 (by omega)⟩, by omega⟩ ?turn3 ?done3 ?ev3
        case ev3 =>
          intro R r
          walk_at "go"
          exact r
        case turn3 =>
          rintro i σ H' hi ⟨l, is, v3, v4, rfl, s, hR, hI, hl⟩
          have hS2 := s.seq hS
          walk_at "go"
          refine u_skipped fun p k b H3 np s3 k3 a1 a2 a3 a4 => ?_
          have hS3 := s3.seq hS2
          walk_at "go"
          refine u_put (r := Itm.enc (.opt k b)) (hR.same s3) (by rw [List.length_map]; omega) k3 fun l' H4 j nl' s4 hR4 => ?_
          have hput := hI.put (m := 207 + 6 * (i + 1)) (i := .opt k b) j ⟨a1, a2⟩ (by show 207 + 6 * i + (b.length + 1 + 1) ≤ _; omega)
          rw [opn a3] at hput
          exact ⟨l', insI is j (.opt k b), _, _, rfl, (s.trans s3).trans s4, by rw [insI_enc]; exact hR4, hput, by rw [insI_len trivial]; omega⟩
        case done3 =>
          rintro σ H' ⟨l, is, v3, v4, rfl, s, hR, hI, hl⟩
          walk_at "go"
          exact q l H' is s hR ⟨hI.1, hI.2.1, Nat.le_trans hI.2.2 (by omega)⟩ (by omega)
end
end My
namespace My
open PySem PySem.Spec L2
local macro_rules | `(tactic| walk_at "side") => `(tactic| first | assumption | decide | omega | exact ⟨by decide, by decide⟩ | exact ⟨by decide, by decide, by decide⟩ | decide +kernel | exact cdivW (by decide +kernel) (by decide +kernel) | exact Or.inl ⟨by omega, by omega⟩ | exact Or.inr ⟨by omega, by omega⟩ | (simp only [List.length_map, List.length_cons, List.length_nil, List.length_append]; omega))
local macro_rules | `(tactic| walk_at "fact") => `(tactic| first | assumption | omega | with_reducible rfl)
local macro_rules | `(tactic| walk_at "use") => `(tactic| fail "use")
local macro_rules | `(tactic| walk_at "go1") => `(tactic| with_reducible first | refine g_seq ?_ | refine g_asg ?_ | refine g_ret ?_ | refine g_ifS ?_ | refine g_drop ?_ | refine g_star ?_ | refine g_nx ?_ | refine g_rt ?_ | refine g_bkE ?_ | refine g_ctE ?_ | refine g_next ?_ | refine g_retN ?_ | refine g_brk ?_ | refine g_ct ?_ | refine g_c ?_ | refine g_op ?_ | refine g_un ?_ | refine g_rI0 ?_ | refine g_rU ?_ | refine g_rEqI ?_ | refine g_rNeI ?_ | refine g_isN ?_ | refine g_rIsB ?_ | refine g_rNotB ?_ | refine g_test ?_ | refine g_B ?_ | refine g_bl ?_ | refine g_and ?_ | refine g_or ?_ | refine g_not ?_ | refine g_andV ?_ | refine g_orV ?_ | refine g_notV ?_ | refine g_if ?_ | refine g_chain ?_ | refine g_yes ?_ | refine g_lc ?_ | refine g_revR ?_ | refine g_rng1 ?_ | refine g_iList ?_ | refine g_nil ?_ | refine g_cons ?_ | refine g_tup ?_ | refine g_lst ?_ | refine g_call ?_ | refine g_CB ?_ | refine g_sl ?_ | refine g_noPart ?_ | refine g_part ?_ | refine g_intE ?_ | refine g_ref ?_ | refine g_fld ?_ | refine g_sfld ?_ | refine g_meth ?_ | refine g_make ?_ | refine g_prop ?_  | refine g_ipI ?_ | refine g_int1 ?_ | refine g_int1B ?_ | refine g_one ?_ | refine g_two ?_ | refine g_isiI ?_ | refine g_isiIB ?_ | refine g_isiB ?_ | refine g_BM ?_ | refine g_BM0 ?_ | refine g_sub ?_)
local macro_rules | `(tactic| walk_at "go") => `(tactic| repeat (first | walk_at "go1" | ((with_reducible refine' g_nameE ?sd_ ?_); case sd_ => dsimp only [List.set_cons_succ, List.set_cons_zero]) | ((with_reducible refine' g_var ?sd_ ?_); case sd_ => exact rfl) | ((with_reducible refine' g_aug ?sd_ ?_); case sd_ => exact rfl) | ((with_reducible refine' g_rI ?sd_ ?_); case sd_ => walk_at "side") | ((with_reducible refine' g_dT ?sd_ ?_); case sd_ => walk_at "fact") | ((with_reducible refine' g_dF ?sd_ ?_); case sd_ => walk_at "fact") | ((with_reducible refine' g_nT ?sd_ ?_); case sd_ => walk_at "fact") | ((with_reducible refine' g_nF ?sd_ ?_); case sd_ => walk_at "fact") | (with_reducible refine g_iT rfl ?_) | (with_reducible refine g_iF rfl ?_) | walk_at "use"))
local macro_rules | `(tactic| walk_at "nw") => `(tactic| (generalize zq : upd _ _ _ = Hq; have sq : Same _ Hq := (by rw [← zq]; exact same_upd (by assumption)); have kq := (congrFun zq _).symm.trans upd_same; clear zq))
local macro_rules | `(tactic| walk_at "bt") => `(tactic| (generalize zq : upd _ _ _ = Hq; have bq : But _ _ Hq := (by rw [← zq]; exact But.refl.upd); have kq := (congrFun zq _).symm.trans upd_same; clear zq))

section
variable {P : Program} {w : World} {K : PySem.W.Frag} {mg : Str → Option Value} {base : Heap}
local macro_rules | `(tactic| walk_at "use") => `(tactic| with_reducible first | refine g_rs0 ?_ | refine g_rs1 ?_ | refine g_tryA ?_ | refine g_tryO ?_ | refine g_callS ?_ | refine g_joined ?_ | refine g_jsnil ?_ | refine g_jscons ?_ | refine g_fmt ?_)
local macro_rules | `(tactic| walk_at "fit") => `(tactic| (refine fit2 ?_; (try simp only [PySem.Str.length_append]); omega))
local macro_rules | `(tactic| walk_at "use") => `(tactic| first | ((with_reducible refine' g_addS ?sd_ ?_); case sd_ => (first | omega | (simp only [PySem.Str.length_append]; omega))) | ((with_reducible refine' g_slS ?sd_ ?_); case sd_ => omega) | (with_reducible refine g_m0 ?_))

local macro_rules | `(tactic| walk_at "use") => `(tactic| with_reducible first | refine g_dgetI ?_ | refine g_dputI ?_ | refine g_dget1I ?_ | refine g_dget2I ?_ | refine g_dinI ?_ | refine g_dnotinI ?_ | refine g_dnewK ?_)

local macro_rules | `(tactic| walk_at "use") => `(tactic| with_reducible refine u_cell (by assumption) (by omega) ?_)
def Refu (r : List Int) : Prop := ∃ x, Spl r x ∧ (x.bind fun os => rbs os fun _ => none) = none
def Fin7 (fa : Int) (is : List Itm) (rs : List (List Int)) : Prop := ((fa = 0 ∨ fa = 7) → rs = is.map Itm.enc) ∧ ((1 ≤ fa ∧ fa ≤ 3) → ∀ z : List Int, (∀ y ∈ z, y = 0) → Refu (rs.flatten ++ z)) ∧ ((4 ≤ fa ∧ fa ≤ 6) → Refu rs.flatten)
theorem refu_items {is : List Itm} {z : List Int} (h : ∀ i ∈ is, i.ok) (hz : ∀ y ∈ z, y = 0) (e : rbs (opsI is) (fun _ => none) = none) : Refu (encs is ++ z) := ⟨_, Spl.items h (Spl.zeros hz), by show rbs (opsI is ++ []) _ = none; rw [List.append_nil]; exact e⟩
theorem refu_tail {is : List Itm} {t : List Int} (h : ∀ i ∈ is, i.ok) (ht : Spl t none) : Refu (encs is ++ t) := ⟨_, Spl.items h ht, rfl⟩
theorem opsI_mem {k : Int} {b : List Int} : ∀ {is : List Itm}, (k, b) ∈ opsI is ↔ Itm.opt k b ∈ is
  | [] => ⟨fun h => (by cases h), fun h => (by cases h)⟩
  | .fil :: r => by
    show (k, b) ∈ opsI r ↔ _
    rw [opsI_mem]
    exact ⟨fun h => List.mem_cons_of_mem _ h, fun h => (List.mem_cons.mp h).elim (fun z => nomatch z) id⟩
  | .opt k' b' :: r => by
    show (k, b) ∈ (k', b') :: opsI r ↔ _
    rw [List.mem_cons, opsI_mem, List.mem_cons]
    constructor
    · rintro (h | h)
      · cases h; exact .inl rfl
      · exact .inr h
    · rintro (h | h)
      · cases h; exact .inl rfl
      · exact .inr h
theorem kno_mem {os : List (Int × List Int)} {q : Int × List Int} (h : q ∈ kno os) : q ∈ os := (List.mem_filter.mp h).1
theorem long_bad {k : Int} {b : List Int} {x : Int} (h : okLen k b.length = true) : okLen k (b ++ [x]).length = false := by
  unfold okLen at h ⊢
  cases e : lensOf k with
  | none => rfl
  | some ws =>
    rw [e] at h
    have h := of_decide_eq_true h
    refine decide_eq_false ?_
    rw [List.length_append]
    show ¬ (((b.length + 1 : Nat) : Int) ∈ ws)
    rcases lens_cases e with ⟨rfl, rfl⟩ | ⟨rfl, rfl⟩ | ⟨rfl, rfl⟩ | ⟨rfl, rfl⟩ | ⟨rfl, rfl⟩ | ⟨rfl, rfl⟩ <;> simp only [List.mem_cons, List.not_mem_nil, or_false] at h ⊢ <;> omega
theorem long_known {k : Int} {b : List Int} {x : Int} (h : knownO k b = true) (h2 : okLen k b.length = true) : knownO k (b ++ [x]) = true := by
  unfold knownO at h ⊢
  by_cases c : k = 253
  · rw [if_pos c] at h ⊢
    have h := of_decide_eq_true h
    subst c
    have hl := okl_eq (k := 253) rfl h2
    simp only [List.mem_cons, List.not_mem_nil, or_false] at hl
    refine decide_eq_true ?_
    rw [List.take_append_of_le_length (by omega)]
    exact h
  · rw [if_neg c] at h ⊢
    exact h
theorem enc_inj {i : Itm} {k : Int} {b : List Int} (hi : i.ok) (hk : k ≠ 1) (h : i.enc = (Itm.opt k b).enc) : i = .opt k b := by
  cases i with
  | fil =>
    injection h with h
    exact absurd h.symm hk
  | opt k' b' =>
    injection h with h1 h2
    injection h2 with h3 h4
    rw [h1, h4]
def LcLL (H1 : Hp) (D : Addr) (ps : List (List Int)) (i : Nat) (H : Hp) : Prop := Same H1 H ∧ ∃ us, H D = some (.lst us) ∧ LLr H1 us (ps.take i)
theorem lc_row {H1 H4 : Hp} {D t : Addr} {ps : List (List Int)} {i : Nat} {p : List Int} (hD : H1 D = none) (h : LcLL H1 D ps i H4) (ht : H1 t = some (.lst (p.map V.int))) (hp : ps[i]? = some p) (hz : ps.length ≤ 100000) :
    ∃ acc, H4 D = some (.lst acc) ∧ acc.length < sizeLine ∧ LcLL H1 D ps (i + 1) (upd H4 D (.lst (acc ++ [V.ref t]))) := by
  obtain ⟨sm, us, e, hP⟩ := h
  have bu : But D H4 (upd H4 D (.lst (us ++ [V.ref t]))) := But.refl.upd
  refine ⟨us, e, ?_, ((But.of sm).trans bu).same hD, us ++ [V.ref t], upd_same, ?_⟩
  · rw [hP.1, List.length_take]
    obtain ⟨h, _⟩ := List.getElem?_eq_some_iff.mp hp
    exact szl (by omega)
  · rw [List.take_add_one, hp]
    exact hP.app (LLr.one ht)
def sp_l_faulty (K : PySem.W.Frag) : Sp := fun vs H Q _ => ∃ (l d : Addr) (is : List Itm) (kvs : List (Key × V)) (bs : List (Int × List Int)) (fa c : Int), vs = [.ref l, .ref d, .int fa, .int c] ∧ RowsO H l (is.map Itm.enc) ∧ H d = some (.dK kvs) ∧ BsK H kvs bs ∧ BsOk bs ∧ bs.length ≤ 6 ∧ ItSt is bs 260 ∧ is.length ≤ 20 ∧ (0 ≤ fa ∧ fa < 8) ∧
  ∀ l' H' rs, Same H H' → RowsO H' l' rs → rs.length ≤ 30 → rs.flatten.length ≤ 900 → Fin7 fa is rs → Q (.ref l') H'
theorem u_faulty {l d : Addr} {is : List Itm} {kvs : List (Key × V)} {bs : List (Int × List Int)} {fa c : Int} {H Q E} (h1 : RowsO H l (is.map Itm.enc)) (h2 : H d = some (.dK kvs)) (h3 : BsK H kvs bs) (h4 : BsOk bs) (h5 : bs.length ≤ 6) (h6 : ItSt is bs 260) (h7 : is.length ≤ 20) (h8 : 0 ≤ fa ∧ fa < 8)
    (q : ∀ l' H' rs, Same H H' → RowsO H' l' rs → rs.length ≤ 30 → rs.flatten.length ≤ 900 → Fin7 fa is rs → Q (.ref l') H') : sp_l_faulty K ([.ref l, .ref d, .int fa, .int c] ++ []) H Q E := ⟨l, d, is, kvs, bs, fa, c, rfl, h1, h2, h3, h4, h5, h6, h7, h8, q⟩
theorem flat_enc {is : List Itm} : (is.map Itm.enc).flatten = encs is := rfl
theorem insR_flat {rs : List (List Int)} {j : Nat} {r : List Int} : (insR rs j r).flatten = (rs.take j).flatten ++ (r ++ (rs.drop j).flatten) := by
  unfold insR
  rw [List.flatten_append, List.flatten_append, List.flatten_singleton, List.append_assoc]
theorem insR_len {rs : List (List Int)} {j : Nat} {r : List Int} : (insR rs j r).length = rs.length + 1 := by
  unfold insR
  rw [List.length_append, List.length_append, List.length_take, List.length_drop]
  show _ + 1 + _ = _
  omega
theorem insR_flen {rs : List (List Int)} {j : Nat} {r : List Int} : (insR rs j r).flatten.length = rs.flatten.length + r.length := by
  rw [insR_flat, List.length_append, List.length_append]
  have : rs.flatten.length = (rs.take j).flatten.length + (rs.drop j).flatten.length := by rw [← List.length_append, ← List.flatten_append, List.take_append_drop]
  omega
theorem ok_l_faulty (T : Txt P K mg) : FnOk P w K mg base CX0 2 T.f_l_faulty T.d_l_faulty ["items", "bodies", "fault", "cell"] (sp_l_faulty K) := by
  refine T.F_l_faulty.ok sc_l_faulty (fun vs H Q E h => ?_) (fun cdv A outer s H vs Q E hr h => ?_)
  · obtain ⟨l, d, is, kvs, bs, fa, c, rfl, hR, hd, hB, ok, h6, hI, hl, hf, q⟩ := h
    rfl
  · obtain ⟨l, d, is, kvs, bs, fa, c, rfl, hR, hd, hB, ok, h6, hI, hl, hf, q⟩ := h
    have hu := hu_of hr
    refine ⟨_, (pss_cons (ps_set (i := 4) sc_l_faulty.nd rfl (Or.inl rfl) (pe_callTy (call_listD rfl) (by rfl) T.n_list (by decide +kernel) (pa_cons (pv 1) pa_nil)))
        (pss_cons (ps_set (i := 5) sc_l_faulty.nd rfl (Or.inl rfl) pe_int)
        (pss_cons (ps_set (i := 6) sc_l_faulty.nd rfl (Or.inl rfl) (pe_lst (pa_cons pe_int (pa_cons pe_int pa_nil))))
        (C8.pss_cut (ps_if (pt_cmpR op_gt (pe_callB call_len_seq (by rfl) T.n_len (by decide +kernel) (pa_cons (pv 4) pa_nil)) pe_int (nomark _)) (pss_cons (ps_set (i := 5) sc_l_faulty.nd rfl (Or.inl rfl) (pe_ix ix_list (pv 4) (pe_op op_mod (pe_callTy call_int1 (by rfl) T.n_int (by decide +kernel) (pa_cons (pv 3) pa_nil)) (pe_callB call_len_seq (by rfl) T.n_len (by decide +kernel) (pa_cons (pv 4) pa_nil))) (fun _ _ => rfl)))
        (pss_one (ps_set (i := 6) sc_l_faulty.nd rfl (Or.inl rfl) (pe_dget hu (pv 1) (pv 5) (fun _ _ => rfl))))) pss_nil)
        (pss_cons (ps_set (i := 7) sc_l_faulty.nd rfl (Or.inr rfl) (pe_op op_cat (pe_lst (pa_cons (pv 5) (pa_cons (pe_op op_add (pe_callB call_len_seq (by rfl) T.n_len (by decide +kernel) (pa_cons (pv 6) pa_nil)) pe_int) pa_nil))) (pv 6)))
        (pss_cons (ps_if (pt_cmpR op_eq (pv 2) pe_int (nomark _)) (pss_cons (ps_set (i := 0) sc_l_faulty.nd rfl (Or.inl rfl) (pe_call (ok_l_put T) (hr.mono (by decide)) rfl T.m_l_put T.F_l_put.kp T.b_l_put .nil pass0 (pa_cons (pv 0) (pa_cons (pv 7) (pa_cons (pe_op op_fdiv (pv 3) pe_int) pa_nil)))))
        (pss_one (ps_if (pt_cmpR op_eq (pe_callB call_len_seq (by rfl) T.n_len (by decide +kernel) (pa_cons (pv 4) pa_nil)) pe_int (nomark _)) (pss_one (ps_set (i := 0) sc_l_faulty.nd rfl (Or.inl rfl) (pe_call (ok_l_put T) (hr.mono (by decide)) rfl T.m_l_put T.F_l_put.kp T.b_l_put .nil pass0 (pa_cons (pv 0) (pa_cons (pv 7) (pa_cons (pe_op op_fdiv (pv 3) pe_int) pa_nil)))))) pss_nil))) pss_nil)
        (pss_cons (ps_if (pt_cmpR op_eq (pv 2) pe_int (nomark _)) (pss_cons (ps_set (i := 8) sc_l_faulty.nd rfl (Or.inr rfl) (pe_op op_cat (pe_op op_cat (pe_lst (pa_cons (pv 5) (pa_cons (pe_op op_add (pe_callB call_len_seq (by rfl) T.n_len (by decide +kernel) (pa_cons (pv 6) pa_nil)) pe_int) pa_nil))) (pv 6)) (pe_lst (pa_cons (pe_op op_mod (pe_callTy call_int1 (by rfl) T.n_int (by decide +kernel) (pa_cons (pv 3) pa_nil)) pe_int) pa_nil))))
        (pss_cons (ps_setLc (i := 0) (own := [("item", 9)]) (g := gName 9) (tt := tYes) rfl sc_l_faulty.nd rfl rfl (sw_true rfl rfl rfl (by decide +kernel)) (pi_list (pv 0)) (blkOk_by (N := ["items", "bodies", "fault", "cell", "kinds", "kind", "body", "whole", "longer", "item"]) (sc := defScope s_l_faulty) (by decide +kernel)) (fun _ _ _ _ _ => (pg_name (i := 9) sc_l_faulty.nd rfl (Or.inl rfl))) (fun _ _ _ _ _ => pts_nil) (fun _ _ _ _ _ => (pe_ifExp (pt_cmpR (r := rEqD K) (op_eqD hr.units) (pv 9) (pv 7) (nomark _)) (pv 8) (pv 9))))
        (pss_one (ps_if (pt_cmpR op_eq (pe_callB call_len_seq (by rfl) T.n_len (by decide +kernel) (pa_cons (pv 4) pa_nil)) pe_int (nomark _)) (pss_one (ps_set (i := 0) sc_l_faulty.nd rfl (Or.inl rfl) (pe_call (ok_l_put T) (hr.mono (by decide)) rfl T.m_l_put T.F_l_put.kp T.b_l_put .nil pass0 (pa_cons (pv 0) (pa_cons (pv 8) (pa_cons (pe_op op_fdiv (pv 3) pe_int) pa_nil)))))) pss_nil)))) pss_nil)
        (pss_cons (ps_if (pt_cmpR op_eq (pv 2) pe_int (nomark _)) (pss_one (ps_set (i := 0) sc_l_faulty.nd rfl (Or.inl rfl) (pe_call (ok_l_put T) (hr.mono (by decide)) rfl T.m_l_put T.F_l_put.kp T.b_l_put .nil pass0 (pa_cons (pv 0) (pa_cons (pe_lst (pa_cons (pe_op op_add pe_int (pe_op op_mod (pe_callTy call_int1 (by rfl) T.n_int (by decide +kernel) (pa_cons (pv 3) pa_nil)) pe_int)) (pa_cons (pe_op op_mod (pe_op op_fdiv (pe_callTy call_int1 (by rfl) T.n_int (by decide +kernel) (pa_cons (pv 3) pa_nil)) pe_int) pe_int) pa_nil))) (pa_cons (pe_op op_fdiv (pv 3) pe_int) pa_nil)))))) pss_nil)
        (pss_cons (ps_if (pt_cmpR op_eq (pv 2) pe_int (nomark _)) (pss_one (ps_set (i := 0) sc_l_faulty.nd rfl (Or.inl rfl) (pe_op op_cat (pv 0) (pe_lst (pa_cons (pe_op op_cat (pe_op op_cat (pe_lst (pa_cons pe_int pa_nil)) (pe_op op_rep (pe_lst (pa_cons pe_int pa_nil)) (pe_op op_mod (pe_callTy call_int1 (by rfl) T.n_int (by decide +kernel) (pa_cons (pv 3) pa_nil)) pe_int))) (pe_lst (pa_cons (pe_op op_add pe_int (pe_op op_mod (pe_op op_fdiv (pe_callTy call_int1 (by rfl) T.n_int (by decide +kernel) (pa_cons (pv 3) pa_nil)) pe_int) pe_int)) pa_nil))) pa_nil))))) pss_nil)
        (pss_cons (ps_if (pt_cmpR op_eq (pv 2) pe_int (nomark _)) (pss_one (ps_set (i := 0) sc_l_faulty.nd rfl (Or.inl rfl) (pe_op op_cat (pv 0) (pe_lst (pa_cons (pe_op op_cat (pe_lst (pa_cons (pe_op op_add pe_int (pe_op op_mod (pe_callTy call_int1 (by rfl) T.n_int (by decide +kernel) (pa_cons (pv 3) pa_nil)) pe_int)) (pa_cons pe_int pa_nil))) (pe_call (ok_l_row T) (hr.mono (by decide)) rfl T.m_l_row T.F_l_row.kp T.b_l_row .nil pass0 (pa_cons (pv 3) (pa_cons (pe_op op_mod (pe_op op_fdiv (pe_callTy call_int1 (by rfl) T.n_int (by decide +kernel) (pa_cons (pv 3) pa_nil)) pe_int) pe_int) (pa_cons pe_int pa_nil))))) pa_nil))))) pss_nil)
        (pss_cons (ps_if (pt_cmpR op_eq (pv 2) pe_int (nomark _)) (pss_one (ps_set (i := 0) sc_l_faulty.nd rfl (Or.inl rfl) (pe_op op_cat (pv 0) (pe_lst (pa_cons (pe_lst (pa_cons (pe_op op_add pe_int (pe_op op_mod (pe_callTy call_int1 (by rfl) T.n_int (by decide +kernel) (pa_cons (pv 3) pa_nil)) pe_int)) pa_nil)) pa_nil))))) pss_nil)
        (pss_one (ps_ret (pv 0)))))))))))))), ?_⟩
    dsimp only [cxOf, Cx.nox, Cx.wish, L2.start, List.map, List.cons_append, List.nil_append, List.length_cons, List.length_nil, Nat.reduceAdd, Nat.reduceSub, Nat.zero_add, List.replicate_succ, List.replicate_zero]
    walk_at "go"
    refine ⟨d, kvs, rfl, .inl hd, fun kl nkl => ?_⟩
    walk_at "nw"
    rename_i H1 s1 k1
    walk_at "go"
    refine ⟨by show 2 ≤ sizeLine; decide, fun b0 nb0 => ?_⟩
    walk_at "nw"
    rename_i H2 s2 k2
    have s02 := s1.trans s2
    walk_at "go"
    have lk : (kvs.map fun kv => kV kv.1).length = bs.length := by rw [List.length_map, hB.1]
    refine g_cut (fun σ' H' => ∃ (k : Int) (b : List Int) (lb : Addr), σ' = [some (.ref l), some (.ref d), some (.int fa), some (.int c), some (.ref kl), some (.int k), some (.ref lb), none, none, none] ∧ H' = H2 ∧ H2 lb = some (.lst (b.map V.int)) ∧ knownO k b = true ∧ okLen k b.length = true ∧ ((bs = [] ∧ k = 2 ∧ b = [1, 2]) ∨ (bs ≠ [] ∧ (k, b) ∈ bs))) ?_ ?_
    · walk_at "go"
      refine g_len (.inl (sl (s2 _ _ k1))) ?_
      walk_at "go"
      rw [lk]
      refine g_ite (fun c1 => ?_) (fun c1 => ?_)
      · walk_at "go"
        refine g_len (.inl (sl (s2 _ _ k1))) ?_
        walk_at "go"
        rw [lk]
        obtain ⟨i, ei, hi⟩ : ∃ i : Nat, c % (bs.length : Int) = (i : Int) ∧ i < bs.length := ⟨(c % (bs.length : Int)).toNat, by have := Int.emod_nonneg c (show (bs.length : Int) ≠ 0 by omega); omega, by have := Int.emod_lt_of_pos c (show 0 < (bs.length : Int) by omega); omega⟩
        rw [ei]
        walk_at "go"
        obtain ⟨k, b, eb⟩ : ∃ k b, bs[i]? = some (k, b) := ⟨_, _, List.getElem?_eq_getElem hi⟩
        obtain ⟨lb, ek, el⟩ := hB.2 i k b eb
        refine g_ixL (v := .int k) (sl (s2 _ _ k1)) (at_of (j := i) rfl (by rw [List.getElem?_map, ek]; rfl)) ?_
        walk_at "go"
        obtain ⟨f, _, F⟩ := rbs_perm (os := bs) ok (by rw [show kno bs = bs from List.filter_eq_self.mpr fun p hp => (ok.1 p hp).1])
        have hm := List.mem_of_getElem? eb
        rcases (hB.same s02).dget (s02 _ _ hd) F k with ⟨z1, z2⟩ | ⟨b2, l2, z1, z3, z2⟩
        · rw [(F k b).mpr hm] at z1; cases z1
        rw [(F k b).mpr hm] at z1
        cases z1
        refine ⟨d, _, rfl, z2, ?_⟩
        walk_at "go"
        exact ⟨k, b, l2, rfl, rfl, z3, (ok.1 _ hm).1, (ok.1 _ hm).2, .inr ⟨fun z => (by rw [z] at hm; cases hm), hm⟩⟩
      · walk_at "go"
        exact ⟨2, [1, 2], b0, rfl, rfl, k2, by decide +kernel, by decide +kernel, .inl ⟨List.length_eq_zero_iff.mp (by omega), rfl, rfl⟩⟩
    rintro σ' H3 ⟨k, b, lb, rfl, rfl, elb, kn, ol, hbs⟩
    have lb32 := okLen_le ol
    have k01 := ok_ne (known_lens kn)
    have hR3 := hR.same s02
    have kk := s2 _ _ k1
    clear k1 k2 hR
    walk_at "go"
    refine g_len (.inl (sl elb)) ?_
    walk_at "go"
    rw [List.length_map]
    refine ⟨by show 2 ≤ sizeLine; decide, fun p1 n1 => ?_⟩
    walk_at "nw"
    rename_i H4 s4 k4
    walk_at "go"
    refine g_cat k4 (s4 _ _ elb) (by rw [List.length_map]; exact sz (by show 2 + _ ≤ _; omega)) fun wl n5 => ?_
    walk_at "nw"
    rename_i H5 s5 k5
    replace k5 : H5 wl = some (.lst ((Itm.enc (.opt k b)).map V.int)) := k5
    have hR5 := hR3.same (s4.trans s5)
    have s05 := (s02.trans s4).trans s5
    have kk5 := s5 _ _ (s4 _ _ kk)
    have elb5 := s5 _ _ (s4 _ _ elb)
    have il : (is.map Itm.enc).length ≤ 20 := by rw [List.length_map]; exact hl
    have fl : (is.map Itm.enc).flatten.length ≤ 260 := hI.2.2
    clear k4 s4 s5 hR3 kk elb
    obtain rfl | rfl | rfl | rfl | rfl | rfl | rfl | rfl : fa = 0 ∨ fa = 1 ∨ fa = 2 ∨ fa = 3 ∨ fa = 4 ∨ fa = 5 ∨ fa = 6 ∨ fa = 7 := by omega
    · walk_at "go"
      exact q l H5 _ s05 hR5 (by omega) (by omega) ⟨fun _ => rfl, fun z => by omega, fun z => by omega⟩
    · walk_at "go"
      refine u_put hR5 (by omega) k5 fun l6 H6 j6 nl6 s6 hR6 => ?_
      rw [← insI_enc] at hR6
      have hI6 := hI.put (m := 300) (i := .opt k b) j6 k01 (by show 260 + (b.length + 1 + 1) ≤ _; omega)
      rw [opl kn] at hI6
      have l6' : (insI is j6 (.opt k b)).length ≤ 21 := by rw [insI_len trivial]; omega
      walk_at "go"
      refine g_len (.inl (sl (s6 _ _ kk5))) ?_
      walk_at "go"
      rw [lk]
      refine g_ite (fun c1 => ?_) (fun c1 => ?_)
      · walk_at "go"
        refine u_put hR6 (by rw [List.length_map]; omega) (s6 _ _ k5) fun l7 H7 j7 nl7 s7 hR7 => ?_
        rw [← insI_enc] at hR7
        have hI7 := hI6.put (m := 340) (i := .opt k b) j7 k01 (by show 300 + (b.length + 1 + 1) ≤ _; omega)
        rw [opl kn] at hI7
        walk_at "go"
        have eb : bs = [] := List.length_eq_zero_iff.mp (by omega)
        subst eb
        refine q l7 H7 _ ((s05.trans s6).trans s7) hR7 (by rw [List.length_map, insI_len trivial]; omega) (Nat.le_trans hI7.2.2 (by omega)) ⟨fun z => by omega, fun _ z hz => refu_items hI7.1 hz (rbs_dup (q := (k, b)) (bs := [(k, b)]) List.mem_cons_self (fun p hp => by rw [List.mem_singleton.mp hp]; exact kn) hI7.2.1), fun z => by omega⟩
      · walk_at "go"
        have hm : (k, b) ∈ bs := by
          rcases hbs with ⟨z, _⟩ | ⟨_, z⟩
          · rw [z] at c1; exact absurd rfl c1
          · exact z
        refine q l6 H6 _ (s05.trans s6) hR6 (by rw [List.length_map]; omega) (Nat.le_trans hI6.2.2 (by omega)) ⟨fun z => by omega, fun _ z hz => refu_items hI6.1 hz (rbs_dup (q := (k, b)) hm (fun p hp => (ok.1 p hp).1) hI6.2.1), fun z => by omega⟩
    · walk_at "go"
      refine g_len (.inl (sl elb5)) ?_
      walk_at "go"
      rw [List.length_map]
      refine ⟨by show 2 ≤ sizeLine; decide, fun p6 n6 => ?_⟩
      walk_at "nw"
      rename_i H6 s6 k6
      walk_at "go"
      refine g_cat k6 (s6 _ _ elb5) (by rw [List.length_map]; exact sz (by show 2 + _ ≤ _; omega)) fun p7 n7 => ?_
      walk_at "nw"
      rename_i H7 s7 k7
      walk_at "go"
      refine ⟨by show 1 ≤ sizeLine; decide, fun p8 n8 => ?_⟩
      walk_at "nw"
      rename_i H8 s8 k8
      walk_at "go"
      refine g_cat (s8 _ _ k7) k8 (by rw [List.length_append, List.length_map]; exact sz (by show 2 + _ + 1 ≤ _; omega)) fun gl n9 => ?_
      walk_at "nw"
      rename_i H9 s9 k9
      have s59 := ((s6.trans s7).trans s8).trans s9
      replace k9 : H9 gl = some (.lst ((Itm.enc (.opt k (b ++ [c % 256]))).map V.int)) := by
        rw [k9]
        show some (HO.lst ([V.int k, V.int ((b.length : Int) + 3)] ++ b.map V.int ++ [V.int (c % 256)])) = some (HO.lst ((k :: (((b ++ [c % 256]).length : Int) + 2) :: (b ++ [c % 256])).map V.int))
        rw [List.length_append, List.map_cons, List.map_cons, List.map_append, show ((b.length + [c % 256].length : Nat) : Int) + 2 = (b.length : Int) + 3 by show ((b.length + 1 : Nat) : Int) + 2 = _; omega]
        rfl
      have hR9 := hR5.same s59
      have kk9 := s59 _ _ kk5
      have kw9 := s59 _ _ k5
      have s09 := s05.trans s59
      clear s6 s7 s8 s9 s59 k6 k7 k8
      walk_at "go"
      obtain ⟨vs, ev, hL⟩ := id hR9
      refine ⟨⟨vs, sl ev⟩, fun D nD => ?_⟩
      obtain ⟨g, hg⟩ : ∃ g : Itm → Itm, g = fun i => if i.enc = (Itm.opt k b).enc then .opt k (b ++ [c % 256]) else i := ⟨_, rfl⟩
      refine lc_it walk_list (LcLL H9 D ((is.map g).map Itm.enc)) ⟨same_upd nD, [], upd_same, by rw [List.take_zero]; exact LLr.nil⟩ (fun i H _ p => sl (p.1 _ _ ev)) ?turn ?done
      case turn =>
        rintro i x H10 H11 hi Pp ⟨rfl, hx⟩
        have hii : i < is.length := by have := hL.1; rw [List.length_map] at this; omega
        obtain ⟨a, ha1, ha2⟩ := hL.2 i is[i].enc (by rw [List.getElem?_map, List.getElem?_eq_getElem hii]; rfl)
        rw [ha1] at hx
        cases hx
        refine ⟨rfl, ?_⟩
        walk_at "go"
        refine g_eqL (sl (Pp.1 _ _ ha2)) (sl (Pp.1 _ _ kw9)) ?_
        walk_at "go"
        have gi : ((is.map g).map Itm.enc)[i]? = some (g is[i]).enc := by rw [List.getElem?_map, List.getElem?_map, List.getElem?_eq_getElem hii]; rfl
        have gl2 : ((is.map g).map Itm.enc).length ≤ 100000 := by rw [List.length_map, List.length_map]; omega
        refine g_ite (fun c1 => ?_) (fun c1 => ?_)
        · walk_at "go"
          refine lc_row nD Pp (p := (g is[i]).enc) ?_ gi gl2
          rw [hg]
          dsimp only
          rw [if_pos c1]
          exact k9
        · walk_at "go"
          refine lc_row nD Pp (p := (g is[i]).enc) ?_ gi gl2
          rw [hg]
          dsimp only
          rw [if_neg c1]
          exact ha2
      case done =>
        rintro H10 ⟨s10, us, e10, P10⟩
        rw [List.take_of_length_le (by rw [List.length_map, List.length_map]; have := hL.1; rw [List.length_map] at this; omega)] at P10
        have hR10 : RowsO H10 D ((is.map g).map Itm.enc) := ⟨us, e10, P10.same s10⟩
        have okg : ∀ i ∈ is.map g, i.ok := by
          intro i hi
          obtain ⟨i0, hi0, rfl⟩ := List.mem_map.mp hi
          rw [hg]
          dsimp only
          split
          · exact k01
          · exact hI.1 _ hi0
        have leng : ∀ js : List Itm, (encs (js.map g)).length ≤ (encs js).length + js.length := by
          intro js
          induction js with
          | nil => exact Nat.le_refl _
          | cons i js ih =>
            rw [List.map_cons, encs_cons, encs_cons, List.length_append, List.length_append, List.length_cons]
            have : (g i).enc.length ≤ i.enc.length + 1 := by
              rw [hg]
              dsimp only
              split
              · rename_i z
                rw [z]
                show (b ++ [c % 256]).length + 1 + 1 ≤ b.length + 1 + 1 + 1
                rw [List.length_append]
                exact Nat.le_refl _
              · omega
            omega
        have lg := leng is
        have lI := hI.2.2
        walk_at "go"
        refine g_len (.inl (sl (s10 _ _ kk9))) ?_
        walk_at "go"
        rw [lk]
        refine g_ite (fun c1 => ?_) (fun c1 => ?_)
        · walk_at "go"
          refine u_put hR10 (by rw [List.length_map, List.length_map]; omega) (s10 _ _ k9) fun l11 H11 j11 n11 s11 hR11 => ?_
          rw [← insI_enc] at hR11
          walk_at "go"
          refine q l11 H11 _ ((s09.trans s10).trans s11) hR11 (by rw [List.length_map, insI_len trivial, List.length_map]; omega) (by
            show (encs _).length ≤ _
            rw [encs_ins]
            show _ + ((b ++ [c % 256]).length + 1 + 1) ≤ _
            rw [List.length_append]
            show _ + (b.length + 1 + 1 + 1) ≤ _
            omega) ⟨fun z => by omega, fun _ z hz => refu_items (fun i hi => ?_) hz (rbs_bad (k := k) (b := b ++ [c % 256]) (opsI_mem.mpr ?_) (long_known kn ol) (long_bad ol)), fun z => by omega⟩
          · rcases insI_mem hi with e | e
            · rw [e]; exact k01
            · exact okg i e
          · unfold insI
            exact List.mem_append_left _ (List.mem_append_right _ (List.mem_singleton.mpr rfl))
        · walk_at "go"
          have hm : (k, b) ∈ bs := by
            rcases hbs with ⟨z, _⟩ | ⟨_, z⟩
            · rw [z] at c1; exact absurd rfl c1
            · exact z
          refine q D H10 _ (s09.trans s10) hR10 (by rw [List.length_map, List.length_map]; omega) (by show (encs _).length ≤ _; omega) ⟨fun z => by omega, fun _ z hz => refu_items okg hz (rbs_bad (k := k) (b := b ++ [c % 256]) (opsI_mem.mpr ?_) (long_known kn ol) (long_bad ol)), fun z => by omega⟩
          refine List.mem_map.mpr ⟨.opt k b, opsI_mem.mp (kno_mem (hI.2.1.mem_iff.mpr hm)), ?_⟩
          rw [hg]
          dsimp only
          rw [if_pos rfl]
    · walk_at "go"
      refine ⟨by show 2 ≤ sizeLine; decide, fun p6 n6 => ?_⟩
      walk_at "nw"
      rename_i H6 s6 k6
      walk_at "go"
      refine u_put (r := [2 + c % 254, c / 254 % 2]) (hR5.same s6) (by omega) k6 fun l7 H7 j7 nl7 s7 hR7 => ?_
      walk_at "go"
      refine q l7 H7 _ ((s05.trans s6).trans s7) hR7 (by rw [insR_len]; omega) (by rw [insR_flen]; show _ + 2 ≤ _; omega) ⟨fun z => by omega, fun _ z hz => ?_, fun z => by omega⟩
      rw [insR_flat, ← List.map_take, List.append_assoc]
      have d0 : 0 ≤ c % 254 := Int.emod_nonneg _ (by decide)
      have d1 : c / 254 % 2 < 2 := Int.emod_lt_of_pos _ (by decide)
      exact refu_tail (is := is.take j7) (fun i hi => hI.1 i (List.mem_of_mem_take hi)) (.bad (by omega) (by omega) (by omega))
    · walk_at "go"
      refine ⟨by show 1 ≤ sizeLine; decide, fun p6 n6 => ?_⟩
      walk_at "nw"
      rename_i H6 s6 k6
      walk_at "go"
      refine ⟨by show 1 ≤ sizeLine; decide, fun p7 n7 => ?_⟩
      walk_at "nw"
      rename_i H7 s7 k7
      walk_at "go"
      have d0 : 0 ≤ c % 3 := Int.emod_nonneg _ (by decide)
      have d1 : c % 3 < 3 := Int.emod_lt_of_pos _ (by decide)
      refine ⟨p7, _, _, rfl, rfl, k7, by omega, by omega, (by show 1 * (c % 3).toNat ≤ _; exact sz (by omega)), fun p8 n8 => ?_⟩
      rw [show (List.replicate (c % 3).toNat [V.int 0]).flatten = (List.replicate (c % 3).toNat (0 : Int)).map V.int by rw [List.map_replicate]; induction (c % 3).toNat with | zero => rfl | succ n ih => rw [List.replicate_succ, List.flatten_cons, ih, List.replicate_succ]; rfl]
      walk_at "nw"
      rename_i H8 s8 k8
      walk_at "go"
      refine g_cat (s8 _ _ (s7 _ _ k6)) k8 (by rw [List.length_map, List.length_replicate]; exact sz (by show 1 + _ ≤ _; omega)) fun p9 n9 => ?_
      walk_at "nw"
      rename_i H9 s9 k9
      walk_at "go"
      refine ⟨by show 1 ≤ sizeLine; decide, fun p10 n10 => ?_⟩
      walk_at "nw"
      rename_i H10 s10 k10
      walk_at "go"
      refine g_cat (s10 _ _ k9) k10 (by rw [List.length_append, List.length_map, List.length_replicate]; exact sz (by show 1 + _ + 1 ≤ _; omega)) fun p11 n11 => ?_
      walk_at "nw"
      rename_i H11 s11 k11
      walk_at "go"
      refine ⟨by show 1 ≤ sizeLine; decide, fun p12 n12 => ?_⟩
      walk_at "nw"
      rename_i H12 s12 k12
      have s512 := (((((s6.trans s7).trans s8).trans s9).trans s10).trans s11).trans s12
      replace k11 : H12 p11 = some (.lst ((0 :: (List.replicate (c % 3).toNat 0 ++ [1 + c / 3 % 255])).map V.int)) := by
        rw [s12 _ _ k11, List.map_cons, List.map_append]
        rfl
      obtain ⟨vs, ev, hL⟩ := hR5.same s512
      have lv := hL.1
      walk_at "go"
      refine g_cat ev k12 (by rw [lv]; exact sz (by show _ + 1 ≤ _; omega)) fun p13 n13 => ?_
      walk_at "nw"
      rename_i H13 s13 k13
      walk_at "go"
      have e0 : 0 ≤ c / 3 % 255 := Int.emod_nonneg _ (by decide)
      refine q p13 H13 (is.map Itm.enc ++ [0 :: (List.replicate (c % 3).toNat 0 ++ [1 + c / 3 % 255])]) (s05.trans (s512.trans s13)) ⟨_, k13, (hL.same s13).app (LLr.one (s13 _ _ k11))⟩ (by rw [List.length_append]; show _ + 1 ≤ _; omega) (by
        rw [List.flatten_append, List.flatten_singleton, List.length_append, List.length_cons, List.length_append, List.length_replicate]
        show _ + (_ + 1 + 1) ≤ _
        omega) ⟨fun z => by omega, fun z => by omega, fun _ => ?_⟩
      rw [List.flatten_append, List.flatten_singleton]
      exact refu_tail (is := is) hI.1 (.zbad ⟨1 + c / 3 % 255, List.mem_append_right _ (List.mem_singleton.mpr rfl), by omega⟩)
    · walk_at "go"
      refine ⟨by show 2 ≤ sizeLine; decide, fun p6 n6 => ?_⟩
      walk_at "nw"
      rename_i H6 s6 k6
      walk_at "go"
      have d0 : 0 ≤ c / 254 % 7 := Int.emod_nonneg _ (by decide)
      have d1 : c / 254 % 7 < 7 := Int.emod_lt_of_pos _ (by decide)
      refine u_row ⟨by omega, by omega, by decide, by decide⟩ fun p7 row H7 hrow hb n7 s7 k7 => ?_
      walk_at "go"
      refine g_cat (s7 _ _ k6) k7 (by rw [List.length_map]; exact sz (by show 2 + _ ≤ _; omega)) fun p9 n9 => ?_
      walk_at "nw"
      rename_i H9 s9 k9
      walk_at "go"
      refine ⟨by show 1 ≤ sizeLine; decide, fun p12 n12 => ?_⟩
      walk_at "nw"
      rename_i H12 s12 k12
      have s512 := ((s6.trans s7).trans s9).trans s12
      replace k9 : H12 p9 = some (.lst (((2 + c % 254) :: 9 :: row).map V.int)) := s12 _ _ k9
      obtain ⟨vs, ev, hL⟩ := hR5.same s512
      have lv := hL.1
      walk_at "go"
      refine g_cat ev k12 (by rw [lv]; exact sz (by show _ + 1 ≤ _; omega)) fun p13 n13 => ?_
      walk_at "nw"
      rename_i H13 s13 k13
      walk_at "go"
      have e0 : 0 ≤ c % 254 := Int.emod_nonneg _ (by decide)
      refine q p13 H13 (is.map Itm.enc ++ [(2 + c % 254) :: 9 :: row]) (s05.trans (s512.trans s13)) ⟨_, k13, (hL.same s13).app (LLr.one (s13 _ _ k9))⟩ (by rw [List.length_append]; show _ + 1 ≤ _; omega) (by
        rw [List.flatten_append, List.flatten_singleton, List.length_append, List.length_cons, List.length_cons]
        omega) ⟨fun z => by omega, fun z => by omega, fun _ => ?_⟩
      rw [List.flatten_append, List.flatten_singleton]
      exact refu_tail (is := is) hI.1 (.bad (by omega) (by omega) (by omega))
    · walk_at "go"
      refine ⟨by show 1 ≤ sizeLine; decide, fun p6 n6 => ?_⟩
      walk_at "nw"
      rename_i H6 s6 k6
      walk_at "go"
      refine ⟨by show 1 ≤ sizeLine; decide, fun p12 n12 => ?_⟩
      walk_at "nw"
      rename_i H12 s12 k12
      have s512 := s6.trans s12
      replace k6 : H12 p6 = some (.lst ([2 + c % 254].map V.int)) := s12 _ _ k6
      obtain ⟨vs, ev, hL⟩ := hR5.same s512
      have lv := hL.1
      walk_at "go"
      refine g_cat ev k12 (by rw [lv]; exact sz (by show _ + 1 ≤ _; omega)) fun p13 n13 => ?_
      walk_at "nw"
      rename_i H13 s13 k13
      walk_at "go"
      have e0 : 0 ≤ c % 254 := Int.emod_nonneg _ (by decide)
      refine q p13 H13 (is.map Itm.enc ++ [[2 + c % 254]]) (s05.trans (s512.trans s13)) ⟨_, k13, (hL.same s13).app (LLr.one (s13 _ _ k6))⟩ (by rw [List.length_append]; show _ + 1 ≤ _; omega) (by
        rw [List.flatten_append, List.flatten_singleton, List.length_append]
        show _ + 1 ≤ _
        omega) ⟨fun z => by omega, fun z => by omega, fun _ => ?_⟩
      rw [List.flatten_append, List.flatten_singleton]
      exact refu_tail (is := is) hI.1 (.one (by omega) (by omega))
    · walk_at "go"
      exact q l H5 _ s05 hR5 (by omega) (by omega) ⟨fun _ => rfl, fun z => by omega, fun z => by omega⟩
end
end My
namespace My
open PySem PySem.Spec L2
local macro_rules | `(tactic| walk_at "side") => `(tactic| first | assumption | decide | omega | exact ⟨by decide, by decide⟩ | exact ⟨by decide, by decide, by decide⟩ | decide +kernel | exact cdivW (by decide +kernel) (by decide +kernel) | exact Or.inl ⟨by omega, by omega⟩ | exact Or.inr ⟨by omega, by omega⟩ | (simp only [List.length_map, List.length_cons, List.length_nil, List.length_append]; omega))
local macro_rules | `(tactic| walk_at "fact") => `(tactic| first | assumption | omega | with_reducible rfl)
local macro_rules | `(tactic| walk_at "use") => `(tactic| fail "use")
local macro_rules | `(tactic| walk_at "go1") => `(tactic| with_reducible first | refine g_seq ?_ | refine g_asg ?_ | refine g_ret ?_ | refine g_ifS ?_ | refine g_drop ?_ | refine g_star ?_ | refine g_nx ?_ | refine g_rt ?_ | refine g_bkE ?_ | refine g_ctE ?_ | refine g_next ?_ | refine g_retN ?_ | refine g_brk ?_ | refine g_ct ?_ | refine g_c ?_ | refine g_op ?_ | refine g_un ?_ | refine g_rI0 ?_ | refine g_rU ?_ | refine g_rEqI ?_ | refine g_rNeI ?_ | refine g_isN ?_ | refine g_rIsB ?_ | refine g_rNotB ?_ | refine g_test ?_ | refine g_B ?_ | refine g_bl ?_ | refine g_and ?_ | refine g_or ?_ | refine g_not ?_ | refine g_andV ?_ | refine g_orV ?_ | refine g_notV ?_ | refine g_if ?_ | refine g_chain ?_ | refine g_yes ?_ | refine g_lc ?_ | refine g_revR ?_ | refine g_rng1 ?_ | refine g_iList ?_ | refine g_nil ?_ | refine g_cons ?_ | refine g_tup ?_ | refine g_lst ?_ | refine g_call ?_ | refine g_CB ?_ | refine g_sl ?_ | refine g_noPart ?_ | refine g_part ?_ | refine g_intE ?_ | refine g_ref ?_ | refine g_fld ?_ | refine g_sfld ?_ | refine g_meth ?_ | refine g_make ?_ | refine g_prop ?_  | refine g_ipI ?_ | refine g_int1 ?_ | refine g_int1B ?_ | refine g_one ?_ | refine g_two ?_ | refine g_isiI ?_ | refine g_isiIB ?_ | refine g_isiB ?_ | refine g_BM ?_ | refine g_BM0 ?_ | refine g_sub ?_)
local macro_rules | `(tactic| walk_at "go") => `(tactic| repeat (first | walk_at "go1" | ((with_reducible refine' g_nameE ?sd_ ?_); case sd_ => dsimp only [List.set_cons_succ, List.set_cons_zero]) | ((with_reducible refine' g_var ?sd_ ?_); case sd_ => exact rfl) | ((with_reducible refine' g_aug ?sd_ ?_); case sd_ => exact rfl) | ((with_reducible refine' g_rI ?sd_ ?_); case sd_ => walk_at "side") | ((with_reducible refine' g_dT ?sd_ ?_); case sd_ => walk_at "fact") | ((with_reducible refine' g_dF ?sd_ ?_); case sd_ => walk_at "fact") | ((with_reducible refine' g_nT ?sd_ ?_); case sd_ => walk_at "fact") | ((with_reducible refine' g_nF ?sd_ ?_); case sd_ => walk_at "fact") | (with_reducible refine g_iT rfl ?_) | (with_reducible refine g_iF rfl ?_) | walk_at "use"))
local macro_rules | `(tactic| walk_at "nw") => `(tactic| (generalize zq : upd _ _ _ = Hq; have sq : Same _ Hq := (by rw [← zq]; exact same_upd (by assumption)); have kq := (congrFun zq _).symm.trans upd_same; clear zq))
local macro_rules | `(tactic| walk_at "bt") => `(tactic| (generalize zq : upd _ _ _ = Hq; have bq : But _ _ Hq := (by rw [← zq]; exact But.refl.upd); have kq := (congrFun zq _).symm.trans upd_same; clear zq))

section
variable {P : Program} {w : World} {K : PySem.W.Frag} {mg : Str → Option Value} {base : Heap}
local macro_rules | `(tactic| walk_at "use") => `(tactic| with_reducible first | refine g_rs0 ?_ | refine g_rs1 ?_ | refine g_tryA ?_ | refine g_tryO ?_ | refine g_callS ?_ | refine g_joined ?_ | refine g_jsnil ?_ | refine g_jscons ?_ | refine g_fmt ?_)
local macro_rules | `(tactic| walk_at "fit") => `(tactic| (refine fit2 ?_; (try simp only [PySem.Str.length_append]); omega))
local macro_rules | `(tactic| walk_at "use") => `(tactic| first | ((with_reducible refine' g_addS ?sd_ ?_); case sd_ => (first | omega | (simp only [PySem.Str.length_append]; omega))) | ((with_reducible refine' g_slS ?sd_ ?_); case sd_ => omega) | (with_reducible refine g_m0 ?_))

local macro_rules | `(tactic| walk_at "use") => `(tactic| with_reducible first | refine g_dgetI ?_ | refine g_dputI ?_ | refine g_dget1I ?_ | refine g_dget2I ?_ | refine g_dinI ?_ | refine g_dnotinI ?_ | refine g_dnewK ?_)

local macro_rules | `(tactic| walk_at "use") => `(tactic| with_reducible refine u_cell (by assumption) (by omega) ?_)
local macro_rules | `(tactic| walk_at "use") => `(tactic| with_reducible first | refine g_xf ?_)
def sp_l_raises (K : PySem.W.Frag) : Sp := fun vs H Q _ => ∃ (a : Addr) (ns : List Int), vs = [.ref a] ∧ SqL K H a (ns.map V.int) ∧ ns.length ≤ 1000 ∧ Refu ns ∧ ∀ H', Same H H' → Q (.bl true) H'
theorem u_raises {a : Addr} {ns : List Int} {H Q E} (hS : SqL K H a (ns.map V.int)) (hl : ns.length ≤ 1000) (hr : Refu ns) (q : ∀ H', Same H H' → Q (.bl true) H') : sp_l_raises K ([.ref a] ++ []) H Q E := ⟨a, ns, rfl, hS, hl, hr, q⟩
theorem ok_l_raises (T : Txt P K mg) : FnOk P w K mg base CX0 6 T.f_l_raises T.d_l_raises ["octets"] (sp_l_raises K) := by
  refine T.F_l_raises.ok sc_l_raises (fun vs H Q E h => ?_) (fun cdv A outer s H vs Q E hr h => ?_)
  · obtain ⟨a, ns, rfl, hS, hl, ⟨x, hx, ex⟩, q⟩ := h
    rfl
  · obtain ⟨a, ns, rfl, hS, hl, ⟨x, hx, ex⟩, q⟩ := h
    have hu := hu_of hr
    refine ⟨_, (pss_cons (ps_tryA (i := 1) rfl rfl sc_l_raises.nd rfl rfl ⟨rfl, by decide, .inl T.c_ThroughlineError⟩ takes0 (fun W pn xe tk po_ => (pss_one (ps_expr (pe_callS (ok_read_options T) (hr.mono (by decide)) rfl T.m_read_options T.F_read_options.kp T.b_read_options (fun σ => passAt tk σ) (pa_cons (pv 0) pa_nil))))) (fun a oe cls d pn hz_ hf_ => (pss_cons (ps_if (PW.pt (pw_or (pt_not (pt_val (pe_callB (call_isE3 hz_ hf_) (by rfl) T.n_isinstance (by decide +kernel) (pa_cons (pv 1) (pa_cons (pe_glob (v := .ref T.C_DamagedSegment) (by rfl) T.c_DamagedSegment rfl) pa_nil))))) (pw_or (pt_not (pt_val (pe_callB (call_isE3 hz_ hf_) (by rfl) T.n_isinstance (by decide +kernel) (pa_cons (pv 1) (pa_cons (pe_bltn (v := .ty "ValueError") (by rfl) T.n_ValueError (by decide +kernel) rfl) pa_nil))))) (pw_or1 (pt_val (pe_callB (call_isE3 hz_ hf_) (by rfl) T.n_isinstance (by decide +kernel) (pa_cons (pv 1) (pa_cons (pe_glob (v := .ref T.C_InvalidOctets) (by rfl) T.c_InvalidOctets rfl) pa_nil)))))))) (pss_one (ps_ret pe_bl)) pss_nil)
        (pss_one (ps_ret (pe_and (pe_callB (r := rIsi K) call_isi (by rfl) T.n_isinstance (by decide +kernel) (pa_cons (pe_xf T.xf_DamagedSegment T.n_DamagedSegment_reason hz_ hf_ (pv 1)) (pa_cons (pe_bltn (v := .ty "str") (by rfl) T.n_str (by decide +kernel) rfl) pa_nil))) (pe_one (pe_cmpR op_eq (pe_xf T.xf_DamagedSegment T.n_DamagedSegment_reason hz_ hf_ (pv 1)) pe_str (nomark _)))))))))
        (pss_one (ps_ret pe_bl))), ?_⟩
    dsimp only [cxOf, Cx.nox, Cx.wish, L2.start, List.map, List.cons_append, List.nil_append, List.length_cons, List.length_nil, Nat.reduceAdd, Nat.reduceSub, Nat.zero_add, List.replicate_succ, List.replicate_zero]
    walk_at "go"
    refine ⟨a, ns, x, rfl, hS, hl, hx, fun f ef => (by rw [ex] at ef; cases ef), fun _ dx H1 nx s1 e1 => ?_⟩
    refine g_caught T.em_DamagedSegment_ThroughlineError fun e he => ?_
    dsimp only [List.set_cons_succ, List.set_cons_zero]
    walk_at "go"
    have hd : (some dx : Option Addr) = none ∨ ∃ dd fs, (some dx : Option Addr) = some dd ∧ H1 dd = some (.xd fs) := .inr ⟨dx, _, rfl, e1⟩
    refine g_isE3R T.xc_DamagedSegment hd T.ko_DamagedSegment_DamagedSegment ?_
    walk_at "go"
    refine g_isE3T T.xc_DamagedSegment hd T.ko_DamagedSegment_ValueError ?_
    walk_at "go"
    refine g_isE3R T.xc_DamagedSegment hd T.ko_DamagedSegment_InvalidOctets ?_
    walk_at "go"
    refine ⟨rfl, rfl, dx, _, _, rfl, e1, rfl, ?_⟩
    walk_at "go"
    refine g_isi (b := true) (.ty _) (.base (.str _)) (kit_ty (by decide +kernel)) ?_
    walk_at "go"
    refine ⟨rfl, rfl, dx, _, _, rfl, e1, rfl, ?_⟩
    walk_at "go"
    refine g_rEq rfl ?_
    rw [decide_eq_true rfl]
    exact q _ s1
def nms7 : List Str := ["mss", "scale", "ranges_known", "ranges", "stamp", "count", "echo"]
theorem dpAll_strs {H : Hp} : ∀ {ws : List Str}, DpAll K H (ws.map V.str) (ws.map PyData.str)
  | [] => .nil
  | _ :: _ => .cons (.str _) dpAll_strs
theorem sh_nms : SeqAt.shaped (.list (nms7.map PyData.str)) = true := by decide +kernel
theorem g_neNms {H : Hp} {Q : VK} {a b : Addr} (h1 : SqL K H a (nms7.map V.str)) (h2 : SqL K H b (nms7.map V.str)) (q : Q (.bl false) H) : rNeD K (.ref a) (.ref b) H Q :=
  ⟨_, _, .lst h1 dpAll_strs, .lst h2 dpAll_strs, sh_nms, sh_nms, by rw [show PyData.eqv (.list (nms7.map PyData.str)) (.list (nms7.map PyData.str)) = true by decide +kernel]; exact q⟩
theorem g_dgetT {td ty : TE} {σ : St} {H : Hp} {Q : VK} (h : td σ H fun x H1 => ty σ H1 fun y H2 => ∃ a v, x = .ref a ∧ DGet H2 a y (some v) ∧ Q v H2) : tDGet td ty σ H Q := h
theorem g_dgetV {H : Hp} {a : Addr} {kvs : List (Key × V)} {k : Str} {v : V} {A : V → Prop} (ho : H a = some (.dK kvs)) (hv : valV kvs (.inr k) = some v) (q : A v) : ∃ a' v', V.ref a = .ref a' ∧ DGet H a' (.str k) (some v') ∧ A v' := by
  have z := DGet.k (k := .inr k) ho
  rw [hv] at z
  exact ⟨a, v, rfl, z, q⟩
theorem g_dgetW {H : Hp} {a : Addr} {kvs : List (Key × V)} {k : Str} {v : V} {A : V → Prop} (ho : H a = some (.dK kvs)) (hv : valV kvs (.inr k) = some v) (q : A v) : ∃ v', DGet H a (.str k) (some v') ∧ A v' := by
  have z := DGet.k (k := .inr k) ho
  rw [hv] at z
  exact ⟨v, z, q⟩
local macro_rules | `(tactic| walk_at "use") => `(tactic| with_reducible refine g_dgetT ?_)
def expL (o : Opn) (p : Addr) (sv : V) : List V := [oV o.mss, oV o.scale, .bl o.kn, .ref p, sv, oV o.count, oV o.echo]
def sp_l_right (K : PySem.W.Frag) : Sp := fun vs H Q _ => ∃ (D v p : Addr) (us : List V) (sv : V) (o : Opn), vs = [.ref D, .ref v] ∧ OpD H D o ∧ H v = some (.lst (expL o p sv)) ∧ H p = some (.lst us) ∧ Prs H us o.rs ∧ StV H sv o.stamp ∧ o.rs.length ≤ 1000 ∧ ∀ H', Same H H' → Q (.bl true) H'
theorem u_right {D v p : Addr} {us : List V} {sv : V} {o : Opn} {H Q E} (h1 : OpD H D o) (h2 : H v = some (.lst (expL o p sv))) (h3 : H p = some (.lst us)) (h4 : Prs H us o.rs) (h5 : StV H sv o.stamp) (h6 : o.rs.length ≤ 1000) (q : ∀ H', Same H H' → Q (.bl true) H') : sp_l_right K ([.ref D, .ref v] ++ []) H Q E := ⟨D, v, p, us, sv, o, rfl, h1, h2, h3, h4, h5, h6, q⟩
theorem ok_l_right (T : Txt P K mg) : FnOk P w K mg base CX0 5 T.f_l_right T.d_l_right ["actual", "expected"] (sp_l_right K) := by
  refine T.F_l_right.ok sc_l_right (fun vs H Q E h => ?_) (fun cdv A outer s H vs Q E hr h => ?_)
  · obtain ⟨D, v, p, us, sv, o, rfl, ⟨p2, us2, sv2, hD, hp2, hP2, hsv2⟩, hv, hp, hP, hsv, hl, q⟩ := h
    rfl
  · obtain ⟨D, v, p, us, sv, o, rfl, ⟨p2, us2, sv2, hD, hp2, hP2, hsv2⟩, hv, hp, hP, hsv, hl, q⟩ := h
    have hu := hu_of hr
    refine ⟨_, (pss_cons (ps_set (i := 2) sc_l_right.nd rfl (Or.inl rfl) (pe_lst (pa_cons pe_str (pa_cons pe_str (pa_cons pe_str (pa_cons pe_str (pa_cons pe_str (pa_cons pe_str (pa_cons pe_str pa_nil)))))))))
        (pss_cons (ps_if (PW.pt (pw_or (pt_not (pt_val (pe_callB call_isi (by rfl) T.n_isinstance (by decide +kernel) (pa_cons (pv 0) (pa_cons (pe_bltn (v := .ty "dict") (by rfl) T.n_dict (by decide +kernel) rfl) pa_nil))))) (pw_or1 (pt_cmpR (op_neD hr.units) (pe_callTy (call_listD rfl) (by rfl) T.n_list (by decide +kernel) (pa_cons (pv 0) pa_nil)) (pv 2) (nomark _))))) (pss_one (ps_ret pe_bl)) pss_nil)
        (C8.pss_cut (ps_if (PW.pt (pw_or (PW.pt (pw_and (pt_truth (pe_ix ix_list (pv 1) pe_int (fun _ _ => rfl)) (by intro _; rfl)) (pw_and1 (pt_cmpR op_notBl (pe_dget hu (pv 0) pe_str (fun _ _ => rfl)) pe_bl (nomark _))))) (pw_or1 (PW.pt (pw_and (pt_not (pt_truth (pe_ix ix_list (pv 1) pe_int (fun _ _ => rfl)) (by intro _; rfl))) (pw_and1 (pt_cmpR op_notBl (pe_dget hu (pv 0) pe_str (fun _ _ => rfl)) pe_bl (nomark _)))))))) (pss_one (ps_ret pe_bl)) pss_nil)
        (pss_cons (ps_if (pt_not (pt_val (pe_call (ok_l_all_pairs T) (hr.mono (by decide)) rfl T.m_l_all_pairs T.F_l_all_pairs.kp T.b_l_all_pairs .nil pass0 (pa_cons (pe_dget hu (pv 0) pe_str (fun _ _ => rfl)) (pa_cons (pe_ix ix_list (pv 1) pe_int (fun _ _ => rfl)) pa_nil))))) (pss_one (ps_ret pe_bl)) pss_nil)
        (pss_cons (ps_for PassesOwn.never rfl (pi_list (pe_lst (pa_cons pe_int (pa_cons pe_int (pa_cons pe_int (pa_cons pe_int pa_nil)))))) (pg_name (i := 3) sc_l_right.nd rfl (Or.inl rfl)) (pss_one (ps_if (pt_not (pt_val (pe_call (ok_l_number T) (hr.mono (by decide)) rfl T.m_l_number T.F_l_number.kp T.b_l_number .nil pass0 (pa_cons (pe_dget hu (pv 0) (pe_ix ix_list (pv 2) (pv 3) (fun _ _ => rfl)) (fun _ _ => rfl)) (pa_cons (pe_ix ix_list (pv 1) (pv 3) (fun _ _ => rfl)) pa_nil))))) (pss_one (ps_ret pe_bl)) pss_nil)))
        (pss_one (ps_ret (pe_call (ok_l_pair T) (hr.mono (by decide)) rfl T.m_l_pair T.F_l_pair.kp T.b_l_pair .nil pass0 (pa_cons (pe_dget hu (pv 0) pe_str (fun _ _ => rfl)) (pa_cons (pe_ix ix_list (pv 1) pe_int (fun _ _ => rfl)) pa_nil)))))))))), ?_⟩
    dsimp only [cxOf, Cx.nox, Cx.wish, L2.start, List.map, List.cons_append, List.nil_append, List.length_cons, List.length_nil, Nat.reduceAdd, Nat.reduceSub, Nat.zero_add, List.replicate_succ, List.replicate_zero]
    walk_at "go"
    refine ⟨by show 7 ≤ sizeLine; decide, fun n1 nn1 => ?_⟩
    walk_at "nw"
    rename_i H1 s1 k1
    replace k1 : H1 n1 = some (.lst (nms7.map V.str)) := k1
    walk_at "go"
    refine g_isi (b := true) (.ty _) (.base (.dK (s1 _ _ hD))) (kit_ty (by decide +kernel)) ?_
    walk_at "go"
    refine ⟨D, _, rfl, .inl (s1 _ _ hD), fun l2 nl2 => ?_⟩
    walk_at "nw"
    rename_i H2 s2 k2
    replace k2 : H2 l2 = some (.lst (nms7.map V.str)) := k2
    have s02 := s1.trans s2
    walk_at "go"
    refine g_neNms (sl k2) (sl (s2 _ _ k1)) ?_
    have s2' := s02
    have hD2 := s02 _ _ hD
    have hv2 := s02 _ _ hv
    have k12 := s2 _ _ k1
    walk_at "go"
    refine g_cut (fun σ' H' => σ' = [some (.ref D), some (.ref v), some (.ref n1), none] ∧ H' = H2) ?_ ?_
    · walk_at "go"
      refine g_ixL (v := .bl o.kn) (sl hv2) (at_of (j := 2) rfl rfl) ?_
      walk_at "go"
      refine ⟨o.kn, rfl, ?_⟩
      have hkn : valV (opKv o (.ref p2) sv2) (.inr "ranges_known") = some (.bl o.kn) := rfl
      cases hk : o.kn with
      | true =>
        rw [hk] at hkn
        refine g_iT rfl ?_
        walk_at "go"
        refine g_dgetV hD2 hkn ?_
        walk_at "go"
        refine g_ixL (v := .bl o.kn) (sl hv2) (at_of (j := 2) rfl rfl) ?_
        walk_at "go"
        refine ⟨o.kn, rfl, ?_⟩
        rw [hk]
        walk_at "go"
        exact ⟨rfl, rfl⟩
      | false =>
        rw [hk] at hkn
        refine g_iF rfl ?_
        walk_at "go"
        refine g_ixL (v := .bl o.kn) (sl hv2) (at_of (j := 2) rfl rfl) ?_
        walk_at "go"
        refine ⟨o.kn, rfl, ?_⟩
        rw [hk]
        walk_at "go"
        refine g_dgetV hD2 hkn ?_
        walk_at "go"
        exact ⟨rfl, rfl⟩
    rintro σ' H3 ⟨rfl, rfl⟩
    walk_at "go"
    refine g_dgetV (k := "ranges") (v := .ref p2) hD2 rfl ?_
    walk_at "go"
    refine g_ixL (v := .ref p) (sl hv2) (at_of (j := 3) rfl rfl) ?_
    walk_at "go"
    refine u_allp (s02 _ _ hp2) (hP2.same s02) (s02 _ _ hp) (hP.same s02) hl ?_
    walk_at "go"
    refine g_for ?_
    walk_at "go"
    refine ⟨by show 4 ≤ sizeLine; decide, fun l4 nl4 => ?_⟩
    walk_at "nw"
    rename_i H4 s4 k4
    replace k4 : H4 l4 = some (.lst (([0, 1, 5, 6] : List Int).map V.int)) := k4
    have s04 := s02.trans s4
    refine ⟨l4, rfl, ⟨_, sl k4⟩, ?_⟩
    refine for_list (xs := ([0, 1, 5, 6] : List Int).map V.int) (fun i σ H' => H' = H4 ∧ ∃ v3, σ = [some (.ref D), some (.ref v), some (.ref n1), v3]) ⟨rfl, none, rfl⟩ (fun i σ H' _ ⟨e, _⟩ => by rw [e]; exact sl k4) ?turn ?done
    case done =>
      rintro σ H' ⟨rfl, v3, rfl⟩
      walk_at "go"
      refine g_dgetV (k := "stamp") (v := sv2) (s4 _ _ hD2) rfl ?_
      walk_at "go"
      refine g_ixL (v := sv) (sl (s4 _ _ hv2)) (at_of (j := 4) rfl rfl) ?_
      walk_at "go"
      refine u_pair (hsv2.same s04) (hsv.same s04) ?_
      exact q _ s04
    case turn =>
      rintro i x σ H' hx ⟨rfl, v3, rfl⟩
      obtain ⟨z, hz, rfl⟩ := map_get hx
      have kn1 := s4 _ _ k12
      have kv1 := s4 _ _ hv2
      have kd1 := s4 _ _ hD2
      have key : ∃ (nm : Str) (oz : Option Int), atI (nms7.map V.str) z = some (.str nm) ∧ valV (opKv o (.ref p2) sv2) (.inr nm) = some (oV oz) ∧ atI (expL o p sv) z = some (oV oz) := by
        match i, hz with
        | 0, hz => cases hz; exact ⟨"mss", o.mss, rfl, rfl, rfl⟩
        | 1, hz => cases hz; exact ⟨"scale", o.scale, rfl, rfl, rfl⟩
        | 2, hz => cases hz; exact ⟨"count", o.count, rfl, rfl, rfl⟩
        | 3, hz => cases hz; exact ⟨"echo", o.echo, rfl, rfl, rfl⟩
      obtain ⟨nm, oz, e1, e2, e3⟩ := key
      walk_at "go"
      refine g_ixL (sl kn1) e1 ?_
      refine g_dgetV kd1 e2 ?_
      walk_at "go"
      refine g_ixL (sl kv1) e3 ?_
      walk_at "go"
      refine u_number ?_
      walk_at "go"
      exact ⟨rfl, _, rfl⟩
end
end My
namespace My
open PySem PySem.Spec L2
local macro_rules | `(tactic| walk_at "side") => `(tactic| first | assumption | decide | omega | exact ⟨by decide, by decide⟩ | exact ⟨by decide, by decide, by decide⟩ | decide +kernel | exact cdivW (by decide +kernel) (by decide +kernel) | exact Or.inl ⟨by omega, by omega⟩ | exact Or.inr ⟨by omega, by omega⟩ | (simp only [List.length_map, List.length_cons, List.length_nil, List.length_append]; omega))
local macro_rules | `(tactic| walk_at "fact") => `(tactic| first | assumption | omega | with_reducible rfl)
local macro_rules | `(tactic| walk_at "use") => `(tactic| fail "use")
local macro_rules | `(tactic| walk_at "go1") => `(tactic| with_reducible first | refine g_seq ?_ | refine g_asg ?_ | refine g_ret ?_ | refine g_ifS ?_ | refine g_drop ?_ | refine g_star ?_ | refine g_nx ?_ | refine g_rt ?_ | refine g_bkE ?_ | refine g_ctE ?_ | refine g_next ?_ | refine g_retN ?_ | refine g_brk ?_ | refine g_ct ?_ | refine g_c ?_ | refine g_op ?_ | refine g_un ?_ | refine g_rI0 ?_ | refine g_rU ?_ | refine g_rEqI ?_ | refine g_rNeI ?_ | refine g_isN ?_ | refine g_rIsB ?_ | refine g_rNotB ?_ | refine g_test ?_ | refine g_B ?_ | refine g_bl ?_ | refine g_and ?_ | refine g_or ?_ | refine g_not ?_ | refine g_andV ?_ | refine g_orV ?_ | refine g_notV ?_ | refine g_if ?_ | refine g_chain ?_ | refine g_yes ?_ | refine g_lc ?_ | refine g_revR ?_ | refine g_rng1 ?_ | refine g_iList ?_ | refine g_nil ?_ | refine g_cons ?_ | refine g_tup ?_ | refine g_lst ?_ | refine g_call ?_ | refine g_CB ?_ | refine g_sl ?_ | refine g_noPart ?_ | refine g_part ?_ | refine g_intE ?_ | refine g_ref ?_ | refine g_fld ?_ | refine g_sfld ?_ | refine g_meth ?_ | refine g_make ?_ | refine g_prop ?_  | refine g_ipI ?_ | refine g_int1 ?_ | refine g_int1B ?_ | refine g_one ?_ | refine g_two ?_ | refine g_isiI ?_ | refine g_isiIB ?_ | refine g_isiB ?_ | refine g_BM ?_ | refine g_BM0 ?_ | refine g_sub ?_)
local macro_rules | `(tactic| walk_at "go") => `(tactic| repeat (first | walk_at "go1" | ((with_reducible refine' g_nameE ?sd_ ?_); case sd_ => dsimp only [List.set_cons_succ, List.set_cons_zero]) | ((with_reducible refine' g_var ?sd_ ?_); case sd_ => exact rfl) | ((with_reducible refine' g_aug ?sd_ ?_); case sd_ => exact rfl) | ((with_reducible refine' g_rI ?sd_ ?_); case sd_ => walk_at "side") | ((with_reducible refine' g_dT ?sd_ ?_); case sd_ => walk_at "fact") | ((with_reducible refine' g_dF ?sd_ ?_); case sd_ => walk_at "fact") | ((with_reducible refine' g_nT ?sd_ ?_); case sd_ => walk_at "fact") | ((with_reducible refine' g_nF ?sd_ ?_); case sd_ => walk_at "fact") | (with_reducible refine g_iT rfl ?_) | (with_reducible refine g_iF rfl ?_) | walk_at "use"))
local macro_rules | `(tactic| walk_at "nw") => `(tactic| (generalize zq : upd _ _ _ = Hq; have sq : Same _ Hq := (by rw [← zq]; exact same_upd (by assumption)); have kq := (congrFun zq _).symm.trans upd_same; clear zq))
local macro_rules | `(tactic| walk_at "bt") => `(tactic| (generalize zq : upd _ _ _ = Hq; have bq : But _ _ Hq := (by rw [← zq]; exact But.refl.upd); have kq := (congrFun zq _).symm.trans upd_same; clear zq))

section
variable {P : Program} {w : World} {K : PySem.W.Frag} {mg : Str → Option Value} {base : Heap}
local macro_rules | `(tactic| walk_at "use") => `(tactic| with_reducible first | refine g_rs0 ?_ | refine g_rs1 ?_ | refine g_tryA ?_ | refine g_tryO ?_ | refine g_callS ?_ | refine g_joined ?_ | refine g_jsnil ?_ | refine g_jscons ?_ | refine g_fmt ?_)
local macro_rules | `(tactic| walk_at "fit") => `(tactic| (refine fit2 ?_; (try simp only [PySem.Str.length_append]); omega))
local macro_rules | `(tactic| walk_at "use") => `(tactic| first | ((with_reducible refine' g_addS ?sd_ ?_); case sd_ => (first | omega | (simp only [PySem.Str.length_append]; omega))) | ((with_reducible refine' g_slS ?sd_ ?_); case sd_ => omega) | (with_reducible refine g_m0 ?_))

local macro_rules | `(tactic| walk_at "use") => `(tactic| with_reducible first | refine g_dgetI ?_ | refine g_dputI ?_ | refine g_dget1I ?_ | refine g_dget2I ?_ | refine g_dinI ?_ | refine g_dnotinI ?_ | refine g_dnewK ?_)

local macro_rules | `(tactic| walk_at "use") => `(tactic| with_reducible refine u_cell (by assumption) (by omega) ?_)
def sp_law (K : PySem.W.Frag) : Sp := fun vs H Q _ => ∃ (a : Addr) (ns : List Int), vs = [.ref a] ∧ SqL K H a (ns.map V.int) ∧ ns.length ≤ 63 ∧ ∀ H', Q (.bl true) H'

theorem putK_new {kvs : List (Key × V)} {k : Key} {v : V} (h : valV kvs k = none) : putK kvs k v = kvs ++ [(k, v)] := by
  unfold putK
  have e : (kvs.any fun kv => decide (kv.1 = k)) = false := by rw [valV_any, h]; rfl
  rw [e, if_neg (by decide)]
theorem BsK.new {H : Hp} {kvs : List (Key × V)} {bs : List (Int × List Int)} {k : Int} (h : BsK H kvs bs) (n : ∀ p ∈ bs, p.1 ≠ k) : valV kvs (.inl k) = none := by
  unfold valV
  cases e : kvs.find? fun kv => decide (kv.1 = .inl k) with
  | none => rfl
  | some kv =>
    have hk : kv.1 = .inl k := of_decide_eq_true (List.find?_some (p := fun kv : Key × V => decide (kv.1 = .inl k)) e)
    obtain ⟨i, hi⟩ := List.mem_iff_getElem?.mp (List.mem_of_find?_eq_some e)
    have hl : i < bs.length := by
      obtain ⟨z, _⟩ := List.getElem?_eq_some_iff.mp hi
      have := h.1
      omega
    obtain ⟨l, h1, h2⟩ := h.2 i bs[i].1 bs[i].2 (List.getElem?_eq_getElem hl)
    rw [hi] at h1
    have e1 := Option.some.inj h1
    subst e1
    exact absurd (Sum.inl.inj hk) (n _ (List.getElem_mem hl))
theorem BsK.snoc {H : Hp} {kvs : List (Key × V)} {bs : List (Int × List Int)} {k : Int} {b : List Int} {l : Addr} (h : BsK H kvs bs) (e : H l = some (.lst (b.map V.int))) : BsK H (kvs ++ [(.inl k, .ref l)]) (bs ++ [(k, b)]) := ⟨by rw [List.length_append, List.length_append, h.1]; rfl, fun i k' b' hi => by
  by_cases c : i < bs.length
  · rw [List.getElem?_append_left c] at hi
    obtain ⟨l', h1, h2⟩ := h.2 i k' b' hi
    exact ⟨l', by rw [List.getElem?_append_left (by rw [h.1]; exact c)]; exact h1, h2⟩
  · rw [List.getElem?_append_right (by omega)] at hi
    have ei : i - bs.length = 0 := by
      obtain ⟨z, _⟩ := List.getElem?_eq_some_iff.mp hi
      exact Nat.lt_one_iff.mp z
    rw [ei] at hi
    cases hi
    exact ⟨l, by rw [List.getElem?_append_right (by rw [h.1]; omega), h.1, ei]; rfl, e⟩⟩
theorem BsOk.snoc {bs : List (Int × List Int)} {k : Int} {b : List Int} (h : BsOk bs) (h1 : knownO k b = true) (h2 : okLen k b.length = true) (n : ∀ p ∈ bs, p.1 ≠ k) : BsOk (bs ++ [(k, b)]) := by
  refine ⟨fun p hp => ?_, ?_⟩
  · rcases List.mem_append.mp hp with hp | hp
    · exact h.1 p hp
    · rw [List.mem_singleton.mp hp]; exact ⟨h1, h2⟩
  · rw [List.map_append, List.nodup_append]
    refine ⟨h.2, List.nodup_cons.mpr ⟨(fun z => by cases z), List.nodup_nil⟩, ?_⟩
    intro x hx y hy e
    obtain ⟨p, hp, rfl⟩ := List.mem_map.mp hx
    rw [List.mem_singleton.mp hy] at e
    exact n p hp e
def kds6 : List Int := [2, 3, 4, 5, 8, 253]
theorem kds_facts : ∀ i, i < 6 → ∃ k, kds6[i]? = some k ∧ (lensOf k).isSome = true ∧ ∀ j, j < i → kds6[j]? ≠ some k := by decide
theorem ok_law (T : Txt P K mg) : FnOk P w K mg base CX0 7 T.f_law T.d_law ["script"] (sp_law K) := by
  refine T.F_law.ok sc_law (fun vs H Q E h => ?_) (fun cdv A outer s H vs Q E hr h => ?_)
  · obtain ⟨a, ns, rfl, hS, hlen, q⟩ := h
    rfl
  · obtain ⟨a, ns, rfl, hS, hlen, q⟩ := h
    have hu := hu_of hr
    refine ⟨_, (pss_cons (ps_set (i := 1) sc_law.nd rfl (Or.inl rfl) pe_dnewK)
        (pss_cons (ps_for PassesOwn.never rfl (pi_range1 (by rfl) T.n_range (pa_cons pe_int pa_nil)) (pg_name (i := 2) sc_law.nd rfl (Or.inl rfl)) (pss_cons (ps_set (i := 3) sc_law.nd rfl (Or.inl rfl) (pe_ix ix_list (pe_lst (pa_cons pe_int (pa_cons pe_int (pa_cons pe_int (pa_cons pe_int (pa_cons pe_int (pa_cons pe_int pa_nil))))))) (pv 2) (fun _ _ => rfl)))
        (pss_cons (ps_set (i := 4) sc_law.nd rfl (Or.inl rfl) (pe_call (ok_l_cell T) (hr.mono (by decide)) rfl T.m_l_cell T.F_l_cell.kp T.b_l_cell .nil pass0 (pa_cons (pv 0) (pa_cons (pe_op op_add pe_int (pv 2)) pa_nil))))
        (pss_one (ps_if (pt_cmpR op_eq (pe_op op_mod (pe_op op_fdivW (pe_callTy call_int1 (by rfl) T.n_int (by decide +kernel) (pa_cons (pe_call (ok_l_cell T) (hr.mono (by decide)) rfl T.m_l_cell T.F_l_cell.kp T.b_l_cell .nil pass0 (pa_cons (pv 0) (pa_cons pe_int pa_nil))) pa_nil)) (pe_ix ix_list (pe_lst (pa_cons pe_int (pa_cons pe_int (pa_cons pe_int (pa_cons pe_int (pa_cons pe_int (pa_cons pe_int pa_nil))))))) (pv 2) (fun _ _ => rfl))) pe_int) pe_int (nomark _)) (pss_one (ps_dput hu (pv 1) (pv 3) (pe_call (ok_l_body T) (hr.mono (by decide)) rfl T.m_l_body T.F_l_body.kp T.b_l_body .nil pass0 (pa_cons (pv 3) (pa_cons (pv 4) pa_nil))) rfl)) pss_nil)))))
        (pss_cons (ps_set (i := 5) sc_law.nd rfl (Or.inl rfl) (pe_op op_mod (pe_callTy call_int1 (by rfl) T.n_int (by decide +kernel) (pa_cons (pe_call (ok_l_cell T) (hr.mono (by decide)) rfl T.m_l_cell T.F_l_cell.kp T.b_l_cell .nil pass0 (pa_cons (pv 0) (pa_cons pe_int pa_nil))) pa_nil)) pe_int))
        (pss_cons (ps_set (i := 6) sc_law.nd rfl (Or.inl rfl) (pe_call (ok_l_faulty T) (hr.mono (by decide)) rfl T.m_l_faulty T.F_l_faulty.kp T.b_l_faulty .nil pass0 (pa_cons (pe_call (ok_l_items T) (hr.mono (by decide)) rfl T.m_l_items T.F_l_items.kp T.b_l_items .nil pass0 (pa_cons (pv 0) (pa_cons (pv 1) pa_nil))) (pa_cons (pv 1) (pa_cons (pv 5) (pa_cons (pe_callB call_abs (by rfl) T.n_abs (by decide +kernel) (pa_cons (pe_call (ok_l_cell T) (hr.mono (by decide)) rfl T.m_l_cell T.F_l_cell.kp T.b_l_cell .nil pass0 (pa_cons (pv 0) (pa_cons pe_int pa_nil))) pa_nil)) pa_nil))))))
        (pss_cons (ps_set (i := 7) sc_law.nd rfl (Or.inl rfl) (pe_lst pa_nil))
        (pss_cons (ps_for PassesOwn.never rfl (pi_list (pv 6)) (pg_name (i := 8) sc_law.nd rfl (Or.inl rfl)) (pss_one (ps_set (i := 7) sc_law.nd rfl (Or.inl rfl) (pe_op op_cat (pv 7) (pv 8)))))
        (C8.pss_cut (ps_if (PW.pt (pw_or (pt_cmpR op_lt (pv 5) pe_int (nomark _)) (pw_or1 (pt_cmpR op_eq (pv 5) pe_int (nomark _))))) (pss_one (ps_set (i := 7) sc_law.nd rfl (Or.inl rfl) (pe_op op_cat (pv 7) (pe_op op_rep (pe_lst (pa_cons pe_int pa_nil)) (pe_op op_mul (pe_op op_mod (pe_callTy call_int1 (by rfl) T.n_int (by decide +kernel) (pa_cons (pe_call (ok_l_cell T) (hr.mono (by decide)) rfl T.m_l_cell T.F_l_cell.kp T.b_l_cell .nil pass0 (pa_cons (pv 0) (pa_cons pe_int pa_nil))) pa_nil)) pe_int) (pe_op op_add pe_int (pe_op op_mod (pe_op op_fdiv (pe_callTy call_int1 (by rfl) T.n_int (by decide +kernel) (pa_cons (pe_call (ok_l_cell T) (hr.mono (by decide)) rfl T.m_l_cell T.F_l_cell.kp T.b_l_cell .nil pass0 (pa_cons (pv 0) (pa_cons pe_int pa_nil))) pa_nil)) pe_int) pe_int))))))) pss_nil)
        (pss_cons (ps_set (i := 9) sc_law.nd rfl (Or.inl rfl) (pe_callTy call_list_of (by rfl) T.n_list (by decide +kernel) (pa_cons (pv 7) pa_nil)))
        (pss_cons (ps_if (PW.pt (pw_and (pt_cmpR op_gt (pv 5) pe_int (nomark _)) (pw_and1 (pt_cmpR op_lt (pv 5) pe_int (nomark _))))) (pss_one (ps_ret (pe_and (pe_call (ok_l_raises T) (hr.mono (by decide)) rfl T.m_l_raises T.F_l_raises.kp T.b_l_raises .nil pass0 (pa_cons (pv 9) pa_nil)) (pe_one (pe_cmpR (op_eqD hr.units) (pv 9) (pv 7) (nomark _)))))) pss_nil)
        (pss_one (ps_ret (pe_and (pe_call (ok_l_right T) (hr.mono (by decide)) rfl T.m_l_right T.F_l_right.kp T.b_l_right .nil pass0 (pa_cons (pe_call (ok_read_options T) (hr.mono (by decide)) rfl T.m_read_options T.F_read_options.kp T.b_read_options .nil passL (pa_cons (pv 9) pa_nil)) (pa_cons (pe_call (ok_l_values T) (hr.mono (by decide)) rfl T.m_l_values T.F_l_values.kp T.b_l_values .nil pass0 (pa_cons (pv 1) pa_nil)) pa_nil))) (pe_one (pe_cmpR (op_eqD hr.units) (pv 9) (pv 7) (nomark _))))))))))))))), ?_⟩
    dsimp only [cxOf, Cx.nox, Cx.wish, L2.start, List.map, List.cons_append, List.nil_append, List.length_cons, List.length_nil, Nat.reduceAdd, Nat.reduceSub, Nat.zero_add, List.replicate_succ, List.replicate_zero]
    walk_at "go"
    intro d nd
    walk_at "nw"
    rename_i H1 s1 k1
    walk_at "go"
    refine for_r (n := 6) 6 rfl (by omega) (by omega) (fun i σ H' => ∃ (kvs : List (Key × V)) (bs : List (Int × List Int)) (v2 v3 v4 : Option V), σ = [some (.ref a), some (.ref d), v2, v3, v4, none, none, none, none, none] ∧ Same H H' ∧ H' d = some (.dK kvs) ∧ BsK H' kvs bs ∧ BsOk bs ∧ bs.length ≤ i ∧ ∀ p ∈ bs, ∃ j, j < i ∧ kds6[j]? = some p.1) ?start ?turn ?done ?ev
    case ev =>
      intro R r
      walk_at "go"
      exact r
    case start => exact ⟨[], [], none, none, none, rfl, s1, k1, ⟨rfl, fun i k b e => (by cases e)⟩, ⟨fun p hp => (by cases hp), List.nodup_nil⟩, Nat.le_refl _, fun p hp => (by cases hp)⟩
    case turn =>
      rintro i σ H' hi ⟨kvs, bs, v2, v3, v4, rfl, s, hd, hB, ok, hl, hkd⟩
      obtain ⟨k, ek, hk, hkn⟩ := kds_facts i hi
      have hS1 := s.seq hS
      have hki : ∀ p ∈ bs, p.1 ≠ k := fun p hp z => by
        obtain ⟨j, hj, e⟩ := hkd p hp
        rw [z] at e
        exact hkn j hj e
      walk_at "go"
      refine ⟨by show 6 ≤ sizeLine; decide, fun l1 n1 => ?_⟩
      walk_at "nw"
      rename_i H2 s2 k2
      walk_at "go"
      refine g_ixL (xs := kds6.map V.int) (v := .int k) (sl k2) (at_of (j := i) rfl (by rw [List.getElem?_map, ek]; rfl)) ?_
      have hS2 := s2.seq hS1
      walk_at "go"
      refine ⟨by show 6 ≤ sizeLine; decide, fun l3 n3 => ?_⟩
      walk_at "nw"
      rename_i H3 s3 k3
      walk_at "go"
      obtain ⟨z, ez, hz0, hz1⟩ : ∃ z : Int, atI [V.int 1, V.int 2, V.int 4, V.int 8, V.int 16, V.int 32] (i : Int) = some (.int z) ∧ 0 < z ∧ z ≤ 32 := by
        obtain rfl | rfl | rfl | rfl | rfl | rfl : i = 0 ∨ i = 1 ∨ i = 2 ∨ i = 3 ∨ i = 4 ∨ i = 5 := by omega
        · exact ⟨1, rfl, by decide, by decide⟩
        · exact ⟨2, rfl, by decide, by decide⟩
        · exact ⟨4, rfl, by decide, by decide⟩
        · exact ⟨8, rfl, by decide, by decide⟩
        · exact ⟨16, rfl, by decide, by decide⟩
        · exact ⟨32, rfl, by decide, by decide⟩
      refine g_ixL (sl k3) ez ?_
      refine g_rI (cdivW (by omega) (Int.lt_of_le_of_lt hz1 (by decide +kernel))) ?_
      have s23 := s2.trans s3
      walk_at "go"
      refine g_ite (fun c1 => ?_) (fun c1 => ?_)
      · walk_at "go"
        refine u_body hk fun p b H4 np s4 k4 kn ol => ?_
        have s24 := s23.trans s4
        walk_at "go"
        have hv := hB.new hki
        refine ⟨d, _, rfl, DPut.k (k := .inl k) (s24 _ _ hd) (szl (by have := hB.1; omega)), ?_⟩
        rw [putK_new hv]
        have npd : p ≠ d := fun w => by rw [w, s24 _ _ hd] at k4; cases k4
        refine ⟨_, bs ++ [(k, b)], _, _, _, rfl, But.tr2 (s.trans s24) nd But.refl.upd, upd_same, (((hB.same s24).snoc k4).butD But.refl.upd (s24 _ _ hd) fun xs w => nomatch w), ok.snoc kn ol hki, by rw [List.length_append]; show _ + 1 ≤ _; omega, fun q hq => ?_⟩
        rcases List.mem_append.mp hq with hq | hq
        · obtain ⟨j, hj, e⟩ := hkd q hq
          exact ⟨j, by omega, e⟩
        · rw [List.mem_singleton.mp hq]
          exact ⟨i, by omega, ek⟩
      · walk_at "go"
        refine ⟨kvs, bs, _, _, _, rfl, s.trans s23, s23 _ _ hd, hB.same s23, ok, by omega, fun q hq => ?_⟩
        obtain ⟨j, hj, e⟩ := hkd q hq
        exact ⟨j, by omega, e⟩
    case done =>
      rintro σ H' ⟨kvs, bs, v2, v3, v4, rfl, s, hd, hB, ok, hl, _⟩
      have hS1 := s.seq hS
      walk_at "go"
      have f0 : 0 ≤ cell ns 15 % 8 := Int.emod_nonneg _ (by decide)
      have f1 : cell ns 15 % 8 < 8 := Int.emod_lt_of_pos _ (by decide)
      generalize cell ns 15 % 8 = fa at f0 f1
      refine u_items hS1 hd hB ok hl fun l H2 is s2 hR hI hli => ?_
      have hS2 := s2.seq hS1
      walk_at "go"
      refine u_faulty hR (s2 _ _ hd) (hB.same s2) ok hl hI hli ⟨f0, f1⟩ fun l3 H3 rs s3 hR3 hrl hfl hF => ?_
      have s13 := s2.trans s3
      have hS3 := s13.seq hS1
      have hd3 := s13 _ _ hd
      have hB3 := hB.same s13
      walk_at "go"
      refine ⟨Nat.zero_le _, fun o0 no0 => ?_⟩
      walk_at "nw"
      rename_i H4 s4 k4
      walk_at "go"
      obtain ⟨vs, ev, hL⟩ := hR3.same s4
      have lv := hL.1
      refine for_l (xs := vs) (fun i σ H' => ∃ (o : Addr) (v8 : Option V), σ = [some (.ref a), some (.ref d), v2, v3, v4, some (.int fa), some (.ref l3), some (.ref o), v8, none] ∧ Same H4 H' ∧ H' o = some (.lst (((rs.take i).flatten).map V.int))) (sl ev) ⟨o0, none, rfl, fun _ _ z => z, by rw [List.take_zero]; exact k4⟩ (fun i σ H' _ ⟨_, _, _, s, _⟩ => sl (s _ _ ev)) ?turn2 ?done2 ?ev2
      case ev2 =>
        intro R r
        walk_at "go"
        exact r
      case turn2 =>
        rintro i x σ H5 hx ⟨o, v8, rfl, s5, k5⟩
        have hi : i < rs.length := by
          obtain ⟨z, _⟩ := List.getElem?_eq_some_iff.mp hx
          omega
        have er : rs[i]? = some rs[i] := List.getElem?_eq_getElem hi
        obtain ⟨ax, h1, h2⟩ := hL.2 i _ er
        rw [h1] at hx
        cases hx
        have efl : (rs.take (i + 1)).flatten = (rs.take i).flatten ++ rs[i] := by rw [List.take_add_one, er, List.flatten_append]; show _ ++ (rs[i] ++ []) = _; rw [List.append_nil]
        have lfl : ((rs.take i).flatten ++ rs[i]).length ≤ 900 := by
          rw [← efl]
          have : rs.flatten = (rs.take (i + 1)).flatten ++ (rs.drop (i + 1)).flatten := by rw [← List.flatten_append, List.take_append_drop]
          rw [this, List.length_append] at hfl
          omega
        walk_at "go"
        refine g_cat k5 (s5 _ _ h2) (by rw [List.length_map, List.length_map, ← List.length_append]; exact sz (by omega)) fun o2 no2 => ?_
        walk_at "nw"
        rename_i H6 s6 k6
        exact ⟨o2, _, rfl, s5.trans s6, by rw [k6, efl, List.map_append]⟩
      case done2 =>
        rintro σ H5 ⟨o, v8, rfl, s5, k5⟩
        rw [List.take_of_length_le (by omega)] at k5
        have s35 := s4.trans s5
        have hS5 := s35.seq hS3
        walk_at "go"
        refine g_cut (fun σ' H' => ∃ (o2 : Addr) (z : List Int), σ' = [some (.ref a), some (.ref d), v2, v3, v4, some (.int fa), some (.ref l3), some (.ref o2), v8, none] ∧ Same H5 H' ∧ H' o2 = some (.lst ((rs.flatten ++ z).map V.int)) ∧ (∀ y ∈ z, y = 0) ∧ z.length ≤ 4 ∧ ((4 ≤ fa ∧ fa ≤ 6) → z = [])) ?_ ?_
        · walk_at "go"
          by_cases c4 : fa < 4
          · refine g_dT c4 ?_
            walk_at "go"
            refine ⟨by show 1 ≤ sizeLine; decide, fun p6 n6 => ?_⟩
            walk_at "nw"
            rename_i H6 s6 k6
            have hS6 := s6.seq hS5
            walk_at "go"
            have d0 : 0 ≤ cell ns 17 % 2 := Int.emod_nonneg _ (by decide)
            have d1 : cell ns 17 % 2 < 2 := Int.emod_lt_of_pos _ (by decide)
            have e0 : 0 ≤ cell ns 17 / 2 % 4 := Int.emod_nonneg _ (by decide)
            have e1 : cell ns 17 / 2 % 4 < 4 := Int.emod_lt_of_pos _ (by decide)
            have pr : 0 ≤ cell ns 17 % 2 * (1 + cell ns 17 / 2 % 4) ∧ cell ns 17 % 2 * (1 + cell ns 17 / 2 % 4) ≤ 4 := by
              obtain h | h : cell ns 17 % 2 = 0 ∨ cell ns 17 % 2 = 1 := by omega
              · rw [h]; omega
              · rw [h]; omega
            generalize cell ns 17 % 2 * (1 + cell ns 17 / 2 % 4) = m at pr
            refine ⟨p6, _, _, rfl, rfl, k6, by omega, by omega, (by show 1 * m.toNat ≤ _; exact sz (by omega)), fun p8 n8 => ?_⟩
            rw [show (List.replicate m.toNat [V.int 0]).flatten = (List.replicate m.toNat (0 : Int)).map V.int by rw [List.map_replicate]; induction m.toNat with | zero => rfl | succ n ih => rw [List.replicate_succ, List.flatten_cons, ih, List.replicate_succ]; rfl]
            walk_at "nw"
            rename_i H8 s8 k8
            walk_at "go"
            refine g_cat (s8 _ _ (s6 _ _ k5)) k8 (by rw [List.length_map, List.length_map, List.length_replicate]; exact sz (by omega)) fun p9 n9 => ?_
            walk_at "nw"
            rename_i H9 s9 k9
            walk_at "go"
            exact ⟨p9, List.replicate m.toNat 0, rfl, (s6.trans s8).trans s9, by rw [k9, List.map_append], fun y hy => (List.mem_replicate.mp hy).2, by rw [List.length_replicate]; omega, fun h => by omega⟩
          · refine g_dF c4 ?_
            walk_at "go"
            by_cases c7 : fa = 7
            · refine g_dT c7 ?_
              walk_at "go"
              refine ⟨by show 1 ≤ sizeLine; decide, fun p6 n6 => ?_⟩
              walk_at "nw"
              rename_i H6 s6 k6
              have hS6 := s6.seq hS5
              walk_at "go"
              have d0 : 0 ≤ cell ns 17 % 2 := Int.emod_nonneg _ (by decide)
              have d1 : cell ns 17 % 2 < 2 := Int.emod_lt_of_pos _ (by decide)
              have e0 : 0 ≤ cell ns 17 / 2 % 4 := Int.emod_nonneg _ (by decide)
              have e1 : cell ns 17 / 2 % 4 < 4 := Int.emod_lt_of_pos _ (by decide)
              have pr : 0 ≤ cell ns 17 % 2 * (1 + cell ns 17 / 2 % 4) ∧ cell ns 17 % 2 * (1 + cell ns 17 / 2 % 4) ≤ 4 := by
                obtain h | h : cell ns 17 % 2 = 0 ∨ cell ns 17 % 2 = 1 := by omega
                · rw [h]; omega
                · rw [h]; omega
              generalize cell ns 17 % 2 * (1 + cell ns 17 / 2 % 4) = m at pr
              refine ⟨p6, _, _, rfl, rfl, k6, by omega, by omega, (by show 1 * m.toNat ≤ _; exact sz (by omega)), fun p8 n8 => ?_⟩
              rw [show (List.replicate m.toNat [V.int 0]).flatten = (List.replicate m.toNat (0 : Int)).map V.int by rw [List.map_replicate]; induction m.toNat with | zero => rfl | succ n ih => rw [List.replicate_succ, List.flatten_cons, ih, List.replicate_succ]; rfl]
              walk_at "nw"
              rename_i H8 s8 k8
              walk_at "go"
              refine g_cat (s8 _ _ (s6 _ _ k5)) k8 (by rw [List.length_map, List.length_map, List.length_replicate]; exact sz (by omega)) fun p9 n9 => ?_
              walk_at "nw"
              rename_i H9 s9 k9
              walk_at "go"
              exact ⟨p9, List.replicate m.toNat 0, rfl, (s6.trans s8).trans s9, by rw [k9, List.map_append], fun y hy => (List.mem_replicate.mp hy).2, by rw [List.length_replicate]; omega, fun h => by omega⟩
            · refine g_dF c7 ?_
              walk_at "go"
              exact ⟨o, [], rfl, fun _ _ z => z, by rw [List.append_nil]; exact k5, fun y hy => (by cases hy), Nat.zero_le _, fun _ => rfl⟩
        rintro σ' H6 ⟨o2, z, rfl, s6, k6, hz, hzl, hz0⟩
        have lz : (rs.flatten ++ z).length ≤ 1000 := by rw [List.length_append]; omega
        walk_at "go"
        refine ⟨o2, _, rfl, .inl (sl k6), fun g ng => ?_⟩
        walk_at "nw"
        rename_i H7 s7 k7
        have s37 := (s35.trans s6).trans s7
        walk_at "go"
        have ok2 := hI.1
        have hS7 : SqL K H7 g ((rs.flatten ++ z).map V.int) := sl k7
        have k67 := s7 _ _ k6
        by_cases cf : 0 < fa ∧ fa < 7
        · walk_at "go"
          have hRe : Refu (rs.flatten ++ z) := by
            by_cases c3 : fa ≤ 3
            · exact hF.2.1 ⟨by omega, c3⟩ z hz
            · rw [hz0 ⟨by omega, by omega⟩, List.append_nil]
              exact hF.2.2 ⟨by omega, by omega⟩
          refine u_raises hS7 lz hRe fun H8 s8 => ?_
          walk_at "go"
          refine g_eqL (s8.seq hS7) (sl (s8 _ _ k67)) ?_
          rw [decide_eq_true rfl]
          exact q _
        · have e07 : fa = 0 ∨ fa = 7 := by omega
          have ers := hF.1 e07
          obtain ⟨f, ef, F⟩ := rbs_perm ok hI.2.1
          have hx : Spl (rs.flatten ++ z) (some (opsI is)) := by
            have z1 := Spl.items hI.1 (Spl.zeros hz)
            rw [ers]
            show Spl (encs is ++ z) _
            have e : Option.map (fun x => opsI is ++ x) (some ([] : List (Int × List Int))) = some (opsI is) := by show some (opsI is ++ []) = _; rw [List.append_nil]
            rw [e] at z1
            exact z1
          have done7 : ∀ (E : XK), sp_read_options K T.C_DamagedSegment ([.ref g] ++ []) H7 (fun x H1 => tCons (tCall (sp_l_values K) [] E0 (tCons (tVar 1) tNil)) tNil [some (.ref a), some (.ref d), v2, v3, v4, some (.int fa), some (.ref l3), some (.ref o2), v8, some (.ref g)] H1 fun xs H2 => sp_l_right K (x :: xs ++ []) H2 (fun x H1 => ∃ c, x = V.bl c ∧ if c = true then tOp (rEqD K) (tVar 9) (tVar 7) [some (.ref a), some (.ref d), v2, v3, v4, some (.int fa), some (.ref l3), some (.ref o2), v8, some (.ref g)] H1 Q else Q (.bl false) H1) E0) E := by
            intro E
            refine ⟨g, _, some (opsI is), rfl, hS7, lz, hx, fun f' ef' H8 D nD s8 hO => ?_, fun e => ?_⟩
            · have e1 : f' = f := by
                replace ef' : rbs (opsI is) (fun _ => none) = some f' := ef'
                rw [ef] at ef'
                exact (Option.some.inj ef').symm
              subst e1
              have hd8 := s8 _ _ (s37 _ _ hd3)
              walk_at "go"
              refine u_values hd8 ((hB3.same s37).same s8) F ok fun v H9 p us sv nv s9 kv kp hP hsv => ?_
              walk_at "go"
              refine u_right (hO.same s9) kv kp hP hsv ?_ fun H10 s10 => ?_
              · show (prs8 ((f' 5).getD [])).length ≤ 1000
                unfold prs8
                rw [List.length_map, List.length_range]
                cases e5 : f' 5 with
                | none => exact Nat.zero_le _
                | some b5 =>
                  have := okLen_le (ok.1 _ ((F 5 b5).mp e5)).2
                  show b5.length / 8 ≤ 1000
                  dsimp only at this
                  omega
              · walk_at "go"
                have s710 := (s8.trans s9).trans s10
                refine g_eqL (s710.seq hS7) (sl (s710 _ _ k67)) ?_
                rw [decide_eq_true rfl]
                exact q _
            · replace e : rbs (opsI is) (fun _ => none) = none := e
              rw [ef] at e
              cases e
          rcases e07 with rfl | rfl
          · walk_at "go"
            exact done7 _
          · walk_at "go"
            exact done7 _
end
end My
namespace My
open PySem PySem.Spec L2
local macro_rules | `(tactic| walk_at "side") => `(tactic| first | assumption | decide | omega | exact ⟨by decide, by decide⟩ | exact ⟨by decide, by decide, by decide⟩ | decide +kernel | exact cdivW (by decide +kernel) (by decide +kernel) | exact Or.inl ⟨by omega, by omega⟩ | exact Or.inr ⟨by omega, by omega⟩ | (simp only [List.length_map, List.length_cons, List.length_nil, List.length_append]; omega))
local macro_rules | `(tactic| walk_at "fact") => `(tactic| first | assumption | omega | with_reducible rfl)
local macro_rules | `(tactic| walk_at "use") => `(tactic| fail "use")
local macro_rules | `(tactic| walk_at "go1") => `(tactic| with_reducible first | refine g_seq ?_ | refine g_asg ?_ | refine g_ret ?_ | refine g_ifS ?_ | refine g_drop ?_ | refine g_star ?_ | refine g_nx ?_ | refine g_rt ?_ | refine g_bkE ?_ | refine g_ctE ?_ | refine g_next ?_ | refine g_retN ?_ | refine g_brk ?_ | refine g_ct ?_ | refine g_c ?_ | refine g_op ?_ | refine g_un ?_ | refine g_rI0 ?_ | refine g_rU ?_ | refine g_rEqI ?_ | refine g_rNeI ?_ | refine g_isN ?_ | refine g_rIsB ?_ | refine g_rNotB ?_ | refine g_test ?_ | refine g_B ?_ | refine g_bl ?_ | refine g_and ?_ | refine g_or ?_ | refine g_not ?_ | refine g_andV ?_ | refine g_orV ?_ | refine g_notV ?_ | refine g_if ?_ | refine g_chain ?_ | refine g_yes ?_ | refine g_lc ?_ | refine g_revR ?_ | refine g_rng1 ?_ | refine g_iList ?_ | refine g_nil ?_ | refine g_cons ?_ | refine g_tup ?_ | refine g_lst ?_ | refine g_call ?_ | refine g_CB ?_ | refine g_sl ?_ | refine g_noPart ?_ | refine g_part ?_ | refine g_intE ?_ | refine g_ref ?_ | refine g_fld ?_ | refine g_sfld ?_ | refine g_meth ?_ | refine g_make ?_ | refine g_prop ?_  | refine g_ipI ?_ | refine g_int1 ?_ | refine g_int1B ?_ | refine g_one ?_ | refine g_two ?_ | refine g_isiI ?_ | refine g_isiIB ?_ | refine g_isiB ?_ | refine g_BM ?_ | refine g_BM0 ?_ | refine g_sub ?_)
local macro_rules | `(tactic| walk_at "go") => `(tactic| repeat (first | walk_at "go1" | ((with_reducible refine' g_nameE ?sd_ ?_); case sd_ => dsimp only [List.set_cons_succ, List.set_cons_zero]) | ((with_reducible refine' g_var ?sd_ ?_); case sd_ => exact rfl) | ((with_reducible refine' g_aug ?sd_ ?_); case sd_ => exact rfl) | ((with_reducible refine' g_rI ?sd_ ?_); case sd_ => walk_at "side") | ((with_reducible refine' g_dT ?sd_ ?_); case sd_ => walk_at "fact") | ((with_reducible refine' g_dF ?sd_ ?_); case sd_ => walk_at "fact") | ((with_reducible refine' g_nT ?sd_ ?_); case sd_ => walk_at "fact") | ((with_reducible refine' g_nF ?sd_ ?_); case sd_ => walk_at "fact") | (with_reducible refine g_iT rfl ?_) | (with_reducible refine g_iF rfl ?_) | walk_at "use"))
local macro_rules | `(tactic| walk_at "nw") => `(tactic| (generalize zq : upd _ _ _ = Hq; have sq : Same _ Hq := (by rw [← zq]; exact same_upd (by assumption)); have kq := (congrFun zq _).symm.trans upd_same; clear zq))
local macro_rules | `(tactic| walk_at "bt") => `(tactic| (generalize zq : upd _ _ _ = Hq; have bq : But _ _ Hq := (by rw [← zq]; exact But.refl.upd); have kq := (congrFun zq _).symm.trans upd_same; clear zq))
theorem all_mk {l : PySem.W.OpenLaw} {w : World} {K : PySem.W.Frag} {h : Heap} {mg : Str → Option Value} {fa : Addr} (X : K.In h) (G : h.Ns mainGlobals mg) (hfa : mg "law" = some (.ref fa))
    {t_END : Tok} {t_FILLER : Tok} {t_MSS : Tok} {t_SCALE : Tok} {t_RANGES_KNOWN : Tok} {t_RANGES : Tok} {t_STAMP : Tok} {t_COUNT : Tok} {tt_COUNT_MARK_0 : Tok} {tt_COUNT_MARK_1 : Tok} {t_COUNT_MARK : Addr} {to_COUNT_MARK : Option Addr} {tn_COUNT_MARK : Nat} {tl_COUNT_MARK : Array (Option Value)} {t_GREATEST_SCALE : Tok} {t_WRONG_OPTIONS : Tok} {t_BODY_LENGTHS : Addr} {dn_BODY_LENGTHS : Nat} {hk_BODY_LENGTHS_0 : Int} {tk_BODY_LENGTHS_0 : Tok} {t_BODY_LENGTHS_2 : Addr} {to_BODY_LENGTHS_2 : Option Addr} {tn_BODY_LENGTHS_2 : Nat} {tl_BODY_LENGTHS_2 : Array (Option Value)} {tq_BODY_LENGTHS_2_0 : Tok} {hk_BODY_LENGTHS_1 : Int} {tk_BODY_LENGTHS_1 : Tok} {t_BODY_LENGTHS_3 : Addr} {to_BODY_LENGTHS_3 : Option Addr} {tn_BODY_LENGTHS_3 : Nat} {tl_BODY_LENGTHS_3 : Array (Option Value)} {tq_BODY_LENGTHS_3_0 : Tok} {hk_BODY_LENGTHS_2 : Int} {tk_BODY_LENGTHS_2 : Tok} {t_BODY_LENGTHS_4 : Addr} {to_BODY_LENGTHS_4 : Option Addr} {tn_BODY_LENGTHS_4 : Nat} {tl_BODY_LENGTHS_4 : Array (Option Value)} {tq_BODY_LENGTHS_4_0 : Tok} {hk_BODY_LENGTHS_3 : Int} {tk_BODY_LENGTHS_3 : Tok} {t_BODY_LENGTHS_5 : Addr} {to_BODY_LENGTHS_5 : Option Addr} {tn_BODY_LENGTHS_5 : Nat} {tl_BODY_LENGTHS_5 : Array (Option Value)} {tq_BODY_LENGTHS_5_0 : Tok} {tq_BODY_LENGTHS_5_1 : Tok} {tq_BODY_LENGTHS_5_2 : Tok} {tq_BODY_LENGTHS_5_3 : Tok} {hk_BODY_LENGTHS_4 : Int} {tk_BODY_LENGTHS_4 : Tok} {t_BODY_LENGTHS_8 : Addr} {to_BODY_LENGTHS_8 : Option Addr} {tn_BODY_LENGTHS_8 : Nat} {tl_BODY_LENGTHS_8 : Array (Option Value)} {tq_BODY_LENGTHS_8_0 : Tok} {hk_BODY_LENGTHS_5 : Int} {tk_BODY_LENGTHS_5 : Tok} {t_BODY_LENGTHS_253 : Addr} {to_BODY_LENGTHS_253 : Option Addr} {tn_BODY_LENGTHS_253 : Nat} {tl_BODY_LENGTHS_253 : Array (Option Value)} {tq_BODY_LENGTHS_253_0 : Tok} {tq_BODY_LENGTHS_253_1 : Tok} {C_ThroughlineError : Addr} {C_InvalidOctets : Addr} {C_DamagedSegment : Addr} {f_DamagedSegment_init__ cda_DamagedSegment_init__ cc_DamagedSegment_init__ : Addr} {od_DamagedSegment_init__ an_DamagedSegment_init__ c3_DamagedSegment_init__ c4_DamagedSegment_init__ : Option Addr} {sl_DamagedSegment_init__ c5_DamagedSegment_init__ c6_DamagedSegment_init__ : Array (Option Value)} {oc_DamagedSegment_init__ kV_DamagedSegment_init__ dc_DamagedSegment_init__ pm_DamagedSegment_init__ ct_DamagedSegment_init__ c1_DamagedSegment_init__ c2_DamagedSegment_init__ : Value} {vs_DamagedSegment_init__ : Array Value} {fl_DamagedSegment_init__ : Str} {tf_DamagedSegment_init__ : Tok} {cdd_DamagedSegment_init__ : ClassData} {xnm_DamagedSegment xq_DamagedSegment : Str} {xN_DamagedSegment : Addr} {xbs_DamagedSegment xbm_DamagedSegment xsub_DamagedSegment : List Value} {xsn_DamagedSegment : List Str} {xab_DamagedSegment : Bool} {xcol_DamagedSegment : Option Bool} {xdd_DamagedSegment : Option Addr} {k0_DamagedSegment k1_DamagedSegment k2_DamagedSegment k3_DamagedSegment k5_DamagedSegment : Option Value} {f_read_number : Addr} {od_read_number an_read_number : Option Addr} {sl_read_number : Array (Option Value)} {oc_read_number kV_read_number dc_read_number pm_read_number cd_read_number ct_read_number : Value} {f_read_options : Addr} {od_read_options an_read_options : Option Addr} {sl_read_options : Array (Option Value)} {oc_read_options kV_read_options dc_read_options pm_read_options cd_read_options ct_read_options : Value} {f_split : Addr} {od_split an_split : Option Addr} {sl_split : Array (Option Value)} {oc_split kV_split dc_split pm_split cd_split ct_split : Value} {f_option_size : Addr} {od_option_size an_option_size : Option Addr} {sl_option_size : Array (Option Value)} {oc_option_size kV_option_size dc_option_size pm_option_size cd_option_size ct_option_size : Value} {f_read_bodies : Addr} {od_read_bodies an_read_bodies : Option Addr} {sl_read_bodies : Array (Option Value)} {oc_read_bodies kV_read_bodies dc_read_bodies pm_read_bodies cd_read_bodies ct_read_bodies : Value} {f_is_known : Addr} {od_is_known an_is_known : Option Addr} {sl_is_known : Array (Option Value)} {oc_is_known kV_is_known dc_is_known pm_is_known cd_is_known ct_is_known : Value} {f_wire_numbers : Addr} {od_wire_numbers an_wire_numbers : Option Addr} {sl_wire_numbers : Array (Option Value)} {oc_wire_numbers kV_wire_numbers dc_wire_numbers pm_wire_numbers cd_wire_numbers ct_wire_numbers : Value} {f_l_is_integer : Addr} {od_l_is_integer an_l_is_integer : Option Addr} {sl_l_is_integer : Array (Option Value)} {oc_l_is_integer kV_l_is_integer dc_l_is_integer pm_l_is_integer cd_l_is_integer ct_l_is_integer : Value} {f_l_cell : Addr} {od_l_cell an_l_cell : Option Addr} {sl_l_cell : Array (Option Value)} {oc_l_cell kV_l_cell dc_l_cell pm_l_cell cd_l_cell ct_l_cell : Value} {f_l_row : Addr} {od_l_row an_l_row : Option Addr} {sl_l_row : Array (Option Value)} {oc_l_row kV_l_row dc_l_row pm_l_row cd_l_row ct_l_row : Value} {f_l_number : Addr} {od_l_number an_l_number : Option Addr} {sl_l_number : Array (Option Value)} {oc_l_number kV_l_number dc_l_number pm_l_number cd_l_number ct_l_number : Value} {f_l_pair : Addr} {od_l_pair an_l_pair : Option Addr} {sl_l_pair : Array (Option Value)} {oc_l_pair kV_l_pair dc_l_pair pm_l_pair cd_l_pair ct_l_pair : Value} {f_l_all_pairs : Addr} {od_l_all_pairs an_l_all_pairs : Option Addr} {sl_l_all_pairs : Array (Option Value)} {oc_l_all_pairs kV_l_all_pairs dc_l_all_pairs pm_l_all_pairs cd_l_all_pairs ct_l_all_pairs : Value} {f_l_value : Addr} {od_l_value an_l_value : Option Addr} {sl_l_value : Array (Option Value)} {oc_l_value kV_l_value dc_l_value pm_l_value cd_l_value ct_l_value : Value} {f_l_pair_of : Addr} {od_l_pair_of an_l_pair_of : Option Addr} {sl_l_pair_of : Array (Option Value)} {oc_l_pair_of kV_l_pair_of dc_l_pair_of pm_l_pair_of cd_l_pair_of ct_l_pair_of : Value} {f_l_body : Addr} {od_l_body an_l_body : Option Addr} {sl_l_body : Array (Option Value)} {oc_l_body kV_l_body dc_l_body pm_l_body cd_l_body ct_l_body : Value} {f_l_skipped : Addr} {od_l_skipped an_l_skipped : Option Addr} {sl_l_skipped : Array (Option Value)} {oc_l_skipped kV_l_skipped dc_l_skipped pm_l_skipped cd_l_skipped ct_l_skipped : Value} {f_l_values : Addr} {od_l_values an_l_values : Option Addr} {sl_l_values : Array (Option Value)} {oc_l_values kV_l_values dc_l_values pm_l_values cd_l_values ct_l_values : Value} {f_l_put : Addr} {od_l_put an_l_put : Option Addr} {sl_l_put : Array (Option Value)} {oc_l_put kV_l_put dc_l_put pm_l_put cd_l_put ct_l_put : Value} {f_l_items : Addr} {od_l_items an_l_items : Option Addr} {sl_l_items : Array (Option Value)} {oc_l_items kV_l_items dc_l_items pm_l_items cd_l_items ct_l_items : Value} {f_l_faulty : Addr} {od_l_faulty an_l_faulty : Option Addr} {sl_l_faulty : Array (Option Value)} {oc_l_faulty kV_l_faulty dc_l_faulty pm_l_faulty cd_l_faulty ct_l_faulty : Value} {f_l_raises : Addr} {od_l_raises an_l_raises : Option Addr} {sl_l_raises : Array (Option Value)} {oc_l_raises kV_l_raises dc_l_raises pm_l_raises cd_l_raises ct_l_raises : Value} {f_l_right : Addr} {od_l_right an_l_right : Option Addr} {sl_l_right : Array (Option Value)} {oc_l_right kV_l_right dc_l_right pm_l_right cd_l_right ct_l_right : Value} {f_law : Addr} {od_law an_law : Option Addr} {sl_law : Array (Option Value)} {oc_law kV_law dc_law pm_law cd_law ct_law : Value}
    (v_END : PySem.W.nsIn K mainGlobals "END" = some (some (.int 0 t_END)))
    (v_FILLER : PySem.W.nsIn K mainGlobals "FILLER" = some (some (.int 1 t_FILLER)))
    (v_MSS : PySem.W.nsIn K mainGlobals "MSS" = some (some (.int 2 t_MSS)))
    (v_SCALE : PySem.W.nsIn K mainGlobals "SCALE" = some (some (.int 3 t_SCALE)))
    (v_RANGES_KNOWN : PySem.W.nsIn K mainGlobals "RANGES_KNOWN" = some (some (.int 4 t_RANGES_KNOWN)))
    (v_RANGES : PySem.W.nsIn K mainGlobals "RANGES" = some (some (.int 5 t_RANGES)))
    (v_STAMP : PySem.W.nsIn K mainGlobals "STAMP" = some (some (.int 8 t_STAMP)))
    (v_COUNT : PySem.W.nsIn K mainGlobals "COUNT" = some (some (.int 253 t_COUNT)))
    (v_COUNT_MARK : PySem.W.nsIn K mainGlobals "COUNT_MARK" = some (some (.ref t_COUNT_MARK)))
    (tk_COUNT_MARK : K.lookup t_COUNT_MARK = some ⟨.type "tuple", to_COUNT_MARK, .seq #[.int 83 tt_COUNT_MARK_0, .int 85 tt_COUNT_MARK_1] tn_COUNT_MARK, tl_COUNT_MARK⟩)
    (v_GREATEST_SCALE : PySem.W.nsIn K mainGlobals "GREATEST_SCALE" = some (some (.int 14 t_GREATEST_SCALE)))
    (v_WRONG_OPTIONS : PySem.W.nsIn K mainGlobals "WRONG_OPTIONS" = some (some (.str (PySem.Str.ofString "wrong options") t_WRONG_OPTIONS)))
    (v_BODY_LENGTHS : PySem.W.nsIn K mainGlobals "BODY_LENGTHS" = some (some (.ref t_BODY_LENGTHS)))
    (dk_BODY_LENGTHS : K.lookup t_BODY_LENGTHS = some ⟨.type "dict", none, .dict #[⟨hk_BODY_LENGTHS_0, .int 2 tk_BODY_LENGTHS_0, .ref t_BODY_LENGTHS_2⟩, ⟨hk_BODY_LENGTHS_1, .int 3 tk_BODY_LENGTHS_1, .ref t_BODY_LENGTHS_3⟩, ⟨hk_BODY_LENGTHS_2, .int 4 tk_BODY_LENGTHS_2, .ref t_BODY_LENGTHS_4⟩, ⟨hk_BODY_LENGTHS_3, .int 5 tk_BODY_LENGTHS_3, .ref t_BODY_LENGTHS_5⟩, ⟨hk_BODY_LENGTHS_4, .int 8 tk_BODY_LENGTHS_4, .ref t_BODY_LENGTHS_8⟩, ⟨hk_BODY_LENGTHS_5, .int 253 tk_BODY_LENGTHS_5, .ref t_BODY_LENGTHS_253⟩] dn_BODY_LENGTHS, #[]⟩)
    (tv_BODY_LENGTHS_2 : K.lookup t_BODY_LENGTHS_2 = some ⟨.type "tuple", to_BODY_LENGTHS_2, .seq #[.int 2 tq_BODY_LENGTHS_2_0] tn_BODY_LENGTHS_2, tl_BODY_LENGTHS_2⟩)
    (tv_BODY_LENGTHS_3 : K.lookup t_BODY_LENGTHS_3 = some ⟨.type "tuple", to_BODY_LENGTHS_3, .seq #[.int 1 tq_BODY_LENGTHS_3_0] tn_BODY_LENGTHS_3, tl_BODY_LENGTHS_3⟩)
    (tv_BODY_LENGTHS_4 : K.lookup t_BODY_LENGTHS_4 = some ⟨.type "tuple", to_BODY_LENGTHS_4, .seq #[.int 0 tq_BODY_LENGTHS_4_0] tn_BODY_LENGTHS_4, tl_BODY_LENGTHS_4⟩)
    (tv_BODY_LENGTHS_5 : K.lookup t_BODY_LENGTHS_5 = some ⟨.type "tuple", to_BODY_LENGTHS_5, .seq #[.int 8 tq_BODY_LENGTHS_5_0, .int 16 tq_BODY_LENGTHS_5_1, .int 24 tq_BODY_LENGTHS_5_2, .int 32 tq_BODY_LENGTHS_5_3] tn_BODY_LENGTHS_5, tl_BODY_LENGTHS_5⟩)
    (tv_BODY_LENGTHS_8 : K.lookup t_BODY_LENGTHS_8 = some ⟨.type "tuple", to_BODY_LENGTHS_8, .seq #[.int 8 tq_BODY_LENGTHS_8_0] tn_BODY_LENGTHS_8, tl_BODY_LENGTHS_8⟩)
    (tv_BODY_LENGTHS_253 : K.lookup t_BODY_LENGTHS_253 = some ⟨.type "tuple", to_BODY_LENGTHS_253, .seq #[.int 6 tq_BODY_LENGTHS_253_0, .int 10 tq_BODY_LENGTHS_253_1] tn_BODY_LENGTHS_253, tl_BODY_LENGTHS_253⟩)
    (hh_BODY_LENGTHS_0 : hk_BODY_LENGTHS_0 = hashInt 2)
    (hh_BODY_LENGTHS_1 : hk_BODY_LENGTHS_1 = hashInt 3)
    (hh_BODY_LENGTHS_2 : hk_BODY_LENGTHS_2 = hashInt 4)
    (hh_BODY_LENGTHS_3 : hk_BODY_LENGTHS_3 = hashInt 5)
    (hh_BODY_LENGTHS_4 : hk_BODY_LENGTHS_4 = hashInt 8)
    (hh_BODY_LENGTHS_5 : hk_BODY_LENGTHS_5 = hashInt 253)
    (low_BODY_LENGTHS : (t_BODY_LENGTHS == PySem.sysModules) = false)
    (c_ThroughlineError : PySem.W.nsIn K mainGlobals "ThroughlineError" = some (some (.ref C_ThroughlineError)))
    (be_ThroughlineError : PySem.W.subIn K (.ref C_ThroughlineError) (.type "BaseException") = some true)
    (te_ThroughlineError : PySem.W.typeIn K (.ref C_ThroughlineError) = some (.type "type"))
    (hd_ThroughlineError : PySem.W.hasDictIn K C_ThroughlineError = true)
    (ic_ThroughlineError : PySem.W.isClsIn K C_ThroughlineError = true)
    (c_InvalidOctets : PySem.W.nsIn K mainGlobals "InvalidOctets" = some (some (.ref C_InvalidOctets)))
    (be_InvalidOctets : PySem.W.subIn K (.ref C_InvalidOctets) (.type "BaseException") = some true)
    (te_InvalidOctets : PySem.W.typeIn K (.ref C_InvalidOctets) = some (.type "type"))
    (hd_InvalidOctets : PySem.W.hasDictIn K C_InvalidOctets = true)
    (ic_InvalidOctets : PySem.W.isClsIn K C_InvalidOctets = true)
    (c_DamagedSegment : PySem.W.nsIn K mainGlobals "DamagedSegment" = some (some (.ref C_DamagedSegment)))
    (be_DamagedSegment : PySem.W.subIn K (.ref C_DamagedSegment) (.type "BaseException") = some true)
    (te_DamagedSegment : PySem.W.typeIn K (.ref C_DamagedSegment) = some (.type "type"))
    (hd_DamagedSegment : PySem.W.hasDictIn K C_DamagedSegment = true)
    (ic_DamagedSegment : PySem.W.isClsIn K C_DamagedSegment = true)
    (yg_DamagedSegment : PySem.W.findIn K (.ref C_DamagedSegment) "__getattribute__" = some (some (.builtin "BaseException.__getattribute__")))
    (yk_DamagedSegment : PySem.W.findIn K (.ref C_DamagedSegment) "__getattr__" = some none)
    (n_DamagedSegment_reason : PySem.W.findIn K (.ref C_DamagedSegment) "reason" = some none)
    (xg_DamagedSegment : PySem.W.findIn K (.ref C_DamagedSegment) "__getattribute__" = some (some (.builtin "BaseException.__getattribute__")))
    (xk_DamagedSegment : PySem.W.findIn K (.ref C_DamagedSegment) "__getattr__" = some none)
    (xa_DamagedSegment : PySem.W.findIn K (.ref C_DamagedSegment) "__class__" = some (some (.builtin "object.__class__")))
    (xm_DamagedSegment : PySem.W.mroIn K C_DamagedSegment (.type "object") = some true)
    (hn_all : PySem.W.specialIn K (.builtin "object.__class__") "__get__" = some (some (.builtin "getset_descriptor.__get__")))
    (ht_all : PySem.W.takesIn K (.builtin "object.__class__") = some true)
    (su_DamagedSegment_ThroughlineError : PySem.W.subIn K (.ref C_DamagedSegment) (.ref C_ThroughlineError) = some true)
    (su_DamagedSegment_InvalidOctets : PySem.W.subIn K (.ref C_DamagedSegment) (.ref C_InvalidOctets) = some false)
    (su_DamagedSegment_DamagedSegment : PySem.W.subIn K (.ref C_DamagedSegment) (.ref C_DamagedSegment) = some true)
    (su_DamagedSegment_ValueError : PySem.W.subIn K (.ref C_DamagedSegment) (.type "ValueError") = some true)
    (sr_DamagedSegment : PySem.W.subIn K (.ref C_DamagedSegment) (.ref C_DamagedSegment) = some true)
    (a_DamagedSegment_init__ : PySem.W.findIn K (.ref C_DamagedSegment) "__init__" = some (some (.ref f_DamagedSegment_init__)))
    (ly_DamagedSegment_init__ : PySem.W.typeIn K (.ref f_DamagedSegment_init__) = some (.type "function"))
    (l_DamagedSegment_init__ : K.lookup f_DamagedSegment_init__ = some ⟨oc_DamagedSegment_init__, od_DamagedSegment_init__, .func (PySem.W.fnX "__init__" "DamagedSegment.__init__" (defArgs s_DamagedSegment_init__) (defBody s_DamagedSegment_init__) (defScope s_DamagedSegment_init__) [("__class__", cc_DamagedSegment_init__)] .none kV_DamagedSegment_init__ dc_DamagedSegment_init__ pm_DamagedSegment_init__ an_DamagedSegment_init__ (.ref cda_DamagedSegment_init__) ct_DamagedSegment_init__), sl_DamagedSegment_init__⟩)
    (cc0_DamagedSegment_init__ : PySem.W.codeIn K (.ref cda_DamagedSegment_init__) "DamagedSegment.__init__" = true)
    (kk_DamagedSegment_init__ : PySem.W.keepIn K (.ref f_DamagedSegment_init__) = true)
    (la_DamagedSegment_init__ : K.lookup cda_DamagedSegment_init__ = some ⟨c1_DamagedSegment_init__, c3_DamagedSegment_init__, .fields vs_DamagedSegment_init__, c5_DamagedSegment_init__⟩)
    (lv_DamagedSegment_init__ : vs_DamagedSegment_init__[2]? = some (.str fl_DamagedSegment_init__ tf_DamagedSegment_init__))
    (lf_DamagedSegment_init__ : ((l.prog.main.file : Str) == fl_DamagedSegment_init__) = true)
    (le_DamagedSegment_init__ : K.lookup cc_DamagedSegment_init__ = some ⟨c2_DamagedSegment_init__, c4_DamagedSegment_init__, .cell (some (.ref C_DamagedSegment)), c6_DamagedSegment_init__⟩)
    (ld_DamagedSegment_init__ : PySem.W.clsIn K C_DamagedSegment = some cdd_DamagedSegment_init__)
    (ls_DamagedSegment_init__ : PySem.W.mroIn K C_DamagedSegment (.ref C_DamagedSegment) = some true)
    (lt_DamagedSegment_init__ : (l.prog.main.scope.names.lookup ("super" : Str)).isSome = false)
    (lu_DamagedSegment_init__ : PySem.W.ks_superIn K C_DamagedSegment C_DamagedSegment "__init__" = some (some (.builtin "ValueError.__init__")))
    (ve_DamagedSegment_init__ : PySem.W.subIn K (.ref C_DamagedSegment) (.type "ValueError") = some true)
    (lo_DamagedSegment_init__ : PySem.W.nsIn K cStatics "thirdparty.any" = some none)
    (ox_DamagedSegment_init__ : K.lookup C_DamagedSegment = some (excClassObj xnm_DamagedSegment xq_DamagedSegment C_DamagedSegment xN_DamagedSegment xbs_DamagedSegment xbm_DamagedSegment true xsn_DamagedSegment xsub_DamagedSegment xab_DamagedSegment xcol_DamagedSegment xdd_DamagedSegment k0_DamagedSegment k1_DamagedSegment k2_DamagedSegment k3_DamagedSegment k5_DamagedSegment "ValueError.__new__"))
    (ov_DamagedSegment_init__ : PySem.HandSPX.refsVE xbm_DamagedSegment = true)
    (sa_DamagedSegment_init__ : PySem.W.findIn K (.ref C_DamagedSegment) "__setattr__" = some (some (.builtin "object.__setattr__")))
    (kc_DamagedSegment_init__ : PySem.W.keepIn K (.ref C_DamagedSegment) = true)
    (a_read_number : PySem.W.nsIn K mainGlobals "read_number" = some (some (.ref f_read_number)))
    (l_read_number : K.lookup f_read_number = some ⟨oc_read_number, od_read_number, .func (PySem.W.fnOf "read_number" "read_number" (defArgs s_read_number) (defBody s_read_number) (defScope s_read_number) .none kV_read_number dc_read_number pm_read_number an_read_number cd_read_number ct_read_number), sl_read_number⟩)
    (cc_read_number : PySem.W.codeIn K cd_read_number "read_number" = true)
    (kk_read_number : PySem.W.keepIn K (.ref f_read_number) = true)
    (a_read_options : PySem.W.nsIn K mainGlobals "read_options" = some (some (.ref f_read_options)))
    (l_read_options : K.lookup f_read_options = some ⟨oc_read_options, od_read_options, .func (PySem.W.fnOf "read_options" "read_options" (defArgs s_read_options) (defBody s_read_options) (defScope s_read_options) .none kV_read_options dc_read_options pm_read_options an_read_options cd_read_options ct_read_options), sl_read_options⟩)
    (cc_read_options : PySem.W.codeIn K cd_read_options "read_options" = true)
    (kk_read_options : PySem.W.keepIn K (.ref f_read_options) = true)
    (a_split : PySem.W.nsIn K mainGlobals "_split" = some (some (.ref f_split)))
    (l_split : K.lookup f_split = some ⟨oc_split, od_split, .func (PySem.W.fnOf "_split" "_split" (defArgs s_split) (defBody s_split) (defScope s_split) .none kV_split dc_split pm_split an_split cd_split ct_split), sl_split⟩)
    (cc_split : PySem.W.codeIn K cd_split "_split" = true)
    (kk_split : PySem.W.keepIn K (.ref f_split) = true)
    (a_option_size : PySem.W.nsIn K mainGlobals "_option_size" = some (some (.ref f_option_size)))
    (l_option_size : K.lookup f_option_size = some ⟨oc_option_size, od_option_size, .func (PySem.W.fnOf "_option_size" "_option_size" (defArgs s_option_size) (defBody s_option_size) (defScope s_option_size) .none kV_option_size dc_option_size pm_option_size an_option_size cd_option_size ct_option_size), sl_option_size⟩)
    (cc_option_size : PySem.W.codeIn K cd_option_size "_option_size" = true)
    (kk_option_size : PySem.W.keepIn K (.ref f_option_size) = true)
    (a_read_bodies : PySem.W.nsIn K mainGlobals "_read_bodies" = some (some (.ref f_read_bodies)))
    (l_read_bodies : K.lookup f_read_bodies = some ⟨oc_read_bodies, od_read_bodies, .func (PySem.W.fnOf "_read_bodies" "_read_bodies" (defArgs s_read_bodies) (defBody s_read_bodies) (defScope s_read_bodies) .none kV_read_bodies dc_read_bodies pm_read_bodies an_read_bodies cd_read_bodies ct_read_bodies), sl_read_bodies⟩)
    (cc_read_bodies : PySem.W.codeIn K cd_read_bodies "_read_bodies" = true)
    (kk_read_bodies : PySem.W.keepIn K (.ref f_read_bodies) = true)
    (a_is_known : PySem.W.nsIn K mainGlobals "_is_known" = some (some (.ref f_is_known)))
    (l_is_known : K.lookup f_is_known = some ⟨oc_is_known, od_is_known, .func (PySem.W.fnOf "_is_known" "_is_known" (defArgs s_is_known) (defBody s_is_known) (defScope s_is_known) .none kV_is_known dc_is_known pm_is_known an_is_known cd_is_known ct_is_known), sl_is_known⟩)
    (cc_is_known : PySem.W.codeIn K cd_is_known "_is_known" = true)
    (kk_is_known : PySem.W.keepIn K (.ref f_is_known) = true)
    (a_wire_numbers : PySem.W.nsIn K mainGlobals "_wire_numbers" = some (some (.ref f_wire_numbers)))
    (l_wire_numbers : K.lookup f_wire_numbers = some ⟨oc_wire_numbers, od_wire_numbers, .func (PySem.W.fnOf "_wire_numbers" "_wire_numbers" (defArgs s_wire_numbers) (defBody s_wire_numbers) (defScope s_wire_numbers) .none kV_wire_numbers dc_wire_numbers pm_wire_numbers an_wire_numbers cd_wire_numbers ct_wire_numbers), sl_wire_numbers⟩)
    (cc_wire_numbers : PySem.W.codeIn K cd_wire_numbers "_wire_numbers" = true)
    (kk_wire_numbers : PySem.W.keepIn K (.ref f_wire_numbers) = true)
    (a_l_is_integer : PySem.W.nsIn K mainGlobals "_law_is_integer" = some (some (.ref f_l_is_integer)))
    (l_l_is_integer : K.lookup f_l_is_integer = some ⟨oc_l_is_integer, od_l_is_integer, .func (PySem.W.fnOf "_law_is_integer" "_law_is_integer" (defArgs s_l_is_integer) (defBody s_l_is_integer) (defScope s_l_is_integer) .none kV_l_is_integer dc_l_is_integer pm_l_is_integer an_l_is_integer cd_l_is_integer ct_l_is_integer), sl_l_is_integer⟩)
    (cc_l_is_integer : PySem.W.codeIn K cd_l_is_integer "_law_is_integer" = true)
    (kk_l_is_integer : PySem.W.keepIn K (.ref f_l_is_integer) = true)
    (a_l_cell : PySem.W.nsIn K mainGlobals "_law_cell" = some (some (.ref f_l_cell)))
    (l_l_cell : K.lookup f_l_cell = some ⟨oc_l_cell, od_l_cell, .func (PySem.W.fnOf "_law_cell" "_law_cell" (defArgs s_l_cell) (defBody s_l_cell) (defScope s_l_cell) .none kV_l_cell dc_l_cell pm_l_cell an_l_cell cd_l_cell ct_l_cell), sl_l_cell⟩)
    (cc_l_cell : PySem.W.codeIn K cd_l_cell "_law_cell" = true)
    (kk_l_cell : PySem.W.keepIn K (.ref f_l_cell) = true)
    (a_l_row : PySem.W.nsIn K mainGlobals "_law_row" = some (some (.ref f_l_row)))
    (l_l_row : K.lookup f_l_row = some ⟨oc_l_row, od_l_row, .func (PySem.W.fnOf "_law_row" "_law_row" (defArgs s_l_row) (defBody s_l_row) (defScope s_l_row) .none kV_l_row dc_l_row pm_l_row an_l_row cd_l_row ct_l_row), sl_l_row⟩)
    (cc_l_row : PySem.W.codeIn K cd_l_row "_law_row" = true)
    (kk_l_row : PySem.W.keepIn K (.ref f_l_row) = true)
    (a_l_number : PySem.W.nsIn K mainGlobals "_law_number" = some (some (.ref f_l_number)))
    (l_l_number : K.lookup f_l_number = some ⟨oc_l_number, od_l_number, .func (PySem.W.fnOf "_law_number" "_law_number" (defArgs s_l_number) (defBody s_l_number) (defScope s_l_number) .none kV_l_number dc_l_number pm_l_number an_l_number cd_l_number ct_l_number), sl_l_number⟩)
    (cc_l_number : PySem.W.codeIn K cd_l_number "_law_number" = true)
    (kk_l_number : PySem.W.keepIn K (.ref f_l_number) = true)
    (a_l_pair : PySem.W.nsIn K mainGlobals "_law_pair" = some (some (.ref f_l_pair)))
    (l_l_pair : K.lookup f_l_pair = some ⟨oc_l_pair, od_l_pair, .func (PySem.W.fnOf "_law_pair" "_law_pair" (defArgs s_l_pair) (defBody s_l_pair) (defScope s_l_pair) .none kV_l_pair dc_l_pair pm_l_pair an_l_pair cd_l_pair ct_l_pair), sl_l_pair⟩)
    (cc_l_pair : PySem.W.codeIn K cd_l_pair "_law_pair" = true)
    (kk_l_pair : PySem.W.keepIn K (.ref f_l_pair) = true)
    (a_l_all_pairs : PySem.W.nsIn K mainGlobals "_law_all_pairs" = some (some (.ref f_l_all_pairs)))
    (l_l_all_pairs : K.lookup f_l_all_pairs = some ⟨oc_l_all_pairs, od_l_all_pairs, .func (PySem.W.fnOf "_law_all_pairs" "_law_all_pairs" (defArgs s_l_all_pairs) (defBody s_l_all_pairs) (defScope s_l_all_pairs) .none kV_l_all_pairs dc_l_all_pairs pm_l_all_pairs an_l_all_pairs cd_l_all_pairs ct_l_all_pairs), sl_l_all_pairs⟩)
    (cc_l_all_pairs : PySem.W.codeIn K cd_l_all_pairs "_law_all_pairs" = true)
    (kk_l_all_pairs : PySem.W.keepIn K (.ref f_l_all_pairs) = true)
    (a_l_value : PySem.W.nsIn K mainGlobals "_law_value" = some (some (.ref f_l_value)))
    (l_l_value : K.lookup f_l_value = some ⟨oc_l_value, od_l_value, .func (PySem.W.fnOf "_law_value" "_law_value" (defArgs s_l_value) (defBody s_l_value) (defScope s_l_value) .none kV_l_value dc_l_value pm_l_value an_l_value cd_l_value ct_l_value), sl_l_value⟩)
    (cc_l_value : PySem.W.codeIn K cd_l_value "_law_value" = true)
    (kk_l_value : PySem.W.keepIn K (.ref f_l_value) = true)
    (a_l_pair_of : PySem.W.nsIn K mainGlobals "_law_pair_of" = some (some (.ref f_l_pair_of)))
    (l_l_pair_of : K.lookup f_l_pair_of = some ⟨oc_l_pair_of, od_l_pair_of, .func (PySem.W.fnOf "_law_pair_of" "_law_pair_of" (defArgs s_l_pair_of) (defBody s_l_pair_of) (defScope s_l_pair_of) .none kV_l_pair_of dc_l_pair_of pm_l_pair_of an_l_pair_of cd_l_pair_of ct_l_pair_of), sl_l_pair_of⟩)
    (cc_l_pair_of : PySem.W.codeIn K cd_l_pair_of "_law_pair_of" = true)
    (kk_l_pair_of : PySem.W.keepIn K (.ref f_l_pair_of) = true)
    (a_l_body : PySem.W.nsIn K mainGlobals "_law_body" = some (some (.ref f_l_body)))
    (l_l_body : K.lookup f_l_body = some ⟨oc_l_body, od_l_body, .func (PySem.W.fnOf "_law_body" "_law_body" (defArgs s_l_body) (defBody s_l_body) (defScope s_l_body) .none kV_l_body dc_l_body pm_l_body an_l_body cd_l_body ct_l_body), sl_l_body⟩)
    (cc_l_body : PySem.W.codeIn K cd_l_body "_law_body" = true)
    (kk_l_body : PySem.W.keepIn K (.ref f_l_body) = true)
    (a_l_skipped : PySem.W.nsIn K mainGlobals "_law_skipped" = some (some (.ref f_l_skipped)))
    (l_l_skipped : K.lookup f_l_skipped = some ⟨oc_l_skipped, od_l_skipped, .func (PySem.W.fnOf "_law_skipped" "_law_skipped" (defArgs s_l_skipped) (defBody s_l_skipped) (defScope s_l_skipped) .none kV_l_skipped dc_l_skipped pm_l_skipped an_l_skipped cd_l_skipped ct_l_skipped), sl_l_skipped⟩)
    (cc_l_skipped : PySem.W.codeIn K cd_l_skipped "_law_skipped" = true)
    (kk_l_skipped : PySem.W.keepIn K (.ref f_l_skipped) = true)
    (a_l_values : PySem.W.nsIn K mainGlobals "_law_values" = some (some (.ref f_l_values)))
    (l_l_values : K.lookup f_l_values = some ⟨oc_l_values, od_l_values, .func (PySem.W.fnOf "_law_values" "_law_values" (defArgs s_l_values) (defBody s_l_values) (defScope s_l_values) .none kV_l_values dc_l_values pm_l_values an_l_values cd_l_values ct_l_values), sl_l_values⟩)
    (cc_l_values : PySem.W.codeIn K cd_l_values "_law_values" = true)
    (kk_l_values : PySem.W.keepIn K (.ref f_l_values) = true)
    (a_l_put : PySem.W.nsIn K mainGlobals "_law_put" = some (some (.ref f_l_put)))
    (l_l_put : K.lookup f_l_put = some ⟨oc_l_put, od_l_put, .func (PySem.W.fnOf "_law_put" "_law_put" (defArgs s_l_put) (defBody s_l_put) (defScope s_l_put) .none kV_l_put dc_l_put pm_l_put an_l_put cd_l_put ct_l_put), sl_l_put⟩)
    (cc_l_put : PySem.W.codeIn K cd_l_put "_law_put" = true)
    (kk_l_put : PySem.W.keepIn K (.ref f_l_put) = true)
    (a_l_items : PySem.W.nsIn K mainGlobals "_law_items" = some (some (.ref f_l_items)))
    (l_l_items : K.lookup f_l_items = some ⟨oc_l_items, od_l_items, .func (PySem.W.fnOf "_law_items" "_law_items" (defArgs s_l_items) (defBody s_l_items) (defScope s_l_items) .none kV_l_items dc_l_items pm_l_items an_l_items cd_l_items ct_l_items), sl_l_items⟩)
    (cc_l_items : PySem.W.codeIn K cd_l_items "_law_items" = true)
    (kk_l_items : PySem.W.keepIn K (.ref f_l_items) = true)
    (a_l_faulty : PySem.W.nsIn K mainGlobals "_law_faulty" = some (some (.ref f_l_faulty)))
    (l_l_faulty : K.lookup f_l_faulty = some ⟨oc_l_faulty, od_l_faulty, .func (PySem.W.fnOf "_law_faulty" "_law_faulty" (defArgs s_l_faulty) (defBody s_l_faulty) (defScope s_l_faulty) .none kV_l_faulty dc_l_faulty pm_l_faulty an_l_faulty cd_l_faulty ct_l_faulty), sl_l_faulty⟩)
    (cc_l_faulty : PySem.W.codeIn K cd_l_faulty "_law_faulty" = true)
    (kk_l_faulty : PySem.W.keepIn K (.ref f_l_faulty) = true)
    (a_l_raises : PySem.W.nsIn K mainGlobals "_law_raises" = some (some (.ref f_l_raises)))
    (l_l_raises : K.lookup f_l_raises = some ⟨oc_l_raises, od_l_raises, .func (PySem.W.fnOf "_law_raises" "_law_raises" (defArgs s_l_raises) (defBody s_l_raises) (defScope s_l_raises) .none kV_l_raises dc_l_raises pm_l_raises an_l_raises cd_l_raises ct_l_raises), sl_l_raises⟩)
    (cc_l_raises : PySem.W.codeIn K cd_l_raises "_law_raises" = true)
    (kk_l_raises : PySem.W.keepIn K (.ref f_l_raises) = true)
    (a_l_right : PySem.W.nsIn K mainGlobals "_law_right" = some (some (.ref f_l_right)))
    (l_l_right : K.lookup f_l_right = some ⟨oc_l_right, od_l_right, .func (PySem.W.fnOf "_law_right" "_law_right" (defArgs s_l_right) (defBody s_l_right) (defScope s_l_right) .none kV_l_right dc_l_right pm_l_right an_l_right cd_l_right ct_l_right), sl_l_right⟩)
    (cc_l_right : PySem.W.codeIn K cd_l_right "_law_right" = true)
    (kk_l_right : PySem.W.keepIn K (.ref f_l_right) = true)
    (a_law : PySem.W.nsIn K mainGlobals "law" = some (some (.ref f_law)))
    (l_law : K.lookup f_law = some ⟨oc_law, od_law, .func (PySem.W.fnOf "law" "law" (defArgs s_law) (defBody s_law) (defScope s_law) .none kV_law dc_law pm_law an_law cd_law ct_law), sl_law⟩)
    (cc_law : PySem.W.codeIn K cd_law "law" = true)
    (kk_law : PySem.W.keepIn K (.ref f_law) = true)
    (z_ValueError : PySem.W.nsIn K mainGlobals "ValueError" = some none)
    (z_abs : PySem.W.nsIn K mainGlobals "abs" = some none)
    (z_any : PySem.W.nsIn K mainGlobals "any" = some none)
    (z_bool : PySem.W.nsIn K mainGlobals "bool" = some none)
    (z_dict : PySem.W.nsIn K mainGlobals "dict" = some none)
    (z_int : PySem.W.nsIn K mainGlobals "int" = some none)
    (z_isinstance : PySem.W.nsIn K mainGlobals "isinstance" = some none)
    (z_len : PySem.W.nsIn K mainGlobals "len" = some none)
    (z_list : PySem.W.nsIn K mainGlobals "list" = some none)
    (z_min : PySem.W.nsIn K mainGlobals "min" = some none)
    (z_range : PySem.W.nsIn K mainGlobals "range" = some none)
    (z_str : PySem.W.nsIn K mainGlobals "str" = some none)
    (z_super : PySem.W.nsIn K mainGlobals "super" = some none)
    (z_tuple : PySem.W.nsIn K mainGlobals "tuple" = some none)
    (z_zip : PySem.W.nsIn K mainGlobals "zip" = some none)
    : ∃ fd : FuncData, (∀ (s : Shared) (v : Value), BindsTo s fd ⟨[v], []⟩ [("script", v)]) ∧ ∀ base : Heap, K.In base → base.Ns mainGlobals mg → FnOk l.prog w K mg base CX0 7 fa fd ["script"] (sp_law K) := by
  have e := hfa.symm.trans (PySem.W.mg_of X G a_law)
  have e2 : f_law = fa := by
    injection e with e
    injection e with e
    exact e.symm
  subst e2
  have es_COUNT_MARK : ∀ H : Hp, SqT K H t_COUNT_MARK [.int 83, .int 85] := fun H => .inr ⟨_, _, _, tk_COUNT_MARK, rfl, rfl, (by show 2 ≤ sizeLine; decide), .cons ⟨_, rfl⟩ (.cons ⟨_, rfl⟩ (.nil))⟩
  have es_BODY_LENGTHS_2 : ∀ H : Hp, SqT K H t_BODY_LENGTHS_2 [.int 2] := fun H => .inr ⟨_, _, _, tv_BODY_LENGTHS_2, rfl, rfl, (by show 1 ≤ sizeLine; decide), .cons ⟨_, rfl⟩ (.nil)⟩
  have es_BODY_LENGTHS_3 : ∀ H : Hp, SqT K H t_BODY_LENGTHS_3 [.int 1] := fun H => .inr ⟨_, _, _, tv_BODY_LENGTHS_3, rfl, rfl, (by show 1 ≤ sizeLine; decide), .cons ⟨_, rfl⟩ (.nil)⟩
  have es_BODY_LENGTHS_4 : ∀ H : Hp, SqT K H t_BODY_LENGTHS_4 [.int 0] := fun H => .inr ⟨_, _, _, tv_BODY_LENGTHS_4, rfl, rfl, (by show 1 ≤ sizeLine; decide), .cons ⟨_, rfl⟩ (.nil)⟩
  have es_BODY_LENGTHS_5 : ∀ H : Hp, SqT K H t_BODY_LENGTHS_5 [.int 8, .int 16, .int 24, .int 32] := fun H => .inr ⟨_, _, _, tv_BODY_LENGTHS_5, rfl, rfl, (by show 4 ≤ sizeLine; decide), .cons ⟨_, rfl⟩ (.cons ⟨_, rfl⟩ (.cons ⟨_, rfl⟩ (.cons ⟨_, rfl⟩ (.nil))))⟩
  have es_BODY_LENGTHS_8 : ∀ H : Hp, SqT K H t_BODY_LENGTHS_8 [.int 8] := fun H => .inr ⟨_, _, _, tv_BODY_LENGTHS_8, rfl, rfl, (by show 1 ≤ sizeLine; decide), .cons ⟨_, rfl⟩ (.nil)⟩
  have es_BODY_LENGTHS_253 : ∀ H : Hp, SqT K H t_BODY_LENGTHS_253 [.int 6, .int 10] := fun H => .inr ⟨_, _, _, tv_BODY_LENGTHS_253, rfl, rfl, (by show 2 ≤ sizeLine; decide), .cons ⟨_, rfl⟩ (.cons ⟨_, rfl⟩ (.nil))⟩
  have lit_BODY_LENGTHS : ∀ e ∈ ([⟨hk_BODY_LENGTHS_0, .int 2 tk_BODY_LENGTHS_0, .ref t_BODY_LENGTHS_2⟩, ⟨hk_BODY_LENGTHS_1, .int 3 tk_BODY_LENGTHS_1, .ref t_BODY_LENGTHS_3⟩, ⟨hk_BODY_LENGTHS_2, .int 4 tk_BODY_LENGTHS_2, .ref t_BODY_LENGTHS_4⟩, ⟨hk_BODY_LENGTHS_3, .int 5 tk_BODY_LENGTHS_3, .ref t_BODY_LENGTHS_5⟩, ⟨hk_BODY_LENGTHS_4, .int 8 tk_BODY_LENGTHS_4, .ref t_BODY_LENGTHS_8⟩, ⟨hk_BODY_LENGTHS_5, .int 253 tk_BODY_LENGTHS_5, .ref t_BODY_LENGTHS_253⟩] : List DictEntry), ∃ (i : Int) (t : Tok), e.key = .int i t ∧ e.hash = hashInt i := by
    intro e he
    simp only [List.mem_cons, List.not_mem_nil, or_false] at he
    rcases he with rfl | rfl | rfl | rfl | rfl | rfl
    · exact ⟨_, _, rfl, hh_BODY_LENGTHS_0⟩
    · exact ⟨_, _, rfl, hh_BODY_LENGTHS_1⟩
    · exact ⟨_, _, rfl, hh_BODY_LENGTHS_2⟩
    · exact ⟨_, _, rfl, hh_BODY_LENGTHS_3⟩
    · exact ⟨_, _, rfl, hh_BODY_LENGTHS_4⟩
    · exact ⟨_, _, rfl, hh_BODY_LENGTHS_5⟩
  have F_DamagedSegment_init__ : FunSX K l.prog "__init__" "DamagedSegment.__init__" s_DamagedSegment_init__ f_DamagedSegment_init__ C_DamagedSegment cda_DamagedSegment_init__ cc_DamagedSegment_init__ _ := ⟨⟨_, _, _, _, _, rfl⟩, ⟨⟨_, _, _, l_DamagedSegment_init__⟩, ⟨_, _, _, _, _, _, la_DamagedSegment_init__, lv_DamagedSegment_init__, lf_DamagedSegment_init__⟩, ⟨_, _, _, le_DamagedSegment_init__⟩, ⟨_, ld_DamagedSegment_init__⟩, ls_DamagedSegment_init__, lt_DamagedSegment_init__, lu_DamagedSegment_init__, ve_DamagedSegment_init__, lo_DamagedSegment_init__, ⟨⟨_, _, _, _, _, _, _, _, _, _, _, _, _, _, _, ox_DamagedSegment_init__, ov_DamagedSegment_init__⟩, sa_DamagedSegment_init__, be_DamagedSegment, te_DamagedSegment, kc_DamagedSegment_init__⟩⟩, cc0_DamagedSegment_init__, kk_DamagedSegment_init__⟩
  have b_DamagedSegment_init__ := F_DamagedSegment_init__.binds (ps := ["self", "reason"]) fun _ _ _ _ _ _ us hl => match us, hl with | [_, _], _ => rfl
  have F_read_number := fun_mk (st := s_read_number) l_read_number cc_read_number kk_read_number
  have b_read_number := F_read_number.binds (ps := ["octets"]) fun _ _ _ _ _ _ us hl => match us, hl with | [_], _ => rfl
  have F_read_options := fun_mk (st := s_read_options) l_read_options cc_read_options kk_read_options
  have b_read_options := F_read_options.binds (ps := ["octets"]) fun _ _ _ _ _ _ us hl => match us, hl with | [_], _ => rfl
  have F_split := fun_mk (st := s_split) l_split cc_split kk_split
  have b_split := F_split.binds (ps := ["octets"]) fun _ _ _ _ _ _ us hl => match us, hl with | [_], _ => rfl
  have F_option_size := fun_mk (st := s_option_size) l_option_size cc_option_size kk_option_size
  have b_option_size := F_option_size.binds (ps := ["octets", "at"]) fun _ _ _ _ _ _ us hl => match us, hl with | [_, _], _ => rfl
  have F_read_bodies := fun_mk (st := s_read_bodies) l_read_bodies cc_read_bodies kk_read_bodies
  have b_read_bodies := F_read_bodies.binds (ps := ["options"]) fun _ _ _ _ _ _ us hl => match us, hl with | [_], _ => rfl
  have F_is_known := fun_mk (st := s_is_known) l_is_known cc_is_known kk_is_known
  have b_is_known := F_is_known.binds (ps := ["kind", "body"]) fun _ _ _ _ _ _ us hl => match us, hl with | [_, _], _ => rfl
  have F_wire_numbers := fun_mk (st := s_wire_numbers) l_wire_numbers cc_wire_numbers kk_wire_numbers
  have b_wire_numbers := F_wire_numbers.binds (ps := ["octets"]) fun _ _ _ _ _ _ us hl => match us, hl with | [_], _ => rfl
  have F_l_is_integer := fun_mk (st := s_l_is_integer) l_l_is_integer cc_l_is_integer kk_l_is_integer
  have b_l_is_integer := F_l_is_integer.binds (ps := ["actual"]) fun _ _ _ _ _ _ us hl => match us, hl with | [_], _ => rfl
  have F_l_cell := fun_mk (st := s_l_cell) l_l_cell cc_l_cell kk_l_cell
  have b_l_cell := F_l_cell.binds (ps := ["script", "k"]) fun _ _ _ _ _ _ us hl => match us, hl with | [_, _], _ => rfl
  have F_l_row := fun_mk (st := s_l_row) l_l_row cc_l_row kk_l_row
  have b_l_row := F_l_row.binds (ps := ["cell", "size", "base"]) fun _ _ _ _ _ _ us hl => match us, hl with | [_, _, _], _ => rfl
  have F_l_number := fun_mk (st := s_l_number) l_l_number cc_l_number kk_l_number
  have b_l_number := F_l_number.binds (ps := ["actual", "expected"]) fun _ _ _ _ _ _ us hl => match us, hl with | [_, _], _ => rfl
  have F_l_pair := fun_mk (st := s_l_pair) l_l_pair cc_l_pair kk_l_pair
  have b_l_pair := F_l_pair.binds (ps := ["actual", "expected"]) fun _ _ _ _ _ _ us hl => match us, hl with | [_, _], _ => rfl
  have F_l_all_pairs := fun_mk (st := s_l_all_pairs) l_l_all_pairs cc_l_all_pairs kk_l_all_pairs
  have b_l_all_pairs := F_l_all_pairs.binds (ps := ["actual", "expected"]) fun _ _ _ _ _ _ us hl => match us, hl with | [_, _], _ => rfl
  have F_l_value := fun_mk (st := s_l_value) l_l_value cc_l_value kk_l_value
  have b_l_value := F_l_value.binds (ps := ["octets"]) fun _ _ _ _ _ _ us hl => match us, hl with | [_], _ => rfl
  have F_l_pair_of := fun_mk (st := s_l_pair_of) l_l_pair_of cc_l_pair_of kk_l_pair_of
  have b_l_pair_of := F_l_pair_of.binds (ps := ["octets"]) fun _ _ _ _ _ _ us hl => match us, hl with | [_], _ => rfl
  have F_l_body := fun_mk (st := s_l_body) l_l_body cc_l_body kk_l_body
  have b_l_body := F_l_body.binds (ps := ["kind", "cell"]) fun _ _ _ _ _ _ us hl => match us, hl with | [_, _], _ => rfl
  have F_l_skipped := fun_mk (st := s_l_skipped) l_l_skipped cc_l_skipped kk_l_skipped
  have b_l_skipped := F_l_skipped.binds (ps := ["cell"]) fun _ _ _ _ _ _ us hl => match us, hl with | [_], _ => rfl
  have F_l_values := fun_mk (st := s_l_values) l_l_values cc_l_values kk_l_values
  have b_l_values := F_l_values.binds (ps := ["bodies"]) fun _ _ _ _ _ _ us hl => match us, hl with | [_], _ => rfl
  have F_l_put := fun_mk (st := s_l_put) l_l_put cc_l_put kk_l_put
  have b_l_put := F_l_put.binds (ps := ["items", "item", "cell"]) fun _ _ _ _ _ _ us hl => match us, hl with | [_, _, _], _ => rfl
  have F_l_items := fun_mk (st := s_l_items) l_l_items cc_l_items kk_l_items
  have b_l_items := F_l_items.binds (ps := ["script", "bodies"]) fun _ _ _ _ _ _ us hl => match us, hl with | [_, _], _ => rfl
  have F_l_faulty := fun_mk (st := s_l_faulty) l_l_faulty cc_l_faulty kk_l_faulty
  have b_l_faulty := F_l_faulty.binds (ps := ["items", "bodies", "fault", "cell"]) fun _ _ _ _ _ _ us hl => match us, hl with | [_, _, _, _], _ => rfl
  have F_l_raises := fun_mk (st := s_l_raises) l_l_raises cc_l_raises kk_l_raises
  have b_l_raises := F_l_raises.binds (ps := ["octets"]) fun _ _ _ _ _ _ us hl => match us, hl with | [_], _ => rfl
  have F_l_right := fun_mk (st := s_l_right) l_l_right cc_l_right kk_l_right
  have b_l_right := F_l_right.binds (ps := ["actual", "expected"]) fun _ _ _ _ _ _ us hl => match us, hl with | [_, _], _ => rfl
  have F_law := fun_mk (st := s_law) l_law cc_law kk_law
  have b_law := F_law.binds (ps := ["script"]) fun _ _ _ _ _ _ us hl => match us, hl with | [_], _ => rfl
  let T : Txt l.prog K mg := { t_END := t_END, t_FILLER := t_FILLER, t_MSS := t_MSS, t_SCALE := t_SCALE, t_RANGES_KNOWN := t_RANGES_KNOWN, t_RANGES := t_RANGES, t_STAMP := t_STAMP, t_COUNT := t_COUNT, t_COUNT_MARK := t_COUNT_MARK, t_GREATEST_SCALE := t_GREATEST_SCALE, t_WRONG_OPTIONS := t_WRONG_OPTIONS, t_BODY_LENGTHS := t_BODY_LENGTHS, de_BODY_LENGTHS := _, dn_BODY_LENGTHS := _, t_BODY_LENGTHS_2 := t_BODY_LENGTHS_2, t_BODY_LENGTHS_3 := t_BODY_LENGTHS_3, t_BODY_LENGTHS_4 := t_BODY_LENGTHS_4, t_BODY_LENGTHS_5 := t_BODY_LENGTHS_5, t_BODY_LENGTHS_8 := t_BODY_LENGTHS_8, t_BODY_LENGTHS_253 := t_BODY_LENGTHS_253, C_ThroughlineError := C_ThroughlineError, C_InvalidOctets := C_InvalidOctets, C_DamagedSegment := C_DamagedSegment, f_DamagedSegment_init__ := f_DamagedSegment_init__, d_DamagedSegment_init__ := _, cda_DamagedSegment_init__ := cda_DamagedSegment_init__, cc_DamagedSegment_init__ := cc_DamagedSegment_init__, f_read_number := f_read_number, d_read_number := _, f_read_options := f_read_options, d_read_options := _, f_split := f_split, d_split := _, f_option_size := f_option_size, d_option_size := _, f_read_bodies := f_read_bodies, d_read_bodies := _, f_is_known := f_is_known, d_is_known := _, f_wire_numbers := f_wire_numbers, d_wire_numbers := _, f_l_is_integer := f_l_is_integer, d_l_is_integer := _, f_l_cell := f_l_cell, d_l_cell := _, f_l_row := f_l_row, d_l_row := _, f_l_number := f_l_number, d_l_number := _, f_l_pair := f_l_pair, d_l_pair := _, f_l_all_pairs := f_l_all_pairs, d_l_all_pairs := _, f_l_value := f_l_value, d_l_value := _, f_l_pair_of := f_l_pair_of, d_l_pair_of := _, f_l_body := f_l_body, d_l_body := _, f_l_skipped := f_l_skipped, d_l_skipped := _, f_l_values := f_l_values, d_l_values := _, f_l_put := f_l_put, d_l_put := _, f_l_items := f_l_items, d_l_items := _, f_l_faulty := f_l_faulty, d_l_faulty := _, f_l_raises := f_l_raises, d_l_raises := _, f_l_right := f_l_right, d_l_right := _, f_law := f_law, d_law := _, v_END := PySem.W.mg_of X G v_END, v_FILLER := PySem.W.mg_of X G v_FILLER, v_MSS := PySem.W.mg_of X G v_MSS, v_SCALE := PySem.W.mg_of X G v_SCALE, v_RANGES_KNOWN := PySem.W.mg_of X G v_RANGES_KNOWN, v_RANGES := PySem.W.mg_of X G v_RANGES, v_STAMP := PySem.W.mg_of X G v_STAMP, v_COUNT := PySem.W.mg_of X G v_COUNT, v_COUNT_MARK := PySem.W.mg_of X G v_COUNT_MARK, es_COUNT_MARK := es_COUNT_MARK, v_GREATEST_SCALE := PySem.W.mg_of X G v_GREATEST_SCALE, v_WRONG_OPTIONS := PySem.W.mg_of X G v_WRONG_OPTIONS, v_BODY_LENGTHS := PySem.W.mg_of X G v_BODY_LENGTHS, kd_BODY_LENGTHS := ⟨dk_BODY_LENGTHS, lit_BODY_LENGTHS, low_BODY_LENGTHS⟩, ik_BODY_LENGTHS_2 := ⟨.ref t_BODY_LENGTHS_2, fI_entry (by kernel_rfl), rfl⟩, es_BODY_LENGTHS_2 := es_BODY_LENGTHS_2, ik_BODY_LENGTHS_3 := ⟨.ref t_BODY_LENGTHS_3, fI_entry (by kernel_rfl), rfl⟩, es_BODY_LENGTHS_3 := es_BODY_LENGTHS_3, ik_BODY_LENGTHS_4 := ⟨.ref t_BODY_LENGTHS_4, fI_entry (by kernel_rfl), rfl⟩, es_BODY_LENGTHS_4 := es_BODY_LENGTHS_4, ik_BODY_LENGTHS_5 := ⟨.ref t_BODY_LENGTHS_5, fI_entry (by kernel_rfl), rfl⟩, es_BODY_LENGTHS_5 := es_BODY_LENGTHS_5, ik_BODY_LENGTHS_8 := ⟨.ref t_BODY_LENGTHS_8, fI_entry (by kernel_rfl), rfl⟩, es_BODY_LENGTHS_8 := es_BODY_LENGTHS_8, ik_BODY_LENGTHS_253 := ⟨.ref t_BODY_LENGTHS_253, fI_entry (by kernel_rfl), rfl⟩, es_BODY_LENGTHS_253 := es_BODY_LENGTHS_253, nk_BODY_LENGTHS := fun z hz => fI_out rfl hz, c_ThroughlineError := PySem.W.mg_of X G c_ThroughlineError, c_InvalidOctets := PySem.W.mg_of X G c_InvalidOctets, c_DamagedSegment := PySem.W.mg_of X G c_DamagedSegment, xf_DamagedSegment := ⟨yg_DamagedSegment, yk_DamagedSegment, be_DamagedSegment, hd_DamagedSegment⟩, n_DamagedSegment_reason := n_DamagedSegment_reason, be_DamagedSegment := be_DamagedSegment, te_DamagedSegment := te_DamagedSegment, xc_DamagedSegment := ⟨xg_DamagedSegment, xk_DamagedSegment, be_DamagedSegment, hd_DamagedSegment, xa_DamagedSegment, hn_all, ht_all, xm_DamagedSegment⟩, em_DamagedSegment_ThroughlineError := PySem.W.exm_ref be_ThroughlineError hd_ThroughlineError te_ThroughlineError su_DamagedSegment_ThroughlineError, ko_DamagedSegment_InvalidOctets := kit_refF ic_InvalidOctets te_InvalidOctets su_DamagedSegment_InvalidOctets sr_DamagedSegment, ko_DamagedSegment_DamagedSegment := kit_refT ic_DamagedSegment te_DamagedSegment su_DamagedSegment_DamagedSegment, ko_DamagedSegment_ValueError := kit_tyT (by decide +kernel) su_DamagedSegment_ValueError, F_DamagedSegment_init__ := F_DamagedSegment_init__, b_DamagedSegment_init__ := b_DamagedSegment_init__, iC_DamagedSegment := a_DamagedSegment_init__, tI_DamagedSegment := ly_DamagedSegment_init__, F_read_number := F_read_number, b_read_number := b_read_number, m_read_number := PySem.W.mg_of X G a_read_number, F_read_options := F_read_options, b_read_options := b_read_options, m_read_options := PySem.W.mg_of X G a_read_options, F_split := F_split, b_split := b_split, m_split := PySem.W.mg_of X G a_split, F_option_size := F_option_size, b_option_size := b_option_size, m_option_size := PySem.W.mg_of X G a_option_size, F_read_bodies := F_read_bodies, b_read_bodies := b_read_bodies, m_read_bodies := PySem.W.mg_of X G a_read_bodies, F_is_known := F_is_known, b_is_known := b_is_known, m_is_known := PySem.W.mg_of X G a_is_known, F_wire_numbers := F_wire_numbers, b_wire_numbers := b_wire_numbers, m_wire_numbers := PySem.W.mg_of X G a_wire_numbers, F_l_is_integer := F_l_is_integer, b_l_is_integer := b_l_is_integer, m_l_is_integer := PySem.W.mg_of X G a_l_is_integer, F_l_cell := F_l_cell, b_l_cell := b_l_cell, m_l_cell := PySem.W.mg_of X G a_l_cell, F_l_row := F_l_row, b_l_row := b_l_row, m_l_row := PySem.W.mg_of X G a_l_row, F_l_number := F_l_number, b_l_number := b_l_number, m_l_number := PySem.W.mg_of X G a_l_number, F_l_pair := F_l_pair, b_l_pair := b_l_pair, m_l_pair := PySem.W.mg_of X G a_l_pair, F_l_all_pairs := F_l_all_pairs, b_l_all_pairs := b_l_all_pairs, m_l_all_pairs := PySem.W.mg_of X G a_l_all_pairs, F_l_value := F_l_value, b_l_value := b_l_value, m_l_value := PySem.W.mg_of X G a_l_value, F_l_pair_of := F_l_pair_of, b_l_pair_of := b_l_pair_of, m_l_pair_of := PySem.W.mg_of X G a_l_pair_of, F_l_body := F_l_body, b_l_body := b_l_body, m_l_body := PySem.W.mg_of X G a_l_body, F_l_skipped := F_l_skipped, b_l_skipped := b_l_skipped, m_l_skipped := PySem.W.mg_of X G a_l_skipped, F_l_values := F_l_values, b_l_values := b_l_values, m_l_values := PySem.W.mg_of X G a_l_values, F_l_put := F_l_put, b_l_put := b_l_put, m_l_put := PySem.W.mg_of X G a_l_put, F_l_items := F_l_items, b_l_items := b_l_items, m_l_items := PySem.W.mg_of X G a_l_items, F_l_faulty := F_l_faulty, b_l_faulty := b_l_faulty, m_l_faulty := PySem.W.mg_of X G a_l_faulty, F_l_raises := F_l_raises, b_l_raises := b_l_raises, m_l_raises := PySem.W.mg_of X G a_l_raises, F_l_right := F_l_right, b_l_right := b_l_right, m_l_right := PySem.W.mg_of X G a_l_right, F_law := F_law, b_law := b_law, m_law := PySem.W.mg_of X G a_law, n_ValueError := PySem.W.mg_none_of X G z_ValueError, n_abs := PySem.W.mg_none_of X G z_abs, n_any := PySem.W.mg_none_of X G z_any, n_bool := PySem.W.mg_none_of X G z_bool, n_dict := PySem.W.mg_none_of X G z_dict, n_int := PySem.W.mg_none_of X G z_int, n_isinstance := PySem.W.mg_none_of X G z_isinstance, n_len := PySem.W.mg_none_of X G z_len, n_list := PySem.W.mg_none_of X G z_list, n_min := PySem.W.mg_none_of X G z_min, n_range := PySem.W.mg_none_of X G z_range, n_str := PySem.W.mg_none_of X G z_str, n_super := PySem.W.mg_none_of X G z_super, n_tuple := PySem.W.mg_none_of X G z_tuple, n_zip := PySem.W.mg_none_of X G z_zip }
  exact ⟨PySem.W.fnOf "law" "law" (defArgs s_law) (defBody s_law) (defScope s_law) .none kV_law dc_law pm_law an_law cd_law ct_law, fun s v => .of_eq rfl, fun base _ _ => ok_law T⟩
theorem walk {l : PySem.W.OpenLaw} {q : Program} {loose : List Str} {XP : (Str → Option Value) → Heap → Prop} {YP : World → Heap → Prop} {d : DefRec} {K : Params → PySem.W.Frag} (hn : l.most = some 63) (hdf : d.params.defaults = [])
    (hY : ∀ (w : World) (h : Heap), YP w h → (K w.params).In h)
    (F : ∀ (w : World) (mg : Str → Option Value) (fa : Addr) (h : Heap), (K w.params).In h → h.Ns mainGlobals mg → mg d.name = some (.ref fa) →
      ∃ fd : FuncData, (∀ (s : Shared) (u : Value), BindsTo s fd ⟨[u], []⟩ [("script", u)]) ∧ ∀ base : Heap, (K w.params).In base → base.Ns mainGlobals mg → FnOk l.prog w (K w.params) mg base CX0 7 fa fd ["script"] (sp_law (K w.params))) :
    PySem.W.WalkO q loose XP YP l.row.toRowW d [] (fun f vs => PySem.call f vs) :=
  L2.walk_of (n := 63) (k := 7) (x := "script") (CX := fun _ => CX0) (sp := fun w => sp_law (K w.params)) hn (by decide) hdf ⟨rfl, by decide, by decide⟩ hY F (fun _ _ a ns hl _ hS => ⟨a, ns, rfl, hS, hl, fun _ => rfl⟩) fun _ _ _ _ _ z => z
end My
open PySem PySem.W PyProof.Rows
set_option maxRecDepth 100000 in
set_option maxHeartbeats 0 in
theorem PySem.Challenge.cw_throughline_k07_options_read_holds : PySem.Challenge.rw_throughline_k07_options_read.Holds := by
  w_on; o_law; k_head; (case hw => w_witness2)
  k_fill
  refine My.walk (l := PySem.Challenge.rw_throughline_k07_options_read) rfl rfl (fun w h Y => PySem.W.kIn_of Y) ?F
  case F =>
    intro w mg fa h KX G hmg
    refine' My.all_mk KX G hmg ?v_END ?v_FILLER ?v_MSS ?v_SCALE ?v_RANGES_KNOWN ?v_RANGES ?v_STAMP ?v_COUNT ?v_COUNT_MARK ?tk_COUNT_MARK ?v_GREATEST_SCALE ?v_WRONG_OPTIONS ?v_BODY_LENGTHS ?dk_BODY_LENGTHS ?tv_BODY_LENGTHS_2 ?tv_BODY_LENGTHS_3 ?tv_BODY_LENGTHS_4 ?tv_BODY_LENGTHS_5 ?tv_BODY_LENGTHS_8 ?tv_BODY_LENGTHS_253 ?hh_BODY_LENGTHS_0 ?hh_BODY_LENGTHS_1 ?hh_BODY_LENGTHS_2 ?hh_BODY_LENGTHS_3 ?hh_BODY_LENGTHS_4 ?hh_BODY_LENGTHS_5 ?low_BODY_LENGTHS ?c_ThroughlineError ?be_ThroughlineError ?te_ThroughlineError ?hd_ThroughlineError ?ic_ThroughlineError ?c_InvalidOctets ?be_InvalidOctets ?te_InvalidOctets ?hd_InvalidOctets ?ic_InvalidOctets ?c_DamagedSegment ?be_DamagedSegment ?te_DamagedSegment ?hd_DamagedSegment ?ic_DamagedSegment ?yg_DamagedSegment ?yk_DamagedSegment ?n_DamagedSegment_reason ?xg_DamagedSegment ?xk_DamagedSegment ?xa_DamagedSegment ?xm_DamagedSegment ?hn_all ?ht_all ?su_DamagedSegment_ThroughlineError ?su_DamagedSegment_InvalidOctets ?su_DamagedSegment_DamagedSegment ?su_DamagedSegment_ValueError ?sr_DamagedSegment ?a_DamagedSegment_init__ ?ly_DamagedSegment_init__ ?l_DamagedSegment_init__ ?cc0_DamagedSegment_init__ ?kk_DamagedSegment_init__ ?la_DamagedSegment_init__ ?lv_DamagedSegment_init__ ?lf_DamagedSegment_init__ ?le_DamagedSegment_init__ ?ld_DamagedSegment_init__ ?ls_DamagedSegment_init__ ?lt_DamagedSegment_init__ ?lu_DamagedSegment_init__ ?ve_DamagedSegment_init__ ?lo_DamagedSegment_init__ ?ox_DamagedSegment_init__ ?ov_DamagedSegment_init__ ?sa_DamagedSegment_init__ ?kc_DamagedSegment_init__ ?a_read_number ?l_read_number ?cc_read_number ?kk_read_number ?a_read_options ?l_read_options ?cc_read_options ?kk_read_options ?a_split ?l_split ?cc_split ?kk_split ?a_option_size ?l_option_size ?cc_option_size ?kk_option_size ?a_read_bodies ?l_read_bodies ?cc_read_bodies ?kk_read_bodies ?a_is_known ?l_is_known ?cc_is_known ?kk_is_known ?a_wire_numbers ?l_wire_numbers ?cc_wire_numbers ?kk_wire_numbers ?a_l_is_integer ?l_l_is_integer ?cc_l_is_integer ?kk_l_is_integer ?a_l_cell ?l_l_cell ?cc_l_cell ?kk_l_cell ?a_l_row ?l_l_row ?cc_l_row ?kk_l_row ?a_l_number ?l_l_number ?cc_l_number ?kk_l_number ?a_l_pair ?l_l_pair ?cc_l_pair ?kk_l_pair ?a_l_all_pairs ?l_l_all_pairs ?cc_l_all_pairs ?kk_l_all_pairs ?a_l_value ?l_l_value ?cc_l_value ?kk_l_value ?a_l_pair_of ?l_l_pair_of ?cc_l_pair_of ?kk_l_pair_of ?a_l_body ?l_l_body ?cc_l_body ?kk_l_body ?a_l_skipped ?l_l_skipped ?cc_l_skipped ?kk_l_skipped ?a_l_values ?l_l_values ?cc_l_values ?kk_l_values ?a_l_put ?l_l_put ?cc_l_put ?kk_l_put ?a_l_items ?l_l_items ?cc_l_items ?kk_l_items ?a_l_faulty ?l_l_faulty ?cc_l_faulty ?kk_l_faulty ?a_l_raises ?l_l_raises ?cc_l_raises ?kk_l_raises ?a_l_right ?l_l_right ?cc_l_right ?kk_l_right ?a_law ?l_law ?cc_law ?kk_law ?z_ValueError ?z_abs ?z_any ?z_bool ?z_dict ?z_int ?z_isinstance ?z_len ?z_list ?z_min ?z_range ?z_str ?z_super ?z_tuple ?z_zip
    (case v_END => k_is)
    (case v_FILLER => k_is)
    (case v_MSS => k_is)
    (case v_SCALE => k_is)
    (case v_RANGES_KNOWN => k_is)
    (case v_RANGES => k_is)
    (case v_STAMP => k_is)
    (case v_COUNT => k_is)
    (case v_COUNT_MARK => k_is)
    (case tk_COUNT_MARK => k_is)
    (case v_GREATEST_SCALE => k_is)
    (case v_WRONG_OPTIONS => k_is)
    (case v_BODY_LENGTHS => k_is)
    (case dk_BODY_LENGTHS => k_is)
    (case tv_BODY_LENGTHS_2 => k_is)
    (case tv_BODY_LENGTHS_3 => k_is)
    (case tv_BODY_LENGTHS_4 => k_is)
    (case tv_BODY_LENGTHS_5 => k_is)
    (case tv_BODY_LENGTHS_8 => k_is)
    (case tv_BODY_LENGTHS_253 => k_is)
    (case hh_BODY_LENGTHS_0 => first | rfl | decide +kernel)
    (case hh_BODY_LENGTHS_1 => first | rfl | decide +kernel)
    (case hh_BODY_LENGTHS_2 => first | rfl | decide +kernel)
    (case hh_BODY_LENGTHS_3 => first | rfl | decide +kernel)
    (case hh_BODY_LENGTHS_4 => first | rfl | decide +kernel)
    (case hh_BODY_LENGTHS_5 => first | rfl | decide +kernel)
    (case low_BODY_LENGTHS => first | rfl | decide)
    (case c_ThroughlineError => k_is)
    (case be_ThroughlineError => k_is)
    (case te_ThroughlineError => k_is)
    (case hd_ThroughlineError => k_is)
    (case ic_ThroughlineError => k_is)
    (case c_InvalidOctets => k_is)
    (case be_InvalidOctets => k_is)
    (case te_InvalidOctets => k_is)
    (case hd_InvalidOctets => k_is)
    (case ic_InvalidOctets => k_is)
    (case c_DamagedSegment => k_is)
    (case be_DamagedSegment => k_is)
    (case te_DamagedSegment => k_is)
    (case hd_DamagedSegment => k_is)
    (case ic_DamagedSegment => k_is)
    (case yg_DamagedSegment => k_is)
    (case yk_DamagedSegment => k_is)
    (case n_DamagedSegment_reason => k_is)
    (case xg_DamagedSegment => k_is)
    (case xk_DamagedSegment => k_is)
    (case xa_DamagedSegment => k_is)
    (case xm_DamagedSegment => k_is)
    (case hn_all => k_is)
    (case ht_all => k_is)
    (case su_DamagedSegment_ThroughlineError => first | k_is | rfl)
    (case su_DamagedSegment_InvalidOctets => first | k_is | rfl)
    (case su_DamagedSegment_DamagedSegment => first | k_is | rfl)
    (case su_DamagedSegment_ValueError => first | k_is | rfl)
    (case sr_DamagedSegment => first | rfl | k_is)
    (case a_DamagedSegment_init__ => k_is)
    (case ly_DamagedSegment_init__ => k_is)
    (case l_DamagedSegment_init__ => k_is)
    (case cc0_DamagedSegment_init__ => k_is)
    (case kk_DamagedSegment_init__ => k_is)
    (case la_DamagedSegment_init__ => k_is)
    (case lv_DamagedSegment_init__ => rfl)
    (case lf_DamagedSegment_init__ => first | rfl | decide +kernel | kernel_rfl)
    (case le_DamagedSegment_init__ => k_is)
    (case ld_DamagedSegment_init__ => k_is)
    (case ls_DamagedSegment_init__ => k_is)
    (case lt_DamagedSegment_init__ => first | rfl | decide +kernel)
    (case lu_DamagedSegment_init__ => ks_is)
    (case ve_DamagedSegment_init__ => k_is)
    (case lo_DamagedSegment_init__ => k_is)
    (case ox_DamagedSegment_init__ => first | k_is | exact rfl)
    (case ov_DamagedSegment_init__ => first | rfl | decide +kernel)
    (case sa_DamagedSegment_init__ => k_is)
    (case kc_DamagedSegment_init__ => k_is)
    (case a_read_number => k_is)
    (case l_read_number => k_is)
    (case cc_read_number => k_is)
    (case kk_read_number => k_is)
    (case a_read_options => k_is)
    (case l_read_options => k_is)
    (case cc_read_options => k_is)
    (case kk_read_options => k_is)
    (case a_split => k_is)
    (case l_split => k_is)
    (case cc_split => k_is)
    (case kk_split => k_is)
    (case a_option_size => k_is)
    (case l_option_size => k_is)
    (case cc_option_size => k_is)
    (case kk_option_size => k_is)
    (case a_read_bodies => k_is)
    (case l_read_bodies => k_is)
    (case cc_read_bodies => k_is)
    (case kk_read_bodies => k_is)
    (case a_is_known => k_is)
    (case l_is_known => k_is)
    (case cc_is_known => k_is)
    (case kk_is_known => k_is)
    (case a_wire_numbers => k_is)
    (case l_wire_numbers => k_is)
    (case cc_wire_numbers => k_is)
    (case kk_wire_numbers => k_is)
    (case a_l_is_integer => k_is)
    (case l_l_is_integer => k_is)
    (case cc_l_is_integer => k_is)
    (case kk_l_is_integer => k_is)
    (case a_l_cell => k_is)
    (case l_l_cell => k_is)
    (case cc_l_cell => k_is)
    (case kk_l_cell => k_is)
    (case a_l_row => k_is)
    (case l_l_row => k_is)
    (case cc_l_row => k_is)
    (case kk_l_row => k_is)
    (case a_l_number => k_is)
    (case l_l_number => k_is)
    (case cc_l_number => k_is)
    (case kk_l_number => k_is)
    (case a_l_pair => k_is)
    (case l_l_pair => k_is)
    (case cc_l_pair => k_is)
    (case kk_l_pair => k_is)
    (case a_l_all_pairs => k_is)
    (case l_l_all_pairs => k_is)
    (case cc_l_all_pairs => k_is)
    (case kk_l_all_pairs => k_is)
    (case a_l_value => k_is)
    (case l_l_value => k_is)
    (case cc_l_value => k_is)
    (case kk_l_value => k_is)
    (case a_l_pair_of => k_is)
    (case l_l_pair_of => k_is)
    (case cc_l_pair_of => k_is)
    (case kk_l_pair_of => k_is)
    (case a_l_body => k_is)
    (case l_l_body => k_is)
    (case cc_l_body => k_is)
    (case kk_l_body => k_is)
    (case a_l_skipped => k_is)
    (case l_l_skipped => k_is)
    (case cc_l_skipped => k_is)
    (case kk_l_skipped => k_is)
    (case a_l_values => k_is)
    (case l_l_values => k_is)
    (case cc_l_values => k_is)
    (case kk_l_values => k_is)
    (case a_l_put => k_is)
    (case l_l_put => k_is)
    (case cc_l_put => k_is)
    (case kk_l_put => k_is)
    (case a_l_items => k_is)
    (case l_l_items => k_is)
    (case cc_l_items => k_is)
    (case kk_l_items => k_is)
    (case a_l_faulty => k_is)
    (case l_l_faulty => k_is)
    (case cc_l_faulty => k_is)
    (case kk_l_faulty => k_is)
    (case a_l_raises => k_is)
    (case l_l_raises => k_is)
    (case cc_l_raises => k_is)
    (case kk_l_raises => k_is)
    (case a_l_right => k_is)
    (case l_l_right => k_is)
    (case cc_l_right => k_is)
    (case kk_l_right => k_is)
    (case a_law => k_is)
    (case l_law => k_is)
    (case cc_law => k_is)
    (case kk_law => k_is)
    (case z_ValueError => k_is)
    (case z_abs => k_is)
    (case z_any => k_is)
    (case z_bool => k_is)
    (case z_dict => k_is)
    (case z_int => k_is)
    (case z_isinstance => k_is)
    (case z_len => k_is)
    (case z_list => k_is)
    (case z_min => k_is)
    (case z_range => k_is)
    (case z_str => k_is)
    (case z_super => k_is)
    (case z_tuple => k_is)
    (case z_zip => k_is)
#print axioms PySem.Challenge.cw_throughline_k07_options_read_holds

