import PyProof.Rows.All
import Wide.All
import OpenK.AllK
import Wide.FinOn
import HandS.ForMost
import HandS.IsInst
import HandS.Wide
import HandS.Style
import HandS.Conv
import HandS.RevRange
import HandS.Walk
import HandS.Property
import HandS.Star
import HandS.Codes
import HandS.TupAny
import HandS.WideBits
import HandS.MakeKwOnly
import HandS.Defaults
import HandS.ForExc
import HandS.Small
import HandS.RaiseMore
import HandS.FStr
import HandS.ExcIs
import HandS.WrittenGet
import HandS.More
import HandS.Flow
import PySem.Challenge.RW_throughline_k35_options_have_bounds
set_option Elab.async false
set_option linter.all false
set_option maxRecDepth 100000
set_option maxHeartbeats 4000000
namespace My
open PySem PySem.Spec L2
/-! ### readings, one rule a construct -/
section
variable {K : PySem.W.Frag} {σ : St} {H : Hp} {Q : VK} {v x y z : V} {ta tb te tc : TE} {tt tu : TT} {r : R2} {D : Ends} {ts us : TS} {P : Bool → Hp → Prop} {i j : Int}
theorem g_var {i : Nat} (h : σ[i]? = some (some v)) (q : Q v H) : tVar i σ H Q := ⟨v, h, q⟩
theorem g_c (q : Q v H) : tC v σ H Q := q
theorem g_op (h : ta σ H fun x H1 => tb σ H1 fun y H2 => r x y H2 Q) : tOp r ta tb σ H Q := h
theorem g_un {r : V → Hp → VK → Prop} (h : ta σ H fun x H1 => r x H1 Q) : tUn r ta σ H Q := h
theorem g_rI0 {g : Int → Int → V} (q : Q (g i j) H) : rI0 g (.int i) (.int j) H Q := ⟨i, j, rfl, rfl, q⟩
theorem g_rI {C : Int → Int → Prop} {g : Int → Int → V} (c : C i j) (q : Q (g i j) H) : rI C g (.int i) (.int j) H Q := ⟨i, j, rfl, rfl, c, q⟩
theorem g_rU {g : Int → V} (q : Q (g i) H) : rU g (.int i) H Q := ⟨i, rfl, q⟩
theorem g_rEqI (q : Q (.bl (decide (i = j))) H) : rEq (.int i) (.int j) H Q := ⟨rfl, by rw [dec_int]; exact q⟩
theorem g_rNeI (q : Q (.bl (!decide (i = j))) H) : rNe (.int i) (.int j) H Q := ⟨rfl, by rw [dec_int]; exact q⟩
theorem g_rEq (s : scal x y = true) (q : Q (.bl (decide (x = y))) H) : rEq x y H Q := ⟨s, q⟩
theorem g_rNe (s : scal x y = true) (q : Q (.bl (!decide (x = y))) H) : rNe x y H Q := ⟨s, q⟩
theorem g_isN {A : Prop} (q : A) : V.non = V.non ∧ A := ⟨rfl, q⟩
theorem g_rIsB {a b : Bool} (q : Q (.bl (decide (a = b))) H) : rIsB (.bl a) (.bl b) H Q := ⟨a, b, rfl, rfl, q⟩
theorem g_rNotB {a b : Bool} (q : Q (.bl (!decide (a = b))) H) : rNotB (.bl a) (.bl b) H Q := ⟨a, b, rfl, rfl, q⟩
theorem g_test {t : TE} (h : t σ H fun x H' => ∃ k, x = .bl k ∧ P k H') : tTest t σ H P := h
theorem g_B {t : TE} (h : t σ H fun x H' => ∃ k, x = .bl k ∧ P k H') : tB t σ H P := h
theorem g_bl {b : Bool} {A : Bool → Prop} (q : A b) : ∃ k, V.bl b = .bl k ∧ A k := ⟨b, rfl, q⟩
theorem g_and (h : tt σ H fun c H1 => if c = true then tu σ H1 P else P false H1) : tAnd tt tu σ H P := h
theorem g_or (h : tt σ H fun c H1 => if c = true then P true H1 else tu σ H1 P) : tOr tt tu σ H P := h
theorem g_not (h : tt σ H fun c H1 => P (!c) H1) : tNot tt σ H P := h
theorem g_andV (h : ta σ H fun x H1 => ∃ c, x = .bl c ∧ if c = true then tb σ H1 Q else Q (.bl false) H1) : tAndV ta tb σ H Q := h
theorem g_orV (h : ta σ H fun x H1 => ∃ c, x = .bl c ∧ if c = true then Q (.bl true) H1 else tb σ H1 Q) : tOrV ta tb σ H Q := h
theorem g_notV (h : ta σ H fun x H1 => ∃ c, x = .bl c ∧ Q (.bl (!c)) H1) : tNotV ta σ H Q := h
theorem g_if (h : tt σ H fun c H1 => if c = true then ta σ H1 Q else tb σ H1 Q) : tIf tt ta tb σ H Q := h
theorem g_chain {r' : R2} (h : ta σ H fun x H1 => tb σ H1 fun y H2 => r x y H2 fun z H3 => ∃ k, z = .bl k ∧ (if k = true then tc σ H3 fun w' H4 => r' y w' H4 Q else Q (.bl false) H3)) : tChain r r' ta tb tc σ H Q := h
theorem g_nil {A : List V → Hp → Prop} (q : A [] H) : tNil σ H A := q
theorem g_cons {tr : TA} {A : List V → Hp → Prop} (h : ta σ H fun x H1 => tr σ H1 fun xs H2 => A (x :: xs) H2) : tCons ta tr σ H A := h
theorem g_tup {t : TA} (h : t σ H fun xs H1 => xs.length ≤ sizeLine ∧ ∀ p, H1 p = none → Q (.ref p) (upd H1 p (.tup xs))) : tTup t σ H Q := h
theorem g_lst {t : TA} (h : t σ H fun xs H1 => xs.length ≤ sizeLine ∧ ∀ p, H1 p = none → Q (.ref p) (upd H1 p (.lst xs))) : tLst t σ H Q := h
theorem g_call {sp : Sp} {dvs : List V} {E : XK} {t : TA} (h : t σ H fun vs H1 => sp (vs ++ dvs) H1 Q E) : tCall sp dvs E t σ H Q := h
theorem g_CB {r : List V → Hp → VK → Prop} {t : TA} (h : t σ H fun vs H1 => r vs H1 Q) : tCB r t σ H Q := h
theorem g_sl {r : V → Option Int → Option Int → Hp → VK → Prop} {tl th : TO} (h : te σ H fun x H1 => tl σ H1 fun l H2 => th σ H2 fun u H3 => r x l u H3 Q) : tSl r te tl th σ H Q := h
theorem g_noPart {A : Option Int → Hp → Prop} (q : A none H) : tNoPart σ H A := q
theorem g_part {A : Option Int → Hp → Prop} (h : te σ H fun x H1 => ∃ i, x = .int i ∧ A (some i) H1) : tPart te σ H A := h
theorem g_intE {A : Int → Prop} (q : A i) : ∃ k, V.int i = .int k ∧ A k := ⟨i, rfl, q⟩
theorem g_seq (h : ts { D with nx := us D } σ H) : tSeq ts us D σ H := h
theorem g_next (q : D.nx σ H) : tNext D σ H := q
theorem g_brk (q : D.bk σ H) : tBreak D σ H := q
theorem g_ct (q : D.ct σ H) : tCont D σ H := q
theorem g_asg {g : TG} (h : te σ H fun x H1 => g x σ H1 D.nx) : tAsg te g D σ H := h
theorem g_name {i : Nat} {A : St → Hp → Prop} (q : A (σ.set i (some v)) H) : gName i v σ H A := q
theorem g_aug {i : Nat} {ti : TIp} (h : σ[i]? = some (some x)) (q : te σ H fun y H1 => ti x y H1 fun z H2 => D.nx (σ.set i (some z)) H2) : tAug i te ti D σ H := ⟨x, h, q⟩
theorem g_ipI {f : Int → Int → Int} (q : Q (.int (f i j)) H) : ipI f (.int i) (.int j) H Q := ⟨i, j, rfl, rfl, q⟩
theorem g_drop (h : te σ H fun _ H1 => D.nx σ H1) : tDrop te D σ H := h
theorem g_ret (h : te σ H D.rt) : tRet te D σ H := h
theorem g_retN (q : D.rt .non H) : tRetN D σ H := q
theorem g_ifS (h : tt σ H fun b H1 => if b = true then ts D σ H1 else us D σ H1) : tIfS tt ts us D σ H := h
theorem g_for {wi : TI} {g : TG} {tb : TS} (h : wi σ H fun J H1 => ∃ W : Nat → Nat → St → Hp → Prop, (∃ m, W 0 m σ H1) ∧ ∀ i m σ H, W i m σ H →
    (J.stop i H ∧ D.nx σ H) ∨ (J.go i H ∧ ∃ N : St → Hp → Prop, (∀ σ' H', N σ' H' → ∃ m', m' < m ∧ W (i + 1) m' σ' H') ∧ ∀ x H', J.yld i H x H' → g x σ H' fun σ2 H2 => tb { D with nx := N, ct := N, bk := D.nx } σ2 H2)) : tFor wi g tb D σ H := h
theorem g_iT {c : Bool} {A B : Prop} (e : c = true) (h : A) : if c = true then A else B := by rw [if_pos e]; exact h
theorem g_iF {c : Bool} {A B : Prop} (e : c = false) (h : B) : if c = true then A else B := by rw [e]; exact iteF h
theorem g_ite {p A B : Prop} [Decidable p] (h1 : p → A) (h2 : ¬ p → B) : if decide p = true then A else B := by
  by_cases h : p
  · rw [decide_eq_true h]; exact iteT (h1 h)
  · rw [decide_eq_false h]; exact iteF (h2 h)
theorem g_iteN {p A B : Prop} [Decidable p] (h1 : ¬ p → A) (h2 : p → B) : if (!decide p) = true then A else B := by
  by_cases h : p
  · rw [decide_eq_true h]; exact iteF (h2 h)
  · rw [decide_eq_false h]; exact iteT (h1 h)
theorem g_iteB {b : Bool} {A B : Prop} (h1 : b = true → A) (h2 : b = false → B) : if b = true then A else B := by
  cases b with
  | true => exact iteT (h1 rfl)
  | false => exact iteF (h2 rfl)
theorem g_iteNB {b : Bool} {A B : Prop} (h1 : b = false → A) (h2 : b = true → B) : if (!b) = true then A else B := by
  cases b with
  | true => exact iteF (h2 rfl)
  | false => exact iteT (h1 rfl)
/-! calls of built-ins, by values -/
theorem g_int1 {A : Int → Prop} {B : Bool → Prop} (q : A i) : (∃ i', [V.int i] = [V.int i'] ∧ A i') ∨ ∃ k, [V.int i] = [V.bl k] ∧ B k := .inl ⟨i, rfl, q⟩
theorem g_int1B {b : Bool} {A : Int → Prop} {B : Bool → Prop} (q : B b) : (∃ i', [V.bl b] = [V.int i'] ∧ A i') ∨ ∃ k, [V.bl b] = [V.bl k] ∧ B k := .inr ⟨b, rfl, q⟩
theorem g_one {A : Int → Prop} (q : A i) : ∃ i', [V.int i] = [V.int i'] ∧ A i' := ⟨i, rfl, q⟩
theorem g_two {A : Int → Int → Prop} (q : A i j) : ∃ i' j', [V.int i, V.int j] = [V.int i', V.int j'] ∧ A i' j' := ⟨i, j, rfl, q⟩
theorem g_isi {c : V} {t u : Value} {b : Bool} (hc : ClsV c u) (ht : TyX K H x t) (e : PySem.W.kitOne K t u = some b) (q : Q (.bl b) H) : rIsi K [x, c] H Q := ⟨x, c, t, u, b, rfl, hc, ht, e, q⟩
theorem g_isiI (q : Q (.bl true) H) : rIsi K [.int i, .ty "int"] H Q := g_isi (.ty _) (.base (.int _)) (kit_ty (by decide +kernel)) q
theorem g_isiB {b : Bool} (q : Q (.bl true) H) : rIsi K [.bl b, .ty "bool"] H Q := g_isi (.ty _) (.base (.bl _)) (kit_ty (by decide +kernel)) q
theorem g_isiIB (q : Q (.bl false) H) : rIsi K [.int i, .ty "bool"] H Q := g_isi (.ty _) (.base (.int _)) (kit_ty (by decide +kernel)) q
theorem g_isiL {p : Addr} {xs : List V} (h : H p = some (.lst xs)) (q : Q (.bl true) H) : rIsi K [.ref p, .ty "list"] H Q := g_isi (.ty _) (.base (.lst h)) (kit_ty (by decide +kernel)) q
theorem g_isiU {p : Addr} {xs : List V} (h : H p = some (.tup xs)) (q : Q (.bl true) H) : rIsi K [.ref p, .ty "tuple"] H Q := g_isi (.ty _) (.base (.tup h)) (kit_ty (by decide +kernel)) q
theorem g_ixL {p : Addr} {xs : List V} (h : SqL K H p xs) (e : atI xs i = some v) (q : Q v H) : rIxL K (.ref p) (.int i) H Q := ⟨p, xs, i, v, rfl, rfl, h, e, q⟩
theorem g_ixT {p : Addr} {xs : List V} (h : SqT K H p xs) (e : atI xs i = some v) (q : Q v H) : rIxT K (.ref p) (.int i) H Q := ⟨p, xs, i, v, rfl, rfl, h, e, q⟩
theorem g_append {p : Addr} {xs : List V} (h : H p = some (.lst xs)) (l : xs.length < sizeLine) (q : Q .non (upd H p (.lst (xs ++ [y])))) : rAppend (.ref p) [y] H Q := ⟨p, xs, y, rfl, rfl, h, l, q⟩
theorem g_BM {T : String} {r : V → List V → Hp → VK → Prop} {t : TA} (h : te σ H fun x H1 => tyV K T x H1 ∧ t σ H1 fun xs H2 => r x xs H2 Q) : tBM K T r te t σ H Q := h
theorem g_BM0 {T : String} {r : V → List V → Hp → VK → Prop} (h : te σ H fun x H1 => tyV K T x H1 ∧ r x [] H1 Q) : tBM0 K T r te σ H Q := h
theorem ty_l {p : Addr} {xs : List V} (h : H p = some (.lst xs)) : tyV K "list" (.ref p) H := Or.inl ⟨rfl, _, Or.inl (Or.inl h)⟩
theorem g_setL {p : Addr} {xs : List V} {k : Int} {j : Nat} {A : Hp → Prop} (h : H p = some (.lst xs)) (e : ixN xs.length k = some j) (q : A (upd H p (.lst (xs.set j v)))) : rSetL (.ref p) (.int k) v H A := ⟨p, xs, k, j, rfl, rfl, h, e, q⟩
theorem g_sub {to ti : TE} {t : TSet} {A : St → Hp → Prop} (h : to σ H fun o H1 => ti σ H1 fun i H2 => t o i v H2 fun H3 => A σ H3) : gSub to ti t v σ H A := h
theorem g_len {p : Addr} {xs : List V} {A : Addr → List V → Prop} (h : SqL K H p xs ∨ SqT K H p xs) (q : A p xs) : ∃ p' ys, [V.ref p] = [V.ref p'] ∧ (SqL K H p' ys ∨ SqT K H p' ys) ∧ A p' ys := ⟨p, xs, rfl, h, q⟩
theorem g_slL {p : Addr} {xs : List V} {lo hi : Option Int} (h : SqL K H p xs) (q : ∀ l, H l = none → Q (.ref l) (upd H l (.lst (cutV xs lo hi)))) : rSlL K (.ref p) lo hi H Q := ⟨p, xs, rfl, h, q⟩
theorem g_cat {p q : Addr} {xs ys : List V} (h : H p = some (.lst xs)) (h2 : H q = some (.lst ys)) (l : xs.length + ys.length ≤ sizeLine) (k : ∀ l, H l = none → Q (.ref l) (upd H l (.lst (xs ++ ys)))) : rCat (.ref p) (.ref q) H Q := ⟨p, q, xs, ys, rfl, rfl, h, h2, l, k⟩
end
/-! ### heaps -/
theorem same_upd {H : Hp} {p : Addr} {o : HO} (h : H p = none) : Same H (upd H p o) := fun b x e => by
  rw [upd_ne (ne_of_none e h)]
  exact e
theorem sm {H H' : Hp} {p : Addr} {o : HO} (s : Same H H') (h : H p = some o) : H' p = some o := s p o h
theorem sq_upd {K : PySem.W.Frag} {H : Hp} {p a : Addr} {o : HO} {xs : List V} (n : H p = none) (h : SqL K H a xs) : SqL K (upd H p o) a xs := (same_upd n).seq h
theorem sl {K : PySem.W.Frag} {H : Hp} {a : Addr} {xs : List V} (h : H a = some (.lst xs)) : SqL K H a xs := Or.inl (Or.inl h)
theorem st {K : PySem.W.Frag} {H : Hp} {a : Addr} {xs : List V} (h : H a = some (.tup xs)) : SqT K H a xs := Or.inl (Or.inl h)
theorem Same.sqt {K : PySem.W.Frag} {H H' : Hp} {a : Addr} {xs : List V} (e : Same H H') (h : SqT K H a xs) : SqT K H' a xs := by
  rcases h with (h | ⟨o, h⟩) | h
  · exact .inl (.inl (e _ _ h))
  · exact .inl (.inr ⟨o, e _ _ h⟩)
  · exact .inr h
theorem upd_keep {H : Hp} {p b : Addr} {o o' : HO} (n : H p = none) (h : H b = some o') : upd H p o b = some o' := (same_upd n) b o' h
theorem ne_new {H : Hp} {p b : Addr} {o : HO} (h : H b = some o) (n : H p = none) : b ≠ p := ne_of_none h n
/-- H' is H but at p -/
def But (p : Addr) (H H' : Hp) : Prop := ∀ b o, b ≠ p → H b = some o → H' b = some o
theorem But.refl {p : Addr} {H : Hp} : But p H H := fun _ _ _ h => h
theorem But.of {p : Addr} {H H' : Hp} (s : Same H H') : But p H H' := fun b o _ h => s b o h
theorem But.trans {p : Addr} {H H1 H2 : Hp} (a : But p H H1) (b : But p H1 H2) : But p H H2 := fun c o n h => b c o n (a c o n h)
theorem But.upd {p : Addr} {H H' : Hp} {o : HO} (a : But p H H') : But p H (upd H' p o) := fun b o n h => by rw [upd_ne n]; exact a b o n h
theorem But.same {p : Addr} {H H' : Hp} (a : But p H H') (n : H p = none) : Same H H' := fun b o h => a b o (ne_of_none h n) h
theorem But.tr2 {p : Addr} {H H1 H2 : Hp} (s : Same H H1) (n : H p = none) (a : But p H1 H2) : Same H H2 := fun b o h => a b o (ne_of_none h n) (s b o h)
/-! ### numbers -/
theorem cdivW {a b : Int} (h : 0 < b) (h2 : b < 2 ^ 8000) : CDivW a b := by
  refine ⟨h, ?_⟩
  have e : b.natAbs < 2 ^ 8000 := by
    have : ((b.natAbs : Nat) : Int) < ((2 ^ 8000 : Nat) : Int) := by
      rw [Int.natAbs_of_nonneg (Int.le_of_lt h)]
      exact_mod_cast h2
    exact_mod_cast this
  by_cases z : b.natAbs = 0
  · rw [z]; decide
  · exact Nat.lt_of_lt_of_le (Nat.log2_lt z |>.mpr e) (by decide)
theorem sz {n : Nat} (h : n ≤ 100000) : n ≤ sizeLine := Nat.le_trans h (by decide)
theorem szl {n : Nat} (h : n < 100000) : n < sizeLine := Nat.lt_of_lt_of_le h (by decide)
/-! ### loops -/
theorem for_l {K : PySem.W.Frag} {tl : TE} {g : TG} {tb : TS} {D : Ends} {σ : St} {H : Hp} {a : Addr} {xs : List V} (Pv : Nat → St → Hp → Prop) (hs : SqL K H a xs) (h0 : Pv 0 σ H) (hl : ∀ i σ H, i ≤ xs.length → Pv i σ H → SqL K H a xs)
    (turn : ∀ i x σ H, xs[i]? = some x → Pv i σ H → g x σ H fun σ2 H2 => tb { D with nx := Pv (i + 1), ct := Pv (i + 1), bk := D.nx } σ2 H2) (hd : ∀ σ H, Pv xs.length σ H → D.nx σ H) (e : ∀ R : V → Hp → Prop, R (.ref a) H → tl σ H R) : tFor (iList K tl) g tb D σ H := by
  refine g_for ?_
  refine e _ ⟨a, rfl, ⟨_, hs⟩, ?_⟩
  exact for_list (xs := xs) Pv h0 hl turn hd
theorem for_r {ta : TA} {g : TG} {tb : TS} {D : Ends} {σ : St} {H : Hp} {n : Int} (N : Nat) (en : n.toNat = N) (b1 : -(2 ^ 62) ≤ n) (b2 : n < 2 ^ 62) (Pv : Nat → St → Hp → Prop) (h0 : Pv 0 σ H)
    (turn : ∀ (i : Nat) σ H, i < N → Pv i σ H → g (.int (i : Int)) σ H fun σ2 H2 => tb { D with nx := Pv (i + 1), ct := Pv (i + 1), bk := D.nx } σ2 H2) (hd : ∀ σ H, Pv N σ H → D.nx σ H) (e : ∀ R : List V → Hp → Prop, R [.int n] H → ta σ H R) : tFor (iRng1 ta) g tb D σ H := by
  subst en
  refine g_for ?_
  refine e _ ⟨n, rfl, b1, b2, ?_⟩
  refine for_range (lo := 0) Pv h0 (fun i σ H hi p => ?_) hd
  have z := turn i σ H hi p
  rw [Int.zero_add]
  exact z
theorem g_nx {nx : St → Hp → Prop} {rt : VK} {bk ct : St → Hp → Prop} {σ : St} {H : Hp} (q : nx σ H) : (Ends.mk nx rt bk ct).nx σ H := q
theorem g_bkE {nx : St → Hp → Prop} {rt : VK} {bk ct : St → Hp → Prop} {σ : St} {H : Hp} (q : bk σ H) : (Ends.mk nx rt bk ct).bk σ H := q
theorem g_ctE {nx : St → Hp → Prop} {rt : VK} {bk ct : St → Hp → Prop} {σ : St} {H : Hp} (q : ct σ H) : (Ends.mk nx rt bk ct).ct σ H := q
theorem g_rt {nx : St → Hp → Prop} {rt : VK} {bk ct : St → Hp → Prop} {v : V} {H : Hp} (q : rt v H) : (Ends.mk nx rt bk ct).rt v H := q
/-- a cell of the script -/
def cell (ns : List Int) (k : Int) : Int := ns.getD k.toNat 0
theorem atI_map {ns : List Int} {k : Int} (h0 : 0 ≤ k) (h : k < (ns.length : Int)) : atI (ns.map V.int) k = some (.int (cell ns k)) := by
  have e : k = ((k.toNat : Nat) : Int) := by omega
  have hl : k.toNat < ns.length := by omega
  have e2 : cell ns k = ns[k.toNat] := by
    unfold cell
    rw [List.getD_eq_getElem?_getD, List.getElem?_eq_getElem hl]; rfl
  rw [e2]
  refine at_of e ?_
  rw [List.getElem?_map, List.getElem?_eq_getElem hl]; rfl
theorem cell_out {ns : List Int} {k : Int} (h : ¬ k < (ns.length : Int)) : cell ns k = 0 := by
  unfold cell
  rw [List.getD_eq_getElem?_getD, List.getElem?_eq_none (by omega)]; rfl
theorem atI_some {xs : List V} {i : Int} (h0 : 0 ≤ i) (h : i < (xs.length : Int)) : ∃ v, xs[i.toNat]? = some v ∧ atI xs i = some v := by
  have hl : i.toNat < xs.length := by omega
  exact ⟨xs[i.toNat], List.getElem?_eq_getElem hl, at_of (by omega) (List.getElem?_eq_getElem hl)⟩
theorem atI_ints {xs : List Int} {i : Int} (h0 : 0 ≤ i) (h : i < (xs.length : Int)) : ∃ n, atI (xs.map V.int) i = some (.int n) ∧ xs[i.toNat]? = some n := by
  have hl : i.toNat < xs.length := by omega
  refine ⟨xs[i.toNat], at_of (j := i.toNat) (by omega) ?_, List.getElem?_eq_getElem hl⟩
  rw [List.getElem?_map, List.getElem?_eq_getElem hl]; rfl
theorem g_dT {p A B : Prop} [Decidable p] (h : p) (q : A) : if decide p = true then A else B := by rw [decide_eq_true h]; exact iteT q
theorem g_dF {p A B : Prop} [Decidable p] (h : ¬ p) (q : B) : if decide p = true then A else B := by rw [decide_eq_false h]; exact iteF q
theorem g_nT {p A B : Prop} [Decidable p] (h : ¬ p) (q : A) : if (!decide p) = true then A else B := by rw [decide_eq_false h]; exact iteT q
theorem g_nF {p A B : Prop} [Decidable p] (h : p) (q : B) : if (!decide p) = true then A else B := by rw [decide_eq_true h]; exact iteF q
/-! ### comprehensions: the list ys, value by value -/
theorem g_yes {σ : St} {H : Hp} {P : Bool → Hp → Prop} (q : P true H) : tYes σ H P := q
theorem g_lc {wi : TI} {g : TG} {tt : TT} {te : TE} {vs : List Nat} {σ : St} {H : Hp} {Q : VK} (h : wi σ H fun J H1 => ∀ D, H1 D = none → ∃ W : Nat → Nat → Hp → Prop, (∃ m, W 0 m (upd H1 D (.lst []))) ∧ ∀ i m H, W i m H →
  (J.stop i H ∧ Q (.ref D) H) ∨ (J.go i H ∧ ∃ Nx : Hp → Prop, (∀ H', Nx H' → ∃ m', m' < m ∧ W (i + 1) m' H') ∧ ∀ x H', J.yld i H x H' → g x (wipe σ vs) H' fun σ2 H2 => wipe σ2 vs = wipe σ vs ∧ tt σ2 H2 fun b H3 =>
    if b = true then te σ2 H3 fun y H4 => ∃ acc, H4 D = some (.lst acc) ∧ acc.length < sizeLine ∧ Nx (upd H4 D (.lst (acc ++ [y]))) else Nx H3)) : tLc wi g tt te vs σ H Q := h
theorem g_revR {ta : TE} {σ : St} {H : Hp} {R : It → Hp → Prop} (h : ta σ H fun x H1 => ∃ n : Int, x = .int n ∧ -(2 ^ 62) ≤ (0 : Int) ∧ (0 : Int) < 2 ^ 62 ∧ -(2 ^ 62) ≤ n ∧ n < 2 ^ 62 ∧ R (Itc (0 + (((n - 0).toNat : Nat) : Int) - 1) (-1) (n - 0).toNat) H1) : iRevR (tRg1 ta) σ H R := h
theorem g_rng1 {ta : TA} {σ : St} {H : Hp} {R : It → Hp → Prop} (h : ta σ H fun vs H1 => ∃ j : Int, vs = [.int j] ∧ -(2 ^ 62) ≤ j ∧ j < 2 ^ 62 ∧ R (Itr 0 j.toNat) H1) : iRng1 ta σ H R := h
theorem g_iList {K : PySem.W.Frag} {tl : TE} {σ : St} {H : Hp} {R : It → Hp → Prop} (h : tl σ H fun x H1 => ∃ a, x = .ref a ∧ (∃ xs, SqL K H1 a xs) ∧ R (Itl K a) H1) : iList K tl σ H R := h
def LcP (H1 : Hp) (D : Addr) (ys : List V) (i : Nat) (H : Hp) : Prop := Same H1 H ∧ H D = some (.lst (ys.take i))
theorem lc_vals {J : It} {n : Nat} {G : Hp → Prop} {Y : Nat → Hp → V → Hp → Prop} (w : Walk J n G Y) (ys : List V) {g : TG} {tt : TT} {te : TE} {vs : List Nat} {σ : St} {H1 : Hp} {D : Addr} {Qd : Hp → Prop} (hD : H1 D = none) (hlen : ys.length = n) (hG : ∀ H, Same H1 H → G H)
    (hs : ∀ i x H H', i < n → LcP H1 D ys i H → Y i H x H' → g x (wipe σ vs) H' fun σ2 H2 => wipe σ2 vs = wipe σ vs ∧ tt σ2 H2 fun b H3 =>
      if b = true then te σ2 H3 fun y H4 => ∃ acc, H4 D = some (.lst acc) ∧ acc.length < sizeLine ∧ LcP H1 D ys (i + 1) (upd H4 D (.lst (acc ++ [y]))) else LcP H1 D ys (i + 1) H3)
    (hd : ∀ H, Same H1 H → H D = some (.lst ys) → Qd H) :
    ∃ W : Nat → Nat → Hp → Prop, (∃ m, W 0 m (upd H1 D (.lst []))) ∧ ∀ i m H, W i m H →
      (J.stop i H ∧ Qd H) ∨ (J.go i H ∧ ∃ Nx : Hp → Prop, (∀ H', Nx H' → ∃ m', m' < m ∧ W (i + 1) m' H') ∧ ∀ x H', J.yld i H x H' → g x (wipe σ vs) H' fun σ2 H2 => wipe σ2 vs = wipe σ vs ∧ tt σ2 H2 fun b H3 =>
        if b = true then te σ2 H3 fun y H4 => ∃ acc, H4 D = some (.lst acc) ∧ acc.length < sizeLine ∧ Nx (upd H4 D (.lst (acc ++ [y]))) else Nx H3) := by
  refine lc_it w (LcP H1 D ys) ⟨same_upd hD, by rw [upd_same]; rfl⟩ (fun i H _ p => hG H p.1) hs (fun H p => hd H p.1 ?_)
  have e := p.2
  rw [← hlen, List.take_length] at e
  exact e
theorem lc_next {H1 H4 : Hp} {D : Addr} {ys : List V} {i : Nat} {y : V} (hD : H1 D = none) (p : LcP H1 D ys i H4) (hz : ys.length ≤ 100000) (hy : ys[i]? = some y) :
    ∃ acc, H4 D = some (.lst acc) ∧ acc.length < sizeLine ∧ LcP H1 D ys (i + 1) (upd H4 D (.lst (acc ++ [y]))) := by
  refine ⟨_, p.2, ?_, ?_, ?_⟩
  · rw [List.length_take]
    obtain ⟨h, _⟩ := List.getElem?_eq_some_iff.mp hy
    exact szl (by omega)
  · exact (But.of p.1).upd.same hD
  · rw [upd_same, List.take_add_one, hy]
    rfl
theorem LcP.same {H1 H4 H5 : Hp} {D : Addr} {ys : List V} {i : Nat} (p : LcP H1 D ys i H4) (s : Same H4 H5) : LcP H1 D ys i H5 := ⟨p.1.trans s, s _ _ p.2⟩
theorem map_get {α : Type} {f : α → V} {xs : List α} {i : Nat} {y : V} (h : (xs.map f)[i]? = some y) : ∃ z, xs[i]? = some z ∧ y = f z := by
  rw [List.getElem?_map] at h
  cases e : xs[i]? with
  | none => rw [e] at h; cases h
  | some z => rw [e] at h; exact ⟨z, rfl, (Option.some.inj h).symm⟩
/-! ### == of lists of ints -/
section
variable {K : PySem.W.Frag} {H : Hp} {Q : VK}
theorem dpAll_ints : ∀ {ns : List Int}, DpAll K H (ns.map V.int) (ns.map PyData.int)
  | [] => .nil
  | n :: _ => .cons (.int n) dpAll_ints
theorem lay_ints : ∀ {ns : List Int}, PyData.canLayAll0 (ns.map PyData.int) = true
  | [] => rfl
  | _ :: ns => by
    show (true && PyData.canLayAll0 (ns.map PyData.int)) = true
    rw [lay_ints]; rfl
theorem depth_ints : ∀ {ns : List Int}, PyData.depthAll (ns.map PyData.int) = 0
  | [] => rfl
  | _ :: ns => by
    show max 0 (PyData.depthAll (ns.map PyData.int)) = 0
    rw [depth_ints]; rfl
theorem shaped_ints {ns : List Int} : SeqAt.shaped (.list (ns.map PyData.int)) = true := by
  show (PyData.canLayAll0 (ns.map PyData.int) && decide (PyData.depthAll (ns.map PyData.int) + 1 ≤ 64)) = true
  rw [lay_ints, depth_ints]; rfl
theorem eqvAll_ints : ∀ {ns ms : List Int}, PyData.eqvAll (ns.map PyData.int) (ms.map PyData.int) = decide (ns = ms)
  | [], [] => rfl
  | [], _ :: _ => rfl
  | _ :: _, [] => rfl
  | n :: ns, m :: ms => by
    show ((n == m) && PyData.eqvAll (ns.map PyData.int) (ms.map PyData.int)) = decide (n :: ns = m :: ms)
    rw [eqvAll_ints, Bool.eq_iff_iff]
    simp
theorem dp_ints {a : Addr} {ns : List Int} (h : SqL K H a (ns.map V.int)) : Dp K H (.ref a) (.list (ns.map PyData.int)) := .lst h dpAll_ints
theorem g_eqL {a b : Addr} {ns ms : List Int} (h1 : SqL K H a (ns.map V.int)) (h2 : SqL K H b (ms.map V.int)) (q : Q (.bl (decide (ns = ms))) H) : rEqD K (.ref a) (.ref b) H Q :=
  ⟨_, _, dp_ints h1, dp_ints h2, shaped_ints, shaped_ints, by rw [show PyData.eqv (.list (ns.map PyData.int)) (.list (ms.map PyData.int)) = decide (ns = ms) from eqvAll_ints]; exact q⟩
theorem g_neL {a b : Addr} {ns ms : List Int} (h1 : SqL K H a (ns.map V.int)) (h2 : SqL K H b (ms.map V.int)) (q : Q (.bl (!decide (ns = ms))) H) : rNeD K (.ref a) (.ref b) H Q :=
  ⟨_, _, dp_ints h1, dp_ints h2, shaped_ints, shaped_ints, by rw [show PyData.eqv (.list (ns.map PyData.int)) (.list (ms.map PyData.int)) = decide (ns = ms) from eqvAll_ints]; exact q⟩
theorem g_sum {a : Addr} {ns : List Int} (h : SqL K H a (ns.map V.int)) (q : Q (.int ns.sum) H) : rSum K [.ref a] H Q := ⟨a, ns, rfl, h, q⟩
end
theorem ixN_nat {n : Nat} {k : Int} (h0 : 0 ≤ k) (h : k < (n : Int)) : ixN n k = some k.toNat := by
  unfold ixN
  rw [if_pos h0, if_pos h]
theorem g_ref {a : Addr} {A : Addr → Prop} (q : A a) : ∃ b, V.ref a = .ref b ∧ A b := ⟨a, rfl, q⟩
/-! ### objects: the attributes by their places -/
def obj : List Str → List V → List (Str × V)
  | k :: ks, v :: vs => (k, v) :: obj ks vs
  | _, _ => []
theorem obj_len : ∀ (ks : List Str) (vs : List V), (obj ks vs).length ≤ ks.length
  | [], _ => Nat.zero_le _
  | _ :: _, [] => Nat.zero_le _
  | _ :: ks, _ :: vs => Nat.succ_le_succ (obj_len ks vs)
theorem obj_get : ∀ {ks : List Str} {vs : List V} {i : Nat} {k : Str}, ks.Nodup → ks[i]? = some k → (obj ks vs).lookup k = vs[i]?
  | [], _, _, _, _, h => by cases h
  | k0 :: ks, [], i, k, _, _ => by simp [obj]
  | k0 :: ks, v :: vs, 0, k, _, h => by
    have e : k0 = k := Option.some.inj h
    subst e
    simp [obj]
  | k0 :: ks, v :: vs, i + 1, k, nd, h => by
    have nd' := List.nodup_cons.mp nd
    have hk : k ∈ ks := List.mem_of_getElem? h
    have ne : (k == k0) = false := by
      rw [beq_eq_false_iff_ne]
      intro e
      subst e
      exact nd'.1 hk
    show List.lookup k ((k0, v) :: obj ks vs) = vs[i]?
    rw [List.lookup_cons, ne]
    exact obj_get nd'.2 h
theorem obj_none : ∀ {ks : List Str} {vs : List V} {k : Str}, k ∉ ks → (obj ks vs).lookup k = none
  | [], _, _, _ => rfl
  | _ :: _, [], _, _ => rfl
  | k0 :: ks, v :: vs, k, h => by
    have ne : (k == k0) = false := by
      rw [beq_eq_false_iff_ne]
      intro e
      subst e
      exact h (List.mem_cons_self ..)
    show List.lookup k ((k0, v) :: obj ks vs) = none
    rw [List.lookup_cons, ne]
    exact obj_none fun z => h (List.mem_cons_of_mem _ z)
theorem obj_put : ∀ {ks : List Str} {vs : List V} {i : Nat} {k : Str} {y : V}, ks.Nodup → ks[i]? = some k → i < vs.length → putF k y (obj ks vs) = obj ks (vs.set i y)
  | [], _, _, _, _, _, h, _ => by cases h
  | _ :: _, [], _, _, _, _, _, h => by simp at h
  | k0 :: ks, v :: vs, 0, k, y, _, h, _ => by
    have e : k0 = k := Option.some.inj h
    subst e
    show (if k0 = k0 then _ else _) = _
    rw [if_pos rfl]
    rfl
  | k0 :: ks, v :: vs, i + 1, k, y, nd, h, hl => by
    have nd' := List.nodup_cons.mp nd
    have hk : k ∈ ks := List.mem_of_getElem? h
    have ne : ¬ k0 = k := by
      intro e
      subst e
      exact nd'.1 hk
    show (if k0 = k then _ else (k0, v) :: putF k y (obj ks vs)) = (k0, v) :: obj ks (vs.set i y)
    rw [if_neg ne, obj_put nd'.2 h (by simpa using hl)]
theorem obj_new : ∀ {ks : List Str} {vs : List V} {k : Str} {y : V}, ks.Nodup → ks[vs.length]? = some k → putF k y (obj ks vs) = obj ks (vs ++ [y])
  | [], _, _, _, _, h => by simp at h
  | k0 :: ks, [], k, y, _, h => by
    have e : k0 = k := Option.some.inj h
    subst e
    show [(k0, y)] = obj (k0 :: ks) [y]
    cases ks <;> rfl
  | k0 :: ks, v :: vs, k, y, nd, h => by
    have nd' := List.nodup_cons.mp nd
    have h' : ks[vs.length]? = some k := h
    have hk : k ∈ ks := List.mem_of_getElem? h'
    have ne : ¬ k0 = k := by
      intro e
      subst e
      exact nd'.1 hk
    show (if k0 = k then _ else (k0, v) :: putF k y (obj ks vs)) = (k0, v) :: obj ks (vs ++ [y])
    rw [if_neg ne, obj_new nd'.2 h']
section
variable {K : PySem.W.Frag} {σ : St} {H : Hp} {Q : VK} {v y : V} {ta tv : TE} {D : Ends} {f m : Str} {a C dx : Addr} {ks : List Str} {vs : List V} {i : Nat}
theorem g_fld (h : ta σ H fun x H1 => ∃ a C dx fs v, x = .ref a ∧ H1 a = some (.ins C dx fs) ∧ Cls K C ∧ NoAttr K C f ∧ fs.lookup f = some v ∧ Q v H1) : tFld K ta f σ H Q := h
theorem g_fldE {A : V → Prop} (ho : H a = some (.ins C dx (obj ks vs))) (c : Cls K C) (n : NoAttr K C f) (nd : ks.Nodup) (hk : ks[i]? = some f) (hv : vs[i]? = some v) (q : A v) :
    ∃ a' C' dx' fs v', V.ref a = .ref a' ∧ H a' = some (.ins C' dx' fs) ∧ Cls K C' ∧ NoAttr K C' f ∧ fs.lookup f = some v' ∧ A v' := ⟨a, C, dx, _, v, rfl, ho, c, n, (obj_get nd hk).trans hv, q⟩
theorem g_sfld (h : tv σ H fun y H1 => ta σ H1 fun x H2 => ∃ a C dx fs, x = .ref a ∧ H2 a = some (.ins C dx fs) ∧ Cls K C ∧ NoAttr K C f ∧ fs.length < 1000 ∧ D.nx σ (upd H2 a (.ins C dx (putF f y fs)))) : sFld K ta tv f D σ H := h
theorem g_putE {A : Hp → Prop} (ho : H a = some (.ins C dx (obj ks vs))) (c : Cls K C) (n : NoAttr K C f) (nd : ks.Nodup) (h1 : ks.length < 1000) (hk : ks[i]? = some f) (hv : i < vs.length) (q : A (upd H a (.ins C dx (obj ks (vs.set i y))))) :
    ∃ a' C' dx' fs, V.ref a = .ref a' ∧ H a' = some (.ins C' dx' fs) ∧ Cls K C' ∧ NoAttr K C' f ∧ fs.length < 1000 ∧ A (upd H a' (.ins C' dx' (putF f y fs))) :=
  ⟨a, C, dx, _, rfl, ho, c, n, Nat.lt_of_le_of_lt (obj_len ks vs) h1, by rw [obj_put nd hk hv]; exact q⟩
theorem g_newE {A : Hp → Prop} (ho : H a = some (.ins C dx (obj ks vs))) (c : Cls K C) (n : NoAttr K C f) (nd : ks.Nodup) (h1 : ks.length < 1000) (hk : ks[vs.length]? = some f) (q : A (upd H a (.ins C dx (obj ks (vs ++ [y]))))) :
    ∃ a' C' dx' fs, V.ref a = .ref a' ∧ H a' = some (.ins C' dx' fs) ∧ Cls K C' ∧ NoAttr K C' f ∧ fs.length < 1000 ∧ A (upd H a' (.ins C' dx' (putF f y fs))) :=
  ⟨a, C, dx, _, rfl, ho, c, n, Nat.lt_of_le_of_lt (obj_len ks vs) h1, by rw [obj_new nd hk]; exact q⟩
theorem g_meth {sp : Sp} {dvs : List V} {E : XK} {t : TA} (h : ta σ H fun x H1 => ∃ a dx fs, x = .ref a ∧ H1 a = some (.ins C dx fs) ∧ fs.lookup m = none ∧ t σ H1 fun vs H2 => sp (x :: (vs ++ dvs)) H2 Q E) : tMeth C m sp dvs E ta t σ H Q := h
theorem g_methE {A : Prop} (ho : H a = some (.ins C dx (obj ks vs))) (no : m ∉ ks) (q : A) : ∃ a' dx' fs, V.ref a = .ref a' ∧ H a' = some (.ins C dx' fs) ∧ fs.lookup m = none ∧ A := ⟨a, dx, _, rfl, ho, obj_none no, q⟩
theorem g_make {sp : Sp} {dvs : List V} {E : XK} {t : TA} (h : t σ H fun vs H1 => ∀ x dx, H1 x = none → H1 dx = none → dx ≠ x → sp (.ref x :: (vs ++ dvs)) (upd (upd H1 dx (.own x)) x (.ins C dx [])) (fun v H2 => v = .non ∧ Q (.ref x) H2) E) : tMake C sp dvs E t σ H Q := h
theorem g_prop {sp : Sp} {dvs : List V} {E : XK} (h : ta σ H fun x H1 => ∃ a dx fs, x = .ref a ∧ H1 a = some (.ins C dx fs) ∧ sp (.ref a :: dvs) H1 Q E) : tProp C sp dvs E ta σ H Q := h
theorem g_propE {A : Addr → Prop} (ho : H a = some (.ins C dx (obj ks vs))) (q : A a) : ∃ a' dx' fs, V.ref a = .ref a' ∧ H a' = some (.ins C dx' fs) ∧ A a' := ⟨a, dx, _, rfl, ho, q⟩
theorem g_absE {A : Int → Prop} {n : Int} (q : A n) : ∃ i, [V.int n] = [V.int i] ∧ A i := ⟨n, rfl, q⟩
end
/-- a slice of ints -/
theorem cut_ints (ns : List Int) (lo hi : Option Int) : ∃ ms : List Int, cutV (ns.map V.int) lo hi = ms.map V.int ∧ ms.length ≤ ns.length := by
  unfold cutV
  refine ⟨(ns.drop (HT.sIx (ns.map V.int).length 0 lo)).take (HT.sIx (ns.map V.int).length (ns.map V.int).length hi - HT.sIx (ns.map V.int).length 0 lo), ?_, ?_⟩
  · rw [List.map_take, List.map_drop]
  · rw [List.length_take, List.length_drop]
    omega
theorem g_nameE {i : Nat} {v : V} {σ σ' : St} {H : Hp} {A : St → Hp → Prop} (e : σ.set i (some v) = σ') (q : A σ' H) : gName i v σ H A := by
  subst e
  exact q
theorem but_sq {K : PySem.W.Frag} {p : Addr} {H H' : Hp} {a : Addr} {xs : List V} (e : But p H H') (n : a ≠ p) (h : SqL K H a xs) : SqL K H' a xs := by
  rcases h with (h | ⟨o, h⟩) | h
  · exact .inl (.inl (e _ _ n h))
  · exact .inl (.inr ⟨o, e _ _ n h⟩)
  · exact .inr h
theorem g_star {K : PySem.W.Frag} {te : TE} {t : TA} {σ : St} {H : Hp} {Q : List V → Hp → Prop} (h : te σ H fun x H1 => ∃ p xs, x = V.ref p ∧ (SqT K H1 p xs ∨ SqL K H1 p xs) ∧ t σ H1 fun ys H2 => Q (xs ++ ys) H2) : StX.tStar K te t σ H Q := h
theorem g_while {c : TT} {tb : TS} {D : Ends} {σ : St} {H : Hp} (W : Nat → St → Hp → Prop) (h0 : ∃ m, W m σ H) (h : ∀ m σ H, W m σ H → c σ H fun b H1 => if b = true then ∃ N : St → Hp → Prop, (∀ σ' H', N σ' H' → ∃ m', m' < m ∧ W m' σ' H') ∧ tb { D with nx := N, ct := N, bk := D.nx } σ H1 else D.nx σ H1) : tWhile c tb D σ H := ⟨W, h0, h⟩
theorem g_cut {t u : TS} {D : Ends} {σ : St} {H : Hp} (Mid : St → Hp → Prop) (h1 : t { D with nx := Mid } σ H) (h2 : ∀ σ' H', Mid σ' H' → u D σ' H') : C8.tCut t u D σ H := ⟨Mid, h1, h2⟩
theorem g_min {K : PySem.W.Frag} {a : Addr} {ns : List Int} {H : Hp} {Q : VK} (h : SqL K H a (ns.map V.int)) (h0 : 0 < ns.length) (q : ∀ m, m ∈ ns → (∀ y, y ∈ ns → m ≤ y) → Q (.int m) H) : rMin K [.ref a] H Q := ⟨a, ns, rfl, h, h0, q⟩
theorem g_max {K : PySem.W.Frag} {a : Addr} {ns : List Int} {H : Hp} {Q : VK} (h : SqL K H a (ns.map V.int)) (h0 : 0 < ns.length) (q : ∀ m, m ∈ ns → (∀ y, y ∈ ns → y ≤ m) → Q (.int m) H) : rMax K [.ref a] H Q := ⟨a, ns, rfl, h, h0, q⟩
theorem atI_nat' {xs : List V} {i : Int} {j : Nat} {v : V} (e : i = (j : Int)) (h : xs[j]? = some v) : atI xs i = some v := at_of e h
theorem ixN_last {n : Nat} (h : 0 < n) : ixN n (-1) = some (n - 1) := by
  unfold ixN
  rw [if_neg (by decide), if_pos (by omega)]
  congr 1
  omega
theorem atI_neg1 {xs : List V} {v : V} (h : xs[xs.length - 1]? = some v) : atI xs (-1) = some v := by
  obtain ⟨hl, _⟩ := List.getElem?_eq_some_iff.mp h
  unfold atI
  rw [ixN_last (by omega)]
  exact h
theorem snoc_of {α : Type} {xs : List α} (h : 0 < xs.length) : ∃ a x, xs = a ++ [x] :=
  ⟨xs.dropLast, xs.getLast (List.ne_nil_of_length_pos h), (List.dropLast_concat_getLast _).symm⟩
theorem set_last {α : Type} {a : List α} {x y : α} : (a ++ [x]).set a.length y = a ++ [y] := by
  rw [List.set_append_right _ _ (Nat.le_refl _), Nat.sub_self]
  rfl
end My
namespace My
open PySem PySem.Spec L2
local macro_rules | `(tactic| walk_at "side") => `(tactic| first | assumption | decide | omega | exact ⟨by decide, by decide⟩ | exact ⟨by decide, by decide, by decide⟩ | decide +kernel | exact cdivW (by decide +kernel) (by decide +kernel) | exact Or.inl ⟨by omega, by omega⟩ | exact Or.inr ⟨by omega, by omega⟩ | (simp only [List.length_map, List.length_cons, List.length_nil, List.length_append]; omega))
local macro_rules | `(tactic| walk_at "fact") => `(tactic| first | assumption | omega | with_reducible rfl)
local macro_rules | `(tactic| walk_at "use") => `(tactic| fail "use")
local macro_rules | `(tactic| walk_at "go1") => `(tactic| with_reducible first | refine g_seq ?_ | refine g_asg ?_ | refine g_ret ?_ | refine g_ifS ?_ | refine g_drop ?_ | refine g_star ?_ | refine g_nx ?_ | refine g_rt ?_ | refine g_bkE ?_ | refine g_ctE ?_ | refine g_next ?_ | refine g_retN ?_ | refine g_brk ?_ | refine g_ct ?_ | refine g_c ?_ | refine g_op ?_ | refine g_un ?_ | refine g_rI0 ?_ | refine g_rU ?_ | refine g_rEqI ?_ | refine g_rNeI ?_ | refine g_isN ?_ | refine g_rIsB ?_ | refine g_rNotB ?_ | refine g_test ?_ | refine g_B ?_ | refine g_bl ?_ | refine g_and ?_ | refine g_or ?_ | refine g_not ?_ | refine g_andV ?_ | refine g_orV ?_ | refine g_notV ?_ | refine g_if ?_ | refine g_chain ?_ | refine g_yes ?_ | refine g_lc ?_ | refine g_revR ?_ | refine g_rng1 ?_ | refine g_iList ?_ | refine g_nil ?_ | refine g_cons ?_ | refine g_tup ?_ | refine g_lst ?_ | refine g_call ?_ | refine g_CB ?_ | refine g_sl ?_ | refine g_noPart ?_ | refine g_part ?_ | refine g_intE ?_ | refine g_ref ?_ | refine g_fld ?_ | refine g_sfld ?_ | refine g_meth ?_ | refine g_make ?_ | refine g_prop ?_  | refine g_ipI ?_ | refine g_int1 ?_ | refine g_int1B ?_ | refine g_one ?_ | refine g_two ?_ | refine g_isiI ?_ | refine g_isiIB ?_ | refine g_isiB ?_ | refine g_BM ?_ | refine g_BM0 ?_ | refine g_sub ?_)
local macro_rules | `(tactic| walk_at "go") => `(tactic| repeat (first | walk_at "go1" | ((with_reducible refine' g_nameE ?sd_ ?_); case sd_ => dsimp only [List.set_cons_succ, List.set_cons_zero]) | ((with_reducible refine' g_var ?sd_ ?_); case sd_ => exact rfl) | ((with_reducible refine' g_aug ?sd_ ?_); case sd_ => exact rfl) | ((with_reducible refine' g_rI ?sd_ ?_); case sd_ => walk_at "side") | ((with_reducible refine' g_dT ?sd_ ?_); case sd_ => walk_at "fact") | ((with_reducible refine' g_dF ?sd_ ?_); case sd_ => walk_at "fact") | ((with_reducible refine' g_nT ?sd_ ?_); case sd_ => walk_at "fact") | ((with_reducible refine' g_nF ?sd_ ?_); case sd_ => walk_at "fact") | (with_reducible refine g_iT rfl ?_) | (with_reducible refine g_iF rfl ?_) | walk_at "use"))
def topS (i : Nat) : Stmt := PySem.Challenge.pw_throughline_k35_options_have_bounds.main.body.getD i (.Pass ⟨0, 0, 0, 0⟩)
abbrev s_Options_init__ : Stmt := inClass (topS 9) 0
abbrev s_Options_patience : Stmt := inClass (topS 9) 1
abbrev s_Options_shift : Stmt := inClass (topS 9) 2
abbrev s_Options_resting : Stmt := inClass (topS 9) 3
abbrev s_Options_eq__ : Stmt := inClass (topS 9) 5
abbrev s_Options_fields : Stmt := inClass (topS 9) 6
abbrev s_Options_wrong_names : Stmt := inClass (topS 9) 7
abbrev s_l_cell : Stmt := topS 11
abbrev s_l_is_integer : Stmt := topS 12
abbrev s_l_start : Stmt := topS 13
abbrev s_l_digit : Stmt := topS 14
abbrev s_l_good : Stmt := topS 15
abbrev s_l_edges : Stmt := topS 16
abbrev s_l_fits : Stmt := topS 17
abbrev s_l_made : Stmt := topS 18
abbrev s_l_told : Stmt := topS 19
abbrev s_l_fields : Stmt := topS 20
abbrev s_l_shift : Stmt := topS 21
abbrev s_l_right : Stmt := topS 22
abbrev s_l_other : Stmt := topS 23
abbrev s_l_equal : Stmt := topS 24
abbrev s_l_short : Stmt := topS 25
abbrev s_law : Stmt := topS 26
theorem sc_Options_init__ : FnScope ["self", "mss", "room", "life", "pace", "tries", "min_rto", "max_rto", "ack_delay", "keep_alive", "nagle", "control", "wrong"] ["self", "mss", "room", "life", "pace", "tries", "min_rto", "max_rto", "ack_delay", "keep_alive", "nagle", "control"] (defScope s_Options_init__) := ⟨rfl, rfl, rfl, by decide +kernel, rfl, by decide +kernel, by decide +kernel⟩
theorem sc_Options_patience : FnScope ["self"] ["self"] (defScope s_Options_patience) := ⟨rfl, rfl, rfl, by decide +kernel, rfl, by decide +kernel, by decide +kernel⟩
theorem sc_Options_shift : FnScope ["self", "k"] ["self"] (defScope s_Options_shift) := ⟨rfl, rfl, rfl, by decide +kernel, rfl, by decide +kernel, by decide +kernel⟩
theorem sc_Options_resting : FnScope ["self"] ["self"] (defScope s_Options_resting) := ⟨rfl, rfl, rfl, by decide +kernel, rfl, by decide +kernel, by decide +kernel⟩
theorem sc_Options_eq__ : FnScope ["self", "other"] ["self", "other"] (defScope s_Options_eq__) := ⟨rfl, rfl, rfl, by decide +kernel, rfl, by decide +kernel, by decide +kernel⟩
theorem sc_Options_fields : FnScope ["self"] ["self"] (defScope s_Options_fields) := ⟨rfl, rfl, rfl, by decide +kernel, rfl, by decide +kernel, by decide +kernel⟩
theorem sc_Options_wrong_names : FnScope ["self", "checks", "is_right", "name"] ["self"] (defScope s_Options_wrong_names) := ⟨rfl, rfl, rfl, by decide +kernel, rfl, by decide +kernel, by decide +kernel⟩
theorem sc_l_cell : FnScope ["script", "k"] ["script", "k"] (defScope s_l_cell) := ⟨rfl, rfl, rfl, by decide +kernel, rfl, by decide +kernel, by decide +kernel⟩
theorem sc_l_is_integer : FnScope ["told"] ["told"] (defScope s_l_is_integer) := ⟨rfl, rfl, rfl, by decide +kernel, rfl, by decide +kernel, by decide +kernel⟩
theorem sc_l_start : FnScope ["cell", "k", "prime", "mixed"] ["cell", "k"] (defScope s_l_start) := ⟨rfl, rfl, rfl, by decide +kernel, rfl, by decide +kernel, by decide +kernel⟩
theorem sc_l_digit : FnScope ["state", "many", "digit"] ["state", "many"] (defScope s_l_digit) := ⟨rfl, rfl, rfl, by decide +kernel, rfl, by decide +kernel, by decide +kernel⟩
theorem sc_l_good : FnScope ["state", "mss", "room", "life", "pace", "low", "high", "rest", "kind"] ["state"] (defScope s_l_good) := ⟨rfl, rfl, rfl, by decide +kernel, rfl, by decide +kernel, by decide +kernel⟩
theorem sc_l_edges : FnScope ["row", "k", "most"] ["row", "k"] (defScope s_l_edges) := ⟨rfl, rfl, rfl, by decide +kernel, rfl, by decide +kernel, by decide +kernel⟩
theorem sc_l_fits : FnScope ["row"] ["row"] (defScope s_l_fits) := ⟨rfl, rfl, rfl, by decide +kernel, rfl, by decide +kernel, by decide +kernel⟩
theorem sc_l_made : FnScope ["row"] ["row"] (defScope s_l_made) := ⟨rfl, rfl, rfl, by decide +kernel, rfl, by decide +kernel, by decide +kernel⟩
theorem sc_l_told : FnScope ["row", "e"] ["row"] (defScope s_l_told) := ⟨rfl, rfl, rfl, by decide +kernel, rfl, by decide +kernel, by decide +kernel⟩
theorem sc_l_fields : FnScope ["told", "first"] ["told"] (defScope s_l_fields) := ⟨rfl, rfl, rfl, by decide +kernel, rfl, by decide +kernel, by decide +kernel⟩
theorem sc_l_shift : FnScope ["room", "k"] ["room"] (defScope s_l_shift) := ⟨rfl, rfl, rfl, by decide +kernel, rfl, by decide +kernel, by decide +kernel⟩
theorem sc_l_right : FnScope ["told", "row", "fields", "k", "number"] ["told", "row"] (defScope s_l_right) := ⟨rfl, rfl, rfl, by decide +kernel, rfl, by decide +kernel, by decide +kernel⟩
theorem sc_l_other : FnScope ["row", "k", "other"] ["row", "k"] (defScope s_l_other) := ⟨rfl, rfl, rfl, by decide +kernel, rfl, by decide +kernel, by decide +kernel⟩
theorem sc_l_equal : FnScope ["told", "row", "k", "other"] ["told", "row"] (defScope s_l_equal) := ⟨rfl, rfl, rfl, by decide +kernel, rfl, by decide +kernel, by decide +kernel⟩
theorem sc_l_short : FnScope ["row", "told"] ["row"] (defScope s_l_short) := ⟨rfl, rfl, rfl, by decide +kernel, rfl, by decide +kernel, by decide +kernel⟩
theorem sc_law : FnScope ["script", "k", "state", "row", "which", "told"] ["script"] (defScope s_law) := ⟨rfl, rfl, rfl, by decide +kernel, rfl, by decide +kernel, by decide +kernel⟩
structure Txt (w : World) (K : PySem.W.Frag) (mg : Str → Option Value) where
  t_MOST_TICKS : Tok
  t_MOST_UNDER_WAY : Tok
  t_GREATEST_WINDOW : Tok
  C_ThroughlineError : Addr
  C_InvalidOptions : Addr
  C_InvalidPort : Addr
  C_Options : Addr
  f_Options_init__ : Addr
  d_Options_init__ : FuncData
  f_Options_patience : Addr
  d_Options_patience : FuncData
  p0_Options_patience : Addr
  f_Options_shift : Addr
  d_Options_shift : FuncData
  p0_Options_shift : Addr
  f_Options_resting : Addr
  d_Options_resting : FuncData
  p0_Options_resting : Addr
  f_Options_eq__ : Addr
  d_Options_eq__ : FuncData
  f_Options_fields : Addr
  d_Options_fields : FuncData
  f_Options_wrong_names : Addr
  d_Options_wrong_names : FuncData
  f_l_cell : Addr
  d_l_cell : FuncData
  f_l_is_integer : Addr
  d_l_is_integer : FuncData
  f_l_start : Addr
  d_l_start : FuncData
  f_l_digit : Addr
  d_l_digit : FuncData
  f_l_good : Addr
  d_l_good : FuncData
  f_l_edges : Addr
  d_l_edges : FuncData
  f_l_fits : Addr
  d_l_fits : FuncData
  f_l_made : Addr
  d_l_made : FuncData
  f_l_told : Addr
  d_l_told : FuncData
  f_l_fields : Addr
  d_l_fields : FuncData
  f_l_shift : Addr
  d_l_shift : FuncData
  f_l_right : Addr
  d_l_right : FuncData
  f_l_other : Addr
  d_l_other : FuncData
  f_l_equal : Addr
  d_l_equal : FuncData
  f_l_short : Addr
  d_l_short : FuncData
  f_law : Addr
  d_law : FuncData
  v_MOST_TICKS : mg "MOST_TICKS" = some (.int 1073741824 t_MOST_TICKS)
  v_MOST_UNDER_WAY : mg "MOST_UNDER_WAY" = some (.int 1073741824 t_MOST_UNDER_WAY)
  v_GREATEST_WINDOW : mg "GREATEST_WINDOW" = some (.int 65535 t_GREATEST_WINDOW)
  c_ThroughlineError : mg "ThroughlineError" = some (.ref C_ThroughlineError)
  c_InvalidOptions : mg "InvalidOptions" = some (.ref C_InvalidOptions)
  c_InvalidPort : mg "InvalidPort" = some (.ref C_InvalidPort)
  xP_InvalidOptions : PySem.W.excIn K C_InvalidOptions [.type "ValueError", .type "Exception", .type "BaseException", .type "object"] "ValueError.__new__" = true
  ke_InvalidOptions : PySem.W.keepIn K (.ref C_InvalidOptions) = true
  be_InvalidOptions : PySem.W.subIn K (.ref C_InvalidOptions) (.type "BaseException") = some true
  te_InvalidOptions : PySem.W.typeIn K (.ref C_InvalidOptions) = some (.type "type")
  xc_InvalidOptions : ExcC K C_InvalidOptions
  em_InvalidOptions_InvalidOptions : PySem.W.exmOne K (.ref C_InvalidOptions) (.ref C_InvalidOptions) = some true
  ko_InvalidOptions_ThroughlineError : PySem.W.kitOne K (.ref C_InvalidOptions) (.ref C_ThroughlineError) = some true
  ko_InvalidOptions_InvalidPort : PySem.W.kitOne K (.ref C_InvalidOptions) (.ref C_InvalidPort) = some false
  c_Options : mg "Options" = some (.ref C_Options)
  k_Options : Cls K C_Options
  i_Options : ∀ {H : Hp} {a dx : Addr} {fs : List (Str × V)}, H a = some (.ins C_Options dx fs) → TyOf K H (.ref a) (.ref C_Options)
  q_Options : PySem.W.subIn K (.type "int") (.ref C_Options) = some false
  ki_Options : PySem.W.kitOne K (.type "int") (.ref C_Options) = some false
  n_Options_mss : NoAttr K C_Options "mss"
  n_Options_room : NoAttr K C_Options "room"
  n_Options_life : NoAttr K C_Options "life"
  n_Options_pace : NoAttr K C_Options "pace"
  n_Options_tries : NoAttr K C_Options "tries"
  n_Options_min_rto : NoAttr K C_Options "min_rto"
  n_Options_max_rto : NoAttr K C_Options "max_rto"
  n_Options_ack_delay : NoAttr K C_Options "ack_delay"
  n_Options_keep_alive : NoAttr K C_Options "keep_alive"
  n_Options_nagle : NoAttr K C_Options "nagle"
  n_Options_control : NoAttr K C_Options "control"
  F_Options_init__ : FunD K "__init__" "Options.__init__" (defArgs s_Options_init__) (defBody s_Options_init__) (defScope s_Options_init__) [] [("ack_delay", .int 0), ("keep_alive", .int 0), ("nagle", .bl false), ("control", .str (PySem.Str.ofString "reno"))] f_Options_init__ d_Options_init__
  mk_Options : Mk K C_Options f_Options_init__
  F_Options_patience : Fun K "patience" "Options.patience" s_Options_patience f_Options_patience d_Options_patience
  b_Options_patience : Binds K d_Options_patience ["self"] []
  p_Options_patience : PropOf K C_Options "patience" p0_Options_patience f_Options_patience
  F_Options_shift : Fun K "shift" "Options.shift" s_Options_shift f_Options_shift d_Options_shift
  b_Options_shift : Binds K d_Options_shift ["self"] []
  p_Options_shift : PropOf K C_Options "shift" p0_Options_shift f_Options_shift
  F_Options_resting : Fun K "resting" "Options.resting" s_Options_resting f_Options_resting d_Options_resting
  b_Options_resting : Binds K d_Options_resting ["self"] []
  p_Options_resting : PropOf K C_Options "resting" p0_Options_resting f_Options_resting
  F_Options_eq__ : Fun K "__eq__" "Options.__eq__" s_Options_eq__ f_Options_eq__ d_Options_eq__
  b_Options_eq__ : Binds K d_Options_eq__ ["self", "other"] []
  a_Options_eq__ : Meth K C_Options "__eq__" f_Options_eq__
  F_Options_fields : Fun K "_fields" "Options._fields" s_Options_fields f_Options_fields d_Options_fields
  b_Options_fields : Binds K d_Options_fields ["self"] []
  a_Options_fields : Meth K C_Options "_fields" f_Options_fields
  F_Options_wrong_names : Fun K "_wrong_names" "Options._wrong_names" s_Options_wrong_names f_Options_wrong_names d_Options_wrong_names
  b_Options_wrong_names : Binds K d_Options_wrong_names ["self"] []
  a_Options_wrong_names : Meth K C_Options "_wrong_names" f_Options_wrong_names
  F_l_cell : Fun K "_law_cell" "_law_cell" s_l_cell f_l_cell d_l_cell
  b_l_cell : Binds K d_l_cell ["script", "k"] []
  m_l_cell : mg "_law_cell" = some (.ref f_l_cell)
  F_l_is_integer : Fun K "_law_is_integer" "_law_is_integer" s_l_is_integer f_l_is_integer d_l_is_integer
  b_l_is_integer : Binds K d_l_is_integer ["told"] []
  m_l_is_integer : mg "_law_is_integer" = some (.ref f_l_is_integer)
  F_l_start : Fun K "_law_start" "_law_start" s_l_start f_l_start d_l_start
  b_l_start : Binds K d_l_start ["cell", "k"] []
  m_l_start : mg "_law_start" = some (.ref f_l_start)
  F_l_digit : Fun K "_law_digit" "_law_digit" s_l_digit f_l_digit d_l_digit
  b_l_digit : Binds K d_l_digit ["state", "many"] []
  m_l_digit : mg "_law_digit" = some (.ref f_l_digit)
  F_l_good : Fun K "_law_good" "_law_good" s_l_good f_l_good d_l_good
  b_l_good : Binds K d_l_good ["state"] []
  m_l_good : mg "_law_good" = some (.ref f_l_good)
  F_l_edges : Fun K "_law_edges" "_law_edges" s_l_edges f_l_edges d_l_edges
  b_l_edges : Binds K d_l_edges ["row", "k"] []
  m_l_edges : mg "_law_edges" = some (.ref f_l_edges)
  F_l_fits : Fun K "_law_fits" "_law_fits" s_l_fits f_l_fits d_l_fits
  b_l_fits : Binds K d_l_fits ["row"] []
  m_l_fits : mg "_law_fits" = some (.ref f_l_fits)
  F_l_made : Fun K "_law_made" "_law_made" s_l_made f_l_made d_l_made
  b_l_made : Binds K d_l_made ["row"] []
  m_l_made : mg "_law_made" = some (.ref f_l_made)
  F_l_told : Fun K "_law_told" "_law_told" s_l_told f_l_told d_l_told
  b_l_told : Binds K d_l_told ["row"] []
  m_l_told : mg "_law_told" = some (.ref f_l_told)
  F_l_fields : Fun K "_law_fields" "_law_fields" s_l_fields f_l_fields d_l_fields
  b_l_fields : Binds K d_l_fields ["told"] []
  m_l_fields : mg "_law_fields" = some (.ref f_l_fields)
  F_l_shift : Fun K "_law_shift" "_law_shift" s_l_shift f_l_shift d_l_shift
  b_l_shift : Binds K d_l_shift ["room"] []
  m_l_shift : mg "_law_shift" = some (.ref f_l_shift)
  F_l_right : Fun K "_law_right" "_law_right" s_l_right f_l_right d_l_right
  b_l_right : Binds K d_l_right ["told", "row"] []
  m_l_right : mg "_law_right" = some (.ref f_l_right)
  F_l_other : Fun K "_law_other" "_law_other" s_l_other f_l_other d_l_other
  b_l_other : Binds K d_l_other ["row", "k"] []
  m_l_other : mg "_law_other" = some (.ref f_l_other)
  F_l_equal : Fun K "_law_equal" "_law_equal" s_l_equal f_l_equal d_l_equal
  b_l_equal : Binds K d_l_equal ["told", "row"] []
  m_l_equal : mg "_law_equal" = some (.ref f_l_equal)
  F_l_short : Fun K "_law_short" "_law_short" s_l_short f_l_short d_l_short
  b_l_short : Binds K d_l_short ["row"] []
  m_l_short : mg "_law_short" = some (.ref f_l_short)
  F_law : Fun K "law" "law" s_law f_law d_law
  b_law : Binds K d_law ["script"] []
  m_law : mg "law" = some (.ref f_law)
  n_bool : mg "bool" = none
  n_int : mg "int" = none
  n_isinstance : mg "isinstance" = none
  n_len : mg "len" = none
  n_list : mg "list" = none
  n_max : mg "max" = none
  n_min : mg "min" = none
  n_range : mg "range" = none
def ky_Options : List Str := ["mss", "room", "life", "pace", "tries", "min_rto", "max_rto", "ack_delay", "keep_alive", "nagle", "control"]
theorem nd_Options : ky_Options.Nodup := by decide +kernel
section
variable {w : World} {K : PySem.W.Frag} {mg : Str → Option Value} {T : Txt w K mg} {H : Hp} {a dx : Addr} {vs : List V} {v y : V}
theorem fd_Options_mss {A : V → Prop} (ho : H a = some (.ins T.C_Options dx (obj ky_Options vs))) (hv : vs[0]? = some v) (q : A v) : ∃ a' C' dx' fs v', V.ref a = .ref a' ∧ H a' = some (.ins C' dx' fs) ∧ Cls K C' ∧ NoAttr K C' "mss" ∧ fs.lookup ("mss" : Str) = some v' ∧ A v' := g_fldE ho T.k_Options T.n_Options_mss nd_Options rfl hv q
theorem st_Options_mss {A : Hp → Prop} (ho : H a = some (.ins T.C_Options dx (obj ky_Options vs))) (hv : 0 < vs.length) (q : A (upd H a (.ins T.C_Options dx (obj ky_Options (vs.set 0 y))))) : ∃ a' C' dx' fs, V.ref a = .ref a' ∧ H a' = some (.ins C' dx' fs) ∧ Cls K C' ∧ NoAttr K C' "mss" ∧ fs.length < 1000 ∧ A (upd H a' (.ins C' dx' (putF "mss" y fs))) := g_putE ho T.k_Options T.n_Options_mss nd_Options (by decide) rfl hv q
theorem nw_Options_mss {A : Hp → Prop} (ho : H a = some (.ins T.C_Options dx (obj ky_Options vs))) (hv : vs.length = 0) (q : A (upd H a (.ins T.C_Options dx (obj ky_Options (vs ++ [y]))))) : ∃ a' C' dx' fs, V.ref a = .ref a' ∧ H a' = some (.ins C' dx' fs) ∧ Cls K C' ∧ NoAttr K C' "mss" ∧ fs.length < 1000 ∧ A (upd H a' (.ins C' dx' (putF "mss" y fs))) := g_newE ho T.k_Options T.n_Options_mss nd_Options (by decide) (by rw [hv]; rfl) q
theorem fd_Options_room {A : V → Prop} (ho : H a = some (.ins T.C_Options dx (obj ky_Options vs))) (hv : vs[1]? = some v) (q : A v) : ∃ a' C' dx' fs v', V.ref a = .ref a' ∧ H a' = some (.ins C' dx' fs) ∧ Cls K C' ∧ NoAttr K C' "room" ∧ fs.lookup ("room" : Str) = some v' ∧ A v' := g_fldE ho T.k_Options T.n_Options_room nd_Options rfl hv q
theorem st_Options_room {A : Hp → Prop} (ho : H a = some (.ins T.C_Options dx (obj ky_Options vs))) (hv : 1 < vs.length) (q : A (upd H a (.ins T.C_Options dx (obj ky_Options (vs.set 1 y))))) : ∃ a' C' dx' fs, V.ref a = .ref a' ∧ H a' = some (.ins C' dx' fs) ∧ Cls K C' ∧ NoAttr K C' "room" ∧ fs.length < 1000 ∧ A (upd H a' (.ins C' dx' (putF "room" y fs))) := g_putE ho T.k_Options T.n_Options_room nd_Options (by decide) rfl hv q
theorem nw_Options_room {A : Hp → Prop} (ho : H a = some (.ins T.C_Options dx (obj ky_Options vs))) (hv : vs.length = 1) (q : A (upd H a (.ins T.C_Options dx (obj ky_Options (vs ++ [y]))))) : ∃ a' C' dx' fs, V.ref a = .ref a' ∧ H a' = some (.ins C' dx' fs) ∧ Cls K C' ∧ NoAttr K C' "room" ∧ fs.length < 1000 ∧ A (upd H a' (.ins C' dx' (putF "room" y fs))) := g_newE ho T.k_Options T.n_Options_room nd_Options (by decide) (by rw [hv]; rfl) q
theorem fd_Options_life {A : V → Prop} (ho : H a = some (.ins T.C_Options dx (obj ky_Options vs))) (hv : vs[2]? = some v) (q : A v) : ∃ a' C' dx' fs v', V.ref a = .ref a' ∧ H a' = some (.ins C' dx' fs) ∧ Cls K C' ∧ NoAttr K C' "life" ∧ fs.lookup ("life" : Str) = some v' ∧ A v' := g_fldE ho T.k_Options T.n_Options_life nd_Options rfl hv q
theorem st_Options_life {A : Hp → Prop} (ho : H a = some (.ins T.C_Options dx (obj ky_Options vs))) (hv : 2 < vs.length) (q : A (upd H a (.ins T.C_Options dx (obj ky_Options (vs.set 2 y))))) : ∃ a' C' dx' fs, V.ref a = .ref a' ∧ H a' = some (.ins C' dx' fs) ∧ Cls K C' ∧ NoAttr K C' "life" ∧ fs.length < 1000 ∧ A (upd H a' (.ins C' dx' (putF "life" y fs))) := g_putE ho T.k_Options T.n_Options_life nd_Options (by decide) rfl hv q
theorem nw_Options_life {A : Hp → Prop} (ho : H a = some (.ins T.C_Options dx (obj ky_Options vs))) (hv : vs.length = 2) (q : A (upd H a (.ins T.C_Options dx (obj ky_Options (vs ++ [y]))))) : ∃ a' C' dx' fs, V.ref a = .ref a' ∧ H a' = some (.ins C' dx' fs) ∧ Cls K C' ∧ NoAttr K C' "life" ∧ fs.length < 1000 ∧ A (upd H a' (.ins C' dx' (putF "life" y fs))) := g_newE ho T.k_Options T.n_Options_life nd_Options (by decide) (by rw [hv]; rfl) q
theorem fd_Options_pace {A : V → Prop} (ho : H a = some (.ins T.C_Options dx (obj ky_Options vs))) (hv : vs[3]? = some v) (q : A v) : ∃ a' C' dx' fs v', V.ref a = .ref a' ∧ H a' = some (.ins C' dx' fs) ∧ Cls K C' ∧ NoAttr K C' "pace" ∧ fs.lookup ("pace" : Str) = some v' ∧ A v' := g_fldE ho T.k_Options T.n_Options_pace nd_Options rfl hv q
theorem st_Options_pace {A : Hp → Prop} (ho : H a = some (.ins T.C_Options dx (obj ky_Options vs))) (hv : 3 < vs.length) (q : A (upd H a (.ins T.C_Options dx (obj ky_Options (vs.set 3 y))))) : ∃ a' C' dx' fs, V.ref a = .ref a' ∧ H a' = some (.ins C' dx' fs) ∧ Cls K C' ∧ NoAttr K C' "pace" ∧ fs.length < 1000 ∧ A (upd H a' (.ins C' dx' (putF "pace" y fs))) := g_putE ho T.k_Options T.n_Options_pace nd_Options (by decide) rfl hv q
theorem nw_Options_pace {A : Hp → Prop} (ho : H a = some (.ins T.C_Options dx (obj ky_Options vs))) (hv : vs.length = 3) (q : A (upd H a (.ins T.C_Options dx (obj ky_Options (vs ++ [y]))))) : ∃ a' C' dx' fs, V.ref a = .ref a' ∧ H a' = some (.ins C' dx' fs) ∧ Cls K C' ∧ NoAttr K C' "pace" ∧ fs.length < 1000 ∧ A (upd H a' (.ins C' dx' (putF "pace" y fs))) := g_newE ho T.k_Options T.n_Options_pace nd_Options (by decide) (by rw [hv]; rfl) q
theorem fd_Options_tries {A : V → Prop} (ho : H a = some (.ins T.C_Options dx (obj ky_Options vs))) (hv : vs[4]? = some v) (q : A v) : ∃ a' C' dx' fs v', V.ref a = .ref a' ∧ H a' = some (.ins C' dx' fs) ∧ Cls K C' ∧ NoAttr K C' "tries" ∧ fs.lookup ("tries" : Str) = some v' ∧ A v' := g_fldE ho T.k_Options T.n_Options_tries nd_Options rfl hv q
theorem st_Options_tries {A : Hp → Prop} (ho : H a = some (.ins T.C_Options dx (obj ky_Options vs))) (hv : 4 < vs.length) (q : A (upd H a (.ins T.C_Options dx (obj ky_Options (vs.set 4 y))))) : ∃ a' C' dx' fs, V.ref a = .ref a' ∧ H a' = some (.ins C' dx' fs) ∧ Cls K C' ∧ NoAttr K C' "tries" ∧ fs.length < 1000 ∧ A (upd H a' (.ins C' dx' (putF "tries" y fs))) := g_putE ho T.k_Options T.n_Options_tries nd_Options (by decide) rfl hv q
theorem nw_Options_tries {A : Hp → Prop} (ho : H a = some (.ins T.C_Options dx (obj ky_Options vs))) (hv : vs.length = 4) (q : A (upd H a (.ins T.C_Options dx (obj ky_Options (vs ++ [y]))))) : ∃ a' C' dx' fs, V.ref a = .ref a' ∧ H a' = some (.ins C' dx' fs) ∧ Cls K C' ∧ NoAttr K C' "tries" ∧ fs.length < 1000 ∧ A (upd H a' (.ins C' dx' (putF "tries" y fs))) := g_newE ho T.k_Options T.n_Options_tries nd_Options (by decide) (by rw [hv]; rfl) q
theorem fd_Options_min_rto {A : V → Prop} (ho : H a = some (.ins T.C_Options dx (obj ky_Options vs))) (hv : vs[5]? = some v) (q : A v) : ∃ a' C' dx' fs v', V.ref a = .ref a' ∧ H a' = some (.ins C' dx' fs) ∧ Cls K C' ∧ NoAttr K C' "min_rto" ∧ fs.lookup ("min_rto" : Str) = some v' ∧ A v' := g_fldE ho T.k_Options T.n_Options_min_rto nd_Options rfl hv q
theorem st_Options_min_rto {A : Hp → Prop} (ho : H a = some (.ins T.C_Options dx (obj ky_Options vs))) (hv : 5 < vs.length) (q : A (upd H a (.ins T.C_Options dx (obj ky_Options (vs.set 5 y))))) : ∃ a' C' dx' fs, V.ref a = .ref a' ∧ H a' = some (.ins C' dx' fs) ∧ Cls K C' ∧ NoAttr K C' "min_rto" ∧ fs.length < 1000 ∧ A (upd H a' (.ins C' dx' (putF "min_rto" y fs))) := g_putE ho T.k_Options T.n_Options_min_rto nd_Options (by decide) rfl hv q
theorem nw_Options_min_rto {A : Hp → Prop} (ho : H a = some (.ins T.C_Options dx (obj ky_Options vs))) (hv : vs.length = 5) (q : A (upd H a (.ins T.C_Options dx (obj ky_Options (vs ++ [y]))))) : ∃ a' C' dx' fs, V.ref a = .ref a' ∧ H a' = some (.ins C' dx' fs) ∧ Cls K C' ∧ NoAttr K C' "min_rto" ∧ fs.length < 1000 ∧ A (upd H a' (.ins C' dx' (putF "min_rto" y fs))) := g_newE ho T.k_Options T.n_Options_min_rto nd_Options (by decide) (by rw [hv]; rfl) q
theorem fd_Options_max_rto {A : V → Prop} (ho : H a = some (.ins T.C_Options dx (obj ky_Options vs))) (hv : vs[6]? = some v) (q : A v) : ∃ a' C' dx' fs v', V.ref a = .ref a' ∧ H a' = some (.ins C' dx' fs) ∧ Cls K C' ∧ NoAttr K C' "max_rto" ∧ fs.lookup ("max_rto" : Str) = some v' ∧ A v' := g_fldE ho T.k_Options T.n_Options_max_rto nd_Options rfl hv q
theorem st_Options_max_rto {A : Hp → Prop} (ho : H a = some (.ins T.C_Options dx (obj ky_Options vs))) (hv : 6 < vs.length) (q : A (upd H a (.ins T.C_Options dx (obj ky_Options (vs.set 6 y))))) : ∃ a' C' dx' fs, V.ref a = .ref a' ∧ H a' = some (.ins C' dx' fs) ∧ Cls K C' ∧ NoAttr K C' "max_rto" ∧ fs.length < 1000 ∧ A (upd H a' (.ins C' dx' (putF "max_rto" y fs))) := g_putE ho T.k_Options T.n_Options_max_rto nd_Options (by decide) rfl hv q
theorem nw_Options_max_rto {A : Hp → Prop} (ho : H a = some (.ins T.C_Options dx (obj ky_Options vs))) (hv : vs.length = 6) (q : A (upd H a (.ins T.C_Options dx (obj ky_Options (vs ++ [y]))))) : ∃ a' C' dx' fs, V.ref a = .ref a' ∧ H a' = some (.ins C' dx' fs) ∧ Cls K C' ∧ NoAttr K C' "max_rto" ∧ fs.length < 1000 ∧ A (upd H a' (.ins C' dx' (putF "max_rto" y fs))) := g_newE ho T.k_Options T.n_Options_max_rto nd_Options (by decide) (by rw [hv]; rfl) q
theorem fd_Options_ack_delay {A : V → Prop} (ho : H a = some (.ins T.C_Options dx (obj ky_Options vs))) (hv : vs[7]? = some v) (q : A v) : ∃ a' C' dx' fs v', V.ref a = .ref a' ∧ H a' = some (.ins C' dx' fs) ∧ Cls K C' ∧ NoAttr K C' "ack_delay" ∧ fs.lookup ("ack_delay" : Str) = some v' ∧ A v' := g_fldE ho T.k_Options T.n_Options_ack_delay nd_Options rfl hv q
theorem st_Options_ack_delay {A : Hp → Prop} (ho : H a = some (.ins T.C_Options dx (obj ky_Options vs))) (hv : 7 < vs.length) (q : A (upd H a (.ins T.C_Options dx (obj ky_Options (vs.set 7 y))))) : ∃ a' C' dx' fs, V.ref a = .ref a' ∧ H a' = some (.ins C' dx' fs) ∧ Cls K C' ∧ NoAttr K C' "ack_delay" ∧ fs.length < 1000 ∧ A (upd H a' (.ins C' dx' (putF "ack_delay" y fs))) := g_putE ho T.k_Options T.n_Options_ack_delay nd_Options (by decide) rfl hv q
theorem nw_Options_ack_delay {A : Hp → Prop} (ho : H a = some (.ins T.C_Options dx (obj ky_Options vs))) (hv : vs.length = 7) (q : A (upd H a (.ins T.C_Options dx (obj ky_Options (vs ++ [y]))))) : ∃ a' C' dx' fs, V.ref a = .ref a' ∧ H a' = some (.ins C' dx' fs) ∧ Cls K C' ∧ NoAttr K C' "ack_delay" ∧ fs.length < 1000 ∧ A (upd H a' (.ins C' dx' (putF "ack_delay" y fs))) := g_newE ho T.k_Options T.n_Options_ack_delay nd_Options (by decide) (by rw [hv]; rfl) q
theorem fd_Options_keep_alive {A : V → Prop} (ho : H a = some (.ins T.C_Options dx (obj ky_Options vs))) (hv : vs[8]? = some v) (q : A v) : ∃ a' C' dx' fs v', V.ref a = .ref a' ∧ H a' = some (.ins C' dx' fs) ∧ Cls K C' ∧ NoAttr K C' "keep_alive" ∧ fs.lookup ("keep_alive" : Str) = some v' ∧ A v' := g_fldE ho T.k_Options T.n_Options_keep_alive nd_Options rfl hv q
theorem st_Options_keep_alive {A : Hp → Prop} (ho : H a = some (.ins T.C_Options dx (obj ky_Options vs))) (hv : 8 < vs.length) (q : A (upd H a (.ins T.C_Options dx (obj ky_Options (vs.set 8 y))))) : ∃ a' C' dx' fs, V.ref a = .ref a' ∧ H a' = some (.ins C' dx' fs) ∧ Cls K C' ∧ NoAttr K C' "keep_alive" ∧ fs.length < 1000 ∧ A (upd H a' (.ins C' dx' (putF "keep_alive" y fs))) := g_putE ho T.k_Options T.n_Options_keep_alive nd_Options (by decide) rfl hv q
theorem nw_Options_keep_alive {A : Hp → Prop} (ho : H a = some (.ins T.C_Options dx (obj ky_Options vs))) (hv : vs.length = 8) (q : A (upd H a (.ins T.C_Options dx (obj ky_Options (vs ++ [y]))))) : ∃ a' C' dx' fs, V.ref a = .ref a' ∧ H a' = some (.ins C' dx' fs) ∧ Cls K C' ∧ NoAttr K C' "keep_alive" ∧ fs.length < 1000 ∧ A (upd H a' (.ins C' dx' (putF "keep_alive" y fs))) := g_newE ho T.k_Options T.n_Options_keep_alive nd_Options (by decide) (by rw [hv]; rfl) q
theorem fd_Options_nagle {A : V → Prop} (ho : H a = some (.ins T.C_Options dx (obj ky_Options vs))) (hv : vs[9]? = some v) (q : A v) : ∃ a' C' dx' fs v', V.ref a = .ref a' ∧ H a' = some (.ins C' dx' fs) ∧ Cls K C' ∧ NoAttr K C' "nagle" ∧ fs.lookup ("nagle" : Str) = some v' ∧ A v' := g_fldE ho T.k_Options T.n_Options_nagle nd_Options rfl hv q
theorem st_Options_nagle {A : Hp → Prop} (ho : H a = some (.ins T.C_Options dx (obj ky_Options vs))) (hv : 9 < vs.length) (q : A (upd H a (.ins T.C_Options dx (obj ky_Options (vs.set 9 y))))) : ∃ a' C' dx' fs, V.ref a = .ref a' ∧ H a' = some (.ins C' dx' fs) ∧ Cls K C' ∧ NoAttr K C' "nagle" ∧ fs.length < 1000 ∧ A (upd H a' (.ins C' dx' (putF "nagle" y fs))) := g_putE ho T.k_Options T.n_Options_nagle nd_Options (by decide) rfl hv q
theorem nw_Options_nagle {A : Hp → Prop} (ho : H a = some (.ins T.C_Options dx (obj ky_Options vs))) (hv : vs.length = 9) (q : A (upd H a (.ins T.C_Options dx (obj ky_Options (vs ++ [y]))))) : ∃ a' C' dx' fs, V.ref a = .ref a' ∧ H a' = some (.ins C' dx' fs) ∧ Cls K C' ∧ NoAttr K C' "nagle" ∧ fs.length < 1000 ∧ A (upd H a' (.ins C' dx' (putF "nagle" y fs))) := g_newE ho T.k_Options T.n_Options_nagle nd_Options (by decide) (by rw [hv]; rfl) q
theorem fd_Options_control {A : V → Prop} (ho : H a = some (.ins T.C_Options dx (obj ky_Options vs))) (hv : vs[10]? = some v) (q : A v) : ∃ a' C' dx' fs v', V.ref a = .ref a' ∧ H a' = some (.ins C' dx' fs) ∧ Cls K C' ∧ NoAttr K C' "control" ∧ fs.lookup ("control" : Str) = some v' ∧ A v' := g_fldE ho T.k_Options T.n_Options_control nd_Options rfl hv q
theorem st_Options_control {A : Hp → Prop} (ho : H a = some (.ins T.C_Options dx (obj ky_Options vs))) (hv : 10 < vs.length) (q : A (upd H a (.ins T.C_Options dx (obj ky_Options (vs.set 10 y))))) : ∃ a' C' dx' fs, V.ref a = .ref a' ∧ H a' = some (.ins C' dx' fs) ∧ Cls K C' ∧ NoAttr K C' "control" ∧ fs.length < 1000 ∧ A (upd H a' (.ins C' dx' (putF "control" y fs))) := g_putE ho T.k_Options T.n_Options_control nd_Options (by decide) rfl hv q
theorem nw_Options_control {A : Hp → Prop} (ho : H a = some (.ins T.C_Options dx (obj ky_Options vs))) (hv : vs.length = 10) (q : A (upd H a (.ins T.C_Options dx (obj ky_Options (vs ++ [y]))))) : ∃ a' C' dx' fs, V.ref a = .ref a' ∧ H a' = some (.ins C' dx' fs) ∧ Cls K C' ∧ NoAttr K C' "control" ∧ fs.length < 1000 ∧ A (upd H a' (.ins C' dx' (putF "control" y fs))) := g_newE ho T.k_Options T.n_Options_control nd_Options (by decide) (by rw [hv]; rfl) q
theorem me_Options_eq__ {A : Prop} (ho : H a = some (.ins T.C_Options dx (obj ky_Options vs))) (q : A) : ∃ a' dx' fs, V.ref a = .ref a' ∧ H a' = some (.ins T.C_Options dx' fs) ∧ fs.lookup ("__eq__" : Str) = none ∧ A := g_methE ho (by decide +kernel) q
theorem me_Options_fields {A : Prop} (ho : H a = some (.ins T.C_Options dx (obj ky_Options vs))) (q : A) : ∃ a' dx' fs, V.ref a = .ref a' ∧ H a' = some (.ins T.C_Options dx' fs) ∧ fs.lookup ("_fields" : Str) = none ∧ A := g_methE ho (by decide +kernel) q
theorem me_Options_wrong_names {A : Prop} (ho : H a = some (.ins T.C_Options dx (obj ky_Options vs))) (q : A) : ∃ a' dx' fs, V.ref a = .ref a' ∧ H a' = some (.ins T.C_Options dx' fs) ∧ fs.lookup ("_wrong_names" : Str) = none ∧ A := g_methE ho (by decide +kernel) q
end
local macro_rules | `(tactic| walk_at "use") => `(tactic| first | ((with_reducible refine' fd_Options_mss ?ho_ ?hv_ ?_); (case ho_ => first | assumption | exact upd_same); (case hv_ => exact rfl)) | ((with_reducible refine' fd_Options_room ?ho_ ?hv_ ?_); (case ho_ => first | assumption | exact upd_same); (case hv_ => exact rfl)) | ((with_reducible refine' fd_Options_life ?ho_ ?hv_ ?_); (case ho_ => first | assumption | exact upd_same); (case hv_ => exact rfl)) | ((with_reducible refine' fd_Options_pace ?ho_ ?hv_ ?_); (case ho_ => first | assumption | exact upd_same); (case hv_ => exact rfl)) | ((with_reducible refine' fd_Options_tries ?ho_ ?hv_ ?_); (case ho_ => first | assumption | exact upd_same); (case hv_ => exact rfl)) | ((with_reducible refine' fd_Options_min_rto ?ho_ ?hv_ ?_); (case ho_ => first | assumption | exact upd_same); (case hv_ => exact rfl)) | ((with_reducible refine' fd_Options_max_rto ?ho_ ?hv_ ?_); (case ho_ => first | assumption | exact upd_same); (case hv_ => exact rfl)) | ((with_reducible refine' fd_Options_ack_delay ?ho_ ?hv_ ?_); (case ho_ => first | assumption | exact upd_same); (case hv_ => exact rfl)) | ((with_reducible refine' fd_Options_keep_alive ?ho_ ?hv_ ?_); (case ho_ => first | assumption | exact upd_same); (case hv_ => exact rfl)) | ((with_reducible refine' fd_Options_nagle ?ho_ ?hv_ ?_); (case ho_ => first | assumption | exact upd_same); (case hv_ => exact rfl)) | ((with_reducible refine' fd_Options_control ?ho_ ?hv_ ?_); (case ho_ => first | assumption | exact upd_same); (case hv_ => exact rfl)) | ((with_reducible refine' nw_Options_mss ?ho_ ?hv_ ?_); (case ho_ => first | assumption | exact upd_same); (case hv_ => exact rfl)) | ((with_reducible refine' nw_Options_room ?ho_ ?hv_ ?_); (case ho_ => first | assumption | exact upd_same); (case hv_ => exact rfl)) | ((with_reducible refine' nw_Options_life ?ho_ ?hv_ ?_); (case ho_ => first | assumption | exact upd_same); (case hv_ => exact rfl)) | ((with_reducible refine' nw_Options_pace ?ho_ ?hv_ ?_); (case ho_ => first | assumption | exact upd_same); (case hv_ => exact rfl)) | ((with_reducible refine' nw_Options_tries ?ho_ ?hv_ ?_); (case ho_ => first | assumption | exact upd_same); (case hv_ => exact rfl)) | ((with_reducible refine' nw_Options_min_rto ?ho_ ?hv_ ?_); (case ho_ => first | assumption | exact upd_same); (case hv_ => exact rfl)) | ((with_reducible refine' nw_Options_max_rto ?ho_ ?hv_ ?_); (case ho_ => first | assumption | exact upd_same); (case hv_ => exact rfl)) | ((with_reducible refine' nw_Options_ack_delay ?ho_ ?hv_ ?_); (case ho_ => first | assumption | exact upd_same); (case hv_ => exact rfl)) | ((with_reducible refine' nw_Options_keep_alive ?ho_ ?hv_ ?_); (case ho_ => first | assumption | exact upd_same); (case hv_ => exact rfl)) | ((with_reducible refine' nw_Options_nagle ?ho_ ?hv_ ?_); (case ho_ => first | assumption | exact upd_same); (case hv_ => exact rfl)) | ((with_reducible refine' nw_Options_control ?ho_ ?hv_ ?_); (case ho_ => first | assumption | exact upd_same); (case hv_ => exact rfl)) | ((with_reducible refine' st_Options_mss ?ho_ ?hv_ ?_); (case ho_ => first | assumption | exact upd_same); (case hv_ => exact Nat.le_of_ble_eq_true rfl)) | ((with_reducible refine' st_Options_room ?ho_ ?hv_ ?_); (case ho_ => first | assumption | exact upd_same); (case hv_ => exact Nat.le_of_ble_eq_true rfl)) | ((with_reducible refine' st_Options_life ?ho_ ?hv_ ?_); (case ho_ => first | assumption | exact upd_same); (case hv_ => exact Nat.le_of_ble_eq_true rfl)) | ((with_reducible refine' st_Options_pace ?ho_ ?hv_ ?_); (case ho_ => first | assumption | exact upd_same); (case hv_ => exact Nat.le_of_ble_eq_true rfl)) | ((with_reducible refine' st_Options_tries ?ho_ ?hv_ ?_); (case ho_ => first | assumption | exact upd_same); (case hv_ => exact Nat.le_of_ble_eq_true rfl)) | ((with_reducible refine' st_Options_min_rto ?ho_ ?hv_ ?_); (case ho_ => first | assumption | exact upd_same); (case hv_ => exact Nat.le_of_ble_eq_true rfl)) | ((with_reducible refine' st_Options_max_rto ?ho_ ?hv_ ?_); (case ho_ => first | assumption | exact upd_same); (case hv_ => exact Nat.le_of_ble_eq_true rfl)) | ((with_reducible refine' st_Options_ack_delay ?ho_ ?hv_ ?_); (case ho_ => first | assumption | exact upd_same); (case hv_ => exact Nat.le_of_ble_eq_true rfl)) | ((with_reducible refine' st_Options_keep_alive ?ho_ ?hv_ ?_); (case ho_ => first | assumption | exact upd_same); (case hv_ => exact Nat.le_of_ble_eq_true rfl)) | ((with_reducible refine' st_Options_nagle ?ho_ ?hv_ ?_); (case ho_ => first | assumption | exact upd_same); (case hv_ => exact Nat.le_of_ble_eq_true rfl)) | ((with_reducible refine' st_Options_control ?ho_ ?hv_ ?_); (case ho_ => first | assumption | exact upd_same); (case hv_ => exact Nat.le_of_ble_eq_true rfl)) | ((with_reducible refine' me_Options_eq__ ?ho_ ?_); (case ho_ => first | assumption | exact upd_same)) | ((with_reducible refine' me_Options_fields ?ho_ ?_); (case ho_ => first | assumption | exact upd_same)) | ((with_reducible refine' me_Options_wrong_names ?ho_ ?_); (case ho_ => first | assumption | exact upd_same)))
end My
namespace My
open PySem PySem.Spec L2
local macro_rules | `(tactic| walk_at "side") => `(tactic| first | assumption | decide | omega | exact ⟨by decide, by decide⟩ | exact ⟨by decide, by decide, by decide⟩ | decide +kernel | exact cdivW (by decide +kernel) (by decide +kernel) | exact Or.inl ⟨by omega, by omega⟩ | exact Or.inr ⟨by omega, by omega⟩ | (simp only [List.length_map, List.length_cons, List.length_nil, List.length_append]; omega))
local macro_rules | `(tactic| walk_at "fact") => `(tactic| first | assumption | omega | with_reducible rfl)
local macro_rules | `(tactic| walk_at "use") => `(tactic| fail "use")
local macro_rules | `(tactic| walk_at "go1") => `(tactic| with_reducible first | refine g_seq ?_ | refine g_asg ?_ | refine g_ret ?_ | refine g_ifS ?_ | refine g_drop ?_ | refine g_star ?_ | refine g_nx ?_ | refine g_rt ?_ | refine g_bkE ?_ | refine g_ctE ?_ | refine g_next ?_ | refine g_retN ?_ | refine g_brk ?_ | refine g_ct ?_ | refine g_c ?_ | refine g_op ?_ | refine g_un ?_ | refine g_rI0 ?_ | refine g_rU ?_ | refine g_rEqI ?_ | refine g_rNeI ?_ | refine g_isN ?_ | refine g_rIsB ?_ | refine g_rNotB ?_ | refine g_test ?_ | refine g_B ?_ | refine g_bl ?_ | refine g_and ?_ | refine g_or ?_ | refine g_not ?_ | refine g_andV ?_ | refine g_orV ?_ | refine g_notV ?_ | refine g_if ?_ | refine g_chain ?_ | refine g_yes ?_ | refine g_lc ?_ | refine g_revR ?_ | refine g_rng1 ?_ | refine g_iList ?_ | refine g_nil ?_ | refine g_cons ?_ | refine g_tup ?_ | refine g_lst ?_ | refine g_call ?_ | refine g_CB ?_ | refine g_sl ?_ | refine g_noPart ?_ | refine g_part ?_ | refine g_intE ?_ | refine g_ref ?_ | refine g_fld ?_ | refine g_sfld ?_ | refine g_meth ?_ | refine g_make ?_ | refine g_prop ?_  | refine g_ipI ?_ | refine g_int1 ?_ | refine g_int1B ?_ | refine g_one ?_ | refine g_two ?_ | refine g_isiI ?_ | refine g_isiIB ?_ | refine g_isiB ?_ | refine g_BM ?_ | refine g_BM0 ?_ | refine g_sub ?_)
local macro_rules | `(tactic| walk_at "go") => `(tactic| repeat (first | walk_at "go1" | ((with_reducible refine' g_nameE ?sd_ ?_); case sd_ => dsimp only [List.set_cons_succ, List.set_cons_zero]) | ((with_reducible refine' g_var ?sd_ ?_); case sd_ => exact rfl) | ((with_reducible refine' g_aug ?sd_ ?_); case sd_ => exact rfl) | ((with_reducible refine' g_rI ?sd_ ?_); case sd_ => walk_at "side") | ((with_reducible refine' g_dT ?sd_ ?_); case sd_ => walk_at "fact") | ((with_reducible refine' g_dF ?sd_ ?_); case sd_ => walk_at "fact") | ((with_reducible refine' g_nT ?sd_ ?_); case sd_ => walk_at "fact") | ((with_reducible refine' g_nF ?sd_ ?_); case sd_ => walk_at "fact") | (with_reducible refine g_iT rfl ?_) | (with_reducible refine g_iF rfl ?_) | walk_at "use"))
local macro_rules | `(tactic| walk_at "use") => `(tactic| first | ((with_reducible refine' fd_Options_mss ?ho_ ?hv_ ?_); (case ho_ => first | assumption | exact upd_same); (case hv_ => exact rfl)) | ((with_reducible refine' fd_Options_room ?ho_ ?hv_ ?_); (case ho_ => first | assumption | exact upd_same); (case hv_ => exact rfl)) | ((with_reducible refine' fd_Options_life ?ho_ ?hv_ ?_); (case ho_ => first | assumption | exact upd_same); (case hv_ => exact rfl)) | ((with_reducible refine' fd_Options_pace ?ho_ ?hv_ ?_); (case ho_ => first | assumption | exact upd_same); (case hv_ => exact rfl)) | ((with_reducible refine' fd_Options_tries ?ho_ ?hv_ ?_); (case ho_ => first | assumption | exact upd_same); (case hv_ => exact rfl)) | ((with_reducible refine' fd_Options_min_rto ?ho_ ?hv_ ?_); (case ho_ => first | assumption | exact upd_same); (case hv_ => exact rfl)) | ((with_reducible refine' fd_Options_max_rto ?ho_ ?hv_ ?_); (case ho_ => first | assumption | exact upd_same); (case hv_ => exact rfl)) | ((with_reducible refine' fd_Options_ack_delay ?ho_ ?hv_ ?_); (case ho_ => first | assumption | exact upd_same); (case hv_ => exact rfl)) | ((with_reducible refine' fd_Options_keep_alive ?ho_ ?hv_ ?_); (case ho_ => first | assumption | exact upd_same); (case hv_ => exact rfl)) | ((with_reducible refine' fd_Options_nagle ?ho_ ?hv_ ?_); (case ho_ => first | assumption | exact upd_same); (case hv_ => exact rfl)) | ((with_reducible refine' fd_Options_control ?ho_ ?hv_ ?_); (case ho_ => first | assumption | exact upd_same); (case hv_ => exact rfl)) | ((with_reducible refine' nw_Options_mss ?ho_ ?hv_ ?_); (case ho_ => first | assumption | exact upd_same); (case hv_ => exact rfl)) | ((with_reducible refine' nw_Options_room ?ho_ ?hv_ ?_); (case ho_ => first | assumption | exact upd_same); (case hv_ => exact rfl)) | ((with_reducible refine' nw_Options_life ?ho_ ?hv_ ?_); (case ho_ => first | assumption | exact upd_same); (case hv_ => exact rfl)) | ((with_reducible refine' nw_Options_pace ?ho_ ?hv_ ?_); (case ho_ => first | assumption | exact upd_same); (case hv_ => exact rfl)) | ((with_reducible refine' nw_Options_tries ?ho_ ?hv_ ?_); (case ho_ => first | assumption | exact upd_same); (case hv_ => exact rfl)) | ((with_reducible refine' nw_Options_min_rto ?ho_ ?hv_ ?_); (case ho_ => first | assumption | exact upd_same); (case hv_ => exact rfl)) | ((with_reducible refine' nw_Options_max_rto ?ho_ ?hv_ ?_); (case ho_ => first | assumption | exact upd_same); (case hv_ => exact rfl)) | ((with_reducible refine' nw_Options_ack_delay ?ho_ ?hv_ ?_); (case ho_ => first | assumption | exact upd_same); (case hv_ => exact rfl)) | ((with_reducible refine' nw_Options_keep_alive ?ho_ ?hv_ ?_); (case ho_ => first | assumption | exact upd_same); (case hv_ => exact rfl)) | ((with_reducible refine' nw_Options_nagle ?ho_ ?hv_ ?_); (case ho_ => first | assumption | exact upd_same); (case hv_ => exact rfl)) | ((with_reducible refine' nw_Options_control ?ho_ ?hv_ ?_); (case ho_ => first | assumption | exact upd_same); (case hv_ => exact rfl)) | ((with_reducible refine' st_Options_mss ?ho_ ?hv_ ?_); (case ho_ => first | assumption | exact upd_same); (case hv_ => exact Nat.le_of_ble_eq_true rfl)) | ((with_reducible refine' st_Options_room ?ho_ ?hv_ ?_); (case ho_ => first | assumption | exact upd_same); (case hv_ => exact Nat.le_of_ble_eq_true rfl)) | ((with_reducible refine' st_Options_life ?ho_ ?hv_ ?_); (case ho_ => first | assumption | exact upd_same); (case hv_ => exact Nat.le_of_ble_eq_true rfl)) | ((with_reducible refine' st_Options_pace ?ho_ ?hv_ ?_); (case ho_ => first | assumption | exact upd_same); (case hv_ => exact Nat.le_of_ble_eq_true rfl)) | ((with_reducible refine' st_Options_tries ?ho_ ?hv_ ?_); (case ho_ => first | assumption | exact upd_same); (case hv_ => exact Nat.le_of_ble_eq_true rfl)) | ((with_reducible refine' st_Options_min_rto ?ho_ ?hv_ ?_); (case ho_ => first | assumption | exact upd_same); (case hv_ => exact Nat.le_of_ble_eq_true rfl)) | ((with_reducible refine' st_Options_max_rto ?ho_ ?hv_ ?_); (case ho_ => first | assumption | exact upd_same); (case hv_ => exact Nat.le_of_ble_eq_true rfl)) | ((with_reducible refine' st_Options_ack_delay ?ho_ ?hv_ ?_); (case ho_ => first | assumption | exact upd_same); (case hv_ => exact Nat.le_of_ble_eq_true rfl)) | ((with_reducible refine' st_Options_keep_alive ?ho_ ?hv_ ?_); (case ho_ => first | assumption | exact upd_same); (case hv_ => exact Nat.le_of_ble_eq_true rfl)) | ((with_reducible refine' st_Options_nagle ?ho_ ?hv_ ?_); (case ho_ => first | assumption | exact upd_same); (case hv_ => exact Nat.le_of_ble_eq_true rfl)) | ((with_reducible refine' st_Options_control ?ho_ ?hv_ ?_); (case ho_ => first | assumption | exact upd_same); (case hv_ => exact Nat.le_of_ble_eq_true rfl)) | ((with_reducible refine' me_Options_eq__ ?ho_ ?_); (case ho_ => first | assumption | exact upd_same)) | ((with_reducible refine' me_Options_fields ?ho_ ?_); (case ho_ => first | assumption | exact upd_same)) | ((with_reducible refine' me_Options_wrong_names ?ho_ ?_); (case ho_ => first | assumption | exact upd_same)))
section
variable {P : Program} {w : World} {K : PySem.W.Frag} {mg : Str → Option Value} {base : Heap}
/-! ### exceptions -/
section
variable {X : Cx} {K : PySem.W.Frag} {σ : St} {H : Hp} {Q : VK} {W : WX} {D : Ends} {C : Addr} {ta : TE} {t : St → Hp → XK → Prop}
def tRaise (t : St → Hp → XK → Prop) (W : WX) : TS := fun _ σ H => t σ H fun cls d H' => W cls d σ H'
theorem ps_rs {e : Expr} {pos : Pos} (hc : X.calm = true) (tk : Takes X W) (he : PMk X e t) : PS X (.Raise (some e) none pos) (tRaise t W) := ps_raise hc tk he
def tMk0 (C : Addr) : St → Hp → XK → Prop := fun _ H Q => Q (.ref C) none H
def tMk1 (C : Addr) (ta : TE) : St → Hp → XK → Prop := fun σ H Q => ta σ H fun _ H1 => Q (.ref C) none H1
theorem pmk_0 {x m : Str} {j : Nat} {p p2 pos : Pos} {bmB : List Value} {B newId initId : String} (F : ExcBaseFacts B newId initId bmB) (q : PySem.W.excIn X.K C bmB newId = true) (gC : X.mg x = some (.ref C)) (kC : PySem.W.keepIn X.K (.ref C) = true) (r : Raises X (.ref C)) (hg : Gl X x)
    (hdb : (x == ("__debug__" : Str)) = false := by decide) : PMk X (.Call (.Name x p) [.Constant (.str m) j p2] [] pos) (tMk0 C) := pmk_own F q gC kC r hg hdb
theorem pmk_1 {x : Str} {e : Expr} {p pos : Pos} {bmB : List Value} {B newId initId : String} (F : ExcBaseFacts B newId initId bmB) (q : PySem.W.excIn X.K C bmB newId = true) (gC : X.mg x = some (.ref C)) (kC : PySem.W.keepIn X.K (.ref C) = true) (r : Raises X (.ref C)) (hg : Gl X x)
    (he : PE X e ta) (hs : starEach [e] X.env = (false, eval e X.env) :: starEach [] X.env := by rfl) (hdb : (x == ("__debug__" : Str)) = false := by decide) : PMk X (.Call (.Name x p) [e] [] pos) (tMk1 C ta) := SkE.pmk_own1 F q gC kC r hg he hs hdb
theorem g_rs0 (q : W (.ref C) none σ H) : tRaise (tMk0 C) W D σ H := q
theorem g_rs1 (h : ta σ H fun _ H1 => W (.ref C) none σ H1) : tRaise (tMk1 C ta) W D σ H := h
def tTryA (K : PySem.W.Frag) (c : Value) (i : Nat) (tb : WX → TS) (ts : Addr → Value → Option Addr → TS) (Wout : WX) : TS := fun D σ H => tb (wAs K c i ts Wout D) D σ H
def tTryO (K : PySem.W.Frag) (c : Value) (tb : WX → TS) (ts : Addr → Value → Option Addr → TS) (Wout : WX) : TS := fun D σ H => tb (wOnly K c ts Wout D) D σ H
theorem ps_tryA {x n : Str} {c : Value} {i : Nat} {body suite : List Stmt} {b₀ : Stmt} {np pos pos' : Pos} {tb : WX → TS} {ts : Addr → Value → Option Addr → TS} {Wout : WX} (hs : X.stack = X.env :: X.outer) (hf : X.env.frame = some X.env.locals) (hN : X.N.Nodup) (hi : X.N[i]? = some n) (hln : X.env.kindOf n = some .local) (hc : Names X x c) (tk : Takes X Wout)
    (hb : ∀ (W : WX) (pn : List (Addr × Obj)) (xe : Value → Shared → Prop), Takes (X.tr pn xe) W → PassesOwn (model X.prog X.w) X.A X.env xe → PSs (X.tr pn xe) body (tb W))
    (hsu : ∀ (a : Addr) (oe : Obj) (cls : Value) (d : Option Addr) (pn : List (Addr × Obj)), Zc cls d oe → (∃ vs, oe.data = .fields vs) → PSs (X.suite a ((a, oe) :: pn)) (b₀ :: suite) (ts a cls d)) :
    PS X (.Try body [.ExceptHandler (some (.Name x np)) (some n) (b₀ :: suite) pos'] [] [] pos) (tTryA X.K c i tb ts Wout) := ps_try_as hs hf hN hi hln hc tk hb hsu
theorem ps_tryO {x : Str} {c : Value} {body suite : List Stmt} {b₀ : Stmt} {np pos pos' : Pos} {tb : WX → TS} {ts : Addr → Value → Option Addr → TS} {Wout : WX} (hs : X.stack = X.env :: X.outer) (hf : X.env.frame = some X.env.locals) (hc : Names X x c) (tk : Takes X Wout)
    (hb : ∀ (W : WX) (pn : List (Addr × Obj)) (xe : Value → Shared → Prop), Takes (X.tr pn xe) W → PassesOwn (model X.prog X.w) X.A X.env xe → PSs (X.tr pn xe) body (tb W))
    (hsu : ∀ (a : Addr) (oe : Obj) (cls : Value) (d : Option Addr) (pn : List (Addr × Obj)), Zc cls d oe → (∃ vs, oe.data = .fields vs) → PSs (X.suite a ((a, oe) :: pn)) (b₀ :: suite) (ts a cls d)) :
    PS X (.Try body [.ExceptHandler (some (.Name x np)) none (b₀ :: suite) pos'] [] [] pos) (tTryO X.K c tb ts Wout) := ps_try_only hs hf hc tk hb hsu
variable {c cls : Value} {d : Option Addr} {i : Nat} {tb : WX → TS} {ts : Addr → Value → Option Addr → TS} {Wout : WX}
theorem g_tryA (h : tb (wAs K c i ts Wout D) D σ H) : tTryA K c i tb ts Wout D σ H := h
theorem g_tryO (h : tb (wOnly K c ts Wout D) D σ H) : tTryO K c tb ts Wout D σ H := h
theorem g_caught (e : PySem.W.exmOne K cls c = some true) (h : ∀ a, H a = none → ts a cls d { nx := fun σ' H' => D.nx (σ'.set i none) H', rt := D.rt, bk := fun σ' H' => D.bk (σ'.set i none) H', ct := fun σ' H' => D.ct (σ'.set i none) H' } (σ.set i (some (.ref a))) H) :
    wAs K c i ts Wout D cls d σ H := ⟨true, e, fun _ => h, fun z => nomatch z⟩
theorem g_caughtO (e : PySem.W.exmOne K cls c = some true) (h : ∀ a, H a = none → ts a cls d D σ H) : wOnly K c ts Wout D cls d σ H := ⟨true, e, fun _ => h, fun z => nomatch z⟩
theorem g_callS {sp : Sp} {E : St → XK} {t : TA} (h : t σ H fun vs H1 => sp vs H1 Q (E σ)) : tCallS sp E t σ H Q := h
/-- isinstance(e, c), e the exception that the suite holds, of a class known later -/
def rIsE2 (K : PySem.W.Frag) (a : Addr) (cls : Value) (d : Option Addr) : List V → Hp → VK → Prop := fun xs H Q => ∃ (D : Addr) (c : V) (cv : Value) (b : Bool), cls = .ref D ∧ d = none ∧ ExcC K D ∧ xs = [.ref a, c] ∧ (∀ u, RelV c u → u = cv) ∧ PySem.W.kitOne K (.ref D) cv = some b ∧ Q (.bl b) H
theorem call_isE2 {a : Addr} {oe : Obj} {pn : List (Addr × Obj)} (hz : Zc cls d oe) (hf : ∃ vs, oe.data = .fields vs) : CallR (X.suite a ((a, oe) :: pn)) (.builtin "isinstance") (rIsE2 X.K a cls d) := by
  intro pins s σ H xs us Q I r h
  obtain ⟨D, c, cv, b, rfl, rfl, C, e1, hcv, e, q⟩ := h
  exact call_isE C hz hf pins s σ H xs us Q I r ⟨c, cv, b, e1, hcv, e, q⟩
theorem g_isER {R B a : Addr} {b : Bool} (C : ExcC K R) (e : PySem.W.kitOne K (.ref R) (.ref B) = some b) (q : Q (.bl b) H) : rIsE2 K a (.ref R) none [.ref a, .ref B] H Q := ⟨R, _, _, b, rfl, rfl, C, rfl, fun u r => by cases r; rfl, e, q⟩
theorem g_isET {R a : Addr} {T : String} {b : Bool} (C : ExcC K R) (e : PySem.W.kitOne K (.ref R) (.type T) = some b) (q : Q (.bl b) H) : rIsE2 K a (.ref R) none [.ref a, .ty T] H Q := ⟨R, _, _, b, rfl, rfl, C, rfl, fun u r => by cases r; rfl, e, q⟩
/-! f-strings -/
def tJoined (ts : List TE) : TE := fun σ H Q => tJs ts Str.empty σ H fun out H1 => Q (.str out) H1
theorem pe_joinedJ {v1 v2 : Expr} {rest : List Expr} {ts : List TE} {pos : Pos} (h : PJ X (v1 :: v2 :: rest) ts) : PE X (.JoinedStr (v1 :: v2 :: rest) pos) (tJoined ts) := pe_joined h
theorem g_joined {ts : List TE} (h : tJs ts Str.empty σ H fun out H1 => Q (.str out) H1) : tJoined ts σ H Q := h
theorem g_jsnil {acc : Str} {A : Str → Hp → Prop} (q : A acc H) : tJs [] acc σ H A := q
theorem g_jscons {acc : Str} {A : Str → Hp → Prop} {t : TE} {ts : List TE} (h : t σ H fun x H1 => ∃ y : Str, x = .str y ∧ (acc ++ y).length ≤ sizeLine ∧ tJs ts (acc ++ y) σ H1 A) : tJs (t :: ts) acc σ H A := h
theorem g_jsE {acc y : Str} {A : Str → Prop} (h1 : (acc ++ y).length ≤ sizeLine) (q : A y) : ∃ y' : Str, V.str y = .str y' ∧ (acc ++ y').length ≤ sizeLine ∧ A y' := ⟨y, rfl, h1, q⟩
def rAddS : R2 := fun x y H Q => ∃ i j : Str, x = .str i ∧ y = .str j ∧ i.length + j.length ≤ sizeLine ∧ Q (.str (i ++ j)) H
theorem op_addS : OpR X (binaryOp .Add) rAddS := op_add_str
theorem g_addS {y z : Str} (h : y.length + z.length ≤ 16777216) (q : Q (.str (y ++ z)) H) : rAddS (.str y) (.str z) H Q := ⟨y, z, rfl, rfl, by rw [sizeLine_eq]; exact h, q⟩
theorem g_slS {y : Str} {lo hi : Option Int} (h : y.length ≤ 16777216) (q : Q (.str (cutS y lo hi)) H) : rSlS (.str y) lo hi H Q := ⟨y, rfl, by rw [sizeLine_eq]; exact h, q⟩
theorem g_m0 {r : V → List V → Hp → VK → Prop} {to : TE} (h : to σ H fun x H1 => (∃ a, x = V.str a) ∧ r x [] H1 Q) : tM0 r to σ H Q := h
theorem g_fmtS {y : Str} {A : Str → Prop} {B : Int → Prop} (h : y.length ≤ sizeLine) (q : A y) : (∃ y' : Str, V.str y = .str y' ∧ y'.length ≤ sizeLine ∧ A y') ∨ ∃ i : Int, V.str y = .int i ∧ i.natAbs.log2 < 1920 ∧ B i := .inl ⟨y, rfl, h, q⟩
theorem g_fmtI {j : Int} {A : Str → Prop} {B : Int → Prop} (h : j.natAbs.log2 < 1920) (q : B j) : (∃ y' : Str, V.int j = .str y' ∧ y'.length ≤ sizeLine ∧ A y') ∨ ∃ i : Int, V.int j = .int i ∧ i.natAbs.log2 < 1920 ∧ B i := .inr ⟨j, rfl, h, q⟩
theorem g_fmt (h : ta σ H fun x H1 => (∃ y : Str, x = .str y ∧ y.length ≤ sizeLine ∧ Q (.str y) H1) ∨ ∃ i : Int, x = .int i ∧ i.natAbs.log2 < 1920 ∧ Q (.str (toString i)) H1) : tFmt ta σ H Q := h
end
theorem kit_refT {K : PySem.W.Frag} {t : Value} {C : Addr} (a : PySem.W.isClsIn K C = true) (b : PySem.W.typeIn K (.ref C) = some (.type "type")) (c : PySem.W.subIn K t (.ref C) = some true) : PySem.W.kitOne K t (.ref C) = some true := by
  unfold PySem.W.isClsIn at a
  unfold PySem.W.kitOne
  by_cases z : (t == Value.ref C) = true
  · rw [if_pos z]
  · rw [if_neg z]
    show (if ((PySem.W.clsIn K C).isSome && PySem.W.typeIn K (.ref C) == some (.type "type")) = true then PySem.W.subIn K t (.ref C) else none) = some true
    rw [a, b, if_pos (by rw [Bool.true_and]; exact beq_self_eq_true _)]
    exact c
theorem kit_refF {K : PySem.W.Frag} {R C : Addr} (a : PySem.W.isClsIn K C = true) (b : PySem.W.typeIn K (.ref C) = some (.type "type")) (c : PySem.W.subIn K (.ref R) (.ref C) = some false) (r : PySem.W.subIn K (.ref R) (.ref R) = some true) : PySem.W.kitOne K (.ref R) (.ref C) = some false := by
  unfold PySem.W.isClsIn at a
  unfold PySem.W.kitOne
  by_cases z : (Value.ref R == Value.ref C) = true
  · have e : Value.ref R = Value.ref C := beq_iff_eq.mp z
    injection e with e
    subst e
    rw [c] at r
    cases r
  · rw [if_neg z]
    show (if ((PySem.W.clsIn K C).isSome && PySem.W.typeIn K (.ref C) == some (.type "type")) = true then PySem.W.subIn K (.ref R) (.ref C) else none) = some false
    rw [a, b, if_pos (by rw [Bool.true_and]; exact beq_self_eq_true _)]
    exact c
theorem kit_tyT {K : PySem.W.Frag} {R : Addr} {T : String} {b : Bool} (a : PySem.W.kitMeta T = true) (c : PySem.W.subIn K (.ref R) (.type T) = some b) : PySem.W.kitOne K (.ref R) (.type T) = some b := by
  unfold PySem.W.kitOne
  rw [if_neg (by show ¬ (Value.ref R == Value.type T) = true; exact fun h => by cases (beq_iff_eq.mp h))]
  show (if PySem.W.kitMeta T = true then PySem.W.subIn K (.ref R) (.type T) else none) = some b
  rw [if_pos a]
  exact c
/-! a written dict with texts as keys -/
theorem ns_entry {K : PySem.W.Frag} {a : Addr} {c : Value} {d : Option Addr} {es : Array DictEntry} {n : Nat} {sl : Array (Option Value)} {x : Str} {u : Value} (h : K.lookup a = some ⟨c, d, .dict es n, sl⟩) (e : (es.toList.find? (·.key.isStr x)).map (·.val) = some u) : PySem.W.nsIn K a x = some (some u) := by
  unfold PySem.W.nsIn
  rw [h]
  dsimp only
  cases q : es.toList.find? (·.key.isStr x) with
  | none => rw [q] at e; cases e
  | some z => rw [q] at e; injection e with e; rw [← e]
theorem fit2 {a b : Str} (h : a.length + b.length ≤ 16777216) : (a ++ b).length ≤ sizeLine := by
  rw [PySem.Str.length_append, sizeLine_eq]
  exact h
theorem log_lt {n : Nat} (h : n < 2 ^ 64) : n.log2 < 1920 := by
  by_cases z : n = 0
  · subst z; decide
  · exact Nat.lt_trans (Nat.log2_lt z |>.mpr h) (by decide)
theorem itext {i : Int} (h : i.natAbs < 2 ^ 64) : (Str.ofString (toString i)).length ≤ 1921 := PyProof.Rows.int_text_len_1921 (log_lt h)
def keyS (e : DictEntry) : Option Str := match e.key with | .str s _ => some s | _ => none
theorem find_keys : ∀ {l : List DictEntry} {ks : List Str} {z : Str}, l.map keyS = ks.map some → z ∉ ks → l.find? (·.key.isStr z) = none ∧ l.any (·.refKey) = false
  | [], _, _, _, _ => ⟨rfl, rfl⟩
  | e :: l, [], _, h, _ => by cases h
  | e :: l, k :: ks, z, h, hz => by
    simp only [List.map_cons, List.cons.injEq] at h
    obtain ⟨i1, i2⟩ := find_keys (l := l) (ks := ks) (z := z) h.2 fun m => hz (List.mem_cons_of_mem _ m)
    have h1 := h.1
    unfold keyS at h1
    obtain ⟨hs, key, val⟩ := e
    dsimp only at h1 ⊢
    cases key with
    | str s t =>
      injection h1 with h1
      subst h1
      have ne : (s == z) = false := by
        rw [beq_eq_false_iff_ne]
        intro e
        exact hz (e ▸ List.mem_cons_self ..)
      refine ⟨?_, ?_⟩
      · rw [List.find?_cons]
        show (match (s == z) with | true => _ | false => _) = none
        rw [ne]
        exact i1
      · rw [List.any_cons, i2, Bool.or_false]
        rfl
    | _ => cases h1
theorem ns_out {K : PySem.W.Frag} {a : Addr} {c : Value} {d : Option Addr} {es : Array DictEntry} {n : Nat} {sl : Array (Option Value)} {z : Str} {ks : List Str} (h : K.lookup a = some ⟨c, d, .dict es n, sl⟩) (e : es.toList.map keyS = ks.map some) (hz : z ∉ ks) : PySem.W.nsIn K a z = some none := by
  obtain ⟨i1, i2⟩ := find_keys e hz
  unfold PySem.W.nsIn
  rw [h]
  dsimp only
  rw [i1]
  dsimp only
  rw [i2]
  rfl
section
variable {K : PySem.W.Frag} {H : Hp} {Q : VK}
def rInK (K : PySem.W.Frag) (d : Addr) : R2 := fun x y H Q => ∃ (z : Str) (r : Option Value), x = .str z ∧ y = .ref d ∧ PySem.W.nsIn K d z = some r ∧ Q (.bl r.isSome) H
def rNotInK (K : PySem.W.Frag) (d : Addr) : R2 := fun x y H Q => ∃ (z : Str) (r : Option Value), x = .str z ∧ y = .ref d ∧ PySem.W.nsIn K d z = some r ∧ Q (.bl (!r.isSome)) H
theorem op_inK {X : Cx} {d : Addr} {es : Array DictEntry} {n : Nat} (D : KDict X.K X.w d es n) : OpR X (compareOp .In) (rInK X.K d) := op_in_kd D
theorem op_notInK {X : Cx} {d : Addr} {es : Array DictEntry} {n : Nat} (D : KDict X.K X.w d es n) : OpR X (compareOp .NotIn) (rNotInK X.K d) := op_notIn_kd D
theorem g_inK {d : Addr} {z : Str} {u : Value} (e : PySem.W.nsIn K d z = some (some u)) (q : Q (.bl true) H) : rInK K d (.str z) (.ref d) H Q := ⟨z, _, rfl, rfl, e, q⟩
theorem g_inKn {d : Addr} {z : Str} (e : PySem.W.nsIn K d z = some none) (q : Q (.bl false) H) : rInK K d (.str z) (.ref d) H Q := ⟨z, _, rfl, rfl, e, q⟩
theorem g_notInK {d : Addr} {z : Str} {u : Value} (e : PySem.W.nsIn K d z = some (some u)) (q : Q (.bl false) H) : rNotInK K d (.str z) (.ref d) H Q := ⟨z, _, rfl, rfl, e, q⟩
theorem g_notInKn {d : Addr} {z : Str} (e : PySem.W.nsIn K d z = some none) (q : Q (.bl true) H) : rNotInK K d (.str z) (.ref d) H Q := ⟨z, _, rfl, rfl, e, q⟩
theorem g_ixK {w : World} {d : Addr} {z : Str} {u : Value} {v : V} {es : Array DictEntry} {n : Nat} (D : KDict K w d es n) (e : PySem.W.nsIn K d z = some (some u)) (r : RelV v u) (q : Q v H) : rIxD K w (.ref d) (.str z) H Q := ⟨d, z, v, rfl, rfl, ⟨es, n, u, D.at_, D.lit, e, r⟩, q⟩
end
local macro_rules | `(tactic| walk_at "use") => `(tactic| with_reducible first | refine g_rs0 ?_ | refine g_rs1 ?_ | refine g_tryA ?_ | refine g_tryO ?_ | refine g_callS ?_ | refine g_joined ?_ | refine g_jsnil ?_ | refine g_jscons ?_ | refine g_fmt ?_)
local macro_rules | `(tactic| walk_at "fit") => `(tactic| (refine fit2 ?_; (try simp only [PySem.Str.length_append]); omega))
local macro_rules | `(tactic| walk_at "use") => `(tactic| first | ((with_reducible refine' g_addS ?sd_ ?_); case sd_ => (first | omega | (simp only [PySem.Str.length_append]; omega))) | ((with_reducible refine' g_slS ?sd_ ?_); case sd_ => omega) | (with_reducible refine g_m0 ?_))


/-! ### x == y by an own __eq__, whatever it answers -/
def rEqO (C : Addr) (OK : V → Hp → Prop) (sp : Sp) (E : XK) : R2 := fun x y H Q => ∃ a dx fs, x = .ref a ∧ H a = some (.ins C dx fs) ∧ OK y H ∧ sp [x, y] H (fun v H' => ∃ b, v = .bl b ∧ Q (.bl b) H') E
/-- what may stand on the right: an instance of the class, or an int -/
def EqR (C : Addr) : V → Hp → Prop := fun y H => (∃ b dy gs, y = .ref b ∧ H b = some (.ins C dy gs)) ∨ ∃ i, y = .int i
theorem op_eqO {X : Cx} {CX : CXT} {n : Nat} {C f : Addr} {fd : FuncData} {ps : List Str} {sp : Sp} {E : XK} (F : FnOk X.prog X.w X.K X.mg X.base CX n f fd ps sp) (hr : Room n X.A)
    (hm : Meth X.K C "__eq__" f) (hi : PySem.W.subIn X.K (.type "int") (.ref C) = some false) (hb : Binds X.K fd ps []) (hx : Passes CX X E) : OpR X (compareOp .Eq) (rEqO C (EqR C) sp E) := by
  obtain ⟨hs, hf, _⟩ := hm
  intro pins s σ H x y v u Q I rx ry hq
  obtain ⟨a, dx, fs, rfl, ha, hy, hsp⟩ := hq
  cases rx
  show wpAny (model X.prog X.w) X.A (richCompare .Eq (.ref a) u) (EP X pins σ Q) X.xe s
  obtain ⟨mA, J, _⟩ := ins_get I.hok ha
  obtain ⟨od, J, _⟩ := J.look
  obtain ⟨m, hF⟩ := I.fr
  have hl := F.len _ _ _ _ hsp
  have r2 : Vals [V.ref a, y] [Value.ref a, u] := .cons rfl (.cons ry .nil)
  have main : wpAny (model X.prog X.w) X.A (call (.ref f) [.ref a, u]) (PySem.W.CmpBack (EP X pins σ Q)) X.xe s := by
    refine wpAny_call (codeAny_mono (F.run X.A X.stack s H ⟨[.ref a, u], []⟩ [.ref a, u] [.ref a, y] _ E hr I.env0 (by
      have := hb s [.ref a, u] I.kIn (by simpa using hl)
      simpa using this) r2 hsp) fun r s' hq => ?_)
    cases r with
    | error e => exact hx pins σ H s e s' I hq
    | ok fl =>
      cases fl with
      | ret w =>
        obtain ⟨z, H', I', rz, b, ez, q⟩ := I.after hq
        subst ez
        cases rz
        exact ⟨.bl b, H', I', rfl, q⟩
      | next => exact False.elim hq
      | brk => exact False.elim hq
      | cont => exact False.elim hq
  rcases hy with ⟨b, dy, gs, rfl, hb'⟩ | ⟨i, rfl⟩
  · cases ry
    obtain ⟨mB, J', _⟩ := ins_get I.hok hb'
    obtain ⟨od', J', _⟩ := J'.look
    exact PySem.W.cmp_K (op := .Eq) (tb := .ref C) hr.units0 hF I.ok.mod.kin J J'.type (by simp [PySem.W.notFirst]) hs hf main
  · obtain ⟨t, rfl⟩ := ry
    exact PySem.W.cmp_K (op := .Eq) (tb := .type "int") hr.units0 hF I.ok.mod.kin J (PySem.W.Looks.of_pure rfl) (by unfold PySem.W.notFirst; rw [hi]; rfl) hs hf main
theorem kit_own {K : PySem.W.Frag} {T : String} {C : Addr} (a : PySem.W.isClsIn K C = true) (b : PySem.W.typeIn K (.ref C) = some (.type "type")) (c : PySem.W.subIn K (.type T) (.ref C) = some false) : PySem.W.kitOne K (.type T) (.ref C) = some false := by
  unfold PySem.W.isClsIn at a
  unfold PySem.W.kitOne
  rw [if_neg (by show ¬ (Value.type T == Value.ref C) = true; exact fun h => by cases (beq_iff_eq.mp h))]
  show (if ((PySem.W.clsIn K C).isSome && PySem.W.typeIn K (.ref C) == some (.type "type")) = true then PySem.W.subIn K (.type T) (.ref C) else none) = some false
  rw [a, b, if_pos (by rw [Bool.true_and]; exact beq_self_eq_true _)]
  exact c

theorem kb_pure {K : PySem.W.Frag} {x qual : Str} {params : Arguments} {body : List Stmt} {scope : Scope} {kws : List (Str × V)} {f : Addr} {fd : FuncData} {ps : List Str} (F : FunD K x qual params body scope [] kws f fd) (n : Nat) (ks : List Str) (g : {α : Type} → List α → List α → List α)
    (hrel : ∀ {vs zs : List V} {us ws : List Value}, Vals vs us → Vals zs ws → Vals (g vs zs) (g us ws))
    (h : ∀ (kV doc pm : Value) (an : Option Addr) (cdv ct : Value) (us ws : List Value), us.length = n → ws.length = ks.length → bindArgs (PySem.W.fnOf x qual params body scope .none kV doc pm an cdv ct) ⟨us, ks.zip ws⟩ = pure (ps.zip (g us ws))) :
    KBn K fd ps n ks (fun us ws => g us ws) (fun vs zs => g vs zs) := by
  obtain ⟨oc, od, dV, kV, doc, pm, an, cdv, ct, osl, rfl, lk, hcd, hD, hK⟩ := F.ex
  rcases hD with ⟨_, rfl⟩ | ⟨e, _⟩
  · exact ⟨fun s us ws X l1 l2 => .of_eq (h kV doc pm an cdv ct us ws l1 l2), fun r1 r2 => hrel r1 r2⟩
  · exact absurd rfl e
theorem pe_callN0 {X : Cx} {CX : CXT} {k : Nat} {f : Addr} {fd : FuncData} {ps ks : List Str} {sp : Sp} {E : XK} {x : Str} {p pos : Pos} {kws : List Keyword} {tk : TA} {g : List Value → List Value → List Value} {gV : List V → List V → List V} (F : FnOk X.prog X.w X.K X.mg X.base CX k f fd ps sp) (hr : Room k X.A) (hg : Gl X x) (hm : X.mg x = some (.ref f)) (hk : PySem.W.keepIn X.K (.ref f) = true) (hb : KBn X.K fd ps 0 ks g gV) (hx : Passes CX X E)
    (hkw : PK X kws tk) (hall : (backToKw pos (keywordEach kws X.env)).all (·.1.isSome) = true := by rfl) (hks : (backToKw pos (keywordEach kws X.env)).filterMap (·.1) = ks := by rfl)
    (hdb : (x == ("__debug__" : Str)) = false := by decide)
    (hpl : ((backTo pos (starEach [] X.env)).any (·.1) || (backToKw pos (keywordEach kws X.env)).any (·.1.isNone)) = false := by rfl) :
    PE X (.Call (.Name x p) [] kws pos) (tCallN 0 ks.length sp gV E tNil tk) := by
  refine ⟨fun pins s σ H Q I h => ?_⟩
  refine wpAny_Call_Name_kw (ld_glob I hg hm ?_ hdb)
  refine PySem.W.callWith_KW0 (h₀ := X.base) I.ok.mod.kin hk hall ?_ hpl
  refine thn (hkw.run pos pins s σ H _ I h) fun ws s2 ⟨zs, H2, I2, rz, l1, l2, q2⟩ => ⟨I2.kIn, ?_⟩
  rw [hks]
  exact run_fnN (us := []) (vs := []) F hr hb hx I2 .nil rz rfl l2 q2
theorem g_callN {n m : Nat} {sp : Sp} {gV : List V → List V → List V} {E : XK} {t tk : TA} {σ : St} {H : Hp} {Q : VK} (h : t σ H fun vs H1 => tk σ H1 fun zs H2 => vs.length = n ∧ zs.length = m ∧ sp (gV vs zs) H2 Q E) : tCallN n m sp gV E t tk σ H Q := h
local macro_rules | `(tactic| walk_at "use") => `(tactic| with_reducible refine g_callN ?_)

/-! ### a call that leaves keyword-only parameters out: the loop over their names, step by step -/
inductive KwSteps (D : Addr) {β : Type} (f : Str → β → Sem (ForInStep β)) : List Str → β → List (Str × Value) → β → Prop
  | nil {b : β} : KwSteps D f [] b [] b
  | skip {a : Str} {L : List Str} {b b1 b' : β} {l : List (Str × Value)} : f a b = pure (.yield b1) → KwSteps D f L b1 l b' → KwSteps D f (a :: L) b l b'
  | look {a : Str} {L : List Str} {b b1 b' : β} {v : Value} {l : List (Str × Value)} (k : Option Value → Sem (ForInStep β)) : f a b = (nsGet D a >>= k) → k (some v) = pure (.yield b1) → KwSteps D f L b1 l b' → KwSteps D f (a :: L) b ((a, v) :: l) b'
theorem KwSteps.chain {D : Addr} {α β : Type} {f : Str → β → Sem (ForInStep β)} {L : List Str} {b b' : β} {l : List (Str × Value)} (h : KwSteps D f L b l b') : ∀ {rest : β → Sem α} {r : α}, rest b' = pure r → KwChain D l (forIn L b f >>= rest) r := by
  induction h with
  | nil =>
    intro rest r e
    show forIn [] _ f >>= rest = pure r
    rw [List.forIn_nil, pure_bind]
    exact e
  | skip e _ ih =>
    intro rest r e2
    have z := ih e2
    rw [List.forIn_cons, e, pure_bind]
    exact z
  | look k e e1 _ ih =>
    intro rest r e2
    have z := ih e2
    rename_i a L b b1 b' v l hs
    refine ⟨_, _, k, fun y => (match y with | .done b => pure b | .yield b => forIn L b f), rest, .yield b1, ?_, e1, z⟩
    rw [List.forIn_cons, e]
    rfl
theorem KwChain.of_steps {D : Addr} {α β : Type} {t : Sem α} {f : Str → β → Sem (ForInStep β)} {L : List Str} {b b' : β} {l : List (Str × Value)} {rest : β → Sem α} {r : α} (e : t = (forIn L b f >>= rest)) (h : KwSteps D f L b l b') (e2 : rest b' = pure r) : KwChain D l t r := e ▸ h.chain e2
theorem KwSteps.skipIf {D : Addr} {β : Type} {f : Str → β → Sem (ForInStep β)} {a : Str} {L : List Str} {b b1 b' : β} {l : List (Str × Value)} {c : Bool} {X : Sem (ForInStep β)} (e : f a b = if c = true then X else pure (.yield b1)) (hc : c = false) (h : KwSteps D f L b1 l b') : KwSteps D f (a :: L) b l b' := .skip (by rw [e, hc]; rfl) h
theorem KwSteps.lookIf {D : Addr} {β : Type} {f : Str → β → Sem (ForInStep β)} {a : Str} {L : List Str} {b b1 b' : β} {v : Value} {l : List (Str × Value)} {c : Bool} {k : Option Value → Sem (ForInStep β)} {Y : Sem (ForInStep β)} (e : f a b = if c = true then (nsGet D a >>= k) else Y) (hc : c = true) (e1 : k (some v) = pure (.yield b1)) (h : KwSteps D f L b1 l b') : KwSteps D f (a :: L) b ((a, v) :: l) b' := .look k (by rw [e, hc]; rfl) e1 h

theorem g_makeK {C : Addr} {n m : Nat} {sp : Sp} {gV : List V → List V → List V} {E : XK} {t tk : TA} {σ : St} {H : Hp} {Q : VK} (h : t σ H fun vs H1 => tk σ H1 fun zs H2 => vs.length = n ∧ zs.length = m ∧
  ∀ x dx, H2 x = none → H2 dx = none → dx ≠ x → sp (gV (.ref x :: vs) zs) (upd (upd H2 dx (.own x)) x (.ins C dx [])) (fun v H3 => v = .non ∧ Q (.ref x) H3) E) : tMakeK C n m sp gV E t tk σ H Q := h
local macro_rules | `(tactic| walk_at "use") => `(tactic| with_reducible refine g_makeK ?_)

section
variable {K : PySem.W.Frag} {H : Hp} {Q : VK}
theorem dec_str {s t : Str} : decide (V.str s = V.str t) = decide (s = t) := decide_eq_decide.mpr ⟨V.str.inj, congrArg _⟩
theorem g_rEqS {s t : Str} (q : Q (.bl (decide (s = t))) H) : rEq (.str s) (.str t) H Q := g_rEq rfl (by rw [dec_str]; exact q)
theorem g_rNeS {s t : Str} (q : Q (.bl (!decide (s = t))) H) : rNe (.str s) (.str t) H Q := g_rNe rfl (by rw [dec_str]; exact q)
theorem inV_str {s : Str} : ∀ {ws : List Str}, inV (.str s) (ws.map V.str) = decide (s ∈ ws)
  | [] => (decide_eq_false (by simp)).symm
  | t :: ws => by
    show ((t == s) || inV (.str s) (ws.map V.str)) = _
    rw [inV_str, Bool.eq_iff_iff]
    simp only [Bool.or_eq_true, beq_iff_eq, decide_eq_true_eq, List.mem_cons]
    exact ⟨fun h => h.imp Eq.symm id, fun h => h.imp Eq.symm id⟩
theorem flat_strs : ∀ {ws : List Str}, (ws.map V.str).all flatV = true
  | [] => rfl
  | _ :: ws => flat_strs (ws := ws)
theorem g_inS {p : Addr} {ws : List Str} {s : Str} (h : SqT K H p (ws.map V.str)) (q : Q (.bl (decide (s ∈ ws))) H) : rIn K false (.str s) (.ref p) H Q :=
  ⟨p, _, rfl, .inr h, rfl, flat_strs, by rw [if_neg (by decide), inV_str]; exact q⟩
theorem g_isiS {s : Str} (q : Q (.bl true) H) : rIsi K [.str s, .ty "str"] H Q := g_isi (.ty _) (.base (.str _)) (kit_ty (by decide +kernel)) q
end
local macro_rules | `(tactic| walk_at "use") => `(tactic| with_reducible first | refine g_rEqS ?_ | refine g_rNeS ?_ | refine g_isiS ?_)

/-! ### a op1 b op2 c op3 d as a test -/
section
variable {X : Cx} {σ : St} {H : Hp} {a b c d : Expr} {pos : Pos} {ta tb tc td : TE} {op op' op2 : CmpOp}
def tChain3 (r r' r2 : R2) (ta tb tc td : TE) : TE := fun σ H Q => ta σ H fun x H1 => tb σ H1 fun y H2 => r x y H2 fun z H3 => ∃ k, z = .bl k ∧
  (if k = true then tc σ H3 fun w' H4 => r' y w' H4 fun z2 H5 => ∃ k2, z2 = .bl k2 ∧ (if k2 = true then td σ H5 fun u' H6 => r2 w' u' H6 Q else Q (.bl false) H5) else Q (.bl false) H3)
theorem pt_chain3 {r r' r2 : R2} (ho : OpR X (compareOp op) r) (ho' : OpR X (compareOp op') r') (ho2 : OpR X (compareOp op2) r2) (ha : PE X a ta) (hb : PE X b tb) (hc : PE X c tc) (hd : PE X d td)
    (hm : lastMarks [op, op', op2] [b, c, d] = false := by with_unfolding_all rfl) : PT X (.Compare a [op, op', op2] [b, c, d] pos) (tTest (tChain3 r r' r2 ta tb tc td)) := by
  refine ⟨fun pins s σ H Q I h => ?_⟩
  refine PyProof.Rows.isTrue_chain (thn (ha.run pins s σ H _ I h) fun v s1 ⟨x, H1, I1, r1, q1⟩ => PyProof.Rows.test_link (thn (hb.run pins s1 σ H1 _ I1 q1) fun u s2 ⟨y, H2, I2, r2, q2⟩ =>
    thn (ho pins s2 σ H2 x y v u _ I2 r1 r2 q2) fun d s3 ⟨z, H3, I3, r3, k, e, q3⟩ => ?_)) hm
  subst e
  cases r3
  refine wpAny_truthy_bool ?_
  cases k with
  | false =>
    obtain ⟨k', e', q'⟩ := q3
    cases e'
    exact PyProof.Rows.ite_ff ⟨H3, I3, q'⟩
  | true =>
    refine PyProof.Rows.ite_tt (PyProof.Rows.test_link (thn (hc.run pins s3 σ H3 _ I3 q3) fun w' s4 ⟨z', H4, I4, r4, q4⟩ => thn (ho' pins s4 σ H4 y z' u w' _ I4 r2 r4 q4) fun d' s5 ⟨z2, H5, I5, r5, k2, e2, q5⟩ => ?_))
    subst e2
    cases r5
    refine wpAny_truthy_bool ?_
    cases k2 with
    | false =>
      obtain ⟨k', e', q'⟩ := q5
      cases e'
      exact PyProof.Rows.ite_ff ⟨H5, I5, q'⟩
    | true =>
      refine PyProof.Rows.ite_tt (PyProof.Rows.test_last (thn (hd.run pins s5 σ H5 _ I5 q5) fun u' s6 ⟨z6, H6, I6, r6, q6⟩ => thn (ho2 pins s6 σ H6 z' z6 w' u' _ I6 r4 r6 q6) fun d7 s7 ⟨z7, H7, I7, r7, k7, e7, q7⟩ => ?_))
      subst e7
      cases r7
      exact wpAny_truthy_bool ⟨H7, I7, q7⟩
theorem g_chain3 {r r' r2 : R2} {Q : VK} (h : ta σ H fun x H1 => tb σ H1 fun y H2 => r x y H2 fun z H3 => ∃ k, z = .bl k ∧
  (if k = true then tc σ H3 fun w' H4 => r' y w' H4 fun z2 H5 => ∃ k2, z2 = .bl k2 ∧ (if k2 = true then td σ H5 fun u' H6 => r2 w' u' H6 Q else Q (.bl false) H5) else Q (.bl false) H3)) : tChain3 r r' r2 ta tb tc td σ H Q := h
end
local macro_rules | `(tactic| walk_at "use") => `(tactic| with_reducible refine g_chain3 ?_)

/-! ### an expression that changes nothing, by its value: the ways of a chain are joined -/
def tCutV (t : TE) : TE := fun σ H Q => ∃ v, t σ H (fun v' H' => v' = v ∧ H' = H) ∧ Q v H
theorem pe_cutV {X : Cx} {e : Expr} {t : TE} (h : PE X e t) : PE X e (tCutV t) := by
  refine ⟨fun pins s σ H Q I hq => ?_⟩
  obtain ⟨v, hv, q⟩ := hq
  refine thn (h.run pins s σ H _ I hv) fun u s1 ⟨x, H1, I1, rx, e1, e2⟩ => ?_
  subst e1
  subst e2
  exact ⟨_, _, I1, rx, q⟩
theorem g_cutV {t : TE} {σ : St} {H : Hp} {Q : VK} (v : V) (h : t σ H fun v' H' => v' = v ∧ H' = H) (q : Q v H) : tCutV t σ H Q := ⟨v, h, q⟩
local macro_rules | `(tactic| walk_at "vb") => `(tactic| first | exact ⟨congrArg V.bl (decide_eq_decide.mpr (by omega)), rfl⟩ | exact ⟨congrArg V.bl (decide_eq_false (by omega)).symm, rfl⟩ | exact ⟨congrArg V.bl (decide_eq_true (by omega)).symm, rfl⟩)

structure Rw where
  mss : Int
  room : Int
  life : Int
  pace : Int
  tries : Int
  low : Int
  high : Int
  ack : Int
  keep : Int
  nagle : Bool
  ctl : Str
deriving DecidableEq
def rwV (g : Rw) : List V := [.int g.mss, .int g.room, .int g.life, .int g.pace, .int g.tries, .int g.low, .int g.high, .int g.ack, .int g.keep, .bl g.nagle, .str g.ctl]
def Bd (g : Rw) : Prop := (-2 ≤ g.mss ∧ g.mss ≤ 4294967296) ∧ (-2 ≤ g.room ∧ g.room ≤ 4294967296) ∧ (-2 ≤ g.life ∧ g.life ≤ 4294967296) ∧ (-2 ≤ g.pace ∧ g.pace ≤ 4294967296) ∧ (-2 ≤ g.tries ∧ g.tries ≤ 4294967296) ∧ (-2 ≤ g.low ∧ g.low ≤ 4294967296) ∧ (-2 ≤ g.high ∧ g.high ≤ 4294967296) ∧ (-2 ≤ g.ack ∧ g.ack ≤ 4294967296) ∧ (-2 ≤ g.keep ∧ g.keep ≤ 4294967296)
def Fit (g : Rw) : Prop := (8 ≤ g.mss ∧ g.mss ≤ 1460) ∧ (2 * g.mss ≤ g.room ∧ g.room ≤ 262144) ∧ (1 ≤ g.life) ∧ (1 ≤ g.pace ∧ g.pace * (g.life + 1) ≤ 1073741824) ∧ (1 ≤ g.tries ∧ g.tries ≤ 100) ∧ (1 ≤ g.low) ∧ (g.low ≤ g.high ∧ g.high ≤ 1073741824) ∧ (0 ≤ g.ack ∧ g.ack < g.low) ∧ (0 ≤ g.keep ∧ g.keep ≤ 1073741824) ∧ (g.ctl ∈ (["reno", "cubic"] : List Str))
instance (g : Rw) : Decidable (Fit g) := by unfold Fit; infer_instance
def bs (g : Rw) : List Bool := [decide (8 ≤ g.mss ∧ g.mss ≤ 1460), decide (2 * g.mss ≤ g.room ∧ g.room ≤ 262144), decide (1 ≤ g.life), decide (1 ≤ g.pace ∧ g.pace * (g.life + 1) ≤ 1073741824), decide (1 ≤ g.tries ∧ g.tries ≤ 100), decide (1 ≤ g.low), decide (g.low ≤ g.high ∧ g.high ≤ 1073741824), decide (0 ≤ g.ack ∧ g.ack < g.low), decide (0 ≤ g.keep ∧ g.keep ≤ 1073741824), true, decide (g.ctl ∈ (["reno", "cubic"] : List Str))]
def nms : List Str := ["mss", "room", "life", "pace", "tries", "min_rto", "max_rto", "ack_delay", "keep_alive", "nagle", "control"]
def wps (g : Rw) : List (Str × Bool) := nms.zip (bs g)
theorem wps_len {g : Rw} : (wps g).length = 11 := rfl
def flt (ps : List (Str × Bool)) : List Str := (ps.filter fun p => !p.2).map (·.1)
def wn (g : Rw) : List Str := flt (wps g)
theorem wn_nil {g : Rw} : wn g = [] ↔ Fit g := by
  unfold wn flt wps bs nms Fit
  simp [List.filter_eq_nil_iff]
theorem flt_take {ps : List (Str × Bool)} {i : Nat} {p : Str × Bool} (h : ps[i]? = some p) : flt (ps.take (i + 1)) = if p.2 = true then flt (ps.take i) else flt (ps.take i) ++ [p.1] := by
  unfold flt
  rw [List.take_add_one, h, List.filter_append, List.map_append]
  obtain ⟨n, b⟩ := p
  cases b <;> simp
theorem flt_len {ps : List (Str × Bool)} : (flt ps).length ≤ ps.length := by
  unfold flt
  rw [List.length_map]
  exact List.length_filter_le _ _
theorem sum_le {α : Type} {f : α → Nat} {m : Nat} : ∀ {l : List α}, (∀ x ∈ l, f x ≤ m) → (l.map f).sum ≤ m * l.length
  | [], _ => by simp
  | x :: l, h => by
    have h1 := h x (List.mem_cons_self ..)
    have h2 := sum_le (l := l) fun y hy => h y (List.mem_cons_of_mem _ hy)
    rw [List.map_cons, List.sum_cons, List.length_cons, Nat.mul_succ]
    omega
theorem wn_len {g : Rw} : (wn g).length ≤ 11 := Nat.le_trans flt_len (by unfold wps; rw [List.length_zip]; exact Nat.min_le_left _ _)
theorem wn_sz {g : Rw} : ((wn g).map (·.length)).sum ≤ 121 := by
  refine Nat.le_trans (sum_le (m := 11) fun x hx => ?_) (Nat.mul_le_mul_left 11 wn_len)
  unfold wn flt at hx
  obtain ⟨p, hp, rfl⟩ := List.mem_map.mp hx
  have h2 := (List.of_mem_zip (List.mem_filter.mp hp).1).1
  have z : ∀ s ∈ nms, s.length ≤ 11 := by decide +kernel
  exact z _ h2
/-- the tuples of a list -/
inductive TpAll (H : Hp) : List V → List (Str × Bool) → Prop
  | nil : TpAll H [] []
  | cons {a : Addr} {n : Str} {b : Bool} {vs : List V} {ps : List (Str × Bool)} : H a = some (.tup [.str n, .bl b]) → TpAll H vs ps → TpAll H (.ref a :: vs) ((n, b) :: ps)
theorem TpAll.get {H : Hp} {vs : List V} {ps : List (Str × Bool)} (h : TpAll H vs ps) : ∀ {i : Nat} {x : V}, vs[i]? = some x → ∃ a p, x = .ref a ∧ ps[i]? = some p ∧ H a = some (.tup [.str p.1, .bl p.2]) := by
  induction h with
  | nil => intro i x e; cases e
  | cons h1 _ ih =>
    intro i x e
    cases i with
    | zero => injection e with e; subst e; exact ⟨_, _, rfl, rfl, h1⟩
    | succ i => exact ih e
theorem TpAll.same {H H' : Hp} {vs : List V} {ps : List (Str × Bool)} (h : TpAll H vs ps) (s : Same H H') : TpAll H' vs ps := by
  induction h with
  | nil => exact .nil
  | cons h1 _ ih => exact .cons (s _ _ h1) ih
theorem TpAll.len {H : Hp} {vs : List V} {ps : List (Str × Bool)} (h : TpAll H vs ps) : vs.length = ps.length := by
  induction h with
  | nil => rfl
  | cons _ _ ih => exact congrArg Nat.succ ih
def OpO (C : Addr) (H : Hp) (p : Addr) (g : Rw) : Prop := ∃ dx, H p = some (.ins C dx (obj ky_Options (rwV g)))
theorem OpO.same {C : Addr} {H H' : Hp} {p : Addr} {g : Rw} (h : OpO C H p g) (s : Same H H') : OpO C H' p g := by
  obtain ⟨dx, h⟩ := h
  exact ⟨dx, s _ _ h⟩
theorem inV_int {s : Int} : ∀ {ws : List Int}, inV (.int s) (ws.map V.int) = decide (s ∈ ws)
  | [] => (decide_eq_false (by simp)).symm
  | t :: ws => by
    show ((t == s) || inV (.int s) (ws.map V.int)) = _
    rw [inV_int, Bool.eq_iff_iff]
    simp only [Bool.or_eq_true, beq_iff_eq, decide_eq_true_eq, List.mem_cons]
    exact ⟨fun h => h.imp Eq.symm id, fun h => h.imp Eq.symm id⟩
theorem flat_ints : ∀ {ws : List Int}, (ws.map V.int).all flatV = true
  | [] => rfl
  | _ :: ws => flat_ints (ws := ws)
theorem g_inI {H : Hp} {Q : VK} {p : Addr} {ws : List Int} {s : Int} (h : SqT K H p (ws.map V.int)) (q : Q (.bl (decide (s ∈ ws))) H) : rIn K false (.int s) (.ref p) H Q :=
  ⟨p, _, rfl, .inr h, rfl, flat_ints, by rw [if_neg (by decide), inV_int]; exact q⟩
theorem g_gtup {K : PySem.W.Frag} {n : Nat} {t : List V → St → Hp → (St → Hp → Prop) → Prop} {a : Addr} {xs : List V} {σ : St} {H : Hp} {Q : St → Hp → Prop} (h : SqT K H a xs) (l : xs.length = n) (q : t xs σ H Q) : gTup K n t (.ref a) σ H Q := ⟨a, xs, rfl, h, l, q⟩
theorem g_gcons {t : TG} {u : List V → St → Hp → (St → Hp → Prop) → Prop} {v : V} {r : List V} {σ : St} {H : Hp} {Q : St → Hp → Prop} (h : t v σ H fun σ' H' => u r σ' H' Q) : gCons t u (v :: r) σ H Q := ⟨v, r, rfl, h⟩
theorem g_gnil {σ : St} {H : Hp} {Q : St → Hp → Prop} (q : Q σ H) : gNil [] σ H Q := ⟨rfl, q⟩
theorem g_dropV {te : TE} {σ : St} {H : Hp} {Q : VK} (h : te σ H Q) : te σ H Q := h
local macro_rules | `(tactic| walk_at "use") => `(tactic| with_reducible first | refine g_gcons ?_ | refine g_gnil ?_)
def sp_Options_wrong_names (C : Addr) : Sp := fun vs H Q _ => ∃ (p : Addr) (g : Rw), vs = [.ref p] ∧ OpO C H p g ∧ Bd g ∧ ∀ l H', H l = none → Same H H' → H' l = some (.lst ((wn g).map V.str)) → Q (.ref l) H'
theorem ok_Options_wrong_names (T : Txt w K mg) : FnOk P w K mg base CX0 1 T.f_Options_wrong_names T.d_Options_wrong_names ["self"] (sp_Options_wrong_names T.C_Options) := by
  refine T.F_Options_wrong_names.ok sc_Options_wrong_names (fun vs H Q E h => ?_) (fun cdv A outer s H vs Q E hr h => ?_)
  · obtain ⟨p, g, rfl, hO, bd, q⟩ := h
    rfl
  · obtain ⟨p, g, rfl, hO, bd, q⟩ := h
    have hu := hu_of hr
    refine ⟨_, (pss_cons (ps_set (i := 1) sc_Options_wrong_names.nd rfl (Or.inl rfl) (pe_lst (pa_cons (pe_tup (pa_cons pe_str (pa_cons (pe_cutV (pe_chain op_le op_le pe_int (pe_fld (pv 0) rfl) pe_int)) pa_nil))) (pa_cons (pe_tup (pa_cons pe_str (pa_cons (pe_cutV (pe_chain op_le op_le (pe_op op_mul pe_int (pe_fld (pv 0) rfl)) (pe_fld (pv 0) rfl) pe_int)) pa_nil))) (pa_cons (pe_tup (pa_cons pe_str (pa_cons (pe_cmpR op_ge (pe_fld (pv 0) rfl) pe_int (nomark _)) pa_nil))) (pa_cons (pe_tup (pa_cons pe_str (pa_cons (pe_cutV (pe_and (pe_cmpR op_ge (pe_fld (pv 0) rfl) pe_int (nomark _)) (pe_one (pe_cmpR op_le (pe_op op_mul (pe_fld (pv 0) rfl) (pe_op op_add (pe_fld (pv 0) rfl) pe_int)) (pe_glob (v := .int 1073741824) (by rfl) T.v_MOST_UNDER_WAY ⟨_, rfl⟩) (nomark _))))) pa_nil))) (pa_cons (pe_tup (pa_cons pe_str (pa_cons (pe_cutV (pe_chain op_le op_le pe_int (pe_fld (pv 0) rfl) pe_int)) pa_nil))) (pa_cons (pe_tup (pa_cons pe_str (pa_cons (pe_cmpR op_ge (pe_fld (pv 0) rfl) pe_int (nomark _)) pa_nil))) (pa_cons (pe_tup (pa_cons pe_str (pa_cons (pe_cutV (pe_chain op_le op_le (pe_fld (pv 0) rfl) (pe_fld (pv 0) rfl) (pe_glob (v := .int 1073741824) (by rfl) T.v_MOST_TICKS ⟨_, rfl⟩))) pa_nil))) (pa_cons (pe_tup (pa_cons pe_str (pa_cons (pe_cutV (pe_chain op_le op_lt pe_int (pe_fld (pv 0) rfl) (pe_fld (pv 0) rfl))) pa_nil))) (pa_cons (pe_tup (pa_cons pe_str (pa_cons (pe_cutV (pe_chain op_le op_le pe_int (pe_fld (pv 0) rfl) (pe_glob (v := .int 1073741824) (by rfl) T.v_MOST_TICKS ⟨_, rfl⟩))) pa_nil))) (pa_cons (pe_tup (pa_cons pe_str (pa_cons (pe_callB call_isi (by rfl) T.n_isinstance (by decide +kernel) (pa_cons (pe_fld (pv 0) rfl) (pa_cons (pe_bltn (v := .ty "bool") (by rfl) T.n_bool (by decide +kernel) rfl) pa_nil))) pa_nil))) (pa_cons (pe_tup (pa_cons pe_str (pa_cons (pe_cmpR op_in_seq (pe_fld (pv 0) rfl) (pe_tup (pa_cons pe_str (pa_cons pe_str pa_nil))) (by with_unfolding_all rfl)) pa_nil))) pa_nil)))))))))))))
        (pss_one (ps_ret (pe_lc (own := [("name", 3), ("is_right", 2)]) (g := gTup K 2 (gCons (gName 3) (gCons (gName 2) gNil))) rfl sc_Options_wrong_names.nd (pi_list (pv 1)) (blkOk_by (N := ["self", "checks", "is_right", "name"]) (sc := defScope s_Options_wrong_names) (by decide +kernel)) (fun _ _ _ _ _ => (pg_tup rfl (pgs_cons (pg_name (i := 3) sc_Options_wrong_names.nd rfl (Or.inl rfl)) (pgs_cons (pg_name (i := 2) sc_Options_wrong_names.nd rfl (Or.inl rfl)) pgs_nil)))) (fun _ _ _ _ _ => (pts_one (pt_not (pt_val (pv 2))))) (fun _ _ _ _ _ => (pv 3)))))), ?_⟩
    dsimp only [cxOf, Cx.nox, Cx.wish, L2.start, List.map, List.cons_append, List.nil_append, List.length_cons, List.length_nil, Nat.reduceAdd, Nat.reduceSub, Nat.zero_add, List.replicate_succ, List.replicate_zero]
    obtain ⟨dx, ho⟩ := hO
    unfold rwV at ho
    unfold Bd at bd
    have hq0 : Same H H := Same.refl H
    walk_at "go"
    refine g_cutV (.bl (decide (8 ≤ g.mss ∧ g.mss ≤ 1460))) ?_ ?_
    · walk_at "go"
      refine g_ite (fun h => ?_) (fun h => ?_)
      · walk_at "go"
        walk_at "vb"
      · walk_at "vb"
    walk_at "go"
    refine ⟨by show 2 ≤ sizeLine; decide, fun p1 hp1 => ?_⟩
    generalize z1 : upd H p1 _ = H1
    have s1 : Same H H1 := by rw [← z1]; exact same_upd hp1
    have k1 : H1 p1 = some (.tup [.str "mss", .bl (decide (8 ≤ g.mss ∧ g.mss ≤ 1460))]) := (congrFun z1 p1).symm.trans upd_same
    clear z1
    have ho := s1 _ _ ho
    walk_at "go"
    refine g_cutV (.bl (decide (2 * g.mss ≤ g.room ∧ g.room ≤ 262144))) ?_ ?_
    · walk_at "go"
      refine g_ite (fun h => ?_) (fun h => ?_)
      · walk_at "go"
        walk_at "vb"
      · walk_at "vb"
    walk_at "go"
    refine ⟨by show 2 ≤ sizeLine; decide, fun p2 hp2 => ?_⟩
    generalize z2 : upd H1 p2 _ = H2
    have s2 : Same H1 H2 := by rw [← z2]; exact same_upd hp2
    have k2 : H2 p2 = some (.tup [.str "room", .bl (decide (2 * g.mss ≤ g.room ∧ g.room ≤ 262144))]) := (congrFun z2 p2).symm.trans upd_same
    clear z2
    have ho := s2 _ _ ho
    walk_at "go"
    refine ⟨by show 2 ≤ sizeLine; decide, fun p3 hp3 => ?_⟩
    generalize z3 : upd H2 p3 _ = H3
    have s3 : Same H2 H3 := by rw [← z3]; exact same_upd hp3
    have k3 : H3 p3 = some (.tup [.str "life", .bl (decide (1 ≤ g.life))]) := (congrFun z3 p3).symm.trans upd_same
    clear z3
    have ho := s3 _ _ ho
    walk_at "go"
    refine g_cutV (.bl (decide (1 ≤ g.pace ∧ g.pace * (g.life + 1) ≤ 1073741824))) ?_ ?_
    · walk_at "go"
      refine g_ite (fun h => ?_) (fun h => ?_)
      · walk_at "go"
        walk_at "vb"
      · walk_at "vb"
    walk_at "go"
    refine ⟨by show 2 ≤ sizeLine; decide, fun p4 hp4 => ?_⟩
    generalize z4 : upd H3 p4 _ = H4
    have s4 : Same H3 H4 := by rw [← z4]; exact same_upd hp4
    have k4 : H4 p4 = some (.tup [.str "pace", .bl (decide (1 ≤ g.pace ∧ g.pace * (g.life + 1) ≤ 1073741824))]) := (congrFun z4 p4).symm.trans upd_same
    clear z4
    have ho := s4 _ _ ho
    walk_at "go"
    refine g_cutV (.bl (decide (1 ≤ g.tries ∧ g.tries ≤ 100))) ?_ ?_
    · walk_at "go"
      refine g_ite (fun h => ?_) (fun h => ?_)
      · walk_at "go"
        walk_at "vb"
      · walk_at "vb"
    walk_at "go"
    refine ⟨by show 2 ≤ sizeLine; decide, fun p5 hp5 => ?_⟩
    generalize z5 : upd H4 p5 _ = H5
    have s5 : Same H4 H5 := by rw [← z5]; exact same_upd hp5
    have k5 : H5 p5 = some (.tup [.str "tries", .bl (decide (1 ≤ g.tries ∧ g.tries ≤ 100))]) := (congrFun z5 p5).symm.trans upd_same
    clear z5
    have ho := s5 _ _ ho
    walk_at "go"
    refine ⟨by show 2 ≤ sizeLine; decide, fun p6 hp6 => ?_⟩
    generalize z6 : upd H5 p6 _ = H6
    have s6 : Same H5 H6 := by rw [← z6]; exact same_upd hp6
    have k6 : H6 p6 = some (.tup [.str "min_rto", .bl (decide (1 ≤ g.low))]) := (congrFun z6 p6).symm.trans upd_same
    clear z6
    have ho := s6 _ _ ho
    walk_at "go"
    refine g_cutV (.bl (decide (g.low ≤ g.high ∧ g.high ≤ 1073741824))) ?_ ?_
    · walk_at "go"
      refine g_ite (fun h => ?_) (fun h => ?_)
      · walk_at "go"
        walk_at "vb"
      · walk_at "vb"
    walk_at "go"
    refine ⟨by show 2 ≤ sizeLine; decide, fun p7 hp7 => ?_⟩
    generalize z7 : upd H6 p7 _ = H7
    have s7 : Same H6 H7 := by rw [← z7]; exact same_upd hp7
    have k7 : H7 p7 = some (.tup [.str "max_rto", .bl (decide (g.low ≤ g.high ∧ g.high ≤ 1073741824))]) := (congrFun z7 p7).symm.trans upd_same
    clear z7
    have ho := s7 _ _ ho
    walk_at "go"
    refine g_cutV (.bl (decide (0 ≤ g.ack ∧ g.ack < g.low))) ?_ ?_
    · walk_at "go"
      refine g_ite (fun h => ?_) (fun h => ?_)
      · walk_at "go"
        walk_at "vb"
      · walk_at "vb"
    walk_at "go"
    refine ⟨by show 2 ≤ sizeLine; decide, fun p8 hp8 => ?_⟩
    generalize z8 : upd H7 p8 _ = H8
    have s8 : Same H7 H8 := by rw [← z8]; exact same_upd hp8
    have k8 : H8 p8 = some (.tup [.str "ack_delay", .bl (decide (0 ≤ g.ack ∧ g.ack < g.low))]) := (congrFun z8 p8).symm.trans upd_same
    clear z8
    have ho := s8 _ _ ho
    walk_at "go"
    refine g_cutV (.bl (decide (0 ≤ g.keep ∧ g.keep ≤ 1073741824))) ?_ ?_
    · walk_at "go"
      refine g_ite (fun h => ?_) (fun h => ?_)
      · walk_at "go"
        walk_at "vb"
      · walk_at "vb"
    walk_at "go"
    refine ⟨by show 2 ≤ sizeLine; decide, fun p9 hp9 => ?_⟩
    generalize z9 : upd H8 p9 _ = H9
    have s9 : Same H8 H9 := by rw [← z9]; exact same_upd hp9
    have k9 : H9 p9 = some (.tup [.str "keep_alive", .bl (decide (0 ≤ g.keep ∧ g.keep ≤ 1073741824))]) := (congrFun z9 p9).symm.trans upd_same
    clear z9
    have ho := s9 _ _ ho
    walk_at "go"
    refine ⟨by show 2 ≤ sizeLine; decide, fun p10 hp10 => ?_⟩
    generalize z10 : upd H9 p10 _ = H10
    have s10 : Same H9 H10 := by rw [← z10]; exact same_upd hp10
    have k10 : H10 p10 = some (.tup [.str "nagle", .bl (true)]) := (congrFun z10 p10).symm.trans upd_same
    clear z10
    have ho := s10 _ _ ho
    walk_at "go"
    refine ⟨by show 2 ≤ sizeLine; decide, fun pc hpc => ?_⟩
    generalize zc : upd H10 pc _ = Hc
    have sc : Same H10 Hc := by rw [← zc]; exact same_upd hpc
    have kc : Hc pc = some (.tup ((["reno", "cubic"] : List Str).map V.str)) := (congrFun zc pc).symm.trans upd_same
    clear zc
    refine g_inS (ws := ["reno", "cubic"]) (st kc) ?_
    walk_at "go"
    refine ⟨by show 2 ≤ sizeLine; decide, fun p11 hp11 => ?_⟩
    generalize z11 : upd Hc p11 _ = H11
    have s11 : Same Hc H11 := by rw [← z11]; exact same_upd hp11
    have k11 : H11 p11 = some (.tup [.str "control", .bl (decide (g.ctl ∈ (["reno", "cubic"] : List Str)))]) := (congrFun z11 p11).symm.trans upd_same
    clear z11
    have s11 : Same H10 H11 := sc.trans s11
    have ho := s11 _ _ ho
    walk_at "go"
    refine ⟨by show 11 ≤ sizeLine; decide, fun l0 hl0 => ?_⟩
    have k11' : TpAll H11 [.ref p1, .ref p2, .ref p3, .ref p4, .ref p5, .ref p6, .ref p7, .ref p8, .ref p9, .ref p10, .ref p11] (wps g) := by
      refine .cons (s11 _ _ (s10 _ _ (s9 _ _ (s8 _ _ (s7 _ _ (s6 _ _ (s5 _ _ (s4 _ _ (s3 _ _ (s2 _ _ (k1))))))))))) ?_
      refine .cons (s11 _ _ (s10 _ _ (s9 _ _ (s8 _ _ (s7 _ _ (s6 _ _ (s5 _ _ (s4 _ _ (s3 _ _ (k2)))))))))) ?_
      refine .cons (s11 _ _ (s10 _ _ (s9 _ _ (s8 _ _ (s7 _ _ (s6 _ _ (s5 _ _ (s4 _ _ (k3))))))))) ?_
      refine .cons (s11 _ _ (s10 _ _ (s9 _ _ (s8 _ _ (s7 _ _ (s6 _ _ (s5 _ _ (k4)))))))) ?_
      refine .cons (s11 _ _ (s10 _ _ (s9 _ _ (s8 _ _ (s7 _ _ (s6 _ _ (k5))))))) ?_
      refine .cons (s11 _ _ (s10 _ _ (s9 _ _ (s8 _ _ (s7 _ _ (k6)))))) ?_
      refine .cons (s11 _ _ (s10 _ _ (s9 _ _ (s8 _ _ (k7))))) ?_
      refine .cons (s11 _ _ (s10 _ _ (s9 _ _ (k8)))) ?_
      refine .cons (s11 _ _ (s10 _ _ (k9))) ?_
      refine .cons (s11 _ _ (k10)) ?_
      refine .cons (k11) ?_
      exact .nil
    have s0 : Same H H11 := ((((((((((s1).trans s2).trans s3).trans s4).trans s5).trans s6).trans s7).trans s8).trans s9).trans s10).trans s11
    generalize z12 : upd H11 l0 _ = H12
    have s12 : Same H11 H12 := by rw [← z12]; exact same_upd hl0
    have k12 : H12 l0 = some (.lst [.ref p1, .ref p2, .ref p3, .ref p4, .ref p5, .ref p6, .ref p7, .ref p8, .ref p9, .ref p10, .ref p11]) := (congrFun z12 l0).symm.trans upd_same
    clear z12
    have K12 := k11'.same s12
    have S12 := s0.trans s12
    clear s1 s2 s3 s4 s5 s6 s7 s8 s9 s10 s11 sc k1 k2 k3 k4 k5 k6 k7 k8 k9 k10 k11 kc k11' ho hl0
    have hln := K12.len
    generalize [V.ref p1, V.ref p2, V.ref p3, V.ref p4, V.ref p5, V.ref p6, V.ref p7, V.ref p8, V.ref p9, V.ref p10, V.ref p11] = vs at k12 K12 hln
    walk_at "go"
    refine ⟨⟨_, sl k12⟩, fun D hD => ?_⟩
    refine lc_it walk_list (fun i H' => Same H12 H' ∧ H' D = some (.lst ((flt ((wps g).take i)).map V.str))) ⟨same_upd hD, upd_same⟩ (fun i H' _ h => sl (h.1 _ _ k12)) ?_ ?_
    · rintro i x H3 H4 hi ⟨s3, e3⟩ ⟨rfl, hx⟩
      obtain ⟨a, ⟨n, b⟩, rfl, hp, ha⟩ := (K12.same s3).get hx
      refine g_gtup (xs := [V.str n, V.bl b]) (st ha) rfl ?_
      walk_at "go"
      refine ⟨rfl, ?_⟩
      walk_at "go"
      have ft := flt_take hp
      dsimp only at ft
      cases b
      · walk_at "go"
        refine ⟨_, e3, ?_, ?_, ?_⟩
        · rw [List.length_map]
          exact szl (Nat.lt_of_le_of_lt flt_len (by rw [List.length_take, wps_len]; omega))
        · exact (But.of s3).upd.same hD
        · rw [upd_same, ft, if_neg (by decide), List.map_append]
          rfl
      · walk_at "go"
        rw [if_pos rfl] at ft
        rw [ft]
        exact ⟨s3, e3⟩
    · rintro H3 ⟨s3, e3⟩
      rw [hln, List.take_length] at e3
      exact q D H3 (S12.free hD) (S12.trans s3) e3
theorem join_len {y : Str} : ∀ l : List Str, (Str.join y l).length ≤ (l.map (·.length)).sum + l.length * y.length
  | [] => Nat.zero_le _
  | [s] => by
    show s.length ≤ (s.length + 0) + 1 * y.length
    omega
  | s :: t :: l => by
    have ih := join_len (y := y) (t :: l)
    show (s ++ y ++ Str.join y (t :: l)).length ≤ _
    rw [PySem.Str.length_append, PySem.Str.length_append, List.map_cons, List.sum_cons, List.length_cons (a := s), Nat.succ_mul]
    omega
def sp_Options_init__ (C Ce : Addr) : Sp := fun vs H Q E => ∃ (p dx : Addr) (g : Rw), vs = .ref p :: rwV g ∧ H p = some (.ins C dx (obj ky_Options [])) ∧ Bd g ∧ (Fit g → ∀ H', But p H H' → H' p = some (.ins C dx (obj ky_Options (rwV g))) → Q .non H') ∧ (¬ Fit g → ∀ H', But p H H' → E (.ref Ce) none H')
theorem ok_Options_init__ (T : Txt w K mg) : FnOk P w K mg base (L2.CX P w) 2 T.f_Options_init__ T.d_Options_init__ ["self", "mss", "room", "life", "pace", "tries", "min_rto", "max_rto", "ack_delay", "keep_alive", "nagle", "control"] (sp_Options_init__ T.C_Options T.C_InvalidOptions) := by
  refine T.F_Options_init__.ok sc_Options_init__ (fun vs H Q E h => ?_) (fun cdv A outer s H vs Q E hr h => ?_)
  · obtain ⟨p, dx, g, rfl, ho, bd, q1, q2⟩ := h
    rfl
  · obtain ⟨p, dx, g, rfl, ho, bd, q1, q2⟩ := h
    have hu := hu_of hr
    refine ⟨_, (pss_cons (ps_fld (pv 0) (pv 1) rfl)
        (pss_cons (ps_fld (pv 0) (pv 2) rfl)
        (pss_cons (ps_fld (pv 0) (pv 3) rfl)
        (pss_cons (ps_fld (pv 0) (pv 4) rfl)
        (pss_cons (ps_fld (pv 0) (pv 5) rfl)
        (pss_cons (ps_fld (pv 0) (pv 6) rfl)
        (pss_cons (ps_fld (pv 0) (pv 7) rfl)
        (pss_cons (ps_fld (pv 0) (pv 8) rfl)
        (pss_cons (ps_fld (pv 0) (pv 9) rfl)
        (pss_cons (ps_fld (pv 0) (pv 10) rfl)
        (pss_cons (ps_fld (pv 0) (pv 11) rfl)
        (pss_cons (ps_set (i := 12) sc_Options_init__.nd rfl (Or.inl rfl) (pe_meth0 (pv 0) T.k_Options T.a_Options_wrong_names (ok_Options_wrong_names T) (hr.mono (by decide)) T.b_Options_wrong_names .nil pass0))
        (pss_one (ps_if (pt_cmpR op_gt (pe_callB call_len_seq (by rfl) T.n_len (by decide +kernel) (pa_cons (pv 12) pa_nil)) pe_int (nomark _)) (pss_one (ps_rs rfl (takes_of rfl rfl rfl rfl) (pmk_1 PySem.F.excBase_ValueError T.xP_InvalidOptions T.c_InvalidOptions T.ke_InvalidOptions (raises_own T.be_InvalidOptions T.te_InvalidOptions) rfl (pe_op op_addS pe_str (pe_join pe_str (pv 12)))))) pss_nil)))))))))))))), ?_⟩
    dsimp only [cxOf, Cx.nox, Cx.wish, L2.start, List.map, List.cons_append, List.nil_append, List.length_cons, List.length_nil, Nat.reduceAdd, Nat.reduceSub, Nat.zero_add, List.replicate_succ, List.replicate_zero]
    unfold rwV
    walk_at "go"
    simp only [upd_upd, List.nil_append, List.cons_append]
    refine ⟨p, g, rfl, ⟨dx, upd_same⟩, bd, fun l H' nl s1 e1 => ?_⟩
    have b1 := (But.refl (p := p) (H := H)).upd (o := .ins T.C_Options dx (obj ky_Options (rwV g)))
    have b2 := b1.trans (But.of s1)
    have ho1 : H' p = some (.ins T.C_Options dx (obj ky_Options (rwV g))) := s1 _ _ upd_same
    walk_at "go"
    refine g_len (.inl (sl e1)) ?_
    walk_at "go"
    rw [List.length_map]
    refine g_ite (fun c => ?_) (fun c => ?_)
    · walk_at "go"
      have nf : ¬ Fit g := fun f => by rw [wn_nil.mpr f] at c; exact absurd c (by decide)
      refine ⟨⟨_, rfl⟩, ?_⟩
      walk_at "go"
      refine ⟨_, l, wn g, rfl, rfl, .inl (sl e1), ?_, ?_⟩
      · have := wn_sz (g := g)
        have := wn_len (g := g)
        have z : (", " : Str).length = 2 := by decide +kernel
        rw [z]
        omega
      · refine g_addS ?_ ?_
        · rw [TL.join_eq]
          have z1 := join_len (y := ", ") (wn g)
          have z2 : (", " : Str).length = 2 := by decide +kernel
          have z3 : ("wrong values: " : Str).length = 14 := by decide +kernel
          have := wn_sz (g := g)
          have := wn_len (g := g)
          rw [z2] at z1
          rw [z3]
          omega
        · exact q2 nf H' b2
    · walk_at "go"
      have f : Fit g := wn_nil.mp (List.eq_nil_of_length_eq_zero (by omega))
      exact q1 f H' b2 ho1
def sp_Options_patience (C : Addr) : Sp := fun vs H Q _ => ∃ (p : Addr) (g : Rw), vs = [.ref p] ∧ OpO C H p g ∧ Bd g ∧ Q (.int (g.tries * g.high)) H
theorem ok_Options_patience (T : Txt w K mg) : FnOk P w K mg base CX0 1 T.f_Options_patience T.d_Options_patience ["self"] (sp_Options_patience T.C_Options) := by
  refine T.F_Options_patience.ok sc_Options_patience (fun vs H Q E h => ?_) (fun cdv A outer s H vs Q E hr h => ?_)
  · obtain ⟨p, g, rfl, ⟨dx, ho⟩, bd, q⟩ := h
    rfl
  · obtain ⟨p, g, rfl, ⟨dx, ho⟩, bd, q⟩ := h
    have hu := hu_of hr
    refine ⟨_, (pss_one (ps_ret (pe_op op_mul (pe_fld (pv 0) rfl) (pe_fld (pv 0) rfl)))), ?_⟩
    dsimp only [cxOf, Cx.nox, Cx.wish, L2.start, List.map, List.cons_append, List.nil_append, List.length_cons, List.length_nil, Nat.reduceAdd, Nat.reduceSub, Nat.zero_add, List.replicate_succ, List.replicate_zero]
    unfold rwV at ho
    unfold Bd at bd
    walk_at "go"
    exact q
def sp_Options_resting (C : Addr) : Sp := fun vs H Q _ => ∃ (p : Addr) (g : Rw), vs = [.ref p] ∧ OpO C H p g ∧ Bd g ∧ Q (.int (g.life + g.tries * g.high)) H
theorem ok_Options_resting (T : Txt w K mg) : FnOk P w K mg base CX0 3 T.f_Options_resting T.d_Options_resting ["self"] (sp_Options_resting T.C_Options) := by
  refine T.F_Options_resting.ok sc_Options_resting (fun vs H Q E h => ?_) (fun cdv A outer s H vs Q E hr h => ?_)
  · obtain ⟨p, g, rfl, hO, bd, q⟩ := h
    rfl
  · obtain ⟨p, g, rfl, hO, bd, q⟩ := h
    have hu := hu_of hr
    refine ⟨_, (pss_one (ps_ret (pe_op op_add (pe_fld (pv 0) rfl) (pe_prop (pv 0) T.k_Options T.p_Options_patience (ok_Options_patience T) (hr.mono (by decide)) T.b_Options_patience .nil pass0 (by rfl))))), ?_⟩
    dsimp only [cxOf, Cx.nox, Cx.wish, L2.start, List.map, List.cons_append, List.nil_append, List.length_cons, List.length_nil, Nat.reduceAdd, Nat.reduceSub, Nat.zero_add, List.replicate_succ, List.replicate_zero]
    obtain ⟨dx, ho⟩ := id hO
    unfold rwV at ho
    walk_at "go"
    refine ⟨p, dx, _, rfl, ho, ⟨p, g, rfl, hO, bd, ?_⟩⟩
    walk_at "go"
    exact q
def IsShf (r : Int) (k : Nat) : Prop := k < 15 ∧ r / 2 ^ k ≤ 65535 ∧ ∀ j : Nat, j < k → 65535 < r / 2 ^ j
theorem isShf_unique {r : Int} {a b : Nat} (h : IsShf r a) (h' : IsShf r b) : a = b := by
  rcases Nat.lt_trichotomy a b with c | c | c
  · have := h'.2.2 a c
    have := h.2.1
    omega
  · exact c
  · have := h.2.2 b c
    have := h'.2.1
    omega
def shl (r : Int) (i : Nat) : List Int := ((List.range i).filter fun k => decide (r / 2 ^ k ≤ 65535)).map fun k : Nat => (k : Int)
theorem shl_succ {r : Int} {i : Nat} : shl r (i + 1) = if r / 2 ^ i ≤ 65535 then shl r i ++ [(i : Int)] else shl r i := by
  unfold shl
  rw [List.range_succ, List.filter_append, List.map_append]
  by_cases c : r / 2 ^ i ≤ 65535
  · rw [if_pos c]
    simp [c]
  · rw [if_neg c]
    simp [c]
theorem shl_mem {r : Int} {i : Nat} {x : Int} : x ∈ shl r i ↔ ∃ k : Nat, k < i ∧ r / 2 ^ k ≤ 65535 ∧ x = (k : Int) := by
  unfold shl
  simp only [List.mem_map, List.mem_filter, List.mem_range, decide_eq_true_eq]
  constructor
  · rintro ⟨k, ⟨h1, h2⟩, rfl⟩
    exact ⟨k, h1, h2, rfl⟩
  · rintro ⟨k, h1, h2, rfl⟩
    exact ⟨k, ⟨h1, h2⟩, rfl⟩
theorem shl_len {r : Int} {i : Nat} : (shl r i).length ≤ i := by
  unfold shl
  rw [List.length_map]
  exact Nat.le_trans (List.length_filter_le _ _) (by rw [List.length_range]; exact Nat.le_refl _)
theorem cpw {i : Nat} (h : i < 15) : (0 : Int) < 2 ^ i ∧ (2 : Int) ^ i < 1000000 := by
  have h1 : ∀ i, i < 15 → (0 : Int) < 2 ^ i ∧ (2 : Int) ^ i < 1000000 := by decide +kernel
  exact h1 i h
def sp_Options_shift (C : Addr) : Sp := fun vs H Q _ => ∃ (p : Addr) (g : Rw), vs = [.ref p] ∧ OpO C H p g ∧ g.room ≤ 262144 ∧ ∀ (k : Nat) H', IsShf g.room k → Same H H' → Q (.int k) H'
theorem ok_Options_shift (T : Txt w K mg) : FnOk P w K mg base CX0 1 T.f_Options_shift T.d_Options_shift ["self"] (sp_Options_shift T.C_Options) := by
  refine T.F_Options_shift.ok sc_Options_shift (fun vs H Q E h => ?_) (fun cdv A outer s H vs Q E hr h => ?_)
  · obtain ⟨p, g, rfl, ⟨dx, ho⟩, bd, q⟩ := h
    rfl
  · obtain ⟨p, g, rfl, ⟨dx, ho⟩, bd, q⟩ := h
    have hu := hu_of hr
    refine ⟨_, (pss_one (ps_ret (pe_callB (cr_min rfl) (by rfl) T.n_min (by decide +kernel) (pa_cons (pe_lc (own := [("k", 1)]) (g := gName 1) rfl sc_Options_shift.nd (pi_range1 (by rfl) T.n_range (pa_cons pe_int pa_nil)) (blkOk_by (N := ["self", "k"]) (sc := defScope s_Options_shift) (by decide +kernel)) (fun _ _ _ _ _ => (pg_name (i := 1) sc_Options_shift.nd rfl (Or.inl rfl))) (fun _ _ _ _ _ => (pts_one (pt_cmpR op_le (pe_op op_fdivW (show PE _ _ (tFld K _ _) from pe_fld (pv 0) rfl) (pe_op op_pow pe_int (pv 1))) (pe_glob (v := .int 65535) (by rfl) T.v_GREATEST_WINDOW ⟨_, rfl⟩) (nomark _)))) (fun _ _ _ _ _ => (pv 1))) pa_nil)))), ?_⟩
    dsimp only [cxOf, Cx.nox, Cx.wish, L2.start, List.map, List.cons_append, List.nil_append, List.length_cons, List.length_nil, Nat.reduceAdd, Nat.reduceSub, Nat.zero_add, List.replicate_succ, List.replicate_zero]
    unfold rwV at ho
    walk_at "go"
    refine ⟨by decide, by decide, fun D hD => ?_⟩
    have npD : p ≠ D := ne_of_none ho hD
    refine lc_it walk_range (fun i H' => Same H H' ∧ H' D = some (.lst ((shl g.room i).map V.int))) ⟨same_upd hD, upd_same⟩ (fun _ _ _ _ => trivial) ?_ ?_
    · rintro i x H3 H4 hi ⟨s3, e3⟩ ⟨rfl, rfl⟩
      have ho3 := s3 _ _ ho
      have hi' : i < 15 := by simpa using hi
      have hp2 := cpw hi'
      refine ⟨rfl, ?_⟩
      walk_at "go"
      dsimp only
      refine g_rI (i := 2) (j := 0 + (i : Int)) ⟨by omega, by omega, by decide⟩ ?_
      rw [show (0 + (i : Int)).toNat = i by omega]
      refine g_rI (cdivW hp2.1 (Int.lt_trans hp2.2 (by decide +kernel))) ?_
      walk_at "go"
      have sc := shl_succ (r := g.room) (i := i)
      refine g_ite (fun c => ?_) (fun c => ?_)
      · walk_at "go"
        rw [if_pos c] at sc
        refine ⟨_, e3, ?_, (But.of s3).upd.same hD, ?_⟩
        · rw [List.length_map]
          exact szl (Nat.lt_of_le_of_lt shl_len (by omega))
        · rw [upd_same, sc, List.map_append, Int.zero_add]
          rfl
      · rw [if_neg c] at sc
        rw [sc]
        exact ⟨s3, e3⟩
    · rintro H3 ⟨s3, e3⟩
      rw [show Int.toNat 15 = 15 from rfl] at e3
      have h14 : (14 : Int) ∈ shl g.room 15 := shl_mem.mpr ⟨14, by omega, by
        rw [show (2 : Int) ^ 14 = 16384 from rfl]
        omega, rfl⟩
      walk_at "go"
      refine g_min (sl e3) (List.length_pos_of_mem h14) fun m hm hl => ?_
      obtain ⟨k, k1, k2, rfl⟩ := shl_mem.mp hm
      refine q k H3 ⟨k1, k2, fun j hj => ?_⟩ s3
      by_cases c : g.room / 2 ^ j ≤ 65535
      · have := hl j (shl_mem.mpr ⟨j, by omega, c, rfl⟩)
        omega
      · omega
def sp_Options_fields (C : Addr) : Sp := fun vs H Q _ => ∃ (p : Addr) (g : Rw), vs = [.ref p] ∧ OpO C H p g ∧ ∀ t, H t = none → Q (.ref t) (upd H t (.tup (rwV g)))
theorem ok_Options_fields (T : Txt w K mg) : FnOk P w K mg base CX0 1 T.f_Options_fields T.d_Options_fields ["self"] (sp_Options_fields T.C_Options) := by
  refine T.F_Options_fields.ok sc_Options_fields (fun vs H Q E h => ?_) (fun cdv A outer s H vs Q E hr h => ?_)
  · obtain ⟨p, g, rfl, ⟨dx, ho⟩, q⟩ := h
    rfl
  · obtain ⟨p, g, rfl, ⟨dx, ho⟩, q⟩ := h
    have hu := hu_of hr
    refine ⟨_, (pss_one (ps_ret (pe_tup (pa_cons (pe_fld (pv 0) rfl) (pa_cons (pe_fld (pv 0) rfl) (pa_cons (pe_fld (pv 0) rfl) (pa_cons (pe_fld (pv 0) rfl) (pa_cons (pe_fld (pv 0) rfl) (pa_cons (pe_fld (pv 0) rfl) (pa_cons (pe_fld (pv 0) rfl) (pa_cons (pe_fld (pv 0) rfl) (pa_cons (pe_fld (pv 0) rfl) (pa_cons (pe_fld (pv 0) rfl) (pa_cons (pe_fld (pv 0) rfl) pa_nil)))))))))))))), ?_⟩
    dsimp only [cxOf, Cx.nox, Cx.wish, L2.start, List.map, List.cons_append, List.nil_append, List.length_cons, List.length_nil, Nat.reduceAdd, Nat.reduceSub, Nat.zero_add, List.replicate_succ, List.replicate_zero]
    unfold rwV at ho
    unfold rwV at q
    walk_at "go"
    exact ⟨by show 11 ≤ sizeLine; decide, q⟩
def rwD (g : Rw) : List PyData := [.int g.mss, .int g.room, .int g.life, .int g.pace, .int g.tries, .int g.low, .int g.high, .int g.ack, .int g.keep, .bool g.nagle, .str g.ctl]
theorem dp_rw {H : Hp} {g : Rw} : DpAll K H (rwV g) (rwD g) := .cons (.int _) (.cons (.int _) (.cons (.int _) (.cons (.int _) (.cons (.int _) (.cons (.int _) (.cons (.int _) (.cons (.int _) (.cons (.int _) (.cons (.bl _) (.cons (.str _) .nil))))))))))
theorem eqv_rw {g g' : Rw} : PyData.eqvAll (rwD g) (rwD g') = decide (g = g') := by
  obtain ⟨a, b, c, d, e, f, i, j, k, l, m⟩ := g
  obtain ⟨a', b', c', d', e', f', i', j', k', l', m'⟩ := g'
  show ((a == a') && ((b == b') && ((c == c') && ((d == d') && ((e == e') && ((f == f') && ((i == i') && ((j == j') && ((k == k') && ((l == l') && ((m == m') && true))))))))))) = _
  rw [Bool.eq_iff_iff]
  simp
theorem w_ok : ∀ s ∈ (["reno", "cubic", "refused"] : List Str), PyData.canLay0 (.str s) = true := by decide +kernel
theorem sh_of {d : PyData} (h1 : PyData.canLay0 d = true) (h2 : PyData.depth d ≤ 64) : SeqAt.shaped d = true := by
  unfold SeqAt.shaped
  rw [h1, decide_eq_true h2]
  rfl
def Ct (g : Rw) : Prop := g.ctl ∈ (["reno", "cubic"] : List Str)
theorem lay_rw {g : Rw} (h : Ct g) : PyData.canLayAll0 (rwD g) = true := by
  have z : PyData.canLay0 (.str g.ctl) = true := w_ok _ (by
    unfold Ct at h
    simp only [List.mem_cons, List.not_mem_nil, or_false] at h ⊢
    exact h.elim .inl fun z => .inr (.inl z))
  show (true && (true && (true && (true && (true && (true && (true && (true && (true && (true && (PyData.canLay0 (.str g.ctl) && true))))))))))) = true
  rw [z]
  rfl
theorem sh_t {g : Rw} (h : Ct g) : SeqAt.shaped (.tuple (rwD g)) = true := sh_of (lay_rw h) (by show max 0 (max 0 (max 0 (max 0 (max 0 (max 0 (max 0 (max 0 (max 0 (max 0 (max 0 0)))))))))) + 1 ≤ 64; decide)
theorem sh_l {g : Rw} (h : Ct g) : SeqAt.shaped (.list (rwD g)) = true := sh_of (lay_rw h) (by show max 0 (max 0 (max 0 (max 0 (max 0 (max 0 (max 0 (max 0 (max 0 (max 0 (max 0 0)))))))))) + 1 ≤ 64; decide)
def sp_Options_eq__ (C : Addr) : Sp := fun vs H Q _ => ∃ (p p' : Addr) (g g' : Rw), vs = [.ref p, .ref p'] ∧ OpO C H p g ∧ OpO C H p' g' ∧ Ct g ∧ Ct g' ∧ ∀ H', Same H H' → Q (.bl (decide (g = g'))) H'
theorem ok_Options_eq__ (T : Txt w K mg) : FnOk P w K mg base CX0 2 T.f_Options_eq__ T.d_Options_eq__ ["self", "other"] (sp_Options_eq__ T.C_Options) := by
  refine T.F_Options_eq__.ok sc_Options_eq__ (fun vs H Q E h => ?_) (fun cdv A outer s H vs Q E hr h => ?_)
  · obtain ⟨p, p', g, g', rfl, hO, hO', c1, c2, q⟩ := h
    rfl
  · obtain ⟨p, p', g, g', rfl, hO, hO', c1, c2, q⟩ := h
    have hu := hu_of hr
    refine ⟨_, (pss_cons (ps_if (pt_not (pt_val (pe_callB call_isi (by rfl) T.n_isinstance (by decide +kernel) (pa_cons (pv 1) (pa_cons (pe_glob (v := .ref T.C_Options) (by rfl) T.c_Options rfl) pa_nil))))) (pss_one (ps_ret pe_bl)) pss_nil)
        (pss_one (ps_ret (pe_cmpR (op_eqD hr.units) (pe_meth0 (pv 0) T.k_Options T.a_Options_fields (ok_Options_fields T) (hr.mono (by decide)) T.b_Options_fields .nil pass0) (pe_meth0 (pv 1) T.k_Options T.a_Options_fields (ok_Options_fields T) (hr.mono (by decide)) T.b_Options_fields .nil pass0) (nomark _))))), ?_⟩
    dsimp only [cxOf, Cx.nox, Cx.wish, L2.start, List.map, List.cons_append, List.nil_append, List.length_cons, List.length_nil, Nat.reduceAdd, Nat.reduceSub, Nat.zero_add, List.replicate_succ, List.replicate_zero]
    obtain ⟨dx, ho⟩ := id hO
    obtain ⟨dx', ho'⟩ := id hO'
    walk_at "go"
    refine g_isi (.own _) (.base (T.i_Options ho')) (if_pos (beq_self_eq_true _)) ?_
    walk_at "go"
    refine ⟨p, g, rfl, hO, fun t ht => ?_⟩
    have ho1 := (same_upd (o := .tup (rwV g)) ht) _ _ ho'
    walk_at "go"
    refine ⟨p', g', rfl, ⟨dx', ho1⟩, fun t' ht' => ?_⟩
    refine ⟨.tuple (rwD g), .tuple (rwD g'), .tup (st ((same_upd ht') _ _ upd_same)) dp_rw, .tup (st upd_same) dp_rw, sh_t c1, sh_t c2, ?_⟩
    rw [show PyData.eqv (.tuple (rwD g)) (.tuple (rwD g')) = decide (g = g') from eqv_rw]
    exact q _ ((same_upd ht).trans (same_upd ht'))
end
end My
namespace My
open PySem PySem.Spec L2
local macro_rules | `(tactic| walk_at "side") => `(tactic| first | assumption | decide | omega | exact ⟨by decide, by decide⟩ | exact ⟨by decide, by decide, by decide⟩ | decide +kernel | exact cdivW (by decide +kernel) (by decide +kernel) | exact Or.inl ⟨by omega, by omega⟩ | exact Or.inr ⟨by omega, by omega⟩ | (simp only [List.length_map, List.length_cons, List.length_nil, List.length_append]; omega))
local macro_rules | `(tactic| walk_at "fact") => `(tactic| first | assumption | omega | with_reducible rfl)
local macro_rules | `(tactic| walk_at "use") => `(tactic| fail "use")
local macro_rules | `(tactic| walk_at "go1") => `(tactic| with_reducible first | refine g_seq ?_ | refine g_asg ?_ | refine g_ret ?_ | refine g_ifS ?_ | refine g_drop ?_ | refine g_star ?_ | refine g_nx ?_ | refine g_rt ?_ | refine g_bkE ?_ | refine g_ctE ?_ | refine g_next ?_ | refine g_retN ?_ | refine g_brk ?_ | refine g_ct ?_ | refine g_c ?_ | refine g_op ?_ | refine g_un ?_ | refine g_rI0 ?_ | refine g_rU ?_ | refine g_rEqI ?_ | refine g_rNeI ?_ | refine g_isN ?_ | refine g_rIsB ?_ | refine g_rNotB ?_ | refine g_test ?_ | refine g_B ?_ | refine g_bl ?_ | refine g_and ?_ | refine g_or ?_ | refine g_not ?_ | refine g_andV ?_ | refine g_orV ?_ | refine g_notV ?_ | refine g_if ?_ | refine g_chain ?_ | refine g_yes ?_ | refine g_lc ?_ | refine g_revR ?_ | refine g_rng1 ?_ | refine g_iList ?_ | refine g_nil ?_ | refine g_cons ?_ | refine g_tup ?_ | refine g_lst ?_ | refine g_call ?_ | refine g_CB ?_ | refine g_sl ?_ | refine g_noPart ?_ | refine g_part ?_ | refine g_intE ?_ | refine g_ref ?_ | refine g_fld ?_ | refine g_sfld ?_ | refine g_meth ?_ | refine g_make ?_ | refine g_prop ?_  | refine g_ipI ?_ | refine g_int1 ?_ | refine g_int1B ?_ | refine g_one ?_ | refine g_two ?_ | refine g_isiI ?_ | refine g_isiIB ?_ | refine g_isiB ?_ | refine g_BM ?_ | refine g_BM0 ?_ | refine g_sub ?_)
local macro_rules | `(tactic| walk_at "go") => `(tactic| repeat (first | walk_at "go1" | ((with_reducible refine' g_nameE ?sd_ ?_); case sd_ => dsimp only [List.set_cons_succ, List.set_cons_zero]) | ((with_reducible refine' g_var ?sd_ ?_); case sd_ => exact rfl) | ((with_reducible refine' g_aug ?sd_ ?_); case sd_ => exact rfl) | ((with_reducible refine' g_rI ?sd_ ?_); case sd_ => walk_at "side") | ((with_reducible refine' g_dT ?sd_ ?_); case sd_ => walk_at "fact") | ((with_reducible refine' g_dF ?sd_ ?_); case sd_ => walk_at "fact") | ((with_reducible refine' g_nT ?sd_ ?_); case sd_ => walk_at "fact") | ((with_reducible refine' g_nF ?sd_ ?_); case sd_ => walk_at "fact") | (with_reducible refine g_iT rfl ?_) | (with_reducible refine g_iF rfl ?_) | walk_at "use"))
local macro_rules | `(tactic| walk_at "use") => `(tactic| first | ((with_reducible refine' fd_Options_mss ?ho_ ?hv_ ?_); (case ho_ => first | assumption | exact upd_same); (case hv_ => exact rfl)) | ((with_reducible refine' fd_Options_room ?ho_ ?hv_ ?_); (case ho_ => first | assumption | exact upd_same); (case hv_ => exact rfl)) | ((with_reducible refine' fd_Options_life ?ho_ ?hv_ ?_); (case ho_ => first | assumption | exact upd_same); (case hv_ => exact rfl)) | ((with_reducible refine' fd_Options_pace ?ho_ ?hv_ ?_); (case ho_ => first | assumption | exact upd_same); (case hv_ => exact rfl)) | ((with_reducible refine' fd_Options_tries ?ho_ ?hv_ ?_); (case ho_ => first | assumption | exact upd_same); (case hv_ => exact rfl)) | ((with_reducible refine' fd_Options_min_rto ?ho_ ?hv_ ?_); (case ho_ => first | assumption | exact upd_same); (case hv_ => exact rfl)) | ((with_reducible refine' fd_Options_max_rto ?ho_ ?hv_ ?_); (case ho_ => first | assumption | exact upd_same); (case hv_ => exact rfl)) | ((with_reducible refine' fd_Options_ack_delay ?ho_ ?hv_ ?_); (case ho_ => first | assumption | exact upd_same); (case hv_ => exact rfl)) | ((with_reducible refine' fd_Options_keep_alive ?ho_ ?hv_ ?_); (case ho_ => first | assumption | exact upd_same); (case hv_ => exact rfl)) | ((with_reducible refine' fd_Options_nagle ?ho_ ?hv_ ?_); (case ho_ => first | assumption | exact upd_same); (case hv_ => exact rfl)) | ((with_reducible refine' fd_Options_control ?ho_ ?hv_ ?_); (case ho_ => first | assumption | exact upd_same); (case hv_ => exact rfl)) | ((with_reducible refine' nw_Options_mss ?ho_ ?hv_ ?_); (case ho_ => first | assumption | exact upd_same); (case hv_ => exact rfl)) | ((with_reducible refine' nw_Options_room ?ho_ ?hv_ ?_); (case ho_ => first | assumption | exact upd_same); (case hv_ => exact rfl)) | ((with_reducible refine' nw_Options_life ?ho_ ?hv_ ?_); (case ho_ => first | assumption | exact upd_same); (case hv_ => exact rfl)) | ((with_reducible refine' nw_Options_pace ?ho_ ?hv_ ?_); (case ho_ => first | assumption | exact upd_same); (case hv_ => exact rfl)) | ((with_reducible refine' nw_Options_tries ?ho_ ?hv_ ?_); (case ho_ => first | assumption | exact upd_same); (case hv_ => exact rfl)) | ((with_reducible refine' nw_Options_min_rto ?ho_ ?hv_ ?_); (case ho_ => first | assumption | exact upd_same); (case hv_ => exact rfl)) | ((with_reducible refine' nw_Options_max_rto ?ho_ ?hv_ ?_); (case ho_ => first | assumption | exact upd_same); (case hv_ => exact rfl)) | ((with_reducible refine' nw_Options_ack_delay ?ho_ ?hv_ ?_); (case ho_ => first | assumption | exact upd_same); (case hv_ => exact rfl)) | ((with_reducible refine' nw_Options_keep_alive ?ho_ ?hv_ ?_); (case ho_ => first | assumption | exact upd_same); (case hv_ => exact rfl)) | ((with_reducible refine' nw_Options_nagle ?ho_ ?hv_ ?_); (case ho_ => first | assumption | exact upd_same); (case hv_ => exact rfl)) | ((with_reducible refine' nw_Options_control ?ho_ ?hv_ ?_); (case ho_ => first | assumption | exact upd_same); (case hv_ => exact rfl)) | ((with_reducible refine' st_Options_mss ?ho_ ?hv_ ?_); (case ho_ => first | assumption | exact upd_same); (case hv_ => exact Nat.le_of_ble_eq_true rfl)) | ((with_reducible refine' st_Options_room ?ho_ ?hv_ ?_); (case ho_ => first | assumption | exact upd_same); (case hv_ => exact Nat.le_of_ble_eq_true rfl)) | ((with_reducible refine' st_Options_life ?ho_ ?hv_ ?_); (case ho_ => first | assumption | exact upd_same); (case hv_ => exact Nat.le_of_ble_eq_true rfl)) | ((with_reducible refine' st_Options_pace ?ho_ ?hv_ ?_); (case ho_ => first | assumption | exact upd_same); (case hv_ => exact Nat.le_of_ble_eq_true rfl)) | ((with_reducible refine' st_Options_tries ?ho_ ?hv_ ?_); (case ho_ => first | assumption | exact upd_same); (case hv_ => exact Nat.le_of_ble_eq_true rfl)) | ((with_reducible refine' st_Options_min_rto ?ho_ ?hv_ ?_); (case ho_ => first | assumption | exact upd_same); (case hv_ => exact Nat.le_of_ble_eq_true rfl)) | ((with_reducible refine' st_Options_max_rto ?ho_ ?hv_ ?_); (case ho_ => first | assumption | exact upd_same); (case hv_ => exact Nat.le_of_ble_eq_true rfl)) | ((with_reducible refine' st_Options_ack_delay ?ho_ ?hv_ ?_); (case ho_ => first | assumption | exact upd_same); (case hv_ => exact Nat.le_of_ble_eq_true rfl)) | ((with_reducible refine' st_Options_keep_alive ?ho_ ?hv_ ?_); (case ho_ => first | assumption | exact upd_same); (case hv_ => exact Nat.le_of_ble_eq_true rfl)) | ((with_reducible refine' st_Options_nagle ?ho_ ?hv_ ?_); (case ho_ => first | assumption | exact upd_same); (case hv_ => exact Nat.le_of_ble_eq_true rfl)) | ((with_reducible refine' st_Options_control ?ho_ ?hv_ ?_); (case ho_ => first | assumption | exact upd_same); (case hv_ => exact Nat.le_of_ble_eq_true rfl)) | ((with_reducible refine' me_Options_eq__ ?ho_ ?_); (case ho_ => first | assumption | exact upd_same)) | ((with_reducible refine' me_Options_fields ?ho_ ?_); (case ho_ => first | assumption | exact upd_same)) | ((with_reducible refine' me_Options_wrong_names ?ho_ ?_); (case ho_ => first | assumption | exact upd_same)))
section
variable {P : Program} {w : World} {K : PySem.W.Frag} {mg : Str → Option Value} {base : Heap}
local macro_rules | `(tactic| walk_at "use") => `(tactic| with_reducible first | refine g_rs0 ?_ | refine g_rs1 ?_ | refine g_tryA ?_ | refine g_tryO ?_ | refine g_callS ?_ | refine g_joined ?_ | refine g_jsnil ?_ | refine g_jscons ?_ | refine g_fmt ?_)
local macro_rules | `(tactic| walk_at "fit") => `(tactic| (refine fit2 ?_; (try simp only [PySem.Str.length_append]); omega))
local macro_rules | `(tactic| walk_at "use") => `(tactic| first | ((with_reducible refine' g_addS ?sd_ ?_); case sd_ => (first | omega | (simp only [PySem.Str.length_append]; omega))) | ((with_reducible refine' g_slS ?sd_ ?_); case sd_ => omega) | (with_reducible refine g_m0 ?_))

local macro_rules | `(tactic| walk_at "use") => `(tactic| with_reducible first | refine g_makeK ?_ | refine g_callN ?_ | refine g_chain3 ?_ | refine g_gcons ?_ | refine g_gnil ?_ | refine g_rEqS ?_ | refine g_rNeS ?_ | refine g_isiS ?_)
def sp_l_cell (K : PySem.W.Frag) : Sp := fun vs H Q _ => ∃ (a : Addr) (ns : List Int) (k : Int), vs = [.ref a, .int k] ∧ SqL K H a (ns.map V.int) ∧ 0 ≤ k ∧ Q (.int (cell ns k)) H
theorem u_cell {a : Addr} {ns : List Int} {k : Int} {H Q E} (h : SqL K H a (ns.map V.int)) (h0 : 0 ≤ k) (q : Q (.int (cell ns k)) H) : sp_l_cell K ([.ref a, .int k] ++ []) H Q E := ⟨a, ns, k, rfl, h, h0, q⟩
theorem ok_l_cell (T : Txt w K mg) : FnOk P w K mg base CX0 1 T.f_l_cell T.d_l_cell ["script", "k"] (sp_l_cell K) := by
  refine T.F_l_cell.ok sc_l_cell (fun vs H Q E h => ?_) (fun cdv A outer s H vs Q E hr h => ?_)
  · obtain ⟨a, ns, k, rfl, hS, h0, q⟩ := h
    rfl
  · obtain ⟨a, ns, k, rfl, hS, h0, q⟩ := h
    have hu := hu_of hr
    refine ⟨_, (pss_cons (ps_if (pt_cmpR op_lt (pv 1) (pe_callB call_len_seq (by rfl) T.n_len (by decide +kernel) (pa_cons (pv 0) pa_nil)) (nomark _)) (pss_one (ps_ret (pe_ix ix_list (pv 0) (pv 1) (fun _ _ => rfl)))) pss_nil)
        (pss_one (ps_ret pe_int))), ?_⟩
    dsimp only [cxOf, Cx.nox, Cx.wish, L2.start, List.map, List.cons_append, List.nil_append, List.length_cons, List.length_nil, Nat.reduceAdd, Nat.reduceSub, Nat.zero_add, List.replicate_succ, List.replicate_zero]
    walk_at "go"
    refine g_len (.inl hS) ?_
    walk_at "go"
    rw [List.length_map]
    refine g_ite (fun h => ?_) (fun h => ?_)
    · walk_at "go"
      refine g_ixL hS (atI_map h0 h) ?_
      exact q
    · walk_at "go"
      rw [cell_out h] at q
      exact q
local macro_rules | `(tactic| walk_at "use") => `(tactic| with_reducible refine u_cell (by assumption) (by decide) ?_)

def sp_l_is_integer (K : PySem.W.Frag) : Sp := fun vs H Q _ => ∃ (n : Int), vs = [.int n] ∧ Q (.bl true) H
theorem u_isint {n : Int} {H Q E} (q : Q (.bl true) H) : sp_l_is_integer K ([.int n] ++ []) H Q E := ⟨n, rfl, q⟩
theorem ok_l_is_integer (T : Txt w K mg) : FnOk P w K mg base CX0 1 T.f_l_is_integer T.d_l_is_integer ["told"] (sp_l_is_integer K) := by
  refine T.F_l_is_integer.ok sc_l_is_integer (fun vs H Q E h => ?_) (fun cdv A outer s H vs Q E hr h => ?_)
  · obtain ⟨n, rfl, q⟩ := h
    rfl
  · obtain ⟨n, rfl, q⟩ := h
    have hu := hu_of hr
    refine ⟨_, (pss_one (ps_ret (pe_and (pe_callB call_isi (by rfl) T.n_isinstance (by decide +kernel) (pa_cons (pv 0) (pa_cons (pe_bltn (v := .ty "int") (by rfl) T.n_int (by decide +kernel) rfl) pa_nil))) (pe_one (pe_not (pe_callB call_isi (by rfl) T.n_isinstance (by decide +kernel) (pa_cons (pv 0) (pa_cons (pe_bltn (v := .ty "bool") (by rfl) T.n_bool (by decide +kernel) rfl) pa_nil)))))))), ?_⟩
    dsimp only [cxOf, Cx.nox, Cx.wish, L2.start, List.map, List.cons_append, List.nil_append, List.length_cons, List.length_nil, Nat.reduceAdd, Nat.reduceSub, Nat.zero_add, List.replicate_succ, List.replicate_zero]
    walk_at "go"
    exact q
local macro_rules | `(tactic| walk_at "use") => `(tactic| with_reducible refine u_isint ?_)

def sp_l_start (K : PySem.W.Frag) : Sp := fun vs H Q _ => ∃ c k : Int, vs = [.int c, .int k] ∧ ∀ p n, H p = none → Q (.ref p) (upd H p (.lst [.int n]))
theorem u_start {c k : Int} {H Q E} (q : ∀ p n, H p = none → Q (.ref p) (upd H p (.lst [.int n]))) : sp_l_start K ([.int c, .int k] ++ []) H Q E := ⟨c, k, rfl, q⟩
theorem one_ok : 1 ≤ sizeLine := by decide
theorem abs_mod {a : Int} : (a % 618970019642690137449562111).natAbs < 2 ^ 89 := by omega
theorem ok_l_start (T : Txt w K mg) : FnOk P w K mg base CX0 1 T.f_l_start T.d_l_start ["cell", "k"] (sp_l_start K) := by
  refine T.F_l_start.ok sc_l_start (fun vs H Q E h => ?_) (fun cdv A outer s H vs Q E hr h => ?_)
  · obtain ⟨c, k, rfl, q⟩ := h
    rfl
  · obtain ⟨c, k, rfl, q⟩ := h
    have hu := hu_of hr
    refine ⟨_, (pss_cons (ps_set (i := 2) sc_l_start.nd rfl (Or.inl rfl) pe_int)
        (pss_cons (ps_if (pt_chain op_lt op_lt (pe_un un_neg pe_int) (pv 0) pe_int) (pss_cons (ps_set (i := 3) sc_l_start.nd rfl (Or.inl rfl) (pe_op op_mod (pe_callTy call_int1 (by rfl) T.n_int (by decide +kernel) (pa_cons (pe_op op_add (pe_op op_mul (pv 0) pe_int) (pe_op op_mul (pe_op op_add (pv 1) pe_int) pe_int)) pa_nil)) (pv 2)))
        (pss_one (ps_ret (pe_lst (pa_cons (pe_op op_mod (pe_callTy call_int1 (by rfl) T.n_int (by decide +kernel) (pa_cons (pe_op op_add (pe_op op_add (pe_op op_mulW (pv 3) (pv 3)) (pe_op op_mul pe_int (pv 3))) (pv 1)) pa_nil)) (pv 2)) pa_nil))))) pss_nil)
        (pss_one (ps_ret (pe_lst (pa_cons (pv 0) pa_nil)))))), ?_⟩
    dsimp only [cxOf, Cx.nox, Cx.wish, L2.start, List.map, List.cons_append, List.nil_append, List.length_cons, List.length_nil, Nat.reduceAdd, Nat.reduceSub, Nat.zero_add, List.replicate_succ, List.replicate_zero]
    walk_at "go"
    refine g_ite (fun c1 => ?_) (fun c1 => ?_)
    · walk_at "go"
      refine g_ite (fun c2 => ?_) (fun c2 => ?_)
      · walk_at "go"
        refine g_rI (wide_mul abs_mod abs_mod (by decide) (by decide) (by decide)) ?_
        walk_at "go"
        exact ⟨one_ok, fun p hp => q p _ hp⟩
      · walk_at "go"
        exact ⟨one_ok, fun p hp => q p _ hp⟩
    · walk_at "go"
      exact ⟨one_ok, fun p hp => q p _ hp⟩
theorem lt8000 {m : Int} (h : m < 18446744073709551616) : m < 2 ^ 8000 := Int.lt_trans h (by decide +kernel)
def sp_l_digit (K : PySem.W.Frag) : Sp := fun vs H Q _ => ∃ (p : Addr) (n m : Int), vs = [.ref p, .int m] ∧ H p = some (.lst [.int n]) ∧ 0 < m ∧ m < 18446744073709551616 ∧ Q (.int (n % m)) (upd H p (.lst [.int (n / m)]))
theorem u_digit {p : Addr} {n m : Int} {H Q E} (h : H p = some (.lst [.int n])) (h0 : 0 < m) (h1 : m < 18446744073709551616) (q : Q (.int (n % m)) (upd H p (.lst [.int (n / m)]))) : sp_l_digit K ([.ref p, .int m] ++ []) H Q E := ⟨p, n, m, rfl, h, h0, h1, q⟩
theorem ok_l_digit (T : Txt w K mg) : FnOk P w K mg base CX0 1 T.f_l_digit T.d_l_digit ["state", "many"] (sp_l_digit K) := by
  refine T.F_l_digit.ok sc_l_digit (fun vs H Q E h => ?_) (fun cdv A outer s H vs Q E hr h => ?_)
  · obtain ⟨p, n, m, rfl, hp, h0, h1, q⟩ := h
    rfl
  · obtain ⟨p, n, m, rfl, hp, h0, h1, q⟩ := h
    have hu := hu_of hr
    refine ⟨_, (pss_cons (ps_set (i := 2) sc_l_digit.nd rfl (Or.inl rfl) (pe_op op_mod (pe_callTy call_int1 (by rfl) T.n_int (by decide +kernel) (pa_cons (pe_ix ix_list (pv 0) pe_int (fun _ _ => rfl)) pa_nil)) (pv 1)))
        (pss_cons (ps_asg (pe_op op_fdivW (pe_ix ix_list (pv 0) pe_int (fun _ _ => rfl)) (pv 1)) (pg_sub (pv 0) pe_int set_list))
        (pss_one (ps_ret (pv 2))))), ?_⟩
    dsimp only [cxOf, Cx.nox, Cx.wish, L2.start, List.map, List.cons_append, List.nil_append, List.length_cons, List.length_nil, Nat.reduceAdd, Nat.reduceSub, Nat.zero_add, List.replicate_succ, List.replicate_zero]
    walk_at "go"
    refine g_ixL (sl hp) (at_of (j := 0) rfl rfl) ?_
    walk_at "go"
    refine g_ixL (sl hp) (at_of (j := 0) rfl rfl) ?_
    walk_at "go"
    refine g_rI (cdivW h0 (lt8000 h1)) ?_
    walk_at "go"
    refine g_setL (j := 0) hp rfl ?_
    walk_at "go"
    exact q

/-- [_law_digit(state, m) for j in range(cnt)] -/
theorem lc_digs {σ : St} {H1 : Hp} {p : Addr} {n m : Int} {cnt is j : Nat} {D : Addr} {Qd : Hp → Prop} (hD : H1 D = none) (hp : H1 p = some (.lst [.int n])) (h0 : 0 < m) (h1 : m < 18446744073709551616) (hc : cnt ≤ 100000)
    (hσ : ∀ x, ((wipe σ [j]).set j (some x))[is]? = some (some (.ref p)))
    (q : ∀ (H' : Hp) (us : List Int) (n' : Int), But p H1 H' → H' D = some (.lst (us.map V.int)) → H' p = some (.lst [.int n']) → us.length = cnt → (∀ u ∈ us, 0 ≤ u ∧ u < m) → Qd H') :
    ∃ W : Nat → Nat → Hp → Prop, (∃ m, W 0 m (upd H1 D (.lst []))) ∧ ∀ i m0 H, W i m0 H →
      ((Itr 0 cnt).stop i H ∧ Qd H) ∨ ((Itr 0 cnt).go i H ∧ ∃ Nx : Hp → Prop, (∀ H', Nx H' → ∃ m', m' < m0 ∧ W (i + 1) m' H') ∧ ∀ x H', (Itr 0 cnt).yld i H x H' → gName j x (wipe σ [j]) H' fun σ2 H2 => wipe σ2 [j] = wipe σ [j] ∧ tYes σ2 H2 fun b H3 =>
        if b = true then tCall (sp_l_digit K) [] E0 (tCons (tVar is) (tCons (tC (.int m)) tNil)) σ2 H3 fun y H4 => ∃ acc, H4 D = some (.lst acc) ∧ acc.length < sizeLine ∧ Nx (upd H4 D (.lst (acc ++ [y]))) else Nx H3) := by
  have nDp : p ≠ D := ne_of_none hp hD
  refine lc_it walk_range (fun i H => But p H1 H ∧ ∃ (us : List Int) (n' : Int), H D = some (.lst (us.map V.int)) ∧ H p = some (.lst [.int n']) ∧ us.length = i ∧ (∀ u ∈ us, 0 ≤ u ∧ u < m)) ?_ (fun _ _ _ _ => trivial) ?_ ?_
  · refine ⟨But.of (same_upd hD), [], n, upd_same, (same_upd hD) _ _ hp, rfl, fun u z => nomatch z⟩
  · rintro i x H H' hi ⟨bt, us, n', hu, hn, hl, hb⟩ ⟨rfl, rfl⟩
    refine ⟨?_, ?_⟩
    · show ((σ.set j none).set j (some _)).set j none = σ.set j none
      rw [List.set_set, List.set_set]
    refine g_yes ?_
    refine iteT ?_
    refine g_call ?_
    refine g_cons ?_
    refine g_var (hσ _) ?_
    refine g_cons ?_
    refine g_c ?_
    refine g_nil ?_
    refine u_digit hn h0 h1 ?_
    refine ⟨us.map V.int, ?_, ?_, ?_⟩
    · rw [upd_ne (Ne.symm nDp)]
      exact hu
    · rw [List.length_map]
      exact szl (by omega)
    · refine ⟨?_, us ++ [n' % m], n' / m, ?_, ?_, ?_, ?_⟩
      · intro b o nb e
        by_cases z : b = D
        · rw [z, hD] at e; cases e
        · rw [upd_ne z, upd_ne nb]
          exact bt b o nb e
      · rw [upd_same, List.map_append]
        rfl
      · rw [upd_ne nDp, upd_same]
      · rw [List.length_append, hl]
        rfl
      · intro u hu
        rcases List.mem_append.mp hu with z | z
        · exact hb u z
        · rw [List.mem_singleton.mp z]
          exact ⟨Int.emod_nonneg _ (by omega), Int.emod_lt_of_pos _ h0⟩
  · rintro H ⟨bt, us, n', hu, hn, hl, hb⟩
    exact q H us n' bt hu hn hl hb

theorem u_dig {p : Addr} {n m : Int} {H Q E} (h : H p = some (.lst [.int n])) (h0 : 0 < m) (h1 : m < 18446744073709551616) (q : ∀ d n' H', 0 ≤ d → d < m → But p H H' → H' p = some (.lst [.int n']) → Q (.int d) H') : sp_l_digit K ([.ref p, .int m] ++ []) H Q E := u_digit h h0 h1 (q _ _ _ (Int.emod_nonneg _ (by omega)) (Int.emod_lt_of_pos _ h0) But.refl.upd upd_same)
/-! a row, item by item -/
section
variable {H : Hp} {Q : VK} {r : Addr} {g : Rw}
theorem rx_0 (ho : H r = some (.lst (rwV g))) (q : Q (.int g.mss) H) : rIxL K (.ref r) (.int 0) H Q := g_ixL (sl ho) (at_of (j := 0) rfl rfl) q
theorem rx_1 (ho : H r = some (.lst (rwV g))) (q : Q (.int g.room) H) : rIxL K (.ref r) (.int 1) H Q := g_ixL (sl ho) (at_of (j := 1) rfl rfl) q
theorem rx_2 (ho : H r = some (.lst (rwV g))) (q : Q (.int g.life) H) : rIxL K (.ref r) (.int 2) H Q := g_ixL (sl ho) (at_of (j := 2) rfl rfl) q
theorem rx_3 (ho : H r = some (.lst (rwV g))) (q : Q (.int g.pace) H) : rIxL K (.ref r) (.int 3) H Q := g_ixL (sl ho) (at_of (j := 3) rfl rfl) q
theorem rx_4 (ho : H r = some (.lst (rwV g))) (q : Q (.int g.tries) H) : rIxL K (.ref r) (.int 4) H Q := g_ixL (sl ho) (at_of (j := 4) rfl rfl) q
theorem rx_5 (ho : H r = some (.lst (rwV g))) (q : Q (.int g.low) H) : rIxL K (.ref r) (.int 5) H Q := g_ixL (sl ho) (at_of (j := 5) rfl rfl) q
theorem rx_6 (ho : H r = some (.lst (rwV g))) (q : Q (.int g.high) H) : rIxL K (.ref r) (.int 6) H Q := g_ixL (sl ho) (at_of (j := 6) rfl rfl) q
theorem rx_7 (ho : H r = some (.lst (rwV g))) (q : Q (.int g.ack) H) : rIxL K (.ref r) (.int 7) H Q := g_ixL (sl ho) (at_of (j := 7) rfl rfl) q
theorem rx_8 (ho : H r = some (.lst (rwV g))) (q : Q (.int g.keep) H) : rIxL K (.ref r) (.int 8) H Q := g_ixL (sl ho) (at_of (j := 8) rfl rfl) q
theorem rx_9 (ho : H r = some (.lst (rwV g))) (q : Q (.bl g.nagle) H) : rIxL K (.ref r) (.int 9) H Q := g_ixL (sl ho) (at_of (j := 9) rfl rfl) q
theorem rx_10 (ho : H r = some (.lst (rwV g))) (q : Q (.str g.ctl) H) : rIxL K (.ref r) (.int 10) H Q := g_ixL (sl ho) (at_of (j := 10) rfl rfl) q
end
local macro_rules | `(tactic| walk_at "use") => `(tactic| first | ((with_reducible refine' rx_0 ?ho_ ?_); (case ho_ => assumption)) | ((with_reducible refine' rx_1 ?ho_ ?_); (case ho_ => assumption)) | ((with_reducible refine' rx_2 ?ho_ ?_); (case ho_ => assumption)) | ((with_reducible refine' rx_3 ?ho_ ?_); (case ho_ => assumption)) | ((with_reducible refine' rx_4 ?ho_ ?_); (case ho_ => assumption)) | ((with_reducible refine' rx_5 ?ho_ ?_); (case ho_ => assumption)) | ((with_reducible refine' rx_6 ?ho_ ?_); (case ho_ => assumption)) | ((with_reducible refine' rx_7 ?ho_ ?_); (case ho_ => assumption)) | ((with_reducible refine' rx_8 ?ho_ ?_); (case ho_ => assumption)) | ((with_reducible refine' rx_9 ?ho_ ?_); (case ho_ => assumption)) | ((with_reducible refine' rx_10 ?ho_ ?_); (case ho_ => assumption)))
theorem fit_bd {g : Rw} (f : Fit g) (b : Bd g) : g.room ≤ 262144 := f.2.1.2
theorem fit_ct {g : Rw} (f : Fit g) : Ct g := f.2.2.2.2.2.2.2.2.2
/-- a row's numbers are sound, and it fits -/
def Gd (g : Rw) : Prop := Fit g ∧ Bd g
theorem but_free {p l : Addr} {H H' : Hp} {o : HO} (b : But p H H') (k : H' p = some o) (h : H' l = none) : H l = none := by
  cases e : H l with
  | none => rfl
  | some x =>
    by_cases z : l = p
    · rw [z, k] at h; cases h
    · rw [b l x z e] at h; cases h
theorem pick2 {α : Type} {a b : α} {f : α → V} {d : Int} (h0 : 0 ≤ d) (h1 : d < 2) : ∃ x, atI ([a, b].map f) d = some (f x) ∧ x ∈ [a, b] := by
  have h : d = 0 ∨ d = 1 := by omega
  rcases h with rfl | rfl
  · exact ⟨a, at_of (j := 0) rfl rfl, by simp⟩
  · exact ⟨b, at_of (j := 1) rfl rfl, by simp⟩
theorem pick4 {α : Type} {a b c e : α} {f : α → V} {d : Int} (h0 : 0 ≤ d) (h1 : d < 4) : ∃ x, atI ([a, b, c, e].map f) d = some (f x) ∧ x ∈ [a, b, c, e] := by
  have h : d = 0 ∨ d = 1 ∨ d = 2 ∨ d = 3 := by omega
  rcases h with rfl | rfl | rfl | rfl
  · exact ⟨a, at_of (j := 0) rfl rfl, by simp⟩
  · exact ⟨b, at_of (j := 1) rfl rfl, by simp⟩
  · exact ⟨c, at_of (j := 2) rfl rfl, by simp⟩
  · exact ⟨e, at_of (j := 3) rfl rfl, by simp⟩
def sp_l_good (K : PySem.W.Frag) : Sp := fun vs H Q _ => ∃ (p : Addr) (n : Int), vs = [.ref p] ∧ H p = some (.lst [.int n]) ∧ ∀ r g n' H', H r = none → But p H H' → H' r = some (.lst (rwV g)) → Gd g → H' p = some (.lst [.int n']) → Q (.ref r) H'
theorem ok_l_good (T : Txt w K mg) : FnOk P w K mg base CX0 2 T.f_l_good T.d_l_good ["state"] (sp_l_good K) := by
  refine T.F_l_good.ok sc_l_good (fun vs H Q E h => ?_) (fun cdv A outer s H vs Q E hr h => ?_)
  · obtain ⟨p, n, rfl, hp, q⟩ := h
    rfl
  · obtain ⟨p, n, rfl, hp, q⟩ := h
    have hu := hu_of hr
    refine ⟨_, (pss_cons (ps_set (i := 1) sc_l_good.nd rfl (Or.inl rfl) (pe_op op_add pe_int (pe_call (ok_l_digit T) (hr.mono (by decide)) rfl T.m_l_digit T.F_l_digit.kp T.b_l_digit .nil pass0 (pa_cons (pv 0) (pa_cons pe_int pa_nil)))))
        (pss_cons (ps_set (i := 2) sc_l_good.nd rfl (Or.inl rfl) (pe_op op_add (pe_op op_mul pe_int (pv 1)) (pe_call (ok_l_digit T) (hr.mono (by decide)) rfl T.m_l_digit T.F_l_digit.kp T.b_l_digit .nil pass0 (pa_cons (pv 0) (pa_cons (pe_op op_sub pe_int (pe_op op_mul pe_int (pv 1))) pa_nil)))))
        (pss_cons (ps_set (i := 3) sc_l_good.nd rfl (Or.inl rfl) (pe_op op_add pe_int (pe_call (ok_l_digit T) (hr.mono (by decide)) rfl T.m_l_digit T.F_l_digit.kp T.b_l_digit .nil pass0 (pa_cons (pv 0) (pa_cons pe_int pa_nil)))))
        (pss_cons (ps_set (i := 4) sc_l_good.nd rfl (Or.inl rfl) (pe_op op_add pe_int (pe_call (ok_l_digit T) (hr.mono (by decide)) rfl T.m_l_digit T.F_l_digit.kp T.b_l_digit .nil pass0 (pa_cons (pv 0) (pa_cons (pe_op op_fdivW pe_int (pe_op op_add (pv 3) pe_int)) pa_nil)))))
        (pss_cons (ps_set (i := 5) sc_l_good.nd rfl (Or.inl rfl) (pe_op op_add pe_int (pe_call (ok_l_digit T) (hr.mono (by decide)) rfl T.m_l_digit T.F_l_digit.kp T.b_l_digit .nil pass0 (pa_cons (pv 0) (pa_cons pe_int pa_nil)))))
        (pss_cons (ps_set (i := 6) sc_l_good.nd rfl (Or.inl rfl) (pe_op op_add (pv 5) (pe_call (ok_l_digit T) (hr.mono (by decide)) rfl T.m_l_digit T.F_l_digit.kp T.b_l_digit .nil pass0 (pa_cons (pv 0) (pa_cons (pe_op op_sub pe_int (pv 5)) pa_nil)))))
        (pss_cons (ps_set (i := 7) sc_l_good.nd rfl (Or.inl rfl) (pe_lst (pa_cons (pe_call (ok_l_digit T) (hr.mono (by decide)) rfl T.m_l_digit T.F_l_digit.kp T.b_l_digit .nil pass0 (pa_cons (pv 0) (pa_cons (pv 5) pa_nil))) (pa_cons (pe_call (ok_l_digit T) (hr.mono (by decide)) rfl T.m_l_digit T.F_l_digit.kp T.b_l_digit .nil pass0 (pa_cons (pv 0) (pa_cons pe_int pa_nil))) (pa_cons (pe_cmpR op_eq (pe_call (ok_l_digit T) (hr.mono (by decide)) rfl T.m_l_digit T.F_l_digit.kp T.b_l_digit .nil pass0 (pa_cons (pv 0) (pa_cons pe_int pa_nil))) pe_int (nomark _)) pa_nil)))))
        (pss_cons (ps_set (i := 8) sc_l_good.nd rfl (Or.inl rfl) (pe_ix ix_tup (pe_tup (pa_cons pe_str (pa_cons pe_str pa_nil))) (pe_call (ok_l_digit T) (hr.mono (by decide)) rfl T.m_l_digit T.F_l_digit.kp T.b_l_digit .nil pass0 (pa_cons (pv 0) (pa_cons pe_int pa_nil))) (fun _ _ => rfl)))
        (pss_one (ps_ret (pe_op op_cat (pe_op op_cat (pe_lst (pa_cons (pv 1) (pa_cons (pv 2) (pa_cons (pv 3) (pa_cons (pv 4) (pa_cons (pe_op op_add pe_int (pe_call (ok_l_digit T) (hr.mono (by decide)) rfl T.m_l_digit T.F_l_digit.kp T.b_l_digit .nil pass0 (pa_cons (pv 0) (pa_cons pe_int pa_nil)))) (pa_cons (pv 5) (pa_cons (pv 6) pa_nil)))))))) (pv 7)) (pe_lst (pa_cons (pv 8) pa_nil))))))))))))), ?_⟩
    dsimp only [cxOf, Cx.nox, Cx.wish, L2.start, List.map, List.cons_append, List.nil_append, List.length_cons, List.length_nil, Nat.reduceAdd, Nat.reduceSub, Nat.zero_add, List.replicate_succ, List.replicate_zero]
    walk_at "go"
    refine u_dig hp (by omega) (by omega) fun d1 n1 H1 a1 c1 b1 k1 => ?_
    walk_at "go"
    refine u_dig k1 (by omega) (by omega) fun d2 n2 H2 a2 c2 b2 k2 => ?_
    walk_at "go"
    refine u_dig k2 (by omega) (by omega) fun d3 n3 H3 a3 c3 b3 k3 => ?_
    walk_at "go"
    refine g_rI (cdivW (by omega) (lt8000 (by omega))) ?_
    have dv1 : 1 ≤ 1073741824 / (1 + d3 + 1) := Int.le_ediv_of_mul_le (by omega) (by omega)
    have dv2 : 1073741824 / (1 + d3 + 1) ≤ 1073741824 := Int.ediv_le_self _ (by omega)
    have dv3 : 1073741824 / (1 + d3 + 1) * (1 + d3 + 1) ≤ 1073741824 := Int.ediv_mul_le _ (by omega)
    generalize 1073741824 / (1 + d3 + 1) = M at dv1 dv2 dv3
    walk_at "go"
    refine u_dig k3 (by omega) (by omega) fun d4 n4 H4 a4 c4 b4 k4 => ?_
    walk_at "go"
    refine u_dig k4 (by omega) (by omega) fun d5 n5 H5 a5 c5 b5 k5 => ?_
    walk_at "go"
    refine u_dig k5 (by omega) (by omega) fun d6 n6 H6 a6 c6 b6 k6 => ?_
    walk_at "go"
    refine u_dig k6 (by omega) (by omega) fun d7 n7 H7 a7 c7 b7 k7 => ?_
    walk_at "go"
    refine u_dig k7 (by omega) (by omega) fun d8 n8 H8 a8 c8 b8 k8 => ?_
    walk_at "go"
    refine u_dig k8 (by omega) (by omega) fun d9 n9 H9 a9 c9 b9 k9 => ?_
    walk_at "go"
    refine ⟨by show 3 ≤ sizeLine; decide, fun pr hpr => ?_⟩
    have B9 : But p H H9 := (((((((b1.trans b2).trans b3).trans b4).trans b5).trans b6).trans b7).trans b8).trans b9
    clear b1 b2 b3 b4 b5 b6 b7 b8 b9 k1 k2 k3 k4 k5 k6 k7 k8 hp
    generalize zr : upd H9 pr _ = Hr
    have sr : Same H9 Hr := by rw [← zr]; exact same_upd hpr
    have kr : Hr pr = some (.lst [.int d7, .int d8, .bl (decide (d9 = 1))]) := (congrFun zr pr).symm.trans upd_same
    clear zr
    have kp := sr _ _ k9
    walk_at "go"
    refine ⟨by show 2 ≤ sizeLine; decide, fun pt hpt => ?_⟩
    generalize zt : upd Hr pt _ = Ht
    have st1 : Same Hr Ht := by rw [← zt]; exact same_upd hpt
    have kt : Ht pt = some (.tup ((["reno", "cubic"] : List Str).map V.str)) := (congrFun zt pt).symm.trans upd_same
    clear zt
    walk_at "go"
    refine u_dig (st1 _ _ kp) (by omega) (by omega) fun d10 n10 H10 a10 c10 b10 k10 => ?_
    walk_at "go"
    have npt : pt ≠ p := fun z => by rw [z, kp] at hpt; cases hpt
    have npr : pr ≠ p := fun z => by rw [z, k9] at hpr; cases hpr
    obtain ⟨ctl, e10, m10⟩ := pick2 (a := ("reno" : Str)) (b := "cubic") (f := V.str) a10 c10
    refine g_ixT (st (b10 _ _ npt kt)) e10 ?_
    walk_at "go"
    have kr10 := b10 _ _ npr (st1 _ _ kr)
    refine u_dig k10 (by omega) (by omega) fun d11 n11 H11 a11 c11 b11 k11 => ?_
    walk_at "go"
    refine ⟨by show 7 ≤ sizeLine; decide, fun l1 hl1 => ?_⟩
    have kr11 := b11 _ _ npr kr10
    generalize z1 : upd H11 l1 _ = J1
    have t1 : Same H11 J1 := by rw [← z1]; exact same_upd hl1
    have j1 : J1 l1 = some (.lst [.int (8 + d1), .int (2 * (8 + d1) + d2), .int (1 + d3), .int (1 + d4), .int (1 + d11), .int (1 + d5), .int (1 + d5 + d6)]) := (congrFun z1 l1).symm.trans upd_same
    clear z1
    walk_at "go"
    refine g_cat j1 (t1 _ _ kr11) (by show 7 + 3 ≤ sizeLine; decide) fun l2 hl2 => ?_
    generalize z2 : upd J1 l2 _ = J2
    have t2 : Same J1 J2 := by rw [← z2]; exact same_upd hl2
    have j2 := (congrFun z2 l2).symm.trans upd_same
    clear z2
    walk_at "go"
    refine ⟨by show 1 ≤ sizeLine; decide, fun l3 hl3 => ?_⟩
    generalize z3 : upd J2 l3 _ = J3
    have t3 : Same J2 J3 := by rw [← z3]; exact same_upd hl3
    have j3 : J3 l3 = some (.lst [.str ctl]) := (congrFun z3 l3).symm.trans upd_same
    clear z3
    refine g_cat (t3 _ _ j2) j3 (by show 10 + 1 ≤ sizeLine; decide) fun l4 hl4 => ?_
    have T3 := (t1.trans t2).trans t3
    have kp3 := T3 _ _ k11
    have BB : But p H J3 := (((B9.trans (But.of (sr.trans st1))).trans b10).trans b11).trans (But.of T3)
    have np4 : l4 ≠ p := fun z => by rw [z, kp3] at hl4; cases hl4
    refine q l4 ⟨8 + d1, 2 * (8 + d1) + d2, 1 + d3, 1 + d4, 1 + d11, 1 + d5, 1 + d5 + d6, d7, d8, decide (d9 = 1), ctl⟩ n11 _ (but_free BB kp3 hl4) (BB.trans (But.of (same_upd hl4))) upd_same ⟨?_, ?_⟩ (by rw [upd_ne np4.symm]; exact kp3)
    · have e3 : (1 + d4) * (1 + d3 + 1) ≤ M * (1 + d3 + 1) := Int.mul_le_mul_of_nonneg_right (by omega) (by omega)
      unfold Fit
      dsimp only
      refine ⟨by omega, by omega, by omega, ⟨by omega, by omega⟩, by omega, by omega, by omega, by omega, by omega, m10⟩
    · unfold Bd
      dsimp only
      omega
def El (e : Int) : Prop := -2 ≤ e ∧ e ≤ 4294967296
def sp_l_edges (K : PySem.W.Frag) : Sp := fun vs H Q _ => ∃ (r : Addr) (g : Rw) (k : Int), vs = [.ref r, .int k] ∧ H r = some (.lst (rwV g)) ∧ Gd g ∧
  ((0 ≤ k ∧ k < 9 ∧ ∀ l H' (a b c d : Int), H l = none → Same H H' → H' l = some (.lst ([a, b, c, d].map V.int)) → (El a ∧ El b ∧ El c ∧ El d) → Q (.ref l) H') ∨
   (k = 9 ∧ ∀ l H', H l = none → Same H H' → H' l = some (.lst ((["Reno", "cubic ", "", "renocubic"] : List Str).map V.str)) → Q (.ref l) H'))
theorem ok_l_edges (T : Txt w K mg) : FnOk P w K mg base CX0 1 T.f_l_edges T.d_l_edges ["row", "k"] (sp_l_edges K) := by
  refine T.F_l_edges.ok sc_l_edges (fun vs H Q E h => ?_) (fun cdv A outer s H vs Q E hr h => ?_)
  · obtain ⟨r, g, k, rfl, ho, ⟨gf, gb⟩, q⟩ := h
    rfl
  · obtain ⟨r, g, k, rfl, ho, ⟨gf, gb⟩, q⟩ := h
    have hu := hu_of hr
    refine ⟨_, (pss_cons (ps_if (pt_cmpR op_eq (pv 1) pe_int (nomark _)) (pss_one (ps_ret (pe_lst (pa_cons pe_int (pa_cons pe_int (pa_cons pe_int (pa_cons pe_int pa_nil))))))) pss_nil)
        (pss_cons (ps_if (pt_cmpR op_eq (pv 1) pe_int (nomark _)) (pss_one (ps_ret (pe_lst (pa_cons (pe_op op_sub (pe_op op_mul pe_int (pe_ix ix_list (pv 0) pe_int (fun _ _ => rfl))) pe_int) (pa_cons (pe_op op_mul pe_int (pe_ix ix_list (pv 0) pe_int (fun _ _ => rfl))) (pa_cons pe_int (pa_cons pe_int pa_nil))))))) pss_nil)
        (pss_cons (ps_if (pt_cmpR op_eq (pv 1) pe_int (nomark _)) (pss_cons (ps_set (i := 2) sc_l_edges.nd rfl (Or.inl rfl) (pe_op op_sub (pe_op op_fdivW pe_int (pe_ix ix_list (pv 0) pe_int (fun _ _ => rfl))) pe_int))
        (pss_one (ps_ret (pe_lst (pa_cons pe_int (pa_cons pe_int (pa_cons (pe_callB (call_max2 rfl) (by rfl) T.n_max (by decide +kernel) (pa_cons (pv 2) (pa_cons pe_int pa_nil))) (pa_cons (pe_op op_add (pv 2) pe_int) pa_nil)))))))) pss_nil)
        (pss_cons (ps_if (pt_cmpR op_eq (pv 1) pe_int (nomark _)) (pss_cons (ps_set (i := 2) sc_l_edges.nd rfl (Or.inl rfl) (pe_op op_fdivW pe_int (pe_op op_add (pe_ix ix_list (pv 0) pe_int (fun _ _ => rfl)) pe_int)))
        (pss_one (ps_ret (pe_lst (pa_cons pe_int (pa_cons pe_int (pa_cons (pv 2) (pa_cons (pe_op op_add (pv 2) pe_int) pa_nil)))))))) pss_nil)
        (pss_cons (ps_if (pt_cmpR op_eq (pv 1) pe_int (nomark _)) (pss_one (ps_ret (pe_lst (pa_cons pe_int (pa_cons pe_int (pa_cons pe_int (pa_cons pe_int pa_nil))))))) pss_nil)
        (pss_cons (ps_if (pt_cmpR op_eq (pv 1) pe_int (nomark _)) (pss_one (ps_ret (pe_lst (pa_cons pe_int (pa_cons pe_int (pa_cons (pe_ix ix_list (pv 0) pe_int (fun _ _ => rfl)) (pa_cons (pe_op op_add (pe_ix ix_list (pv 0) pe_int (fun _ _ => rfl)) pe_int) pa_nil))))))) pss_nil)
        (pss_cons (ps_if (pt_cmpR op_eq (pv 1) pe_int (nomark _)) (pss_one (ps_ret (pe_lst (pa_cons (pe_op op_sub (pe_ix ix_list (pv 0) pe_int (fun _ _ => rfl)) pe_int) (pa_cons (pe_ix ix_list (pv 0) pe_int (fun _ _ => rfl)) (pa_cons pe_int (pa_cons pe_int pa_nil))))))) pss_nil)
        (pss_cons (ps_if (pt_cmpR op_eq (pv 1) pe_int (nomark _)) (pss_one (ps_ret (pe_lst (pa_cons (pe_un un_neg pe_int) (pa_cons pe_int (pa_cons (pe_op op_sub (pe_ix ix_list (pv 0) pe_int (fun _ _ => rfl)) pe_int) (pa_cons (pe_ix ix_list (pv 0) pe_int (fun _ _ => rfl)) pa_nil))))))) pss_nil)
        (pss_cons (ps_if (pt_cmpR op_eq (pv 1) pe_int (nomark _)) (pss_one (ps_ret (pe_lst (pa_cons (pe_un un_neg pe_int) (pa_cons pe_int (pa_cons pe_int (pa_cons pe_int pa_nil))))))) pss_nil)
        (pss_one (ps_ret (pe_lst (pa_cons pe_str (pa_cons pe_str (pa_cons pe_str (pa_cons pe_str pa_nil)))))))))))))))), ?_⟩
    dsimp only [cxOf, Cx.nox, Cx.wish, L2.start, List.map, List.cons_append, List.nil_append, List.length_cons, List.length_nil, Nat.reduceAdd, Nat.reduceSub, Nat.zero_add, List.replicate_succ, List.replicate_zero]
    unfold Fit at gf
    unfold Bd at gb
    rcases q with ⟨k0, k1, q⟩ | ⟨rfl, q⟩
    · have hk : k = 0 ∨ k = 1 ∨ k = 2 ∨ k = 3 ∨ k = 4 ∨ k = 5 ∨ k = 6 ∨ k = 7 ∨ k = 8 := by omega
      rcases hk with rfl | rfl | rfl | rfl | rfl | rfl | rfl | rfl | rfl
      · walk_at "go"
        exact ⟨by show 4 ≤ sizeLine; decide, fun l hl => q l _ _ _ _ _ hl (same_upd hl) upd_same (by unfold El; omega)⟩
      · walk_at "go"
        exact ⟨by show 4 ≤ sizeLine; decide, fun l hl => q l _ _ _ _ _ hl (same_upd hl) upd_same (by unfold El; omega)⟩
      · walk_at "go"
        refine g_rI (cdivW (by omega) (lt8000 (by omega))) ?_
        have dv1 : 0 ≤ 1073741824 / g.pace := Int.ediv_nonneg (by omega) (by omega)
        have dv2 : 1073741824 / g.pace ≤ 1073741824 := Int.ediv_le_self _ (by omega)
        generalize 1073741824 / g.pace = M at dv1 dv2
        walk_at "go"
        refine ⟨by show 4 ≤ sizeLine; decide, fun l hl => q l _ _ _ _ _ hl (same_upd hl) upd_same ?_⟩
        unfold El
        split <;> omega
      · walk_at "go"
        refine g_rI (cdivW (by omega) (lt8000 (by omega))) ?_
        have dv1 : 0 ≤ 1073741824 / (g.life + 1) := Int.ediv_nonneg (by omega) (by omega)
        have dv2 : 1073741824 / (g.life + 1) ≤ 1073741824 := Int.ediv_le_self _ (by omega)
        generalize 1073741824 / (g.life + 1) = M at dv1 dv2
        walk_at "go"
        exact ⟨by show 4 ≤ sizeLine; decide, fun l hl => q l _ _ _ _ _ hl (same_upd hl) upd_same (by unfold El; omega)⟩
      · walk_at "go"
        exact ⟨by show 4 ≤ sizeLine; decide, fun l hl => q l _ _ _ _ _ hl (same_upd hl) upd_same (by unfold El; omega)⟩
      · walk_at "go"
        exact ⟨by show 4 ≤ sizeLine; decide, fun l hl => q l _ _ _ _ _ hl (same_upd hl) upd_same (by unfold El; omega)⟩
      · walk_at "go"
        exact ⟨by show 4 ≤ sizeLine; decide, fun l hl => q l _ _ _ _ _ hl (same_upd hl) upd_same (by unfold El; omega)⟩
      · walk_at "go"
        exact ⟨by show 4 ≤ sizeLine; decide, fun l hl => q l _ _ _ _ _ hl (same_upd hl) upd_same (by unfold El; omega)⟩
      · walk_at "go"
        exact ⟨by show 4 ≤ sizeLine; decide, fun l hl => q l _ _ _ _ _ hl (same_upd hl) upd_same (by unfold El; omega)⟩
    · walk_at "go"
      exact ⟨by show 4 ≤ sizeLine; decide, fun l hl => q l _ hl (same_upd hl) upd_same⟩
local macro_rules | `(tactic| walk_at "fitn") => `(tactic| (walk_at "go"; refine ‹¬ Fit _ → _› (fun f => ?_); unfold Fit at f; omega))
local macro_rules | `(tactic| walk_at "fitX") => `(tactic| first | ((refine g_ite (fun h => ?_) (fun h => ?_)); rotate_left; walk_at "fitn"; walk_at "go") | ((refine g_iteN (fun h => ?_) (fun h => ?_)); walk_at "fitn"; walk_at "go") | ((refine g_ite (fun h => ?_) (fun h => ?_)); walk_at "fitn"; walk_at "go"))
def sp_l_fits (K : PySem.W.Frag) : Sp := fun vs H Q _ => ∃ (r : Addr) (g : Rw), vs = [.ref r] ∧ H r = some (.lst (rwV g)) ∧ Bd g ∧ (Fit g → Q (.bl true) H) ∧ (¬ Fit g → Q (.bl false) H)
theorem ok_l_fits (T : Txt w K mg) : FnOk P w K mg base CX0 1 T.f_l_fits T.d_l_fits ["row"] (sp_l_fits K) := by
  refine T.F_l_fits.ok sc_l_fits (fun vs H Q E h => ?_) (fun cdv A outer s H vs Q E hr h => ?_)
  · obtain ⟨r, g, rfl, ho, gb, q1, q2⟩ := h
    rfl
  · obtain ⟨r, g, rfl, ho, gb, q1, q2⟩ := h
    have hu := hu_of hr
    refine ⟨_, (pss_cons (ps_if (PW.pt (pw_or (pt_not (pt_chain op_le op_le pe_int (pe_ix ix_list (pv 0) pe_int (fun _ _ => rfl)) pe_int)) (pw_or1 (pt_not (pt_chain op_le op_le (pe_op op_mul pe_int (pe_ix ix_list (pv 0) pe_int (fun _ _ => rfl))) (pe_ix ix_list (pv 0) pe_int (fun _ _ => rfl)) pe_int))))) (pss_one (ps_ret pe_bl)) pss_nil)
        (pss_cons (ps_if (PW.pt (pw_or (pt_cmpR op_lt (pe_ix ix_list (pv 0) pe_int (fun _ _ => rfl)) pe_int (nomark _)) (pw_or (pt_cmpR op_lt (pe_ix ix_list (pv 0) pe_int (fun _ _ => rfl)) pe_int (nomark _)) (pw_or1 (pt_cmpR op_gt (pe_op op_mul (pe_ix ix_list (pv 0) pe_int (fun _ _ => rfl)) (pe_op op_add (pe_ix ix_list (pv 0) pe_int (fun _ _ => rfl)) pe_int)) pe_int (nomark _)))))) (pss_one (ps_ret pe_bl)) pss_nil)
        (pss_cons (ps_if (PW.pt (pw_or (pt_not (pt_chain op_le op_le pe_int (pe_ix ix_list (pv 0) pe_int (fun _ _ => rfl)) pe_int)) (pw_or1 (pt_not (pt_chain3 op_le op_le op_le pe_int (pe_ix ix_list (pv 0) pe_int (fun _ _ => rfl)) (pe_ix ix_list (pv 0) pe_int (fun _ _ => rfl)) pe_int))))) (pss_one (ps_ret pe_bl)) pss_nil)
        (pss_cons (ps_if (PW.pt (pw_or (pt_not (pt_chain op_le op_lt pe_int (pe_ix ix_list (pv 0) pe_int (fun _ _ => rfl)) (pe_ix ix_list (pv 0) pe_int (fun _ _ => rfl)))) (pw_or1 (pt_not (pt_chain op_le op_le pe_int (pe_ix ix_list (pv 0) pe_int (fun _ _ => rfl)) pe_int))))) (pss_one (ps_ret pe_bl)) pss_nil)
        (pss_one (ps_ret (pe_or (pe_cmpR op_eq (pe_ix ix_list (pv 0) pe_int (fun _ _ => rfl)) pe_str (nomark _)) (pe_one (pe_cmpR op_eq (pe_ix ix_list (pv 0) pe_int (fun _ _ => rfl)) pe_str (nomark _)))))))))), ?_⟩
    dsimp only [cxOf, Cx.nox, Cx.wish, L2.start, List.map, List.cons_append, List.nil_append, List.length_cons, List.length_nil, Nat.reduceAdd, Nat.reduceSub, Nat.zero_add, List.replicate_succ, List.replicate_zero]
    unfold Bd at gb
    walk_at "go"
    walk_at "fitX"
    walk_at "fitX"
    walk_at "fitX"
    walk_at "fitX"
    walk_at "fitX"
    walk_at "fitX"
    walk_at "fitX"
    walk_at "fitX"
    walk_at "fitX"
    walk_at "fitX"
    walk_at "fitX"
    walk_at "fitX"
    walk_at "fitX"
    walk_at "fitX"
    walk_at "fitX"
    walk_at "fitX"
    have ff : ∀ c : g.ctl ∈ (["reno", "cubic"] : List Str), Fit g := fun c => by
      unfold Fit
      exact ⟨by omega, by omega, by omega, ⟨by omega, by omega⟩, by omega, by omega, by omega, by omega, by omega, c⟩
    refine g_ite (fun c => ?_) (fun c => ?_)
    · walk_at "go"
      exact q1 (ff (by rw [c]; simp))
    · walk_at "go"
      by_cases c2 : g.ctl = "cubic"
      · rw [decide_eq_true c2]
        exact q1 (ff (by rw [c2]; simp))
      · rw [decide_eq_false c2]
        refine q2 fun f => ?_
        have := fit_ct f
        unfold Ct at this
        simp only [List.mem_cons, List.not_mem_nil, or_false] at this
        exact this.elim c c2
end
end My
namespace My
open PySem PySem.Spec L2
local macro_rules | `(tactic| walk_at "side") => `(tactic| first | assumption | decide | omega | exact ⟨by decide, by decide⟩ | exact ⟨by decide, by decide, by decide⟩ | decide +kernel | exact cdivW (by decide +kernel) (by decide +kernel) | exact Or.inl ⟨by omega, by omega⟩ | exact Or.inr ⟨by omega, by omega⟩ | (simp only [List.length_map, List.length_cons, List.length_nil, List.length_append]; omega))
local macro_rules | `(tactic| walk_at "fact") => `(tactic| first | assumption | omega | with_reducible rfl)
local macro_rules | `(tactic| walk_at "use") => `(tactic| fail "use")
local macro_rules | `(tactic| walk_at "go1") => `(tactic| with_reducible first | refine g_seq ?_ | refine g_asg ?_ | refine g_ret ?_ | refine g_ifS ?_ | refine g_drop ?_ | refine g_star ?_ | refine g_nx ?_ | refine g_rt ?_ | refine g_bkE ?_ | refine g_ctE ?_ | refine g_next ?_ | refine g_retN ?_ | refine g_brk ?_ | refine g_ct ?_ | refine g_c ?_ | refine g_op ?_ | refine g_un ?_ | refine g_rI0 ?_ | refine g_rU ?_ | refine g_rEqI ?_ | refine g_rNeI ?_ | refine g_isN ?_ | refine g_rIsB ?_ | refine g_rNotB ?_ | refine g_test ?_ | refine g_B ?_ | refine g_bl ?_ | refine g_and ?_ | refine g_or ?_ | refine g_not ?_ | refine g_andV ?_ | refine g_orV ?_ | refine g_notV ?_ | refine g_if ?_ | refine g_chain ?_ | refine g_yes ?_ | refine g_lc ?_ | refine g_revR ?_ | refine g_rng1 ?_ | refine g_iList ?_ | refine g_nil ?_ | refine g_cons ?_ | refine g_tup ?_ | refine g_lst ?_ | refine g_call ?_ | refine g_CB ?_ | refine g_sl ?_ | refine g_noPart ?_ | refine g_part ?_ | refine g_intE ?_ | refine g_ref ?_ | refine g_fld ?_ | refine g_sfld ?_ | refine g_meth ?_ | refine g_make ?_ | refine g_prop ?_  | refine g_ipI ?_ | refine g_int1 ?_ | refine g_int1B ?_ | refine g_one ?_ | refine g_two ?_ | refine g_isiI ?_ | refine g_isiIB ?_ | refine g_isiB ?_ | refine g_BM ?_ | refine g_BM0 ?_ | refine g_sub ?_)
local macro_rules | `(tactic| walk_at "go") => `(tactic| repeat (first | walk_at "go1" | ((with_reducible refine' g_nameE ?sd_ ?_); case sd_ => dsimp only [List.set_cons_succ, List.set_cons_zero]) | ((with_reducible refine' g_var ?sd_ ?_); case sd_ => exact rfl) | ((with_reducible refine' g_aug ?sd_ ?_); case sd_ => exact rfl) | ((with_reducible refine' g_rI ?sd_ ?_); case sd_ => walk_at "side") | ((with_reducible refine' g_dT ?sd_ ?_); case sd_ => walk_at "fact") | ((with_reducible refine' g_dF ?sd_ ?_); case sd_ => walk_at "fact") | ((with_reducible refine' g_nT ?sd_ ?_); case sd_ => walk_at "fact") | ((with_reducible refine' g_nF ?sd_ ?_); case sd_ => walk_at "fact") | (with_reducible refine g_iT rfl ?_) | (with_reducible refine g_iF rfl ?_) | walk_at "use"))
local macro_rules | `(tactic| walk_at "use") => `(tactic| first | ((with_reducible refine' fd_Options_mss ?ho_ ?hv_ ?_); (case ho_ => first | assumption | exact upd_same); (case hv_ => exact rfl)) | ((with_reducible refine' fd_Options_room ?ho_ ?hv_ ?_); (case ho_ => first | assumption | exact upd_same); (case hv_ => exact rfl)) | ((with_reducible refine' fd_Options_life ?ho_ ?hv_ ?_); (case ho_ => first | assumption | exact upd_same); (case hv_ => exact rfl)) | ((with_reducible refine' fd_Options_pace ?ho_ ?hv_ ?_); (case ho_ => first | assumption | exact upd_same); (case hv_ => exact rfl)) | ((with_reducible refine' fd_Options_tries ?ho_ ?hv_ ?_); (case ho_ => first | assumption | exact upd_same); (case hv_ => exact rfl)) | ((with_reducible refine' fd_Options_min_rto ?ho_ ?hv_ ?_); (case ho_ => first | assumption | exact upd_same); (case hv_ => exact rfl)) | ((with_reducible refine' fd_Options_max_rto ?ho_ ?hv_ ?_); (case ho_ => first | assumption | exact upd_same); (case hv_ => exact rfl)) | ((with_reducible refine' fd_Options_ack_delay ?ho_ ?hv_ ?_); (case ho_ => first | assumption | exact upd_same); (case hv_ => exact rfl)) | ((with_reducible refine' fd_Options_keep_alive ?ho_ ?hv_ ?_); (case ho_ => first | assumption | exact upd_same); (case hv_ => exact rfl)) | ((with_reducible refine' fd_Options_nagle ?ho_ ?hv_ ?_); (case ho_ => first | assumption | exact upd_same); (case hv_ => exact rfl)) | ((with_reducible refine' fd_Options_control ?ho_ ?hv_ ?_); (case ho_ => first | assumption | exact upd_same); (case hv_ => exact rfl)) | ((with_reducible refine' nw_Options_mss ?ho_ ?hv_ ?_); (case ho_ => first | assumption | exact upd_same); (case hv_ => exact rfl)) | ((with_reducible refine' nw_Options_room ?ho_ ?hv_ ?_); (case ho_ => first | assumption | exact upd_same); (case hv_ => exact rfl)) | ((with_reducible refine' nw_Options_life ?ho_ ?hv_ ?_); (case ho_ => first | assumption | exact upd_same); (case hv_ => exact rfl)) | ((with_reducible refine' nw_Options_pace ?ho_ ?hv_ ?_); (case ho_ => first | assumption | exact upd_same); (case hv_ => exact rfl)) | ((with_reducible refine' nw_Options_tries ?ho_ ?hv_ ?_); (case ho_ => first | assumption | exact upd_same); (case hv_ => exact rfl)) | ((with_reducible refine' nw_Options_min_rto ?ho_ ?hv_ ?_); (case ho_ => first | assumption | exact upd_same); (case hv_ => exact rfl)) | ((with_reducible refine' nw_Options_max_rto ?ho_ ?hv_ ?_); (case ho_ => first | assumption | exact upd_same); (case hv_ => exact rfl)) | ((with_reducible refine' nw_Options_ack_delay ?ho_ ?hv_ ?_); (case ho_ => first | assumption | exact upd_same); (case hv_ => exact rfl)) | ((with_reducible refine' nw_Options_keep_alive ?ho_ ?hv_ ?_); (case ho_ => first | assumption | exact upd_same); (case hv_ => exact rfl)) | ((with_reducible refine' nw_Options_nagle ?ho_ ?hv_ ?_); (case ho_ => first | assumption | exact upd_same); (case hv_ => exact rfl)) | ((with_reducible refine' nw_Options_control ?ho_ ?hv_ ?_); (case ho_ => first | assumption | exact upd_same); (case hv_ => exact rfl)) | ((with_reducible refine' st_Options_mss ?ho_ ?hv_ ?_); (case ho_ => first | assumption | exact upd_same); (case hv_ => exact Nat.le_of_ble_eq_true rfl)) | ((with_reducible refine' st_Options_room ?ho_ ?hv_ ?_); (case ho_ => first | assumption | exact upd_same); (case hv_ => exact Nat.le_of_ble_eq_true rfl)) | ((with_reducible refine' st_Options_life ?ho_ ?hv_ ?_); (case ho_ => first | assumption | exact upd_same); (case hv_ => exact Nat.le_of_ble_eq_true rfl)) | ((with_reducible refine' st_Options_pace ?ho_ ?hv_ ?_); (case ho_ => first | assumption | exact upd_same); (case hv_ => exact Nat.le_of_ble_eq_true rfl)) | ((with_reducible refine' st_Options_tries ?ho_ ?hv_ ?_); (case ho_ => first | assumption | exact upd_same); (case hv_ => exact Nat.le_of_ble_eq_true rfl)) | ((with_reducible refine' st_Options_min_rto ?ho_ ?hv_ ?_); (case ho_ => first | assumption | exact upd_same); (case hv_ => exact Nat.le_of_ble_eq_true rfl)) | ((with_reducible refine' st_Options_max_rto ?ho_ ?hv_ ?_); (case ho_ => first | assumption | exact upd_same); (case hv_ => exact Nat.le_of_ble_eq_true rfl)) | ((with_reducible refine' st_Options_ack_delay ?ho_ ?hv_ ?_); (case ho_ => first | assumption | exact upd_same); (case hv_ => exact Nat.le_of_ble_eq_true rfl)) | ((with_reducible refine' st_Options_keep_alive ?ho_ ?hv_ ?_); (case ho_ => first | assumption | exact upd_same); (case hv_ => exact Nat.le_of_ble_eq_true rfl)) | ((with_reducible refine' st_Options_nagle ?ho_ ?hv_ ?_); (case ho_ => first | assumption | exact upd_same); (case hv_ => exact Nat.le_of_ble_eq_true rfl)) | ((with_reducible refine' st_Options_control ?ho_ ?hv_ ?_); (case ho_ => first | assumption | exact upd_same); (case hv_ => exact Nat.le_of_ble_eq_true rfl)) | ((with_reducible refine' me_Options_eq__ ?ho_ ?_); (case ho_ => first | assumption | exact upd_same)) | ((with_reducible refine' me_Options_fields ?ho_ ?_); (case ho_ => first | assumption | exact upd_same)) | ((with_reducible refine' me_Options_wrong_names ?ho_ ?_); (case ho_ => first | assumption | exact upd_same)))
section
variable {P : Program} {w : World} {K : PySem.W.Frag} {mg : Str → Option Value} {base : Heap}
local macro_rules | `(tactic| walk_at "use") => `(tactic| with_reducible first | refine g_rs0 ?_ | refine g_rs1 ?_ | refine g_tryA ?_ | refine g_tryO ?_ | refine g_callS ?_ | refine g_joined ?_ | refine g_jsnil ?_ | refine g_jscons ?_ | refine g_fmt ?_)
local macro_rules | `(tactic| walk_at "fit") => `(tactic| (refine fit2 ?_; (try simp only [PySem.Str.length_append]); omega))
local macro_rules | `(tactic| walk_at "use") => `(tactic| first | ((with_reducible refine' g_addS ?sd_ ?_); case sd_ => (first | omega | (simp only [PySem.Str.length_append]; omega))) | ((with_reducible refine' g_slS ?sd_ ?_); case sd_ => omega) | (with_reducible refine g_m0 ?_))

local macro_rules | `(tactic| walk_at "use") => `(tactic| with_reducible first | refine g_makeK ?_ | refine g_callN ?_ | refine g_chain3 ?_ | refine g_gcons ?_ | refine g_gnil ?_ | refine g_rEqS ?_ | refine g_rNeS ?_ | refine g_isiS ?_ | refine u_isint ?_)
local macro_rules | `(tactic| walk_at "use") => `(tactic| first | ((with_reducible refine' rx_0 ?ho_ ?_); (case ho_ => assumption)) | ((with_reducible refine' rx_1 ?ho_ ?_); (case ho_ => assumption)) | ((with_reducible refine' rx_2 ?ho_ ?_); (case ho_ => assumption)) | ((with_reducible refine' rx_3 ?ho_ ?_); (case ho_ => assumption)) | ((with_reducible refine' rx_4 ?ho_ ?_); (case ho_ => assumption)) | ((with_reducible refine' rx_5 ?ho_ ?_); (case ho_ => assumption)) | ((with_reducible refine' rx_6 ?ho_ ?_); (case ho_ => assumption)) | ((with_reducible refine' rx_7 ?ho_ ?_); (case ho_ => assumption)) | ((with_reducible refine' rx_8 ?ho_ ?_); (case ho_ => assumption)) | ((with_reducible refine' rx_9 ?ho_ ?_); (case ho_ => assumption)) | ((with_reducible refine' rx_10 ?ho_ ?_); (case ho_ => assumption)))
def sp_l_made (C Ce : Addr) : Sp := fun vs H Q E => ∃ (r : Addr) (g : Rw), vs = [.ref r] ∧ H r = some (.lst (rwV g)) ∧ Bd g ∧ (Fit g → ∀ p H', H p = none → Same H H' → OpO C H' p g → Q (.ref p) H') ∧ (¬ Fit g → ∀ H', Same H H' → E (.ref Ce) none H')
theorem kbt_0 {w : World} {K : PySem.W.Frag} {mg : Str → Option Value} (T : Txt w K mg) : ∃ g, KBn K T.d_Options_init__ ["self", "mss", "room", "life", "pace", "tries", "min_rto", "max_rto", "ack_delay", "keep_alive", "nagle", "control"] 1 ["mss", "room", "life", "pace", "tries", "min_rto", "max_rto", "ack_delay", "keep_alive", "nagle", "control"] g (fun vs zs => vs ++ ((zs.drop 0).take 1 ++ ((zs.drop 1).take 1 ++ ((zs.drop 2).take 1 ++ ((zs.drop 3).take 1 ++ ((zs.drop 4).take 1 ++ ((zs.drop 5).take 1 ++ ((zs.drop 6).take 1 ++ ((zs.drop 7).take 1 ++ ((zs.drop 8).take 1 ++ ((zs.drop 9).take 1 ++ ((zs.drop 10).take 1)))))))))))) := by
  obtain ⟨mv, h⟩ := T.F_Options_init__.kbinds0 (ps := ["self", "mss", "room", "life", "pace", "tries", "min_rto", "max_rto", "ack_delay", "keep_alive", "nagle", "control"]) 1 ["mss", "room", "life", "pace", "tries", "min_rto", "max_rto", "ack_delay", "keep_alive", "nagle", "control"] [] (fun vs mz zs => vs ++ ((zs.drop 0).take 1 ++ ((zs.drop 1).take 1 ++ ((zs.drop 2).take 1 ++ ((zs.drop 3).take 1 ++ ((zs.drop 4).take 1 ++ ((zs.drop 5).take 1 ++ ((zs.drop 6).take 1 ++ ((zs.drop 7).take 1 ++ ((zs.drop 8).take 1 ++ ((zs.drop 9).take 1 ++ ((zs.drop 10).take 1)))))))))))) (by intro h; cases h) (fun q hq => List.Sublist.mem hq (.cons _ (.cons _ (.cons _ (.cons _ (.slnil)))))) (fun r1 r2 r3 => r1.append (((r3.drop 0).take 1).append (((r3.drop 1).take 1).append (((r3.drop 2).take 1).append (((r3.drop 3).take 1).append (((r3.drop 4).take 1).append (((r3.drop 5).take 1).append (((r3.drop 6).take 1).append (((r3.drop 7).take 1).append (((r3.drop 8).take 1).append (((r3.drop 9).take 1).append ((r3.drop 10).take 1)))))))))))) (fun D doc pm an cdv ct us mv ws l1 l2 l3 => match us, l1, mv, l2, ws, l3 with | [_], _, [], _, [_, _, _, _, _, _, _, _, _, _, _], _ => (by show _ = _; kernel_rfl))
  exact ⟨_, h⟩
theorem ok_l_made (T : Txt w K mg) : FnOk P w K mg base (L2.CX P w) 4 T.f_l_made T.d_l_made ["row"] (sp_l_made T.C_Options T.C_InvalidOptions) := by
  refine T.F_l_made.okX sc_l_made (fun vs H Q E h => ?_) (fun cdv A outer s H vs Q E hr h => ?_)
  · obtain ⟨r, g, rfl, ho, bd, q1, q2⟩ := h
    rfl
  · obtain ⟨r, g, rfl, ho, bd, q1, q2⟩ := h
    have hu := hu_of hr
    obtain ⟨gk_0, kb_0⟩ := kbt_0 T
    refine ⟨_, (pss_one (ps_ret (pe_makeK0 T.mk_Options (ok_Options_init__ T) (hr.mono (by decide)) rfl T.c_Options kb_0 (passes_call (takes_of rfl rfl rfl rfl) (fun _ _ _ _ h => h)) (pk_cons (pe_ix ix_list (pv 0) pe_int (fun _ _ => rfl)) (pk_cons (pe_ix ix_list (pv 0) pe_int (fun _ _ => rfl)) (pk_cons (pe_ix ix_list (pv 0) pe_int (fun _ _ => rfl)) (pk_cons (pe_ix ix_list (pv 0) pe_int (fun _ _ => rfl)) (pk_cons (pe_ix ix_list (pv 0) pe_int (fun _ _ => rfl)) (pk_cons (pe_ix ix_list (pv 0) pe_int (fun _ _ => rfl)) (pk_cons (pe_ix ix_list (pv 0) pe_int (fun _ _ => rfl)) (pk_cons (pe_ix ix_list (pv 0) pe_int (fun _ _ => rfl)) (pk_cons (pe_ix ix_list (pv 0) pe_int (fun _ _ => rfl)) (pk_cons (pe_ix ix_list (pv 0) pe_int (fun _ _ => rfl)) (pk_cons (pe_ix ix_list (pv 0) pe_int (fun _ _ => rfl)) pk_nil)))))))))))))), ?_⟩
    dsimp only [cxOf, Cx.nox, Cx.wish, L2.start, List.map, List.cons_append, List.nil_append, List.length_cons, List.length_nil, Nat.reduceAdd, Nat.reduceSub, Nat.zero_add, List.replicate_succ, List.replicate_zero]
    walk_at "go"
    refine ⟨rfl, rfl, fun x dx nx ndx nxd => ?_⟩
    have b1 : But x H (upd (upd H dx (.own x)) x (.ins T.C_Options dx [])) := ((But.of (same_upd (o := .own x) ndx))).upd
    refine ⟨x, dx, g, rfl, upd_same, bd, fun f H' b e => ⟨rfl, q1 f x H' nx ((b1.trans b).same nx) ⟨dx, e⟩⟩, fun f H' b => q2 f H' ((b1.trans b).same nx)⟩
def sp_l_told (C : Addr) : Sp := fun vs H Q _ => ∃ (r : Addr) (g : Rw), vs = [.ref r] ∧ H r = some (.lst (rwV g)) ∧ Bd g ∧ (Fit g → ∀ p H', H p = none → Same H H' → OpO C H' p g → Q (.ref p) H') ∧ (¬ Fit g → ∀ t H', H t = none → Same H H' → H' t = some (.tup [.str "refused", .bl true]) → Q (.ref t) H')
theorem ok_l_told (T : Txt w K mg) : FnOk P w K mg base CX0 5 T.f_l_told T.d_l_told ["row"] (sp_l_told T.C_Options) := by
  refine T.F_l_told.ok sc_l_told (fun vs H Q E h => ?_) (fun cdv A outer s H vs Q E hr h => ?_)
  · obtain ⟨r, g, rfl, ho, bd, q1, q2⟩ := h
    rfl
  · obtain ⟨r, g, rfl, ho, bd, q1, q2⟩ := h
    have hu := hu_of hr
    refine ⟨_, (pss_one (ps_tryA (i := 1) rfl rfl sc_l_told.nd rfl rfl ⟨rfl, by decide, .inl T.c_InvalidOptions⟩ takes0 (fun W pn xe tk po_ => (pss_one (ps_ret (pe_callS (ok_l_made T) (hr.mono (by decide)) rfl T.m_l_made T.F_l_made.kp T.b_l_made (fun σ => passAt tk σ) (pa_cons (pv 0) pa_nil))))) (fun a oe cls d pn hz_ hf_ => (pss_one (ps_ret (pe_tup (pa_cons pe_str (pa_cons (pe_and (pe_callB (call_isE2 hz_ hf_) (by rfl) T.n_isinstance (by decide +kernel) (pa_cons (pv 1) (pa_cons (pe_glob (v := .ref T.C_ThroughlineError) (by rfl) T.c_ThroughlineError rfl) pa_nil))) (pe_one (pe_not (pe_callB (call_isE2 hz_ hf_) (by rfl) T.n_isinstance (by decide +kernel) (pa_cons (pv 1) (pa_cons (pe_glob (v := .ref T.C_InvalidPort) (by rfl) T.c_InvalidPort rfl) pa_nil)))))) pa_nil)))))))), ?_⟩
    dsimp only [cxOf, Cx.nox, Cx.wish, L2.start, List.map, List.cons_append, List.nil_append, List.length_cons, List.length_nil, Nat.reduceAdd, Nat.reduceSub, Nat.zero_add, List.replicate_succ, List.replicate_zero]
    walk_at "go"
    refine ⟨r, g, rfl, ho, bd, fun f p H' np s1 o => ?_, fun f H' s1 => ?_⟩
    · walk_at "go"
      exact q1 f p H' np s1 o
    · refine g_caught T.em_InvalidOptions_InvalidOptions fun a ha => ?_
      walk_at "go"
      refine g_isER T.xc_InvalidOptions T.ko_InvalidOptions_ThroughlineError ?_
      walk_at "go"
      refine g_isER T.xc_InvalidOptions T.ko_InvalidOptions_InvalidPort ?_
      walk_at "go"
      refine ⟨by show 2 ≤ sizeLine; decide, fun t ht => ?_⟩
      exact q2 f t _ (s1.free ht) (s1.trans (same_upd ht)) upd_same
def sp_l_fields (C : Addr) : Sp := fun vs H Q _ => ∃ (p : Addr) (g : Rw), vs = [.ref p] ∧ OpO C H p g ∧ ∀ l H', H l = none → Same H H' → H' l = some (.lst (rwV g)) → Q (.ref l) H'
theorem ok_l_fields (T : Txt w K mg) : FnOk P w K mg base CX0 1 T.f_l_fields T.d_l_fields ["told"] (sp_l_fields T.C_Options) := by
  refine T.F_l_fields.ok sc_l_fields (fun vs H Q E h => ?_) (fun cdv A outer s H vs Q E hr h => ?_)
  · obtain ⟨p, g, rfl, ⟨dx, ho⟩, q⟩ := h
    rfl
  · obtain ⟨p, g, rfl, ⟨dx, ho⟩, q⟩ := h
    have hu := hu_of hr
    refine ⟨_, (pss_cons (ps_set (i := 1) sc_l_fields.nd rfl (Or.inl rfl) (pe_lst (pa_cons (pe_fld (pv 0) rfl) (pa_cons (pe_fld (pv 0) rfl) (pa_cons (pe_fld (pv 0) rfl) (pa_cons (pe_fld (pv 0) rfl) (pa_cons (pe_fld (pv 0) rfl) (pa_cons (pe_fld (pv 0) rfl) (pa_cons (pe_fld (pv 0) rfl) pa_nil)))))))))
        (pss_one (ps_ret (pe_op op_cat (pv 1) (pe_lst (pa_cons (pe_fld (pv 0) rfl) (pa_cons (pe_fld (pv 0) rfl) (pa_cons (pe_fld (pv 0) rfl) (pa_cons (pe_fld (pv 0) rfl) pa_nil))))))))), ?_⟩
    dsimp only [cxOf, Cx.nox, Cx.wish, L2.start, List.map, List.cons_append, List.nil_append, List.length_cons, List.length_nil, Nat.reduceAdd, Nat.reduceSub, Nat.zero_add, List.replicate_succ, List.replicate_zero]
    unfold rwV at ho
    walk_at "go"
    refine ⟨by show 7 ≤ sizeLine; decide, fun l1 hl1 => ?_⟩
    generalize z1 : upd H l1 _ = J1
    have t1 : Same H J1 := by rw [← z1]; exact same_upd hl1
    have j1 := (congrFun z1 l1).symm.trans upd_same
    clear z1
    have ho1 := t1 _ _ ho
    walk_at "go"
    refine ⟨by show 4 ≤ sizeLine; decide, fun l2 hl2 => ?_⟩
    generalize z2 : upd J1 l2 _ = J2
    have t2 : Same J1 J2 := by rw [← z2]; exact same_upd hl2
    have j2 := (congrFun z2 l2).symm.trans upd_same
    clear z2
    refine g_cat (t2 _ _ j1) j2 (by show 7 + 4 ≤ sizeLine; decide) fun l hl => ?_
    exact q l _ ((t1.trans t2).free hl) ((t1.trans t2).trans (same_upd hl)) upd_same
theorem div_step {r : Int} {i : Nat} : r / 2 ^ (i + 1) = r / 2 ^ i / 2 := by
  rw [Int.pow_succ, Int.ediv_ediv_of_nonneg (Int.pow_nonneg (by decide))]
theorem g_cut0 {A : Prop} (h : A) : A := h
def sp_l_shift (K : PySem.W.Frag) : Sp := fun vs H Q _ => ∃ (r : Int), vs = [.int r] ∧ 0 ≤ r ∧ r ≤ 262144 ∧ ∀ k : Nat, IsShf r k → Q (.int k) H
theorem ok_l_shift (T : Txt w K mg) : FnOk P w K mg base CX0 1 T.f_l_shift T.d_l_shift ["room"] (sp_l_shift K) := by
  refine T.F_l_shift.ok sc_l_shift (fun vs H Q E h => ?_) (fun cdv A outer s H vs Q E hr h => ?_)
  · obtain ⟨r, rfl, r0, r1, q⟩ := h
    rfl
  · obtain ⟨r, rfl, r0, r1, q⟩ := h
    have hu := hu_of hr
    refine ⟨_, (pss_cons (ps_for PassesOwn.never rfl (pi_range1 (by rfl) T.n_range (pa_cons pe_int pa_nil)) (pg_name (i := 1) sc_l_shift.nd rfl (Or.inl rfl)) (pss_cons (ps_if (pt_cmpR op_eq (pe_op op_fdivW (pv 0) (pe_op op_pow pe_int pe_int)) pe_int (nomark _)) (pss_one (ps_ret (pv 1))) pss_nil)
        (pss_one (ps_set (i := 0) sc_l_shift.nd rfl (Or.inl rfl) (pe_op op_fdiv (pv 0) pe_int)))))
        (pss_one (ps_ret pe_int))), ?_⟩
    dsimp only [cxOf, Cx.nox, Cx.wish, L2.start, List.map, List.cons_append, List.nil_append, List.length_cons, List.length_nil, Nat.reduceAdd, Nat.reduceSub, Nat.zero_add, List.replicate_succ, List.replicate_zero]
    walk_at "go"
    refine for_r (n := 15) 15 rfl (by omega) (by omega) (fun i σ H' => H' = H ∧ (∃ v, σ = [some (.int (r / 2 ^ i)), v]) ∧ ∀ j : Nat, j < i → 65535 < r / 2 ^ j) ?start ?turn ?done ?ev
    case start => exact ⟨rfl, ⟨_, by rw [Int.pow_zero, Int.ediv_one]⟩, fun j hj => by omega⟩
    case ev =>
      intro R rr
      walk_at "go"
      exact rr
    case done =>
      rintro σ' H' ⟨rfl, ⟨v, rfl⟩, hj⟩
      have := hj 14 (by omega)
      rw [show (2 : Int) ^ 14 = 16384 from rfl] at this
      omega
    case turn =>
      rintro i σ' H' hi ⟨rfl, ⟨v, rfl⟩, hj⟩
      have nn : 0 ≤ r / 2 ^ i := Int.ediv_nonneg r0 (Int.pow_nonneg (by decide))
      walk_at "go"
      rw [show (2 : Int) ^ (Int.toNat 16) = 65536 from rfl]
      refine g_ite (fun c => ?_) (fun c => ?_)
      · walk_at "go"
        exact q i ⟨hi, by omega, hj⟩
      · walk_at "go"
        refine ⟨rfl, ⟨_, by rw [div_step]⟩, fun j hj2 => ?_⟩
        by_cases z : j = i
        · subst z
          omega
        · exact hj j (by omega)
theorem isi_list {H : Hp} : True := trivial
/-- what told says of itself -/
def sp_l_right (C : Addr) : Sp := fun vs H Q _ => ∃ (p r : Addr) (g : Rw), vs = [.ref p, .ref r] ∧ OpO C H p g ∧ H r = some (.lst (rwV g)) ∧ Gd g ∧ ∀ H', Same H H' → Q (.bl true) H'
theorem ok_l_right (T : Txt w K mg) : FnOk P w K mg base CX0 5 T.f_l_right T.d_l_right ["told", "row"] (sp_l_right T.C_Options) := by
  refine T.F_l_right.ok sc_l_right (fun vs H Q E h => ?_) (fun cdv A outer s H vs Q E hr h => ?_)
  · obtain ⟨p, r, g, rfl, hO, hr0, ⟨gf, gb⟩, q⟩ := h
    rfl
  · obtain ⟨p, r, g, rfl, hO, hr0, ⟨gf, gb⟩, q⟩ := h
    have hu := hu_of hr
    refine ⟨_, (pss_cons (ps_if (pt_not (pt_val (pe_callB call_isi (by rfl) T.n_isinstance (by decide +kernel) (pa_cons (pv 0) (pa_cons (pe_glob (v := .ref T.C_Options) (by rfl) T.c_Options rfl) pa_nil))))) (pss_one (ps_ret pe_bl)) pss_nil)
        (pss_cons (ps_set (i := 2) sc_l_right.nd rfl (Or.inl rfl) (pe_call (ok_l_fields T) (hr.mono (by decide)) rfl T.m_l_fields T.F_l_fields.kp T.b_l_fields .nil pass0 (pa_cons (pv 0) pa_nil)))
        (pss_cons (ps_for PassesOwn.never rfl (pi_range1 (by rfl) T.n_range (pa_cons pe_int pa_nil)) (pg_name (i := 3) sc_l_right.nd rfl (Or.inl rfl)) (pss_one (ps_if (pt_not (pt_val (pe_call (ok_l_is_integer T) (hr.mono (by decide)) rfl T.m_l_is_integer T.F_l_is_integer.kp T.b_l_is_integer .nil pass0 (pa_cons (pe_ix ix_list (pv 2) (pv 3) (fun _ _ => rfl)) pa_nil)))) (pss_one (ps_ret pe_bl)) pss_nil)))
        (pss_cons (ps_if (PW.pt (pw_or (pt_not (pt_val (pe_callB call_isi (by rfl) T.n_isinstance (by decide +kernel) (pa_cons (pe_ix ix_list (pv 2) pe_int (fun _ _ => rfl)) (pa_cons (pe_bltn (v := .ty "bool") (by rfl) T.n_bool (by decide +kernel) rfl) pa_nil))))) (pw_or1 (pt_cmpR (op_neD hr.units) (pv 2) (pv 1) (nomark _))))) (pss_one (ps_ret pe_bl)) pss_nil)
        (pss_cons (ps_for PassesOwn.never rfl (pi_list (pe_lst (pa_cons (pe_prop (pv 0) T.k_Options T.p_Options_patience (ok_Options_patience T) (hr.mono (by decide)) T.b_Options_patience .nil pass0 (by rfl)) (pa_cons (pe_prop (pv 0) T.k_Options T.p_Options_resting (ok_Options_resting T) (hr.mono (by decide)) T.b_Options_resting .nil pass0 (by rfl)) (pa_cons (pe_prop (pv 0) T.k_Options T.p_Options_shift (ok_Options_shift T) (hr.mono (by decide)) T.b_Options_shift .nil pass0 (by rfl)) pa_nil))))) (pg_name (i := 4) sc_l_right.nd rfl (Or.inl rfl)) (pss_one (ps_if (pt_not (pt_val (pe_call (ok_l_is_integer T) (hr.mono (by decide)) rfl T.m_l_is_integer T.F_l_is_integer.kp T.b_l_is_integer .nil pass0 (pa_cons (pv 4) pa_nil)))) (pss_one (ps_ret pe_bl)) pss_nil)))
        (pss_cons (ps_if (PW.pt (pw_or (pt_cmpR op_ne (pe_prop (pv 0) T.k_Options T.p_Options_patience (ok_Options_patience T) (hr.mono (by decide)) T.b_Options_patience .nil pass0 (by rfl)) (pe_op op_mul (pe_ix ix_list (pv 1) pe_int (fun _ _ => rfl)) (pe_ix ix_list (pv 1) pe_int (fun _ _ => rfl))) (nomark _)) (pw_or1 (pt_cmpR op_ne (pe_prop (pv 0) T.k_Options T.p_Options_resting (ok_Options_resting T) (hr.mono (by decide)) T.b_Options_resting .nil pass0 (by rfl)) (pe_op op_add (pe_ix ix_list (pv 1) pe_int (fun _ _ => rfl)) (pe_op op_mul (pe_ix ix_list (pv 1) pe_int (fun _ _ => rfl)) (pe_ix ix_list (pv 1) pe_int (fun _ _ => rfl)))) (nomark _))))) (pss_one (ps_ret pe_bl)) pss_nil)
        (pss_one (ps_ret (pe_cmpR op_eq (pe_prop (pv 0) T.k_Options T.p_Options_shift (ok_Options_shift T) (hr.mono (by decide)) T.b_Options_shift .nil pass0 (by rfl)) (pe_call (ok_l_shift T) (hr.mono (by decide)) rfl T.m_l_shift T.F_l_shift.kp T.b_l_shift .nil pass0 (pa_cons (pe_ix ix_list (pv 1) pe_int (fun _ _ => rfl)) pa_nil)) (nomark _)))))))))), ?_⟩
    dsimp only [cxOf, Cx.nox, Cx.wish, L2.start, List.map, List.cons_append, List.nil_append, List.length_cons, List.length_nil, Nat.reduceAdd, Nat.reduceSub, Nat.zero_add, List.replicate_succ, List.replicate_zero]
    obtain ⟨dx, ho⟩ := id hO
    have gb' := gb
    unfold Bd at gb'
    have gf' := gf
    unfold Fit at gf'
    walk_at "go"
    refine g_isi (.own _) (.base (T.i_Options ho)) (if_pos (beq_self_eq_true _)) ?_
    walk_at "go"
    refine ⟨p, g, rfl, hO, fun l H1 hl s1 k1 => ?_⟩
    have O1 := hO.same s1
    have r1 := s1 _ _ hr0
    walk_at "go"
    refine for_r (n := 9) 9 rfl (by omega) (by omega) (fun i σ H' => H' = H1 ∧ ∃ v w, σ = [some (.ref p), some (.ref r), some (.ref l), v, w]) ?start ?turn ?done ?ev
    case start => exact ⟨rfl, _, _, rfl⟩
    case ev =>
      intro R rr
      walk_at "go"
      exact rr
    case turn =>
      rintro i σ' H' hi ⟨rfl, v, w, rfl⟩
      have hx : ∃ n, atI (rwV g) (i : Int) = some (.int n) := by
        have hi2 : i = 0 ∨ i = 1 ∨ i = 2 ∨ i = 3 ∨ i = 4 ∨ i = 5 ∨ i = 6 ∨ i = 7 ∨ i = 8 := by omega
        rcases hi2 with rfl | rfl | rfl | rfl | rfl | rfl | rfl | rfl | rfl <;> exact ⟨_, at_of (j := _) rfl rfl⟩
      obtain ⟨n, hx⟩ := hx
      walk_at "go"
      refine g_ixL (sl k1) hx ?_
      walk_at "go"
      exact ⟨rfl, _, _, rfl⟩
    case done =>
      rintro σ' H' ⟨rfl, v, w, rfl⟩
      walk_at "go"
      refine ⟨.list (rwD g), .list (rwD g), .lst (sl k1) dp_rw, .lst (sl r1) dp_rw, sh_l (fit_ct gf), sh_l (fit_ct gf), ?_⟩
      rw [show PyData.eqv (.list (rwD g)) (.list (rwD g)) = true by
        show PyData.eqvAll (rwD g) (rwD g) = true
        rw [eqv_rw]
        exact decide_eq_true rfl]
      walk_at "go"
      obtain ⟨dx1, o1⟩ := id O1
      refine g_for ?_
      walk_at "go"
      refine ⟨p, dx1, _, rfl, o1, ⟨p, g, rfl, O1, gb, ?_⟩⟩
      walk_at "go"
      refine ⟨p, dx1, _, rfl, o1, ⟨p, g, rfl, O1, gb, ?_⟩⟩
      walk_at "go"
      refine ⟨p, dx1, _, rfl, o1, ⟨p, g, rfl, O1, fit_bd gf gb, fun k H2 hk s2 => ?_⟩⟩
      walk_at "go"
      refine ⟨by show 3 ≤ sizeLine; decide, fun l2 hl2 => ?_⟩
      generalize z3 : upd H2 l2 _ = H3
      have s3 : Same H2 H3 := by rw [← z3]; exact same_upd hl2
      have k3 : H3 l2 = some (.lst ([g.tries * g.high, g.life + g.tries * g.high, (k : Int)].map V.int)) := (congrFun z3 l2).symm.trans upd_same
      clear z3
      have s13 := s2.trans s3
      have O3 := O1.same s13
      obtain ⟨dx3, o3⟩ := id O3
      have r3 := s13 _ _ r1
      refine ⟨l2, rfl, ⟨_, sl k3⟩, ?_⟩
      refine for_list (xs := [g.tries * g.high, g.life + g.tries * g.high, (k : Int)].map V.int) (fun i σ H' => H' = H3 ∧ ∃ v w, σ = [some (.ref p), some (.ref r), some (.ref l), v, w]) ?start2 ?inv2 ?turn2 ?done2
      case start2 => exact ⟨rfl, _, _, rfl⟩
      case inv2 =>
        rintro i σ' H' _ ⟨rfl, _⟩
        exact sl k3
      case turn2 =>
        rintro i x σ' H' hx ⟨rfl, v, w, rfl⟩
        obtain ⟨n, _, rfl⟩ := map_get hx
        walk_at "go"
        exact ⟨rfl, _, _, rfl⟩
      case done2 =>
        rintro σ' H' ⟨rfl, v, w, rfl⟩
        walk_at "go"
        refine ⟨p, dx3, _, rfl, o3, ⟨p, g, rfl, O3, gb, ?_⟩⟩
        walk_at "go"
        refine ⟨p, dx3, _, rfl, o3, ⟨p, g, rfl, O3, gb, ?_⟩⟩
        walk_at "go"
        refine ⟨p, dx3, _, rfl, o3, ⟨p, g, rfl, O3, fit_bd gf gb, fun k' H4 hk' s4 => ?_⟩⟩
        have r4 := s4 _ _ r3
        walk_at "go"
        refine ⟨g.room, rfl, by omega, by omega, fun k2 hk2 => ?_⟩
        rw [isShf_unique hk' hk2]
        walk_at "go"
        rw [decide_eq_true rfl]
        exact q _ ((s1.trans s13).trans s4)
theorem st_row {H : Hp} {l : Addr} {g g' : Rw} {k : Int} {j : Nat} {v : V} {A : Hp → Prop} (h : H l = some (.lst (rwV g))) (e : ixN 11 k = some j) (e2 : (rwV g).set j v = rwV g') (q : A (upd H l (.lst (rwV g')))) : rSetL (.ref l) (.int k) v H A := g_setL h e (by rw [e2]; exact q)
def sp_l_other (K : PySem.W.Frag) : Sp := fun vs H Q _ => ∃ (r : Addr) (g : Rw) (k : Int), vs = [.ref r, .int k] ∧ H r = some (.lst (rwV g)) ∧ Fit g ∧ Bd g ∧ 0 ≤ k ∧ k < 11 ∧ ∀ l g' H', H l = none → Same H H' → H' l = some (.lst (rwV g')) → g' ≠ g → Bd g' → Q (.ref l) H'
theorem ok_l_other (T : Txt w K mg) : FnOk P w K mg base CX0 1 T.f_l_other T.d_l_other ["row", "k"] (sp_l_other K) := by
  refine T.F_l_other.ok sc_l_other (fun vs H Q E h => ?_) (fun cdv A outer s H vs Q E hr h => ?_)
  · obtain ⟨r, g, k, rfl, ho, gf, gb, k0, k1, q⟩ := h
    rfl
  · obtain ⟨r, g, k, rfl, ho, gf, gb, k0, k1, q⟩ := h
    have hu := hu_of hr
    refine ⟨_, (pss_cons (ps_set (i := 2) sc_l_other.nd rfl (Or.inl rfl) (pe_callTy call_list_of (by rfl) T.n_list (by decide +kernel) (pa_cons (pv 0) pa_nil)))
        (pss_cons (ps_if (pt_cmpR op_eq (pv 1) pe_int (nomark _)) (pss_one (ps_asg (pe_not (pe_ix ix_list (pv 0) pe_int (fun _ _ => rfl))) (pg_sub (pv 2) pe_int set_list))) (pss_one (ps_if (pt_cmpR op_eq (pv 1) pe_int (nomark _)) (pss_one (ps_asg (pe_ix ix_tup (pe_tup (pa_cons pe_str (pa_cons pe_str pa_nil))) (pe_callTy call_int1 (by rfl) T.n_int (by decide +kernel) (pa_cons (pe_cmpR op_eq (pe_ix ix_list (pv 0) pe_int (fun _ _ => rfl)) pe_str (nomark _)) pa_nil)) (fun _ _ => rfl)) (pg_sub (pv 2) pe_int set_list))) (pss_one (ps_if (pt_cmpR op_in_seq (pv 1) (pe_tup (pa_cons pe_int (pa_cons pe_int (pa_cons pe_int (pa_cons pe_int (pa_cons pe_int (pa_cons pe_int (pa_cons pe_int pa_nil)))))))) (by with_unfolding_all rfl)) (pss_one (ps_asg (pe_op op_sub (pe_ix ix_list (pv 0) (pv 1) (fun _ _ => rfl)) pe_int) (pg_sub (pv 2) (pv 1) set_list))) (pss_one (ps_asg (pe_op op_add (pe_ix ix_list (pv 0) (pv 1) (fun _ _ => rfl)) pe_int) (pg_sub (pv 2) (pv 1) set_list))))))))
        (pss_one (ps_ret (pv 2))))), ?_⟩
    dsimp only [cxOf, Cx.nox, Cx.wish, L2.start, List.map, List.cons_append, List.nil_append, List.length_cons, List.length_nil, Nat.reduceAdd, Nat.reduceSub, Nat.zero_add, List.replicate_succ, List.replicate_zero]
    walk_at "go"
    refine ⟨r, _, rfl, .inl (sl ho), fun l hl => ?_⟩
    generalize z1 : upd H l _ = H1
    have s1 : Same H H1 := by rw [← z1]; exact same_upd hl
    have e1 : H1 l = some (.lst (rwV g)) := (congrFun z1 l).symm.trans upd_same
    clear z1
    have ho := s1 _ _ ho
    have gf' := gf
    unfold Fit at gf'
    unfold Bd at gb
    have hk : k = 0 ∨ k = 1 ∨ k = 2 ∨ k = 3 ∨ k = 4 ∨ k = 5 ∨ k = 6 ∨ k = 7 ∨ k = 8 ∨ k = 9 ∨ k = 10 := by omega
    rcases hk with rfl | rfl | rfl | rfl | rfl | rfl | rfl | rfl | rfl | rfl | rfl
    · walk_at "go"
      refine ⟨by show 7 ≤ sizeLine; decide, fun t ht => ?_⟩
      generalize z2 : upd H1 t _ = H2
      have s2 : Same H1 H2 := by rw [← z2]; exact same_upd ht
      have e2 : H2 t = some (.tup (([0, 1, 2, 3, 4, 5, 6] : List Int).map V.int)) := (congrFun z2 t).symm.trans upd_same
      clear z2
      have ho := s2 _ _ ho
      have e1 := s2 _ _ e1
      refine g_inI (ws := [0, 1, 2, 3, 4, 5, 6]) (st e2) ?_
      walk_at "go"
      refine st_row (g' := { g with mss := g.mss - 1 }) (j := 0) e1 rfl rfl ?_
      walk_at "go"
      refine q l _ _ hl ((But.of (s1.trans s2)).upd.same hl) upd_same (fun z => ?_) ?_
      · have := congrArg Rw.mss z
        dsimp only at this
        omega
      · unfold Bd
        dsimp only
        omega
    · walk_at "go"
      refine ⟨by show 7 ≤ sizeLine; decide, fun t ht => ?_⟩
      generalize z2 : upd H1 t _ = H2
      have s2 : Same H1 H2 := by rw [← z2]; exact same_upd ht
      have e2 : H2 t = some (.tup (([0, 1, 2, 3, 4, 5, 6] : List Int).map V.int)) := (congrFun z2 t).symm.trans upd_same
      clear z2
      have ho := s2 _ _ ho
      have e1 := s2 _ _ e1
      refine g_inI (ws := [0, 1, 2, 3, 4, 5, 6]) (st e2) ?_
      walk_at "go"
      refine st_row (g' := { g with room := g.room - 1 }) (j := 1) e1 rfl rfl ?_
      walk_at "go"
      refine q l _ _ hl ((But.of (s1.trans s2)).upd.same hl) upd_same (fun z => ?_) ?_
      · have := congrArg Rw.room z
        dsimp only at this
        omega
      · unfold Bd
        dsimp only
        omega
    · walk_at "go"
      refine ⟨by show 7 ≤ sizeLine; decide, fun t ht => ?_⟩
      generalize z2 : upd H1 t _ = H2
      have s2 : Same H1 H2 := by rw [← z2]; exact same_upd ht
      have e2 : H2 t = some (.tup (([0, 1, 2, 3, 4, 5, 6] : List Int).map V.int)) := (congrFun z2 t).symm.trans upd_same
      clear z2
      have ho := s2 _ _ ho
      have e1 := s2 _ _ e1
      refine g_inI (ws := [0, 1, 2, 3, 4, 5, 6]) (st e2) ?_
      walk_at "go"
      refine st_row (g' := { g with life := g.life - 1 }) (j := 2) e1 rfl rfl ?_
      walk_at "go"
      refine q l _ _ hl ((But.of (s1.trans s2)).upd.same hl) upd_same (fun z => ?_) ?_
      · have := congrArg Rw.life z
        dsimp only at this
        omega
      · unfold Bd
        dsimp only
        omega
    · walk_at "go"
      refine ⟨by show 7 ≤ sizeLine; decide, fun t ht => ?_⟩
      generalize z2 : upd H1 t _ = H2
      have s2 : Same H1 H2 := by rw [← z2]; exact same_upd ht
      have e2 : H2 t = some (.tup (([0, 1, 2, 3, 4, 5, 6] : List Int).map V.int)) := (congrFun z2 t).symm.trans upd_same
      clear z2
      have ho := s2 _ _ ho
      have e1 := s2 _ _ e1
      refine g_inI (ws := [0, 1, 2, 3, 4, 5, 6]) (st e2) ?_
      walk_at "go"
      refine st_row (g' := { g with pace := g.pace - 1 }) (j := 3) e1 rfl rfl ?_
      walk_at "go"
      refine q l _ _ hl ((But.of (s1.trans s2)).upd.same hl) upd_same (fun z => ?_) ?_
      · have := congrArg Rw.pace z
        dsimp only at this
        omega
      · unfold Bd
        dsimp only
        omega
    · walk_at "go"
      refine ⟨by show 7 ≤ sizeLine; decide, fun t ht => ?_⟩
      generalize z2 : upd H1 t _ = H2
      have s2 : Same H1 H2 := by rw [← z2]; exact same_upd ht
      have e2 : H2 t = some (.tup (([0, 1, 2, 3, 4, 5, 6] : List Int).map V.int)) := (congrFun z2 t).symm.trans upd_same
      clear z2
      have ho := s2 _ _ ho
      have e1 := s2 _ _ e1
      refine g_inI (ws := [0, 1, 2, 3, 4, 5, 6]) (st e2) ?_
      walk_at "go"
      refine st_row (g' := { g with tries := g.tries - 1 }) (j := 4) e1 rfl rfl ?_
      walk_at "go"
      refine q l _ _ hl ((But.of (s1.trans s2)).upd.same hl) upd_same (fun z => ?_) ?_
      · have := congrArg Rw.tries z
        dsimp only at this
        omega
      · unfold Bd
        dsimp only
        omega
    · walk_at "go"
      refine ⟨by show 7 ≤ sizeLine; decide, fun t ht => ?_⟩
      generalize z2 : upd H1 t _ = H2
      have s2 : Same H1 H2 := by rw [← z2]; exact same_upd ht
      have e2 : H2 t = some (.tup (([0, 1, 2, 3, 4, 5, 6] : List Int).map V.int)) := (congrFun z2 t).symm.trans upd_same
      clear z2
      have ho := s2 _ _ ho
      have e1 := s2 _ _ e1
      refine g_inI (ws := [0, 1, 2, 3, 4, 5, 6]) (st e2) ?_
      walk_at "go"
      refine st_row (g' := { g with low := g.low - 1 }) (j := 5) e1 rfl rfl ?_
      walk_at "go"
      refine q l _ _ hl ((But.of (s1.trans s2)).upd.same hl) upd_same (fun z => ?_) ?_
      · have := congrArg Rw.low z
        dsimp only at this
        omega
      · unfold Bd
        dsimp only
        omega
    · walk_at "go"
      refine ⟨by show 7 ≤ sizeLine; decide, fun t ht => ?_⟩
      generalize z2 : upd H1 t _ = H2
      have s2 : Same H1 H2 := by rw [← z2]; exact same_upd ht
      have e2 : H2 t = some (.tup (([0, 1, 2, 3, 4, 5, 6] : List Int).map V.int)) := (congrFun z2 t).symm.trans upd_same
      clear z2
      have ho := s2 _ _ ho
      have e1 := s2 _ _ e1
      refine g_inI (ws := [0, 1, 2, 3, 4, 5, 6]) (st e2) ?_
      walk_at "go"
      refine st_row (g' := { g with high := g.high - 1 }) (j := 6) e1 rfl rfl ?_
      walk_at "go"
      refine q l _ _ hl ((But.of (s1.trans s2)).upd.same hl) upd_same (fun z => ?_) ?_
      · have := congrArg Rw.high z
        dsimp only at this
        omega
      · unfold Bd
        dsimp only
        omega
    · walk_at "go"
      refine ⟨by show 7 ≤ sizeLine; decide, fun t ht => ?_⟩
      generalize z2 : upd H1 t _ = H2
      have s2 : Same H1 H2 := by rw [← z2]; exact same_upd ht
      have e2 : H2 t = some (.tup (([0, 1, 2, 3, 4, 5, 6] : List Int).map V.int)) := (congrFun z2 t).symm.trans upd_same
      clear z2
      have ho := s2 _ _ ho
      have e1 := s2 _ _ e1
      refine g_inI (ws := [0, 1, 2, 3, 4, 5, 6]) (st e2) ?_
      walk_at "go"
      refine st_row (g' := { g with ack := g.ack + 1 }) (j := 7) e1 rfl rfl ?_
      walk_at "go"
      refine q l _ _ hl ((But.of (s1.trans s2)).upd.same hl) upd_same (fun z => ?_) ?_
      · have := congrArg Rw.ack z
        dsimp only at this
        omega
      · unfold Bd
        dsimp only
        omega
    · walk_at "go"
      refine ⟨by show 7 ≤ sizeLine; decide, fun t ht => ?_⟩
      generalize z2 : upd H1 t _ = H2
      have s2 : Same H1 H2 := by rw [← z2]; exact same_upd ht
      have e2 : H2 t = some (.tup (([0, 1, 2, 3, 4, 5, 6] : List Int).map V.int)) := (congrFun z2 t).symm.trans upd_same
      clear z2
      have ho := s2 _ _ ho
      have e1 := s2 _ _ e1
      refine g_inI (ws := [0, 1, 2, 3, 4, 5, 6]) (st e2) ?_
      walk_at "go"
      refine st_row (g' := { g with keep := g.keep + 1 }) (j := 8) e1 rfl rfl ?_
      walk_at "go"
      refine q l _ _ hl ((But.of (s1.trans s2)).upd.same hl) upd_same (fun z => ?_) ?_
      · have := congrArg Rw.keep z
        dsimp only at this
        omega
      · unfold Bd
        dsimp only
        omega
    · walk_at "go"
      refine st_row (g' := { g with nagle := !g.nagle }) (j := 9) e1 rfl rfl ?_
      walk_at "go"
      refine q l _ _ hl ((But.of s1).upd.same hl) upd_same (fun z => ?_) gb
      have := congrArg Rw.nagle z
      dsimp only at this
      cases h : g.nagle <;> rw [h] at this <;> cases this
    · walk_at "go"
      refine ⟨by show 2 ≤ sizeLine; decide, fun t ht => ?_⟩
      generalize z2 : upd H1 t _ = H2
      have s2 : Same H1 H2 := by rw [← z2]; exact same_upd ht
      have e2 : H2 t = some (.tup ((["reno", "cubic"] : List Str).map V.str)) := (congrFun z2 t).symm.trans upd_same
      clear z2
      have ho := s2 _ _ ho
      have e1 := s2 _ _ e1
      walk_at "go"
      by_cases c : g.ctl = "reno"
      · rw [decide_eq_true c]
        refine g_ixT (st e2) (at_of (j := 1) rfl rfl) ?_
        walk_at "go"
        refine st_row (g' := { g with ctl := "cubic" }) (j := 10) e1 rfl rfl ?_
        walk_at "go"
        refine q l _ _ hl ((But.of (s1.trans s2)).upd.same hl) upd_same (fun z => ?_) gb
        have := congrArg Rw.ctl z
        dsimp only at this
        rw [c] at this
        exact absurd this (by decide +kernel)
      · rw [decide_eq_false c]
        refine g_ixT (st e2) (at_of (j := 0) rfl rfl) ?_
        walk_at "go"
        refine st_row (g' := { g with ctl := "reno" }) (j := 10) e1 rfl rfl ?_
        walk_at "go"
        refine q l _ _ hl ((But.of (s1.trans s2)).upd.same hl) upd_same (fun z => ?_) gb
        have := congrArg Rw.ctl z
        dsimp only at this
        exact c this.symm
def sp_l_equal (C : Addr) : Sp := fun vs H Q _ => ∃ (p r : Addr) (g : Rw), vs = [.ref p, .ref r] ∧ OpO C H p g ∧ H r = some (.lst (rwV g)) ∧ Fit g ∧ Bd g ∧ ∀ H', Same H H' → Q (.bl true) H'
theorem ok_l_equal (T : Txt w K mg) : FnOk P w K mg base CX0 5 T.f_l_equal T.d_l_equal ["told", "row"] (sp_l_equal T.C_Options) := by
  refine T.F_l_equal.ok sc_l_equal (fun vs H Q E h => ?_) (fun cdv A outer s H vs Q E hr h => ?_)
  · obtain ⟨p, r, g, rfl, hO, hr0, gf, gb, q⟩ := h
    rfl
  · obtain ⟨p, r, g, rfl, hO, hr0, gf, gb, q⟩ := h
    have hu := hu_of hr
    refine ⟨_, (pss_cons (ps_if (pt_not (pt_cmpR (op_eqO (ok_Options_eq__ T) (hr.mono (by decide)) T.a_Options_eq__ T.q_Options T.b_Options_eq__ pass0) (pv 0) (pe_call (ok_l_made T) (hr.mono (by decide)) rfl T.m_l_made T.F_l_made.kp T.b_l_made .nil passL (pa_cons (pv 1) pa_nil)) (nomark _))) (pss_one (ps_ret pe_bl)) pss_nil)
        (pss_cons (ps_for PassesOwn.never rfl (pi_range1 (by rfl) T.n_range (pa_cons pe_int pa_nil)) (pg_name (i := 2) sc_l_equal.nd rfl (Or.inl rfl)) (pss_cons (ps_set (i := 3) sc_l_equal.nd rfl (Or.inl rfl) (pe_call (ok_l_other T) (hr.mono (by decide)) rfl T.m_l_other T.F_l_other.kp T.b_l_other .nil pass0 (pa_cons (pv 1) (pa_cons (pv 2) pa_nil))))
        (pss_one (ps_if (PW.pt (pw_and (pt_val (pe_call (ok_l_fits T) (hr.mono (by decide)) rfl T.m_l_fits T.F_l_fits.kp T.b_l_fits .nil pass0 (pa_cons (pv 3) pa_nil))) (pw_and1 (pt_cmpR (op_eqO (ok_Options_eq__ T) (hr.mono (by decide)) T.a_Options_eq__ T.q_Options T.b_Options_eq__ pass0) (pv 0) (pe_call (ok_l_made T) (hr.mono (by decide)) rfl T.m_l_made T.F_l_made.kp T.b_l_made .nil passL (pa_cons (pv 3) pa_nil)) (nomark _))))) (pss_one (ps_ret pe_bl)) pss_nil))))
        (pss_one (ps_ret pe_bl)))), ?_⟩
    dsimp only [cxOf, Cx.nox, Cx.wish, L2.start, List.map, List.cons_append, List.nil_append, List.length_cons, List.length_nil, Nat.reduceAdd, Nat.reduceSub, Nat.zero_add, List.replicate_succ, List.replicate_zero]
    obtain ⟨dx, ho⟩ := id hO
    walk_at "go"
    refine ⟨r, g, rfl, hr0, gb, fun _ p2 H1 np s1 o2 => ?_, fun nf => absurd gf nf⟩
    have O1 := hO.same s1
    obtain ⟨dx1, o1⟩ := id O1
    obtain ⟨dx2, o2'⟩ := id o2
    refine ⟨p, dx1, _, rfl, o1, .inl ⟨p2, dx2, _, rfl, o2'⟩, p, p2, g, g, rfl, O1, o2, fit_ct gf, fit_ct gf, fun H2 s2 => ⟨_, rfl, ?_⟩⟩
    rw [decide_eq_true rfl]
    walk_at "go"
    have s02 := s1.trans s2
    refine for_r (n := 11) 11 rfl (by omega) (by omega) (fun i σ H' => Same H2 H' ∧ ∃ v w, σ = [some (.ref p), some (.ref r), v, w]) ?start ?turn ?done ?ev
    case start => exact ⟨Same.refl _, _, _, rfl⟩
    case ev =>
      intro R rr
      walk_at "go"
      exact rr
    case done =>
      rintro σ' H' ⟨s3, v, w, rfl⟩
      walk_at "go"
      exact q _ (s02.trans s3)
    case turn =>
      rintro i σ' H' hi ⟨s3, v, w, rfl⟩
      have sa := s02.trans s3
      have Oa := hO.same sa
      have ra := sa _ _ hr0
      walk_at "go"
      refine ⟨r, g, _, rfl, ra, gf, gb, by omega, by omega, fun l g' H4 hl s4 e4 ne gb' => ?_⟩
      walk_at "go"
      refine ⟨l, g', rfl, e4, gb', fun f' => ?_, fun f' => ?_⟩
      · walk_at "go"
        refine ⟨l, g', rfl, e4, gb', fun _ p5 H5 np5 s5 o5 => ?_, fun nf => absurd f' nf⟩
        have Ob := Oa.same (s4.trans s5)
        obtain ⟨dxb, ob⟩ := id Ob
        obtain ⟨dx5, o5'⟩ := id o5
        refine ⟨p, dxb, _, rfl, ob, .inl ⟨p5, dx5, _, rfl, o5'⟩, p, p5, g, g', rfl, Ob, o5, fit_ct gf, fit_ct f', fun H6 s6 => ⟨_, rfl, ?_⟩⟩
        rw [decide_eq_false (Ne.symm ne)]
        walk_at "go"
        exact ⟨((s3.trans s4).trans s5).trans s6, _, _, rfl⟩
      · walk_at "go"
        exact ⟨s3.trans s4, _, _, rfl⟩
def sp_l_short (K : PySem.W.Frag) : Sp := fun vs H Q _ => ∃ (r : Addr) (g : Rw), vs = [.ref r] ∧ H r = some (.lst (rwV g)) ∧ Fit g ∧ Bd g ∧ ∀ H', Same H H' → Q (.bl true) H'
def sh7 (g : Rw) : Rw := { g with ack := 0, keep := 0, nagle := false, ctl := "reno" }
theorem kbt_1 {w : World} {K : PySem.W.Frag} {mg : Str → Option Value} (T : Txt w K mg) : ∃ g, KBn K T.d_Options_init__ ["self", "mss", "room", "life", "pace", "tries", "min_rto", "max_rto", "ack_delay", "keep_alive", "nagle", "control"] 1 ["mss", "room", "life", "pace", "tries", "min_rto", "max_rto"] g (fun vs zs => vs ++ ((zs.drop 0).take 1 ++ ((zs.drop 1).take 1 ++ ((zs.drop 2).take 1 ++ ((zs.drop 3).take 1 ++ ((zs.drop 4).take 1 ++ ((zs.drop 5).take 1 ++ ((zs.drop 6).take 1 ++ ((([.int 0, .int 0, .bl false, .str (PySem.Str.ofString "reno")] : List V).drop 0).take 1 ++ ((([.int 0, .int 0, .bl false, .str (PySem.Str.ofString "reno")] : List V).drop 1).take 1 ++ ((([.int 0, .int 0, .bl false, .str (PySem.Str.ofString "reno")] : List V).drop 2).take 1 ++ ((([.int 0, .int 0, .bl false, .str (PySem.Str.ofString "reno")] : List V).drop 3).take 1)))))))))))) := by
  obtain ⟨mv, h⟩ := T.F_Options_init__.kbinds0 (ps := ["self", "mss", "room", "life", "pace", "tries", "min_rto", "max_rto", "ack_delay", "keep_alive", "nagle", "control"]) 1 ["mss", "room", "life", "pace", "tries", "min_rto", "max_rto"] [("ack_delay", .int 0), ("keep_alive", .int 0), ("nagle", .bl false), ("control", .str (PySem.Str.ofString "reno"))] (fun vs mz zs => vs ++ ((zs.drop 0).take 1 ++ ((zs.drop 1).take 1 ++ ((zs.drop 2).take 1 ++ ((zs.drop 3).take 1 ++ ((zs.drop 4).take 1 ++ ((zs.drop 5).take 1 ++ ((zs.drop 6).take 1 ++ ((mz.drop 0).take 1 ++ ((mz.drop 1).take 1 ++ ((mz.drop 2).take 1 ++ ((mz.drop 3).take 1)))))))))))) (by intro h; cases h) (fun q hq => List.Sublist.mem hq (.cons₂ _ (.cons₂ _ (.cons₂ _ (.cons₂ _ (.slnil)))))) (fun r1 r2 r3 => r1.append (((r3.drop 0).take 1).append (((r3.drop 1).take 1).append (((r3.drop 2).take 1).append (((r3.drop 3).take 1).append (((r3.drop 4).take 1).append (((r3.drop 5).take 1).append (((r3.drop 6).take 1).append (((r2.drop 0).take 1).append (((r2.drop 1).take 1).append (((r2.drop 2).take 1).append ((r2.drop 3).take 1)))))))))))) (fun D doc pm an cdv ct us mv ws l1 l2 l3 => match us, l1, mv, l2, ws, l3 with | [_], _, [_, _, _, _], _, [_, _, _, _, _, _, _], _ => (by
    refine' KwChain.of_steps rfl ?st ?en
    case st =>
      apply KwSteps.skipIf; (case e => exact rfl); (case hc => kernel_rfl)
      apply KwSteps.skipIf; (case e => exact rfl); (case hc => kernel_rfl)
      apply KwSteps.skipIf; (case e => exact rfl); (case hc => kernel_rfl)
      apply KwSteps.skipIf; (case e => exact rfl); (case hc => kernel_rfl)
      apply KwSteps.skipIf; (case e => exact rfl); (case hc => kernel_rfl)
      apply KwSteps.skipIf; (case e => exact rfl); (case hc => kernel_rfl)
      apply KwSteps.skipIf; (case e => exact rfl); (case hc => kernel_rfl)
      apply KwSteps.lookIf; (case e => exact rfl); (case hc => kernel_rfl); (case e1 => exact rfl)
      apply KwSteps.lookIf; (case e => exact rfl); (case hc => kernel_rfl); (case e1 => exact rfl)
      apply KwSteps.lookIf; (case e => exact rfl); (case hc => kernel_rfl); (case e1 => exact rfl)
      apply KwSteps.lookIf; (case e => exact rfl); (case hc => kernel_rfl); (case e1 => exact rfl)
      apply KwSteps.nil
    case en => kernel_rfl))
  exact ⟨_, h⟩
theorem ok_l_short (T : Txt w K mg) : FnOk P w K mg base CX0 6 T.f_l_short T.d_l_short ["row"] (sp_l_short K) := by
  refine T.F_l_short.ok sc_l_short (fun vs H Q E h => ?_) (fun cdv A outer s H vs Q E hr h => ?_)
  · obtain ⟨r, g, rfl, hr0, gf, gb, q⟩ := h
    rfl
  · obtain ⟨r, g, rfl, hr0, gf, gb, q⟩ := h
    have hu := hu_of hr
    obtain ⟨gk_1, kb_1⟩ := kbt_1 T
    refine ⟨_, (pss_cons (ps_set (i := 1) sc_l_short.nd rfl (Or.inl rfl) (pe_makeK0 T.mk_Options (ok_Options_init__ T) (hr.mono (by decide)) rfl T.c_Options kb_1 passL (pk_cons (pe_ix ix_list (pv 0) pe_int (fun _ _ => rfl)) (pk_cons (pe_ix ix_list (pv 0) pe_int (fun _ _ => rfl)) (pk_cons (pe_ix ix_list (pv 0) pe_int (fun _ _ => rfl)) (pk_cons (pe_ix ix_list (pv 0) pe_int (fun _ _ => rfl)) (pk_cons (pe_ix ix_list (pv 0) pe_int (fun _ _ => rfl)) (pk_cons (pe_ix ix_list (pv 0) pe_int (fun _ _ => rfl)) (pk_cons (pe_ix ix_list (pv 0) pe_int (fun _ _ => rfl)) pk_nil)))))))))
        (pss_one (ps_ret (pe_call (ok_l_right T) (hr.mono (by decide)) rfl T.m_l_right T.F_l_right.kp T.b_l_right .nil pass0 (pa_cons (pv 1) (pa_cons (pe_op op_cat (pe_slice sl_list (pv 0) po_none (po_some pe_int)) (pe_lst (pa_cons pe_int (pa_cons pe_int (pa_cons pe_bl (pa_cons pe_str pa_nil)))))) pa_nil)))))), ?_⟩
    dsimp only [cxOf, Cx.nox, Cx.wish, L2.start, List.map, List.cons_append, List.nil_append, List.length_cons, List.length_nil, Nat.reduceAdd, Nat.reduceSub, Nat.zero_add, List.replicate_succ, List.replicate_zero]
    have gf7 : Fit (sh7 g) := by
      unfold Fit at gf
      unfold Fit sh7
      dsimp only
      refine ⟨by omega, by omega, by omega, by omega, by omega, by omega, by omega, by omega, by omega, by simp⟩
    have gb7 : Bd (sh7 g) := by
      unfold Bd at gb
      unfold Bd sh7
      dsimp only
      omega
    walk_at "go"
    refine ⟨rfl, rfl, fun x dx nx ndx nxd => ?_⟩
    have b1 : But x H (upd (upd H dx (.own x)) x (.ins T.C_Options dx [])) := ((But.of (same_upd (o := .own x) ndx))).upd
    refine ⟨x, dx, sh7 g, rfl, upd_same, gb7, fun f H1 b e => ⟨rfl, ?_⟩, fun nf => absurd gf7 nf⟩
    have s1 := (b1.trans b).same nx
    have r1 := s1 _ _ hr0
    walk_at "go"
    refine g_slL (sl r1) fun l1 hl1 => ?_
    generalize z2 : upd H1 l1 _ = H2
    have s2 : Same H1 H2 := by rw [← z2]; exact same_upd hl1
    have e2 := (congrFun z2 l1).symm.trans upd_same
    clear z2
    walk_at "go"
    refine ⟨by show 4 ≤ sizeLine; decide, fun l2 hl2 => ?_⟩
    generalize z3 : upd H2 l2 _ = H3
    have s3 : Same H2 H3 := by rw [← z3]; exact same_upd hl2
    have e3 := (congrFun z3 l2).symm.trans upd_same
    clear z3
    refine g_cat (s3 _ _ e2) e3 (by show 7 + 4 ≤ sizeLine; decide) fun l3 hl3 => ?_
    have s4 := (s2.trans s3).trans (same_upd (o := .lst (cutV (rwV g) none (some 7) ++ [V.int 0, V.int 0, V.bl false, V.str "reno"])) hl3)
    walk_at "go"
    refine ⟨x, l3, sh7 g, rfl, (OpO.same ⟨dx, e⟩ s4), upd_same, ⟨gf7, gb7⟩, fun H5 s5 => ?_⟩
    exact q _ ((s1.trans s4).trans s5)
end
end My
namespace My
open PySem PySem.Spec L2
local macro_rules | `(tactic| walk_at "side") => `(tactic| first | assumption | decide | omega | exact ⟨by decide, by decide⟩ | exact ⟨by decide, by decide, by decide⟩ | decide +kernel | exact cdivW (by decide +kernel) (by decide +kernel) | exact Or.inl ⟨by omega, by omega⟩ | exact Or.inr ⟨by omega, by omega⟩ | (simp only [List.length_map, List.length_cons, List.length_nil, List.length_append]; omega))
local macro_rules | `(tactic| walk_at "fact") => `(tactic| first | assumption | omega | with_reducible rfl)
local macro_rules | `(tactic| walk_at "use") => `(tactic| fail "use")
local macro_rules | `(tactic| walk_at "go1") => `(tactic| with_reducible first | refine g_seq ?_ | refine g_asg ?_ | refine g_ret ?_ | refine g_ifS ?_ | refine g_drop ?_ | refine g_star ?_ | refine g_nx ?_ | refine g_rt ?_ | refine g_bkE ?_ | refine g_ctE ?_ | refine g_next ?_ | refine g_retN ?_ | refine g_brk ?_ | refine g_ct ?_ | refine g_c ?_ | refine g_op ?_ | refine g_un ?_ | refine g_rI0 ?_ | refine g_rU ?_ | refine g_rEqI ?_ | refine g_rNeI ?_ | refine g_isN ?_ | refine g_rIsB ?_ | refine g_rNotB ?_ | refine g_test ?_ | refine g_B ?_ | refine g_bl ?_ | refine g_and ?_ | refine g_or ?_ | refine g_not ?_ | refine g_andV ?_ | refine g_orV ?_ | refine g_notV ?_ | refine g_if ?_ | refine g_chain ?_ | refine g_yes ?_ | refine g_lc ?_ | refine g_revR ?_ | refine g_rng1 ?_ | refine g_iList ?_ | refine g_nil ?_ | refine g_cons ?_ | refine g_tup ?_ | refine g_lst ?_ | refine g_call ?_ | refine g_CB ?_ | refine g_sl ?_ | refine g_noPart ?_ | refine g_part ?_ | refine g_intE ?_ | refine g_ref ?_ | refine g_fld ?_ | refine g_sfld ?_ | refine g_meth ?_ | refine g_make ?_ | refine g_prop ?_  | refine g_ipI ?_ | refine g_int1 ?_ | refine g_int1B ?_ | refine g_one ?_ | refine g_two ?_ | refine g_isiI ?_ | refine g_isiIB ?_ | refine g_isiB ?_ | refine g_BM ?_ | refine g_BM0 ?_ | refine g_sub ?_)
local macro_rules | `(tactic| walk_at "go") => `(tactic| repeat (first | walk_at "go1" | ((with_reducible refine' g_nameE ?sd_ ?_); case sd_ => dsimp only [List.set_cons_succ, List.set_cons_zero]) | ((with_reducible refine' g_var ?sd_ ?_); case sd_ => exact rfl) | ((with_reducible refine' g_aug ?sd_ ?_); case sd_ => exact rfl) | ((with_reducible refine' g_rI ?sd_ ?_); case sd_ => walk_at "side") | ((with_reducible refine' g_dT ?sd_ ?_); case sd_ => walk_at "fact") | ((with_reducible refine' g_dF ?sd_ ?_); case sd_ => walk_at "fact") | ((with_reducible refine' g_nT ?sd_ ?_); case sd_ => walk_at "fact") | ((with_reducible refine' g_nF ?sd_ ?_); case sd_ => walk_at "fact") | (with_reducible refine g_iT rfl ?_) | (with_reducible refine g_iF rfl ?_) | walk_at "use"))
local macro_rules | `(tactic| walk_at "use") => `(tactic| first | ((with_reducible refine' fd_Options_mss ?ho_ ?hv_ ?_); (case ho_ => first | assumption | exact upd_same); (case hv_ => exact rfl)) | ((with_reducible refine' fd_Options_room ?ho_ ?hv_ ?_); (case ho_ => first | assumption | exact upd_same); (case hv_ => exact rfl)) | ((with_reducible refine' fd_Options_life ?ho_ ?hv_ ?_); (case ho_ => first | assumption | exact upd_same); (case hv_ => exact rfl)) | ((with_reducible refine' fd_Options_pace ?ho_ ?hv_ ?_); (case ho_ => first | assumption | exact upd_same); (case hv_ => exact rfl)) | ((with_reducible refine' fd_Options_tries ?ho_ ?hv_ ?_); (case ho_ => first | assumption | exact upd_same); (case hv_ => exact rfl)) | ((with_reducible refine' fd_Options_min_rto ?ho_ ?hv_ ?_); (case ho_ => first | assumption | exact upd_same); (case hv_ => exact rfl)) | ((with_reducible refine' fd_Options_max_rto ?ho_ ?hv_ ?_); (case ho_ => first | assumption | exact upd_same); (case hv_ => exact rfl)) | ((with_reducible refine' fd_Options_ack_delay ?ho_ ?hv_ ?_); (case ho_ => first | assumption | exact upd_same); (case hv_ => exact rfl)) | ((with_reducible refine' fd_Options_keep_alive ?ho_ ?hv_ ?_); (case ho_ => first | assumption | exact upd_same); (case hv_ => exact rfl)) | ((with_reducible refine' fd_Options_nagle ?ho_ ?hv_ ?_); (case ho_ => first | assumption | exact upd_same); (case hv_ => exact rfl)) | ((with_reducible refine' fd_Options_control ?ho_ ?hv_ ?_); (case ho_ => first | assumption | exact upd_same); (case hv_ => exact rfl)) | ((with_reducible refine' nw_Options_mss ?ho_ ?hv_ ?_); (case ho_ => first | assumption | exact upd_same); (case hv_ => exact rfl)) | ((with_reducible refine' nw_Options_room ?ho_ ?hv_ ?_); (case ho_ => first | assumption | exact upd_same); (case hv_ => exact rfl)) | ((with_reducible refine' nw_Options_life ?ho_ ?hv_ ?_); (case ho_ => first | assumption | exact upd_same); (case hv_ => exact rfl)) | ((with_reducible refine' nw_Options_pace ?ho_ ?hv_ ?_); (case ho_ => first | assumption | exact upd_same); (case hv_ => exact rfl)) | ((with_reducible refine' nw_Options_tries ?ho_ ?hv_ ?_); (case ho_ => first | assumption | exact upd_same); (case hv_ => exact rfl)) | ((with_reducible refine' nw_Options_min_rto ?ho_ ?hv_ ?_); (case ho_ => first | assumption | exact upd_same); (case hv_ => exact rfl)) | ((with_reducible refine' nw_Options_max_rto ?ho_ ?hv_ ?_); (case ho_ => first | assumption | exact upd_same); (case hv_ => exact rfl)) | ((with_reducible refine' nw_Options_ack_delay ?ho_ ?hv_ ?_); (case ho_ => first | assumption | exact upd_same); (case hv_ => exact rfl)) | ((with_reducible refine' nw_Options_keep_alive ?ho_ ?hv_ ?_); (case ho_ => first | assumption | exact upd_same); (case hv_ => exact rfl)) | ((with_reducible refine' nw_Options_nagle ?ho_ ?hv_ ?_); (case ho_ => first | assumption | exact upd_same); (case hv_ => exact rfl)) | ((with_reducible refine' nw_Options_control ?ho_ ?hv_ ?_); (case ho_ => first | assumption | exact upd_same); (case hv_ => exact rfl)) | ((with_reducible refine' st_Options_mss ?ho_ ?hv_ ?_); (case ho_ => first | assumption | exact upd_same); (case hv_ => exact Nat.le_of_ble_eq_true rfl)) | ((with_reducible refine' st_Options_room ?ho_ ?hv_ ?_); (case ho_ => first | assumption | exact upd_same); (case hv_ => exact Nat.le_of_ble_eq_true rfl)) | ((with_reducible refine' st_Options_life ?ho_ ?hv_ ?_); (case ho_ => first | assumption | exact upd_same); (case hv_ => exact Nat.le_of_ble_eq_true rfl)) | ((with_reducible refine' st_Options_pace ?ho_ ?hv_ ?_); (case ho_ => first | assumption | exact upd_same); (case hv_ => exact Nat.le_of_ble_eq_true rfl)) | ((with_reducible refine' st_Options_tries ?ho_ ?hv_ ?_); (case ho_ => first | assumption | exact upd_same); (case hv_ => exact Nat.le_of_ble_eq_true rfl)) | ((with_reducible refine' st_Options_min_rto ?ho_ ?hv_ ?_); (case ho_ => first | assumption | exact upd_same); (case hv_ => exact Nat.le_of_ble_eq_true rfl)) | ((with_reducible refine' st_Options_max_rto ?ho_ ?hv_ ?_); (case ho_ => first | assumption | exact upd_same); (case hv_ => exact Nat.le_of_ble_eq_true rfl)) | ((with_reducible refine' st_Options_ack_delay ?ho_ ?hv_ ?_); (case ho_ => first | assumption | exact upd_same); (case hv_ => exact Nat.le_of_ble_eq_true rfl)) | ((with_reducible refine' st_Options_keep_alive ?ho_ ?hv_ ?_); (case ho_ => first | assumption | exact upd_same); (case hv_ => exact Nat.le_of_ble_eq_true rfl)) | ((with_reducible refine' st_Options_nagle ?ho_ ?hv_ ?_); (case ho_ => first | assumption | exact upd_same); (case hv_ => exact Nat.le_of_ble_eq_true rfl)) | ((with_reducible refine' st_Options_control ?ho_ ?hv_ ?_); (case ho_ => first | assumption | exact upd_same); (case hv_ => exact Nat.le_of_ble_eq_true rfl)) | ((with_reducible refine' me_Options_eq__ ?ho_ ?_); (case ho_ => first | assumption | exact upd_same)) | ((with_reducible refine' me_Options_fields ?ho_ ?_); (case ho_ => first | assumption | exact upd_same)) | ((with_reducible refine' me_Options_wrong_names ?ho_ ?_); (case ho_ => first | assumption | exact upd_same)))
section
variable {P : Program} {w : World} {K : PySem.W.Frag} {mg : Str → Option Value} {base : Heap}
local macro_rules | `(tactic| walk_at "use") => `(tactic| with_reducible first | refine g_rs0 ?_ | refine g_rs1 ?_ | refine g_tryA ?_ | refine g_tryO ?_ | refine g_callS ?_ | refine g_joined ?_ | refine g_jsnil ?_ | refine g_jscons ?_ | refine g_fmt ?_)
local macro_rules | `(tactic| walk_at "fit") => `(tactic| (refine fit2 ?_; (try simp only [PySem.Str.length_append]); omega))
local macro_rules | `(tactic| walk_at "use") => `(tactic| first | ((with_reducible refine' g_addS ?sd_ ?_); case sd_ => (first | omega | (simp only [PySem.Str.length_append]; omega))) | ((with_reducible refine' g_slS ?sd_ ?_); case sd_ => omega) | (with_reducible refine g_m0 ?_))

local macro_rules | `(tactic| walk_at "use") => `(tactic| with_reducible first | refine g_makeK ?_ | refine g_callN ?_ | refine g_chain3 ?_ | refine g_gcons ?_ | refine g_gnil ?_ | refine g_rEqS ?_ | refine g_rNeS ?_ | refine g_isiS ?_ | refine u_isint ?_ | refine u_cell (by assumption) (by omega) ?_)
local macro_rules | `(tactic| walk_at "use") => `(tactic| first | ((with_reducible refine' rx_0 ?ho_ ?_); (case ho_ => assumption)) | ((with_reducible refine' rx_1 ?ho_ ?_); (case ho_ => assumption)) | ((with_reducible refine' rx_2 ?ho_ ?_); (case ho_ => assumption)) | ((with_reducible refine' rx_3 ?ho_ ?_); (case ho_ => assumption)) | ((with_reducible refine' rx_4 ?ho_ ?_); (case ho_ => assumption)) | ((with_reducible refine' rx_5 ?ho_ ?_); (case ho_ => assumption)) | ((with_reducible refine' rx_6 ?ho_ ?_); (case ho_ => assumption)) | ((with_reducible refine' rx_7 ?ho_ ?_); (case ho_ => assumption)) | ((with_reducible refine' rx_8 ?ho_ ?_); (case ho_ => assumption)) | ((with_reducible refine' rx_9 ?ho_ ?_); (case ho_ => assumption)) | ((with_reducible refine' rx_10 ?ho_ ?_); (case ho_ => assumption)))
def sp_law (K : PySem.W.Frag) : Sp := fun vs H Q _ => ∃ (a : Addr) (ns : List Int), vs = [.ref a] ∧ SqL K H a (ns.map V.int) ∧ ns.length ≤ 63 ∧ ∀ H', Q (.bl true) H'

/-- a number of a row is put anew -/
theorem put9 {g : Rw} {k : Int} {n : Int} (h0 : 0 ≤ k) (h1 : k < 9) (hn : El n) (b : Bd g) : ∃ (j : Nat) (g' : Rw), ixN 11 k = some j ∧ (rwV g).set j (.int n) = rwV g' ∧ Bd g' := by
  unfold Bd at b
  unfold El at hn
  have hk : k = 0 ∨ k = 1 ∨ k = 2 ∨ k = 3 ∨ k = 4 ∨ k = 5 ∨ k = 6 ∨ k = 7 ∨ k = 8 := by omega
  rcases hk with rfl | rfl | rfl | rfl | rfl | rfl | rfl | rfl | rfl
  · refine ⟨0, { g with mss := n }, rfl, rfl, ?_⟩
    unfold Bd
    dsimp only
    omega
  · refine ⟨1, { g with room := n }, rfl, rfl, ?_⟩
    unfold Bd
    dsimp only
    omega
  · refine ⟨2, { g with life := n }, rfl, rfl, ?_⟩
    unfold Bd
    dsimp only
    omega
  · refine ⟨3, { g with pace := n }, rfl, rfl, ?_⟩
    unfold Bd
    dsimp only
    omega
  · refine ⟨4, { g with tries := n }, rfl, rfl, ?_⟩
    unfold Bd
    dsimp only
    omega
  · refine ⟨5, { g with low := n }, rfl, rfl, ?_⟩
    unfold Bd
    dsimp only
    omega
  · refine ⟨6, { g with high := n }, rfl, rfl, ?_⟩
    unfold Bd
    dsimp only
    omega
  · refine ⟨7, { g with ack := n }, rfl, rfl, ?_⟩
    unfold Bd
    dsimp only
    omega
  · refine ⟨8, { g with keep := n }, rfl, rfl, ?_⟩
    unfold Bd
    dsimp only
    omega
theorem ok_law (T : Txt w K mg) : FnOk P w K mg base CX0 7 T.f_law T.d_law ["script"] (sp_law K) := by
  refine T.F_law.ok sc_law (fun vs H Q E h => ?_) (fun cdv A outer s H vs Q E hr h => ?_)
  · obtain ⟨a, ns, rfl, hS, hl, q⟩ := h
    rfl
  · obtain ⟨a, ns, rfl, hS, hl, q⟩ := h
    have hu := hu_of hr
    refine ⟨_, (pss_cons (ps_for PassesOwn.never rfl (pi_range1 (by rfl) T.n_range (pa_cons (pe_callB (call_min2 rfl) (by rfl) T.n_min (by decide +kernel) (pa_cons pe_int (pa_cons (pe_callB (call_max2 rfl) (by rfl) T.n_max (by decide +kernel) (pa_cons pe_int (pa_cons (pe_callB call_len_seq (by rfl) T.n_len (by decide +kernel) (pa_cons (pv 0) pa_nil)) pa_nil))) pa_nil))) pa_nil)) (pg_name (i := 1) sc_law.nd rfl (Or.inl rfl)) (pss_cons (ps_set (i := 2) sc_law.nd rfl (Or.inl rfl) (pe_call (ok_l_start T) (hr.mono (by decide)) rfl T.m_l_start T.F_l_start.kp T.b_l_start .nil pass0 (pa_cons (pe_call (ok_l_cell T) (hr.mono (by decide)) rfl T.m_l_cell T.F_l_cell.kp T.b_l_cell .nil pass0 (pa_cons (pv 0) (pa_cons (pv 1) pa_nil))) (pa_cons (pv 1) pa_nil))))
        (pss_cons (ps_set (i := 3) sc_law.nd rfl (Or.inl rfl) (pe_call (ok_l_good T) (hr.mono (by decide)) rfl T.m_l_good T.F_l_good.kp T.b_l_good .nil pass0 (pa_cons (pv 2) pa_nil)))
        (pss_cons (ps_if (pt_not (pt_val (pe_call (ok_l_short T) (hr.mono (by decide)) rfl T.m_l_short T.F_l_short.kp T.b_l_short .nil pass0 (pa_cons (pv 3) pa_nil)))) (pss_one (ps_ret pe_bl)) pss_nil)
        (pss_cons (ps_set (i := 4) sc_law.nd rfl (Or.inl rfl) (pe_call (ok_l_digit T) (hr.mono (by decide)) rfl T.m_l_digit T.F_l_digit.kp T.b_l_digit .nil pass0 (pa_cons (pv 2) (pa_cons pe_int pa_nil))))
        (C8.pss_cut (ps_if (pt_cmpR op_lt (pv 4) pe_int (nomark _)) (pss_one (ps_asg (pe_ix ix_list (pe_call (ok_l_edges T) (hr.mono (by decide)) rfl T.m_l_edges T.F_l_edges.kp T.b_l_edges .nil pass0 (pa_cons (pv 3) (pa_cons (pv 4) pa_nil))) (pe_call (ok_l_digit T) (hr.mono (by decide)) rfl T.m_l_digit T.F_l_digit.kp T.b_l_digit .nil pass0 (pa_cons (pv 2) (pa_cons pe_int pa_nil))) (fun _ _ => rfl)) (pg_sub (pv 3) (pv 4) set_list))) (pss_one (ps_if (pt_cmpR op_eq (pv 4) pe_int (nomark _)) (pss_one (ps_asg (pe_ix ix_list (pe_call (ok_l_edges T) (hr.mono (by decide)) rfl T.m_l_edges T.F_l_edges.kp T.b_l_edges .nil pass0 (pa_cons (pv 3) (pa_cons pe_int pa_nil))) (pe_call (ok_l_digit T) (hr.mono (by decide)) rfl T.m_l_digit T.F_l_digit.kp T.b_l_digit .nil pass0 (pa_cons (pv 2) (pa_cons pe_int pa_nil))) (fun _ _ => rfl)) (pg_sub (pv 3) pe_int set_list))) pss_nil)))
        (pss_cons (ps_set (i := 5) sc_law.nd rfl (Or.inl rfl) (pe_call (ok_l_told T) (hr.mono (by decide)) rfl T.m_l_told T.F_l_told.kp T.b_l_told .nil pass0 (pa_cons (pv 3) pa_nil)))
        (pss_one (ps_if (pt_not (pt_val (pe_call (ok_l_fits T) (hr.mono (by decide)) rfl T.m_l_fits T.F_l_fits.kp T.b_l_fits .nil pass0 (pa_cons (pv 3) pa_nil)))) (pss_one (ps_if (pt_cmpR (op_neD hr.units) (pv 5) (pe_tup (pa_cons pe_str (pa_cons pe_bl pa_nil))) (nomark _)) (pss_one (ps_ret pe_bl)) pss_nil)) (pss_one (ps_if (PW.pt (pw_or (pt_not (pt_val (pe_call (ok_l_right T) (hr.mono (by decide)) rfl T.m_l_right T.F_l_right.kp T.b_l_right .nil pass0 (pa_cons (pv 5) (pa_cons (pv 3) pa_nil))))) (pw_or1 (pt_not (pt_val (pe_call (ok_l_equal T) (hr.mono (by decide)) rfl T.m_l_equal T.F_l_equal.kp T.b_l_equal .nil pass0 (pa_cons (pv 5) (pa_cons (pv 3) pa_nil)))))))) (pss_one (ps_ret pe_bl)) pss_nil)))))))))))
        (pss_one (ps_ret pe_bl))), ?_⟩
    dsimp only [cxOf, Cx.nox, Cx.wish, L2.start, List.map, List.cons_append, List.nil_append, List.length_cons, List.length_nil, Nat.reduceAdd, Nat.reduceSub, Nat.zero_add, List.replicate_succ, List.replicate_zero]
    obtain ⟨N, eN, hN⟩ : ∃ N : Nat, (if (if (ns.length : Int) > 2 then (ns.length : Int) else 2) < 12 then (if (ns.length : Int) > 2 then (ns.length : Int) else 2) else 12) = (N : Int) ∧ N ≤ 12 := by
      refine ⟨(if (if (ns.length : Int) > 2 then (ns.length : Int) else 2) < 12 then (if (ns.length : Int) > 2 then (ns.length : Int) else 2) else 12).toNat, ?_, ?_⟩ <;> (split <;> split <;> omega)
    walk_at "go"
    refine for_r (n := (N : Int)) N (Int.toNat_natCast _) (by omega) (by omega) (fun i σ H' => Same H H' ∧ ∃ v1 v2 v3 v4 v5, σ = [some (.ref a), v1, v2, v3, v4, v5]) ?start ?turn ?done ?ev
    case start => exact ⟨Same.refl _, _, _, _, _, _, rfl⟩
    case ev =>
      intro R rr
      walk_at "go"
      refine g_len (.inl hS) ?_
      walk_at "go"
      rw [List.length_map]
      rw [eN]
      exact rr
    case done =>
      rintro σ' H' ⟨s0, v1, v2, v3, v4, v5, rfl⟩
      walk_at "go"
      exact q _
    case turn =>
      rintro i σ' H' hi ⟨s0, v1, v2, v3, v4, v5, rfl⟩
      have hS' := s0.seq hS
      walk_at "go"
      refine u_start fun p n hp => ?_
      generalize z1 : upd H' p _ = H1
      have s1 : Same H' H1 := by rw [← z1]; exact same_upd hp
      have k1 : H1 p = some (.lst [.int n]) := (congrFun z1 p).symm.trans upd_same
      clear z1
      walk_at "go"
      refine ⟨p, n, rfl, k1, fun r g n2 H2 nr b2 e2 gd k2 => ?_⟩
      have npr : p ≠ r := ne_of_none k1 nr
      walk_at "go"
      refine ⟨r, g, rfl, e2, gd.1, gd.2, fun H3 s3 => ?_⟩
      have k3 := s3 _ _ k2
      have e3 := s3 _ _ e2
      have nr' : H' r = none := s1.free nr
      have S3 : Same H' H3 := ((But.of s1).trans (b2.trans (But.of s3))).same hp
      clear b2 s3 e2 k2
      walk_at "go"
      refine u_dig k3 (by omega) (by omega) fun d n4 H4 d0 d1 b4 k4 => ?_
      have e4 := b4 _ _ npr.symm e3
      walk_at "go"
      refine g_cut (fun σ' H5 => (∃ n5 v5, H5 p = some (.lst [.int n5]) ∧ σ' = [some (.ref a), some (.int (i : Int)), some (.ref p), some (.ref r), some (.int d), v5]) ∧ Same H' H5 ∧ ∃ g', H5 r = some (.lst (rwV g')) ∧ Bd g') ?_ ?_
      · walk_at "go"
        refine g_ite (fun c => ?_) (fun c => ?_)
        · walk_at "go"
          refine ⟨r, g, d, rfl, e4, gd, .inl ⟨d0, c, fun l H5 x1 x2 x3 x4 hl5 s5 e5 hel => ?_⟩⟩
          walk_at "go"
          refine u_dig (s5 _ _ k4) (by omega) (by omega) fun d6 n6 H6 a6 c6 b6 k6 => ?_
          have npl : l ≠ p := fun z => by rw [z, k4] at hl5; cases hl5
          obtain ⟨x, ex, mx⟩ := pick4 (f := V.int) a6 c6
          walk_at "go"
          refine g_ixL (sl (b6 _ _ npl e5)) ex ?_
          have hx : El x := by
            simp only [List.mem_cons, List.not_mem_nil, or_false] at mx
            rcases mx with rfl | rfl | rfl | rfl
            · exact hel.1
            · exact hel.2.1
            · exact hel.2.2.1
            · exact hel.2.2.2
          obtain ⟨j, g', ej, eg, bg⟩ := put9 d0 c hx gd.2
          walk_at "go"
          refine st_row (b6 _ _ npr.symm (s5 _ _ e4)) ej eg ?_
          walk_at "go"
          refine ⟨⟨n6, _, ?_, rfl⟩, ?_, g', upd_same, bg⟩
          · rw [upd_ne npr]
            exact k6
          · exact But.tr2 (But.tr2 ((But.tr2 S3 hp b4).trans s5) hp b6) nr' But.refl.upd
        · walk_at "go"
          refine g_ite (fun c9 => ?_) (fun c9 => ?_)
          · walk_at "go"
            refine ⟨r, g, 9, rfl, e4, gd, .inr ⟨rfl, fun l H5 hl5 s5 e5 => ?_⟩⟩
            walk_at "go"
            refine u_dig (s5 _ _ k4) (by omega) (by omega) fun d6 n6 H6 a6 c6 b6 k6 => ?_
            have npl : l ≠ p := fun z => by rw [z, k4] at hl5; cases hl5
            obtain ⟨x, ex, mx⟩ := pick4 (f := V.str) a6 c6
            walk_at "go"
            refine g_ixL (sl (b6 _ _ npl e5)) ex ?_
            walk_at "go"
            refine st_row (g' := { g with ctl := x }) (j := 10) (b6 _ _ npr.symm (s5 _ _ e4)) rfl rfl ?_
            walk_at "go"
            refine ⟨⟨n6, _, ?_, rfl⟩, ?_, _, upd_same, gd.2⟩
            · rw [upd_ne npr]
              exact k6
            · exact But.tr2 (But.tr2 ((But.tr2 S3 hp b4).trans s5) hp b6) nr' But.refl.upd
          · walk_at "go"
            exact ⟨⟨n4, _, k4, rfl⟩, But.tr2 S3 hp b4, g, e4, gd.2⟩
      · rintro σ' H5 ⟨⟨n5, v5, k5, rfl⟩, s5, g', e5, bd⟩
        walk_at "go"
        refine ⟨r, g', rfl, e5, bd, fun f p6 H6 np6 s6 o6 => ?_, fun f t6 H6 nt6 s6 e6 => ?_⟩
        · have e6 := s6 _ _ e5
          walk_at "go"
          refine ⟨r, g', rfl, e6, bd, fun f' => ?_, fun nf => absurd f nf⟩
          walk_at "go"
          refine ⟨p6, r, g', rfl, o6, e6, ⟨f, bd⟩, fun H7 s7 => ?_⟩
          walk_at "go"
          refine ⟨p6, r, g', rfl, o6.same s7, s7 _ _ e6, f, bd, fun H8 s8 => ?_⟩
          walk_at "go"
          exact ⟨s0.trans (((s5.trans s6).trans s7).trans s8), _, _, _, _, _, rfl⟩
        · have e7 := s6 _ _ e5
          walk_at "go"
          refine ⟨r, g', rfl, e7, bd, fun f' => absurd f' f, fun nf => ?_⟩
          walk_at "go"
          refine ⟨by show 2 ≤ sizeLine; decide, fun t7 ht7 => ?_⟩
          have wr := w_ok "refused" (by simp)
          have sh : SeqAt.shaped (.tuple [.str "refused", .bool true]) = true := sh_of (by
            show (PyData.canLay0 (.str "refused") && (true && true)) = true
            rw [wr]
            rfl) (by show max 0 (max 0 0) + 1 ≤ 64; decide)
          refine ⟨.tuple [.str "refused", .bool true], .tuple [.str "refused", .bool true], .tup (st ((same_upd ht7) _ _ e6)) (.cons (.str _) (.cons (.bl _) .nil)), .tup (st upd_same) (.cons (.str _) (.cons (.bl _) .nil)), sh, sh, ?_⟩
          rw [show PyData.eqv (.tuple [.str "refused", .bool true]) (.tuple [.str "refused", .bool true]) = true from by
            show (("refused" : Str) == "refused" && ((true == true) && true)) = true
            simp]
          walk_at "go"
          exact ⟨s0.trans ((s5.trans s6).trans (same_upd ht7)), _, _, _, _, _, rfl⟩
end
end My
namespace My
open PySem PySem.Spec L2
local macro_rules | `(tactic| walk_at "side") => `(tactic| first | assumption | decide | omega | exact ⟨by decide, by decide⟩ | exact ⟨by decide, by decide, by decide⟩ | decide +kernel | exact cdivW (by decide +kernel) (by decide +kernel) | exact Or.inl ⟨by omega, by omega⟩ | exact Or.inr ⟨by omega, by omega⟩ | (simp only [List.length_map, List.length_cons, List.length_nil, List.length_append]; omega))
local macro_rules | `(tactic| walk_at "fact") => `(tactic| first | assumption | omega | with_reducible rfl)
local macro_rules | `(tactic| walk_at "use") => `(tactic| fail "use")
local macro_rules | `(tactic| walk_at "go1") => `(tactic| with_reducible first | refine g_seq ?_ | refine g_asg ?_ | refine g_ret ?_ | refine g_ifS ?_ | refine g_drop ?_ | refine g_star ?_ | refine g_nx ?_ | refine g_rt ?_ | refine g_bkE ?_ | refine g_ctE ?_ | refine g_next ?_ | refine g_retN ?_ | refine g_brk ?_ | refine g_ct ?_ | refine g_c ?_ | refine g_op ?_ | refine g_un ?_ | refine g_rI0 ?_ | refine g_rU ?_ | refine g_rEqI ?_ | refine g_rNeI ?_ | refine g_isN ?_ | refine g_rIsB ?_ | refine g_rNotB ?_ | refine g_test ?_ | refine g_B ?_ | refine g_bl ?_ | refine g_and ?_ | refine g_or ?_ | refine g_not ?_ | refine g_andV ?_ | refine g_orV ?_ | refine g_notV ?_ | refine g_if ?_ | refine g_chain ?_ | refine g_yes ?_ | refine g_lc ?_ | refine g_revR ?_ | refine g_rng1 ?_ | refine g_iList ?_ | refine g_nil ?_ | refine g_cons ?_ | refine g_tup ?_ | refine g_lst ?_ | refine g_call ?_ | refine g_CB ?_ | refine g_sl ?_ | refine g_noPart ?_ | refine g_part ?_ | refine g_intE ?_ | refine g_ref ?_ | refine g_fld ?_ | refine g_sfld ?_ | refine g_meth ?_ | refine g_make ?_ | refine g_prop ?_  | refine g_ipI ?_ | refine g_int1 ?_ | refine g_int1B ?_ | refine g_one ?_ | refine g_two ?_ | refine g_isiI ?_ | refine g_isiIB ?_ | refine g_isiB ?_ | refine g_BM ?_ | refine g_BM0 ?_ | refine g_sub ?_)
local macro_rules | `(tactic| walk_at "go") => `(tactic| repeat (first | walk_at "go1" | ((with_reducible refine' g_nameE ?sd_ ?_); case sd_ => dsimp only [List.set_cons_succ, List.set_cons_zero]) | ((with_reducible refine' g_var ?sd_ ?_); case sd_ => exact rfl) | ((with_reducible refine' g_aug ?sd_ ?_); case sd_ => exact rfl) | ((with_reducible refine' g_rI ?sd_ ?_); case sd_ => walk_at "side") | ((with_reducible refine' g_dT ?sd_ ?_); case sd_ => walk_at "fact") | ((with_reducible refine' g_dF ?sd_ ?_); case sd_ => walk_at "fact") | ((with_reducible refine' g_nT ?sd_ ?_); case sd_ => walk_at "fact") | ((with_reducible refine' g_nF ?sd_ ?_); case sd_ => walk_at "fact") | (with_reducible refine g_iT rfl ?_) | (with_reducible refine g_iF rfl ?_) | walk_at "use"))
theorem all_mk {l : PySem.W.OpenLaw} {w : World} {K : PySem.W.Frag} {h : Heap} {mg : Str → Option Value} {fa : Addr} (X : K.In h) (G : h.Ns mainGlobals mg) (hfa : mg "law" = some (.ref fa))
    {t_MOST_TICKS : Tok} {t_MOST_UNDER_WAY : Tok} {t_GREATEST_WINDOW : Tok} {C_ThroughlineError : Addr} {C_InvalidOptions : Addr} {C_InvalidPort : Addr} {C_Options : Addr} {f_Options_init__ : Addr} {od_Options_init__ an_Options_init__ : Option Addr} {sl_Options_init__ : Array (Option Value)} {oc_Options_init__ dc_Options_init__ pm_Options_init__ cd_Options_init__ ct_Options_init__ : Value} {kd_Options_init__ : Addr} {tk_Options_init___ack_delay : Tok} {tk_Options_init___keep_alive : Tok} {tk_Options_init___control : Tok} {f_Options_patience : Addr} {od_Options_patience an_Options_patience : Option Addr} {sl_Options_patience : Array (Option Value)} {oc_Options_patience kV_Options_patience dc_Options_patience pm_Options_patience cd_Options_patience ct_Options_patience : Value} {p0_Options_patience : Addr} {pr_Options_patience : List Value} {f_Options_shift : Addr} {od_Options_shift an_Options_shift : Option Addr} {sl_Options_shift : Array (Option Value)} {oc_Options_shift kV_Options_shift dc_Options_shift pm_Options_shift cd_Options_shift ct_Options_shift : Value} {p0_Options_shift : Addr} {pr_Options_shift : List Value} {f_Options_resting : Addr} {od_Options_resting an_Options_resting : Option Addr} {sl_Options_resting : Array (Option Value)} {oc_Options_resting kV_Options_resting dc_Options_resting pm_Options_resting cd_Options_resting ct_Options_resting : Value} {p0_Options_resting : Addr} {pr_Options_resting : List Value} {f_Options_eq__ : Addr} {od_Options_eq__ an_Options_eq__ : Option Addr} {sl_Options_eq__ : Array (Option Value)} {oc_Options_eq__ kV_Options_eq__ dc_Options_eq__ pm_Options_eq__ cd_Options_eq__ ct_Options_eq__ : Value} {f_Options_fields : Addr} {od_Options_fields an_Options_fields : Option Addr} {sl_Options_fields : Array (Option Value)} {oc_Options_fields kV_Options_fields dc_Options_fields pm_Options_fields cd_Options_fields ct_Options_fields : Value} {f_Options_wrong_names : Addr} {od_Options_wrong_names an_Options_wrong_names : Option Addr} {sl_Options_wrong_names : Array (Option Value)} {oc_Options_wrong_names kV_Options_wrong_names dc_Options_wrong_names pm_Options_wrong_names cd_Options_wrong_names ct_Options_wrong_names : Value} {f_l_cell : Addr} {od_l_cell an_l_cell : Option Addr} {sl_l_cell : Array (Option Value)} {oc_l_cell kV_l_cell dc_l_cell pm_l_cell cd_l_cell ct_l_cell : Value} {f_l_is_integer : Addr} {od_l_is_integer an_l_is_integer : Option Addr} {sl_l_is_integer : Array (Option Value)} {oc_l_is_integer kV_l_is_integer dc_l_is_integer pm_l_is_integer cd_l_is_integer ct_l_is_integer : Value} {f_l_start : Addr} {od_l_start an_l_start : Option Addr} {sl_l_start : Array (Option Value)} {oc_l_start kV_l_start dc_l_start pm_l_start cd_l_start ct_l_start : Value} {f_l_digit : Addr} {od_l_digit an_l_digit : Option Addr} {sl_l_digit : Array (Option Value)} {oc_l_digit kV_l_digit dc_l_digit pm_l_digit cd_l_digit ct_l_digit : Value} {f_l_good : Addr} {od_l_good an_l_good : Option Addr} {sl_l_good : Array (Option Value)} {oc_l_good kV_l_good dc_l_good pm_l_good cd_l_good ct_l_good : Value} {f_l_edges : Addr} {od_l_edges an_l_edges : Option Addr} {sl_l_edges : Array (Option Value)} {oc_l_edges kV_l_edges dc_l_edges pm_l_edges cd_l_edges ct_l_edges : Value} {f_l_fits : Addr} {od_l_fits an_l_fits : Option Addr} {sl_l_fits : Array (Option Value)} {oc_l_fits kV_l_fits dc_l_fits pm_l_fits cd_l_fits ct_l_fits : Value} {f_l_made : Addr} {od_l_made an_l_made : Option Addr} {sl_l_made : Array (Option Value)} {oc_l_made kV_l_made dc_l_made pm_l_made cd_l_made ct_l_made : Value} {f_l_told : Addr} {od_l_told an_l_told : Option Addr} {sl_l_told : Array (Option Value)} {oc_l_told kV_l_told dc_l_told pm_l_told cd_l_told ct_l_told : Value} {f_l_fields : Addr} {od_l_fields an_l_fields : Option Addr} {sl_l_fields : Array (Option Value)} {oc_l_fields kV_l_fields dc_l_fields pm_l_fields cd_l_fields ct_l_fields : Value} {f_l_shift : Addr} {od_l_shift an_l_shift : Option Addr} {sl_l_shift : Array (Option Value)} {oc_l_shift kV_l_shift dc_l_shift pm_l_shift cd_l_shift ct_l_shift : Value} {f_l_right : Addr} {od_l_right an_l_right : Option Addr} {sl_l_right : Array (Option Value)} {oc_l_right kV_l_right dc_l_right pm_l_right cd_l_right ct_l_right : Value} {f_l_other : Addr} {od_l_other an_l_other : Option Addr} {sl_l_other : Array (Option Value)} {oc_l_other kV_l_other dc_l_other pm_l_other cd_l_other ct_l_other : Value} {f_l_equal : Addr} {od_l_equal an_l_equal : Option Addr} {sl_l_equal : Array (Option Value)} {oc_l_equal kV_l_equal dc_l_equal pm_l_equal cd_l_equal ct_l_equal : Value} {f_l_short : Addr} {od_l_short an_l_short : Option Addr} {sl_l_short : Array (Option Value)} {oc_l_short kV_l_short dc_l_short pm_l_short cd_l_short ct_l_short : Value} {f_law : Addr} {od_law an_law : Option Addr} {sl_law : Array (Option Value)} {oc_law kV_law dc_law pm_law cd_law ct_law : Value}
    (v_MOST_TICKS : PySem.W.nsIn K mainGlobals "MOST_TICKS" = some (some (.int 1073741824 t_MOST_TICKS)))
    (v_MOST_UNDER_WAY : PySem.W.nsIn K mainGlobals "MOST_UNDER_WAY" = some (some (.int 1073741824 t_MOST_UNDER_WAY)))
    (v_GREATEST_WINDOW : PySem.W.nsIn K mainGlobals "GREATEST_WINDOW" = some (some (.int 65535 t_GREATEST_WINDOW)))
    (c_ThroughlineError : PySem.W.nsIn K mainGlobals "ThroughlineError" = some (some (.ref C_ThroughlineError)))
    (be_ThroughlineError : PySem.W.subIn K (.ref C_ThroughlineError) (.type "BaseException") = some true)
    (te_ThroughlineError : PySem.W.typeIn K (.ref C_ThroughlineError) = some (.type "type"))
    (hd_ThroughlineError : PySem.W.hasDictIn K C_ThroughlineError = true)
    (ic_ThroughlineError : PySem.W.isClsIn K C_ThroughlineError = true)
    (c_InvalidOptions : PySem.W.nsIn K mainGlobals "InvalidOptions" = some (some (.ref C_InvalidOptions)))
    (be_InvalidOptions : PySem.W.subIn K (.ref C_InvalidOptions) (.type "BaseException") = some true)
    (te_InvalidOptions : PySem.W.typeIn K (.ref C_InvalidOptions) = some (.type "type"))
    (hd_InvalidOptions : PySem.W.hasDictIn K C_InvalidOptions = true)
    (ic_InvalidOptions : PySem.W.isClsIn K C_InvalidOptions = true)
    (c_InvalidPort : PySem.W.nsIn K mainGlobals "InvalidPort" = some (some (.ref C_InvalidPort)))
    (be_InvalidPort : PySem.W.subIn K (.ref C_InvalidPort) (.type "BaseException") = some true)
    (te_InvalidPort : PySem.W.typeIn K (.ref C_InvalidPort) = some (.type "type"))
    (hd_InvalidPort : PySem.W.hasDictIn K C_InvalidPort = true)
    (ic_InvalidPort : PySem.W.isClsIn K C_InvalidPort = true)
    (xP_InvalidOptions : PySem.W.excIn K C_InvalidOptions [.type "ValueError", .type "Exception", .type "BaseException", .type "object"] "ValueError.__new__" = true)
    (ke_InvalidOptions : PySem.W.keepIn K (.ref C_InvalidOptions) = true)
    (xg_InvalidOptions : PySem.W.findIn K (.ref C_InvalidOptions) "__getattribute__" = some (some (.builtin "BaseException.__getattribute__")))
    (xk_InvalidOptions : PySem.W.findIn K (.ref C_InvalidOptions) "__getattr__" = some none)
    (xa_InvalidOptions : PySem.W.findIn K (.ref C_InvalidOptions) "__class__" = some (some (.builtin "object.__class__")))
    (xm_InvalidOptions : PySem.W.mroIn K C_InvalidOptions (.type "object") = some true)
    (hn_all : PySem.W.specialIn K (.builtin "object.__class__") "__get__" = some (some (.builtin "getset_descriptor.__get__")))
    (ht_all : PySem.W.takesIn K (.builtin "object.__class__") = some true)
    (su_InvalidOptions_InvalidOptions : PySem.W.subIn K (.ref C_InvalidOptions) (.ref C_InvalidOptions) = some true)
    (su_InvalidOptions_ThroughlineError : PySem.W.subIn K (.ref C_InvalidOptions) (.ref C_ThroughlineError) = some true)
    (su_InvalidOptions_InvalidPort : PySem.W.subIn K (.ref C_InvalidOptions) (.ref C_InvalidPort) = some false)
    (sr_InvalidOptions : PySem.W.subIn K (.ref C_InvalidOptions) (.ref C_InvalidOptions) = some true)
    (c_Options : PySem.W.nsIn K mainGlobals "Options" = some (some (.ref C_Options)))
    (pg_Options : PySem.W.plainGet K C_Options Str.empty = true)
    (hd_Options : PySem.W.hasDictIn K C_Options = true)
    (po_Options : PySem.W.plainOver K C_Options = true)
    (sa_Options : PySem.W.findIn K (.ref C_Options) "__setattr__" = some (some (.builtin "object.__setattr__")))
    (mk0_Options : PySem.W.makesIn K C_Options = true)
    (kc_Options : PySem.W.keepIn K (.ref C_Options) = true)
    (ha_Options : PySem.W.findIn K (.ref C_Options) "__class__" = some (some (.builtin "object.__class__")))
    (hm_Options : PySem.W.mroIn K C_Options (.type "object") = some true)
    (q_Options : PySem.W.subIn K (.type "int") (.ref C_Options) = some false)
    (ic_Options : PySem.W.isClsIn K C_Options = true)
    (tc_Options : PySem.W.typeIn K (.ref C_Options) = some (.type "type"))
    (n_Options_mss : PySem.W.findIn K (.ref C_Options) "mss" = some none)
    (n_Options_room : PySem.W.findIn K (.ref C_Options) "room" = some none)
    (n_Options_life : PySem.W.findIn K (.ref C_Options) "life" = some none)
    (n_Options_pace : PySem.W.findIn K (.ref C_Options) "pace" = some none)
    (n_Options_tries : PySem.W.findIn K (.ref C_Options) "tries" = some none)
    (n_Options_min_rto : PySem.W.findIn K (.ref C_Options) "min_rto" = some none)
    (n_Options_max_rto : PySem.W.findIn K (.ref C_Options) "max_rto" = some none)
    (n_Options_ack_delay : PySem.W.findIn K (.ref C_Options) "ack_delay" = some none)
    (n_Options_keep_alive : PySem.W.findIn K (.ref C_Options) "keep_alive" = some none)
    (n_Options_nagle : PySem.W.findIn K (.ref C_Options) "nagle" = some none)
    (n_Options_control : PySem.W.findIn K (.ref C_Options) "control" = some none)
    (a_Options_init__ : PySem.W.findIn K (.ref C_Options) "__init__" = some (some (.ref f_Options_init__)))
    (i_Options_init__ : PySem.W.isFn K (.ref f_Options_init__) = true)
    (l_Options_init__ : K.lookup f_Options_init__ = some ⟨oc_Options_init__, od_Options_init__, .func (PySem.W.fnOf "__init__" "Options.__init__" (defArgs s_Options_init__) (defBody s_Options_init__) (defScope s_Options_init__) .none (.ref kd_Options_init__) dc_Options_init__ pm_Options_init__ an_Options_init__ cd_Options_init__ ct_Options_init__), sl_Options_init__⟩)
    (kw_Options_init___ack_delay : PySem.W.nsIn K kd_Options_init__ "ack_delay" = some (some (.int 0 tk_Options_init___ack_delay)))
    (kw_Options_init___keep_alive : PySem.W.nsIn K kd_Options_init__ "keep_alive" = some (some (.int 0 tk_Options_init___keep_alive)))
    (kw_Options_init___nagle : PySem.W.nsIn K kd_Options_init__ "nagle" = some (some (.bool false)))
    (kw_Options_init___control : PySem.W.nsIn K kd_Options_init__ "control" = some (some (.str (PySem.Str.ofString "reno") tk_Options_init___control)))
    (cc_Options_init__ : PySem.W.codeIn K cd_Options_init__ "Options.__init__" = true)
    (kk_Options_init__ : PySem.W.keepIn K (.ref f_Options_init__) = true)
    (a_Options_patience : PySem.W.findIn K (.ref C_Options) "patience" = some (some (.ref p0_Options_patience)))
    (pget_Options_patience : PySem.W.specialIn K (.ref p0_Options_patience) "__get__" = some (some (.builtin "property.__get__")))
    (ptak_Options_patience : PySem.W.takesIn K (.ref p0_Options_patience) = some true)
    (prec_Options_patience : PySem.W.recIn K p0_Options_patience "property" = some (.ref f_Options_patience :: pr_Options_patience))
    (l_Options_patience : K.lookup f_Options_patience = some ⟨oc_Options_patience, od_Options_patience, .func (PySem.W.fnOf "patience" "Options.patience" (defArgs s_Options_patience) (defBody s_Options_patience) (defScope s_Options_patience) .none kV_Options_patience dc_Options_patience pm_Options_patience an_Options_patience cd_Options_patience ct_Options_patience), sl_Options_patience⟩)
    (cc_Options_patience : PySem.W.codeIn K cd_Options_patience "Options.patience" = true)
    (kk_Options_patience : PySem.W.keepIn K (.ref f_Options_patience) = true)
    (a_Options_shift : PySem.W.findIn K (.ref C_Options) "shift" = some (some (.ref p0_Options_shift)))
    (pget_Options_shift : PySem.W.specialIn K (.ref p0_Options_shift) "__get__" = some (some (.builtin "property.__get__")))
    (ptak_Options_shift : PySem.W.takesIn K (.ref p0_Options_shift) = some true)
    (prec_Options_shift : PySem.W.recIn K p0_Options_shift "property" = some (.ref f_Options_shift :: pr_Options_shift))
    (l_Options_shift : K.lookup f_Options_shift = some ⟨oc_Options_shift, od_Options_shift, .func (PySem.W.fnOf "shift" "Options.shift" (defArgs s_Options_shift) (defBody s_Options_shift) (defScope s_Options_shift) .none kV_Options_shift dc_Options_shift pm_Options_shift an_Options_shift cd_Options_shift ct_Options_shift), sl_Options_shift⟩)
    (cc_Options_shift : PySem.W.codeIn K cd_Options_shift "Options.shift" = true)
    (kk_Options_shift : PySem.W.keepIn K (.ref f_Options_shift) = true)
    (a_Options_resting : PySem.W.findIn K (.ref C_Options) "resting" = some (some (.ref p0_Options_resting)))
    (pget_Options_resting : PySem.W.specialIn K (.ref p0_Options_resting) "__get__" = some (some (.builtin "property.__get__")))
    (ptak_Options_resting : PySem.W.takesIn K (.ref p0_Options_resting) = some true)
    (prec_Options_resting : PySem.W.recIn K p0_Options_resting "property" = some (.ref f_Options_resting :: pr_Options_resting))
    (l_Options_resting : K.lookup f_Options_resting = some ⟨oc_Options_resting, od_Options_resting, .func (PySem.W.fnOf "resting" "Options.resting" (defArgs s_Options_resting) (defBody s_Options_resting) (defScope s_Options_resting) .none kV_Options_resting dc_Options_resting pm_Options_resting an_Options_resting cd_Options_resting ct_Options_resting), sl_Options_resting⟩)
    (cc_Options_resting : PySem.W.codeIn K cd_Options_resting "Options.resting" = true)
    (kk_Options_resting : PySem.W.keepIn K (.ref f_Options_resting) = true)
    (a_Options_eq__ : PySem.W.findIn K (.ref C_Options) "__eq__" = some (some (.ref f_Options_eq__)))
    (i_Options_eq__ : PySem.W.isFn K (.ref f_Options_eq__) = true)
    (l_Options_eq__ : K.lookup f_Options_eq__ = some ⟨oc_Options_eq__, od_Options_eq__, .func (PySem.W.fnOf "__eq__" "Options.__eq__" (defArgs s_Options_eq__) (defBody s_Options_eq__) (defScope s_Options_eq__) .none kV_Options_eq__ dc_Options_eq__ pm_Options_eq__ an_Options_eq__ cd_Options_eq__ ct_Options_eq__), sl_Options_eq__⟩)
    (cc_Options_eq__ : PySem.W.codeIn K cd_Options_eq__ "Options.__eq__" = true)
    (kk_Options_eq__ : PySem.W.keepIn K (.ref f_Options_eq__) = true)
    (a_Options_fields : PySem.W.findIn K (.ref C_Options) "_fields" = some (some (.ref f_Options_fields)))
    (i_Options_fields : PySem.W.isFn K (.ref f_Options_fields) = true)
    (l_Options_fields : K.lookup f_Options_fields = some ⟨oc_Options_fields, od_Options_fields, .func (PySem.W.fnOf "_fields" "Options._fields" (defArgs s_Options_fields) (defBody s_Options_fields) (defScope s_Options_fields) .none kV_Options_fields dc_Options_fields pm_Options_fields an_Options_fields cd_Options_fields ct_Options_fields), sl_Options_fields⟩)
    (cc_Options_fields : PySem.W.codeIn K cd_Options_fields "Options._fields" = true)
    (kk_Options_fields : PySem.W.keepIn K (.ref f_Options_fields) = true)
    (a_Options_wrong_names : PySem.W.findIn K (.ref C_Options) "_wrong_names" = some (some (.ref f_Options_wrong_names)))
    (i_Options_wrong_names : PySem.W.isFn K (.ref f_Options_wrong_names) = true)
    (l_Options_wrong_names : K.lookup f_Options_wrong_names = some ⟨oc_Options_wrong_names, od_Options_wrong_names, .func (PySem.W.fnOf "_wrong_names" "Options._wrong_names" (defArgs s_Options_wrong_names) (defBody s_Options_wrong_names) (defScope s_Options_wrong_names) .none kV_Options_wrong_names dc_Options_wrong_names pm_Options_wrong_names an_Options_wrong_names cd_Options_wrong_names ct_Options_wrong_names), sl_Options_wrong_names⟩)
    (cc_Options_wrong_names : PySem.W.codeIn K cd_Options_wrong_names "Options._wrong_names" = true)
    (kk_Options_wrong_names : PySem.W.keepIn K (.ref f_Options_wrong_names) = true)
    (a_l_cell : PySem.W.nsIn K mainGlobals "_law_cell" = some (some (.ref f_l_cell)))
    (l_l_cell : K.lookup f_l_cell = some ⟨oc_l_cell, od_l_cell, .func (PySem.W.fnOf "_law_cell" "_law_cell" (defArgs s_l_cell) (defBody s_l_cell) (defScope s_l_cell) .none kV_l_cell dc_l_cell pm_l_cell an_l_cell cd_l_cell ct_l_cell), sl_l_cell⟩)
    (cc_l_cell : PySem.W.codeIn K cd_l_cell "_law_cell" = true)
    (kk_l_cell : PySem.W.keepIn K (.ref f_l_cell) = true)
    (a_l_is_integer : PySem.W.nsIn K mainGlobals "_law_is_integer" = some (some (.ref f_l_is_integer)))
    (l_l_is_integer : K.lookup f_l_is_integer = some ⟨oc_l_is_integer, od_l_is_integer, .func (PySem.W.fnOf "_law_is_integer" "_law_is_integer" (defArgs s_l_is_integer) (defBody s_l_is_integer) (defScope s_l_is_integer) .none kV_l_is_integer dc_l_is_integer pm_l_is_integer an_l_is_integer cd_l_is_integer ct_l_is_integer), sl_l_is_integer⟩)
    (cc_l_is_integer : PySem.W.codeIn K cd_l_is_integer "_law_is_integer" = true)
    (kk_l_is_integer : PySem.W.keepIn K (.ref f_l_is_integer) = true)
    (a_l_start : PySem.W.nsIn K mainGlobals "_law_start" = some (some (.ref f_l_start)))
    (l_l_start : K.lookup f_l_start = some ⟨oc_l_start, od_l_start, .func (PySem.W.fnOf "_law_start" "_law_start" (defArgs s_l_start) (defBody s_l_start) (defScope s_l_start) .none kV_l_start dc_l_start pm_l_start an_l_start cd_l_start ct_l_start), sl_l_start⟩)
    (cc_l_start : PySem.W.codeIn K cd_l_start "_law_start" = true)
    (kk_l_start : PySem.W.keepIn K (.ref f_l_start) = true)
    (a_l_digit : PySem.W.nsIn K mainGlobals "_law_digit" = some (some (.ref f_l_digit)))
    (l_l_digit : K.lookup f_l_digit = some ⟨oc_l_digit, od_l_digit, .func (PySem.W.fnOf "_law_digit" "_law_digit" (defArgs s_l_digit) (defBody s_l_digit) (defScope s_l_digit) .none kV_l_digit dc_l_digit pm_l_digit an_l_digit cd_l_digit ct_l_digit), sl_l_digit⟩)
    (cc_l_digit : PySem.W.codeIn K cd_l_digit "_law_digit" = true)
    (kk_l_digit : PySem.W.keepIn K (.ref f_l_digit) = true)
    (a_l_good : PySem.W.nsIn K mainGlobals "_law_good" = some (some (.ref f_l_good)))
    (l_l_good : K.lookup f_l_good = some ⟨oc_l_good, od_l_good, .func (PySem.W.fnOf "_law_good" "_law_good" (defArgs s_l_good) (defBody s_l_good) (defScope s_l_good) .none kV_l_good dc_l_good pm_l_good an_l_good cd_l_good ct_l_good), sl_l_good⟩)
    (cc_l_good : PySem.W.codeIn K cd_l_good "_law_good" = true)
    (kk_l_good : PySem.W.keepIn K (.ref f_l_good) = true)
    (a_l_edges : PySem.W.nsIn K mainGlobals "_law_edges" = some (some (.ref f_l_edges)))
    (l_l_edges : K.lookup f_l_edges = some ⟨oc_l_edges, od_l_edges, .func (PySem.W.fnOf "_law_edges" "_law_edges" (defArgs s_l_edges) (defBody s_l_edges) (defScope s_l_edges) .none kV_l_edges dc_l_edges pm_l_edges an_l_edges cd_l_edges ct_l_edges), sl_l_edges⟩)
    (cc_l_edges : PySem.W.codeIn K cd_l_edges "_law_edges" = true)
    (kk_l_edges : PySem.W.keepIn K (.ref f_l_edges) = true)
    (a_l_fits : PySem.W.nsIn K mainGlobals "_law_fits" = some (some (.ref f_l_fits)))
    (l_l_fits : K.lookup f_l_fits = some ⟨oc_l_fits, od_l_fits, .func (PySem.W.fnOf "_law_fits" "_law_fits" (defArgs s_l_fits) (defBody s_l_fits) (defScope s_l_fits) .none kV_l_fits dc_l_fits pm_l_fits an_l_fits cd_l_fits ct_l_fits), sl_l_fits⟩)
    (cc_l_fits : PySem.W.codeIn K cd_l_fits "_law_fits" = true)
    (kk_l_fits : PySem.W.keepIn K (.ref f_l_fits) = true)
    (a_l_made : PySem.W.nsIn K mainGlobals "_law_made" = some (some (.ref f_l_made)))
    (l_l_made : K.lookup f_l_made = some ⟨oc_l_made, od_l_made, .func (PySem.W.fnOf "_law_made" "_law_made" (defArgs s_l_made) (defBody s_l_made) (defScope s_l_made) .none kV_l_made dc_l_made pm_l_made an_l_made cd_l_made ct_l_made), sl_l_made⟩)
    (cc_l_made : PySem.W.codeIn K cd_l_made "_law_made" = true)
    (kk_l_made : PySem.W.keepIn K (.ref f_l_made) = true)
    (a_l_told : PySem.W.nsIn K mainGlobals "_law_told" = some (some (.ref f_l_told)))
    (l_l_told : K.lookup f_l_told = some ⟨oc_l_told, od_l_told, .func (PySem.W.fnOf "_law_told" "_law_told" (defArgs s_l_told) (defBody s_l_told) (defScope s_l_told) .none kV_l_told dc_l_told pm_l_told an_l_told cd_l_told ct_l_told), sl_l_told⟩)
    (cc_l_told : PySem.W.codeIn K cd_l_told "_law_told" = true)
    (kk_l_told : PySem.W.keepIn K (.ref f_l_told) = true)
    (a_l_fields : PySem.W.nsIn K mainGlobals "_law_fields" = some (some (.ref f_l_fields)))
    (l_l_fields : K.lookup f_l_fields = some ⟨oc_l_fields, od_l_fields, .func (PySem.W.fnOf "_law_fields" "_law_fields" (defArgs s_l_fields) (defBody s_l_fields) (defScope s_l_fields) .none kV_l_fields dc_l_fields pm_l_fields an_l_fields cd_l_fields ct_l_fields), sl_l_fields⟩)
    (cc_l_fields : PySem.W.codeIn K cd_l_fields "_law_fields" = true)
    (kk_l_fields : PySem.W.keepIn K (.ref f_l_fields) = true)
    (a_l_shift : PySem.W.nsIn K mainGlobals "_law_shift" = some (some (.ref f_l_shift)))
    (l_l_shift : K.lookup f_l_shift = some ⟨oc_l_shift, od_l_shift, .func (PySem.W.fnOf "_law_shift" "_law_shift" (defArgs s_l_shift) (defBody s_l_shift) (defScope s_l_shift) .none kV_l_shift dc_l_shift pm_l_shift an_l_shift cd_l_shift ct_l_shift), sl_l_shift⟩)
    (cc_l_shift : PySem.W.codeIn K cd_l_shift "_law_shift" = true)
    (kk_l_shift : PySem.W.keepIn K (.ref f_l_shift) = true)
    (a_l_right : PySem.W.nsIn K mainGlobals "_law_right" = some (some (.ref f_l_right)))
    (l_l_right : K.lookup f_l_right = some ⟨oc_l_right, od_l_right, .func (PySem.W.fnOf "_law_right" "_law_right" (defArgs s_l_right) (defBody s_l_right) (defScope s_l_right) .none kV_l_right dc_l_right pm_l_right an_l_right cd_l_right ct_l_right), sl_l_right⟩)
    (cc_l_right : PySem.W.codeIn K cd_l_right "_law_right" = true)
    (kk_l_right : PySem.W.keepIn K (.ref f_l_right) = true)
    (a_l_other : PySem.W.nsIn K mainGlobals "_law_other" = some (some (.ref f_l_other)))
    (l_l_other : K.lookup f_l_other = some ⟨oc_l_other, od_l_other, .func (PySem.W.fnOf "_law_other" "_law_other" (defArgs s_l_other) (defBody s_l_other) (defScope s_l_other) .none kV_l_other dc_l_other pm_l_other an_l_other cd_l_other ct_l_other), sl_l_other⟩)
    (cc_l_other : PySem.W.codeIn K cd_l_other "_law_other" = true)
    (kk_l_other : PySem.W.keepIn K (.ref f_l_other) = true)
    (a_l_equal : PySem.W.nsIn K mainGlobals "_law_equal" = some (some (.ref f_l_equal)))
    (l_l_equal : K.lookup f_l_equal = some ⟨oc_l_equal, od_l_equal, .func (PySem.W.fnOf "_law_equal" "_law_equal" (defArgs s_l_equal) (defBody s_l_equal) (defScope s_l_equal) .none kV_l_equal dc_l_equal pm_l_equal an_l_equal cd_l_equal ct_l_equal), sl_l_equal⟩)
    (cc_l_equal : PySem.W.codeIn K cd_l_equal "_law_equal" = true)
    (kk_l_equal : PySem.W.keepIn K (.ref f_l_equal) = true)
    (a_l_short : PySem.W.nsIn K mainGlobals "_law_short" = some (some (.ref f_l_short)))
    (l_l_short : K.lookup f_l_short = some ⟨oc_l_short, od_l_short, .func (PySem.W.fnOf "_law_short" "_law_short" (defArgs s_l_short) (defBody s_l_short) (defScope s_l_short) .none kV_l_short dc_l_short pm_l_short an_l_short cd_l_short ct_l_short), sl_l_short⟩)
    (cc_l_short : PySem.W.codeIn K cd_l_short "_law_short" = true)
    (kk_l_short : PySem.W.keepIn K (.ref f_l_short) = true)
    (a_law : PySem.W.nsIn K mainGlobals "law" = some (some (.ref f_law)))
    (l_law : K.lookup f_law = some ⟨oc_law, od_law, .func (PySem.W.fnOf "law" "law" (defArgs s_law) (defBody s_law) (defScope s_law) .none kV_law dc_law pm_law an_law cd_law ct_law), sl_law⟩)
    (cc_law : PySem.W.codeIn K cd_law "law" = true)
    (kk_law : PySem.W.keepIn K (.ref f_law) = true)
    (z_bool : PySem.W.nsIn K mainGlobals "bool" = some none)
    (z_int : PySem.W.nsIn K mainGlobals "int" = some none)
    (z_isinstance : PySem.W.nsIn K mainGlobals "isinstance" = some none)
    (z_len : PySem.W.nsIn K mainGlobals "len" = some none)
    (z_list : PySem.W.nsIn K mainGlobals "list" = some none)
    (z_max : PySem.W.nsIn K mainGlobals "max" = some none)
    (z_min : PySem.W.nsIn K mainGlobals "min" = some none)
    (z_range : PySem.W.nsIn K mainGlobals "range" = some none)
    : ∃ fd : FuncData, (∀ (s : Shared) (v : Value), BindsTo s fd ⟨[v], []⟩ [("script", v)]) ∧ ∀ base : Heap, K.In base → base.Ns mainGlobals mg → FnOk l.prog w K mg base CX0 7 fa fd ["script"] (sp_law K) := by
  have e := hfa.symm.trans (PySem.W.mg_of X G a_law)
  have e2 : f_law = fa := by
    injection e with e
    injection e with e
    exact e.symm
  subst e2
  have F_Options_init__ : FunD K "__init__" "Options.__init__" (defArgs s_Options_init__) (defBody s_Options_init__) (defScope s_Options_init__) [] [("ack_delay", .int 0), ("keep_alive", .int 0), ("nagle", .bl false), ("control", .str (PySem.Str.ofString "reno"))] f_Options_init__ _ := ⟨⟨_, _, _, _, _, _, _, _, _, _, rfl, l_Options_init__, cc_Options_init__, .inl ⟨rfl, rfl⟩, .inr ⟨kd_Options_init__, rfl, fun q hq => by
      simp only [List.mem_cons, List.not_mem_nil, or_false] at hq
      rcases hq with rfl | rfl | rfl | rfl
      · exact ⟨_, kw_Options_init___ack_delay, by first | exact rfl | exact ⟨_, rfl⟩⟩
      · exact ⟨_, kw_Options_init___keep_alive, by first | exact rfl | exact ⟨_, rfl⟩⟩
      · exact ⟨_, kw_Options_init___nagle, by first | exact rfl | exact ⟨_, rfl⟩⟩
      · exact ⟨_, kw_Options_init___control, by first | exact rfl | exact ⟨_, rfl⟩⟩⟩⟩, kk_Options_init__⟩
  have F_Options_patience := fun_mk (st := s_Options_patience) l_Options_patience cc_Options_patience kk_Options_patience
  have b_Options_patience := F_Options_patience.binds (ps := ["self"]) fun _ _ _ _ _ _ us hl => match us, hl with | [_], _ => rfl
  have F_Options_shift := fun_mk (st := s_Options_shift) l_Options_shift cc_Options_shift kk_Options_shift
  have b_Options_shift := F_Options_shift.binds (ps := ["self"]) fun _ _ _ _ _ _ us hl => match us, hl with | [_], _ => rfl
  have F_Options_resting := fun_mk (st := s_Options_resting) l_Options_resting cc_Options_resting kk_Options_resting
  have b_Options_resting := F_Options_resting.binds (ps := ["self"]) fun _ _ _ _ _ _ us hl => match us, hl with | [_], _ => rfl
  have F_Options_eq__ := fun_mk (st := s_Options_eq__) l_Options_eq__ cc_Options_eq__ kk_Options_eq__
  have b_Options_eq__ := F_Options_eq__.binds (ps := ["self", "other"]) fun _ _ _ _ _ _ us hl => match us, hl with | [_, _], _ => rfl
  have F_Options_fields := fun_mk (st := s_Options_fields) l_Options_fields cc_Options_fields kk_Options_fields
  have b_Options_fields := F_Options_fields.binds (ps := ["self"]) fun _ _ _ _ _ _ us hl => match us, hl with | [_], _ => rfl
  have F_Options_wrong_names := fun_mk (st := s_Options_wrong_names) l_Options_wrong_names cc_Options_wrong_names kk_Options_wrong_names
  have b_Options_wrong_names := F_Options_wrong_names.binds (ps := ["self"]) fun _ _ _ _ _ _ us hl => match us, hl with | [_], _ => rfl
  have F_l_cell := fun_mk (st := s_l_cell) l_l_cell cc_l_cell kk_l_cell
  have b_l_cell := F_l_cell.binds (ps := ["script", "k"]) fun _ _ _ _ _ _ us hl => match us, hl with | [_, _], _ => rfl
  have F_l_is_integer := fun_mk (st := s_l_is_integer) l_l_is_integer cc_l_is_integer kk_l_is_integer
  have b_l_is_integer := F_l_is_integer.binds (ps := ["told"]) fun _ _ _ _ _ _ us hl => match us, hl with | [_], _ => rfl
  have F_l_start := fun_mk (st := s_l_start) l_l_start cc_l_start kk_l_start
  have b_l_start := F_l_start.binds (ps := ["cell", "k"]) fun _ _ _ _ _ _ us hl => match us, hl with | [_, _], _ => rfl
  have F_l_digit := fun_mk (st := s_l_digit) l_l_digit cc_l_digit kk_l_digit
  have b_l_digit := F_l_digit.binds (ps := ["state", "many"]) fun _ _ _ _ _ _ us hl => match us, hl with | [_, _], _ => rfl
  have F_l_good := fun_mk (st := s_l_good) l_l_good cc_l_good kk_l_good
  have b_l_good := F_l_good.binds (ps := ["state"]) fun _ _ _ _ _ _ us hl => match us, hl with | [_], _ => rfl
  have F_l_edges := fun_mk (st := s_l_edges) l_l_edges cc_l_edges kk_l_edges
  have b_l_edges := F_l_edges.binds (ps := ["row", "k"]) fun _ _ _ _ _ _ us hl => match us, hl with | [_, _], _ => rfl
  have F_l_fits := fun_mk (st := s_l_fits) l_l_fits cc_l_fits kk_l_fits
  have b_l_fits := F_l_fits.binds (ps := ["row"]) fun _ _ _ _ _ _ us hl => match us, hl with | [_], _ => rfl
  have F_l_made := fun_mk (st := s_l_made) l_l_made cc_l_made kk_l_made
  have b_l_made := F_l_made.binds (ps := ["row"]) fun _ _ _ _ _ _ us hl => match us, hl with | [_], _ => rfl
  have F_l_told := fun_mk (st := s_l_told) l_l_told cc_l_told kk_l_told
  have b_l_told := F_l_told.binds (ps := ["row"]) fun _ _ _ _ _ _ us hl => match us, hl with | [_], _ => rfl
  have F_l_fields := fun_mk (st := s_l_fields) l_l_fields cc_l_fields kk_l_fields
  have b_l_fields := F_l_fields.binds (ps := ["told"]) fun _ _ _ _ _ _ us hl => match us, hl with | [_], _ => rfl
  have F_l_shift := fun_mk (st := s_l_shift) l_l_shift cc_l_shift kk_l_shift
  have b_l_shift := F_l_shift.binds (ps := ["room"]) fun _ _ _ _ _ _ us hl => match us, hl with | [_], _ => rfl
  have F_l_right := fun_mk (st := s_l_right) l_l_right cc_l_right kk_l_right
  have b_l_right := F_l_right.binds (ps := ["told", "row"]) fun _ _ _ _ _ _ us hl => match us, hl with | [_, _], _ => rfl
  have F_l_other := fun_mk (st := s_l_other) l_l_other cc_l_other kk_l_other
  have b_l_other := F_l_other.binds (ps := ["row", "k"]) fun _ _ _ _ _ _ us hl => match us, hl with | [_, _], _ => rfl
  have F_l_equal := fun_mk (st := s_l_equal) l_l_equal cc_l_equal kk_l_equal
  have b_l_equal := F_l_equal.binds (ps := ["told", "row"]) fun _ _ _ _ _ _ us hl => match us, hl with | [_, _], _ => rfl
  have F_l_short := fun_mk (st := s_l_short) l_l_short cc_l_short kk_l_short
  have b_l_short := F_l_short.binds (ps := ["row"]) fun _ _ _ _ _ _ us hl => match us, hl with | [_], _ => rfl
  have F_law := fun_mk (st := s_law) l_law cc_law kk_law
  have b_law := F_law.binds (ps := ["script"]) fun _ _ _ _ _ _ us hl => match us, hl with | [_], _ => rfl
  let T : Txt w K mg := { t_MOST_TICKS := t_MOST_TICKS, t_MOST_UNDER_WAY := t_MOST_UNDER_WAY, t_GREATEST_WINDOW := t_GREATEST_WINDOW, C_ThroughlineError := C_ThroughlineError, C_InvalidOptions := C_InvalidOptions, C_InvalidPort := C_InvalidPort, C_Options := C_Options, f_Options_init__ := f_Options_init__, d_Options_init__ := _, f_Options_patience := f_Options_patience, d_Options_patience := _, p0_Options_patience := p0_Options_patience, f_Options_shift := f_Options_shift, d_Options_shift := _, p0_Options_shift := p0_Options_shift, f_Options_resting := f_Options_resting, d_Options_resting := _, p0_Options_resting := p0_Options_resting, f_Options_eq__ := f_Options_eq__, d_Options_eq__ := _, f_Options_fields := f_Options_fields, d_Options_fields := _, f_Options_wrong_names := f_Options_wrong_names, d_Options_wrong_names := _, f_l_cell := f_l_cell, d_l_cell := _, f_l_is_integer := f_l_is_integer, d_l_is_integer := _, f_l_start := f_l_start, d_l_start := _, f_l_digit := f_l_digit, d_l_digit := _, f_l_good := f_l_good, d_l_good := _, f_l_edges := f_l_edges, d_l_edges := _, f_l_fits := f_l_fits, d_l_fits := _, f_l_made := f_l_made, d_l_made := _, f_l_told := f_l_told, d_l_told := _, f_l_fields := f_l_fields, d_l_fields := _, f_l_shift := f_l_shift, d_l_shift := _, f_l_right := f_l_right, d_l_right := _, f_l_other := f_l_other, d_l_other := _, f_l_equal := f_l_equal, d_l_equal := _, f_l_short := f_l_short, d_l_short := _, f_law := f_law, d_law := _, v_MOST_TICKS := PySem.W.mg_of X G v_MOST_TICKS, v_MOST_UNDER_WAY := PySem.W.mg_of X G v_MOST_UNDER_WAY, v_GREATEST_WINDOW := PySem.W.mg_of X G v_GREATEST_WINDOW, c_ThroughlineError := PySem.W.mg_of X G c_ThroughlineError, c_InvalidOptions := PySem.W.mg_of X G c_InvalidOptions, c_InvalidPort := PySem.W.mg_of X G c_InvalidPort, xP_InvalidOptions := xP_InvalidOptions, ke_InvalidOptions := ke_InvalidOptions, be_InvalidOptions := be_InvalidOptions, te_InvalidOptions := te_InvalidOptions, xc_InvalidOptions := ⟨xg_InvalidOptions, xk_InvalidOptions, be_InvalidOptions, hd_InvalidOptions, xa_InvalidOptions, hn_all, ht_all, xm_InvalidOptions⟩, em_InvalidOptions_InvalidOptions := PySem.W.exm_ref be_InvalidOptions hd_InvalidOptions te_InvalidOptions su_InvalidOptions_InvalidOptions, ko_InvalidOptions_ThroughlineError := kit_refT ic_ThroughlineError te_ThroughlineError su_InvalidOptions_ThroughlineError, ko_InvalidOptions_InvalidPort := kit_refF ic_InvalidPort te_InvalidPort su_InvalidOptions_InvalidPort sr_InvalidOptions, c_Options := PySem.W.mg_of X G c_Options, k_Options := ⟨pg_Options, hd_Options, po_Options, sa_Options⟩, i_Options := fun e => .ins e ⟨pg_Options, hd_Options, po_Options, sa_Options⟩ ha_Options hn_all ht_all hm_Options, q_Options := q_Options, ki_Options := kit_own ic_Options tc_Options q_Options, n_Options_mss := n_Options_mss, n_Options_room := n_Options_room, n_Options_life := n_Options_life, n_Options_pace := n_Options_pace, n_Options_tries := n_Options_tries, n_Options_min_rto := n_Options_min_rto, n_Options_max_rto := n_Options_max_rto, n_Options_ack_delay := n_Options_ack_delay, n_Options_keep_alive := n_Options_keep_alive, n_Options_nagle := n_Options_nagle, n_Options_control := n_Options_control, F_Options_init__ := F_Options_init__, mk_Options := ⟨mk0_Options, a_Options_init__, i_Options_init__, kc_Options⟩, F_Options_patience := F_Options_patience, b_Options_patience := b_Options_patience, p_Options_patience := ⟨a_Options_patience, pget_Options_patience, ptak_Options_patience, _, prec_Options_patience⟩, F_Options_shift := F_Options_shift, b_Options_shift := b_Options_shift, p_Options_shift := ⟨a_Options_shift, pget_Options_shift, ptak_Options_shift, _, prec_Options_shift⟩, F_Options_resting := F_Options_resting, b_Options_resting := b_Options_resting, p_Options_resting := ⟨a_Options_resting, pget_Options_resting, ptak_Options_resting, _, prec_Options_resting⟩, F_Options_eq__ := F_Options_eq__, b_Options_eq__ := b_Options_eq__, a_Options_eq__ := ⟨a_Options_eq__, i_Options_eq__, kk_Options_eq__⟩, F_Options_fields := F_Options_fields, b_Options_fields := b_Options_fields, a_Options_fields := ⟨a_Options_fields, i_Options_fields, kk_Options_fields⟩, F_Options_wrong_names := F_Options_wrong_names, b_Options_wrong_names := b_Options_wrong_names, a_Options_wrong_names := ⟨a_Options_wrong_names, i_Options_wrong_names, kk_Options_wrong_names⟩, F_l_cell := F_l_cell, b_l_cell := b_l_cell, m_l_cell := PySem.W.mg_of X G a_l_cell, F_l_is_integer := F_l_is_integer, b_l_is_integer := b_l_is_integer, m_l_is_integer := PySem.W.mg_of X G a_l_is_integer, F_l_start := F_l_start, b_l_start := b_l_start, m_l_start := PySem.W.mg_of X G a_l_start, F_l_digit := F_l_digit, b_l_digit := b_l_digit, m_l_digit := PySem.W.mg_of X G a_l_digit, F_l_good := F_l_good, b_l_good := b_l_good, m_l_good := PySem.W.mg_of X G a_l_good, F_l_edges := F_l_edges, b_l_edges := b_l_edges, m_l_edges := PySem.W.mg_of X G a_l_edges, F_l_fits := F_l_fits, b_l_fits := b_l_fits, m_l_fits := PySem.W.mg_of X G a_l_fits, F_l_made := F_l_made, b_l_made := b_l_made, m_l_made := PySem.W.mg_of X G a_l_made, F_l_told := F_l_told, b_l_told := b_l_told, m_l_told := PySem.W.mg_of X G a_l_told, F_l_fields := F_l_fields, b_l_fields := b_l_fields, m_l_fields := PySem.W.mg_of X G a_l_fields, F_l_shift := F_l_shift, b_l_shift := b_l_shift, m_l_shift := PySem.W.mg_of X G a_l_shift, F_l_right := F_l_right, b_l_right := b_l_right, m_l_right := PySem.W.mg_of X G a_l_right, F_l_other := F_l_other, b_l_other := b_l_other, m_l_other := PySem.W.mg_of X G a_l_other, F_l_equal := F_l_equal, b_l_equal := b_l_equal, m_l_equal := PySem.W.mg_of X G a_l_equal, F_l_short := F_l_short, b_l_short := b_l_short, m_l_short := PySem.W.mg_of X G a_l_short, F_law := F_law, b_law := b_law, m_law := PySem.W.mg_of X G a_law, n_bool := PySem.W.mg_none_of X G z_bool, n_int := PySem.W.mg_none_of X G z_int, n_isinstance := PySem.W.mg_none_of X G z_isinstance, n_len := PySem.W.mg_none_of X G z_len, n_list := PySem.W.mg_none_of X G z_list, n_max := PySem.W.mg_none_of X G z_max, n_min := PySem.W.mg_none_of X G z_min, n_range := PySem.W.mg_none_of X G z_range }
  exact ⟨PySem.W.fnOf "law" "law" (defArgs s_law) (defBody s_law) (defScope s_law) .none kV_law dc_law pm_law an_law cd_law ct_law, fun s v => .of_eq rfl, fun base _ _ => ok_law T⟩
theorem walk {l : PySem.W.OpenLaw} {q : Program} {loose : List Str} {XP : (Str → Option Value) → Heap → Prop} {YP : World → Heap → Prop} {d : DefRec} {K : Params → PySem.W.Frag} (hn : l.most = some 63) (hdf : d.params.defaults = [])
    (hY : ∀ (w : World) (h : Heap), YP w h → (K w.params).In h)
    (F : ∀ (w : World) (mg : Str → Option Value) (fa : Addr) (h : Heap), (K w.params).In h → h.Ns mainGlobals mg → mg d.name = some (.ref fa) →
      ∃ fd : FuncData, (∀ (s : Shared) (u : Value), BindsTo s fd ⟨[u], []⟩ [("script", u)]) ∧ ∀ base : Heap, (K w.params).In base → base.Ns mainGlobals mg → FnOk l.prog w (K w.params) mg base CX0 7 fa fd ["script"] (sp_law (K w.params))) :
    PySem.W.WalkO q loose XP YP l.row.toRowW d [] (fun f vs => PySem.call f vs) :=
  L2.walk_of (n := 63) (k := 7) (x := "script") (CX := fun _ => CX0) (sp := fun w => sp_law (K w.params)) hn (by decide) hdf ⟨rfl, by decide, by decide⟩ hY F (fun _ _ a ns hl _ hS => ⟨a, ns, rfl, hS, hl, fun _ => rfl⟩) fun _ _ _ _ _ z => z
end My
open PySem PySem.W PyProof.Rows
set_option maxRecDepth 100000 in
set_option maxHeartbeats 0 in
theorem PySem.Challenge.cw_throughline_k35_options_have_bounds_holds : PySem.Challenge.rw_throughline_k35_options_have_bounds.Holds := by
  w_on; o_law; k_head; (case hw => w_witness2)
  k_fill
  refine My.walk (l := PySem.Challenge.rw_throughline_k35_options_have_bounds) rfl rfl (fun w h Y => PySem.W.kIn_of Y) ?F
  case F =>
    intro w mg fa h KX G hmg
    refine' My.all_mk KX G hmg ?v_MOST_TICKS ?v_MOST_UNDER_WAY ?v_GREATEST_WINDOW ?c_ThroughlineError ?be_ThroughlineError ?te_ThroughlineError ?hd_ThroughlineError ?ic_ThroughlineError ?c_InvalidOptions ?be_InvalidOptions ?te_InvalidOptions ?hd_InvalidOptions ?ic_InvalidOptions ?c_InvalidPort ?be_InvalidPort ?te_InvalidPort ?hd_InvalidPort ?ic_InvalidPort ?xP_InvalidOptions ?ke_InvalidOptions ?xg_InvalidOptions ?xk_InvalidOptions ?xa_InvalidOptions ?xm_InvalidOptions ?hn_all ?ht_all ?su_InvalidOptions_InvalidOptions ?su_InvalidOptions_ThroughlineError ?su_InvalidOptions_InvalidPort ?sr_InvalidOptions ?c_Options ?pg_Options ?hd_Options ?po_Options ?sa_Options ?mk0_Options ?kc_Options ?ha_Options ?hm_Options ?q_Options ?ic_Options ?tc_Options ?n_Options_mss ?n_Options_room ?n_Options_life ?n_Options_pace ?n_Options_tries ?n_Options_min_rto ?n_Options_max_rto ?n_Options_ack_delay ?n_Options_keep_alive ?n_Options_nagle ?n_Options_control ?a_Options_init__ ?i_Options_init__ ?l_Options_init__ ?kw_Options_init___ack_delay ?kw_Options_init___keep_alive ?kw_Options_init___nagle ?kw_Options_init___control ?cc_Options_init__ ?kk_Options_init__ ?a_Options_patience ?pget_Options_patience ?ptak_Options_patience ?prec_Options_patience ?l_Options_patience ?cc_Options_patience ?kk_Options_patience ?a_Options_shift ?pget_Options_shift ?ptak_Options_shift ?prec_Options_shift ?l_Options_shift ?cc_Options_shift ?kk_Options_shift ?a_Options_resting ?pget_Options_resting ?ptak_Options_resting ?prec_Options_resting ?l_Options_resting ?cc_Options_resting ?kk_Options_resting ?a_Options_eq__ ?i_Options_eq__ ?l_Options_eq__ ?cc_Options_eq__ ?kk_Options_eq__ ?a_Options_fields ?i_Options_fields ?l_Options_fields ?cc_Options_fields ?kk_Options_fields ?a_Options_wrong_names ?i_Options_wrong_names ?l_Options_wrong_names ?cc_Options_wrong_names ?kk_Options_wrong_names ?a_l_cell ?l_l_cell ?cc_l_cell ?kk_l_cell ?a_l_is_integer ?l_l_is_integer ?cc_l_is_integer ?kk_l_is_integer ?a_l_start ?l_l_start ?cc_l_start ?kk_l_start ?a_l_digit ?l_l_digit ?cc_l_digit ?kk_l_digit ?a_l_good ?l_l_good ?cc_l_good ?kk_l_good ?a_l_edges ?l_l_edges ?cc_l_edges ?kk_l_edges ?a_l_fits ?l_l_fits ?cc_l_fits ?kk_l_fits ?a_l_made ?l_l_made ?cc_l_made ?kk_l_made ?a_l_told ?l_l_told ?cc_l_told ?kk_l_told ?a_l_fields ?l_l_fields ?cc_l_fields ?kk_l_fields ?a_l_shift ?l_l_shift ?cc_l_shift ?kk_l_shift ?a_l_right ?l_l_right ?cc_l_right ?kk_l_right ?a_l_other ?l_l_other ?cc_l_other ?kk_l_other ?a_l_equal ?l_l_equal ?cc_l_equal ?kk_l_equal ?a_l_short ?l_l_short ?cc_l_short ?kk_l_short ?a_law ?l_law ?cc_law ?kk_law ?z_bool ?z_int ?z_isinstance ?z_len ?z_list ?z_max ?z_min ?z_range
    (case v_MOST_TICKS => k_is)
    (case v_MOST_UNDER_WAY => k_is)
    (case v_GREATEST_WINDOW => k_is)
    (case c_ThroughlineError => k_is)
    (case be_ThroughlineError => k_is)
    (case te_ThroughlineError => k_is)
    (case hd_ThroughlineError => k_is)
    (case ic_ThroughlineError => k_is)
    (case c_InvalidOptions => k_is)
    (case be_InvalidOptions => k_is)
    (case te_InvalidOptions => k_is)
    (case hd_InvalidOptions => k_is)
    (case ic_InvalidOptions => k_is)
    (case c_InvalidPort => k_is)
    (case be_InvalidPort => k_is)
    (case te_InvalidPort => k_is)
    (case hd_InvalidPort => k_is)
    (case ic_InvalidPort => k_is)
    (case xP_InvalidOptions => k_exc)
    (case ke_InvalidOptions => k_is)
    (case xg_InvalidOptions => k_is)
    (case xk_InvalidOptions => k_is)
    (case xa_InvalidOptions => k_is)
    (case xm_InvalidOptions => k_is)
    (case hn_all => k_is)
    (case ht_all => k_is)
    (case su_InvalidOptions_InvalidOptions => first | k_is | rfl)
    (case su_InvalidOptions_ThroughlineError => first | k_is | rfl)
    (case su_InvalidOptions_InvalidPort => first | k_is | rfl)
    (case sr_InvalidOptions => first | rfl | k_is)
    (case c_Options => k_is)
    (case pg_Options => k_is)
    (case hd_Options => k_is)
    (case po_Options => k_is)
    (case sa_Options => k_is)
    (case mk0_Options => k_is)
    (case kc_Options => k_is)
    (case ha_Options => k_is)
    (case hm_Options => k_is)
    (case q_Options => k_is)
    (case ic_Options => k_is)
    (case tc_Options => k_is)
    (case n_Options_mss => k_is)
    (case n_Options_room => k_is)
    (case n_Options_life => k_is)
    (case n_Options_pace => k_is)
    (case n_Options_tries => k_is)
    (case n_Options_min_rto => k_is)
    (case n_Options_max_rto => k_is)
    (case n_Options_ack_delay => k_is)
    (case n_Options_keep_alive => k_is)
    (case n_Options_nagle => k_is)
    (case n_Options_control => k_is)
    (case a_Options_init__ => k_is)
    (case i_Options_init__ => k_is)
    (case l_Options_init__ => k_is)
    (case kw_Options_init___ack_delay => k_is)
    (case kw_Options_init___keep_alive => k_is)
    (case kw_Options_init___nagle => k_is)
    (case kw_Options_init___control => k_is)
    (case cc_Options_init__ => k_is)
    (case kk_Options_init__ => k_is)
    (case a_Options_patience => k_is)
    (case pget_Options_patience => k_is)
    (case ptak_Options_patience => k_is)
    (case prec_Options_patience => k_is)
    (case l_Options_patience => k_is)
    (case cc_Options_patience => k_is)
    (case kk_Options_patience => k_is)
    (case a_Options_shift => k_is)
    (case pget_Options_shift => k_is)
    (case ptak_Options_shift => k_is)
    (case prec_Options_shift => k_is)
    (case l_Options_shift => k_is)
    (case cc_Options_shift => k_is)
    (case kk_Options_shift => k_is)
    (case a_Options_resting => k_is)
    (case pget_Options_resting => k_is)
    (case ptak_Options_resting => k_is)
    (case prec_Options_resting => k_is)
    (case l_Options_resting => k_is)
    (case cc_Options_resting => k_is)
    (case kk_Options_resting => k_is)
    (case a_Options_eq__ => k_is)
    (case i_Options_eq__ => k_is)
    (case l_Options_eq__ => k_is)
    (case cc_Options_eq__ => k_is)
    (case kk_Options_eq__ => k_is)
    (case a_Options_fields => k_is)
    (case i_Options_fields => k_is)
    (case l_Options_fields => k_is)
    (case cc_Options_fields => k_is)
    (case kk_Options_fields => k_is)
    (case a_Options_wrong_names => k_is)
    (case i_Options_wrong_names => k_is)
    (case l_Options_wrong_names => k_is)
    (case cc_Options_wrong_names => k_is)
    (case kk_Options_wrong_names => k_is)
    (case a_l_cell => k_is)
    (case l_l_cell => k_is)
    (case cc_l_cell => k_is)
    (case kk_l_cell => k_is)
    (case a_l_is_integer => k_is)
    (case l_l_is_integer => k_is)
    (case cc_l_is_integer => k_is)
    (case kk_l_is_integer => k_is)
    (case a_l_start => k_is)
    (case l_l_start => k_is)
    (case cc_l_start => k_is)
    (case kk_l_start => k_is)
    (case a_l_digit => k_is)
    (case l_l_digit => k_is)
    (case cc_l_digit => k_is)
    (case kk_l_digit => k_is)
    (case a_l_good => k_is)
    (case l_l_good => k_is)
    (case cc_l_good => k_is)
    (case kk_l_good => k_is)
    (case a_l_edges => k_is)
    (case l_l_edges => k_is)
    (case cc_l_edges => k_is)
    (case kk_l_edges => k_is)
    (case a_l_fits => k_is)
    (case l_l_fits => k_is)
    (case cc_l_fits => k_is)
    (case kk_l_fits => k_is)
    (case a_l_made => k_is)
    (case l_l_made => k_is)
    (case cc_l_made => k_is)
    (case kk_l_made => k_is)
    (case a_l_told => k_is)
    (case l_l_told => k_is)
    (case cc_l_told => k_is)
    (case kk_l_told => k_is)
    (case a_l_fields => k_is)
    (case l_l_fields => k_is)
    (case cc_l_fields => k_is)
    (case kk_l_fields => k_is)
    (case a_l_shift => k_is)
    (case l_l_shift => k_is)
    (case cc_l_shift => k_is)
    (case kk_l_shift => k_is)
    (case a_l_right => k_is)
    (case l_l_right => k_is)
    (case cc_l_right => k_is)
    (case kk_l_right => k_is)
    (case a_l_other => k_is)
    (case l_l_other => k_is)
    (case cc_l_other => k_is)
    (case kk_l_other => k_is)
    (case a_l_equal => k_is)
    (case l_l_equal => k_is)
    (case cc_l_equal => k_is)
    (case kk_l_equal => k_is)
    (case a_l_short => k_is)
    (case l_l_short => k_is)
    (case cc_l_short => k_is)
    (case kk_l_short => k_is)
    (case a_law => k_is)
    (case l_law => k_is)
    (case cc_law => k_is)
    (case kk_law => k_is)
    (case z_bool => k_is)
    (case z_int => k_is)
    (case z_isinstance => k_is)
    (case z_len => k_is)
    (case z_list => k_is)
    (case z_max => k_is)
    (case z_min => k_is)
    (case z_range => k_is)
#print axioms PySem.Challenge.cw_throughline_k35_options_have_bounds_holds

