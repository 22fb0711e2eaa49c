import PyProof.Rows.All
import Wide.All
import OpenK.AllK
import Wide.FinOn
import HandS.ForMost
import HandS.IsInst
import HandS.Wide
import HandS.Style
import HandS.Conv
import HandS.RevRange
import HandS.Walk
import HandS.Property
import HandS.Star
import HandS.Codes
import HandS.TupAny
import HandS.WideBits
import HandS.MakeKwOnly
import HandS.Defaults
import KE.KSuper
import KE.RegKSuper
import HandS.Nested
import HandS.ClsMeth
import HandS.Flow
import HandS.Rev
import HandS.Iter
import HandS.Dict
import HandS.Small
import HandS.FStr
import HandS.More
import HandS.Head0
import HandS.Head1
import HandS.Head2
import HandS.HeadEnd
import HandS.HeadHook1
import PySem.Challenge.RW_throughline_k45_which_socket_takes_a_seg
set_option Elab.async false
set_option linter.all false
set_option maxRecDepth 100000
set_option maxHeartbeats 4000000
namespace My
open PySem PySem.Spec L2
/-! ### readings, one rule a construct -/
section
variable {K : PySem.W.Frag} {σ : St} {H : Hp} {Q : VK} {v x y z : V} {ta tb te tc : TE} {tt tu : TT} {r : R2} {D : Ends} {ts us : TS} {P : Bool → Hp → Prop} {i j : Int}
theorem g_var {i : Nat} (h : σ[i]? = some (some v)) (q : Q v H) : tVar i σ H Q := ⟨v, h, q⟩
theorem g_c (q : Q v H) : tC v σ H Q := q
theorem g_op (h : ta σ H fun x H1 => tb σ H1 fun y H2 => r x y H2 Q) : tOp r ta tb σ H Q := h
theorem g_un {r : V → Hp → VK → Prop} (h : ta σ H fun x H1 => r x H1 Q) : tUn r ta σ H Q := h
theorem g_rI0 {g : Int → Int → V} (q : Q (g i j) H) : rI0 g (.int i) (.int j) H Q := ⟨i, j, rfl, rfl, q⟩
theorem g_rI {C : Int → Int → Prop} {g : Int → Int → V} (c : C i j) (q : Q (g i j) H) : rI C g (.int i) (.int j) H Q := ⟨i, j, rfl, rfl, c, q⟩
theorem g_rU {g : Int → V} (q : Q (g i) H) : rU g (.int i) H Q := ⟨i, rfl, q⟩
theorem g_rEqI (q : Q (.bl (decide (i = j))) H) : rEq (.int i) (.int j) H Q := ⟨rfl, by rw [dec_int]; exact q⟩
theorem g_rNeI (q : Q (.bl (!decide (i = j))) H) : rNe (.int i) (.int j) H Q := ⟨rfl, by rw [dec_int]; exact q⟩
theorem g_rEq (s : scal x y = true) (q : Q (.bl (decide (x = y))) H) : rEq x y H Q := ⟨s, q⟩
theorem g_rNe (s : scal x y = true) (q : Q (.bl (!decide (x = y))) H) : rNe x y H Q := ⟨s, q⟩
theorem g_isN {A : Prop} (q : A) : V.non = V.non ∧ A := ⟨rfl, q⟩
theorem g_rIsB {a b : Bool} (q : Q (.bl (decide (a = b))) H) : rIsB (.bl a) (.bl b) H Q := ⟨a, b, rfl, rfl, q⟩
theorem g_rNotB {a b : Bool} (q : Q (.bl (!decide (a = b))) H) : rNotB (.bl a) (.bl b) H Q := ⟨a, b, rfl, rfl, q⟩
theorem g_test {t : TE} (h : t σ H fun x H' => ∃ k, x = .bl k ∧ P k H') : tTest t σ H P := h
theorem g_B {t : TE} (h : t σ H fun x H' => ∃ k, x = .bl k ∧ P k H') : tB t σ H P := h
theorem g_bl {b : Bool} {A : Bool → Prop} (q : A b) : ∃ k, V.bl b = .bl k ∧ A k := ⟨b, rfl, q⟩
theorem g_and (h : tt σ H fun c H1 => if c = true then tu σ H1 P else P false H1) : tAnd tt tu σ H P := h
theorem g_or (h : tt σ H fun c H1 => if c = true then P true H1 else tu σ H1 P) : tOr tt tu σ H P := h
theorem g_not (h : tt σ H fun c H1 => P (!c) H1) : tNot tt σ H P := h
theorem g_andV (h : ta σ H fun x H1 => ∃ c, x = .bl c ∧ if c = true then tb σ H1 Q else Q (.bl false) H1) : tAndV ta tb σ H Q := h
theorem g_orV (h : ta σ H fun x H1 => ∃ c, x = .bl c ∧ if c = true then Q (.bl true) H1 else tb σ H1 Q) : tOrV ta tb σ H Q := h
theorem g_notV (h : ta σ H fun x H1 => ∃ c, x = .bl c ∧ Q (.bl (!c)) H1) : tNotV ta σ H Q := h
theorem g_if (h : tt σ H fun c H1 => if c = true then ta σ H1 Q else tb σ H1 Q) : tIf tt ta tb σ H Q := h
theorem g_chain {r' : R2} (h : ta σ H fun x H1 => tb σ H1 fun y H2 => r x y H2 fun z H3 => ∃ k, z = .bl k ∧ (if k = true then tc σ H3 fun w' H4 => r' y w' H4 Q else Q (.bl false) H3)) : tChain r r' ta tb tc σ H Q := h
theorem g_nil {A : List V → Hp → Prop} (q : A [] H) : tNil σ H A := q
theorem g_cons {tr : TA} {A : List V → Hp → Prop} (h : ta σ H fun x H1 => tr σ H1 fun xs H2 => A (x :: xs) H2) : tCons ta tr σ H A := h
theorem g_tup {t : TA} (h : t σ H fun xs H1 => xs.length ≤ sizeLine ∧ ∀ p, H1 p = none → Q (.ref p) (upd H1 p (.tup xs))) : tTup t σ H Q := h
theorem g_lst {t : TA} (h : t σ H fun xs H1 => xs.length ≤ sizeLine ∧ ∀ p, H1 p = none → Q (.ref p) (upd H1 p (.lst xs))) : tLst t σ H Q := h
theorem g_call {sp : Sp} {dvs : List V} {E : XK} {t : TA} (h : t σ H fun vs H1 => sp (vs ++ dvs) H1 Q E) : tCall sp dvs E t σ H Q := h
theorem g_CB {r : List V → Hp → VK → Prop} {t : TA} (h : t σ H fun vs H1 => r vs H1 Q) : tCB r t σ H Q := h
theorem g_sl {r : V → Option Int → Option Int → Hp → VK → Prop} {tl th : TO} (h : te σ H fun x H1 => tl σ H1 fun l H2 => th σ H2 fun u H3 => r x l u H3 Q) : tSl r te tl th σ H Q := h
theorem g_noPart {A : Option Int → Hp → Prop} (q : A none H) : tNoPart σ H A := q
theorem g_part {A : Option Int → Hp → Prop} (h : te σ H fun x H1 => ∃ i, x = .int i ∧ A (some i) H1) : tPart te σ H A := h
theorem g_intE {A : Int → Prop} (q : A i) : ∃ k, V.int i = .int k ∧ A k := ⟨i, rfl, q⟩
theorem g_seq (h : ts { D with nx := us D } σ H) : tSeq ts us D σ H := h
theorem g_next (q : D.nx σ H) : tNext D σ H := q
theorem g_brk (q : D.bk σ H) : tBreak D σ H := q
theorem g_ct (q : D.ct σ H) : tCont D σ H := q
theorem g_asg {g : TG} (h : te σ H fun x H1 => g x σ H1 D.nx) : tAsg te g D σ H := h
theorem g_name {i : Nat} {A : St → Hp → Prop} (q : A (σ.set i (some v)) H) : gName i v σ H A := q
theorem g_aug {i : Nat} {ti : TIp} (h : σ[i]? = some (some x)) (q : te σ H fun y H1 => ti x y H1 fun z H2 => D.nx (σ.set i (some z)) H2) : tAug i te ti D σ H := ⟨x, h, q⟩
theorem g_ipI {f : Int → Int → Int} (q : Q (.int (f i j)) H) : ipI f (.int i) (.int j) H Q := ⟨i, j, rfl, rfl, q⟩
theorem g_drop (h : te σ H fun _ H1 => D.nx σ H1) : tDrop te D σ H := h
theorem g_ret (h : te σ H D.rt) : tRet te D σ H := h
theorem g_retN (q : D.rt .non H) : tRetN D σ H := q
theorem g_ifS (h : tt σ H fun b H1 => if b = true then ts D σ H1 else us D σ H1) : tIfS tt ts us D σ H := h
theorem g_for {wi : TI} {g : TG} {tb : TS} (h : wi σ H fun J H1 => ∃ W : Nat → Nat → St → Hp → Prop, (∃ m, W 0 m σ H1) ∧ ∀ i m σ H, W i m σ H →
    (J.stop i H ∧ D.nx σ H) ∨ (J.go i H ∧ ∃ N : St → Hp → Prop, (∀ σ' H', N σ' H' → ∃ m', m' < m ∧ W (i + 1) m' σ' H') ∧ ∀ x H', J.yld i H x H' → g x σ H' fun σ2 H2 => tb { D with nx := N, ct := N, bk := D.nx } σ2 H2)) : tFor wi g tb D σ H := h
theorem g_iT {c : Bool} {A B : Prop} (e : c = true) (h : A) : if c = true then A else B := by rw [if_pos e]; exact h
theorem g_iF {c : Bool} {A B : Prop} (e : c = false) (h : B) : if c = true then A else B := by rw [e]; exact iteF h
theorem g_ite {p A B : Prop} [Decidable p] (h1 : p → A) (h2 : ¬ p → B) : if decide p = true then A else B := by
  by_cases h : p
  · rw [decide_eq_true h]; exact iteT (h1 h)
  · rw [decide_eq_false h]; exact iteF (h2 h)
theorem g_iteN {p A B : Prop} [Decidable p] (h1 : ¬ p → A) (h2 : p → B) : if (!decide p) = true then A else B := by
  by_cases h : p
  · rw [decide_eq_true h]; exact iteF (h2 h)
  · rw [decide_eq_false h]; exact iteT (h1 h)
theorem g_iteB {b : Bool} {A B : Prop} (h1 : b = true → A) (h2 : b = false → B) : if b = true then A else B := by
  cases b with
  | true => exact iteT (h1 rfl)
  | false => exact iteF (h2 rfl)
theorem g_iteNB {b : Bool} {A B : Prop} (h1 : b = false → A) (h2 : b = true → B) : if (!b) = true then A else B := by
  cases b with
  | true => exact iteF (h2 rfl)
  | false => exact iteT (h1 rfl)
/-! calls of built-ins, by values -/
theorem g_int1 {A : Int → Prop} {B : Bool → Prop} (q : A i) : (∃ i', [V.int i] = [V.int i'] ∧ A i') ∨ ∃ k, [V.int i] = [V.bl k] ∧ B k := .inl ⟨i, rfl, q⟩
theorem g_int1B {b : Bool} {A : Int → Prop} {B : Bool → Prop} (q : B b) : (∃ i', [V.bl b] = [V.int i'] ∧ A i') ∨ ∃ k, [V.bl b] = [V.bl k] ∧ B k := .inr ⟨b, rfl, q⟩
theorem g_one {A : Int → Prop} (q : A i) : ∃ i', [V.int i] = [V.int i'] ∧ A i' := ⟨i, rfl, q⟩
theorem g_two {A : Int → Int → Prop} (q : A i j) : ∃ i' j', [V.int i, V.int j] = [V.int i', V.int j'] ∧ A i' j' := ⟨i, j, rfl, q⟩
theorem g_isi {c : V} {t u : Value} {b : Bool} (hc : ClsV c u) (ht : TyX K H x t) (e : PySem.W.kitOne K t u = some b) (q : Q (.bl b) H) : rIsi K [x, c] H Q := ⟨x, c, t, u, b, rfl, hc, ht, e, q⟩
theorem g_isiI (q : Q (.bl true) H) : rIsi K [.int i, .ty "int"] H Q := g_isi (.ty _) (.base (.int _)) (kit_ty (by decide +kernel)) q
theorem g_isiB {b : Bool} (q : Q (.bl true) H) : rIsi K [.bl b, .ty "bool"] H Q := g_isi (.ty _) (.base (.bl _)) (kit_ty (by decide +kernel)) q
theorem g_isiIB (q : Q (.bl false) H) : rIsi K [.int i, .ty "bool"] H Q := g_isi (.ty _) (.base (.int _)) (kit_ty (by decide +kernel)) q
theorem g_isiL {p : Addr} {xs : List V} (h : H p = some (.lst xs)) (q : Q (.bl true) H) : rIsi K [.ref p, .ty "list"] H Q := g_isi (.ty _) (.base (.lst h)) (kit_ty (by decide +kernel)) q
theorem g_isiU {p : Addr} {xs : List V} (h : H p = some (.tup xs)) (q : Q (.bl true) H) : rIsi K [.ref p, .ty "tuple"] H Q := g_isi (.ty _) (.base (.tup h)) (kit_ty (by decide +kernel)) q
theorem g_ixL {p : Addr} {xs : List V} (h : SqL K H p xs) (e : atI xs i = some v) (q : Q v H) : rIxL K (.ref p) (.int i) H Q := ⟨p, xs, i, v, rfl, rfl, h, e, q⟩
theorem g_ixT {p : Addr} {xs : List V} (h : SqT K H p xs) (e : atI xs i = some v) (q : Q v H) : rIxT K (.ref p) (.int i) H Q := ⟨p, xs, i, v, rfl, rfl, h, e, q⟩
theorem g_append {p : Addr} {xs : List V} (h : H p = some (.lst xs)) (l : xs.length < sizeLine) (q : Q .non (upd H p (.lst (xs ++ [y])))) : rAppend (.ref p) [y] H Q := ⟨p, xs, y, rfl, rfl, h, l, q⟩
theorem g_BM {T : String} {r : V → List V → Hp → VK → Prop} {t : TA} (h : te σ H fun x H1 => tyV K T x H1 ∧ t σ H1 fun xs H2 => r x xs H2 Q) : tBM K T r te t σ H Q := h
theorem g_BM0 {T : String} {r : V → List V → Hp → VK → Prop} (h : te σ H fun x H1 => tyV K T x H1 ∧ r x [] H1 Q) : tBM0 K T r te σ H Q := h
theorem ty_l {p : Addr} {xs : List V} (h : H p = some (.lst xs)) : tyV K "list" (.ref p) H := Or.inl ⟨rfl, _, Or.inl (Or.inl h)⟩
theorem g_setL {p : Addr} {xs : List V} {k : Int} {j : Nat} {A : Hp → Prop} (h : H p = some (.lst xs)) (e : ixN xs.length k = some j) (q : A (upd H p (.lst (xs.set j v)))) : rSetL (.ref p) (.int k) v H A := ⟨p, xs, k, j, rfl, rfl, h, e, q⟩
theorem g_sub {to ti : TE} {t : TSet} {A : St → Hp → Prop} (h : to σ H fun o H1 => ti σ H1 fun i H2 => t o i v H2 fun H3 => A σ H3) : gSub to ti t v σ H A := h
theorem g_len {p : Addr} {xs : List V} {A : Addr → List V → Prop} (h : SqL K H p xs ∨ SqT K H p xs) (q : A p xs) : ∃ p' ys, [V.ref p] = [V.ref p'] ∧ (SqL K H p' ys ∨ SqT K H p' ys) ∧ A p' ys := ⟨p, xs, rfl, h, q⟩
theorem g_slL {p : Addr} {xs : List V} {lo hi : Option Int} (h : SqL K H p xs) (q : ∀ l, H l = none → Q (.ref l) (upd H l (.lst (cutV xs lo hi)))) : rSlL K (.ref p) lo hi H Q := ⟨p, xs, rfl, h, q⟩
theorem g_cat {p q : Addr} {xs ys : List V} (h : H p = some (.lst xs)) (h2 : H q = some (.lst ys)) (l : xs.length + ys.length ≤ sizeLine) (k : ∀ l, H l = none → Q (.ref l) (upd H l (.lst (xs ++ ys)))) : rCat (.ref p) (.ref q) H Q := ⟨p, q, xs, ys, rfl, rfl, h, h2, l, k⟩
end
/-! ### heaps -/
theorem same_upd {H : Hp} {p : Addr} {o : HO} (h : H p = none) : Same H (upd H p o) := fun b x e => by
  rw [upd_ne (ne_of_none e h)]
  exact e
theorem sm {H H' : Hp} {p : Addr} {o : HO} (s : Same H H') (h : H p = some o) : H' p = some o := s p o h
theorem sq_upd {K : PySem.W.Frag} {H : Hp} {p a : Addr} {o : HO} {xs : List V} (n : H p = none) (h : SqL K H a xs) : SqL K (upd H p o) a xs := (same_upd n).seq h
theorem sl {K : PySem.W.Frag} {H : Hp} {a : Addr} {xs : List V} (h : H a = some (.lst xs)) : SqL K H a xs := Or.inl (Or.inl h)
theorem st {K : PySem.W.Frag} {H : Hp} {a : Addr} {xs : List V} (h : H a = some (.tup xs)) : SqT K H a xs := Or.inl (Or.inl h)
theorem Same.sqt {K : PySem.W.Frag} {H H' : Hp} {a : Addr} {xs : List V} (e : Same H H') (h : SqT K H a xs) : SqT K H' a xs := by
  rcases h with (h | ⟨o, h⟩) | h
  · exact .inl (.inl (e _ _ h))
  · exact .inl (.inr ⟨o, e _ _ h⟩)
  · exact .inr h
theorem upd_keep {H : Hp} {p b : Addr} {o o' : HO} (n : H p = none) (h : H b = some o') : upd H p o b = some o' := (same_upd n) b o' h
theorem ne_new {H : Hp} {p b : Addr} {o : HO} (h : H b = some o) (n : H p = none) : b ≠ p := ne_of_none h n
/-- H' is H but at p -/
def But (p : Addr) (H H' : Hp) : Prop := ∀ b o, b ≠ p → H b = some o → H' b = some o
theorem But.refl {p : Addr} {H : Hp} : But p H H := fun _ _ _ h => h
theorem But.of {p : Addr} {H H' : Hp} (s : Same H H') : But p H H' := fun b o _ h => s b o h
theorem But.trans {p : Addr} {H H1 H2 : Hp} (a : But p H H1) (b : But p H1 H2) : But p H H2 := fun c o n h => b c o n (a c o n h)
theorem But.upd {p : Addr} {H H' : Hp} {o : HO} (a : But p H H') : But p H (upd H' p o) := fun b o n h => by rw [upd_ne n]; exact a b o n h
theorem But.same {p : Addr} {H H' : Hp} (a : But p H H') (n : H p = none) : Same H H' := fun b o h => a b o (ne_of_none h n) h
theorem But.tr2 {p : Addr} {H H1 H2 : Hp} (s : Same H H1) (n : H p = none) (a : But p H1 H2) : Same H H2 := fun b o h => a b o (ne_of_none h n) (s b o h)
/-! ### numbers -/
theorem cdivW {a b : Int} (h : 0 < b) (h2 : b < 2 ^ 8000) : CDivW a b := by
  refine ⟨h, ?_⟩
  have e : b.natAbs < 2 ^ 8000 := by
    have : ((b.natAbs : Nat) : Int) < ((2 ^ 8000 : Nat) : Int) := by
      rw [Int.natAbs_of_nonneg (Int.le_of_lt h)]
      exact_mod_cast h2
    exact_mod_cast this
  by_cases z : b.natAbs = 0
  · rw [z]; decide
  · exact Nat.lt_of_lt_of_le (Nat.log2_lt z |>.mpr e) (by decide)
theorem sz {n : Nat} (h : n ≤ 100000) : n ≤ sizeLine := Nat.le_trans h (by decide)
theorem szl {n : Nat} (h : n < 100000) : n < sizeLine := Nat.lt_of_lt_of_le h (by decide)
/-! ### loops -/
theorem for_l {K : PySem.W.Frag} {tl : TE} {g : TG} {tb : TS} {D : Ends} {σ : St} {H : Hp} {a : Addr} {xs : List V} (Pv : Nat → St → Hp → Prop) (hs : SqL K H a xs) (h0 : Pv 0 σ H) (hl : ∀ i σ H, i ≤ xs.length → Pv i σ H → SqL K H a xs)
    (turn : ∀ i x σ H, xs[i]? = some x → Pv i σ H → g x σ H fun σ2 H2 => tb { D with nx := Pv (i + 1), ct := Pv (i + 1), bk := D.nx } σ2 H2) (hd : ∀ σ H, Pv xs.length σ H → D.nx σ H) (e : ∀ R : V → Hp → Prop, R (.ref a) H → tl σ H R) : tFor (iList K tl) g tb D σ H := by
  refine g_for ?_
  refine e _ ⟨a, rfl, ⟨_, hs⟩, ?_⟩
  exact for_list (xs := xs) Pv h0 hl turn hd
theorem for_r {ta : TA} {g : TG} {tb : TS} {D : Ends} {σ : St} {H : Hp} {n : Int} (N : Nat) (en : n.toNat = N) (b1 : -(2 ^ 62) ≤ n) (b2 : n < 2 ^ 62) (Pv : Nat → St → Hp → Prop) (h0 : Pv 0 σ H)
    (turn : ∀ (i : Nat) σ H, i < N → Pv i σ H → g (.int (i : Int)) σ H fun σ2 H2 => tb { D with nx := Pv (i + 1), ct := Pv (i + 1), bk := D.nx } σ2 H2) (hd : ∀ σ H, Pv N σ H → D.nx σ H) (e : ∀ R : List V → Hp → Prop, R [.int n] H → ta σ H R) : tFor (iRng1 ta) g tb D σ H := by
  subst en
  refine g_for ?_
  refine e _ ⟨n, rfl, b1, b2, ?_⟩
  refine for_range (lo := 0) Pv h0 (fun i σ H hi p => ?_) hd
  have z := turn i σ H hi p
  rw [Int.zero_add]
  exact z
theorem g_nx {nx : St → Hp → Prop} {rt : VK} {bk ct : St → Hp → Prop} {σ : St} {H : Hp} (q : nx σ H) : (Ends.mk nx rt bk ct).nx σ H := q
theorem g_bkE {nx : St → Hp → Prop} {rt : VK} {bk ct : St → Hp → Prop} {σ : St} {H : Hp} (q : bk σ H) : (Ends.mk nx rt bk ct).bk σ H := q
theorem g_ctE {nx : St → Hp → Prop} {rt : VK} {bk ct : St → Hp → Prop} {σ : St} {H : Hp} (q : ct σ H) : (Ends.mk nx rt bk ct).ct σ H := q
theorem g_rt {nx : St → Hp → Prop} {rt : VK} {bk ct : St → Hp → Prop} {v : V} {H : Hp} (q : rt v H) : (Ends.mk nx rt bk ct).rt v H := q
/-- a cell of the script -/
def cell (ns : List Int) (k : Int) : Int := ns.getD k.toNat 0
theorem atI_map {ns : List Int} {k : Int} (h0 : 0 ≤ k) (h : k < (ns.length : Int)) : atI (ns.map V.int) k = some (.int (cell ns k)) := by
  have e : k = ((k.toNat : Nat) : Int) := by omega
  have hl : k.toNat < ns.length := by omega
  have e2 : cell ns k = ns[k.toNat] := by
    unfold cell
    rw [List.getD_eq_getElem?_getD, List.getElem?_eq_getElem hl]; rfl
  rw [e2]
  refine at_of e ?_
  rw [List.getElem?_map, List.getElem?_eq_getElem hl]; rfl
theorem cell_out {ns : List Int} {k : Int} (h : ¬ k < (ns.length : Int)) : cell ns k = 0 := by
  unfold cell
  rw [List.getD_eq_getElem?_getD, List.getElem?_eq_none (by omega)]; rfl
theorem atI_some {xs : List V} {i : Int} (h0 : 0 ≤ i) (h : i < (xs.length : Int)) : ∃ v, xs[i.toNat]? = some v ∧ atI xs i = some v := by
  have hl : i.toNat < xs.length := by omega
  exact ⟨xs[i.toNat], List.getElem?_eq_getElem hl, at_of (by omega) (List.getElem?_eq_getElem hl)⟩
theorem atI_ints {xs : List Int} {i : Int} (h0 : 0 ≤ i) (h : i < (xs.length : Int)) : ∃ n, atI (xs.map V.int) i = some (.int n) ∧ xs[i.toNat]? = some n := by
  have hl : i.toNat < xs.length := by omega
  refine ⟨xs[i.toNat], at_of (j := i.toNat) (by omega) ?_, List.getElem?_eq_getElem hl⟩
  rw [List.getElem?_map, List.getElem?_eq_getElem hl]; rfl
theorem g_dT {p A B : Prop} [Decidable p] (h : p) (q : A) : if decide p = true then A else B := by rw [decide_eq_true h]; exact iteT q
theorem g_dF {p A B : Prop} [Decidable p] (h : ¬ p) (q : B) : if decide p = true then A else B := by rw [decide_eq_false h]; exact iteF q
theorem g_nT {p A B : Prop} [Decidable p] (h : ¬ p) (q : A) : if (!decide p) = true then A else B := by rw [decide_eq_false h]; exact iteT q
theorem g_nF {p A B : Prop} [Decidable p] (h : p) (q : B) : if (!decide p) = true then A else B := by rw [decide_eq_true h]; exact iteF q
/-! ### comprehensions: the list ys, value by value -/
theorem g_yes {σ : St} {H : Hp} {P : Bool → Hp → Prop} (q : P true H) : tYes σ H P := q
theorem g_lc {wi : TI} {g : TG} {tt : TT} {te : TE} {vs : List Nat} {σ : St} {H : Hp} {Q : VK} (h : wi σ H fun J H1 => ∀ D, H1 D = none → ∃ W : Nat → Nat → Hp → Prop, (∃ m, W 0 m (upd H1 D (.lst []))) ∧ ∀ i m H, W i m H →
  (J.stop i H ∧ Q (.ref D) H) ∨ (J.go i H ∧ ∃ Nx : Hp → Prop, (∀ H', Nx H' → ∃ m', m' < m ∧ W (i + 1) m' H') ∧ ∀ x H', J.yld i H x H' → g x (wipe σ vs) H' fun σ2 H2 => wipe σ2 vs = wipe σ vs ∧ tt σ2 H2 fun b H3 =>
    if b = true then te σ2 H3 fun y H4 => ∃ acc, H4 D = some (.lst acc) ∧ acc.length < sizeLine ∧ Nx (upd H4 D (.lst (acc ++ [y]))) else Nx H3)) : tLc wi g tt te vs σ H Q := h
theorem g_revR {ta : TE} {σ : St} {H : Hp} {R : It → Hp → Prop} (h : ta σ H fun x H1 => ∃ n : Int, x = .int n ∧ -(2 ^ 62) ≤ (0 : Int) ∧ (0 : Int) < 2 ^ 62 ∧ -(2 ^ 62) ≤ n ∧ n < 2 ^ 62 ∧ R (Itc (0 + (((n - 0).toNat : Nat) : Int) - 1) (-1) (n - 0).toNat) H1) : iRevR (tRg1 ta) σ H R := h
theorem g_rng1 {ta : TA} {σ : St} {H : Hp} {R : It → Hp → Prop} (h : ta σ H fun vs H1 => ∃ j : Int, vs = [.int j] ∧ -(2 ^ 62) ≤ j ∧ j < 2 ^ 62 ∧ R (Itr 0 j.toNat) H1) : iRng1 ta σ H R := h
theorem g_iList {K : PySem.W.Frag} {tl : TE} {σ : St} {H : Hp} {R : It → Hp → Prop} (h : tl σ H fun x H1 => ∃ a, x = .ref a ∧ (∃ xs, SqL K H1 a xs) ∧ R (Itl K a) H1) : iList K tl σ H R := h
def LcP (H1 : Hp) (D : Addr) (ys : List V) (i : Nat) (H : Hp) : Prop := Same H1 H ∧ H D = some (.lst (ys.take i))
theorem lc_vals {J : It} {n : Nat} {G : Hp → Prop} {Y : Nat → Hp → V → Hp → Prop} (w : Walk J n G Y) (ys : List V) {g : TG} {tt : TT} {te : TE} {vs : List Nat} {σ : St} {H1 : Hp} {D : Addr} {Qd : Hp → Prop} (hD : H1 D = none) (hlen : ys.length = n) (hG : ∀ H, Same H1 H → G H)
    (hs : ∀ i x H H', i < n → LcP H1 D ys i H → Y i H x H' → g x (wipe σ vs) H' fun σ2 H2 => wipe σ2 vs = wipe σ vs ∧ tt σ2 H2 fun b H3 =>
      if b = true then te σ2 H3 fun y H4 => ∃ acc, H4 D = some (.lst acc) ∧ acc.length < sizeLine ∧ LcP H1 D ys (i + 1) (upd H4 D (.lst (acc ++ [y]))) else LcP H1 D ys (i + 1) H3)
    (hd : ∀ H, Same H1 H → H D = some (.lst ys) → Qd H) :
    ∃ W : Nat → Nat → Hp → Prop, (∃ m, W 0 m (upd H1 D (.lst []))) ∧ ∀ i m H, W i m H →
      (J.stop i H ∧ Qd H) ∨ (J.go i H ∧ ∃ Nx : Hp → Prop, (∀ H', Nx H' → ∃ m', m' < m ∧ W (i + 1) m' H') ∧ ∀ x H', J.yld i H x H' → g x (wipe σ vs) H' fun σ2 H2 => wipe σ2 vs = wipe σ vs ∧ tt σ2 H2 fun b H3 =>
        if b = true then te σ2 H3 fun y H4 => ∃ acc, H4 D = some (.lst acc) ∧ acc.length < sizeLine ∧ Nx (upd H4 D (.lst (acc ++ [y]))) else Nx H3) := by
  refine lc_it w (LcP H1 D ys) ⟨same_upd hD, by rw [upd_same]; rfl⟩ (fun i H _ p => hG H p.1) hs (fun H p => hd H p.1 ?_)
  have e := p.2
  rw [← hlen, List.take_length] at e
  exact e
theorem lc_next {H1 H4 : Hp} {D : Addr} {ys : List V} {i : Nat} {y : V} (hD : H1 D = none) (p : LcP H1 D ys i H4) (hz : ys.length ≤ 100000) (hy : ys[i]? = some y) :
    ∃ acc, H4 D = some (.lst acc) ∧ acc.length < sizeLine ∧ LcP H1 D ys (i + 1) (upd H4 D (.lst (acc ++ [y]))) := by
  refine ⟨_, p.2, ?_, ?_, ?_⟩
  · rw [List.length_take]
    obtain ⟨h, _⟩ := List.getElem?_eq_some_iff.mp hy
    exact szl (by omega)
  · exact (But.of p.1).upd.same hD
  · rw [upd_same, List.take_add_one, hy]
    rfl
theorem LcP.same {H1 H4 H5 : Hp} {D : Addr} {ys : List V} {i : Nat} (p : LcP H1 D ys i H4) (s : Same H4 H5) : LcP H1 D ys i H5 := ⟨p.1.trans s, s _ _ p.2⟩
theorem map_get {α : Type} {f : α → V} {xs : List α} {i : Nat} {y : V} (h : (xs.map f)[i]? = some y) : ∃ z, xs[i]? = some z ∧ y = f z := by
  rw [List.getElem?_map] at h
  cases e : xs[i]? with
  | none => rw [e] at h; cases h
  | some z => rw [e] at h; exact ⟨z, rfl, (Option.some.inj h).symm⟩
/-! ### == of lists of ints -/
section
variable {K : PySem.W.Frag} {H : Hp} {Q : VK}
theorem dpAll_ints : ∀ {ns : List Int}, DpAll K H (ns.map V.int) (ns.map PyData.int)
  | [] => .nil
  | n :: _ => .cons (.int n) dpAll_ints
theorem lay_ints : ∀ {ns : List Int}, PyData.canLayAll0 (ns.map PyData.int) = true
  | [] => rfl
  | _ :: ns => by
    show (true && PyData.canLayAll0 (ns.map PyData.int)) = true
    rw [lay_ints]; rfl
theorem depth_ints : ∀ {ns : List Int}, PyData.depthAll (ns.map PyData.int) = 0
  | [] => rfl
  | _ :: ns => by
    show max 0 (PyData.depthAll (ns.map PyData.int)) = 0
    rw [depth_ints]; rfl
theorem shaped_ints {ns : List Int} : SeqAt.shaped (.list (ns.map PyData.int)) = true := by
  show (PyData.canLayAll0 (ns.map PyData.int) && decide (PyData.depthAll (ns.map PyData.int) + 1 ≤ 64)) = true
  rw [lay_ints, depth_ints]; rfl
theorem eqvAll_ints : ∀ {ns ms : List Int}, PyData.eqvAll (ns.map PyData.int) (ms.map PyData.int) = decide (ns = ms)
  | [], [] => rfl
  | [], _ :: _ => rfl
  | _ :: _, [] => rfl
  | n :: ns, m :: ms => by
    show ((n == m) && PyData.eqvAll (ns.map PyData.int) (ms.map PyData.int)) = decide (n :: ns = m :: ms)
    rw [eqvAll_ints, Bool.eq_iff_iff]
    simp
theorem dp_ints {a : Addr} {ns : List Int} (h : SqL K H a (ns.map V.int)) : Dp K H (.ref a) (.list (ns.map PyData.int)) := .lst h dpAll_ints
theorem g_eqL {a b : Addr} {ns ms : List Int} (h1 : SqL K H a (ns.map V.int)) (h2 : SqL K H b (ms.map V.int)) (q : Q (.bl (decide (ns = ms))) H) : rEqD K (.ref a) (.ref b) H Q :=
  ⟨_, _, dp_ints h1, dp_ints h2, shaped_ints, shaped_ints, by rw [show PyData.eqv (.list (ns.map PyData.int)) (.list (ms.map PyData.int)) = decide (ns = ms) from eqvAll_ints]; exact q⟩
theorem g_neL {a b : Addr} {ns ms : List Int} (h1 : SqL K H a (ns.map V.int)) (h2 : SqL K H b (ms.map V.int)) (q : Q (.bl (!decide (ns = ms))) H) : rNeD K (.ref a) (.ref b) H Q :=
  ⟨_, _, dp_ints h1, dp_ints h2, shaped_ints, shaped_ints, by rw [show PyData.eqv (.list (ns.map PyData.int)) (.list (ms.map PyData.int)) = decide (ns = ms) from eqvAll_ints]; exact q⟩
theorem g_sum {a : Addr} {ns : List Int} (h : SqL K H a (ns.map V.int)) (q : Q (.int ns.sum) H) : rSum K [.ref a] H Q := ⟨a, ns, rfl, h, q⟩
end
theorem ixN_nat {n : Nat} {k : Int} (h0 : 0 ≤ k) (h : k < (n : Int)) : ixN n k = some k.toNat := by
  unfold ixN
  rw [if_pos h0, if_pos h]
theorem g_ref {a : Addr} {A : Addr → Prop} (q : A a) : ∃ b, V.ref a = .ref b ∧ A b := ⟨a, rfl, q⟩
/-! ### objects: the attributes by their places -/
def obj : List Str → List V → List (Str × V)
  | k :: ks, v :: vs => (k, v) :: obj ks vs
  | _, _ => []
theorem obj_len : ∀ (ks : List Str) (vs : List V), (obj ks vs).length ≤ ks.length
  | [], _ => Nat.zero_le _
  | _ :: _, [] => Nat.zero_le _
  | _ :: ks, _ :: vs => Nat.succ_le_succ (obj_len ks vs)
theorem obj_get : ∀ {ks : List Str} {vs : List V} {i : Nat} {k : Str}, ks.Nodup → ks[i]? = some k → (obj ks vs).lookup k = vs[i]?
  | [], _, _, _, _, h => by cases h
  | k0 :: ks, [], i, k, _, _ => by simp [obj]
  | k0 :: ks, v :: vs, 0, k, _, h => by
    have e : k0 = k := Option.some.inj h
    subst e
    simp [obj]
  | k0 :: ks, v :: vs, i + 1, k, nd, h => by
    have nd' := List.nodup_cons.mp nd
    have hk : k ∈ ks := List.mem_of_getElem? h
    have ne : (k == k0) = false := by
      rw [beq_eq_false_iff_ne]
      intro e
      subst e
      exact nd'.1 hk
    show List.lookup k ((k0, v) :: obj ks vs) = vs[i]?
    rw [List.lookup_cons, ne]
    exact obj_get nd'.2 h
theorem obj_none : ∀ {ks : List Str} {vs : List V} {k : Str}, k ∉ ks → (obj ks vs).lookup k = none
  | [], _, _, _ => rfl
  | _ :: _, [], _, _ => rfl
  | k0 :: ks, v :: vs, k, h => by
    have ne : (k == k0) = false := by
      rw [beq_eq_false_iff_ne]
      intro e
      subst e
      exact h (List.mem_cons_self ..)
    show List.lookup k ((k0, v) :: obj ks vs) = none
    rw [List.lookup_cons, ne]
    exact obj_none fun z => h (List.mem_cons_of_mem _ z)
theorem obj_put : ∀ {ks : List Str} {vs : List V} {i : Nat} {k : Str} {y : V}, ks.Nodup → ks[i]? = some k → i < vs.length → putF k y (obj ks vs) = obj ks (vs.set i y)
  | [], _, _, _, _, _, h, _ => by cases h
  | _ :: _, [], _, _, _, _, _, h => by simp at h
  | k0 :: ks, v :: vs, 0, k, y, _, h, _ => by
    have e : k0 = k := Option.some.inj h
    subst e
    show (if k0 = k0 then _ else _) = _
    rw [if_pos rfl]
    rfl
  | k0 :: ks, v :: vs, i + 1, k, y, nd, h, hl => by
    have nd' := List.nodup_cons.mp nd
    have hk : k ∈ ks := List.mem_of_getElem? h
    have ne : ¬ k0 = k := by
      intro e
      subst e
      exact nd'.1 hk
    show (if k0 = k then _ else (k0, v) :: putF k y (obj ks vs)) = (k0, v) :: obj ks (vs.set i y)
    rw [if_neg ne, obj_put nd'.2 h (by simpa using hl)]
theorem obj_new : ∀ {ks : List Str} {vs : List V} {k : Str} {y : V}, ks.Nodup → ks[vs.length]? = some k → putF k y (obj ks vs) = obj ks (vs ++ [y])
  | [], _, _, _, _, h => by simp at h
  | k0 :: ks, [], k, y, _, h => by
    have e : k0 = k := Option.some.inj h
    subst e
    show [(k0, y)] = obj (k0 :: ks) [y]
    cases ks <;> rfl
  | k0 :: ks, v :: vs, k, y, nd, h => by
    have nd' := List.nodup_cons.mp nd
    have h' : ks[vs.length]? = some k := h
    have hk : k ∈ ks := List.mem_of_getElem? h'
    have ne : ¬ k0 = k := by
      intro e
      subst e
      exact nd'.1 hk
    show (if k0 = k then _ else (k0, v) :: putF k y (obj ks vs)) = (k0, v) :: obj ks (vs ++ [y])
    rw [if_neg ne, obj_new nd'.2 h']
section
variable {K : PySem.W.Frag} {σ : St} {H : Hp} {Q : VK} {v y : V} {ta tv : TE} {D : Ends} {f m : Str} {a C dx : Addr} {ks : List Str} {vs : List V} {i : Nat}
theorem g_fld (h : ta σ H fun x H1 => ∃ a C dx fs v, x = .ref a ∧ H1 a = some (.ins C dx fs) ∧ Cls K C ∧ NoAttr K C f ∧ fs.lookup f = some v ∧ Q v H1) : tFld K ta f σ H Q := h
theorem g_fldE {A : V → Prop} (ho : H a = some (.ins C dx (obj ks vs))) (c : Cls K C) (n : NoAttr K C f) (nd : ks.Nodup) (hk : ks[i]? = some f) (hv : vs[i]? = some v) (q : A v) :
    ∃ a' C' dx' fs v', V.ref a = .ref a' ∧ H a' = some (.ins C' dx' fs) ∧ Cls K C' ∧ NoAttr K C' f ∧ fs.lookup f = some v' ∧ A v' := ⟨a, C, dx, _, v, rfl, ho, c, n, (obj_get nd hk).trans hv, q⟩
theorem g_sfld (h : tv σ H fun y H1 => ta σ H1 fun x H2 => ∃ a C dx fs, x = .ref a ∧ H2 a = some (.ins C dx fs) ∧ Cls K C ∧ NoAttr K C f ∧ fs.length < 1000 ∧ D.nx σ (upd H2 a (.ins C dx (putF f y fs)))) : sFld K ta tv f D σ H := h
theorem g_putE {A : Hp → Prop} (ho : H a = some (.ins C dx (obj ks vs))) (c : Cls K C) (n : NoAttr K C f) (nd : ks.Nodup) (h1 : ks.length < 1000) (hk : ks[i]? = some f) (hv : i < vs.length) (q : A (upd H a (.ins C dx (obj ks (vs.set i y))))) :
    ∃ a' C' dx' fs, V.ref a = .ref a' ∧ H a' = some (.ins C' dx' fs) ∧ Cls K C' ∧ NoAttr K C' f ∧ fs.length < 1000 ∧ A (upd H a' (.ins C' dx' (putF f y fs))) :=
  ⟨a, C, dx, _, rfl, ho, c, n, Nat.lt_of_le_of_lt (obj_len ks vs) h1, by rw [obj_put nd hk hv]; exact q⟩
theorem g_newE {A : Hp → Prop} (ho : H a = some (.ins C dx (obj ks vs))) (c : Cls K C) (n : NoAttr K C f) (nd : ks.Nodup) (h1 : ks.length < 1000) (hk : ks[vs.length]? = some f) (q : A (upd H a (.ins C dx (obj ks (vs ++ [y]))))) :
    ∃ a' C' dx' fs, V.ref a = .ref a' ∧ H a' = some (.ins C' dx' fs) ∧ Cls K C' ∧ NoAttr K C' f ∧ fs.length < 1000 ∧ A (upd H a' (.ins C' dx' (putF f y fs))) :=
  ⟨a, C, dx, _, rfl, ho, c, n, Nat.lt_of_le_of_lt (obj_len ks vs) h1, by rw [obj_new nd hk]; exact q⟩
theorem g_meth {sp : Sp} {dvs : List V} {E : XK} {t : TA} (h : ta σ H fun x H1 => ∃ a dx fs, x = .ref a ∧ H1 a = some (.ins C dx fs) ∧ fs.lookup m = none ∧ t σ H1 fun vs H2 => sp (x :: (vs ++ dvs)) H2 Q E) : tMeth C m sp dvs E ta t σ H Q := h
theorem g_methE {A : Prop} (ho : H a = some (.ins C dx (obj ks vs))) (no : m ∉ ks) (q : A) : ∃ a' dx' fs, V.ref a = .ref a' ∧ H a' = some (.ins C dx' fs) ∧ fs.lookup m = none ∧ A := ⟨a, dx, _, rfl, ho, obj_none no, q⟩
theorem g_make {sp : Sp} {dvs : List V} {E : XK} {t : TA} (h : t σ H fun vs H1 => ∀ x dx, H1 x = none → H1 dx = none → dx ≠ x → sp (.ref x :: (vs ++ dvs)) (upd (upd H1 dx (.own x)) x (.ins C dx [])) (fun v H2 => v = .non ∧ Q (.ref x) H2) E) : tMake C sp dvs E t σ H Q := h
theorem g_prop {sp : Sp} {dvs : List V} {E : XK} (h : ta σ H fun x H1 => ∃ a dx fs, x = .ref a ∧ H1 a = some (.ins C dx fs) ∧ sp (.ref a :: dvs) H1 Q E) : tProp C sp dvs E ta σ H Q := h
theorem g_propE {A : Addr → Prop} (ho : H a = some (.ins C dx (obj ks vs))) (q : A a) : ∃ a' dx' fs, V.ref a = .ref a' ∧ H a' = some (.ins C dx' fs) ∧ A a' := ⟨a, dx, _, rfl, ho, q⟩
theorem g_absE {A : Int → Prop} {n : Int} (q : A n) : ∃ i, [V.int n] = [V.int i] ∧ A i := ⟨n, rfl, q⟩
end
/-- a slice of ints -/
theorem cut_ints (ns : List Int) (lo hi : Option Int) : ∃ ms : List Int, cutV (ns.map V.int) lo hi = ms.map V.int ∧ ms.length ≤ ns.length := by
  unfold cutV
  refine ⟨(ns.drop (HT.sIx (ns.map V.int).length 0 lo)).take (HT.sIx (ns.map V.int).length (ns.map V.int).length hi - HT.sIx (ns.map V.int).length 0 lo), ?_, ?_⟩
  · rw [List.map_take, List.map_drop]
  · rw [List.length_take, List.length_drop]
    omega
theorem g_nameE {i : Nat} {v : V} {σ σ' : St} {H : Hp} {A : St → Hp → Prop} (e : σ.set i (some v) = σ') (q : A σ' H) : gName i v σ H A := by
  subst e
  exact q
theorem but_sq {K : PySem.W.Frag} {p : Addr} {H H' : Hp} {a : Addr} {xs : List V} (e : But p H H') (n : a ≠ p) (h : SqL K H a xs) : SqL K H' a xs := by
  rcases h with (h | ⟨o, h⟩) | h
  · exact .inl (.inl (e _ _ n h))
  · exact .inl (.inr ⟨o, e _ _ n h⟩)
  · exact .inr h
theorem g_star {K : PySem.W.Frag} {te : TE} {t : TA} {σ : St} {H : Hp} {Q : List V → Hp → Prop} (h : te σ H fun x H1 => ∃ p xs, x = V.ref p ∧ (SqT K H1 p xs ∨ SqL K H1 p xs) ∧ t σ H1 fun ys H2 => Q (xs ++ ys) H2) : StX.tStar K te t σ H Q := h
theorem g_while {c : TT} {tb : TS} {D : Ends} {σ : St} {H : Hp} (W : Nat → St → Hp → Prop) (h0 : ∃ m, W m σ H) (h : ∀ m σ H, W m σ H → c σ H fun b H1 => if b = true then ∃ N : St → Hp → Prop, (∀ σ' H', N σ' H' → ∃ m', m' < m ∧ W m' σ' H') ∧ tb { D with nx := N, ct := N, bk := D.nx } σ H1 else D.nx σ H1) : tWhile c tb D σ H := ⟨W, h0, h⟩
theorem g_cut {t u : TS} {D : Ends} {σ : St} {H : Hp} (Mid : St → Hp → Prop) (h1 : t { D with nx := Mid } σ H) (h2 : ∀ σ' H', Mid σ' H' → u D σ' H') : C8.tCut t u D σ H := ⟨Mid, h1, h2⟩
theorem g_min {K : PySem.W.Frag} {a : Addr} {ns : List Int} {H : Hp} {Q : VK} (h : SqL K H a (ns.map V.int)) (h0 : 0 < ns.length) (q : ∀ m, m ∈ ns → (∀ y, y ∈ ns → m ≤ y) → Q (.int m) H) : rMin K [.ref a] H Q := ⟨a, ns, rfl, h, h0, q⟩
theorem g_max {K : PySem.W.Frag} {a : Addr} {ns : List Int} {H : Hp} {Q : VK} (h : SqL K H a (ns.map V.int)) (h0 : 0 < ns.length) (q : ∀ m, m ∈ ns → (∀ y, y ∈ ns → y ≤ m) → Q (.int m) H) : rMax K [.ref a] H Q := ⟨a, ns, rfl, h, h0, q⟩
theorem atI_nat' {xs : List V} {i : Int} {j : Nat} {v : V} (e : i = (j : Int)) (h : xs[j]? = some v) : atI xs i = some v := at_of e h
theorem ixN_last {n : Nat} (h : 0 < n) : ixN n (-1) = some (n - 1) := by
  unfold ixN
  rw [if_neg (by decide), if_pos (by omega)]
  congr 1
  omega
theorem atI_neg1 {xs : List V} {v : V} (h : xs[xs.length - 1]? = some v) : atI xs (-1) = some v := by
  obtain ⟨hl, _⟩ := List.getElem?_eq_some_iff.mp h
  unfold atI
  rw [ixN_last (by omega)]
  exact h
theorem snoc_of {α : Type} {xs : List α} (h : 0 < xs.length) : ∃ a x, xs = a ++ [x] :=
  ⟨xs.dropLast, xs.getLast (List.ne_nil_of_length_pos h), (List.dropLast_concat_getLast _).symm⟩
theorem set_last {α : Type} {a : List α} {x y : α} : (a ++ [x]).set a.length y = a ++ [y] := by
  rw [List.set_append_right _ _ (Nat.le_refl _), Nat.sub_self]
  rfl
end My
namespace My
open PySem PySem.Spec L2
local macro_rules | `(tactic| walk_at "side") => `(tactic| first | assumption | decide | omega | exact ⟨by decide, by decide⟩ | exact ⟨by decide, by decide, by decide⟩ | decide +kernel | exact cdivW (by decide +kernel) (by decide +kernel) | exact Or.inl ⟨by omega, by omega⟩ | exact Or.inr ⟨by omega, by omega⟩ | (simp only [List.length_map, List.length_cons, List.length_nil, List.length_append]; omega))
local macro_rules | `(tactic| walk_at "fact") => `(tactic| first | assumption | omega | with_reducible rfl)
local macro_rules | `(tactic| walk_at "use") => `(tactic| fail "use")
local macro_rules | `(tactic| walk_at "go1") => `(tactic| with_reducible first | refine g_seq ?_ | refine g_asg ?_ | refine g_ret ?_ | refine g_ifS ?_ | refine g_drop ?_ | refine g_star ?_ | refine g_nx ?_ | refine g_rt ?_ | refine g_bkE ?_ | refine g_ctE ?_ | refine g_next ?_ | refine g_retN ?_ | refine g_brk ?_ | refine g_ct ?_ | refine g_c ?_ | refine g_op ?_ | refine g_un ?_ | refine g_rI0 ?_ | refine g_rU ?_ | refine g_rEqI ?_ | refine g_rNeI ?_ | refine g_isN ?_ | refine g_rIsB ?_ | refine g_rNotB ?_ | refine g_test ?_ | refine g_B ?_ | refine g_bl ?_ | refine g_and ?_ | refine g_or ?_ | refine g_not ?_ | refine g_andV ?_ | refine g_orV ?_ | refine g_notV ?_ | refine g_if ?_ | refine g_chain ?_ | refine g_yes ?_ | refine g_lc ?_ | refine g_revR ?_ | refine g_rng1 ?_ | refine g_iList ?_ | refine g_nil ?_ | refine g_cons ?_ | refine g_tup ?_ | refine g_lst ?_ | refine g_call ?_ | refine g_CB ?_ | refine g_sl ?_ | refine g_noPart ?_ | refine g_part ?_ | refine g_intE ?_ | refine g_ref ?_ | refine g_fld ?_ | refine g_sfld ?_ | refine g_meth ?_ | refine g_make ?_ | refine g_prop ?_  | refine g_ipI ?_ | refine g_int1 ?_ | refine g_int1B ?_ | refine g_one ?_ | refine g_two ?_ | refine g_isiI ?_ | refine g_isiIB ?_ | refine g_isiB ?_ | refine g_BM ?_ | refine g_BM0 ?_ | refine g_sub ?_)
local macro_rules | `(tactic| walk_at "go") => `(tactic| repeat (first | walk_at "go1" | ((with_reducible refine' g_nameE ?sd_ ?_); case sd_ => dsimp only [List.set_cons_succ, List.set_cons_zero]) | ((with_reducible refine' g_var ?sd_ ?_); case sd_ => exact rfl) | ((with_reducible refine' g_aug ?sd_ ?_); case sd_ => exact rfl) | ((with_reducible refine' g_rI ?sd_ ?_); case sd_ => walk_at "side") | ((with_reducible refine' g_dT ?sd_ ?_); case sd_ => walk_at "fact") | ((with_reducible refine' g_dF ?sd_ ?_); case sd_ => walk_at "fact") | ((with_reducible refine' g_nT ?sd_ ?_); case sd_ => walk_at "fact") | ((with_reducible refine' g_nF ?sd_ ?_); case sd_ => walk_at "fact") | (with_reducible refine g_iT rfl ?_) | (with_reducible refine g_iF rfl ?_) | walk_at "use"))
local macro_rules | `(tactic| walk_at "nw") => `(tactic| (generalize zq : upd _ _ _ = Hq; have sq : Same _ Hq := (by rw [← zq]; exact same_upd (by assumption)); have kq := (congrFun zq _).symm.trans upd_same; clear zq))
local macro_rules | `(tactic| walk_at "bt") => `(tactic| (generalize zq : upd _ _ _ = Hq; have bq : But _ _ Hq := (by rw [← zq]; exact But.refl.upd); have kq := (congrFun zq _).symm.trans upd_same; clear zq))
/-! ### a method whose first statement is super().__init__(e, ..) of a plain class -/
structure PSsS (X : Cx) (body : List Stmt) (t : TS) : Prop where
  run : ∀ (b0 : List Stmt) (pins : List (Addr × Obj)) (s : Shared) (σ : L2.St) (H : Hp) (D : Ends), Inv X pins σ H s → t D σ H → PySem.wpAt (model X.prog X.w) X.A (.func b0 X.env) (execs body X.env) (SP X pins D) X.xe s
/-- what of the text such a method must have: f of the class at C, over a base whose __init__ is f2 -/
structure SupK (K : PySem.W.Frag) (P : Program) (f f2 C cda cc : Addr) (fd : FuncData) : Prop where
  fo : ∃ oc od sl, K.lookup f = some ⟨oc, od, .func fd, sl⟩
  code : ∃ ccl cdd ccs vs file tf, K.lookup cda = some ⟨ccl, cdd, .fields vs, ccs⟩ ∧ vs[2]? = some (.str file tf) ∧ ((P.main.file : Str) == file) = true
  cell : ∃ cl cld csl, K.lookup cc = some ⟨cl, cld, .cell (some (.ref C)), csl⟩
  cls : ∃ cd, PySem.W.clsIn K C = some cd
  sub : PySem.W.mroIn K C (.ref C) = some true
  top : (P.main.scope.names.lookup ("super" : Str)).isSome = false
  up : PySem.W.ks_superIn K C C "__init__" = some (some (.ref f2))
  ty : PySem.W.typeIn K (.ref f2) = some (.type "function")
  fn : PySem.W.fnIn K f2 = true
  op : PySem.W.nsIn K cStatics "thirdparty.any" = some none
def tSup (C : Addr) (sp : Sp) (ta : TA) (t : TS) : TS := fun D σ H => ∃ x dx fs, σ[0]? = some (some (.ref x)) ∧ H x = some (.ins C dx fs) ∧ ta σ H fun us H1 => sp (.ref x :: us) H1 (fun _ H2 => t D σ H2) E0
theorem pss_super {X : Cx} {f f2 C cda cc : Addr} {fd fd2 : FuncData} {k : Nat} {ps2 : List Str} {sp2 : Sp} {ta : TA} {t : TS} {pl : Sem Bool} {p0 p1 p2 p3 p4 : Pos} {e : Expr} {es : List Expr} {rest : List Stmt} {ar : Arg} {prm : Arguments}
    (F : SupK X.K X.prog f f2 C cda cc fd) (hfu : X.env.func = some f) (hco : X.env.code = .ref cda) (hcl : X.env.cells.lookup ("__class__" : Str) = some cc) (hmg : X.mg "super" = none) (hks : X.env.kindOf "super" = some .globalImplicit) (hkc : X.env.kindOf "__class__" = some .free)
    (hpar : fd.params = prm) (hp : (prm.posonlyargs ++ prm.args).head? = some ar) (h0 : X.N[0]? = some ar.arg) (hka : X.env.kindOf ar.arg = some .local)
    (F2 : FnOk X.prog X.w X.K X.mg X.base CX0 k f2 fd2 ps2 sp2) (b2 : Binds X.K fd2 ps2 []) (hr : Room k X.A) (ha : PA X (e :: es) ta) (hs : PSs X rest t)
    (hi : interactive X.env = false := by rfl) (hsw : swapsWith (.Call (.Attribute (.Call (.Name "super" p0) [] [] p1) "__init__" p2) (e :: es) [] p3) none p4.line X.env = pure false := by rfl)
    (hst : starEach (e :: es) X.env = (false, eval e X.env) :: starEach es X.env := by rfl) (hpl : (backTo p3 (starEach es X.env)).any (·.1) = false := by rfl)
    (ht : eval (.Call (.Attribute (.Call (.Name "super" p0) [] [] p1) "__init__" p2) (e :: es) [] p3) X.env = (do
      let ov ← attributeBase (.Call (.Name "super" p0) [] [] p1) "__init__" X.env (eval (.Call (.Name "super" p0) [] [] p1) X.env)
      standAt p2.atName
      let (f, first) ← holding [ov] (getMethod ov "__init__" pl)
      callWith p3 f first (backTo p3 (starEach (e :: es) X.env)) []) := by rfl) :
    PSsS X (.Expr (.Call (.Attribute (.Call (.Name "super" p0) [] [] p1) "__init__" p2) (e :: es) [] p3) p4 :: rest) (tSup C sp2 ta t) := by
  refine ⟨fun b0 pins s σ H D I hq => ?_⟩
  obtain ⟨x, dx, fs, hx0, hx, hq⟩ := hq
  obtain ⟨oc, od, sl, hfo⟩ := F.fo
  obtain ⟨ccl, cdd, ccs, cvs, file, tf, hcode, hvs, hfile⟩ := F.code
  obtain ⟨cl, cld, csl, hcell⟩ := F.cell
  obtain ⟨cd, hcd⟩ := F.cls
  have KX : X.K.In s.heap := I.kIn
  obtain ⟨oD, hD1, hD2⟩ : ∃ oD, s.heap.get? C = some oD ∧ oD.data = .cls cd := by
    unfold PySem.W.clsIn at hcd
    split at hcd
    · rename_i c d cd' sl' ho
      cases hcd
      exact ⟨_, KX _ _ ho, rfl⟩
    · cases hcd
  obtain ⟨mA, J0, _⟩ := ins_get I.hok hx
  obtain ⟨odx, J, _⟩ := J0.look
  obtain ⟨m, hns, hvals⟩ := I.loc
  have hself : m ar.arg = some (.ref x) := by
    obtain ⟨u, ru, lk⟩ := hvals 0 ar.arg (.ref x) h0 hx0 (.inl hka)
    cases ru
    rcases lk with ⟨_, z⟩ | ⟨z, _⟩
    · exact z
    · rw [hka] at z
      rcases z with z | z <;> cases z
  refine ks_wpAt_execs_cons (ks_wpAt_Expr_any (ks_wpAt_MethodCall (pl := pl) ?_ ht) hi hsw)
  refine ks_wpAt_super_base hks hkc (by decide) hfu (KX _ _ hfo) rfl (by rw [hpar]; exact hp) hco (KX _ _ hcode) rfl hvs hfile F.top ?_
  obtain ⟨mb, hb1, hb2⟩ := I.mod.blt
  refine PySem.W.ks_loadName_global I.ok.kind hks (Calls.loadGlobal_builtin (by rw [I.ok.glob]; exact I.mod.glob.keeps I.bk) hmg (by rw [I.ok.blt]; exact hb1.keeps I.bk) ((hb2 "super" (by decide)).trans (show bootBuiltins "super" = some (.type "super") by first | boot_by_name | rfl | kernel_rfl)) ⟨rfl, ?_⟩)
  refine wpAny_loadName_free I.ok.kind hkc hcl ⟨_, KX _ _ hcell, rfl⟩ ?_
  refine wpAny_loadName_local I.ok.kind hka hns hself ?_
  refine ks_wpAny_isType_cls hD1 hD2 ⟨rfl, ?_⟩
  refine ks_wpAny_call_super hD1 hD2 J.at_ J.cls (fun c e => ?_) (PySem.W.looks_mroIn KX F.sub) (fun h' eso ks => ?_)
  · have := J.no
    unfold PySem.W.notCls at this
    rw [e] at this
    exact Bool.noConfusion this
  have I1 : Inv X pins σ H { s with heap := h' } := I.kept ks
  obtain ⟨mA', J0', _⟩ := ins_get I1.hok hx
  obtain ⟨odx', J1, _⟩ := J0'.look
  have hxC : x ≠ C := PySem.W.ks_ne I1.kIn J1 hcd
  obtain ⟨of, hof, hofc⟩ : ∃ of, h'.get? f2 = some of ∧ of.cls = .type "function" := by
    have ht' : (X.K.lookup f2).map (·.cls) = some (.type "function") := F.ty
    cases z : X.K.lookup f2 with
    | none => rw [z] at ht'; cases ht'
    | some of => rw [z] at ht'; exact ⟨of, I1.kIn _ _ z, Option.some.inj ht'⟩
  have hm := F.up
  unfold PySem.W.ks_superIn at hm
  rw [hcd] at hm
  refine ks_wpAny_getMethod_super eso (PySem.W.looks_opaque I1.kIn F.op) (l₀ := cd.mro) ?_ rfl I1.kIn hm hof hofc hxC (by decide) ?_
  · exact fun A Q E s k q => wpAny_bind ((PySem.W.looks_clsIn I1.kIn hcd) A _ E s k (wpAny_pure q))
  have hb : (h'.push (PySem.W.methodObj (.ref f2) (.ref x))).get? h'.objs.size = some (PySem.W.methodObj (.ref f2) (.ref x)) := Heap.get?_push_at rfl rfl
  have I2 : Inv X pins σ H { s with heap := h'.push (PySem.W.methodObj (.ref f2) (.ref x)), toks := s.toks + 1 } := I1.kept (t' := s.toks + 1) fun b ob z => Heap.get?_push_of_some _ z
  have I3 : Inv X ((h'.objs.size, PySem.W.methodObj (.ref f2) (.ref x)) :: pins) σ H { s with heap := h'.push (PySem.W.methodObj (.ref f2) (.ref x)), toks := s.toks + 1 } := I2.pins_of fun q hq => by
    rcases List.mem_cons.mp hq with e | e
    · subst e
      exact ⟨hb, I1.hok.fresh (Nat.le_refl _), Nat.ne_of_gt I1.lt, I1.nofs (Nat.le_refl _), fun v z => nomatch z⟩
    · exact I2.pin q (List.mem_append_right _ e)
  rw [hst]
  refine PySem.W.callWith_of (P := PySem.W.MethP X.K h'.objs.size f2 (.ref x)) (by show ((false || (backTo p3 (starEach es X.env)).any (·.1)) || false) = false; rw [hpl]; rfl) (PySem.W.keeps_M F.fn) (Calls.evalArgs_plain ?_)
  have har := ha.run p3 _ _ σ H _ I3 hq
  rw [hst] at har
  refine thn har fun us s3 ⟨vs, H1, I4, rv, q⟩ => ?_
  have hp4 := (I4.pin (h'.objs.size, PySem.W.methodObj (.ref f2) (.ref x)) (List.mem_append_right _ List.mem_cons_self)).1
  have I5 : Inv X pins σ H1 s3 := I4.pins_of fun q hq => I4.pin q (List.mem_append_right _ (List.mem_cons_of_mem _ hq))
  refine ⟨⟨hp4, I4.kIn⟩, ?_⟩
  have r2 : Vals (V.ref x :: vs) (Value.ref x :: us) := .cons rfl rv
  have hl := F2.len _ _ _ _ q
  refine wpAny_call (ks_codeAny_call_bound hp4 (codeAny_mono (F2.run X.A X.stack s3 H1 ⟨Value.ref x :: us, []⟩ (Value.ref x :: us) (V.ref x :: vs) _ E0 hr I5.env0 (by
    have := b2 s3 (Value.ref x :: us) I5.kIn (by rw [List.append_nil, ← r2.length]; exact hl)
    simpa using this) r2 q) fun r s' hq => ?_))
  cases r with
  | error e => exact hq.elim
  | ok fl =>
    cases fl with
    | ret w =>
      obtain ⟨z, H', I', rz, q⟩ := I5.after hq
      exact wpAt_of_wpAny (hs.run pins s' σ H' D I' q)
    | next => exact False.elim hq
    | brk => exact False.elim hq
    | cont => exact False.elim hq
/-- THE RULE: such a method by its body -/
theorem fn_ofS {CX : CXT} {P : Program} {w : World} {K : PySem.W.Frag} {mg : Str → Option Value} {base : Heap} {k : Nat} {f f2 C cda cc : Addr} {name qual : Str} {params : Arguments} {body : List Stmt} {scope : Scope} {dV kV doc pm ct : Value} {an : Option Addr}
    {N ps : List Str} {sp : Sp} (F : SupK K P f f2 C cda cc (PySem.W.fnX name qual params body scope [("__class__", cc)] dV kV doc pm an (.ref cda) ct)) (hcd : PySem.W.codeIn K (.ref cda) qual = true) (S : NdefX.NScope N ps ["__class__"] scope)
    (len : ∀ vs H Q E, sp vs H Q E → vs.length = ps.length)
    (hbody : ∀ (A : Around) (outer : List Env) (s : Shared) (H : Hp) (vs : List V) (Q : VK) (E : XK), Room k (A.deeper (NdefX.envF ⟨name, qual, params, body, scope, [("__class__", cc)], cda⟩ f s.heap.objs.size)) → sp vs H Q E →
      ∃ t, PSsS (NdefX.ncx CX P w K mg base N ⟨name, qual, params, body, scope, [("__class__", cc)], cda⟩ f A outer s H E) body t ∧ t { nx := fun _ H' => Q .non H', rt := Q } (NdefX.startF N vs [none]) H) :
    FnOk P w K mg base CX (k + 1) f (PySem.W.fnX name qual params body scope [("__class__", cc)] dV kV doc pm an (.ref cda) ct) ps sp := by
  refine ⟨len, fun A outer s H args us vs Q E hr e0 hb r hsp => ?_⟩
  have hl := len _ _ _ _ hsp
  obtain ⟨oc, od, sl, lk⟩ := F.fo
  obtain ⟨cl, cld, csl, hcell⟩ := F.cell
  have KX : K.In s.heap := e0.mod.kin.keeps fun b o e => (e0.bs b o e).1
  have lim : s.heap.NoLimit := e0.mod.nolimit.keeps fun b o e => (e0.bs b o e).1
  have look1 : ∀ (y : Str) (c : Addr), List.lookup y [(("__class__" : Str), cc)] = some c → c = cc ∧ y = "__class__" := fun y c e => by
    rw [List.lookup_cons] at e
    split at e
    · rename_i z
      cases e
      exact ⟨rfl, beq_iff_eq.mp z⟩
    · cases e
  have CA : NdefX.CellsAt [("__class__", cc)] ["__class__"] [none] s.heap H := by
    refine ⟨rfl, fun y c e => ?_, fun x y c e1 e2 => ?_, fun i y e => ?_⟩
    · obtain ⟨rfl, _⟩ := look1 y c e
      exact ⟨(e0.bs _ _ (e0.mod.kin _ _ hcell)).2, _, _, KX _ _ hcell, rfl⟩
    · rw [(look1 x c e1).2, (look1 y c e2).2]
    · cases i with
      | zero =>
        cases e
        refine ⟨cc, by rw [List.lookup_cons, beq_self_eq_true], fun v z => ?_⟩
        cases z
      | succ j => simp at e
  refine ks_codeAny_call_defAt hr.depth (KX _ _ lk) rfl lim (PySem.W.codeRec_of KX hcd) rfl hb S.nocell (fun ⟨n, _⟩ hy => S.par n (List.of_mem_zip hy).1) (fun h₁ hns kp => ?_) S.co S.gen S.kind
  obtain ⟨t, ht, hq⟩ := hbody A outer s H vs Q E (hr.deeper _) hsp
  have I : Inv (NdefX.ncx CX P w K mg base N ⟨name, qual, params, body, scope, [("__class__", cc)], cda⟩ f A outer s H E) [] (NdefX.startF N vs [none]) H { s with heap := h₁, toks := s.toks + (ps.zip us).length } := NdefX.inv_startN S hr.hd e0 hl r CA hns kp
  refine ks_wpAt_mono (ht.run body [] _ (NdefX.startF N vs [none]) H _ I hq) (fun fl s' hs => ?_) fun e s' hs => hs
  have fin : ∀ {σ' : L2.St} {H' : Hp} {v : V} {u : Value}, Inv (NdefX.ncx CX P w K mg base N ⟨name, qual, params, body, scope, [("__class__", cc)], cda⟩ f A outer s H E) [] σ' H' s' → L2.RelV v u → Q v H' → CE outer P w H s Q u s' :=
    fun {σ' H' v u} J rv q => ⟨v, H', J.os, J.bare, J.base, J.hok, rv, q⟩
  cases fl with
  | ret u =>
    obtain ⟨v, σ', H', J, rv, q⟩ := hs
    exact fin J rv q
  | next =>
    obtain ⟨σ', H', J, q⟩ := hs
    exact fin (v := V.non) (u := Value.none) J rfl q
  | brk =>
    obtain ⟨_, _, _, q⟩ := hs
    exact False.elim q
  | cont =>
    obtain ⟨_, _, _, q⟩ := hs
    exact False.elim q
/-- such a method of the text as it stands behind the top -/
structure FunS (K : PySem.W.Frag) (P : Program) (x qual : Str) (st : Stmt) (f f2 C cda cc : Addr) (fd : FuncData) : Prop where
  ex : ∃ (kV doc pm ct : Value) (an : Option Addr), fd = PySem.W.fnX x qual (defArgs st) (defBody st) (defScope st) [("__class__", cc)] .none kV doc pm an (.ref cda) ct
  sup : SupK K P f f2 C cda cc fd
  code : PySem.W.codeIn K (.ref cda) qual = true
  kp : PySem.W.keepIn K (.ref f) = true
theorem FunS.params {P : Program} {K : PySem.W.Frag} {f f2 C cda cc : Addr} {x qual : Str} {st : Stmt} {fd : FuncData} (F : FunS K P x qual st f f2 C cda cc fd) : fd.params = defArgs st := by
  obtain ⟨kV, doc, pm, ct, an, rfl⟩ := F.ex
  rfl
theorem FunS.ok {P : Program} {w : World} {K : PySem.W.Frag} {mg : Str → Option Value} {base : Heap} {k : Nat} {f f2 C cda cc : Addr} {x qual : Str} {st : Stmt} {fd : FuncData} {N ps : List Str} {sp : Sp} (F : FunS K P x qual st f f2 C cda cc fd) (S : NdefX.NScope N ps ["__class__"] (defScope st))
    (len : ∀ vs H Q E, sp vs H Q E → vs.length = ps.length)
    (hbody : ∀ (A : Around) (outer : List Env) (s : Shared) (H : Hp) (vs : List V) (Q : VK) (E : XK), Room k (A.deeper (NdefX.envF ⟨x, qual, defArgs st, defBody st, defScope st, [("__class__", cc)], cda⟩ f s.heap.objs.size)) → sp vs H Q E →
      ∃ t, PSsS (NdefX.ncx CX0 P w K mg base N ⟨x, qual, defArgs st, defBody st, defScope st, [("__class__", cc)], cda⟩ f A outer s H E) (defBody st) t ∧ t { nx := fun _ H' => Q .non H', rt := Q } (NdefX.startF N vs [none]) H) :
    FnOk P w K mg base CX0 (k + 1) f fd ps sp := by
  obtain ⟨kV, doc, pm, ct, an, rfl⟩ := F.ex
  exact fn_ofS F.sup F.code S len hbody
theorem FunS.binds {P : Program} {K : PySem.W.Frag} {f f2 C cda cc : Addr} {x qual : Str} {st : Stmt} {fd : FuncData} {ps : List Str} (F : FunS K P x qual st f f2 C cda cc fd)
    (h : ∀ (kV doc pm : Value) (an : Option Addr) (cdv ct : Value) (us : List Value), us.length = ps.length → bindArgs (PySem.W.fnX x qual (defArgs st) (defBody st) (defScope st) [("__class__", cc)] .none kV doc pm an cdv ct) ⟨us, []⟩ = pure (ps.zip us)) : Binds K fd ps [] := by
  obtain ⟨kV, doc, pm, ct, an, rfl⟩ := F.ex
  exact .all (h kV doc pm an (.ref cda) ct)
/-- C.f is a constant of the class -/
def CValE (K : PySem.W.Frag) (C : Addr) (mc : Value) (f : Str) (v : V) : Prop := ∃ u, ClX.CVal K C mc f v u
theorem g_cval {K : PySem.W.Frag} {ta : TE} {f : Str} {σ : L2.St} {H : Hp} {Q : VK} (h : ta σ H fun x H1 => ∃ C mc v u, x = .ref C ∧ ClX.CRead K C mc ∧ ClX.CVal K C mc f v u ∧ Q v H1) : ClX.tCVal K ta f σ H Q := h

def topS (i : Nat) : Stmt := PySem.Challenge.pw_throughline_k45_which_socket_takes_a_seg.main.body.getD i (.Pass ⟨0, 0, 0, 0⟩)
abbrev s_Segment_init__ : Stmt := inClass (topS 3) 0
abbrev s_Socket_init__ : Stmt := inClass (topS 6) 0
abbrev s_Socket_is_for : Stmt := inClass (topS 6) 2
abbrev s_Socket_learn : Stmt := inClass (topS 6) 3
abbrev s_Reno_init__ : Stmt := inClass (topS 12) 0
abbrev s_Reno_upper__init__ : Stmt := inClass (topS 8) 1
abbrev s_Reno_bounded : Stmt := inClass (topS 8) 6
abbrev s_RoundTrip_init__ : Stmt := inClass (topS 14) 0
abbrev s_RoundTrip_within_bounds : Stmt := inClass (topS 14) 5
abbrev s_OffsetSet_init__ : Stmt := inClass (topS 21) 0
abbrev s_Receiver_init__ : Stmt := inClass (topS 23) 0
abbrev s_Sender_init__ : Stmt := inClass (topS 25) 0
abbrev s_Endpoint_init__ : Stmt := inClass (topS 27) 0
abbrev s_Endpoint_has_ended : Stmt := inClass (topS 27) 2
abbrev s_Endpoint_abort : Stmt := inClass (topS 27) 11
abbrev s_Endpoint_end : Stmt := inClass (topS 27) 18
abbrev s_new_control : Stmt := topS 28
abbrev s_Options_init__ : Stmt := inClass (topS 35) 0
abbrev s_Options_fork : Stmt := inClass (topS 35) 4
abbrev s_Options_wrong_names : Stmt := inClass (topS 35) 7
abbrev s_l_rows : Stmt := topS 37
abbrev s_l_pick : Stmt := topS 38
abbrev s_law : Stmt := topS 39
theorem sc_Segment_init__ : FnScope ["self", "source", "target", "seq", "count", "echo", "ack", "syn", "fin", "reset", "marked", "cut", "window", "mss", "scale", "ranges_known", "ranges", "stamp", "data"] ["self", "source", "target", "seq", "count", "echo", "ack", "syn", "fin", "reset", "marked", "cut", "window", "mss", "scale", "ranges_known", "ranges", "stamp", "data"] (defScope s_Segment_init__) := ⟨rfl, rfl, rfl, by decide +kernel, rfl, by decide +kernel, by decide +kernel⟩
theorem sc_Socket_init__ : FnScope ["self", "count", "port", "peer", "peer_port", "endpoint", "listened"] ["self", "count", "port", "peer", "peer_port", "endpoint", "listened"] (defScope s_Socket_init__) := ⟨rfl, rfl, rfl, by decide +kernel, rfl, by decide +kernel, by decide +kernel⟩
theorem sc_Socket_is_for : FnScope ["self", "segment", "sender"] ["self", "segment", "sender"] (defScope s_Socket_is_for) := ⟨rfl, rfl, rfl, by decide +kernel, rfl, by decide +kernel, by decide +kernel⟩
theorem sc_Socket_learn : FnScope ["self", "segment"] ["self", "segment"] (defScope s_Socket_learn) := ⟨rfl, rfl, rfl, by decide +kernel, rfl, by decide +kernel, by decide +kernel⟩
theorem sc_Reno_init__ : NdefX.NScope ["self", "mss", "__class__"] ["self", "mss"] ["__class__"] (defScope s_Reno_init__) := NdefX.nscope_by (by decide +kernel)
theorem sc_Reno_upper__init__ : FnScope ["self", "mss"] ["self", "mss"] (defScope s_Reno_upper__init__) := ⟨rfl, rfl, rfl, by decide +kernel, rfl, by decide +kernel, by decide +kernel⟩
theorem sc_Reno_bounded : FnScope ["self", "octets"] ["self", "octets"] (defScope s_Reno_bounded) := ⟨rfl, rfl, rfl, by decide +kernel, rfl, by decide +kernel, by decide +kernel⟩
theorem sc_RoundTrip_init__ : FnScope ["self", "least", "most"] ["self", "least", "most"] (defScope s_RoundTrip_init__) := ⟨rfl, rfl, rfl, by decide +kernel, rfl, by decide +kernel, by decide +kernel⟩
theorem sc_RoundTrip_within_bounds : FnScope ["self", "ticks"] ["self", "ticks"] (defScope s_RoundTrip_within_bounds) := ⟨rfl, rfl, rfl, by decide +kernel, rfl, by decide +kernel, by decide +kernel⟩
theorem sc_OffsetSet_init__ : FnScope ["self", "ranges", "start", "stop"] ["self", "ranges"] (defScope s_OffsetSet_init__) := ⟨rfl, rfl, rfl, by decide +kernel, rfl, by decide +kernel, by decide +kernel⟩
theorem sc_Receiver_init__ : FnScope ["self", "room"] ["self", "room"] (defScope s_Receiver_init__) := ⟨rfl, rfl, rfl, by decide +kernel, rfl, by decide +kernel, by decide +kernel⟩
theorem sc_Sender_init__ : FnScope ["self", "room"] ["self", "room"] (defScope s_Sender_init__) := ⟨rfl, rfl, rfl, by decide +kernel, rfl, by decide +kernel, by decide +kernel⟩
theorem sc_Endpoint_init__ : FnScope ["self", "options", "now"] ["self", "options", "now"] (defScope s_Endpoint_init__) := ⟨rfl, rfl, rfl, by decide +kernel, rfl, by decide +kernel, by decide +kernel⟩
theorem sc_Endpoint_has_ended : FnScope ["self"] ["self"] (defScope s_Endpoint_has_ended) := ⟨rfl, rfl, rfl, by decide +kernel, rfl, by decide +kernel, by decide +kernel⟩
theorem sc_Endpoint_abort : FnScope ["self"] ["self"] (defScope s_Endpoint_abort) := ⟨rfl, rfl, rfl, by decide +kernel, rfl, by decide +kernel, by decide +kernel⟩
theorem sc_Endpoint_end : FnScope ["self", "cause"] ["self", "cause"] (defScope s_Endpoint_end) := ⟨rfl, rfl, rfl, by decide +kernel, rfl, by decide +kernel, by decide +kernel⟩
theorem sc_new_control : FnScope ["kind", "mss"] ["kind", "mss"] (defScope s_new_control) := ⟨rfl, rfl, rfl, by decide +kernel, rfl, by decide +kernel, by decide +kernel⟩
theorem sc_Options_init__ : FnScope ["self", "mss", "room", "life", "pace", "tries", "min_rto", "max_rto", "ack_delay", "keep_alive", "nagle", "control", "wrong"] ["self", "mss", "room", "life", "pace", "tries", "min_rto", "max_rto", "ack_delay", "keep_alive", "nagle", "control"] (defScope s_Options_init__) := ⟨rfl, rfl, rfl, by decide +kernel, rfl, by decide +kernel, by decide +kernel⟩
theorem sc_Options_fork : FnScope ["self"] ["self"] (defScope s_Options_fork) := ⟨rfl, rfl, rfl, by decide +kernel, rfl, by decide +kernel, by decide +kernel⟩
theorem sc_Options_wrong_names : FnScope ["self", "checks", "is_right", "name"] ["self"] (defScope s_Options_wrong_names) := ⟨rfl, rfl, rfl, by decide +kernel, rfl, by decide +kernel, by decide +kernel⟩
theorem sc_l_rows : FnScope ["script", "count", "rows", "k", "cell"] ["script", "count"] (defScope s_l_rows) := ⟨rfl, rfl, rfl, by decide +kernel, rfl, by decide +kernel, by decide +kernel⟩
theorem sc_l_pick : FnScope ["row", "right", "other"] ["row", "right", "other"] (defScope s_l_pick) := ⟨rfl, rfl, rfl, by decide +kernel, rfl, by decide +kernel, by decide +kernel⟩
theorem sc_law : FnScope ["script", "rows", "options", "count", "peer_count", "end", "sock", "knows", "ended", "k", "row", "source", "target", "sender", "echo", "mine", "syn", "reset", "segment", "known", "due", "told"] ["script"] (defScope s_law) := ⟨rfl, rfl, rfl, by decide +kernel, rfl, by decide +kernel, by decide +kernel⟩
/-! ### the end by one run of the top: facts at written addresses -/
def erG (g : Addr → Option Obj) (a : Addr) : Obj := match g a with
  | some o => o
  | none => default
/-- the objects at these addresses -/
def erK (g : Addr → Option Obj) (as : List Addr) : PySem.W.Frag := as.map fun a => (a, erG g a)
theorem erK_at {g : Addr → Option Obj} {a : Addr} {o : Obj} : ∀ {as : List Addr}, (as.all fun a => (g a).isSome) = true → (erK g as).lookup a = some o → g a = some o
  | [], _, e => nomatch (show (none : Option Obj) = some o from e)
  | b :: r, hs, e => by
    obtain ⟨h1, h2⟩ := He.ba (show ((g b).isSome && r.all fun a => (g a).isSome) = true from hs)
    have e2 : (match a == b with | true => some (erG g b) | false => (erK g r).lookup a) = some o := e
    cases q : (a == b) with
    | true =>
      rw [q] at e2
      have e3 : erG g b = o := Option.some.inj e2
      rw [beq_iff_eq.mp q, ← e3]
      unfold erG
      cases z : g b with
      | none => rw [z] at h1; cases h1
      | some u => rfl
    | false =>
      rw [q] at e2
      exact erK_at h2 e2
theorem erK_in {h : Heap} {as : List Addr} (c : (as.all fun a => (h.get? a).isSome) = true) : (erK h.get? as).In h := fun _ _ e => erK_at c e
/-! a def's object -/
abbrev ErF : Type := Str × Str × Arguments × FuncBody × Scope × Addr × List (Str × Addr) × Value × Value × Value × Addr
def erF (K : PySem.W.Frag) (a : Addr) : Option ErF := match K.lookup a with
  | some ⟨_, _, .func fd, _⟩ => some (fd.name, fd.qualname, fd.params, fd.body, fd.scope, fd.globals, fd.closure, fd.defaults, fd.kwdefaults, fd.code, fd.builtins)
  | _ => none
def erV (n q : Str) (p : Arguments) (b : List Stmt) (sc : Scope) (cl : List (Str × Addr)) (df kv cd : Value) : ErF := (n, q, p, .stmts b, sc, mainGlobals, cl, df, kv, cd, builtinsNs)
theorem erF_ok {K : PySem.W.Frag} {a : Addr} {n q : Str} {p : Arguments} {b : List Stmt} {sc : Scope} {cl : List (Str × Addr)} {df kv cd : Value} (e : erF K a = some (erV n q p b sc cl df kv cd)) :
    ∃ oc od osl doc pm an ct, K.lookup a = some ⟨oc, od, .func (PySem.W.fnX n q p b sc cl df kv doc pm an cd ct), osl⟩ := by
  unfold erF at e
  cases z : K.lookup a with
  | none => rw [z] at e; cases e
  | some o =>
    obtain ⟨oc, od, dt, osl⟩ := o
    rw [z] at e
    cases dt with
    | func fd =>
      obtain ⟨n1, n2, n3, n4, n5, n6, n7, n8, n9, n10, n11, n12, n13, n14, n15⟩ := fd
      have e2 : (some (n1, n2, n3, n4, n5, n6, n7, n8, n9, n13, n15) : Option ErF) = some (n, q, p, .stmts b, sc, mainGlobals, cl, df, kv, cd, builtinsNs) := e
      simp only [Option.some.injEq, Prod.mk.injEq] at e2
      obtain ⟨z1, z2, z3, z4, z5, z6, z7, z8, z9, z10, z11⟩ := e2
      subst z1 z2 z3 z4 z5 z6 z7 z8 z9 z10 z11
      exact ⟨_, _, _, _, _, _, _, rfl⟩
    | _ => cases e
/-! small looks -/
def erT (K : PySem.W.Frag) (a : Addr) (vs : List Value) : Bool := match K.lookup a with
  | some ⟨.type c, _, .seq its _, _⟩ => decide (c = "tuple") && decide (its.toList = vs)
  | _ => false
theorem erT_ok {K : PySem.W.Frag} {a : Addr} {vs : List Value} (h : erT K a vs = true) : ∃ eo en el, K.lookup a = some ⟨.type "tuple", eo, .seq vs.toArray en, el⟩ := by
  unfold erT at h
  cases z : K.lookup a with
  | none => rw [z] at h; cases h
  | some o =>
    obtain ⟨oc, od, dt, osl⟩ := o
    rw [z] at h
    cases oc with
    | type c =>
      cases dt with
      | seq its n =>
        obtain ⟨h1, h2⟩ := He.ba (show (decide (c = "tuple") && decide (its.toList = vs)) = true from h)
        have e1 := of_decide_eq_true h1
        have e2 := of_decide_eq_true h2
        subst e1 e2
        exact ⟨od, n, osl, by rw [Array.toArray_toList]⟩
      | _ => cases h
    | _ => cases dt <;> cases h
def erI (o : Option (Option Value)) (i : Int) : Bool := match o with
  | some (some (.int j _)) => decide (j = i)
  | _ => false
theorem erI_ok {o : Option (Option Value)} {i : Int} (h : erI o i = true) : ∃ t, o = some (some (.int i t)) := by
  unfold erI at h
  split at h
  · rename_i j t; exact ⟨t, by rw [of_decide_eq_true h]⟩
  · cases h
def erS (o : Option (Option Value)) (x : Str) : Bool := match o with
  | some (some (.str y _)) => decide (y = x)
  | _ => false
theorem erS_ok {o : Option (Option Value)} {x : Str} (h : erS o x = true) : ∃ t, o = some (some (.str x t)) := by
  unfold erS at h
  split at h
  · rename_i j t; exact ⟨t, by rw [of_decide_eq_true h]⟩
  · cases h
def erCI (o : Option PySem.W.CFound) (i : Int) : Bool := match o with
  | some (.val (.int j _)) => decide (j = i)
  | _ => false
theorem erCI_ok {o : Option PySem.W.CFound} {i : Int} (h : erCI o i = true) : ∃ t, o = some (.val (.int i t)) := by
  unfold erCI at h
  split at h
  · rename_i j t; exact ⟨t, by rw [of_decide_eq_true h]⟩
  · cases h
def erCS (o : Option PySem.W.CFound) (x : Str) : Bool := match o with
  | some (.val (.str y _)) => decide (y = x)
  | _ => false
theorem erCS_ok {o : Option PySem.W.CFound} {x : Str} (h : erCS o x = true) : ∃ t, o = some (.val (.str x t)) := by
  unfold erCS at h
  split at h
  · rename_i j t; exact ⟨t, by rw [of_decide_eq_true h]⟩
  · cases h
def erP (o : Option (List Value)) (f : Addr) : Bool := match o with
  | some (.ref g :: _) => decide (g = f)
  | _ => false
theorem erP_ok {o : Option (List Value)} {f : Addr} (h : erP o f = true) : ∃ pr, o = some (.ref f :: pr) := by
  unfold erP at h
  split at h
  · rename_i g r; exact ⟨r, by rw [of_decide_eq_true h]⟩
  · cases h
/-- a code object of that file -/
def erL (K : PySem.W.Frag) (a : Addr) (file : Str) : Bool := match K.lookup a with
  | some ⟨_, _, .fields vs, _⟩ => (match (vs.toList[2]? : Option Value) with
    | some (.str fl _) => file == fl
    | _ => false)
  | _ => false
theorem erL_ok {K : PySem.W.Frag} {a : Addr} {file : Str} (h : erL K a file = true) : ∃ c1 c3 vs c5 fl tf, K.lookup a = some ⟨c1, c3, .fields vs, c5⟩ ∧ (vs : Array Value)[2]? = some (.str fl tf) ∧ (file == fl) = true := by
  unfold erL at h
  split at h
  · rename_i c1 c3 vs c5 hl
    split at h
    · rename_i fl tf hv; exact ⟨c1, c3, vs, c5, fl, tf, hl, by rw [← Array.getElem?_toList]; exact hv, h⟩
    · cases h
  · cases h
def erE (K : PySem.W.Frag) (a C : Addr) : Bool := match K.lookup a with
  | some ⟨_, _, .cell (some (.ref D)), _⟩ => decide (D = C)
  | _ => false
theorem erE_ok {K : PySem.W.Frag} {a C : Addr} (h : erE K a C = true) : ∃ c2 c4 c6, K.lookup a = some ⟨c2, c4, .cell (some (.ref C)), c6⟩ := by
  unfold erE at h
  split at h
  · rename_i c2 c4 D c6 hl
    rw [← of_decide_eq_true h]
    exact ⟨c2, c4, c6, hl⟩
  · cases h
theorem er_cls {K : PySem.W.Frag} {C : Addr} (h : (PySem.W.clsIn K C).isSome = true) : ∃ cd, PySem.W.clsIn K C = some cd := Option.isSome_iff_exists.mp h
/-! the Hook -/
abbrev ErA : Type := Bool × List (Option ErF)
def erObs (as : List Addr) (ok : PySem.W.Frag → Bool) (fs : List (Addr × ErF)) (g : Addr → Option Obj) : ErA := ((as.all fun a => (g a).isSome) && ok (erK g as), fs.map fun p => erF (erK g as) p.1)
def erVal (fs : List (Addr × ErF)) : ErA := (true, fs.map fun p => some p.2)
def erSays (ok : PySem.W.Frag → Bool) (fs : List (Addr × ErF)) (K : PySem.W.Frag) : Prop := ok K = true ∧ fs.map (fun p => erF K p.1) = fs.map fun p => some p.2
def erHook (as : List Addr) (ok : PySem.W.Frag → Bool) (fs : List (Addr × ErF)) : PySem.W.Hook where
  α := ErA
  obs := fun s => erObs as ok fs s.heap.get?
  val := fun _ => erVal fs
  says := fun _ h => ∃ K : PySem.W.Frag, K.In h ∧ erSays ok fs K
  of := fun _ s e => by
    have e1 : ((as.all fun a => (s.heap.get? a).isSome) && ok (erK s.heap.get? as)) = true := congrArg (fun z : ErA => z.1) e
    obtain ⟨h1, h2⟩ := He.ba e1
    exact ⟨_, erK_in h1, h2, congrArg (fun z : ErA => z.2) e⟩
  keeps := fun _ _ _ ⟨K, hK, c⟩ k => ⟨K, PySem.W.Frag.In.keeps hK k, c⟩
theorem er_obs {as : List Addr} {ok : PySem.W.Frag → Bool} {fs : List (Addr × ErF)} {g : Addr → Option Obj} {s : Shared} (h : ∀ a, g a = s.heap.get? a) : erObs as ok fs g = (erHook as ok fs).obs s := by
  have e : g = s.heap.get? := funext h
  rw [e] <;> rfl
theorem er_get {fs : List (Addr × ErF)} {K : PySem.W.Frag} (c : fs.map (fun p => erF K p.1) = fs.map fun p => some p.2) (i : Nat) {p : Addr × ErF} (h : fs[i]? = some p) : erF K p.1 = some p.2 := by
  have e2 : (fs.map fun p => erF K p.1)[i]? = (fs.map fun p => some p.2)[i]? := by rw [c]
  rw [List.getElem?_map, List.getElem?_map, h] at e2
  exact Option.some.inj e2

def er_as : List Addr := [mainGlobals, 63, 62, 184, 183, 268, 267, 326, 325, 375, 374, 430, 429, 564, 563, 714, 713, 937, 936, 1206, 1205, 1310, 1309, 1227, 1226, 1240, 1239, PySem.cStatics, 38, 37, 31, 82, 81, 75, 97, 96, 104, 103, 344, 343, 332, 202, 201, 237, 236, 391, 390, 427, 426, 476, 475, 469, 582, 581, 732, 731, 955, 954, 972, 971, 973, 1041, 1040, 1091, 1090, 1217, 1216, 1257, 1256, 1250, 1288, 1287, 1307, 1306, 1321, 1320, 1328, 1327, 1335, 1334, 29, 30, 468]
def er_ok_0 (K : PySem.W.Frag) : Bool := erI (PySem.W.nsIn K mainGlobals "CIRCLE") (4294967296) && (erI (PySem.W.nsIn K mainGlobals "FIRST_NUMBER_STEP") (2654435761) && (erI (PySem.W.nsIn K mainGlobals "MOST_TICKS") (1073741824) && (erI (PySem.W.nsIn K mainGlobals "MOST_UNDER_WAY") (1073741824) && (decide (PySem.W.nsIn K mainGlobals "InvalidOptions" = some (some (.ref 1240))) && (decide (PySem.W.subIn K (.ref 1240) (.type "BaseException") = some true) && (decide (PySem.W.typeIn K (.ref 1240) = some (.type "type")) && (decide (PySem.W.hasDictIn K 1240 = true) && (decide (PySem.W.isClsIn K 1240 = true) && (decide (PySem.W.excIn K 1240 [.type "ValueError", .type "Exception", .type "BaseException", .type "object"] "ValueError.__new__" = true) && (decide (PySem.W.keepIn K (.ref 1240) = true) && (decide (PySem.W.nsIn K mainGlobals "Segment" = some (some (.ref 63))) && (decide (PySem.W.plainGet K 63 Str.empty = true) && (decide (PySem.W.hasDictIn K 63 = true) && (decide (PySem.W.plainOver K 63 = true) && (decide (PySem.W.findIn K (.ref 63) "__setattr__" = some (some (.builtin "object.__setattr__"))) && (decide (PySem.W.makesIn K 63 = true) && (decide (PySem.W.keepIn K (.ref 63) = true) && (decide (PySem.W.findIn K (.ref 63) "__class__" = some (some (.builtin "object.__class__"))) && (decide (PySem.W.mroIn K 63 (.type "object") = some true))))))))))))))))))))
def er_ok_1 (K : PySem.W.Frag) : Bool := decide (PySem.W.specialIn K (.builtin "object.__class__") "__get__" = some (some (.builtin "getset_descriptor.__get__"))) && (decide (PySem.W.takesIn K (.builtin "object.__class__") = some true) && (decide (PySem.W.findIn K (.ref 63) "source" = some none) && (decide (PySem.W.findIn K (.ref 63) "target" = some none) && (decide (PySem.W.findIn K (.ref 63) "seq" = some none) && (decide (PySem.W.findIn K (.ref 63) "count" = some none) && (decide (PySem.W.findIn K (.ref 63) "echo" = some none) && (decide (PySem.W.findIn K (.ref 63) "ack" = some none) && (decide (PySem.W.findIn K (.ref 63) "syn" = some none) && (decide (PySem.W.findIn K (.ref 63) "fin" = some none) && (decide (PySem.W.findIn K (.ref 63) "reset" = some none) && (decide (PySem.W.findIn K (.ref 63) "marked" = some none) && (decide (PySem.W.findIn K (.ref 63) "cut" = some none) && (decide (PySem.W.findIn K (.ref 63) "window" = some none) && (decide (PySem.W.findIn K (.ref 63) "mss" = some none) && (decide (PySem.W.findIn K (.ref 63) "scale" = some none) && (decide (PySem.W.findIn K (.ref 63) "ranges_known" = some none) && (decide (PySem.W.findIn K (.ref 63) "ranges" = some none) && (decide (PySem.W.findIn K (.ref 63) "stamp" = some none) && (decide (PySem.W.findIn K (.ref 63) "data" = some none))))))))))))))))))))
def er_ok_2 (K : PySem.W.Frag) : Bool := decide (PySem.W.nsIn K mainGlobals "Socket" = some (some (.ref 184))) && (decide (PySem.W.plainGet K 184 Str.empty = true) && (decide (PySem.W.hasDictIn K 184 = true) && (decide (PySem.W.plainOver K 184 = true) && (decide (PySem.W.findIn K (.ref 184) "__setattr__" = some (some (.builtin "object.__setattr__"))) && (decide (PySem.W.makesIn K 184 = true) && (decide (PySem.W.keepIn K (.ref 184) = true) && (decide (PySem.W.findIn K (.ref 184) "count" = some none) && (decide (PySem.W.findIn K (.ref 184) "port" = some none) && (decide (PySem.W.findIn K (.ref 184) "peer" = some none) && (decide (PySem.W.findIn K (.ref 184) "peer_port" = some none) && (decide (PySem.W.findIn K (.ref 184) "peer_count" = some none) && (decide (PySem.W.findIn K (.ref 184) "peer_first" = some none) && (decide (PySem.W.findIn K (.ref 184) "peer_shift" = some none) && (decide (PySem.W.findIn K (.ref 184) "listened" = some none) && (decide (PySem.W.findIn K (.ref 184) "accepted" = some none) && (decide (PySem.W.findIn K (.ref 184) "endpoint" = some none) && (decide (PySem.W.nsIn K mainGlobals "Control" = some (some (.ref 268))) && (decide (PySem.W.plainGet K 268 Str.empty = true) && (decide (PySem.W.hasDictIn K 268 = true))))))))))))))))))))
def er_ok_3 (K : PySem.W.Frag) : Bool := decide (PySem.W.plainOver K 268 = true) && (decide (PySem.W.findIn K (.ref 268) "__setattr__" = some (some (.builtin "object.__setattr__"))) && (decide (PySem.W.makesIn K 268 = true) && (decide (PySem.W.keepIn K (.ref 268) = true) && (decide (PySem.W.nsIn K mainGlobals "Cubic" = some (some (.ref 326))) && (decide (PySem.W.plainGet K 326 Str.empty = true) && (decide (PySem.W.hasDictIn K 326 = true) && (decide (PySem.W.plainOver K 326 = true) && (decide (PySem.W.findIn K (.ref 326) "__setattr__" = some (some (.builtin "object.__setattr__"))) && (decide (PySem.W.makesIn K 326 = true) && (decide (PySem.W.keepIn K (.ref 326) = true) && (decide (PySem.W.nsIn K mainGlobals "Reno" = some (some (.ref 375))) && (decide (PySem.W.plainGet K 375 Str.empty = true) && (decide (PySem.W.hasDictIn K 375 = true) && (decide (PySem.W.plainOver K 375 = true) && (decide (PySem.W.findIn K (.ref 375) "__setattr__" = some (some (.builtin "object.__setattr__"))) && (decide (PySem.W.makesIn K 375 = true) && (decide (PySem.W.keepIn K (.ref 375) = true) && (decide (PySem.W.findIn K (.ref 375) "cwnd" = some none) && (decide (PySem.W.findIn K (.ref 375) "thresh" = some none))))))))))))))))))))
def er_ok_4 (K : PySem.W.Frag) : Bool := decide (PySem.W.findIn K (.ref 375) "peak" = some none) && (decide (PySem.W.findIn K (.ref 375) "prior" = some none) && (decide (PySem.W.findIn K (.ref 375) "calm" = some none) && (decide (PySem.W.findIn K (.ref 375) "credit" = some none) && (decide (PySem.W.nsIn K mainGlobals "RoundTrip" = some (some (.ref 430))) && (decide (PySem.W.plainGet K 430 Str.empty = true) && (decide (PySem.W.hasDictIn K 430 = true) && (decide (PySem.W.plainOver K 430 = true) && (decide (PySem.W.findIn K (.ref 430) "__setattr__" = some (some (.builtin "object.__setattr__"))) && (decide (PySem.W.makesIn K 430 = true) && (decide (PySem.W.keepIn K (.ref 430) = true) && (decide (PySem.W.findIn K (.ref 430) "least" = some none) && (decide (PySem.W.findIn K (.ref 430) "most" = some none) && (decide (PySem.W.findIn K (.ref 430) "srtt" = some none) && (decide (PySem.W.findIn K (.ref 430) "variance" = some none) && (decide (PySem.W.findIn K (.ref 430) "rto" = some none) && (decide (PySem.W.findIn K (.ref 430) "measured" = some none) && (decide (PySem.W.nsIn K mainGlobals "OffsetSet" = some (some (.ref 564))) && (decide (PySem.W.plainGet K 564 Str.empty = true) && (decide (PySem.W.hasDictIn K 564 = true))))))))))))))))))))
def er_ok_5 (K : PySem.W.Frag) : Bool := decide (PySem.W.plainOver K 564 = true) && (decide (PySem.W.findIn K (.ref 564) "__setattr__" = some (some (.builtin "object.__setattr__"))) && (decide (PySem.W.makesIn K 564 = true) && (decide (PySem.W.keepIn K (.ref 564) = true) && (decide (PySem.W.findIn K (.ref 564) "__class__" = some (some (.builtin "object.__class__"))) && (decide (PySem.W.mroIn K 564 (.type "object") = some true) && (decide (PySem.W.findIn K (.ref 564) "_ranges" = some none) && (decide (PySem.W.nsIn K mainGlobals "Receiver" = some (some (.ref 714))) && (decide (PySem.W.plainGet K 714 Str.empty = true) && (decide (PySem.W.hasDictIn K 714 = true) && (decide (PySem.W.plainOver K 714 = true) && (decide (PySem.W.findIn K (.ref 714) "__setattr__" = some (some (.builtin "object.__setattr__"))) && (decide (PySem.W.makesIn K 714 = true) && (decide (PySem.W.keepIn K (.ref 714) = true) && (decide (PySem.W.findIn K (.ref 714) "room" = some none) && (decide (PySem.W.findIn K (.ref 714) "nxt" = some none) && (decide (PySem.W.findIn K (.ref 714) "edge" = some none) && (decide (PySem.W.findIn K (.ref 714) "end" = some none) && (decide (PySem.W.findIn K (.ref 714) "recent" = some none) && (decide (PySem.W.findIn K (.ref 714) "_ready" = some none))))))))))))))))))))
def er_ok_6 (K : PySem.W.Frag) : Bool := decide (PySem.W.findIn K (.ref 714) "_held" = some none) && (decide (PySem.W.findIn K (.ref 714) "_held_offsets" = some none) && (decide (PySem.W.nsIn K mainGlobals "Sender" = some (some (.ref 937))) && (decide (PySem.W.plainGet K 937 Str.empty = true) && (decide (PySem.W.hasDictIn K 937 = true) && (decide (PySem.W.plainOver K 937 = true) && (decide (PySem.W.findIn K (.ref 937) "__setattr__" = some (some (.builtin "object.__setattr__"))) && (decide (PySem.W.makesIn K 937 = true) && (decide (PySem.W.keepIn K (.ref 937) = true) && (decide (PySem.W.findIn K (.ref 937) "room" = some none) && (decide (PySem.W.findIn K (.ref 937) "una" = some none) && (decide (PySem.W.findIn K (.ref 937) "nxt" = some none) && (decide (PySem.W.findIn K (.ref 937) "written" = some none) && (decide (PySem.W.findIn K (.ref 937) "finished" = some none) && (decide (PySem.W.findIn K (.ref 937) "edge" = some none) && (decide (PySem.W.findIn K (.ref 937) "recovery" = some none) && (decide (PySem.W.findIn K (.ref 937) "resend" = some none) && (decide (PySem.W.findIn K (.ref 937) "lost" = some none) && (decide (PySem.W.findIn K (.ref 937) "repeated" = some none) && (decide (PySem.W.findIn K (.ref 937) "_queue" = some none))))))))))))))))))))
def er_ok_7 (K : PySem.W.Frag) : Bool := decide (PySem.W.findIn K (.ref 937) "_sacked" = some none) && (decide (PySem.W.nsIn K mainGlobals "Endpoint" = some (some (.ref 1206))) && (decide (PySem.W.plainGet K 1206 Str.empty = true) && (decide (PySem.W.hasDictIn K 1206 = true) && (decide (PySem.W.plainOver K 1206 = true) && (decide (PySem.W.findIn K (.ref 1206) "__setattr__" = some (some (.builtin "object.__setattr__"))) && (decide (PySem.W.makesIn K 1206 = true) && (decide (PySem.W.keepIn K (.ref 1206) = true) && (decide (PySem.W.findIn K (.ref 1206) "options" = some none) && (decide (PySem.W.findIn K (.ref 1206) "sender" = some none) && (decide (PySem.W.findIn K (.ref 1206) "receiver" = some none) && (decide (PySem.W.findIn K (.ref 1206) "trip" = some none) && (decide (PySem.W.findIn K (.ref 1206) "control" = some none) && (decide (PySem.W.findIn K (.ref 1206) "phase" = some none) && (decide (PySem.W.findIn K (.ref 1206) "cause" = some none) && (decide (PySem.W.findIn K (.ref 1206) "mss" = some none) && (decide (PySem.W.findIn K (.ref 1206) "selective" = some none) && (decide (PySem.W.findIn K (.ref 1206) "alarm" = some none) && (decide (PySem.W.findIn K (.ref 1206) "since" = some none) && (decide (PySem.W.findIn K (.ref 1206) "ack_at" = some none))))))))))))))))))))
def er_ok_8 (K : PySem.W.Frag) : Bool := decide (PySem.W.findIn K (.ref 1206) "late" = some none) && (decide (PySem.W.findIn K (.ref 1206) "asked" = some none) && (decide (PySem.W.findIn K (.ref 1206) "again" = some none) && (decide (PySem.W.findIn K (.ref 1206) "probe" = some none) && (decide (PySem.W.findIn K (.ref 1206) "over" = some none) && (decide (PySem.W.findIn K (.ref 1206) "rest" = some none) && (decide (PySem.W.findIn K (.ref 1206) "spent_at" = some none) && (decide (PySem.W.findIn K (.ref 1206) "spent" = some none) && (decide (PySem.W.findIn K (.ref 1206) "stamp" = some none) && (decide (PySem.W.findIn K (.ref 1206) "marked" = some none) && (decide (PySem.W.findIn K (.ref 1206) "cut" = some none) && (decide (PySem.W.nsIn K mainGlobals "Options" = some (some (.ref 1310))) && (decide (PySem.W.plainGet K 1310 Str.empty = true) && (decide (PySem.W.hasDictIn K 1310 = true) && (decide (PySem.W.plainOver K 1310 = true) && (decide (PySem.W.findIn K (.ref 1310) "__setattr__" = some (some (.builtin "object.__setattr__"))) && (decide (PySem.W.makesIn K 1310 = true) && (decide (PySem.W.keepIn K (.ref 1310) = true) && (decide (PySem.W.findIn K (.ref 1310) "__class__" = some (some (.builtin "object.__class__"))) && (decide (PySem.W.mroIn K 1310 (.type "object") = some true))))))))))))))))))))
def er_ok_9 (K : PySem.W.Frag) : Bool := decide (PySem.W.findIn K (.ref 1310) "mss" = some none) && (decide (PySem.W.findIn K (.ref 1310) "room" = some none) && (decide (PySem.W.findIn K (.ref 1310) "life" = some none) && (decide (PySem.W.findIn K (.ref 1310) "pace" = some none) && (decide (PySem.W.findIn K (.ref 1310) "tries" = some none) && (decide (PySem.W.findIn K (.ref 1310) "min_rto" = some none) && (decide (PySem.W.findIn K (.ref 1310) "max_rto" = some none) && (decide (PySem.W.findIn K (.ref 1310) "ack_delay" = some none) && (decide (PySem.W.findIn K (.ref 1310) "keep_alive" = some none) && (decide (PySem.W.findIn K (.ref 1310) "nagle" = some none) && (decide (PySem.W.findIn K (.ref 1310) "control" = some none) && (decide (PySem.W.readsIn K 268 (.type "type") = true) && (decide (PySem.W.specialIn K (.ref 268) "__getattribute__" = some (some (.builtin "type.__getattribute__"))) && (erCI (PySem.W.findCls K (.ref 268) (.type "type") "GREATEST") (1073741824) && (decide (PySem.W.findIn K (.ref 63) "__init__" = some (some (.ref 38))) && (decide (PySem.W.isFn K (.ref 38) = true) && (decide (PySem.W.nsIn K 31 "echo" = some (some .none)) && (decide (PySem.W.nsIn K 31 "ack" = some (some .none)) && (decide (PySem.W.nsIn K 31 "syn" = some (some (.bool false))) && (decide (PySem.W.nsIn K 31 "fin" = some (some (.bool false))))))))))))))))))))))
def er_ok_10 (K : PySem.W.Frag) : Bool := decide (PySem.W.nsIn K 31 "reset" = some (some (.bool false))) && (decide (PySem.W.nsIn K 31 "marked" = some (some (.bool false))) && (decide (PySem.W.nsIn K 31 "cut" = some (some (.bool false))) && (erI (PySem.W.nsIn K 31 "window") (0) && (decide (PySem.W.nsIn K 31 "mss" = some (some .none)) && (decide (PySem.W.nsIn K 31 "scale" = some (some .none)) && (decide (PySem.W.nsIn K 31 "ranges_known" = some (some (.bool false))) && (decide (PySem.W.nsIn K 31 "ranges" = some (some (.ref 29))) && (erT K 29 [] && (decide (PySem.W.nsIn K 31 "stamp" = some (some .none)) && (decide (PySem.W.nsIn K 31 "data" = some (some (.ref 30))) && (erT K 30 [] && (decide (PySem.W.codeIn K (.ref 37) "Segment.__init__" = true) && (decide (PySem.W.keepIn K (.ref 38) = true) && (decide (PySem.W.findIn K (.ref 184) "__init__" = some (some (.ref 82))) && (decide (PySem.W.isFn K (.ref 82) = true) && (decide (PySem.W.nsIn K 75 "listened" = some (some (.bool false))) && (decide (PySem.W.codeIn K (.ref 81) "Socket.__init__" = true) && (decide (PySem.W.keepIn K (.ref 82) = true) && (decide (PySem.W.findIn K (.ref 184) "is_for" = some (some (.ref 97))))))))))))))))))))))
def er_ok_11 (K : PySem.W.Frag) : Bool := decide (PySem.W.isFn K (.ref 97) = true) && (decide (PySem.W.codeIn K (.ref 96) "Socket.is_for" = true) && (decide (PySem.W.keepIn K (.ref 97) = true) && (decide (PySem.W.findIn K (.ref 184) "learn" = some (some (.ref 104))) && (decide (PySem.W.isFn K (.ref 104) = true) && (decide (PySem.W.codeIn K (.ref 103) "Socket.learn" = true) && (decide (PySem.W.keepIn K (.ref 104) = true) && (decide (PySem.W.findIn K (.ref 375) "__init__" = some (some (.ref 344))) && (decide (PySem.W.isFn K (.ref 344) = true) && (decide (PySem.W.codeIn K (.ref 343) "Reno.__init__" = true) && (decide (PySem.W.keepIn K (.ref 344) = true) && (erL K 343 (PySem.Challenge.rw_throughline_k45_which_socket_takes_a_seg).prog.main.file && (erE K 332 375 && ((PySem.W.clsIn K 375).isSome && (decide (PySem.W.mroIn K 375 (.ref 375) = some true) && (decide (PySem.W.ks_superIn K 375 375 "__init__" = some (some (.ref 202))) && (decide (PySem.W.typeIn K (.ref 202) = some (.type "function")) && (decide (PySem.W.fnIn K 202 = true) && (decide (PySem.W.nsIn K cStatics "thirdparty.any" = some none) && (decide (PySem.W.codeIn K (.ref 201) "Control.__init__" = true))))))))))))))))))))
def er_ok_12 (K : PySem.W.Frag) : Bool := decide (PySem.W.keepIn K (.ref 202) = true) && (decide (PySem.W.findIn K (.ref 375) "_bounded" = some (some (.ref 237))) && (decide (PySem.W.isFn K (.ref 237) = true) && (decide (PySem.W.codeIn K (.ref 236) "Control._bounded" = true) && (decide (PySem.W.keepIn K (.ref 237) = true) && (decide (PySem.W.findIn K (.ref 430) "__init__" = some (some (.ref 391))) && (decide (PySem.W.isFn K (.ref 391) = true) && (decide (PySem.W.codeIn K (.ref 390) "RoundTrip.__init__" = true) && (decide (PySem.W.keepIn K (.ref 391) = true) && (decide (PySem.W.findIn K (.ref 430) "_within_bounds" = some (some (.ref 427))) && (decide (PySem.W.isFn K (.ref 427) = true) && (decide (PySem.W.codeIn K (.ref 426) "RoundTrip._within_bounds" = true) && (decide (PySem.W.keepIn K (.ref 427) = true) && (decide (PySem.W.findIn K (.ref 564) "__init__" = some (some (.ref 476))) && (decide (PySem.W.isFn K (.ref 476) = true) && (erT K 469 [.ref 468] && (erT K 468 [] && (decide (PySem.W.codeIn K (.ref 475) "OffsetSet.__init__" = true) && (decide (PySem.W.keepIn K (.ref 476) = true) && (decide (PySem.W.findIn K (.ref 714) "__init__" = some (some (.ref 582))))))))))))))))))))))
def er_ok_13 (K : PySem.W.Frag) : Bool := decide (PySem.W.isFn K (.ref 582) = true) && (decide (PySem.W.codeIn K (.ref 581) "Receiver.__init__" = true) && (decide (PySem.W.keepIn K (.ref 582) = true) && (decide (PySem.W.findIn K (.ref 937) "__init__" = some (some (.ref 732))) && (decide (PySem.W.isFn K (.ref 732) = true) && (decide (PySem.W.codeIn K (.ref 731) "Sender.__init__" = true) && (decide (PySem.W.keepIn K (.ref 732) = true) && (decide (PySem.W.findIn K (.ref 1206) "__init__" = some (some (.ref 955))) && (decide (PySem.W.isFn K (.ref 955) = true) && (decide (PySem.W.codeIn K (.ref 954) "Endpoint.__init__" = true) && (decide (PySem.W.keepIn K (.ref 955) = true) && (decide (PySem.W.findIn K (.ref 1206) "has_ended" = some (some (.ref 973))) && (decide (PySem.W.specialIn K (.ref 973) "__get__" = some (some (.builtin "property.__get__"))) && (decide (PySem.W.takesIn K (.ref 973) = some true) && (erP (PySem.W.recIn K 973 "property") 972 && (decide (PySem.W.codeIn K (.ref 971) "Endpoint.has_ended" = true) && (decide (PySem.W.keepIn K (.ref 972) = true) && (decide (PySem.W.findIn K (.ref 1206) "abort" = some (some (.ref 1041))) && (decide (PySem.W.isFn K (.ref 1041) = true) && (decide (PySem.W.codeIn K (.ref 1040) "Endpoint.abort" = true))))))))))))))))))))
def er_ok_14 (K : PySem.W.Frag) : Bool := decide (PySem.W.keepIn K (.ref 1041) = true) && (decide (PySem.W.findIn K (.ref 1206) "_end" = some (some (.ref 1091))) && (decide (PySem.W.isFn K (.ref 1091) = true) && (decide (PySem.W.codeIn K (.ref 1090) "Endpoint._end" = true) && (decide (PySem.W.keepIn K (.ref 1091) = true) && (decide (PySem.W.nsIn K mainGlobals "_new_control" = some (some (.ref 1217))) && (decide (PySem.W.codeIn K (.ref 1216) "_new_control" = true) && (decide (PySem.W.keepIn K (.ref 1217) = true) && (decide (PySem.W.findIn K (.ref 1310) "__init__" = some (some (.ref 1257))) && (decide (PySem.W.isFn K (.ref 1257) = true) && (erI (PySem.W.nsIn K 1250 "ack_delay") (0) && (erI (PySem.W.nsIn K 1250 "keep_alive") (0) && (decide (PySem.W.nsIn K 1250 "nagle" = some (some (.bool false))) && (erS (PySem.W.nsIn K 1250 "control") ((PySem.Str.ofString "reno")) && (decide (PySem.W.codeIn K (.ref 1256) "Options.__init__" = true) && (decide (PySem.W.keepIn K (.ref 1257) = true) && (decide (PySem.W.findIn K (.ref 1310) "fork" = some (some (.ref 1288))) && (decide (PySem.W.isFn K (.ref 1288) = true) && (decide (PySem.W.codeIn K (.ref 1287) "Options.fork" = true) && (decide (PySem.W.keepIn K (.ref 1288) = true))))))))))))))))))))
def er_ok_15 (K : PySem.W.Frag) : Bool := decide (PySem.W.findIn K (.ref 1310) "_wrong_names" = some (some (.ref 1307))) && (decide (PySem.W.isFn K (.ref 1307) = true) && (decide (PySem.W.codeIn K (.ref 1306) "Options._wrong_names" = true) && (decide (PySem.W.keepIn K (.ref 1307) = true) && (decide (PySem.W.nsIn K mainGlobals "_law_rows" = some (some (.ref 1321))) && (decide (PySem.W.codeIn K (.ref 1320) "_law_rows" = true) && (decide (PySem.W.keepIn K (.ref 1321) = true) && (decide (PySem.W.nsIn K mainGlobals "_law_pick" = some (some (.ref 1328))) && (decide (PySem.W.codeIn K (.ref 1327) "_law_pick" = true) && (decide (PySem.W.keepIn K (.ref 1328) = true) && (decide (PySem.W.nsIn K mainGlobals "law" = some (some (.ref 1335))) && (decide (PySem.W.codeIn K (.ref 1334) "law" = true) && (decide (PySem.W.keepIn K (.ref 1335) = true) && (decide (PySem.W.nsIn K mainGlobals "bool" = some none) && (decide (PySem.W.nsIn K mainGlobals "int" = some none) && (decide (PySem.W.nsIn K mainGlobals "isinstance" = some none) && (decide (PySem.W.nsIn K mainGlobals "len" = some none) && (decide (PySem.W.nsIn K mainGlobals "list" = some none) && (decide (PySem.W.nsIn K mainGlobals "max" = some none) && (decide (PySem.W.nsIn K mainGlobals "min" = some none))))))))))))))))))))
def er_ok_16 (K : PySem.W.Frag) : Bool := decide (PySem.W.nsIn K mainGlobals "range" = some none) && (decide (PySem.W.nsIn K mainGlobals "super" = some none))
def er_ok (K : PySem.W.Frag) : Bool := er_ok_0 K && (er_ok_1 K && (er_ok_2 K && (er_ok_3 K && (er_ok_4 K && (er_ok_5 K && (er_ok_6 K && (er_ok_7 K && (er_ok_8 K && (er_ok_9 K && (er_ok_10 K && (er_ok_11 K && (er_ok_12 K && (er_ok_13 K && (er_ok_14 K && (er_ok_15 K && (er_ok_16 K))))))))))))))))
def er_fs : List (Addr × ErF) := [(38, erV "__init__" "Segment.__init__" (defArgs s_Segment_init__) (defBody s_Segment_init__) (defScope s_Segment_init__) [] (.none) (.ref 31) (.ref 37)),
  (82, erV "__init__" "Socket.__init__" (defArgs s_Socket_init__) (defBody s_Socket_init__) (defScope s_Socket_init__) [] (.none) (.ref 75) (.ref 81)),
  (97, erV "is_for" "Socket.is_for" (defArgs s_Socket_is_for) (defBody s_Socket_is_for) (defScope s_Socket_is_for) [] (.none) (.none) (.ref 96)),
  (104, erV "learn" "Socket.learn" (defArgs s_Socket_learn) (defBody s_Socket_learn) (defScope s_Socket_learn) [] (.none) (.none) (.ref 103)),
  (344, erV "__init__" "Reno.__init__" (defArgs s_Reno_init__) (defBody s_Reno_init__) (defScope s_Reno_init__) [("__class__", 332)] (.none) (.none) (.ref 343)),
  (202, erV "__init__" "Control.__init__" (defArgs s_Reno_upper__init__) (defBody s_Reno_upper__init__) (defScope s_Reno_upper__init__) [] (.none) (.none) (.ref 201)),
  (237, erV "_bounded" "Control._bounded" (defArgs s_Reno_bounded) (defBody s_Reno_bounded) (defScope s_Reno_bounded) [] (.none) (.none) (.ref 236)),
  (391, erV "__init__" "RoundTrip.__init__" (defArgs s_RoundTrip_init__) (defBody s_RoundTrip_init__) (defScope s_RoundTrip_init__) [] (.none) (.none) (.ref 390)),
  (427, erV "_within_bounds" "RoundTrip._within_bounds" (defArgs s_RoundTrip_within_bounds) (defBody s_RoundTrip_within_bounds) (defScope s_RoundTrip_within_bounds) [] (.none) (.none) (.ref 426)),
  (476, erV "__init__" "OffsetSet.__init__" (defArgs s_OffsetSet_init__) (defBody s_OffsetSet_init__) (defScope s_OffsetSet_init__) [] (.ref 469) (.none) (.ref 475)),
  (582, erV "__init__" "Receiver.__init__" (defArgs s_Receiver_init__) (defBody s_Receiver_init__) (defScope s_Receiver_init__) [] (.none) (.none) (.ref 581)),
  (732, erV "__init__" "Sender.__init__" (defArgs s_Sender_init__) (defBody s_Sender_init__) (defScope s_Sender_init__) [] (.none) (.none) (.ref 731)),
  (955, erV "__init__" "Endpoint.__init__" (defArgs s_Endpoint_init__) (defBody s_Endpoint_init__) (defScope s_Endpoint_init__) [] (.none) (.none) (.ref 954)),
  (972, erV "has_ended" "Endpoint.has_ended" (defArgs s_Endpoint_has_ended) (defBody s_Endpoint_has_ended) (defScope s_Endpoint_has_ended) [] (.none) (.none) (.ref 971)),
  (1041, erV "abort" "Endpoint.abort" (defArgs s_Endpoint_abort) (defBody s_Endpoint_abort) (defScope s_Endpoint_abort) [] (.none) (.none) (.ref 1040)),
  (1091, erV "_end" "Endpoint._end" (defArgs s_Endpoint_end) (defBody s_Endpoint_end) (defScope s_Endpoint_end) [] (.none) (.none) (.ref 1090)),
  (1217, erV "_new_control" "_new_control" (defArgs s_new_control) (defBody s_new_control) (defScope s_new_control) [] (.none) (.none) (.ref 1216)),
  (1257, erV "__init__" "Options.__init__" (defArgs s_Options_init__) (defBody s_Options_init__) (defScope s_Options_init__) [] (.none) (.ref 1250) (.ref 1256)),
  (1288, erV "fork" "Options.fork" (defArgs s_Options_fork) (defBody s_Options_fork) (defScope s_Options_fork) [] (.none) (.none) (.ref 1287)),
  (1307, erV "_wrong_names" "Options._wrong_names" (defArgs s_Options_wrong_names) (defBody s_Options_wrong_names) (defScope s_Options_wrong_names) [] (.none) (.none) (.ref 1306)),
  (1321, erV "_law_rows" "_law_rows" (defArgs s_l_rows) (defBody s_l_rows) (defScope s_l_rows) [] (.none) (.none) (.ref 1320)),
  (1328, erV "_law_pick" "_law_pick" (defArgs s_l_pick) (defBody s_l_pick) (defScope s_l_pick) [] (.none) (.none) (.ref 1327)),
  (1335, erV "law" "law" (defArgs s_law) (defBody s_law) (defScope s_law) [] (.none) (.none) (.ref 1334))]
abbrev er_row : PySem.W.OpenRow := PySem.W.OpenLaw.row PySem.Challenge.rw_throughline_k45_which_socket_takes_a_seg
def er_ls_0 : List PySem.Str := ["_wall", "CIRCLE", "__name__", "Segment", "FIRST_NUMBER_STEP", "Socket", "Control", "Cubic", "Reno", "RoundTrip", "ranges_of", "add_range", "contains", "_first_behind", "OffsetSet", "Receiver", "Sender", "Endpoint", "_new_control", "ThroughlineError", "InvalidOptions", "MOST_TICKS", "MOST_UNDER_WAY", "Options", "_law_rows", "_law_pick"]
abbrev er_loose : List PySem.Str := ["_wall", "CIRCLE", "__name__", "Segment", "FIRST_NUMBER_STEP", "Socket", "Control", "Cubic", "Reno", "RoundTrip", "ranges_of", "add_range", "contains", "_first_behind", "OffsetSet", "Receiver", "Sender", "Endpoint", "_new_control", "ThroughlineError", "InvalidOptions", "MOST_TICKS", "MOST_UNDER_WAY", "Options", "_law_rows", "_law_pick"]
abbrev er_hk : PySem.W.Hook := erHook er_as er_ok er_fs
def er_ob (s : PySem.W.SharedT) : ErA := erObs er_as er_ok er_fs (HandSHeadRun.getT s)
theorem er_ob_eq (s : PySem.W.SharedT) : er_ob s = er_hk.obs s.abs := er_obs (HandSHeadRun.getT_eq s)
set_option maxHeartbeats 0 in
theorem er_run (w : World) : HandSHeadRun.RunEq er_row (PySem.W.view er_row.prog [39]) er_hk er_ob 40000 er_loose w := by
  intro os
  kernel_rfl
structure Txt (P : Program) (K : PySem.W.Frag) (mg : Str → Option Value) where
  t_CIRCLE : Tok
  t_FIRST_NUMBER_STEP : Tok
  t_MOST_TICKS : Tok
  t_MOST_UNDER_WAY : Tok
  C_InvalidOptions : Addr
  C_Segment : Addr
  C_Socket : Addr
  C_Control : Addr
  C_Cubic : Addr
  C_Reno : Addr
  C_RoundTrip : Addr
  C_OffsetSet : Addr
  C_Receiver : Addr
  C_Sender : Addr
  C_Endpoint : Addr
  C_Options : Addr
  f_Segment_init__ : Addr
  d_Segment_init__ : FuncData
  e_Segment_init___ranges : Addr
  e_Segment_init___data : Addr
  f_Socket_init__ : Addr
  d_Socket_init__ : FuncData
  f_Socket_is_for : Addr
  d_Socket_is_for : FuncData
  f_Socket_learn : Addr
  d_Socket_learn : FuncData
  f_Reno_init__ : Addr
  d_Reno_init__ : FuncData
  cda_Reno_init__ : Addr
  cc_Reno_init__ : Addr
  f_Reno_upper__init__ : Addr
  d_Reno_upper__init__ : FuncData
  f_Reno_bounded : Addr
  d_Reno_bounded : FuncData
  f_RoundTrip_init__ : Addr
  d_RoundTrip_init__ : FuncData
  f_RoundTrip_within_bounds : Addr
  d_RoundTrip_within_bounds : FuncData
  f_OffsetSet_init__ : Addr
  d_OffsetSet_init__ : FuncData
  e_OffsetSet_init___ranges : Addr
  f_Receiver_init__ : Addr
  d_Receiver_init__ : FuncData
  f_Sender_init__ : Addr
  d_Sender_init__ : FuncData
  f_Endpoint_init__ : Addr
  d_Endpoint_init__ : FuncData
  f_Endpoint_has_ended : Addr
  d_Endpoint_has_ended : FuncData
  p0_Endpoint_has_ended : Addr
  f_Endpoint_abort : Addr
  d_Endpoint_abort : FuncData
  f_Endpoint_end : Addr
  d_Endpoint_end : FuncData
  f_new_control : Addr
  d_new_control : FuncData
  f_Options_init__ : Addr
  d_Options_init__ : FuncData
  f_Options_fork : Addr
  d_Options_fork : FuncData
  f_Options_wrong_names : Addr
  d_Options_wrong_names : FuncData
  f_l_rows : Addr
  d_l_rows : FuncData
  f_l_pick : Addr
  d_l_pick : FuncData
  f_law : Addr
  d_law : FuncData
  v_CIRCLE : mg "CIRCLE" = some (.int 4294967296 t_CIRCLE)
  v_FIRST_NUMBER_STEP : mg "FIRST_NUMBER_STEP" = some (.int 2654435761 t_FIRST_NUMBER_STEP)
  v_MOST_TICKS : mg "MOST_TICKS" = some (.int 1073741824 t_MOST_TICKS)
  v_MOST_UNDER_WAY : mg "MOST_UNDER_WAY" = some (.int 1073741824 t_MOST_UNDER_WAY)
  c_InvalidOptions : mg "InvalidOptions" = some (.ref C_InvalidOptions)
  xP_InvalidOptions : PySem.W.excIn K C_InvalidOptions [.type "ValueError", .type "Exception", .type "BaseException", .type "object"] "ValueError.__new__" = true
  ke_InvalidOptions : PySem.W.keepIn K (.ref C_InvalidOptions) = true
  be_InvalidOptions : PySem.W.subIn K (.ref C_InvalidOptions) (.type "BaseException") = some true
  te_InvalidOptions : PySem.W.typeIn K (.ref C_InvalidOptions) = some (.type "type")
  c_Segment : mg "Segment" = some (.ref C_Segment)
  k_Segment : Cls K C_Segment
  i_Segment : ∀ {H : Hp} {a dx : Addr} {fs : List (Str × V)}, H a = some (.ins C_Segment dx fs) → TyOf K H (.ref a) (.ref C_Segment)
  n_Segment_source : NoAttr K C_Segment "source"
  n_Segment_target : NoAttr K C_Segment "target"
  n_Segment_seq : NoAttr K C_Segment "seq"
  n_Segment_count : NoAttr K C_Segment "count"
  n_Segment_echo : NoAttr K C_Segment "echo"
  n_Segment_ack : NoAttr K C_Segment "ack"
  n_Segment_syn : NoAttr K C_Segment "syn"
  n_Segment_fin : NoAttr K C_Segment "fin"
  n_Segment_reset : NoAttr K C_Segment "reset"
  n_Segment_marked : NoAttr K C_Segment "marked"
  n_Segment_cut : NoAttr K C_Segment "cut"
  n_Segment_window : NoAttr K C_Segment "window"
  n_Segment_mss : NoAttr K C_Segment "mss"
  n_Segment_scale : NoAttr K C_Segment "scale"
  n_Segment_ranges_known : NoAttr K C_Segment "ranges_known"
  n_Segment_ranges : NoAttr K C_Segment "ranges"
  n_Segment_stamp : NoAttr K C_Segment "stamp"
  n_Segment_data : NoAttr K C_Segment "data"
  c_Socket : mg "Socket" = some (.ref C_Socket)
  k_Socket : Cls K C_Socket
  n_Socket_count : NoAttr K C_Socket "count"
  n_Socket_port : NoAttr K C_Socket "port"
  n_Socket_peer : NoAttr K C_Socket "peer"
  n_Socket_peer_port : NoAttr K C_Socket "peer_port"
  n_Socket_peer_count : NoAttr K C_Socket "peer_count"
  n_Socket_peer_first : NoAttr K C_Socket "peer_first"
  n_Socket_peer_shift : NoAttr K C_Socket "peer_shift"
  n_Socket_listened : NoAttr K C_Socket "listened"
  n_Socket_accepted : NoAttr K C_Socket "accepted"
  n_Socket_endpoint : NoAttr K C_Socket "endpoint"
  c_Control : mg "Control" = some (.ref C_Control)
  k_Control : Cls K C_Control
  c_Cubic : mg "Cubic" = some (.ref C_Cubic)
  k_Cubic : Cls K C_Cubic
  c_Reno : mg "Reno" = some (.ref C_Reno)
  k_Reno : Cls K C_Reno
  n_Reno_cwnd : NoAttr K C_Reno "cwnd"
  n_Reno_thresh : NoAttr K C_Reno "thresh"
  n_Reno_peak : NoAttr K C_Reno "peak"
  n_Reno_prior : NoAttr K C_Reno "prior"
  n_Reno_calm : NoAttr K C_Reno "calm"
  n_Reno_credit : NoAttr K C_Reno "credit"
  c_RoundTrip : mg "RoundTrip" = some (.ref C_RoundTrip)
  k_RoundTrip : Cls K C_RoundTrip
  n_RoundTrip_least : NoAttr K C_RoundTrip "least"
  n_RoundTrip_most : NoAttr K C_RoundTrip "most"
  n_RoundTrip_srtt : NoAttr K C_RoundTrip "srtt"
  n_RoundTrip_variance : NoAttr K C_RoundTrip "variance"
  n_RoundTrip_rto : NoAttr K C_RoundTrip "rto"
  n_RoundTrip_measured : NoAttr K C_RoundTrip "measured"
  c_OffsetSet : mg "OffsetSet" = some (.ref C_OffsetSet)
  k_OffsetSet : Cls K C_OffsetSet
  i_OffsetSet : ∀ {H : Hp} {a dx : Addr} {fs : List (Str × V)}, H a = some (.ins C_OffsetSet dx fs) → TyOf K H (.ref a) (.ref C_OffsetSet)
  n_OffsetSet__ranges : NoAttr K C_OffsetSet "_ranges"
  c_Receiver : mg "Receiver" = some (.ref C_Receiver)
  k_Receiver : Cls K C_Receiver
  n_Receiver_room : NoAttr K C_Receiver "room"
  n_Receiver_nxt : NoAttr K C_Receiver "nxt"
  n_Receiver_edge : NoAttr K C_Receiver "edge"
  n_Receiver_end : NoAttr K C_Receiver "end"
  n_Receiver_recent : NoAttr K C_Receiver "recent"
  n_Receiver__ready : NoAttr K C_Receiver "_ready"
  n_Receiver__held : NoAttr K C_Receiver "_held"
  n_Receiver__held_offsets : NoAttr K C_Receiver "_held_offsets"
  c_Sender : mg "Sender" = some (.ref C_Sender)
  k_Sender : Cls K C_Sender
  n_Sender_room : NoAttr K C_Sender "room"
  n_Sender_una : NoAttr K C_Sender "una"
  n_Sender_nxt : NoAttr K C_Sender "nxt"
  n_Sender_written : NoAttr K C_Sender "written"
  n_Sender_finished : NoAttr K C_Sender "finished"
  n_Sender_edge : NoAttr K C_Sender "edge"
  n_Sender_recovery : NoAttr K C_Sender "recovery"
  n_Sender_resend : NoAttr K C_Sender "resend"
  n_Sender_lost : NoAttr K C_Sender "lost"
  n_Sender_repeated : NoAttr K C_Sender "repeated"
  n_Sender__queue : NoAttr K C_Sender "_queue"
  n_Sender__sacked : NoAttr K C_Sender "_sacked"
  c_Endpoint : mg "Endpoint" = some (.ref C_Endpoint)
  k_Endpoint : Cls K C_Endpoint
  n_Endpoint_options : NoAttr K C_Endpoint "options"
  n_Endpoint_sender : NoAttr K C_Endpoint "sender"
  n_Endpoint_receiver : NoAttr K C_Endpoint "receiver"
  n_Endpoint_trip : NoAttr K C_Endpoint "trip"
  n_Endpoint_control : NoAttr K C_Endpoint "control"
  n_Endpoint_phase : NoAttr K C_Endpoint "phase"
  n_Endpoint_cause : NoAttr K C_Endpoint "cause"
  n_Endpoint_mss : NoAttr K C_Endpoint "mss"
  n_Endpoint_selective : NoAttr K C_Endpoint "selective"
  n_Endpoint_alarm : NoAttr K C_Endpoint "alarm"
  n_Endpoint_since : NoAttr K C_Endpoint "since"
  n_Endpoint_ack_at : NoAttr K C_Endpoint "ack_at"
  n_Endpoint_late : NoAttr K C_Endpoint "late"
  n_Endpoint_asked : NoAttr K C_Endpoint "asked"
  n_Endpoint_again : NoAttr K C_Endpoint "again"
  n_Endpoint_probe : NoAttr K C_Endpoint "probe"
  n_Endpoint_over : NoAttr K C_Endpoint "over"
  n_Endpoint_rest : NoAttr K C_Endpoint "rest"
  n_Endpoint_spent_at : NoAttr K C_Endpoint "spent_at"
  n_Endpoint_spent : NoAttr K C_Endpoint "spent"
  n_Endpoint_stamp : NoAttr K C_Endpoint "stamp"
  n_Endpoint_marked : NoAttr K C_Endpoint "marked"
  n_Endpoint_cut : NoAttr K C_Endpoint "cut"
  c_Options : mg "Options" = some (.ref C_Options)
  k_Options : Cls K C_Options
  i_Options : ∀ {H : Hp} {a dx : Addr} {fs : List (Str × V)}, H a = some (.ins C_Options dx fs) → TyOf K H (.ref a) (.ref C_Options)
  n_Options_mss : NoAttr K C_Options "mss"
  n_Options_room : NoAttr K C_Options "room"
  n_Options_life : NoAttr K C_Options "life"
  n_Options_pace : NoAttr K C_Options "pace"
  n_Options_tries : NoAttr K C_Options "tries"
  n_Options_min_rto : NoAttr K C_Options "min_rto"
  n_Options_max_rto : NoAttr K C_Options "max_rto"
  n_Options_ack_delay : NoAttr K C_Options "ack_delay"
  n_Options_keep_alive : NoAttr K C_Options "keep_alive"
  n_Options_nagle : NoAttr K C_Options "nagle"
  n_Options_control : NoAttr K C_Options "control"
  es_Segment_init___ranges : ∀ H : Hp, SqT K H e_Segment_init___ranges []
  es_Segment_init___data : ∀ H : Hp, SqT K H e_Segment_init___data []
  F_Segment_init__ : FunD K "__init__" "Segment.__init__" (defArgs s_Segment_init__) (defBody s_Segment_init__) (defScope s_Segment_init__) [] [("echo", .non), ("ack", .non), ("syn", .bl false), ("fin", .bl false), ("reset", .bl false), ("marked", .bl false), ("cut", .bl false), ("window", .int 0), ("mss", .non), ("scale", .non), ("ranges_known", .bl false), ("ranges", .ref e_Segment_init___ranges), ("stamp", .non), ("data", .ref e_Segment_init___data)] f_Segment_init__ d_Segment_init__
  mk_Segment : Mk K C_Segment f_Segment_init__
  F_Socket_init__ : FunD K "__init__" "Socket.__init__" (defArgs s_Socket_init__) (defBody s_Socket_init__) (defScope s_Socket_init__) [] [("listened", .bl false)] f_Socket_init__ d_Socket_init__
  mk_Socket : Mk K C_Socket f_Socket_init__
  F_Socket_is_for : Fun K "is_for" "Socket.is_for" s_Socket_is_for f_Socket_is_for d_Socket_is_for
  b_Socket_is_for : Binds K d_Socket_is_for ["self", "segment", "sender"] []
  a_Socket_is_for : Meth K C_Socket "is_for" f_Socket_is_for
  F_Socket_learn : Fun K "learn" "Socket.learn" s_Socket_learn f_Socket_learn d_Socket_learn
  b_Socket_learn : Binds K d_Socket_learn ["self", "segment"] []
  a_Socket_learn : Meth K C_Socket "learn" f_Socket_learn
  F_Reno_init__ : FunS K P "__init__" "Reno.__init__" s_Reno_init__ f_Reno_init__ f_Reno_upper__init__ C_Reno cda_Reno_init__ cc_Reno_init__ d_Reno_init__
  b_Reno_init__ : Binds K d_Reno_init__ ["self", "mss"] []
  mk_Reno : Mk K C_Reno f_Reno_init__
  F_Reno_upper__init__ : Fun K "__init__" "Control.__init__" s_Reno_upper__init__ f_Reno_upper__init__ d_Reno_upper__init__
  b_Reno_upper__init__ : Binds K d_Reno_upper__init__ ["self", "mss"] []
  F_Reno_bounded : Fun K "_bounded" "Control._bounded" s_Reno_bounded f_Reno_bounded d_Reno_bounded
  b_Reno_bounded : Binds K d_Reno_bounded ["self", "octets"] []
  a_Reno_bounded : Meth K C_Reno "_bounded" f_Reno_bounded
  F_RoundTrip_init__ : Fun K "__init__" "RoundTrip.__init__" s_RoundTrip_init__ f_RoundTrip_init__ d_RoundTrip_init__
  b_RoundTrip_init__ : Binds K d_RoundTrip_init__ ["self", "least", "most"] []
  mk_RoundTrip : Mk K C_RoundTrip f_RoundTrip_init__
  F_RoundTrip_within_bounds : Fun K "_within_bounds" "RoundTrip._within_bounds" s_RoundTrip_within_bounds f_RoundTrip_within_bounds d_RoundTrip_within_bounds
  b_RoundTrip_within_bounds : Binds K d_RoundTrip_within_bounds ["self", "ticks"] []
  a_RoundTrip_within_bounds : Meth K C_RoundTrip "_within_bounds" f_RoundTrip_within_bounds
  es_OffsetSet_init___ranges : ∀ H : Hp, SqT K H e_OffsetSet_init___ranges []
  F_OffsetSet_init__ : FunD K "__init__" "OffsetSet.__init__" (defArgs s_OffsetSet_init__) (defBody s_OffsetSet_init__) (defScope s_OffsetSet_init__) [.ref e_OffsetSet_init___ranges] [] f_OffsetSet_init__ d_OffsetSet_init__
  mk_OffsetSet : Mk K C_OffsetSet f_OffsetSet_init__
  F_Receiver_init__ : Fun K "__init__" "Receiver.__init__" s_Receiver_init__ f_Receiver_init__ d_Receiver_init__
  b_Receiver_init__ : Binds K d_Receiver_init__ ["self", "room"] []
  mk_Receiver : Mk K C_Receiver f_Receiver_init__
  F_Sender_init__ : Fun K "__init__" "Sender.__init__" s_Sender_init__ f_Sender_init__ d_Sender_init__
  b_Sender_init__ : Binds K d_Sender_init__ ["self", "room"] []
  mk_Sender : Mk K C_Sender f_Sender_init__
  F_Endpoint_init__ : Fun K "__init__" "Endpoint.__init__" s_Endpoint_init__ f_Endpoint_init__ d_Endpoint_init__
  b_Endpoint_init__ : Binds K d_Endpoint_init__ ["self", "options", "now"] []
  mk_Endpoint : Mk K C_Endpoint f_Endpoint_init__
  F_Endpoint_has_ended : Fun K "has_ended" "Endpoint.has_ended" s_Endpoint_has_ended f_Endpoint_has_ended d_Endpoint_has_ended
  b_Endpoint_has_ended : Binds K d_Endpoint_has_ended ["self"] []
  p_Endpoint_has_ended : PropOf K C_Endpoint "has_ended" p0_Endpoint_has_ended f_Endpoint_has_ended
  F_Endpoint_abort : Fun K "abort" "Endpoint.abort" s_Endpoint_abort f_Endpoint_abort d_Endpoint_abort
  b_Endpoint_abort : Binds K d_Endpoint_abort ["self"] []
  a_Endpoint_abort : Meth K C_Endpoint "abort" f_Endpoint_abort
  F_Endpoint_end : Fun K "_end" "Endpoint._end" s_Endpoint_end f_Endpoint_end d_Endpoint_end
  b_Endpoint_end : Binds K d_Endpoint_end ["self", "cause"] []
  a_Endpoint_end : Meth K C_Endpoint "_end" f_Endpoint_end
  F_new_control : Fun K "_new_control" "_new_control" s_new_control f_new_control d_new_control
  b_new_control : Binds K d_new_control ["kind", "mss"] []
  m_new_control : mg "_new_control" = some (.ref f_new_control)
  F_Options_init__ : FunD K "__init__" "Options.__init__" (defArgs s_Options_init__) (defBody s_Options_init__) (defScope s_Options_init__) [] [("ack_delay", .int 0), ("keep_alive", .int 0), ("nagle", .bl false), ("control", .str (PySem.Str.ofString "reno"))] f_Options_init__ d_Options_init__
  mk_Options : Mk K C_Options f_Options_init__
  F_Options_fork : Fun K "fork" "Options.fork" s_Options_fork f_Options_fork d_Options_fork
  b_Options_fork : Binds K d_Options_fork ["self"] []
  a_Options_fork : Meth K C_Options "fork" f_Options_fork
  F_Options_wrong_names : Fun K "_wrong_names" "Options._wrong_names" s_Options_wrong_names f_Options_wrong_names d_Options_wrong_names
  b_Options_wrong_names : Binds K d_Options_wrong_names ["self"] []
  a_Options_wrong_names : Meth K C_Options "_wrong_names" f_Options_wrong_names
  F_l_rows : Fun K "_law_rows" "_law_rows" s_l_rows f_l_rows d_l_rows
  b_l_rows : Binds K d_l_rows ["script", "count"] []
  m_l_rows : mg "_law_rows" = some (.ref f_l_rows)
  F_l_pick : Fun K "_law_pick" "_law_pick" s_l_pick f_l_pick d_l_pick
  b_l_pick : Binds K d_l_pick ["row", "right", "other"] []
  m_l_pick : mg "_law_pick" = some (.ref f_l_pick)
  F_law : Fun K "law" "law" s_law f_law d_law
  b_law : Binds K d_law ["script"] []
  m_law : mg "law" = some (.ref f_law)
  cr_Control : ClX.CRead K C_Control (.type "type")
  cv_Control_GREATEST : CValE K C_Control (.type "type") "GREATEST" (.int 1073741824)
  n_bool : mg "bool" = none
  n_int : mg "int" = none
  n_isinstance : mg "isinstance" = none
  n_len : mg "len" = none
  n_list : mg "list" = none
  n_max : mg "max" = none
  n_min : mg "min" = none
  n_range : mg "range" = none
  n_super : mg "super" = none
theorem cvq_Control_GREATEST {K : PySem.W.Frag} {mg : Str → Option Value} {T : Txt P K mg} {A : V → Prop} (q : A (.int 1073741824)) : ∃ C mc v u, V.ref T.C_Control = .ref C ∧ ClX.CRead K C mc ∧ ClX.CVal K C mc "GREATEST" v u ∧ A v := let ⟨u, h⟩ := T.cv_Control_GREATEST
  ⟨_, _, _, u, rfl, T.cr_Control, h, q⟩
def ky_Segment : List Str := ["source", "target", "seq", "count", "echo", "ack", "syn", "fin", "reset", "marked", "cut", "window", "mss", "scale", "ranges_known", "ranges", "stamp", "data"]
theorem nd_Segment : ky_Segment.Nodup := by decide +kernel
section
variable {P : Program} {K : PySem.W.Frag} {mg : Str → Option Value} {T : Txt P K mg} {H : Hp} {a dx : Addr} {vs : List V} {v y : V}
theorem fd_Segment_source {A : V → Prop} (ho : H a = some (.ins T.C_Segment dx (obj ky_Segment vs))) (hv : vs[0]? = some v) (q : A v) : ∃ a' C' dx' fs v', V.ref a = .ref a' ∧ H a' = some (.ins C' dx' fs) ∧ Cls K C' ∧ NoAttr K C' "source" ∧ fs.lookup ("source" : Str) = some v' ∧ A v' := g_fldE ho T.k_Segment T.n_Segment_source nd_Segment rfl hv q
theorem st_Segment_source {A : Hp → Prop} (ho : H a = some (.ins T.C_Segment dx (obj ky_Segment vs))) (hv : 0 < vs.length) (q : A (upd H a (.ins T.C_Segment dx (obj ky_Segment (vs.set 0 y))))) : ∃ a' C' dx' fs, V.ref a = .ref a' ∧ H a' = some (.ins C' dx' fs) ∧ Cls K C' ∧ NoAttr K C' "source" ∧ fs.length < 1000 ∧ A (upd H a' (.ins C' dx' (putF "source" y fs))) := g_putE ho T.k_Segment T.n_Segment_source nd_Segment (by decide) rfl hv q
theorem nw_Segment_source {A : Hp → Prop} (ho : H a = some (.ins T.C_Segment dx (obj ky_Segment vs))) (hv : vs.length = 0) (q : A (upd H a (.ins T.C_Segment dx (obj ky_Segment (vs ++ [y]))))) : ∃ a' C' dx' fs, V.ref a = .ref a' ∧ H a' = some (.ins C' dx' fs) ∧ Cls K C' ∧ NoAttr K C' "source" ∧ fs.length < 1000 ∧ A (upd H a' (.ins C' dx' (putF "source" y fs))) := g_newE ho T.k_Segment T.n_Segment_source nd_Segment (by decide) (by rw [hv]; rfl) q
theorem fd_Segment_target {A : V → Prop} (ho : H a = some (.ins T.C_Segment dx (obj ky_Segment vs))) (hv : vs[1]? = some v) (q : A v) : ∃ a' C' dx' fs v', V.ref a = .ref a' ∧ H a' = some (.ins C' dx' fs) ∧ Cls K C' ∧ NoAttr K C' "target" ∧ fs.lookup ("target" : Str) = some v' ∧ A v' := g_fldE ho T.k_Segment T.n_Segment_target nd_Segment rfl hv q
theorem st_Segment_target {A : Hp → Prop} (ho : H a = some (.ins T.C_Segment dx (obj ky_Segment vs))) (hv : 1 < vs.length) (q : A (upd H a (.ins T.C_Segment dx (obj ky_Segment (vs.set 1 y))))) : ∃ a' C' dx' fs, V.ref a = .ref a' ∧ H a' = some (.ins C' dx' fs) ∧ Cls K C' ∧ NoAttr K C' "target" ∧ fs.length < 1000 ∧ A (upd H a' (.ins C' dx' (putF "target" y fs))) := g_putE ho T.k_Segment T.n_Segment_target nd_Segment (by decide) rfl hv q
theorem nw_Segment_target {A : Hp → Prop} (ho : H a = some (.ins T.C_Segment dx (obj ky_Segment vs))) (hv : vs.length = 1) (q : A (upd H a (.ins T.C_Segment dx (obj ky_Segment (vs ++ [y]))))) : ∃ a' C' dx' fs, V.ref a = .ref a' ∧ H a' = some (.ins C' dx' fs) ∧ Cls K C' ∧ NoAttr K C' "target" ∧ fs.length < 1000 ∧ A (upd H a' (.ins C' dx' (putF "target" y fs))) := g_newE ho T.k_Segment T.n_Segment_target nd_Segment (by decide) (by rw [hv]; rfl) q
theorem fd_Segment_seq {A : V → Prop} (ho : H a = some (.ins T.C_Segment dx (obj ky_Segment vs))) (hv : vs[2]? = some v) (q : A v) : ∃ a' C' dx' fs v', V.ref a = .ref a' ∧ H a' = some (.ins C' dx' fs) ∧ Cls K C' ∧ NoAttr K C' "seq" ∧ fs.lookup ("seq" : Str) = some v' ∧ A v' := g_fldE ho T.k_Segment T.n_Segment_seq nd_Segment rfl hv q
theorem st_Segment_seq {A : Hp → Prop} (ho : H a = some (.ins T.C_Segment dx (obj ky_Segment vs))) (hv : 2 < vs.length) (q : A (upd H a (.ins T.C_Segment dx (obj ky_Segment (vs.set 2 y))))) : ∃ a' C' dx' fs, V.ref a = .ref a' ∧ H a' = some (.ins C' dx' fs) ∧ Cls K C' ∧ NoAttr K C' "seq" ∧ fs.length < 1000 ∧ A (upd H a' (.ins C' dx' (putF "seq" y fs))) := g_putE ho T.k_Segment T.n_Segment_seq nd_Segment (by decide) rfl hv q
theorem nw_Segment_seq {A : Hp → Prop} (ho : H a = some (.ins T.C_Segment dx (obj ky_Segment vs))) (hv : vs.length = 2) (q : A (upd H a (.ins T.C_Segment dx (obj ky_Segment (vs ++ [y]))))) : ∃ a' C' dx' fs, V.ref a = .ref a' ∧ H a' = some (.ins C' dx' fs) ∧ Cls K C' ∧ NoAttr K C' "seq" ∧ fs.length < 1000 ∧ A (upd H a' (.ins C' dx' (putF "seq" y fs))) := g_newE ho T.k_Segment T.n_Segment_seq nd_Segment (by decide) (by rw [hv]; rfl) q
theorem fd_Segment_count {A : V → Prop} (ho : H a = some (.ins T.C_Segment dx (obj ky_Segment vs))) (hv : vs[3]? = some v) (q : A v) : ∃ a' C' dx' fs v', V.ref a = .ref a' ∧ H a' = some (.ins C' dx' fs) ∧ Cls K C' ∧ NoAttr K C' "count" ∧ fs.lookup ("count" : Str) = some v' ∧ A v' := g_fldE ho T.k_Segment T.n_Segment_count nd_Segment rfl hv q
theorem st_Segment_count {A : Hp → Prop} (ho : H a = some (.ins T.C_Segment dx (obj ky_Segment vs))) (hv : 3 < vs.length) (q : A (upd H a (.ins T.C_Segment dx (obj ky_Segment (vs.set 3 y))))) : ∃ a' C' dx' fs, V.ref a = .ref a' ∧ H a' = some (.ins C' dx' fs) ∧ Cls K C' ∧ NoAttr K C' "count" ∧ fs.length < 1000 ∧ A (upd H a' (.ins C' dx' (putF "count" y fs))) := g_putE ho T.k_Segment T.n_Segment_count nd_Segment (by decide) rfl hv q
theorem nw_Segment_count {A : Hp → Prop} (ho : H a = some (.ins T.C_Segment dx (obj ky_Segment vs))) (hv : vs.length = 3) (q : A (upd H a (.ins T.C_Segment dx (obj ky_Segment (vs ++ [y]))))) : ∃ a' C' dx' fs, V.ref a = .ref a' ∧ H a' = some (.ins C' dx' fs) ∧ Cls K C' ∧ NoAttr K C' "count" ∧ fs.length < 1000 ∧ A (upd H a' (.ins C' dx' (putF "count" y fs))) := g_newE ho T.k_Segment T.n_Segment_count nd_Segment (by decide) (by rw [hv]; rfl) q
theorem fd_Segment_echo {A : V → Prop} (ho : H a = some (.ins T.C_Segment dx (obj ky_Segment vs))) (hv : vs[4]? = some v) (q : A v) : ∃ a' C' dx' fs v', V.ref a = .ref a' ∧ H a' = some (.ins C' dx' fs) ∧ Cls K C' ∧ NoAttr K C' "echo" ∧ fs.lookup ("echo" : Str) = some v' ∧ A v' := g_fldE ho T.k_Segment T.n_Segment_echo nd_Segment rfl hv q
theorem st_Segment_echo {A : Hp → Prop} (ho : H a = some (.ins T.C_Segment dx (obj ky_Segment vs))) (hv : 4 < vs.length) (q : A (upd H a (.ins T.C_Segment dx (obj ky_Segment (vs.set 4 y))))) : ∃ a' C' dx' fs, V.ref a = .ref a' ∧ H a' = some (.ins C' dx' fs) ∧ Cls K C' ∧ NoAttr K C' "echo" ∧ fs.length < 1000 ∧ A (upd H a' (.ins C' dx' (putF "echo" y fs))) := g_putE ho T.k_Segment T.n_Segment_echo nd_Segment (by decide) rfl hv q
theorem nw_Segment_echo {A : Hp → Prop} (ho : H a = some (.ins T.C_Segment dx (obj ky_Segment vs))) (hv : vs.length = 4) (q : A (upd H a (.ins T.C_Segment dx (obj ky_Segment (vs ++ [y]))))) : ∃ a' C' dx' fs, V.ref a = .ref a' ∧ H a' = some (.ins C' dx' fs) ∧ Cls K C' ∧ NoAttr K C' "echo" ∧ fs.length < 1000 ∧ A (upd H a' (.ins C' dx' (putF "echo" y fs))) := g_newE ho T.k_Segment T.n_Segment_echo nd_Segment (by decide) (by rw [hv]; rfl) q
theorem fd_Segment_ack {A : V → Prop} (ho : H a = some (.ins T.C_Segment dx (obj ky_Segment vs))) (hv : vs[5]? = some v) (q : A v) : ∃ a' C' dx' fs v', V.ref a = .ref a' ∧ H a' = some (.ins C' dx' fs) ∧ Cls K C' ∧ NoAttr K C' "ack" ∧ fs.lookup ("ack" : Str) = some v' ∧ A v' := g_fldE ho T.k_Segment T.n_Segment_ack nd_Segment rfl hv q
theorem st_Segment_ack {A : Hp → Prop} (ho : H a = some (.ins T.C_Segment dx (obj ky_Segment vs))) (hv : 5 < vs.length) (q : A (upd H a (.ins T.C_Segment dx (obj ky_Segment (vs.set 5 y))))) : ∃ a' C' dx' fs, V.ref a = .ref a' ∧ H a' = some (.ins C' dx' fs) ∧ Cls K C' ∧ NoAttr K C' "ack" ∧ fs.length < 1000 ∧ A (upd H a' (.ins C' dx' (putF "ack" y fs))) := g_putE ho T.k_Segment T.n_Segment_ack nd_Segment (by decide) rfl hv q
theorem nw_Segment_ack {A : Hp → Prop} (ho : H a = some (.ins T.C_Segment dx (obj ky_Segment vs))) (hv : vs.length = 5) (q : A (upd H a (.ins T.C_Segment dx (obj ky_Segment (vs ++ [y]))))) : ∃ a' C' dx' fs, V.ref a = .ref a' ∧ H a' = some (.ins C' dx' fs) ∧ Cls K C' ∧ NoAttr K C' "ack" ∧ fs.length < 1000 ∧ A (upd H a' (.ins C' dx' (putF "ack" y fs))) := g_newE ho T.k_Segment T.n_Segment_ack nd_Segment (by decide) (by rw [hv]; rfl) q
theorem fd_Segment_syn {A : V → Prop} (ho : H a = some (.ins T.C_Segment dx (obj ky_Segment vs))) (hv : vs[6]? = some v) (q : A v) : ∃ a' C' dx' fs v', V.ref a = .ref a' ∧ H a' = some (.ins C' dx' fs) ∧ Cls K C' ∧ NoAttr K C' "syn" ∧ fs.lookup ("syn" : Str) = some v' ∧ A v' := g_fldE ho T.k_Segment T.n_Segment_syn nd_Segment rfl hv q
theorem st_Segment_syn {A : Hp → Prop} (ho : H a = some (.ins T.C_Segment dx (obj ky_Segment vs))) (hv : 6 < vs.length) (q : A (upd H a (.ins T.C_Segment dx (obj ky_Segment (vs.set 6 y))))) : ∃ a' C' dx' fs, V.ref a = .ref a' ∧ H a' = some (.ins C' dx' fs) ∧ Cls K C' ∧ NoAttr K C' "syn" ∧ fs.length < 1000 ∧ A (upd H a' (.ins C' dx' (putF "syn" y fs))) := g_putE ho T.k_Segment T.n_Segment_syn nd_Segment (by decide) rfl hv q
theorem nw_Segment_syn {A : Hp → Prop} (ho : H a = some (.ins T.C_Segment dx (obj ky_Segment vs))) (hv : vs.length = 6) (q : A (upd H a (.ins T.C_Segment dx (obj ky_Segment (vs ++ [y]))))) : ∃ a' C' dx' fs, V.ref a = .ref a' ∧ H a' = some (.ins C' dx' fs) ∧ Cls K C' ∧ NoAttr K C' "syn" ∧ fs.length < 1000 ∧ A (upd H a' (.ins C' dx' (putF "syn" y fs))) := g_newE ho T.k_Segment T.n_Segment_syn nd_Segment (by decide) (by rw [hv]; rfl) q
theorem fd_Segment_fin {A : V → Prop} (ho : H a = some (.ins T.C_Segment dx (obj ky_Segment vs))) (hv : vs[7]? = some v) (q : A v) : ∃ a' C' dx' fs v', V.ref a = .ref a' ∧ H a' = some (.ins C' dx' fs) ∧ Cls K C' ∧ NoAttr K C' "fin" ∧ fs.lookup ("fin" : Str) = some v' ∧ A v' := g_fldE ho T.k_Segment T.n_Segment_fin nd_Segment rfl hv q
theorem st_Segment_fin {A : Hp → Prop} (ho : H a = some (.ins T.C_Segment dx (obj ky_Segment vs))) (hv : 7 < vs.length) (q : A (upd H a (.ins T.C_Segment dx (obj ky_Segment (vs.set 7 y))))) : ∃ a' C' dx' fs, V.ref a = .ref a' ∧ H a' = some (.ins C' dx' fs) ∧ Cls K C' ∧ NoAttr K C' "fin" ∧ fs.length < 1000 ∧ A (upd H a' (.ins C' dx' (putF "fin" y fs))) := g_putE ho T.k_Segment T.n_Segment_fin nd_Segment (by decide) rfl hv q
theorem nw_Segment_fin {A : Hp → Prop} (ho : H a = some (.ins T.C_Segment dx (obj ky_Segment vs))) (hv : vs.length = 7) (q : A (upd H a (.ins T.C_Segment dx (obj ky_Segment (vs ++ [y]))))) : ∃ a' C' dx' fs, V.ref a = .ref a' ∧ H a' = some (.ins C' dx' fs) ∧ Cls K C' ∧ NoAttr K C' "fin" ∧ fs.length < 1000 ∧ A (upd H a' (.ins C' dx' (putF "fin" y fs))) := g_newE ho T.k_Segment T.n_Segment_fin nd_Segment (by decide) (by rw [hv]; rfl) q
theorem fd_Segment_reset {A : V → Prop} (ho : H a = some (.ins T.C_Segment dx (obj ky_Segment vs))) (hv : vs[8]? = some v) (q : A v) : ∃ a' C' dx' fs v', V.ref a = .ref a' ∧ H a' = some (.ins C' dx' fs) ∧ Cls K C' ∧ NoAttr K C' "reset" ∧ fs.lookup ("reset" : Str) = some v' ∧ A v' := g_fldE ho T.k_Segment T.n_Segment_reset nd_Segment rfl hv q
theorem st_Segment_reset {A : Hp → Prop} (ho : H a = some (.ins T.C_Segment dx (obj ky_Segment vs))) (hv : 8 < vs.length) (q : A (upd H a (.ins T.C_Segment dx (obj ky_Segment (vs.set 8 y))))) : ∃ a' C' dx' fs, V.ref a = .ref a' ∧ H a' = some (.ins C' dx' fs) ∧ Cls K C' ∧ NoAttr K C' "reset" ∧ fs.length < 1000 ∧ A (upd H a' (.ins C' dx' (putF "reset" y fs))) := g_putE ho T.k_Segment T.n_Segment_reset nd_Segment (by decide) rfl hv q
theorem nw_Segment_reset {A : Hp → Prop} (ho : H a = some (.ins T.C_Segment dx (obj ky_Segment vs))) (hv : vs.length = 8) (q : A (upd H a (.ins T.C_Segment dx (obj ky_Segment (vs ++ [y]))))) : ∃ a' C' dx' fs, V.ref a = .ref a' ∧ H a' = some (.ins C' dx' fs) ∧ Cls K C' ∧ NoAttr K C' "reset" ∧ fs.length < 1000 ∧ A (upd H a' (.ins C' dx' (putF "reset" y fs))) := g_newE ho T.k_Segment T.n_Segment_reset nd_Segment (by decide) (by rw [hv]; rfl) q
theorem fd_Segment_marked {A : V → Prop} (ho : H a = some (.ins T.C_Segment dx (obj ky_Segment vs))) (hv : vs[9]? = some v) (q : A v) : ∃ a' C' dx' fs v', V.ref a = .ref a' ∧ H a' = some (.ins C' dx' fs) ∧ Cls K C' ∧ NoAttr K C' "marked" ∧ fs.lookup ("marked" : Str) = some v' ∧ A v' := g_fldE ho T.k_Segment T.n_Segment_marked nd_Segment rfl hv q
theorem st_Segment_marked {A : Hp → Prop} (ho : H a = some (.ins T.C_Segment dx (obj ky_Segment vs))) (hv : 9 < vs.length) (q : A (upd H a (.ins T.C_Segment dx (obj ky_Segment (vs.set 9 y))))) : ∃ a' C' dx' fs, V.ref a = .ref a' ∧ H a' = some (.ins C' dx' fs) ∧ Cls K C' ∧ NoAttr K C' "marked" ∧ fs.length < 1000 ∧ A (upd H a' (.ins C' dx' (putF "marked" y fs))) := g_putE ho T.k_Segment T.n_Segment_marked nd_Segment (by decide) rfl hv q
theorem nw_Segment_marked {A : Hp → Prop} (ho : H a = some (.ins T.C_Segment dx (obj ky_Segment vs))) (hv : vs.length = 9) (q : A (upd H a (.ins T.C_Segment dx (obj ky_Segment (vs ++ [y]))))) : ∃ a' C' dx' fs, V.ref a = .ref a' ∧ H a' = some (.ins C' dx' fs) ∧ Cls K C' ∧ NoAttr K C' "marked" ∧ fs.length < 1000 ∧ A (upd H a' (.ins C' dx' (putF "marked" y fs))) := g_newE ho T.k_Segment T.n_Segment_marked nd_Segment (by decide) (by rw [hv]; rfl) q
theorem fd_Segment_cut {A : V → Prop} (ho : H a = some (.ins T.C_Segment dx (obj ky_Segment vs))) (hv : vs[10]? = some v) (q : A v) : ∃ a' C' dx' fs v', V.ref a = .ref a' ∧ H a' = some (.ins C' dx' fs) ∧ Cls K C' ∧ NoAttr K C' "cut" ∧ fs.lookup ("cut" : Str) = some v' ∧ A v' := g_fldE ho T.k_Segment T.n_Segment_cut nd_Segment rfl hv q
theorem st_Segment_cut {A : Hp → Prop} (ho : H a = some (.ins T.C_Segment dx (obj ky_Segment vs))) (hv : 10 < vs.length) (q : A (upd H a (.ins T.C_Segment dx (obj ky_Segment (vs.set 10 y))))) : ∃ a' C' dx' fs, V.ref a = .ref a' ∧ H a' = some (.ins C' dx' fs) ∧ Cls K C' ∧ NoAttr K C' "cut" ∧ fs.length < 1000 ∧ A (upd H a' (.ins C' dx' (putF "cut" y fs))) := g_putE ho T.k_Segment T.n_Segment_cut nd_Segment (by decide) rfl hv q
theorem nw_Segment_cut {A : Hp → Prop} (ho : H a = some (.ins T.C_Segment dx (obj ky_Segment vs))) (hv : vs.length = 10) (q : A (upd H a (.ins T.C_Segment dx (obj ky_Segment (vs ++ [y]))))) : ∃ a' C' dx' fs, V.ref a = .ref a' ∧ H a' = some (.ins C' dx' fs) ∧ Cls K C' ∧ NoAttr K C' "cut" ∧ fs.length < 1000 ∧ A (upd H a' (.ins C' dx' (putF "cut" y fs))) := g_newE ho T.k_Segment T.n_Segment_cut nd_Segment (by decide) (by rw [hv]; rfl) q
theorem fd_Segment_window {A : V → Prop} (ho : H a = some (.ins T.C_Segment dx (obj ky_Segment vs))) (hv : vs[11]? = some v) (q : A v) : ∃ a' C' dx' fs v', V.ref a = .ref a' ∧ H a' = some (.ins C' dx' fs) ∧ Cls K C' ∧ NoAttr K C' "window" ∧ fs.lookup ("window" : Str) = some v' ∧ A v' := g_fldE ho T.k_Segment T.n_Segment_window nd_Segment rfl hv q
theorem st_Segment_window {A : Hp → Prop} (ho : H a = some (.ins T.C_Segment dx (obj ky_Segment vs))) (hv : 11 < vs.length) (q : A (upd H a (.ins T.C_Segment dx (obj ky_Segment (vs.set 11 y))))) : ∃ a' C' dx' fs, V.ref a = .ref a' ∧ H a' = some (.ins C' dx' fs) ∧ Cls K C' ∧ NoAttr K C' "window" ∧ fs.length < 1000 ∧ A (upd H a' (.ins C' dx' (putF "window" y fs))) := g_putE ho T.k_Segment T.n_Segment_window nd_Segment (by decide) rfl hv q
theorem nw_Segment_window {A : Hp → Prop} (ho : H a = some (.ins T.C_Segment dx (obj ky_Segment vs))) (hv : vs.length = 11) (q : A (upd H a (.ins T.C_Segment dx (obj ky_Segment (vs ++ [y]))))) : ∃ a' C' dx' fs, V.ref a = .ref a' ∧ H a' = some (.ins C' dx' fs) ∧ Cls K C' ∧ NoAttr K C' "window" ∧ fs.length < 1000 ∧ A (upd H a' (.ins C' dx' (putF "window" y fs))) := g_newE ho T.k_Segment T.n_Segment_window nd_Segment (by decide) (by rw [hv]; rfl) q
theorem fd_Segment_mss {A : V → Prop} (ho : H a = some (.ins T.C_Segment dx (obj ky_Segment vs))) (hv : vs[12]? = some v) (q : A v) : ∃ a' C' dx' fs v', V.ref a = .ref a' ∧ H a' = some (.ins C' dx' fs) ∧ Cls K C' ∧ NoAttr K C' "mss" ∧ fs.lookup ("mss" : Str) = some v' ∧ A v' := g_fldE ho T.k_Segment T.n_Segment_mss nd_Segment rfl hv q
theorem st_Segment_mss {A : Hp → Prop} (ho : H a = some (.ins T.C_Segment dx (obj ky_Segment vs))) (hv : 12 < vs.length) (q : A (upd H a (.ins T.C_Segment dx (obj ky_Segment (vs.set 12 y))))) : ∃ a' C' dx' fs, V.ref a = .ref a' ∧ H a' = some (.ins C' dx' fs) ∧ Cls K C' ∧ NoAttr K C' "mss" ∧ fs.length < 1000 ∧ A (upd H a' (.ins C' dx' (putF "mss" y fs))) := g_putE ho T.k_Segment T.n_Segment_mss nd_Segment (by decide) rfl hv q
theorem nw_Segment_mss {A : Hp → Prop} (ho : H a = some (.ins T.C_Segment dx (obj ky_Segment vs))) (hv : vs.length = 12) (q : A (upd H a (.ins T.C_Segment dx (obj ky_Segment (vs ++ [y]))))) : ∃ a' C' dx' fs, V.ref a = .ref a' ∧ H a' = some (.ins C' dx' fs) ∧ Cls K C' ∧ NoAttr K C' "mss" ∧ fs.length < 1000 ∧ A (upd H a' (.ins C' dx' (putF "mss" y fs))) := g_newE ho T.k_Segment T.n_Segment_mss nd_Segment (by decide) (by rw [hv]; rfl) q
theorem fd_Segment_scale {A : V → Prop} (ho : H a = some (.ins T.C_Segment dx (obj ky_Segment vs))) (hv : vs[13]? = some v) (q : A v) : ∃ a' C' dx' fs v', V.ref a = .ref a' ∧ H a' = some (.ins C' dx' fs) ∧ Cls K C' ∧ NoAttr K C' "scale" ∧ fs.lookup ("scale" : Str) = some v' ∧ A v' := g_fldE ho T.k_Segment T.n_Segment_scale nd_Segment rfl hv q
theorem st_Segment_scale {A : Hp → Prop} (ho : H a = some (.ins T.C_Segment dx (obj ky_Segment vs))) (hv : 13 < vs.length) (q : A (upd H a (.ins T.C_Segment dx (obj ky_Segment (vs.set 13 y))))) : ∃ a' C' dx' fs, V.ref a = .ref a' ∧ H a' = some (.ins C' dx' fs) ∧ Cls K C' ∧ NoAttr K C' "scale" ∧ fs.length < 1000 ∧ A (upd H a' (.ins C' dx' (putF "scale" y fs))) := g_putE ho T.k_Segment T.n_Segment_scale nd_Segment (by decide) rfl hv q
theorem nw_Segment_scale {A : Hp → Prop} (ho : H a = some (.ins T.C_Segment dx (obj ky_Segment vs))) (hv : vs.length = 13) (q : A (upd H a (.ins T.C_Segment dx (obj ky_Segment (vs ++ [y]))))) : ∃ a' C' dx' fs, V.ref a = .ref a' ∧ H a' = some (.ins C' dx' fs) ∧ Cls K C' ∧ NoAttr K C' "scale" ∧ fs.length < 1000 ∧ A (upd H a' (.ins C' dx' (putF "scale" y fs))) := g_newE ho T.k_Segment T.n_Segment_scale nd_Segment (by decide) (by rw [hv]; rfl) q
theorem fd_Segment_ranges_known {A : V → Prop} (ho : H a = some (.ins T.C_Segment dx (obj ky_Segment vs))) (hv : vs[14]? = some v) (q : A v) : ∃ a' C' dx' fs v', V.ref a = .ref a' ∧ H a' = some (.ins C' dx' fs) ∧ Cls K C' ∧ NoAttr K C' "ranges_known" ∧ fs.lookup ("ranges_known" : Str) = some v' ∧ A v' := g_fldE ho T.k_Segment T.n_Segment_ranges_known nd_Segment rfl hv q
theorem st_Segment_ranges_known {A : Hp → Prop} (ho : H a = some (.ins T.C_Segment dx (obj ky_Segment vs))) (hv : 14 < vs.length) (q : A (upd H a (.ins T.C_Segment dx (obj ky_Segment (vs.set 14 y))))) : ∃ a' C' dx' fs, V.ref a = .ref a' ∧ H a' = some (.ins C' dx' fs) ∧ Cls K C' ∧ NoAttr K C' "ranges_known" ∧ fs.length < 1000 ∧ A (upd H a' (.ins C' dx' (putF "ranges_known" y fs))) := g_putE ho T.k_Segment T.n_Segment_ranges_known nd_Segment (by decide) rfl hv q
theorem nw_Segment_ranges_known {A : Hp → Prop} (ho : H a = some (.ins T.C_Segment dx (obj ky_Segment vs))) (hv : vs.length = 14) (q : A (upd H a (.ins T.C_Segment dx (obj ky_Segment (vs ++ [y]))))) : ∃ a' C' dx' fs, V.ref a = .ref a' ∧ H a' = some (.ins C' dx' fs) ∧ Cls K C' ∧ NoAttr K C' "ranges_known" ∧ fs.length < 1000 ∧ A (upd H a' (.ins C' dx' (putF "ranges_known" y fs))) := g_newE ho T.k_Segment T.n_Segment_ranges_known nd_Segment (by decide) (by rw [hv]; rfl) q
theorem fd_Segment_ranges {A : V → Prop} (ho : H a = some (.ins T.C_Segment dx (obj ky_Segment vs))) (hv : vs[15]? = some v) (q : A v) : ∃ a' C' dx' fs v', V.ref a = .ref a' ∧ H a' = some (.ins C' dx' fs) ∧ Cls K C' ∧ NoAttr K C' "ranges" ∧ fs.lookup ("ranges" : Str) = some v' ∧ A v' := g_fldE ho T.k_Segment T.n_Segment_ranges nd_Segment rfl hv q
theorem st_Segment_ranges {A : Hp → Prop} (ho : H a = some (.ins T.C_Segment dx (obj ky_Segment vs))) (hv : 15 < vs.length) (q : A (upd H a (.ins T.C_Segment dx (obj ky_Segment (vs.set 15 y))))) : ∃ a' C' dx' fs, V.ref a = .ref a' ∧ H a' = some (.ins C' dx' fs) ∧ Cls K C' ∧ NoAttr K C' "ranges" ∧ fs.length < 1000 ∧ A (upd H a' (.ins C' dx' (putF "ranges" y fs))) := g_putE ho T.k_Segment T.n_Segment_ranges nd_Segment (by decide) rfl hv q
theorem nw_Segment_ranges {A : Hp → Prop} (ho : H a = some (.ins T.C_Segment dx (obj ky_Segment vs))) (hv : vs.length = 15) (q : A (upd H a (.ins T.C_Segment dx (obj ky_Segment (vs ++ [y]))))) : ∃ a' C' dx' fs, V.ref a = .ref a' ∧ H a' = some (.ins C' dx' fs) ∧ Cls K C' ∧ NoAttr K C' "ranges" ∧ fs.length < 1000 ∧ A (upd H a' (.ins C' dx' (putF "ranges" y fs))) := g_newE ho T.k_Segment T.n_Segment_ranges nd_Segment (by decide) (by rw [hv]; rfl) q
theorem fd_Segment_stamp {A : V → Prop} (ho : H a = some (.ins T.C_Segment dx (obj ky_Segment vs))) (hv : vs[16]? = some v) (q : A v) : ∃ a' C' dx' fs v', V.ref a = .ref a' ∧ H a' = some (.ins C' dx' fs) ∧ Cls K C' ∧ NoAttr K C' "stamp" ∧ fs.lookup ("stamp" : Str) = some v' ∧ A v' := g_fldE ho T.k_Segment T.n_Segment_stamp nd_Segment rfl hv q
theorem st_Segment_stamp {A : Hp → Prop} (ho : H a = some (.ins T.C_Segment dx (obj ky_Segment vs))) (hv : 16 < vs.length) (q : A (upd H a (.ins T.C_Segment dx (obj ky_Segment (vs.set 16 y))))) : ∃ a' C' dx' fs, V.ref a = .ref a' ∧ H a' = some (.ins C' dx' fs) ∧ Cls K C' ∧ NoAttr K C' "stamp" ∧ fs.length < 1000 ∧ A (upd H a' (.ins C' dx' (putF "stamp" y fs))) := g_putE ho T.k_Segment T.n_Segment_stamp nd_Segment (by decide) rfl hv q
theorem nw_Segment_stamp {A : Hp → Prop} (ho : H a = some (.ins T.C_Segment dx (obj ky_Segment vs))) (hv : vs.length = 16) (q : A (upd H a (.ins T.C_Segment dx (obj ky_Segment (vs ++ [y]))))) : ∃ a' C' dx' fs, V.ref a = .ref a' ∧ H a' = some (.ins C' dx' fs) ∧ Cls K C' ∧ NoAttr K C' "stamp" ∧ fs.length < 1000 ∧ A (upd H a' (.ins C' dx' (putF "stamp" y fs))) := g_newE ho T.k_Segment T.n_Segment_stamp nd_Segment (by decide) (by rw [hv]; rfl) q
theorem fd_Segment_data {A : V → Prop} (ho : H a = some (.ins T.C_Segment dx (obj ky_Segment vs))) (hv : vs[17]? = some v) (q : A v) : ∃ a' C' dx' fs v', V.ref a = .ref a' ∧ H a' = some (.ins C' dx' fs) ∧ Cls K C' ∧ NoAttr K C' "data" ∧ fs.lookup ("data" : Str) = some v' ∧ A v' := g_fldE ho T.k_Segment T.n_Segment_data nd_Segment rfl hv q
theorem st_Segment_data {A : Hp → Prop} (ho : H a = some (.ins T.C_Segment dx (obj ky_Segment vs))) (hv : 17 < vs.length) (q : A (upd H a (.ins T.C_Segment dx (obj ky_Segment (vs.set 17 y))))) : ∃ a' C' dx' fs, V.ref a = .ref a' ∧ H a' = some (.ins C' dx' fs) ∧ Cls K C' ∧ NoAttr K C' "data" ∧ fs.length < 1000 ∧ A (upd H a' (.ins C' dx' (putF "data" y fs))) := g_putE ho T.k_Segment T.n_Segment_data nd_Segment (by decide) rfl hv q
theorem nw_Segment_data {A : Hp → Prop} (ho : H a = some (.ins T.C_Segment dx (obj ky_Segment vs))) (hv : vs.length = 17) (q : A (upd H a (.ins T.C_Segment dx (obj ky_Segment (vs ++ [y]))))) : ∃ a' C' dx' fs, V.ref a = .ref a' ∧ H a' = some (.ins C' dx' fs) ∧ Cls K C' ∧ NoAttr K C' "data" ∧ fs.length < 1000 ∧ A (upd H a' (.ins C' dx' (putF "data" y fs))) := g_newE ho T.k_Segment T.n_Segment_data nd_Segment (by decide) (by rw [hv]; rfl) q
end
def ky_Socket : List Str := ["count", "port", "peer", "peer_port", "peer_count", "peer_first", "peer_shift", "listened", "accepted", "endpoint"]
theorem nd_Socket : ky_Socket.Nodup := by decide +kernel
section
variable {P : Program} {K : PySem.W.Frag} {mg : Str → Option Value} {T : Txt P K mg} {H : Hp} {a dx : Addr} {vs : List V} {v y : V}
theorem fd_Socket_count {A : V → Prop} (ho : H a = some (.ins T.C_Socket dx (obj ky_Socket vs))) (hv : vs[0]? = some v) (q : A v) : ∃ a' C' dx' fs v', V.ref a = .ref a' ∧ H a' = some (.ins C' dx' fs) ∧ Cls K C' ∧ NoAttr K C' "count" ∧ fs.lookup ("count" : Str) = some v' ∧ A v' := g_fldE ho T.k_Socket T.n_Socket_count nd_Socket rfl hv q
theorem st_Socket_count {A : Hp → Prop} (ho : H a = some (.ins T.C_Socket dx (obj ky_Socket vs))) (hv : 0 < vs.length) (q : A (upd H a (.ins T.C_Socket dx (obj ky_Socket (vs.set 0 y))))) : ∃ a' C' dx' fs, V.ref a = .ref a' ∧ H a' = some (.ins C' dx' fs) ∧ Cls K C' ∧ NoAttr K C' "count" ∧ fs.length < 1000 ∧ A (upd H a' (.ins C' dx' (putF "count" y fs))) := g_putE ho T.k_Socket T.n_Socket_count nd_Socket (by decide) rfl hv q
theorem nw_Socket_count {A : Hp → Prop} (ho : H a = some (.ins T.C_Socket dx (obj ky_Socket vs))) (hv : vs.length = 0) (q : A (upd H a (.ins T.C_Socket dx (obj ky_Socket (vs ++ [y]))))) : ∃ a' C' dx' fs, V.ref a = .ref a' ∧ H a' = some (.ins C' dx' fs) ∧ Cls K C' ∧ NoAttr K C' "count" ∧ fs.length < 1000 ∧ A (upd H a' (.ins C' dx' (putF "count" y fs))) := g_newE ho T.k_Socket T.n_Socket_count nd_Socket (by decide) (by rw [hv]; rfl) q
theorem fd_Socket_port {A : V → Prop} (ho : H a = some (.ins T.C_Socket dx (obj ky_Socket vs))) (hv : vs[1]? = some v) (q : A v) : ∃ a' C' dx' fs v', V.ref a = .ref a' ∧ H a' = some (.ins C' dx' fs) ∧ Cls K C' ∧ NoAttr K C' "port" ∧ fs.lookup ("port" : Str) = some v' ∧ A v' := g_fldE ho T.k_Socket T.n_Socket_port nd_Socket rfl hv q
theorem st_Socket_port {A : Hp → Prop} (ho : H a = some (.ins T.C_Socket dx (obj ky_Socket vs))) (hv : 1 < vs.length) (q : A (upd H a (.ins T.C_Socket dx (obj ky_Socket (vs.set 1 y))))) : ∃ a' C' dx' fs, V.ref a = .ref a' ∧ H a' = some (.ins C' dx' fs) ∧ Cls K C' ∧ NoAttr K C' "port" ∧ fs.length < 1000 ∧ A (upd H a' (.ins C' dx' (putF "port" y fs))) := g_putE ho T.k_Socket T.n_Socket_port nd_Socket (by decide) rfl hv q
theorem nw_Socket_port {A : Hp → Prop} (ho : H a = some (.ins T.C_Socket dx (obj ky_Socket vs))) (hv : vs.length = 1) (q : A (upd H a (.ins T.C_Socket dx (obj ky_Socket (vs ++ [y]))))) : ∃ a' C' dx' fs, V.ref a = .ref a' ∧ H a' = some (.ins C' dx' fs) ∧ Cls K C' ∧ NoAttr K C' "port" ∧ fs.length < 1000 ∧ A (upd H a' (.ins C' dx' (putF "port" y fs))) := g_newE ho T.k_Socket T.n_Socket_port nd_Socket (by decide) (by rw [hv]; rfl) q
theorem fd_Socket_peer {A : V → Prop} (ho : H a = some (.ins T.C_Socket dx (obj ky_Socket vs))) (hv : vs[2]? = some v) (q : A v) : ∃ a' C' dx' fs v', V.ref a = .ref a' ∧ H a' = some (.ins C' dx' fs) ∧ Cls K C' ∧ NoAttr K C' "peer" ∧ fs.lookup ("peer" : Str) = some v' ∧ A v' := g_fldE ho T.k_Socket T.n_Socket_peer nd_Socket rfl hv q
theorem st_Socket_peer {A : Hp → Prop} (ho : H a = some (.ins T.C_Socket dx (obj ky_Socket vs))) (hv : 2 < vs.length) (q : A (upd H a (.ins T.C_Socket dx (obj ky_Socket (vs.set 2 y))))) : ∃ a' C' dx' fs, V.ref a = .ref a' ∧ H a' = some (.ins C' dx' fs) ∧ Cls K C' ∧ NoAttr K C' "peer" ∧ fs.length < 1000 ∧ A (upd H a' (.ins C' dx' (putF "peer" y fs))) := g_putE ho T.k_Socket T.n_Socket_peer nd_Socket (by decide) rfl hv q
theorem nw_Socket_peer {A : Hp → Prop} (ho : H a = some (.ins T.C_Socket dx (obj ky_Socket vs))) (hv : vs.length = 2) (q : A (upd H a (.ins T.C_Socket dx (obj ky_Socket (vs ++ [y]))))) : ∃ a' C' dx' fs, V.ref a = .ref a' ∧ H a' = some (.ins C' dx' fs) ∧ Cls K C' ∧ NoAttr K C' "peer" ∧ fs.length < 1000 ∧ A (upd H a' (.ins C' dx' (putF "peer" y fs))) := g_newE ho T.k_Socket T.n_Socket_peer nd_Socket (by decide) (by rw [hv]; rfl) q
theorem fd_Socket_peer_port {A : V → Prop} (ho : H a = some (.ins T.C_Socket dx (obj ky_Socket vs))) (hv : vs[3]? = some v) (q : A v) : ∃ a' C' dx' fs v', V.ref a = .ref a' ∧ H a' = some (.ins C' dx' fs) ∧ Cls K C' ∧ NoAttr K C' "peer_port" ∧ fs.lookup ("peer_port" : Str) = some v' ∧ A v' := g_fldE ho T.k_Socket T.n_Socket_peer_port nd_Socket rfl hv q
theorem st_Socket_peer_port {A : Hp → Prop} (ho : H a = some (.ins T.C_Socket dx (obj ky_Socket vs))) (hv : 3 < vs.length) (q : A (upd H a (.ins T.C_Socket dx (obj ky_Socket (vs.set 3 y))))) : ∃ a' C' dx' fs, V.ref a = .ref a' ∧ H a' = some (.ins C' dx' fs) ∧ Cls K C' ∧ NoAttr K C' "peer_port" ∧ fs.length < 1000 ∧ A (upd H a' (.ins C' dx' (putF "peer_port" y fs))) := g_putE ho T.k_Socket T.n_Socket_peer_port nd_Socket (by decide) rfl hv q
theorem nw_Socket_peer_port {A : Hp → Prop} (ho : H a = some (.ins T.C_Socket dx (obj ky_Socket vs))) (hv : vs.length = 3) (q : A (upd H a (.ins T.C_Socket dx (obj ky_Socket (vs ++ [y]))))) : ∃ a' C' dx' fs, V.ref a = .ref a' ∧ H a' = some (.ins C' dx' fs) ∧ Cls K C' ∧ NoAttr K C' "peer_port" ∧ fs.length < 1000 ∧ A (upd H a' (.ins C' dx' (putF "peer_port" y fs))) := g_newE ho T.k_Socket T.n_Socket_peer_port nd_Socket (by decide) (by rw [hv]; rfl) q
theorem fd_Socket_peer_count {A : V → Prop} (ho : H a = some (.ins T.C_Socket dx (obj ky_Socket vs))) (hv : vs[4]? = some v) (q : A v) : ∃ a' C' dx' fs v', V.ref a = .ref a' ∧ H a' = some (.ins C' dx' fs) ∧ Cls K C' ∧ NoAttr K C' "peer_count" ∧ fs.lookup ("peer_count" : Str) = some v' ∧ A v' := g_fldE ho T.k_Socket T.n_Socket_peer_count nd_Socket rfl hv q
theorem st_Socket_peer_count {A : Hp → Prop} (ho : H a = some (.ins T.C_Socket dx (obj ky_Socket vs))) (hv : 4 < vs.length) (q : A (upd H a (.ins T.C_Socket dx (obj ky_Socket (vs.set 4 y))))) : ∃ a' C' dx' fs, V.ref a = .ref a' ∧ H a' = some (.ins C' dx' fs) ∧ Cls K C' ∧ NoAttr K C' "peer_count" ∧ fs.length < 1000 ∧ A (upd H a' (.ins C' dx' (putF "peer_count" y fs))) := g_putE ho T.k_Socket T.n_Socket_peer_count nd_Socket (by decide) rfl hv q
theorem nw_Socket_peer_count {A : Hp → Prop} (ho : H a = some (.ins T.C_Socket dx (obj ky_Socket vs))) (hv : vs.length = 4) (q : A (upd H a (.ins T.C_Socket dx (obj ky_Socket (vs ++ [y]))))) : ∃ a' C' dx' fs, V.ref a = .ref a' ∧ H a' = some (.ins C' dx' fs) ∧ Cls K C' ∧ NoAttr K C' "peer_count" ∧ fs.length < 1000 ∧ A (upd H a' (.ins C' dx' (putF "peer_count" y fs))) := g_newE ho T.k_Socket T.n_Socket_peer_count nd_Socket (by decide) (by rw [hv]; rfl) q
theorem fd_Socket_peer_first {A : V → Prop} (ho : H a = some (.ins T.C_Socket dx (obj ky_Socket vs))) (hv : vs[5]? = some v) (q : A v) : ∃ a' C' dx' fs v', V.ref a = .ref a' ∧ H a' = some (.ins C' dx' fs) ∧ Cls K C' ∧ NoAttr K C' "peer_first" ∧ fs.lookup ("peer_first" : Str) = some v' ∧ A v' := g_fldE ho T.k_Socket T.n_Socket_peer_first nd_Socket rfl hv q
theorem st_Socket_peer_first {A : Hp → Prop} (ho : H a = some (.ins T.C_Socket dx (obj ky_Socket vs))) (hv : 5 < vs.length) (q : A (upd H a (.ins T.C_Socket dx (obj ky_Socket (vs.set 5 y))))) : ∃ a' C' dx' fs, V.ref a = .ref a' ∧ H a' = some (.ins C' dx' fs) ∧ Cls K C' ∧ NoAttr K C' "peer_first" ∧ fs.length < 1000 ∧ A (upd H a' (.ins C' dx' (putF "peer_first" y fs))) := g_putE ho T.k_Socket T.n_Socket_peer_first nd_Socket (by decide) rfl hv q
theorem nw_Socket_peer_first {A : Hp → Prop} (ho : H a = some (.ins T.C_Socket dx (obj ky_Socket vs))) (hv : vs.length = 5) (q : A (upd H a (.ins T.C_Socket dx (obj ky_Socket (vs ++ [y]))))) : ∃ a' C' dx' fs, V.ref a = .ref a' ∧ H a' = some (.ins C' dx' fs) ∧ Cls K C' ∧ NoAttr K C' "peer_first" ∧ fs.length < 1000 ∧ A (upd H a' (.ins C' dx' (putF "peer_first" y fs))) := g_newE ho T.k_Socket T.n_Socket_peer_first nd_Socket (by decide) (by rw [hv]; rfl) q
theorem fd_Socket_peer_shift {A : V → Prop} (ho : H a = some (.ins T.C_Socket dx (obj ky_Socket vs))) (hv : vs[6]? = some v) (q : A v) : ∃ a' C' dx' fs v', V.ref a = .ref a' ∧ H a' = some (.ins C' dx' fs) ∧ Cls K C' ∧ NoAttr K C' "peer_shift" ∧ fs.lookup ("peer_shift" : Str) = some v' ∧ A v' := g_fldE ho T.k_Socket T.n_Socket_peer_shift nd_Socket rfl hv q
theorem st_Socket_peer_shift {A : Hp → Prop} (ho : H a = some (.ins T.C_Socket dx (obj ky_Socket vs))) (hv : 6 < vs.length) (q : A (upd H a (.ins T.C_Socket dx (obj ky_Socket (vs.set 6 y))))) : ∃ a' C' dx' fs, V.ref a = .ref a' ∧ H a' = some (.ins C' dx' fs) ∧ Cls K C' ∧ NoAttr K C' "peer_shift" ∧ fs.length < 1000 ∧ A (upd H a' (.ins C' dx' (putF "peer_shift" y fs))) := g_putE ho T.k_Socket T.n_Socket_peer_shift nd_Socket (by decide) rfl hv q
theorem nw_Socket_peer_shift {A : Hp → Prop} (ho : H a = some (.ins T.C_Socket dx (obj ky_Socket vs))) (hv : vs.length = 6) (q : A (upd H a (.ins T.C_Socket dx (obj ky_Socket (vs ++ [y]))))) : ∃ a' C' dx' fs, V.ref a = .ref a' ∧ H a' = some (.ins C' dx' fs) ∧ Cls K C' ∧ NoAttr K C' "peer_shift" ∧ fs.length < 1000 ∧ A (upd H a' (.ins C' dx' (putF "peer_shift" y fs))) := g_newE ho T.k_Socket T.n_Socket_peer_shift nd_Socket (by decide) (by rw [hv]; rfl) q
theorem fd_Socket_listened {A : V → Prop} (ho : H a = some (.ins T.C_Socket dx (obj ky_Socket vs))) (hv : vs[7]? = some v) (q : A v) : ∃ a' C' dx' fs v', V.ref a = .ref a' ∧ H a' = some (.ins C' dx' fs) ∧ Cls K C' ∧ NoAttr K C' "listened" ∧ fs.lookup ("listened" : Str) = some v' ∧ A v' := g_fldE ho T.k_Socket T.n_Socket_listened nd_Socket rfl hv q
theorem st_Socket_listened {A : Hp → Prop} (ho : H a = some (.ins T.C_Socket dx (obj ky_Socket vs))) (hv : 7 < vs.length) (q : A (upd H a (.ins T.C_Socket dx (obj ky_Socket (vs.set 7 y))))) : ∃ a' C' dx' fs, V.ref a = .ref a' ∧ H a' = some (.ins C' dx' fs) ∧ Cls K C' ∧ NoAttr K C' "listened" ∧ fs.length < 1000 ∧ A (upd H a' (.ins C' dx' (putF "listened" y fs))) := g_putE ho T.k_Socket T.n_Socket_listened nd_Socket (by decide) rfl hv q
theorem nw_Socket_listened {A : Hp → Prop} (ho : H a = some (.ins T.C_Socket dx (obj ky_Socket vs))) (hv : vs.length = 7) (q : A (upd H a (.ins T.C_Socket dx (obj ky_Socket (vs ++ [y]))))) : ∃ a' C' dx' fs, V.ref a = .ref a' ∧ H a' = some (.ins C' dx' fs) ∧ Cls K C' ∧ NoAttr K C' "listened" ∧ fs.length < 1000 ∧ A (upd H a' (.ins C' dx' (putF "listened" y fs))) := g_newE ho T.k_Socket T.n_Socket_listened nd_Socket (by decide) (by rw [hv]; rfl) q
theorem fd_Socket_accepted {A : V → Prop} (ho : H a = some (.ins T.C_Socket dx (obj ky_Socket vs))) (hv : vs[8]? = some v) (q : A v) : ∃ a' C' dx' fs v', V.ref a = .ref a' ∧ H a' = some (.ins C' dx' fs) ∧ Cls K C' ∧ NoAttr K C' "accepted" ∧ fs.lookup ("accepted" : Str) = some v' ∧ A v' := g_fldE ho T.k_Socket T.n_Socket_accepted nd_Socket rfl hv q
theorem st_Socket_accepted {A : Hp → Prop} (ho : H a = some (.ins T.C_Socket dx (obj ky_Socket vs))) (hv : 8 < vs.length) (q : A (upd H a (.ins T.C_Socket dx (obj ky_Socket (vs.set 8 y))))) : ∃ a' C' dx' fs, V.ref a = .ref a' ∧ H a' = some (.ins C' dx' fs) ∧ Cls K C' ∧ NoAttr K C' "accepted" ∧ fs.length < 1000 ∧ A (upd H a' (.ins C' dx' (putF "accepted" y fs))) := g_putE ho T.k_Socket T.n_Socket_accepted nd_Socket (by decide) rfl hv q
theorem nw_Socket_accepted {A : Hp → Prop} (ho : H a = some (.ins T.C_Socket dx (obj ky_Socket vs))) (hv : vs.length = 8) (q : A (upd H a (.ins T.C_Socket dx (obj ky_Socket (vs ++ [y]))))) : ∃ a' C' dx' fs, V.ref a = .ref a' ∧ H a' = some (.ins C' dx' fs) ∧ Cls K C' ∧ NoAttr K C' "accepted" ∧ fs.length < 1000 ∧ A (upd H a' (.ins C' dx' (putF "accepted" y fs))) := g_newE ho T.k_Socket T.n_Socket_accepted nd_Socket (by decide) (by rw [hv]; rfl) q
theorem fd_Socket_endpoint {A : V → Prop} (ho : H a = some (.ins T.C_Socket dx (obj ky_Socket vs))) (hv : vs[9]? = some v) (q : A v) : ∃ a' C' dx' fs v', V.ref a = .ref a' ∧ H a' = some (.ins C' dx' fs) ∧ Cls K C' ∧ NoAttr K C' "endpoint" ∧ fs.lookup ("endpoint" : Str) = some v' ∧ A v' := g_fldE ho T.k_Socket T.n_Socket_endpoint nd_Socket rfl hv q
theorem st_Socket_endpoint {A : Hp → Prop} (ho : H a = some (.ins T.C_Socket dx (obj ky_Socket vs))) (hv : 9 < vs.length) (q : A (upd H a (.ins T.C_Socket dx (obj ky_Socket (vs.set 9 y))))) : ∃ a' C' dx' fs, V.ref a = .ref a' ∧ H a' = some (.ins C' dx' fs) ∧ Cls K C' ∧ NoAttr K C' "endpoint" ∧ fs.length < 1000 ∧ A (upd H a' (.ins C' dx' (putF "endpoint" y fs))) := g_putE ho T.k_Socket T.n_Socket_endpoint nd_Socket (by decide) rfl hv q
theorem nw_Socket_endpoint {A : Hp → Prop} (ho : H a = some (.ins T.C_Socket dx (obj ky_Socket vs))) (hv : vs.length = 9) (q : A (upd H a (.ins T.C_Socket dx (obj ky_Socket (vs ++ [y]))))) : ∃ a' C' dx' fs, V.ref a = .ref a' ∧ H a' = some (.ins C' dx' fs) ∧ Cls K C' ∧ NoAttr K C' "endpoint" ∧ fs.length < 1000 ∧ A (upd H a' (.ins C' dx' (putF "endpoint" y fs))) := g_newE ho T.k_Socket T.n_Socket_endpoint nd_Socket (by decide) (by rw [hv]; rfl) q
theorem me_Socket_is_for {A : Prop} (ho : H a = some (.ins T.C_Socket dx (obj ky_Socket vs))) (q : A) : ∃ a' dx' fs, V.ref a = .ref a' ∧ H a' = some (.ins T.C_Socket dx' fs) ∧ fs.lookup ("is_for" : Str) = none ∧ A := g_methE ho (by decide +kernel) q
theorem me_Socket_learn {A : Prop} (ho : H a = some (.ins T.C_Socket dx (obj ky_Socket vs))) (q : A) : ∃ a' dx' fs, V.ref a = .ref a' ∧ H a' = some (.ins T.C_Socket dx' fs) ∧ fs.lookup ("learn" : Str) = none ∧ A := g_methE ho (by decide +kernel) q
end
def ky_Reno : List Str := ["cwnd", "thresh", "peak", "prior", "calm", "credit"]
theorem nd_Reno : ky_Reno.Nodup := by decide +kernel
section
variable {P : Program} {K : PySem.W.Frag} {mg : Str → Option Value} {T : Txt P K mg} {H : Hp} {a dx : Addr} {vs : List V} {v y : V}
theorem fd_Reno_cwnd {A : V → Prop} (ho : H a = some (.ins T.C_Reno dx (obj ky_Reno vs))) (hv : vs[0]? = some v) (q : A v) : ∃ a' C' dx' fs v', V.ref a = .ref a' ∧ H a' = some (.ins C' dx' fs) ∧ Cls K C' ∧ NoAttr K C' "cwnd" ∧ fs.lookup ("cwnd" : Str) = some v' ∧ A v' := g_fldE ho T.k_Reno T.n_Reno_cwnd nd_Reno rfl hv q
theorem st_Reno_cwnd {A : Hp → Prop} (ho : H a = some (.ins T.C_Reno dx (obj ky_Reno vs))) (hv : 0 < vs.length) (q : A (upd H a (.ins T.C_Reno dx (obj ky_Reno (vs.set 0 y))))) : ∃ a' C' dx' fs, V.ref a = .ref a' ∧ H a' = some (.ins C' dx' fs) ∧ Cls K C' ∧ NoAttr K C' "cwnd" ∧ fs.length < 1000 ∧ A (upd H a' (.ins C' dx' (putF "cwnd" y fs))) := g_putE ho T.k_Reno T.n_Reno_cwnd nd_Reno (by decide) rfl hv q
theorem nw_Reno_cwnd {A : Hp → Prop} (ho : H a = some (.ins T.C_Reno dx (obj ky_Reno vs))) (hv : vs.length = 0) (q : A (upd H a (.ins T.C_Reno dx (obj ky_Reno (vs ++ [y]))))) : ∃ a' C' dx' fs, V.ref a = .ref a' ∧ H a' = some (.ins C' dx' fs) ∧ Cls K C' ∧ NoAttr K C' "cwnd" ∧ fs.length < 1000 ∧ A (upd H a' (.ins C' dx' (putF "cwnd" y fs))) := g_newE ho T.k_Reno T.n_Reno_cwnd nd_Reno (by decide) (by rw [hv]; rfl) q
theorem fd_Reno_thresh {A : V → Prop} (ho : H a = some (.ins T.C_Reno dx (obj ky_Reno vs))) (hv : vs[1]? = some v) (q : A v) : ∃ a' C' dx' fs v', V.ref a = .ref a' ∧ H a' = some (.ins C' dx' fs) ∧ Cls K C' ∧ NoAttr K C' "thresh" ∧ fs.lookup ("thresh" : Str) = some v' ∧ A v' := g_fldE ho T.k_Reno T.n_Reno_thresh nd_Reno rfl hv q
theorem st_Reno_thresh {A : Hp → Prop} (ho : H a = some (.ins T.C_Reno dx (obj ky_Reno vs))) (hv : 1 < vs.length) (q : A (upd H a (.ins T.C_Reno dx (obj ky_Reno (vs.set 1 y))))) : ∃ a' C' dx' fs, V.ref a = .ref a' ∧ H a' = some (.ins C' dx' fs) ∧ Cls K C' ∧ NoAttr K C' "thresh" ∧ fs.length < 1000 ∧ A (upd H a' (.ins C' dx' (putF "thresh" y fs))) := g_putE ho T.k_Reno T.n_Reno_thresh nd_Reno (by decide) rfl hv q
theorem nw_Reno_thresh {A : Hp → Prop} (ho : H a = some (.ins T.C_Reno dx (obj ky_Reno vs))) (hv : vs.length = 1) (q : A (upd H a (.ins T.C_Reno dx (obj ky_Reno (vs ++ [y]))))) : ∃ a' C' dx' fs, V.ref a = .ref a' ∧ H a' = some (.ins C' dx' fs) ∧ Cls K C' ∧ NoAttr K C' "thresh" ∧ fs.length < 1000 ∧ A (upd H a' (.ins C' dx' (putF "thresh" y fs))) := g_newE ho T.k_Reno T.n_Reno_thresh nd_Reno (by decide) (by rw [hv]; rfl) q
theorem fd_Reno_peak {A : V → Prop} (ho : H a = some (.ins T.C_Reno dx (obj ky_Reno vs))) (hv : vs[2]? = some v) (q : A v) : ∃ a' C' dx' fs v', V.ref a = .ref a' ∧ H a' = some (.ins C' dx' fs) ∧ Cls K C' ∧ NoAttr K C' "peak" ∧ fs.lookup ("peak" : Str) = some v' ∧ A v' := g_fldE ho T.k_Reno T.n_Reno_peak nd_Reno rfl hv q
theorem st_Reno_peak {A : Hp → Prop} (ho : H a = some (.ins T.C_Reno dx (obj ky_Reno vs))) (hv : 2 < vs.length) (q : A (upd H a (.ins T.C_Reno dx (obj ky_Reno (vs.set 2 y))))) : ∃ a' C' dx' fs, V.ref a = .ref a' ∧ H a' = some (.ins C' dx' fs) ∧ Cls K C' ∧ NoAttr K C' "peak" ∧ fs.length < 1000 ∧ A (upd H a' (.ins C' dx' (putF "peak" y fs))) := g_putE ho T.k_Reno T.n_Reno_peak nd_Reno (by decide) rfl hv q
theorem nw_Reno_peak {A : Hp → Prop} (ho : H a = some (.ins T.C_Reno dx (obj ky_Reno vs))) (hv : vs.length = 2) (q : A (upd H a (.ins T.C_Reno dx (obj ky_Reno (vs ++ [y]))))) : ∃ a' C' dx' fs, V.ref a = .ref a' ∧ H a' = some (.ins C' dx' fs) ∧ Cls K C' ∧ NoAttr K C' "peak" ∧ fs.length < 1000 ∧ A (upd H a' (.ins C' dx' (putF "peak" y fs))) := g_newE ho T.k_Reno T.n_Reno_peak nd_Reno (by decide) (by rw [hv]; rfl) q
theorem fd_Reno_prior {A : V → Prop} (ho : H a = some (.ins T.C_Reno dx (obj ky_Reno vs))) (hv : vs[3]? = some v) (q : A v) : ∃ a' C' dx' fs v', V.ref a = .ref a' ∧ H a' = some (.ins C' dx' fs) ∧ Cls K C' ∧ NoAttr K C' "prior" ∧ fs.lookup ("prior" : Str) = some v' ∧ A v' := g_fldE ho T.k_Reno T.n_Reno_prior nd_Reno rfl hv q
theorem st_Reno_prior {A : Hp → Prop} (ho : H a = some (.ins T.C_Reno dx (obj ky_Reno vs))) (hv : 3 < vs.length) (q : A (upd H a (.ins T.C_Reno dx (obj ky_Reno (vs.set 3 y))))) : ∃ a' C' dx' fs, V.ref a = .ref a' ∧ H a' = some (.ins C' dx' fs) ∧ Cls K C' ∧ NoAttr K C' "prior" ∧ fs.length < 1000 ∧ A (upd H a' (.ins C' dx' (putF "prior" y fs))) := g_putE ho T.k_Reno T.n_Reno_prior nd_Reno (by decide) rfl hv q
theorem nw_Reno_prior {A : Hp → Prop} (ho : H a = some (.ins T.C_Reno dx (obj ky_Reno vs))) (hv : vs.length = 3) (q : A (upd H a (.ins T.C_Reno dx (obj ky_Reno (vs ++ [y]))))) : ∃ a' C' dx' fs, V.ref a = .ref a' ∧ H a' = some (.ins C' dx' fs) ∧ Cls K C' ∧ NoAttr K C' "prior" ∧ fs.length < 1000 ∧ A (upd H a' (.ins C' dx' (putF "prior" y fs))) := g_newE ho T.k_Reno T.n_Reno_prior nd_Reno (by decide) (by rw [hv]; rfl) q
theorem fd_Reno_calm {A : V → Prop} (ho : H a = some (.ins T.C_Reno dx (obj ky_Reno vs))) (hv : vs[4]? = some v) (q : A v) : ∃ a' C' dx' fs v', V.ref a = .ref a' ∧ H a' = some (.ins C' dx' fs) ∧ Cls K C' ∧ NoAttr K C' "calm" ∧ fs.lookup ("calm" : Str) = some v' ∧ A v' := g_fldE ho T.k_Reno T.n_Reno_calm nd_Reno rfl hv q
theorem st_Reno_calm {A : Hp → Prop} (ho : H a = some (.ins T.C_Reno dx (obj ky_Reno vs))) (hv : 4 < vs.length) (q : A (upd H a (.ins T.C_Reno dx (obj ky_Reno (vs.set 4 y))))) : ∃ a' C' dx' fs, V.ref a = .ref a' ∧ H a' = some (.ins C' dx' fs) ∧ Cls K C' ∧ NoAttr K C' "calm" ∧ fs.length < 1000 ∧ A (upd H a' (.ins C' dx' (putF "calm" y fs))) := g_putE ho T.k_Reno T.n_Reno_calm nd_Reno (by decide) rfl hv q
theorem nw_Reno_calm {A : Hp → Prop} (ho : H a = some (.ins T.C_Reno dx (obj ky_Reno vs))) (hv : vs.length = 4) (q : A (upd H a (.ins T.C_Reno dx (obj ky_Reno (vs ++ [y]))))) : ∃ a' C' dx' fs, V.ref a = .ref a' ∧ H a' = some (.ins C' dx' fs) ∧ Cls K C' ∧ NoAttr K C' "calm" ∧ fs.length < 1000 ∧ A (upd H a' (.ins C' dx' (putF "calm" y fs))) := g_newE ho T.k_Reno T.n_Reno_calm nd_Reno (by decide) (by rw [hv]; rfl) q
theorem fd_Reno_credit {A : V → Prop} (ho : H a = some (.ins T.C_Reno dx (obj ky_Reno vs))) (hv : vs[5]? = some v) (q : A v) : ∃ a' C' dx' fs v', V.ref a = .ref a' ∧ H a' = some (.ins C' dx' fs) ∧ Cls K C' ∧ NoAttr K C' "credit" ∧ fs.lookup ("credit" : Str) = some v' ∧ A v' := g_fldE ho T.k_Reno T.n_Reno_credit nd_Reno rfl hv q
theorem st_Reno_credit {A : Hp → Prop} (ho : H a = some (.ins T.C_Reno dx (obj ky_Reno vs))) (hv : 5 < vs.length) (q : A (upd H a (.ins T.C_Reno dx (obj ky_Reno (vs.set 5 y))))) : ∃ a' C' dx' fs, V.ref a = .ref a' ∧ H a' = some (.ins C' dx' fs) ∧ Cls K C' ∧ NoAttr K C' "credit" ∧ fs.length < 1000 ∧ A (upd H a' (.ins C' dx' (putF "credit" y fs))) := g_putE ho T.k_Reno T.n_Reno_credit nd_Reno (by decide) rfl hv q
theorem nw_Reno_credit {A : Hp → Prop} (ho : H a = some (.ins T.C_Reno dx (obj ky_Reno vs))) (hv : vs.length = 5) (q : A (upd H a (.ins T.C_Reno dx (obj ky_Reno (vs ++ [y]))))) : ∃ a' C' dx' fs, V.ref a = .ref a' ∧ H a' = some (.ins C' dx' fs) ∧ Cls K C' ∧ NoAttr K C' "credit" ∧ fs.length < 1000 ∧ A (upd H a' (.ins C' dx' (putF "credit" y fs))) := g_newE ho T.k_Reno T.n_Reno_credit nd_Reno (by decide) (by rw [hv]; rfl) q
theorem me_Reno_bounded {A : Prop} (ho : H a = some (.ins T.C_Reno dx (obj ky_Reno vs))) (q : A) : ∃ a' dx' fs, V.ref a = .ref a' ∧ H a' = some (.ins T.C_Reno dx' fs) ∧ fs.lookup ("_bounded" : Str) = none ∧ A := g_methE ho (by decide +kernel) q
end
def ky_RoundTrip : List Str := ["least", "most", "srtt", "variance", "rto", "measured"]
theorem nd_RoundTrip : ky_RoundTrip.Nodup := by decide +kernel
section
variable {P : Program} {K : PySem.W.Frag} {mg : Str → Option Value} {T : Txt P K mg} {H : Hp} {a dx : Addr} {vs : List V} {v y : V}
theorem fd_RoundTrip_least {A : V → Prop} (ho : H a = some (.ins T.C_RoundTrip dx (obj ky_RoundTrip vs))) (hv : vs[0]? = some v) (q : A v) : ∃ a' C' dx' fs v', V.ref a = .ref a' ∧ H a' = some (.ins C' dx' fs) ∧ Cls K C' ∧ NoAttr K C' "least" ∧ fs.lookup ("least" : Str) = some v' ∧ A v' := g_fldE ho T.k_RoundTrip T.n_RoundTrip_least nd_RoundTrip rfl hv q
theorem st_RoundTrip_least {A : Hp → Prop} (ho : H a = some (.ins T.C_RoundTrip dx (obj ky_RoundTrip vs))) (hv : 0 < vs.length) (q : A (upd H a (.ins T.C_RoundTrip dx (obj ky_RoundTrip (vs.set 0 y))))) : ∃ a' C' dx' fs, V.ref a = .ref a' ∧ H a' = some (.ins C' dx' fs) ∧ Cls K C' ∧ NoAttr K C' "least" ∧ fs.length < 1000 ∧ A (upd H a' (.ins C' dx' (putF "least" y fs))) := g_putE ho T.k_RoundTrip T.n_RoundTrip_least nd_RoundTrip (by decide) rfl hv q
theorem nw_RoundTrip_least {A : Hp → Prop} (ho : H a = some (.ins T.C_RoundTrip dx (obj ky_RoundTrip vs))) (hv : vs.length = 0) (q : A (upd H a (.ins T.C_RoundTrip dx (obj ky_RoundTrip (vs ++ [y]))))) : ∃ a' C' dx' fs, V.ref a = .ref a' ∧ H a' = some (.ins C' dx' fs) ∧ Cls K C' ∧ NoAttr K C' "least" ∧ fs.length < 1000 ∧ A (upd H a' (.ins C' dx' (putF "least" y fs))) := g_newE ho T.k_RoundTrip T.n_RoundTrip_least nd_RoundTrip (by decide) (by rw [hv]; rfl) q
theorem fd_RoundTrip_most {A : V → Prop} (ho : H a = some (.ins T.C_RoundTrip dx (obj ky_RoundTrip vs))) (hv : vs[1]? = some v) (q : A v) : ∃ a' C' dx' fs v', V.ref a = .ref a' ∧ H a' = some (.ins C' dx' fs) ∧ Cls K C' ∧ NoAttr K C' "most" ∧ fs.lookup ("most" : Str) = some v' ∧ A v' := g_fldE ho T.k_RoundTrip T.n_RoundTrip_most nd_RoundTrip rfl hv q
theorem st_RoundTrip_most {A : Hp → Prop} (ho : H a = some (.ins T.C_RoundTrip dx (obj ky_RoundTrip vs))) (hv : 1 < vs.length) (q : A (upd H a (.ins T.C_RoundTrip dx (obj ky_RoundTrip (vs.set 1 y))))) : ∃ a' C' dx' fs, V.ref a = .ref a' ∧ H a' = some (.ins C' dx' fs) ∧ Cls K C' ∧ NoAttr K C' "most" ∧ fs.length < 1000 ∧ A (upd H a' (.ins C' dx' (putF "most" y fs))) := g_putE ho T.k_RoundTrip T.n_RoundTrip_most nd_RoundTrip (by decide) rfl hv q
theorem nw_RoundTrip_most {A : Hp → Prop} (ho : H a = some (.ins T.C_RoundTrip dx (obj ky_RoundTrip vs))) (hv : vs.length = 1) (q : A (upd H a (.ins T.C_RoundTrip dx (obj ky_RoundTrip (vs ++ [y]))))) : ∃ a' C' dx' fs, V.ref a = .ref a' ∧ H a' = some (.ins C' dx' fs) ∧ Cls K C' ∧ NoAttr K C' "most" ∧ fs.length < 1000 ∧ A (upd H a' (.ins C' dx' (putF "most" y fs))) := g_newE ho T.k_RoundTrip T.n_RoundTrip_most nd_RoundTrip (by decide) (by rw [hv]; rfl) q
theorem fd_RoundTrip_srtt {A : V → Prop} (ho : H a = some (.ins T.C_RoundTrip dx (obj ky_RoundTrip vs))) (hv : vs[2]? = some v) (q : A v) : ∃ a' C' dx' fs v', V.ref a = .ref a' ∧ H a' = some (.ins C' dx' fs) ∧ Cls K C' ∧ NoAttr K C' "srtt" ∧ fs.lookup ("srtt" : Str) = some v' ∧ A v' := g_fldE ho T.k_RoundTrip T.n_RoundTrip_srtt nd_RoundTrip rfl hv q
theorem st_RoundTrip_srtt {A : Hp → Prop} (ho : H a = some (.ins T.C_RoundTrip dx (obj ky_RoundTrip vs))) (hv : 2 < vs.length) (q : A (upd H a (.ins T.C_RoundTrip dx (obj ky_RoundTrip (vs.set 2 y))))) : ∃ a' C' dx' fs, V.ref a = .ref a' ∧ H a' = some (.ins C' dx' fs) ∧ Cls K C' ∧ NoAttr K C' "srtt" ∧ fs.length < 1000 ∧ A (upd H a' (.ins C' dx' (putF "srtt" y fs))) := g_putE ho T.k_RoundTrip T.n_RoundTrip_srtt nd_RoundTrip (by decide) rfl hv q
theorem nw_RoundTrip_srtt {A : Hp → Prop} (ho : H a = some (.ins T.C_RoundTrip dx (obj ky_RoundTrip vs))) (hv : vs.length = 2) (q : A (upd H a (.ins T.C_RoundTrip dx (obj ky_RoundTrip (vs ++ [y]))))) : ∃ a' C' dx' fs, V.ref a = .ref a' ∧ H a' = some (.ins C' dx' fs) ∧ Cls K C' ∧ NoAttr K C' "srtt" ∧ fs.length < 1000 ∧ A (upd H a' (.ins C' dx' (putF "srtt" y fs))) := g_newE ho T.k_RoundTrip T.n_RoundTrip_srtt nd_RoundTrip (by decide) (by rw [hv]; rfl) q
theorem fd_RoundTrip_variance {A : V → Prop} (ho : H a = some (.ins T.C_RoundTrip dx (obj ky_RoundTrip vs))) (hv : vs[3]? = some v) (q : A v) : ∃ a' C' dx' fs v', V.ref a = .ref a' ∧ H a' = some (.ins C' dx' fs) ∧ Cls K C' ∧ NoAttr K C' "variance" ∧ fs.lookup ("variance" : Str) = some v' ∧ A v' := g_fldE ho T.k_RoundTrip T.n_RoundTrip_variance nd_RoundTrip rfl hv q
theorem st_RoundTrip_variance {A : Hp → Prop} (ho : H a = some (.ins T.C_RoundTrip dx (obj ky_RoundTrip vs))) (hv : 3 < vs.length) (q : A (upd H a (.ins T.C_RoundTrip dx (obj ky_RoundTrip (vs.set 3 y))))) : ∃ a' C' dx' fs, V.ref a = .ref a' ∧ H a' = some (.ins C' dx' fs) ∧ Cls K C' ∧ NoAttr K C' "variance" ∧ fs.length < 1000 ∧ A (upd H a' (.ins C' dx' (putF "variance" y fs))) := g_putE ho T.k_RoundTrip T.n_RoundTrip_variance nd_RoundTrip (by decide) rfl hv q
theorem nw_RoundTrip_variance {A : Hp → Prop} (ho : H a = some (.ins T.C_RoundTrip dx (obj ky_RoundTrip vs))) (hv : vs.length = 3) (q : A (upd H a (.ins T.C_RoundTrip dx (obj ky_RoundTrip (vs ++ [y]))))) : ∃ a' C' dx' fs, V.ref a = .ref a' ∧ H a' = some (.ins C' dx' fs) ∧ Cls K C' ∧ NoAttr K C' "variance" ∧ fs.length < 1000 ∧ A (upd H a' (.ins C' dx' (putF "variance" y fs))) := g_newE ho T.k_RoundTrip T.n_RoundTrip_variance nd_RoundTrip (by decide) (by rw [hv]; rfl) q
theorem fd_RoundTrip_rto {A : V → Prop} (ho : H a = some (.ins T.C_RoundTrip dx (obj ky_RoundTrip vs))) (hv : vs[4]? = some v) (q : A v) : ∃ a' C' dx' fs v', V.ref a = .ref a' ∧ H a' = some (.ins C' dx' fs) ∧ Cls K C' ∧ NoAttr K C' "rto" ∧ fs.lookup ("rto" : Str) = some v' ∧ A v' := g_fldE ho T.k_RoundTrip T.n_RoundTrip_rto nd_RoundTrip rfl hv q
theorem st_RoundTrip_rto {A : Hp → Prop} (ho : H a = some (.ins T.C_RoundTrip dx (obj ky_RoundTrip vs))) (hv : 4 < vs.length) (q : A (upd H a (.ins T.C_RoundTrip dx (obj ky_RoundTrip (vs.set 4 y))))) : ∃ a' C' dx' fs, V.ref a = .ref a' ∧ H a' = some (.ins C' dx' fs) ∧ Cls K C' ∧ NoAttr K C' "rto" ∧ fs.length < 1000 ∧ A (upd H a' (.ins C' dx' (putF "rto" y fs))) := g_putE ho T.k_RoundTrip T.n_RoundTrip_rto nd_RoundTrip (by decide) rfl hv q
theorem nw_RoundTrip_rto {A : Hp → Prop} (ho : H a = some (.ins T.C_RoundTrip dx (obj ky_RoundTrip vs))) (hv : vs.length = 4) (q : A (upd H a (.ins T.C_RoundTrip dx (obj ky_RoundTrip (vs ++ [y]))))) : ∃ a' C' dx' fs, V.ref a = .ref a' ∧ H a' = some (.ins C' dx' fs) ∧ Cls K C' ∧ NoAttr K C' "rto" ∧ fs.length < 1000 ∧ A (upd H a' (.ins C' dx' (putF "rto" y fs))) := g_newE ho T.k_RoundTrip T.n_RoundTrip_rto nd_RoundTrip (by decide) (by rw [hv]; rfl) q
theorem fd_RoundTrip_measured {A : V → Prop} (ho : H a = some (.ins T.C_RoundTrip dx (obj ky_RoundTrip vs))) (hv : vs[5]? = some v) (q : A v) : ∃ a' C' dx' fs v', V.ref a = .ref a' ∧ H a' = some (.ins C' dx' fs) ∧ Cls K C' ∧ NoAttr K C' "measured" ∧ fs.lookup ("measured" : Str) = some v' ∧ A v' := g_fldE ho T.k_RoundTrip T.n_RoundTrip_measured nd_RoundTrip rfl hv q
theorem st_RoundTrip_measured {A : Hp → Prop} (ho : H a = some (.ins T.C_RoundTrip dx (obj ky_RoundTrip vs))) (hv : 5 < vs.length) (q : A (upd H a (.ins T.C_RoundTrip dx (obj ky_RoundTrip (vs.set 5 y))))) : ∃ a' C' dx' fs, V.ref a = .ref a' ∧ H a' = some (.ins C' dx' fs) ∧ Cls K C' ∧ NoAttr K C' "measured" ∧ fs.length < 1000 ∧ A (upd H a' (.ins C' dx' (putF "measured" y fs))) := g_putE ho T.k_RoundTrip T.n_RoundTrip_measured nd_RoundTrip (by decide) rfl hv q
theorem nw_RoundTrip_measured {A : Hp → Prop} (ho : H a = some (.ins T.C_RoundTrip dx (obj ky_RoundTrip vs))) (hv : vs.length = 5) (q : A (upd H a (.ins T.C_RoundTrip dx (obj ky_RoundTrip (vs ++ [y]))))) : ∃ a' C' dx' fs, V.ref a = .ref a' ∧ H a' = some (.ins C' dx' fs) ∧ Cls K C' ∧ NoAttr K C' "measured" ∧ fs.length < 1000 ∧ A (upd H a' (.ins C' dx' (putF "measured" y fs))) := g_newE ho T.k_RoundTrip T.n_RoundTrip_measured nd_RoundTrip (by decide) (by rw [hv]; rfl) q
theorem me_RoundTrip_within_bounds {A : Prop} (ho : H a = some (.ins T.C_RoundTrip dx (obj ky_RoundTrip vs))) (q : A) : ∃ a' dx' fs, V.ref a = .ref a' ∧ H a' = some (.ins T.C_RoundTrip dx' fs) ∧ fs.lookup ("_within_bounds" : Str) = none ∧ A := g_methE ho (by decide +kernel) q
end
def ky_OffsetSet : List Str := ["_ranges"]
theorem nd_OffsetSet : ky_OffsetSet.Nodup := by decide +kernel
section
variable {P : Program} {K : PySem.W.Frag} {mg : Str → Option Value} {T : Txt P K mg} {H : Hp} {a dx : Addr} {vs : List V} {v y : V}
theorem fd_OffsetSet__ranges {A : V → Prop} (ho : H a = some (.ins T.C_OffsetSet dx (obj ky_OffsetSet vs))) (hv : vs[0]? = some v) (q : A v) : ∃ a' C' dx' fs v', V.ref a = .ref a' ∧ H a' = some (.ins C' dx' fs) ∧ Cls K C' ∧ NoAttr K C' "_ranges" ∧ fs.lookup ("_ranges" : Str) = some v' ∧ A v' := g_fldE ho T.k_OffsetSet T.n_OffsetSet__ranges nd_OffsetSet rfl hv q
theorem st_OffsetSet__ranges {A : Hp → Prop} (ho : H a = some (.ins T.C_OffsetSet dx (obj ky_OffsetSet vs))) (hv : 0 < vs.length) (q : A (upd H a (.ins T.C_OffsetSet dx (obj ky_OffsetSet (vs.set 0 y))))) : ∃ a' C' dx' fs, V.ref a = .ref a' ∧ H a' = some (.ins C' dx' fs) ∧ Cls K C' ∧ NoAttr K C' "_ranges" ∧ fs.length < 1000 ∧ A (upd H a' (.ins C' dx' (putF "_ranges" y fs))) := g_putE ho T.k_OffsetSet T.n_OffsetSet__ranges nd_OffsetSet (by decide) rfl hv q
theorem nw_OffsetSet__ranges {A : Hp → Prop} (ho : H a = some (.ins T.C_OffsetSet dx (obj ky_OffsetSet vs))) (hv : vs.length = 0) (q : A (upd H a (.ins T.C_OffsetSet dx (obj ky_OffsetSet (vs ++ [y]))))) : ∃ a' C' dx' fs, V.ref a = .ref a' ∧ H a' = some (.ins C' dx' fs) ∧ Cls K C' ∧ NoAttr K C' "_ranges" ∧ fs.length < 1000 ∧ A (upd H a' (.ins C' dx' (putF "_ranges" y fs))) := g_newE ho T.k_OffsetSet T.n_OffsetSet__ranges nd_OffsetSet (by decide) (by rw [hv]; rfl) q
end
def ky_Receiver : List Str := ["room", "nxt", "edge", "end", "recent", "_ready", "_held", "_held_offsets"]
theorem nd_Receiver : ky_Receiver.Nodup := by decide +kernel
section
variable {P : Program} {K : PySem.W.Frag} {mg : Str → Option Value} {T : Txt P K mg} {H : Hp} {a dx : Addr} {vs : List V} {v y : V}
theorem fd_Receiver_room {A : V → Prop} (ho : H a = some (.ins T.C_Receiver dx (obj ky_Receiver vs))) (hv : vs[0]? = some v) (q : A v) : ∃ a' C' dx' fs v', V.ref a = .ref a' ∧ H a' = some (.ins C' dx' fs) ∧ Cls K C' ∧ NoAttr K C' "room" ∧ fs.lookup ("room" : Str) = some v' ∧ A v' := g_fldE ho T.k_Receiver T.n_Receiver_room nd_Receiver rfl hv q
theorem st_Receiver_room {A : Hp → Prop} (ho : H a = some (.ins T.C_Receiver dx (obj ky_Receiver vs))) (hv : 0 < vs.length) (q : A (upd H a (.ins T.C_Receiver dx (obj ky_Receiver (vs.set 0 y))))) : ∃ a' C' dx' fs, V.ref a = .ref a' ∧ H a' = some (.ins C' dx' fs) ∧ Cls K C' ∧ NoAttr K C' "room" ∧ fs.length < 1000 ∧ A (upd H a' (.ins C' dx' (putF "room" y fs))) := g_putE ho T.k_Receiver T.n_Receiver_room nd_Receiver (by decide) rfl hv q
theorem nw_Receiver_room {A : Hp → Prop} (ho : H a = some (.ins T.C_Receiver dx (obj ky_Receiver vs))) (hv : vs.length = 0) (q : A (upd H a (.ins T.C_Receiver dx (obj ky_Receiver (vs ++ [y]))))) : ∃ a' C' dx' fs, V.ref a = .ref a' ∧ H a' = some (.ins C' dx' fs) ∧ Cls K C' ∧ NoAttr K C' "room" ∧ fs.length < 1000 ∧ A (upd H a' (.ins C' dx' (putF "room" y fs))) := g_newE ho T.k_Receiver T.n_Receiver_room nd_Receiver (by decide) (by rw [hv]; rfl) q
theorem fd_Receiver_nxt {A : V → Prop} (ho : H a = some (.ins T.C_Receiver dx (obj ky_Receiver vs))) (hv : vs[1]? = some v) (q : A v) : ∃ a' C' dx' fs v', V.ref a = .ref a' ∧ H a' = some (.ins C' dx' fs) ∧ Cls K C' ∧ NoAttr K C' "nxt" ∧ fs.lookup ("nxt" : Str) = some v' ∧ A v' := g_fldE ho T.k_Receiver T.n_Receiver_nxt nd_Receiver rfl hv q
theorem st_Receiver_nxt {A : Hp → Prop} (ho : H a = some (.ins T.C_Receiver dx (obj ky_Receiver vs))) (hv : 1 < vs.length) (q : A (upd H a (.ins T.C_Receiver dx (obj ky_Receiver (vs.set 1 y))))) : ∃ a' C' dx' fs, V.ref a = .ref a' ∧ H a' = some (.ins C' dx' fs) ∧ Cls K C' ∧ NoAttr K C' "nxt" ∧ fs.length < 1000 ∧ A (upd H a' (.ins C' dx' (putF "nxt" y fs))) := g_putE ho T.k_Receiver T.n_Receiver_nxt nd_Receiver (by decide) rfl hv q
theorem nw_Receiver_nxt {A : Hp → Prop} (ho : H a = some (.ins T.C_Receiver dx (obj ky_Receiver vs))) (hv : vs.length = 1) (q : A (upd H a (.ins T.C_Receiver dx (obj ky_Receiver (vs ++ [y]))))) : ∃ a' C' dx' fs, V.ref a = .ref a' ∧ H a' = some (.ins C' dx' fs) ∧ Cls K C' ∧ NoAttr K C' "nxt" ∧ fs.length < 1000 ∧ A (upd H a' (.ins C' dx' (putF "nxt" y fs))) := g_newE ho T.k_Receiver T.n_Receiver_nxt nd_Receiver (by decide) (by rw [hv]; rfl) q
theorem fd_Receiver_edge {A : V → Prop} (ho : H a = some (.ins T.C_Receiver dx (obj ky_Receiver vs))) (hv : vs[2]? = some v) (q : A v) : ∃ a' C' dx' fs v', V.ref a = .ref a' ∧ H a' = some (.ins C' dx' fs) ∧ Cls K C' ∧ NoAttr K C' "edge" ∧ fs.lookup ("edge" : Str) = some v' ∧ A v' := g_fldE ho T.k_Receiver T.n_Receiver_edge nd_Receiver rfl hv q
theorem st_Receiver_edge {A : Hp → Prop} (ho : H a = some (.ins T.C_Receiver dx (obj ky_Receiver vs))) (hv : 2 < vs.length) (q : A (upd H a (.ins T.C_Receiver dx (obj ky_Receiver (vs.set 2 y))))) : ∃ a' C' dx' fs, V.ref a = .ref a' ∧ H a' = some (.ins C' dx' fs) ∧ Cls K C' ∧ NoAttr K C' "edge" ∧ fs.length < 1000 ∧ A (upd H a' (.ins C' dx' (putF "edge" y fs))) := g_putE ho T.k_Receiver T.n_Receiver_edge nd_Receiver (by decide) rfl hv q
theorem nw_Receiver_edge {A : Hp → Prop} (ho : H a = some (.ins T.C_Receiver dx (obj ky_Receiver vs))) (hv : vs.length = 2) (q : A (upd H a (.ins T.C_Receiver dx (obj ky_Receiver (vs ++ [y]))))) : ∃ a' C' dx' fs, V.ref a = .ref a' ∧ H a' = some (.ins C' dx' fs) ∧ Cls K C' ∧ NoAttr K C' "edge" ∧ fs.length < 1000 ∧ A (upd H a' (.ins C' dx' (putF "edge" y fs))) := g_newE ho T.k_Receiver T.n_Receiver_edge nd_Receiver (by decide) (by rw [hv]; rfl) q
theorem fd_Receiver_end {A : V → Prop} (ho : H a = some (.ins T.C_Receiver dx (obj ky_Receiver vs))) (hv : vs[3]? = some v) (q : A v) : ∃ a' C' dx' fs v', V.ref a = .ref a' ∧ H a' = some (.ins C' dx' fs) ∧ Cls K C' ∧ NoAttr K C' "end" ∧ fs.lookup ("end" : Str) = some v' ∧ A v' := g_fldE ho T.k_Receiver T.n_Receiver_end nd_Receiver rfl hv q
theorem st_Receiver_end {A : Hp → Prop} (ho : H a = some (.ins T.C_Receiver dx (obj ky_Receiver vs))) (hv : 3 < vs.length) (q : A (upd H a (.ins T.C_Receiver dx (obj ky_Receiver (vs.set 3 y))))) : ∃ a' C' dx' fs, V.ref a = .ref a' ∧ H a' = some (.ins C' dx' fs) ∧ Cls K C' ∧ NoAttr K C' "end" ∧ fs.length < 1000 ∧ A (upd H a' (.ins C' dx' (putF "end" y fs))) := g_putE ho T.k_Receiver T.n_Receiver_end nd_Receiver (by decide) rfl hv q
theorem nw_Receiver_end {A : Hp → Prop} (ho : H a = some (.ins T.C_Receiver dx (obj ky_Receiver vs))) (hv : vs.length = 3) (q : A (upd H a (.ins T.C_Receiver dx (obj ky_Receiver (vs ++ [y]))))) : ∃ a' C' dx' fs, V.ref a = .ref a' ∧ H a' = some (.ins C' dx' fs) ∧ Cls K C' ∧ NoAttr K C' "end" ∧ fs.length < 1000 ∧ A (upd H a' (.ins C' dx' (putF "end" y fs))) := g_newE ho T.k_Receiver T.n_Receiver_end nd_Receiver (by decide) (by rw [hv]; rfl) q
theorem fd_Receiver_recent {A : V → Prop} (ho : H a = some (.ins T.C_Receiver dx (obj ky_Receiver vs))) (hv : vs[4]? = some v) (q : A v) : ∃ a' C' dx' fs v', V.ref a = .ref a' ∧ H a' = some (.ins C' dx' fs) ∧ Cls K C' ∧ NoAttr K C' "recent" ∧ fs.lookup ("recent" : Str) = some v' ∧ A v' := g_fldE ho T.k_Receiver T.n_Receiver_recent nd_Receiver rfl hv q
theorem st_Receiver_recent {A : Hp → Prop} (ho : H a = some (.ins T.C_Receiver dx (obj ky_Receiver vs))) (hv : 4 < vs.length) (q : A (upd H a (.ins T.C_Receiver dx (obj ky_Receiver (vs.set 4 y))))) : ∃ a' C' dx' fs, V.ref a = .ref a' ∧ H a' = some (.ins C' dx' fs) ∧ Cls K C' ∧ NoAttr K C' "recent" ∧ fs.length < 1000 ∧ A (upd H a' (.ins C' dx' (putF "recent" y fs))) := g_putE ho T.k_Receiver T.n_Receiver_recent nd_Receiver (by decide) rfl hv q
theorem nw_Receiver_recent {A : Hp → Prop} (ho : H a = some (.ins T.C_Receiver dx (obj ky_Receiver vs))) (hv : vs.length = 4) (q : A (upd H a (.ins T.C_Receiver dx (obj ky_Receiver (vs ++ [y]))))) : ∃ a' C' dx' fs, V.ref a = .ref a' ∧ H a' = some (.ins C' dx' fs) ∧ Cls K C' ∧ NoAttr K C' "recent" ∧ fs.length < 1000 ∧ A (upd H a' (.ins C' dx' (putF "recent" y fs))) := g_newE ho T.k_Receiver T.n_Receiver_recent nd_Receiver (by decide) (by rw [hv]; rfl) q
theorem fd_Receiver__ready {A : V → Prop} (ho : H a = some (.ins T.C_Receiver dx (obj ky_Receiver vs))) (hv : vs[5]? = some v) (q : A v) : ∃ a' C' dx' fs v', V.ref a = .ref a' ∧ H a' = some (.ins C' dx' fs) ∧ Cls K C' ∧ NoAttr K C' "_ready" ∧ fs.lookup ("_ready" : Str) = some v' ∧ A v' := g_fldE ho T.k_Receiver T.n_Receiver__ready nd_Receiver rfl hv q
theorem st_Receiver__ready {A : Hp → Prop} (ho : H a = some (.ins T.C_Receiver dx (obj ky_Receiver vs))) (hv : 5 < vs.length) (q : A (upd H a (.ins T.C_Receiver dx (obj ky_Receiver (vs.set 5 y))))) : ∃ a' C' dx' fs, V.ref a = .ref a' ∧ H a' = some (.ins C' dx' fs) ∧ Cls K C' ∧ NoAttr K C' "_ready" ∧ fs.length < 1000 ∧ A (upd H a' (.ins C' dx' (putF "_ready" y fs))) := g_putE ho T.k_Receiver T.n_Receiver__ready nd_Receiver (by decide) rfl hv q
theorem nw_Receiver__ready {A : Hp → Prop} (ho : H a = some (.ins T.C_Receiver dx (obj ky_Receiver vs))) (hv : vs.length = 5) (q : A (upd H a (.ins T.C_Receiver dx (obj ky_Receiver (vs ++ [y]))))) : ∃ a' C' dx' fs, V.ref a = .ref a' ∧ H a' = some (.ins C' dx' fs) ∧ Cls K C' ∧ NoAttr K C' "_ready" ∧ fs.length < 1000 ∧ A (upd H a' (.ins C' dx' (putF "_ready" y fs))) := g_newE ho T.k_Receiver T.n_Receiver__ready nd_Receiver (by decide) (by rw [hv]; rfl) q
theorem fd_Receiver__held {A : V → Prop} (ho : H a = some (.ins T.C_Receiver dx (obj ky_Receiver vs))) (hv : vs[6]? = some v) (q : A v) : ∃ a' C' dx' fs v', V.ref a = .ref a' ∧ H a' = some (.ins C' dx' fs) ∧ Cls K C' ∧ NoAttr K C' "_held" ∧ fs.lookup ("_held" : Str) = some v' ∧ A v' := g_fldE ho T.k_Receiver T.n_Receiver__held nd_Receiver rfl hv q
theorem st_Receiver__held {A : Hp → Prop} (ho : H a = some (.ins T.C_Receiver dx (obj ky_Receiver vs))) (hv : 6 < vs.length) (q : A (upd H a (.ins T.C_Receiver dx (obj ky_Receiver (vs.set 6 y))))) : ∃ a' C' dx' fs, V.ref a = .ref a' ∧ H a' = some (.ins C' dx' fs) ∧ Cls K C' ∧ NoAttr K C' "_held" ∧ fs.length < 1000 ∧ A (upd H a' (.ins C' dx' (putF "_held" y fs))) := g_putE ho T.k_Receiver T.n_Receiver__held nd_Receiver (by decide) rfl hv q
theorem nw_Receiver__held {A : Hp → Prop} (ho : H a = some (.ins T.C_Receiver dx (obj ky_Receiver vs))) (hv : vs.length = 6) (q : A (upd H a (.ins T.C_Receiver dx (obj ky_Receiver (vs ++ [y]))))) : ∃ a' C' dx' fs, V.ref a = .ref a' ∧ H a' = some (.ins C' dx' fs) ∧ Cls K C' ∧ NoAttr K C' "_held" ∧ fs.length < 1000 ∧ A (upd H a' (.ins C' dx' (putF "_held" y fs))) := g_newE ho T.k_Receiver T.n_Receiver__held nd_Receiver (by decide) (by rw [hv]; rfl) q
theorem fd_Receiver__held_offsets {A : V → Prop} (ho : H a = some (.ins T.C_Receiver dx (obj ky_Receiver vs))) (hv : vs[7]? = some v) (q : A v) : ∃ a' C' dx' fs v', V.ref a = .ref a' ∧ H a' = some (.ins C' dx' fs) ∧ Cls K C' ∧ NoAttr K C' "_held_offsets" ∧ fs.lookup ("_held_offsets" : Str) = some v' ∧ A v' := g_fldE ho T.k_Receiver T.n_Receiver__held_offsets nd_Receiver rfl hv q
theorem st_Receiver__held_offsets {A : Hp → Prop} (ho : H a = some (.ins T.C_Receiver dx (obj ky_Receiver vs))) (hv : 7 < vs.length) (q : A (upd H a (.ins T.C_Receiver dx (obj ky_Receiver (vs.set 7 y))))) : ∃ a' C' dx' fs, V.ref a = .ref a' ∧ H a' = some (.ins C' dx' fs) ∧ Cls K C' ∧ NoAttr K C' "_held_offsets" ∧ fs.length < 1000 ∧ A (upd H a' (.ins C' dx' (putF "_held_offsets" y fs))) := g_putE ho T.k_Receiver T.n_Receiver__held_offsets nd_Receiver (by decide) rfl hv q
theorem nw_Receiver__held_offsets {A : Hp → Prop} (ho : H a = some (.ins T.C_Receiver dx (obj ky_Receiver vs))) (hv : vs.length = 7) (q : A (upd H a (.ins T.C_Receiver dx (obj ky_Receiver (vs ++ [y]))))) : ∃ a' C' dx' fs, V.ref a = .ref a' ∧ H a' = some (.ins C' dx' fs) ∧ Cls K C' ∧ NoAttr K C' "_held_offsets" ∧ fs.length < 1000 ∧ A (upd H a' (.ins C' dx' (putF "_held_offsets" y fs))) := g_newE ho T.k_Receiver T.n_Receiver__held_offsets nd_Receiver (by decide) (by rw [hv]; rfl) q
end
def ky_Sender : List Str := ["room", "una", "nxt", "written", "finished", "edge", "recovery", "resend", "lost", "repeated", "_queue", "_sacked"]
theorem nd_Sender : ky_Sender.Nodup := by decide +kernel
section
variable {P : Program} {K : PySem.W.Frag} {mg : Str → Option Value} {T : Txt P K mg} {H : Hp} {a dx : Addr} {vs : List V} {v y : V}
theorem fd_Sender_room {A : V → Prop} (ho : H a = some (.ins T.C_Sender dx (obj ky_Sender vs))) (hv : vs[0]? = some v) (q : A v) : ∃ a' C' dx' fs v', V.ref a = .ref a' ∧ H a' = some (.ins C' dx' fs) ∧ Cls K C' ∧ NoAttr K C' "room" ∧ fs.lookup ("room" : Str) = some v' ∧ A v' := g_fldE ho T.k_Sender T.n_Sender_room nd_Sender rfl hv q
theorem st_Sender_room {A : Hp → Prop} (ho : H a = some (.ins T.C_Sender dx (obj ky_Sender vs))) (hv : 0 < vs.length) (q : A (upd H a (.ins T.C_Sender dx (obj ky_Sender (vs.set 0 y))))) : ∃ a' C' dx' fs, V.ref a = .ref a' ∧ H a' = some (.ins C' dx' fs) ∧ Cls K C' ∧ NoAttr K C' "room" ∧ fs.length < 1000 ∧ A (upd H a' (.ins C' dx' (putF "room" y fs))) := g_putE ho T.k_Sender T.n_Sender_room nd_Sender (by decide) rfl hv q
theorem nw_Sender_room {A : Hp → Prop} (ho : H a = some (.ins T.C_Sender dx (obj ky_Sender vs))) (hv : vs.length = 0) (q : A (upd H a (.ins T.C_Sender dx (obj ky_Sender (vs ++ [y]))))) : ∃ a' C' dx' fs, V.ref a = .ref a' ∧ H a' = some (.ins C' dx' fs) ∧ Cls K C' ∧ NoAttr K C' "room" ∧ fs.length < 1000 ∧ A (upd H a' (.ins C' dx' (putF "room" y fs))) := g_newE ho T.k_Sender T.n_Sender_room nd_Sender (by decide) (by rw [hv]; rfl) q
theorem fd_Sender_una {A : V → Prop} (ho : H a = some (.ins T.C_Sender dx (obj ky_Sender vs))) (hv : vs[1]? = some v) (q : A v) : ∃ a' C' dx' fs v', V.ref a = .ref a' ∧ H a' = some (.ins C' dx' fs) ∧ Cls K C' ∧ NoAttr K C' "una" ∧ fs.lookup ("una" : Str) = some v' ∧ A v' := g_fldE ho T.k_Sender T.n_Sender_una nd_Sender rfl hv q
theorem st_Sender_una {A : Hp → Prop} (ho : H a = some (.ins T.C_Sender dx (obj ky_Sender vs))) (hv : 1 < vs.length) (q : A (upd H a (.ins T.C_Sender dx (obj ky_Sender (vs.set 1 y))))) : ∃ a' C' dx' fs, V.ref a = .ref a' ∧ H a' = some (.ins C' dx' fs) ∧ Cls K C' ∧ NoAttr K C' "una" ∧ fs.length < 1000 ∧ A (upd H a' (.ins C' dx' (putF "una" y fs))) := g_putE ho T.k_Sender T.n_Sender_una nd_Sender (by decide) rfl hv q
theorem nw_Sender_una {A : Hp → Prop} (ho : H a = some (.ins T.C_Sender dx (obj ky_Sender vs))) (hv : vs.length = 1) (q : A (upd H a (.ins T.C_Sender dx (obj ky_Sender (vs ++ [y]))))) : ∃ a' C' dx' fs, V.ref a = .ref a' ∧ H a' = some (.ins C' dx' fs) ∧ Cls K C' ∧ NoAttr K C' "una" ∧ fs.length < 1000 ∧ A (upd H a' (.ins C' dx' (putF "una" y fs))) := g_newE ho T.k_Sender T.n_Sender_una nd_Sender (by decide) (by rw [hv]; rfl) q
theorem fd_Sender_nxt {A : V → Prop} (ho : H a = some (.ins T.C_Sender dx (obj ky_Sender vs))) (hv : vs[2]? = some v) (q : A v) : ∃ a' C' dx' fs v', V.ref a = .ref a' ∧ H a' = some (.ins C' dx' fs) ∧ Cls K C' ∧ NoAttr K C' "nxt" ∧ fs.lookup ("nxt" : Str) = some v' ∧ A v' := g_fldE ho T.k_Sender T.n_Sender_nxt nd_Sender rfl hv q
theorem st_Sender_nxt {A : Hp → Prop} (ho : H a = some (.ins T.C_Sender dx (obj ky_Sender vs))) (hv : 2 < vs.length) (q : A (upd H a (.ins T.C_Sender dx (obj ky_Sender (vs.set 2 y))))) : ∃ a' C' dx' fs, V.ref a = .ref a' ∧ H a' = some (.ins C' dx' fs) ∧ Cls K C' ∧ NoAttr K C' "nxt" ∧ fs.length < 1000 ∧ A (upd H a' (.ins C' dx' (putF "nxt" y fs))) := g_putE ho T.k_Sender T.n_Sender_nxt nd_Sender (by decide) rfl hv q
theorem nw_Sender_nxt {A : Hp → Prop} (ho : H a = some (.ins T.C_Sender dx (obj ky_Sender vs))) (hv : vs.length = 2) (q : A (upd H a (.ins T.C_Sender dx (obj ky_Sender (vs ++ [y]))))) : ∃ a' C' dx' fs, V.ref a = .ref a' ∧ H a' = some (.ins C' dx' fs) ∧ Cls K C' ∧ NoAttr K C' "nxt" ∧ fs.length < 1000 ∧ A (upd H a' (.ins C' dx' (putF "nxt" y fs))) := g_newE ho T.k_Sender T.n_Sender_nxt nd_Sender (by decide) (by rw [hv]; rfl) q
theorem fd_Sender_written {A : V → Prop} (ho : H a = some (.ins T.C_Sender dx (obj ky_Sender vs))) (hv : vs[3]? = some v) (q : A v) : ∃ a' C' dx' fs v', V.ref a = .ref a' ∧ H a' = some (.ins C' dx' fs) ∧ Cls K C' ∧ NoAttr K C' "written" ∧ fs.lookup ("written" : Str) = some v' ∧ A v' := g_fldE ho T.k_Sender T.n_Sender_written nd_Sender rfl hv q
theorem st_Sender_written {A : Hp → Prop} (ho : H a = some (.ins T.C_Sender dx (obj ky_Sender vs))) (hv : 3 < vs.length) (q : A (upd H a (.ins T.C_Sender dx (obj ky_Sender (vs.set 3 y))))) : ∃ a' C' dx' fs, V.ref a = .ref a' ∧ H a' = some (.ins C' dx' fs) ∧ Cls K C' ∧ NoAttr K C' "written" ∧ fs.length < 1000 ∧ A (upd H a' (.ins C' dx' (putF "written" y fs))) := g_putE ho T.k_Sender T.n_Sender_written nd_Sender (by decide) rfl hv q
theorem nw_Sender_written {A : Hp → Prop} (ho : H a = some (.ins T.C_Sender dx (obj ky_Sender vs))) (hv : vs.length = 3) (q : A (upd H a (.ins T.C_Sender dx (obj ky_Sender (vs ++ [y]))))) : ∃ a' C' dx' fs, V.ref a = .ref a' ∧ H a' = some (.ins C' dx' fs) ∧ Cls K C' ∧ NoAttr K C' "written" ∧ fs.length < 1000 ∧ A (upd H a' (.ins C' dx' (putF "written" y fs))) := g_newE ho T.k_Sender T.n_Sender_written nd_Sender (by decide) (by rw [hv]; rfl) q
theorem fd_Sender_finished {A : V → Prop} (ho : H a = some (.ins T.C_Sender dx (obj ky_Sender vs))) (hv : vs[4]? = some v) (q : A v) : ∃ a' C' dx' fs v', V.ref a = .ref a' ∧ H a' = some (.ins C' dx' fs) ∧ Cls K C' ∧ NoAttr K C' "finished" ∧ fs.lookup ("finished" : Str) = some v' ∧ A v' := g_fldE ho T.k_Sender T.n_Sender_finished nd_Sender rfl hv q
theorem st_Sender_finished {A : Hp → Prop} (ho : H a = some (.ins T.C_Sender dx (obj ky_Sender vs))) (hv : 4 < vs.length) (q : A (upd H a (.ins T.C_Sender dx (obj ky_Sender (vs.set 4 y))))) : ∃ a' C' dx' fs, V.ref a = .ref a' ∧ H a' = some (.ins C' dx' fs) ∧ Cls K C' ∧ NoAttr K C' "finished" ∧ fs.length < 1000 ∧ A (upd H a' (.ins C' dx' (putF "finished" y fs))) := g_putE ho T.k_Sender T.n_Sender_finished nd_Sender (by decide) rfl hv q
theorem nw_Sender_finished {A : Hp → Prop} (ho : H a = some (.ins T.C_Sender dx (obj ky_Sender vs))) (hv : vs.length = 4) (q : A (upd H a (.ins T.C_Sender dx (obj ky_Sender (vs ++ [y]))))) : ∃ a' C' dx' fs, V.ref a = .ref a' ∧ H a' = some (.ins C' dx' fs) ∧ Cls K C' ∧ NoAttr K C' "finished" ∧ fs.length < 1000 ∧ A (upd H a' (.ins C' dx' (putF "finished" y fs))) := g_newE ho T.k_Sender T.n_Sender_finished nd_Sender (by decide) (by rw [hv]; rfl) q
theorem fd_Sender_edge {A : V → Prop} (ho : H a = some (.ins T.C_Sender dx (obj ky_Sender vs))) (hv : vs[5]? = some v) (q : A v) : ∃ a' C' dx' fs v', V.ref a = .ref a' ∧ H a' = some (.ins C' dx' fs) ∧ Cls K C' ∧ NoAttr K C' "edge" ∧ fs.lookup ("edge" : Str) = some v' ∧ A v' := g_fldE ho T.k_Sender T.n_Sender_edge nd_Sender rfl hv q
theorem st_Sender_edge {A : Hp → Prop} (ho : H a = some (.ins T.C_Sender dx (obj ky_Sender vs))) (hv : 5 < vs.length) (q : A (upd H a (.ins T.C_Sender dx (obj ky_Sender (vs.set 5 y))))) : ∃ a' C' dx' fs, V.ref a = .ref a' ∧ H a' = some (.ins C' dx' fs) ∧ Cls K C' ∧ NoAttr K C' "edge" ∧ fs.length < 1000 ∧ A (upd H a' (.ins C' dx' (putF "edge" y fs))) := g_putE ho T.k_Sender T.n_Sender_edge nd_Sender (by decide) rfl hv q
theorem nw_Sender_edge {A : Hp → Prop} (ho : H a = some (.ins T.C_Sender dx (obj ky_Sender vs))) (hv : vs.length = 5) (q : A (upd H a (.ins T.C_Sender dx (obj ky_Sender (vs ++ [y]))))) : ∃ a' C' dx' fs, V.ref a = .ref a' ∧ H a' = some (.ins C' dx' fs) ∧ Cls K C' ∧ NoAttr K C' "edge" ∧ fs.length < 1000 ∧ A (upd H a' (.ins C' dx' (putF "edge" y fs))) := g_newE ho T.k_Sender T.n_Sender_edge nd_Sender (by decide) (by rw [hv]; rfl) q
theorem fd_Sender_recovery {A : V → Prop} (ho : H a = some (.ins T.C_Sender dx (obj ky_Sender vs))) (hv : vs[6]? = some v) (q : A v) : ∃ a' C' dx' fs v', V.ref a = .ref a' ∧ H a' = some (.ins C' dx' fs) ∧ Cls K C' ∧ NoAttr K C' "recovery" ∧ fs.lookup ("recovery" : Str) = some v' ∧ A v' := g_fldE ho T.k_Sender T.n_Sender_recovery nd_Sender rfl hv q
theorem st_Sender_recovery {A : Hp → Prop} (ho : H a = some (.ins T.C_Sender dx (obj ky_Sender vs))) (hv : 6 < vs.length) (q : A (upd H a (.ins T.C_Sender dx (obj ky_Sender (vs.set 6 y))))) : ∃ a' C' dx' fs, V.ref a = .ref a' ∧ H a' = some (.ins C' dx' fs) ∧ Cls K C' ∧ NoAttr K C' "recovery" ∧ fs.length < 1000 ∧ A (upd H a' (.ins C' dx' (putF "recovery" y fs))) := g_putE ho T.k_Sender T.n_Sender_recovery nd_Sender (by decide) rfl hv q
theorem nw_Sender_recovery {A : Hp → Prop} (ho : H a = some (.ins T.C_Sender dx (obj ky_Sender vs))) (hv : vs.length = 6) (q : A (upd H a (.ins T.C_Sender dx (obj ky_Sender (vs ++ [y]))))) : ∃ a' C' dx' fs, V.ref a = .ref a' ∧ H a' = some (.ins C' dx' fs) ∧ Cls K C' ∧ NoAttr K C' "recovery" ∧ fs.length < 1000 ∧ A (upd H a' (.ins C' dx' (putF "recovery" y fs))) := g_newE ho T.k_Sender T.n_Sender_recovery nd_Sender (by decide) (by rw [hv]; rfl) q
theorem fd_Sender_resend {A : V → Prop} (ho : H a = some (.ins T.C_Sender dx (obj ky_Sender vs))) (hv : vs[7]? = some v) (q : A v) : ∃ a' C' dx' fs v', V.ref a = .ref a' ∧ H a' = some (.ins C' dx' fs) ∧ Cls K C' ∧ NoAttr K C' "resend" ∧ fs.lookup ("resend" : Str) = some v' ∧ A v' := g_fldE ho T.k_Sender T.n_Sender_resend nd_Sender rfl hv q
theorem st_Sender_resend {A : Hp → Prop} (ho : H a = some (.ins T.C_Sender dx (obj ky_Sender vs))) (hv : 7 < vs.length) (q : A (upd H a (.ins T.C_Sender dx (obj ky_Sender (vs.set 7 y))))) : ∃ a' C' dx' fs, V.ref a = .ref a' ∧ H a' = some (.ins C' dx' fs) ∧ Cls K C' ∧ NoAttr K C' "resend" ∧ fs.length < 1000 ∧ A (upd H a' (.ins C' dx' (putF "resend" y fs))) := g_putE ho T.k_Sender T.n_Sender_resend nd_Sender (by decide) rfl hv q
theorem nw_Sender_resend {A : Hp → Prop} (ho : H a = some (.ins T.C_Sender dx (obj ky_Sender vs))) (hv : vs.length = 7) (q : A (upd H a (.ins T.C_Sender dx (obj ky_Sender (vs ++ [y]))))) : ∃ a' C' dx' fs, V.ref a = .ref a' ∧ H a' = some (.ins C' dx' fs) ∧ Cls K C' ∧ NoAttr K C' "resend" ∧ fs.length < 1000 ∧ A (upd H a' (.ins C' dx' (putF "resend" y fs))) := g_newE ho T.k_Sender T.n_Sender_resend nd_Sender (by decide) (by rw [hv]; rfl) q
theorem fd_Sender_lost {A : V → Prop} (ho : H a = some (.ins T.C_Sender dx (obj ky_Sender vs))) (hv : vs[8]? = some v) (q : A v) : ∃ a' C' dx' fs v', V.ref a = .ref a' ∧ H a' = some (.ins C' dx' fs) ∧ Cls K C' ∧ NoAttr K C' "lost" ∧ fs.lookup ("lost" : Str) = some v' ∧ A v' := g_fldE ho T.k_Sender T.n_Sender_lost nd_Sender rfl hv q
theorem st_Sender_lost {A : Hp → Prop} (ho : H a = some (.ins T.C_Sender dx (obj ky_Sender vs))) (hv : 8 < vs.length) (q : A (upd H a (.ins T.C_Sender dx (obj ky_Sender (vs.set 8 y))))) : ∃ a' C' dx' fs, V.ref a = .ref a' ∧ H a' = some (.ins C' dx' fs) ∧ Cls K C' ∧ NoAttr K C' "lost" ∧ fs.length < 1000 ∧ A (upd H a' (.ins C' dx' (putF "lost" y fs))) := g_putE ho T.k_Sender T.n_Sender_lost nd_Sender (by decide) rfl hv q
theorem nw_Sender_lost {A : Hp → Prop} (ho : H a = some (.ins T.C_Sender dx (obj ky_Sender vs))) (hv : vs.length = 8) (q : A (upd H a (.ins T.C_Sender dx (obj ky_Sender (vs ++ [y]))))) : ∃ a' C' dx' fs, V.ref a = .ref a' ∧ H a' = some (.ins C' dx' fs) ∧ Cls K C' ∧ NoAttr K C' "lost" ∧ fs.length < 1000 ∧ A (upd H a' (.ins C' dx' (putF "lost" y fs))) := g_newE ho T.k_Sender T.n_Sender_lost nd_Sender (by decide) (by rw [hv]; rfl) q
theorem fd_Sender_repeated {A : V → Prop} (ho : H a = some (.ins T.C_Sender dx (obj ky_Sender vs))) (hv : vs[9]? = some v) (q : A v) : ∃ a' C' dx' fs v', V.ref a = .ref a' ∧ H a' = some (.ins C' dx' fs) ∧ Cls K C' ∧ NoAttr K C' "repeated" ∧ fs.lookup ("repeated" : Str) = some v' ∧ A v' := g_fldE ho T.k_Sender T.n_Sender_repeated nd_Sender rfl hv q
theorem st_Sender_repeated {A : Hp → Prop} (ho : H a = some (.ins T.C_Sender dx (obj ky_Sender vs))) (hv : 9 < vs.length) (q : A (upd H a (.ins T.C_Sender dx (obj ky_Sender (vs.set 9 y))))) : ∃ a' C' dx' fs, V.ref a = .ref a' ∧ H a' = some (.ins C' dx' fs) ∧ Cls K C' ∧ NoAttr K C' "repeated" ∧ fs.length < 1000 ∧ A (upd H a' (.ins C' dx' (putF "repeated" y fs))) := g_putE ho T.k_Sender T.n_Sender_repeated nd_Sender (by decide) rfl hv q
theorem nw_Sender_repeated {A : Hp → Prop} (ho : H a = some (.ins T.C_Sender dx (obj ky_Sender vs))) (hv : vs.length = 9) (q : A (upd H a (.ins T.C_Sender dx (obj ky_Sender (vs ++ [y]))))) : ∃ a' C' dx' fs, V.ref a = .ref a' ∧ H a' = some (.ins C' dx' fs) ∧ Cls K C' ∧ NoAttr K C' "repeated" ∧ fs.length < 1000 ∧ A (upd H a' (.ins C' dx' (putF "repeated" y fs))) := g_newE ho T.k_Sender T.n_Sender_repeated nd_Sender (by decide) (by rw [hv]; rfl) q
theorem fd_Sender__queue {A : V → Prop} (ho : H a = some (.ins T.C_Sender dx (obj ky_Sender vs))) (hv : vs[10]? = some v) (q : A v) : ∃ a' C' dx' fs v', V.ref a = .ref a' ∧ H a' = some (.ins C' dx' fs) ∧ Cls K C' ∧ NoAttr K C' "_queue" ∧ fs.lookup ("_queue" : Str) = some v' ∧ A v' := g_fldE ho T.k_Sender T.n_Sender__queue nd_Sender rfl hv q
theorem st_Sender__queue {A : Hp → Prop} (ho : H a = some (.ins T.C_Sender dx (obj ky_Sender vs))) (hv : 10 < vs.length) (q : A (upd H a (.ins T.C_Sender dx (obj ky_Sender (vs.set 10 y))))) : ∃ a' C' dx' fs, V.ref a = .ref a' ∧ H a' = some (.ins C' dx' fs) ∧ Cls K C' ∧ NoAttr K C' "_queue" ∧ fs.length < 1000 ∧ A (upd H a' (.ins C' dx' (putF "_queue" y fs))) := g_putE ho T.k_Sender T.n_Sender__queue nd_Sender (by decide) rfl hv q
theorem nw_Sender__queue {A : Hp → Prop} (ho : H a = some (.ins T.C_Sender dx (obj ky_Sender vs))) (hv : vs.length = 10) (q : A (upd H a (.ins T.C_Sender dx (obj ky_Sender (vs ++ [y]))))) : ∃ a' C' dx' fs, V.ref a = .ref a' ∧ H a' = some (.ins C' dx' fs) ∧ Cls K C' ∧ NoAttr K C' "_queue" ∧ fs.length < 1000 ∧ A (upd H a' (.ins C' dx' (putF "_queue" y fs))) := g_newE ho T.k_Sender T.n_Sender__queue nd_Sender (by decide) (by rw [hv]; rfl) q
theorem fd_Sender__sacked {A : V → Prop} (ho : H a = some (.ins T.C_Sender dx (obj ky_Sender vs))) (hv : vs[11]? = some v) (q : A v) : ∃ a' C' dx' fs v', V.ref a = .ref a' ∧ H a' = some (.ins C' dx' fs) ∧ Cls K C' ∧ NoAttr K C' "_sacked" ∧ fs.lookup ("_sacked" : Str) = some v' ∧ A v' := g_fldE ho T.k_Sender T.n_Sender__sacked nd_Sender rfl hv q
theorem st_Sender__sacked {A : Hp → Prop} (ho : H a = some (.ins T.C_Sender dx (obj ky_Sender vs))) (hv : 11 < vs.length) (q : A (upd H a (.ins T.C_Sender dx (obj ky_Sender (vs.set 11 y))))) : ∃ a' C' dx' fs, V.ref a = .ref a' ∧ H a' = some (.ins C' dx' fs) ∧ Cls K C' ∧ NoAttr K C' "_sacked" ∧ fs.length < 1000 ∧ A (upd H a' (.ins C' dx' (putF "_sacked" y fs))) := g_putE ho T.k_Sender T.n_Sender__sacked nd_Sender (by decide) rfl hv q
theorem nw_Sender__sacked {A : Hp → Prop} (ho : H a = some (.ins T.C_Sender dx (obj ky_Sender vs))) (hv : vs.length = 11) (q : A (upd H a (.ins T.C_Sender dx (obj ky_Sender (vs ++ [y]))))) : ∃ a' C' dx' fs, V.ref a = .ref a' ∧ H a' = some (.ins C' dx' fs) ∧ Cls K C' ∧ NoAttr K C' "_sacked" ∧ fs.length < 1000 ∧ A (upd H a' (.ins C' dx' (putF "_sacked" y fs))) := g_newE ho T.k_Sender T.n_Sender__sacked nd_Sender (by decide) (by rw [hv]; rfl) q
end
def ky_Endpoint : List Str := ["options", "sender", "receiver", "trip", "control", "phase", "cause", "mss", "selective", "alarm", "since", "ack_at", "late", "asked", "again", "probe", "over", "rest", "spent_at", "spent", "stamp", "marked", "cut"]
theorem nd_Endpoint : ky_Endpoint.Nodup := by decide +kernel
section
variable {P : Program} {K : PySem.W.Frag} {mg : Str → Option Value} {T : Txt P K mg} {H : Hp} {a dx : Addr} {vs : List V} {v y : V}
theorem fd_Endpoint_options {A : V → Prop} (ho : H a = some (.ins T.C_Endpoint dx (obj ky_Endpoint vs))) (hv : vs[0]? = some v) (q : A v) : ∃ a' C' dx' fs v', V.ref a = .ref a' ∧ H a' = some (.ins C' dx' fs) ∧ Cls K C' ∧ NoAttr K C' "options" ∧ fs.lookup ("options" : Str) = some v' ∧ A v' := g_fldE ho T.k_Endpoint T.n_Endpoint_options nd_Endpoint rfl hv q
theorem st_Endpoint_options {A : Hp → Prop} (ho : H a = some (.ins T.C_Endpoint dx (obj ky_Endpoint vs))) (hv : 0 < vs.length) (q : A (upd H a (.ins T.C_Endpoint dx (obj ky_Endpoint (vs.set 0 y))))) : ∃ a' C' dx' fs, V.ref a = .ref a' ∧ H a' = some (.ins C' dx' fs) ∧ Cls K C' ∧ NoAttr K C' "options" ∧ fs.length < 1000 ∧ A (upd H a' (.ins C' dx' (putF "options" y fs))) := g_putE ho T.k_Endpoint T.n_Endpoint_options nd_Endpoint (by decide) rfl hv q
theorem nw_Endpoint_options {A : Hp → Prop} (ho : H a = some (.ins T.C_Endpoint dx (obj ky_Endpoint vs))) (hv : vs.length = 0) (q : A (upd H a (.ins T.C_Endpoint dx (obj ky_Endpoint (vs ++ [y]))))) : ∃ a' C' dx' fs, V.ref a = .ref a' ∧ H a' = some (.ins C' dx' fs) ∧ Cls K C' ∧ NoAttr K C' "options" ∧ fs.length < 1000 ∧ A (upd H a' (.ins C' dx' (putF "options" y fs))) := g_newE ho T.k_Endpoint T.n_Endpoint_options nd_Endpoint (by decide) (by rw [hv]; rfl) q
theorem fd_Endpoint_sender {A : V → Prop} (ho : H a = some (.ins T.C_Endpoint dx (obj ky_Endpoint vs))) (hv : vs[1]? = some v) (q : A v) : ∃ a' C' dx' fs v', V.ref a = .ref a' ∧ H a' = some (.ins C' dx' fs) ∧ Cls K C' ∧ NoAttr K C' "sender" ∧ fs.lookup ("sender" : Str) = some v' ∧ A v' := g_fldE ho T.k_Endpoint T.n_Endpoint_sender nd_Endpoint rfl hv q
theorem st_Endpoint_sender {A : Hp → Prop} (ho : H a = some (.ins T.C_Endpoint dx (obj ky_Endpoint vs))) (hv : 1 < vs.length) (q : A (upd H a (.ins T.C_Endpoint dx (obj ky_Endpoint (vs.set 1 y))))) : ∃ a' C' dx' fs, V.ref a = .ref a' ∧ H a' = some (.ins C' dx' fs) ∧ Cls K C' ∧ NoAttr K C' "sender" ∧ fs.length < 1000 ∧ A (upd H a' (.ins C' dx' (putF "sender" y fs))) := g_putE ho T.k_Endpoint T.n_Endpoint_sender nd_Endpoint (by decide) rfl hv q
theorem nw_Endpoint_sender {A : Hp → Prop} (ho : H a = some (.ins T.C_Endpoint dx (obj ky_Endpoint vs))) (hv : vs.length = 1) (q : A (upd H a (.ins T.C_Endpoint dx (obj ky_Endpoint (vs ++ [y]))))) : ∃ a' C' dx' fs, V.ref a = .ref a' ∧ H a' = some (.ins C' dx' fs) ∧ Cls K C' ∧ NoAttr K C' "sender" ∧ fs.length < 1000 ∧ A (upd H a' (.ins C' dx' (putF "sender" y fs))) := g_newE ho T.k_Endpoint T.n_Endpoint_sender nd_Endpoint (by decide) (by rw [hv]; rfl) q
theorem fd_Endpoint_receiver {A : V → Prop} (ho : H a = some (.ins T.C_Endpoint dx (obj ky_Endpoint vs))) (hv : vs[2]? = some v) (q : A v) : ∃ a' C' dx' fs v', V.ref a = .ref a' ∧ H a' = some (.ins C' dx' fs) ∧ Cls K C' ∧ NoAttr K C' "receiver" ∧ fs.lookup ("receiver" : Str) = some v' ∧ A v' := g_fldE ho T.k_Endpoint T.n_Endpoint_receiver nd_Endpoint rfl hv q
theorem st_Endpoint_receiver {A : Hp → Prop} (ho : H a = some (.ins T.C_Endpoint dx (obj ky_Endpoint vs))) (hv : 2 < vs.length) (q : A (upd H a (.ins T.C_Endpoint dx (obj ky_Endpoint (vs.set 2 y))))) : ∃ a' C' dx' fs, V.ref a = .ref a' ∧ H a' = some (.ins C' dx' fs) ∧ Cls K C' ∧ NoAttr K C' "receiver" ∧ fs.length < 1000 ∧ A (upd H a' (.ins C' dx' (putF "receiver" y fs))) := g_putE ho T.k_Endpoint T.n_Endpoint_receiver nd_Endpoint (by decide) rfl hv q
theorem nw_Endpoint_receiver {A : Hp → Prop} (ho : H a = some (.ins T.C_Endpoint dx (obj ky_Endpoint vs))) (hv : vs.length = 2) (q : A (upd H a (.ins T.C_Endpoint dx (obj ky_Endpoint (vs ++ [y]))))) : ∃ a' C' dx' fs, V.ref a = .ref a' ∧ H a' = some (.ins C' dx' fs) ∧ Cls K C' ∧ NoAttr K C' "receiver" ∧ fs.length < 1000 ∧ A (upd H a' (.ins C' dx' (putF "receiver" y fs))) := g_newE ho T.k_Endpoint T.n_Endpoint_receiver nd_Endpoint (by decide) (by rw [hv]; rfl) q
theorem fd_Endpoint_trip {A : V → Prop} (ho : H a = some (.ins T.C_Endpoint dx (obj ky_Endpoint vs))) (hv : vs[3]? = some v) (q : A v) : ∃ a' C' dx' fs v', V.ref a = .ref a' ∧ H a' = some (.ins C' dx' fs) ∧ Cls K C' ∧ NoAttr K C' "trip" ∧ fs.lookup ("trip" : Str) = some v' ∧ A v' := g_fldE ho T.k_Endpoint T.n_Endpoint_trip nd_Endpoint rfl hv q
theorem st_Endpoint_trip {A : Hp → Prop} (ho : H a = some (.ins T.C_Endpoint dx (obj ky_Endpoint vs))) (hv : 3 < vs.length) (q : A (upd H a (.ins T.C_Endpoint dx (obj ky_Endpoint (vs.set 3 y))))) : ∃ a' C' dx' fs, V.ref a = .ref a' ∧ H a' = some (.ins C' dx' fs) ∧ Cls K C' ∧ NoAttr K C' "trip" ∧ fs.length < 1000 ∧ A (upd H a' (.ins C' dx' (putF "trip" y fs))) := g_putE ho T.k_Endpoint T.n_Endpoint_trip nd_Endpoint (by decide) rfl hv q
theorem nw_Endpoint_trip {A : Hp → Prop} (ho : H a = some (.ins T.C_Endpoint dx (obj ky_Endpoint vs))) (hv : vs.length = 3) (q : A (upd H a (.ins T.C_Endpoint dx (obj ky_Endpoint (vs ++ [y]))))) : ∃ a' C' dx' fs, V.ref a = .ref a' ∧ H a' = some (.ins C' dx' fs) ∧ Cls K C' ∧ NoAttr K C' "trip" ∧ fs.length < 1000 ∧ A (upd H a' (.ins C' dx' (putF "trip" y fs))) := g_newE ho T.k_Endpoint T.n_Endpoint_trip nd_Endpoint (by decide) (by rw [hv]; rfl) q
theorem fd_Endpoint_control {A : V → Prop} (ho : H a = some (.ins T.C_Endpoint dx (obj ky_Endpoint vs))) (hv : vs[4]? = some v) (q : A v) : ∃ a' C' dx' fs v', V.ref a = .ref a' ∧ H a' = some (.ins C' dx' fs) ∧ Cls K C' ∧ NoAttr K C' "control" ∧ fs.lookup ("control" : Str) = some v' ∧ A v' := g_fldE ho T.k_Endpoint T.n_Endpoint_control nd_Endpoint rfl hv q
theorem st_Endpoint_control {A : Hp → Prop} (ho : H a = some (.ins T.C_Endpoint dx (obj ky_Endpoint vs))) (hv : 4 < vs.length) (q : A (upd H a (.ins T.C_Endpoint dx (obj ky_Endpoint (vs.set 4 y))))) : ∃ a' C' dx' fs, V.ref a = .ref a' ∧ H a' = some (.ins C' dx' fs) ∧ Cls K C' ∧ NoAttr K C' "control" ∧ fs.length < 1000 ∧ A (upd H a' (.ins C' dx' (putF "control" y fs))) := g_putE ho T.k_Endpoint T.n_Endpoint_control nd_Endpoint (by decide) rfl hv q
theorem nw_Endpoint_control {A : Hp → Prop} (ho : H a = some (.ins T.C_Endpoint dx (obj ky_Endpoint vs))) (hv : vs.length = 4) (q : A (upd H a (.ins T.C_Endpoint dx (obj ky_Endpoint (vs ++ [y]))))) : ∃ a' C' dx' fs, V.ref a = .ref a' ∧ H a' = some (.ins C' dx' fs) ∧ Cls K C' ∧ NoAttr K C' "control" ∧ fs.length < 1000 ∧ A (upd H a' (.ins C' dx' (putF "control" y fs))) := g_newE ho T.k_Endpoint T.n_Endpoint_control nd_Endpoint (by decide) (by rw [hv]; rfl) q
theorem fd_Endpoint_phase {A : V → Prop} (ho : H a = some (.ins T.C_Endpoint dx (obj ky_Endpoint vs))) (hv : vs[5]? = some v) (q : A v) : ∃ a' C' dx' fs v', V.ref a = .ref a' ∧ H a' = some (.ins C' dx' fs) ∧ Cls K C' ∧ NoAttr K C' "phase" ∧ fs.lookup ("phase" : Str) = some v' ∧ A v' := g_fldE ho T.k_Endpoint T.n_Endpoint_phase nd_Endpoint rfl hv q
theorem st_Endpoint_phase {A : Hp → Prop} (ho : H a = some (.ins T.C_Endpoint dx (obj ky_Endpoint vs))) (hv : 5 < vs.length) (q : A (upd H a (.ins T.C_Endpoint dx (obj ky_Endpoint (vs.set 5 y))))) : ∃ a' C' dx' fs, V.ref a = .ref a' ∧ H a' = some (.ins C' dx' fs) ∧ Cls K C' ∧ NoAttr K C' "phase" ∧ fs.length < 1000 ∧ A (upd H a' (.ins C' dx' (putF "phase" y fs))) := g_putE ho T.k_Endpoint T.n_Endpoint_phase nd_Endpoint (by decide) rfl hv q
theorem nw_Endpoint_phase {A : Hp → Prop} (ho : H a = some (.ins T.C_Endpoint dx (obj ky_Endpoint vs))) (hv : vs.length = 5) (q : A (upd H a (.ins T.C_Endpoint dx (obj ky_Endpoint (vs ++ [y]))))) : ∃ a' C' dx' fs, V.ref a = .ref a' ∧ H a' = some (.ins C' dx' fs) ∧ Cls K C' ∧ NoAttr K C' "phase" ∧ fs.length < 1000 ∧ A (upd H a' (.ins C' dx' (putF "phase" y fs))) := g_newE ho T.k_Endpoint T.n_Endpoint_phase nd_Endpoint (by decide) (by rw [hv]; rfl) q
theorem fd_Endpoint_cause {A : V → Prop} (ho : H a = some (.ins T.C_Endpoint dx (obj ky_Endpoint vs))) (hv : vs[6]? = some v) (q : A v) : ∃ a' C' dx' fs v', V.ref a = .ref a' ∧ H a' = some (.ins C' dx' fs) ∧ Cls K C' ∧ NoAttr K C' "cause" ∧ fs.lookup ("cause" : Str) = some v' ∧ A v' := g_fldE ho T.k_Endpoint T.n_Endpoint_cause nd_Endpoint rfl hv q
theorem st_Endpoint_cause {A : Hp → Prop} (ho : H a = some (.ins T.C_Endpoint dx (obj ky_Endpoint vs))) (hv : 6 < vs.length) (q : A (upd H a (.ins T.C_Endpoint dx (obj ky_Endpoint (vs.set 6 y))))) : ∃ a' C' dx' fs, V.ref a = .ref a' ∧ H a' = some (.ins C' dx' fs) ∧ Cls K C' ∧ NoAttr K C' "cause" ∧ fs.length < 1000 ∧ A (upd H a' (.ins C' dx' (putF "cause" y fs))) := g_putE ho T.k_Endpoint T.n_Endpoint_cause nd_Endpoint (by decide) rfl hv q
theorem nw_Endpoint_cause {A : Hp → Prop} (ho : H a = some (.ins T.C_Endpoint dx (obj ky_Endpoint vs))) (hv : vs.length = 6) (q : A (upd H a (.ins T.C_Endpoint dx (obj ky_Endpoint (vs ++ [y]))))) : ∃ a' C' dx' fs, V.ref a = .ref a' ∧ H a' = some (.ins C' dx' fs) ∧ Cls K C' ∧ NoAttr K C' "cause" ∧ fs.length < 1000 ∧ A (upd H a' (.ins C' dx' (putF "cause" y fs))) := g_newE ho T.k_Endpoint T.n_Endpoint_cause nd_Endpoint (by decide) (by rw [hv]; rfl) q
theorem fd_Endpoint_mss {A : V → Prop} (ho : H a = some (.ins T.C_Endpoint dx (obj ky_Endpoint vs))) (hv : vs[7]? = some v) (q : A v) : ∃ a' C' dx' fs v', V.ref a = .ref a' ∧ H a' = some (.ins C' dx' fs) ∧ Cls K C' ∧ NoAttr K C' "mss" ∧ fs.lookup ("mss" : Str) = some v' ∧ A v' := g_fldE ho T.k_Endpoint T.n_Endpoint_mss nd_Endpoint rfl hv q
theorem st_Endpoint_mss {A : Hp → Prop} (ho : H a = some (.ins T.C_Endpoint dx (obj ky_Endpoint vs))) (hv : 7 < vs.length) (q : A (upd H a (.ins T.C_Endpoint dx (obj ky_Endpoint (vs.set 7 y))))) : ∃ a' C' dx' fs, V.ref a = .ref a' ∧ H a' = some (.ins C' dx' fs) ∧ Cls K C' ∧ NoAttr K C' "mss" ∧ fs.length < 1000 ∧ A (upd H a' (.ins C' dx' (putF "mss" y fs))) := g_putE ho T.k_Endpoint T.n_Endpoint_mss nd_Endpoint (by decide) rfl hv q
theorem nw_Endpoint_mss {A : Hp → Prop} (ho : H a = some (.ins T.C_Endpoint dx (obj ky_Endpoint vs))) (hv : vs.length = 7) (q : A (upd H a (.ins T.C_Endpoint dx (obj ky_Endpoint (vs ++ [y]))))) : ∃ a' C' dx' fs, V.ref a = .ref a' ∧ H a' = some (.ins C' dx' fs) ∧ Cls K C' ∧ NoAttr K C' "mss" ∧ fs.length < 1000 ∧ A (upd H a' (.ins C' dx' (putF "mss" y fs))) := g_newE ho T.k_Endpoint T.n_Endpoint_mss nd_Endpoint (by decide) (by rw [hv]; rfl) q
theorem fd_Endpoint_selective {A : V → Prop} (ho : H a = some (.ins T.C_Endpoint dx (obj ky_Endpoint vs))) (hv : vs[8]? = some v) (q : A v) : ∃ a' C' dx' fs v', V.ref a = .ref a' ∧ H a' = some (.ins C' dx' fs) ∧ Cls K C' ∧ NoAttr K C' "selective" ∧ fs.lookup ("selective" : Str) = some v' ∧ A v' := g_fldE ho T.k_Endpoint T.n_Endpoint_selective nd_Endpoint rfl hv q
theorem st_Endpoint_selective {A : Hp → Prop} (ho : H a = some (.ins T.C_Endpoint dx (obj ky_Endpoint vs))) (hv : 8 < vs.length) (q : A (upd H a (.ins T.C_Endpoint dx (obj ky_Endpoint (vs.set 8 y))))) : ∃ a' C' dx' fs, V.ref a = .ref a' ∧ H a' = some (.ins C' dx' fs) ∧ Cls K C' ∧ NoAttr K C' "selective" ∧ fs.length < 1000 ∧ A (upd H a' (.ins C' dx' (putF "selective" y fs))) := g_putE ho T.k_Endpoint T.n_Endpoint_selective nd_Endpoint (by decide) rfl hv q
theorem nw_Endpoint_selective {A : Hp → Prop} (ho : H a = some (.ins T.C_Endpoint dx (obj ky_Endpoint vs))) (hv : vs.length = 8) (q : A (upd H a (.ins T.C_Endpoint dx (obj ky_Endpoint (vs ++ [y]))))) : ∃ a' C' dx' fs, V.ref a = .ref a' ∧ H a' = some (.ins C' dx' fs) ∧ Cls K C' ∧ NoAttr K C' "selective" ∧ fs.length < 1000 ∧ A (upd H a' (.ins C' dx' (putF "selective" y fs))) := g_newE ho T.k_Endpoint T.n_Endpoint_selective nd_Endpoint (by decide) (by rw [hv]; rfl) q
theorem fd_Endpoint_alarm {A : V → Prop} (ho : H a = some (.ins T.C_Endpoint dx (obj ky_Endpoint vs))) (hv : vs[9]? = some v) (q : A v) : ∃ a' C' dx' fs v', V.ref a = .ref a' ∧ H a' = some (.ins C' dx' fs) ∧ Cls K C' ∧ NoAttr K C' "alarm" ∧ fs.lookup ("alarm" : Str) = some v' ∧ A v' := g_fldE ho T.k_Endpoint T.n_Endpoint_alarm nd_Endpoint rfl hv q
theorem st_Endpoint_alarm {A : Hp → Prop} (ho : H a = some (.ins T.C_Endpoint dx (obj ky_Endpoint vs))) (hv : 9 < vs.length) (q : A (upd H a (.ins T.C_Endpoint dx (obj ky_Endpoint (vs.set 9 y))))) : ∃ a' C' dx' fs, V.ref a = .ref a' ∧ H a' = some (.ins C' dx' fs) ∧ Cls K C' ∧ NoAttr K C' "alarm" ∧ fs.length < 1000 ∧ A (upd H a' (.ins C' dx' (putF "alarm" y fs))) := g_putE ho T.k_Endpoint T.n_Endpoint_alarm nd_Endpoint (by decide) rfl hv q
theorem nw_Endpoint_alarm {A : Hp → Prop} (ho : H a = some (.ins T.C_Endpoint dx (obj ky_Endpoint vs))) (hv : vs.length = 9) (q : A (upd H a (.ins T.C_Endpoint dx (obj ky_Endpoint (vs ++ [y]))))) : ∃ a' C' dx' fs, V.ref a = .ref a' ∧ H a' = some (.ins C' dx' fs) ∧ Cls K C' ∧ NoAttr K C' "alarm" ∧ fs.length < 1000 ∧ A (upd H a' (.ins C' dx' (putF "alarm" y fs))) := g_newE ho T.k_Endpoint T.n_Endpoint_alarm nd_Endpoint (by decide) (by rw [hv]; rfl) q
theorem fd_Endpoint_since {A : V → Prop} (ho : H a = some (.ins T.C_Endpoint dx (obj ky_Endpoint vs))) (hv : vs[10]? = some v) (q : A v) : ∃ a' C' dx' fs v', V.ref a = .ref a' ∧ H a' = some (.ins C' dx' fs) ∧ Cls K C' ∧ NoAttr K C' "since" ∧ fs.lookup ("since" : Str) = some v' ∧ A v' := g_fldE ho T.k_Endpoint T.n_Endpoint_since nd_Endpoint rfl hv q
theorem st_Endpoint_since {A : Hp → Prop} (ho : H a = some (.ins T.C_Endpoint dx (obj ky_Endpoint vs))) (hv : 10 < vs.length) (q : A (upd H a (.ins T.C_Endpoint dx (obj ky_Endpoint (vs.set 10 y))))) : ∃ a' C' dx' fs, V.ref a = .ref a' ∧ H a' = some (.ins C' dx' fs) ∧ Cls K C' ∧ NoAttr K C' "since" ∧ fs.length < 1000 ∧ A (upd H a' (.ins C' dx' (putF "since" y fs))) := g_putE ho T.k_Endpoint T.n_Endpoint_since nd_Endpoint (by decide) rfl hv q
theorem nw_Endpoint_since {A : Hp → Prop} (ho : H a = some (.ins T.C_Endpoint dx (obj ky_Endpoint vs))) (hv : vs.length = 10) (q : A (upd H a (.ins T.C_Endpoint dx (obj ky_Endpoint (vs ++ [y]))))) : ∃ a' C' dx' fs, V.ref a = .ref a' ∧ H a' = some (.ins C' dx' fs) ∧ Cls K C' ∧ NoAttr K C' "since" ∧ fs.length < 1000 ∧ A (upd H a' (.ins C' dx' (putF "since" y fs))) := g_newE ho T.k_Endpoint T.n_Endpoint_since nd_Endpoint (by decide) (by rw [hv]; rfl) q
theorem fd_Endpoint_ack_at {A : V → Prop} (ho : H a = some (.ins T.C_Endpoint dx (obj ky_Endpoint vs))) (hv : vs[11]? = some v) (q : A v) : ∃ a' C' dx' fs v', V.ref a = .ref a' ∧ H a' = some (.ins C' dx' fs) ∧ Cls K C' ∧ NoAttr K C' "ack_at" ∧ fs.lookup ("ack_at" : Str) = some v' ∧ A v' := g_fldE ho T.k_Endpoint T.n_Endpoint_ack_at nd_Endpoint rfl hv q
theorem st_Endpoint_ack_at {A : Hp → Prop} (ho : H a = some (.ins T.C_Endpoint dx (obj ky_Endpoint vs))) (hv : 11 < vs.length) (q : A (upd H a (.ins T.C_Endpoint dx (obj ky_Endpoint (vs.set 11 y))))) : ∃ a' C' dx' fs, V.ref a = .ref a' ∧ H a' = some (.ins C' dx' fs) ∧ Cls K C' ∧ NoAttr K C' "ack_at" ∧ fs.length < 1000 ∧ A (upd H a' (.ins C' dx' (putF "ack_at" y fs))) := g_putE ho T.k_Endpoint T.n_Endpoint_ack_at nd_Endpoint (by decide) rfl hv q
theorem nw_Endpoint_ack_at {A : Hp → Prop} (ho : H a = some (.ins T.C_Endpoint dx (obj ky_Endpoint vs))) (hv : vs.length = 11) (q : A (upd H a (.ins T.C_Endpoint dx (obj ky_Endpoint (vs ++ [y]))))) : ∃ a' C' dx' fs, V.ref a = .ref a' ∧ H a' = some (.ins C' dx' fs) ∧ Cls K C' ∧ NoAttr K C' "ack_at" ∧ fs.length < 1000 ∧ A (upd H a' (.ins C' dx' (putF "ack_at" y fs))) := g_newE ho T.k_Endpoint T.n_Endpoint_ack_at nd_Endpoint (by decide) (by rw [hv]; rfl) q
theorem fd_Endpoint_late {A : V → Prop} (ho : H a = some (.ins T.C_Endpoint dx (obj ky_Endpoint vs))) (hv : vs[12]? = some v) (q : A v) : ∃ a' C' dx' fs v', V.ref a = .ref a' ∧ H a' = some (.ins C' dx' fs) ∧ Cls K C' ∧ NoAttr K C' "late" ∧ fs.lookup ("late" : Str) = some v' ∧ A v' := g_fldE ho T.k_Endpoint T.n_Endpoint_late nd_Endpoint rfl hv q
theorem st_Endpoint_late {A : Hp → Prop} (ho : H a = some (.ins T.C_Endpoint dx (obj ky_Endpoint vs))) (hv : 12 < vs.length) (q : A (upd H a (.ins T.C_Endpoint dx (obj ky_Endpoint (vs.set 12 y))))) : ∃ a' C' dx' fs, V.ref a = .ref a' ∧ H a' = some (.ins C' dx' fs) ∧ Cls K C' ∧ NoAttr K C' "late" ∧ fs.length < 1000 ∧ A (upd H a' (.ins C' dx' (putF "late" y fs))) := g_putE ho T.k_Endpoint T.n_Endpoint_late nd_Endpoint (by decide) rfl hv q
theorem nw_Endpoint_late {A : Hp → Prop} (ho : H a = some (.ins T.C_Endpoint dx (obj ky_Endpoint vs))) (hv : vs.length = 12) (q : A (upd H a (.ins T.C_Endpoint dx (obj ky_Endpoint (vs ++ [y]))))) : ∃ a' C' dx' fs, V.ref a = .ref a' ∧ H a' = some (.ins C' dx' fs) ∧ Cls K C' ∧ NoAttr K C' "late" ∧ fs.length < 1000 ∧ A (upd H a' (.ins C' dx' (putF "late" y fs))) := g_newE ho T.k_Endpoint T.n_Endpoint_late nd_Endpoint (by decide) (by rw [hv]; rfl) q
theorem fd_Endpoint_asked {A : V → Prop} (ho : H a = some (.ins T.C_Endpoint dx (obj ky_Endpoint vs))) (hv : vs[13]? = some v) (q : A v) : ∃ a' C' dx' fs v', V.ref a = .ref a' ∧ H a' = some (.ins C' dx' fs) ∧ Cls K C' ∧ NoAttr K C' "asked" ∧ fs.lookup ("asked" : Str) = some v' ∧ A v' := g_fldE ho T.k_Endpoint T.n_Endpoint_asked nd_Endpoint rfl hv q
theorem st_Endpoint_asked {A : Hp → Prop} (ho : H a = some (.ins T.C_Endpoint dx (obj ky_Endpoint vs))) (hv : 13 < vs.length) (q : A (upd H a (.ins T.C_Endpoint dx (obj ky_Endpoint (vs.set 13 y))))) : ∃ a' C' dx' fs, V.ref a = .ref a' ∧ H a' = some (.ins C' dx' fs) ∧ Cls K C' ∧ NoAttr K C' "asked" ∧ fs.length < 1000 ∧ A (upd H a' (.ins C' dx' (putF "asked" y fs))) := g_putE ho T.k_Endpoint T.n_Endpoint_asked nd_Endpoint (by decide) rfl hv q
theorem nw_Endpoint_asked {A : Hp → Prop} (ho : H a = some (.ins T.C_Endpoint dx (obj ky_Endpoint vs))) (hv : vs.length = 13) (q : A (upd H a (.ins T.C_Endpoint dx (obj ky_Endpoint (vs ++ [y]))))) : ∃ a' C' dx' fs, V.ref a = .ref a' ∧ H a' = some (.ins C' dx' fs) ∧ Cls K C' ∧ NoAttr K C' "asked" ∧ fs.length < 1000 ∧ A (upd H a' (.ins C' dx' (putF "asked" y fs))) := g_newE ho T.k_Endpoint T.n_Endpoint_asked nd_Endpoint (by decide) (by rw [hv]; rfl) q
theorem fd_Endpoint_again {A : V → Prop} (ho : H a = some (.ins T.C_Endpoint dx (obj ky_Endpoint vs))) (hv : vs[14]? = some v) (q : A v) : ∃ a' C' dx' fs v', V.ref a = .ref a' ∧ H a' = some (.ins C' dx' fs) ∧ Cls K C' ∧ NoAttr K C' "again" ∧ fs.lookup ("again" : Str) = some v' ∧ A v' := g_fldE ho T.k_Endpoint T.n_Endpoint_again nd_Endpoint rfl hv q
theorem st_Endpoint_again {A : Hp → Prop} (ho : H a = some (.ins T.C_Endpoint dx (obj ky_Endpoint vs))) (hv : 14 < vs.length) (q : A (upd H a (.ins T.C_Endpoint dx (obj ky_Endpoint (vs.set 14 y))))) : ∃ a' C' dx' fs, V.ref a = .ref a' ∧ H a' = some (.ins C' dx' fs) ∧ Cls K C' ∧ NoAttr K C' "again" ∧ fs.length < 1000 ∧ A (upd H a' (.ins C' dx' (putF "again" y fs))) := g_putE ho T.k_Endpoint T.n_Endpoint_again nd_Endpoint (by decide) rfl hv q
theorem nw_Endpoint_again {A : Hp → Prop} (ho : H a = some (.ins T.C_Endpoint dx (obj ky_Endpoint vs))) (hv : vs.length = 14) (q : A (upd H a (.ins T.C_Endpoint dx (obj ky_Endpoint (vs ++ [y]))))) : ∃ a' C' dx' fs, V.ref a = .ref a' ∧ H a' = some (.ins C' dx' fs) ∧ Cls K C' ∧ NoAttr K C' "again" ∧ fs.length < 1000 ∧ A (upd H a' (.ins C' dx' (putF "again" y fs))) := g_newE ho T.k_Endpoint T.n_Endpoint_again nd_Endpoint (by decide) (by rw [hv]; rfl) q
theorem fd_Endpoint_probe {A : V → Prop} (ho : H a = some (.ins T.C_Endpoint dx (obj ky_Endpoint vs))) (hv : vs[15]? = some v) (q : A v) : ∃ a' C' dx' fs v', V.ref a = .ref a' ∧ H a' = some (.ins C' dx' fs) ∧ Cls K C' ∧ NoAttr K C' "probe" ∧ fs.lookup ("probe" : Str) = some v' ∧ A v' := g_fldE ho T.k_Endpoint T.n_Endpoint_probe nd_Endpoint rfl hv q
theorem st_Endpoint_probe {A : Hp → Prop} (ho : H a = some (.ins T.C_Endpoint dx (obj ky_Endpoint vs))) (hv : 15 < vs.length) (q : A (upd H a (.ins T.C_Endpoint dx (obj ky_Endpoint (vs.set 15 y))))) : ∃ a' C' dx' fs, V.ref a = .ref a' ∧ H a' = some (.ins C' dx' fs) ∧ Cls K C' ∧ NoAttr K C' "probe" ∧ fs.length < 1000 ∧ A (upd H a' (.ins C' dx' (putF "probe" y fs))) := g_putE ho T.k_Endpoint T.n_Endpoint_probe nd_Endpoint (by decide) rfl hv q
theorem nw_Endpoint_probe {A : Hp → Prop} (ho : H a = some (.ins T.C_Endpoint dx (obj ky_Endpoint vs))) (hv : vs.length = 15) (q : A (upd H a (.ins T.C_Endpoint dx (obj ky_Endpoint (vs ++ [y]))))) : ∃ a' C' dx' fs, V.ref a = .ref a' ∧ H a' = some (.ins C' dx' fs) ∧ Cls K C' ∧ NoAttr K C' "probe" ∧ fs.length < 1000 ∧ A (upd H a' (.ins C' dx' (putF "probe" y fs))) := g_newE ho T.k_Endpoint T.n_Endpoint_probe nd_Endpoint (by decide) (by rw [hv]; rfl) q
theorem fd_Endpoint_over {A : V → Prop} (ho : H a = some (.ins T.C_Endpoint dx (obj ky_Endpoint vs))) (hv : vs[16]? = some v) (q : A v) : ∃ a' C' dx' fs v', V.ref a = .ref a' ∧ H a' = some (.ins C' dx' fs) ∧ Cls K C' ∧ NoAttr K C' "over" ∧ fs.lookup ("over" : Str) = some v' ∧ A v' := g_fldE ho T.k_Endpoint T.n_Endpoint_over nd_Endpoint rfl hv q
theorem st_Endpoint_over {A : Hp → Prop} (ho : H a = some (.ins T.C_Endpoint dx (obj ky_Endpoint vs))) (hv : 16 < vs.length) (q : A (upd H a (.ins T.C_Endpoint dx (obj ky_Endpoint (vs.set 16 y))))) : ∃ a' C' dx' fs, V.ref a = .ref a' ∧ H a' = some (.ins C' dx' fs) ∧ Cls K C' ∧ NoAttr K C' "over" ∧ fs.length < 1000 ∧ A (upd H a' (.ins C' dx' (putF "over" y fs))) := g_putE ho T.k_Endpoint T.n_Endpoint_over nd_Endpoint (by decide) rfl hv q
theorem nw_Endpoint_over {A : Hp → Prop} (ho : H a = some (.ins T.C_Endpoint dx (obj ky_Endpoint vs))) (hv : vs.length = 16) (q : A (upd H a (.ins T.C_Endpoint dx (obj ky_Endpoint (vs ++ [y]))))) : ∃ a' C' dx' fs, V.ref a = .ref a' ∧ H a' = some (.ins C' dx' fs) ∧ Cls K C' ∧ NoAttr K C' "over" ∧ fs.length < 1000 ∧ A (upd H a' (.ins C' dx' (putF "over" y fs))) := g_newE ho T.k_Endpoint T.n_Endpoint_over nd_Endpoint (by decide) (by rw [hv]; rfl) q
theorem fd_Endpoint_rest {A : V → Prop} (ho : H a = some (.ins T.C_Endpoint dx (obj ky_Endpoint vs))) (hv : vs[17]? = some v) (q : A v) : ∃ a' C' dx' fs v', V.ref a = .ref a' ∧ H a' = some (.ins C' dx' fs) ∧ Cls K C' ∧ NoAttr K C' "rest" ∧ fs.lookup ("rest" : Str) = some v' ∧ A v' := g_fldE ho T.k_Endpoint T.n_Endpoint_rest nd_Endpoint rfl hv q
theorem st_Endpoint_rest {A : Hp → Prop} (ho : H a = some (.ins T.C_Endpoint dx (obj ky_Endpoint vs))) (hv : 17 < vs.length) (q : A (upd H a (.ins T.C_Endpoint dx (obj ky_Endpoint (vs.set 17 y))))) : ∃ a' C' dx' fs, V.ref a = .ref a' ∧ H a' = some (.ins C' dx' fs) ∧ Cls K C' ∧ NoAttr K C' "rest" ∧ fs.length < 1000 ∧ A (upd H a' (.ins C' dx' (putF "rest" y fs))) := g_putE ho T.k_Endpoint T.n_Endpoint_rest nd_Endpoint (by decide) rfl hv q
theorem nw_Endpoint_rest {A : Hp → Prop} (ho : H a = some (.ins T.C_Endpoint dx (obj ky_Endpoint vs))) (hv : vs.length = 17) (q : A (upd H a (.ins T.C_Endpoint dx (obj ky_Endpoint (vs ++ [y]))))) : ∃ a' C' dx' fs, V.ref a = .ref a' ∧ H a' = some (.ins C' dx' fs) ∧ Cls K C' ∧ NoAttr K C' "rest" ∧ fs.length < 1000 ∧ A (upd H a' (.ins C' dx' (putF "rest" y fs))) := g_newE ho T.k_Endpoint T.n_Endpoint_rest nd_Endpoint (by decide) (by rw [hv]; rfl) q
theorem fd_Endpoint_spent_at {A : V → Prop} (ho : H a = some (.ins T.C_Endpoint dx (obj ky_Endpoint vs))) (hv : vs[18]? = some v) (q : A v) : ∃ a' C' dx' fs v', V.ref a = .ref a' ∧ H a' = some (.ins C' dx' fs) ∧ Cls K C' ∧ NoAttr K C' "spent_at" ∧ fs.lookup ("spent_at" : Str) = some v' ∧ A v' := g_fldE ho T.k_Endpoint T.n_Endpoint_spent_at nd_Endpoint rfl hv q
theorem st_Endpoint_spent_at {A : Hp → Prop} (ho : H a = some (.ins T.C_Endpoint dx (obj ky_Endpoint vs))) (hv : 18 < vs.length) (q : A (upd H a (.ins T.C_Endpoint dx (obj ky_Endpoint (vs.set 18 y))))) : ∃ a' C' dx' fs, V.ref a = .ref a' ∧ H a' = some (.ins C' dx' fs) ∧ Cls K C' ∧ NoAttr K C' "spent_at" ∧ fs.length < 1000 ∧ A (upd H a' (.ins C' dx' (putF "spent_at" y fs))) := g_putE ho T.k_Endpoint T.n_Endpoint_spent_at nd_Endpoint (by decide) rfl hv q
theorem nw_Endpoint_spent_at {A : Hp → Prop} (ho : H a = some (.ins T.C_Endpoint dx (obj ky_Endpoint vs))) (hv : vs.length = 18) (q : A (upd H a (.ins T.C_Endpoint dx (obj ky_Endpoint (vs ++ [y]))))) : ∃ a' C' dx' fs, V.ref a = .ref a' ∧ H a' = some (.ins C' dx' fs) ∧ Cls K C' ∧ NoAttr K C' "spent_at" ∧ fs.length < 1000 ∧ A (upd H a' (.ins C' dx' (putF "spent_at" y fs))) := g_newE ho T.k_Endpoint T.n_Endpoint_spent_at nd_Endpoint (by decide) (by rw [hv]; rfl) q
theorem fd_Endpoint_spent {A : V → Prop} (ho : H a = some (.ins T.C_Endpoint dx (obj ky_Endpoint vs))) (hv : vs[19]? = some v) (q : A v) : ∃ a' C' dx' fs v', V.ref a = .ref a' ∧ H a' = some (.ins C' dx' fs) ∧ Cls K C' ∧ NoAttr K C' "spent" ∧ fs.lookup ("spent" : Str) = some v' ∧ A v' := g_fldE ho T.k_Endpoint T.n_Endpoint_spent nd_Endpoint rfl hv q
theorem st_Endpoint_spent {A : Hp → Prop} (ho : H a = some (.ins T.C_Endpoint dx (obj ky_Endpoint vs))) (hv : 19 < vs.length) (q : A (upd H a (.ins T.C_Endpoint dx (obj ky_Endpoint (vs.set 19 y))))) : ∃ a' C' dx' fs, V.ref a = .ref a' ∧ H a' = some (.ins C' dx' fs) ∧ Cls K C' ∧ NoAttr K C' "spent" ∧ fs.length < 1000 ∧ A (upd H a' (.ins C' dx' (putF "spent" y fs))) := g_putE ho T.k_Endpoint T.n_Endpoint_spent nd_Endpoint (by decide) rfl hv q
theorem nw_Endpoint_spent {A : Hp → Prop} (ho : H a = some (.ins T.C_Endpoint dx (obj ky_Endpoint vs))) (hv : vs.length = 19) (q : A (upd H a (.ins T.C_Endpoint dx (obj ky_Endpoint (vs ++ [y]))))) : ∃ a' C' dx' fs, V.ref a = .ref a' ∧ H a' = some (.ins C' dx' fs) ∧ Cls K C' ∧ NoAttr K C' "spent" ∧ fs.length < 1000 ∧ A (upd H a' (.ins C' dx' (putF "spent" y fs))) := g_newE ho T.k_Endpoint T.n_Endpoint_spent nd_Endpoint (by decide) (by rw [hv]; rfl) q
theorem fd_Endpoint_stamp {A : V → Prop} (ho : H a = some (.ins T.C_Endpoint dx (obj ky_Endpoint vs))) (hv : vs[20]? = some v) (q : A v) : ∃ a' C' dx' fs v', V.ref a = .ref a' ∧ H a' = some (.ins C' dx' fs) ∧ Cls K C' ∧ NoAttr K C' "stamp" ∧ fs.lookup ("stamp" : Str) = some v' ∧ A v' := g_fldE ho T.k_Endpoint T.n_Endpoint_stamp nd_Endpoint rfl hv q
theorem st_Endpoint_stamp {A : Hp → Prop} (ho : H a = some (.ins T.C_Endpoint dx (obj ky_Endpoint vs))) (hv : 20 < vs.length) (q : A (upd H a (.ins T.C_Endpoint dx (obj ky_Endpoint (vs.set 20 y))))) : ∃ a' C' dx' fs, V.ref a = .ref a' ∧ H a' = some (.ins C' dx' fs) ∧ Cls K C' ∧ NoAttr K C' "stamp" ∧ fs.length < 1000 ∧ A (upd H a' (.ins C' dx' (putF "stamp" y fs))) := g_putE ho T.k_Endpoint T.n_Endpoint_stamp nd_Endpoint (by decide) rfl hv q
theorem nw_Endpoint_stamp {A : Hp → Prop} (ho : H a = some (.ins T.C_Endpoint dx (obj ky_Endpoint vs))) (hv : vs.length = 20) (q : A (upd H a (.ins T.C_Endpoint dx (obj ky_Endpoint (vs ++ [y]))))) : ∃ a' C' dx' fs, V.ref a = .ref a' ∧ H a' = some (.ins C' dx' fs) ∧ Cls K C' ∧ NoAttr K C' "stamp" ∧ fs.length < 1000 ∧ A (upd H a' (.ins C' dx' (putF "stamp" y fs))) := g_newE ho T.k_Endpoint T.n_Endpoint_stamp nd_Endpoint (by decide) (by rw [hv]; rfl) q
theorem fd_Endpoint_marked {A : V → Prop} (ho : H a = some (.ins T.C_Endpoint dx (obj ky_Endpoint vs))) (hv : vs[21]? = some v) (q : A v) : ∃ a' C' dx' fs v', V.ref a = .ref a' ∧ H a' = some (.ins C' dx' fs) ∧ Cls K C' ∧ NoAttr K C' "marked" ∧ fs.lookup ("marked" : Str) = some v' ∧ A v' := g_fldE ho T.k_Endpoint T.n_Endpoint_marked nd_Endpoint rfl hv q
theorem st_Endpoint_marked {A : Hp → Prop} (ho : H a = some (.ins T.C_Endpoint dx (obj ky_Endpoint vs))) (hv : 21 < vs.length) (q : A (upd H a (.ins T.C_Endpoint dx (obj ky_Endpoint (vs.set 21 y))))) : ∃ a' C' dx' fs, V.ref a = .ref a' ∧ H a' = some (.ins C' dx' fs) ∧ Cls K C' ∧ NoAttr K C' "marked" ∧ fs.length < 1000 ∧ A (upd H a' (.ins C' dx' (putF "marked" y fs))) := g_putE ho T.k_Endpoint T.n_Endpoint_marked nd_Endpoint (by decide) rfl hv q
theorem nw_Endpoint_marked {A : Hp → Prop} (ho : H a = some (.ins T.C_Endpoint dx (obj ky_Endpoint vs))) (hv : vs.length = 21) (q : A (upd H a (.ins T.C_Endpoint dx (obj ky_Endpoint (vs ++ [y]))))) : ∃ a' C' dx' fs, V.ref a = .ref a' ∧ H a' = some (.ins C' dx' fs) ∧ Cls K C' ∧ NoAttr K C' "marked" ∧ fs.length < 1000 ∧ A (upd H a' (.ins C' dx' (putF "marked" y fs))) := g_newE ho T.k_Endpoint T.n_Endpoint_marked nd_Endpoint (by decide) (by rw [hv]; rfl) q
theorem fd_Endpoint_cut {A : V → Prop} (ho : H a = some (.ins T.C_Endpoint dx (obj ky_Endpoint vs))) (hv : vs[22]? = some v) (q : A v) : ∃ a' C' dx' fs v', V.ref a = .ref a' ∧ H a' = some (.ins C' dx' fs) ∧ Cls K C' ∧ NoAttr K C' "cut" ∧ fs.lookup ("cut" : Str) = some v' ∧ A v' := g_fldE ho T.k_Endpoint T.n_Endpoint_cut nd_Endpoint rfl hv q
theorem st_Endpoint_cut {A : Hp → Prop} (ho : H a = some (.ins T.C_Endpoint dx (obj ky_Endpoint vs))) (hv : 22 < vs.length) (q : A (upd H a (.ins T.C_Endpoint dx (obj ky_Endpoint (vs.set 22 y))))) : ∃ a' C' dx' fs, V.ref a = .ref a' ∧ H a' = some (.ins C' dx' fs) ∧ Cls K C' ∧ NoAttr K C' "cut" ∧ fs.length < 1000 ∧ A (upd H a' (.ins C' dx' (putF "cut" y fs))) := g_putE ho T.k_Endpoint T.n_Endpoint_cut nd_Endpoint (by decide) rfl hv q
theorem nw_Endpoint_cut {A : Hp → Prop} (ho : H a = some (.ins T.C_Endpoint dx (obj ky_Endpoint vs))) (hv : vs.length = 22) (q : A (upd H a (.ins T.C_Endpoint dx (obj ky_Endpoint (vs ++ [y]))))) : ∃ a' C' dx' fs, V.ref a = .ref a' ∧ H a' = some (.ins C' dx' fs) ∧ Cls K C' ∧ NoAttr K C' "cut" ∧ fs.length < 1000 ∧ A (upd H a' (.ins C' dx' (putF "cut" y fs))) := g_newE ho T.k_Endpoint T.n_Endpoint_cut nd_Endpoint (by decide) (by rw [hv]; rfl) q
theorem me_Endpoint_abort {A : Prop} (ho : H a = some (.ins T.C_Endpoint dx (obj ky_Endpoint vs))) (q : A) : ∃ a' dx' fs, V.ref a = .ref a' ∧ H a' = some (.ins T.C_Endpoint dx' fs) ∧ fs.lookup ("abort" : Str) = none ∧ A := g_methE ho (by decide +kernel) q
theorem me_Endpoint_end {A : Prop} (ho : H a = some (.ins T.C_Endpoint dx (obj ky_Endpoint vs))) (q : A) : ∃ a' dx' fs, V.ref a = .ref a' ∧ H a' = some (.ins T.C_Endpoint dx' fs) ∧ fs.lookup ("_end" : Str) = none ∧ A := g_methE ho (by decide +kernel) q
end
def ky_Options : List Str := ["mss", "room", "life", "pace", "tries", "min_rto", "max_rto", "ack_delay", "keep_alive", "nagle", "control"]
theorem nd_Options : ky_Options.Nodup := by decide +kernel
section
variable {P : Program} {K : PySem.W.Frag} {mg : Str → Option Value} {T : Txt P K mg} {H : Hp} {a dx : Addr} {vs : List V} {v y : V}
theorem fd_Options_mss {A : V → Prop} (ho : H a = some (.ins T.C_Options dx (obj ky_Options vs))) (hv : vs[0]? = some v) (q : A v) : ∃ a' C' dx' fs v', V.ref a = .ref a' ∧ H a' = some (.ins C' dx' fs) ∧ Cls K C' ∧ NoAttr K C' "mss" ∧ fs.lookup ("mss" : Str) = some v' ∧ A v' := g_fldE ho T.k_Options T.n_Options_mss nd_Options rfl hv q
theorem st_Options_mss {A : Hp → Prop} (ho : H a = some (.ins T.C_Options dx (obj ky_Options vs))) (hv : 0 < vs.length) (q : A (upd H a (.ins T.C_Options dx (obj ky_Options (vs.set 0 y))))) : ∃ a' C' dx' fs, V.ref a = .ref a' ∧ H a' = some (.ins C' dx' fs) ∧ Cls K C' ∧ NoAttr K C' "mss" ∧ fs.length < 1000 ∧ A (upd H a' (.ins C' dx' (putF "mss" y fs))) := g_putE ho T.k_Options T.n_Options_mss nd_Options (by decide) rfl hv q
theorem nw_Options_mss {A : Hp → Prop} (ho : H a = some (.ins T.C_Options dx (obj ky_Options vs))) (hv : vs.length = 0) (q : A (upd H a (.ins T.C_Options dx (obj ky_Options (vs ++ [y]))))) : ∃ a' C' dx' fs, V.ref a = .ref a' ∧ H a' = some (.ins C' dx' fs) ∧ Cls K C' ∧ NoAttr K C' "mss" ∧ fs.length < 1000 ∧ A (upd H a' (.ins C' dx' (putF "mss" y fs))) := g_newE ho T.k_Options T.n_Options_mss nd_Options (by decide) (by rw [hv]; rfl) q
theorem fd_Options_room {A : V → Prop} (ho : H a = some (.ins T.C_Options dx (obj ky_Options vs))) (hv : vs[1]? = some v) (q : A v) : ∃ a' C' dx' fs v', V.ref a = .ref a' ∧ H a' = some (.ins C' dx' fs) ∧ Cls K C' ∧ NoAttr K C' "room" ∧ fs.lookup ("room" : Str) = some v' ∧ A v' := g_fldE ho T.k_Options T.n_Options_room nd_Options rfl hv q
theorem st_Options_room {A : Hp → Prop} (ho : H a = some (.ins T.C_Options dx (obj ky_Options vs))) (hv : 1 < vs.length) (q : A (upd H a (.ins T.C_Options dx (obj ky_Options (vs.set 1 y))))) : ∃ a' C' dx' fs, V.ref a = .ref a' ∧ H a' = some (.ins C' dx' fs) ∧ Cls K C' ∧ NoAttr K C' "room" ∧ fs.length < 1000 ∧ A (upd H a' (.ins C' dx' (putF "room" y fs))) := g_putE ho T.k_Options T.n_Options_room nd_Options (by decide) rfl hv q
theorem nw_Options_room {A : Hp → Prop} (ho : H a = some (.ins T.C_Options dx (obj ky_Options vs))) (hv : vs.length = 1) (q : A (upd H a (.ins T.C_Options dx (obj ky_Options (vs ++ [y]))))) : ∃ a' C' dx' fs, V.ref a = .ref a' ∧ H a' = some (.ins C' dx' fs) ∧ Cls K C' ∧ NoAttr K C' "room" ∧ fs.length < 1000 ∧ A (upd H a' (.ins C' dx' (putF "room" y fs))) := g_newE ho T.k_Options T.n_Options_room nd_Options (by decide) (by rw [hv]; rfl) q
theorem fd_Options_life {A : V → Prop} (ho : H a = some (.ins T.C_Options dx (obj ky_Options vs))) (hv : vs[2]? = some v) (q : A v) : ∃ a' C' dx' fs v', V.ref a = .ref a' ∧ H a' = some (.ins C' dx' fs) ∧ Cls K C' ∧ NoAttr K C' "life" ∧ fs.lookup ("life" : Str) = some v' ∧ A v' := g_fldE ho T.k_Options T.n_Options_life nd_Options rfl hv q
theorem st_Options_life {A : Hp → Prop} (ho : H a = some (.ins T.C_Options dx (obj ky_Options vs))) (hv : 2 < vs.length) (q : A (upd H a (.ins T.C_Options dx (obj ky_Options (vs.set 2 y))))) : ∃ a' C' dx' fs, V.ref a = .ref a' ∧ H a' = some (.ins C' dx' fs) ∧ Cls K C' ∧ NoAttr K C' "life" ∧ fs.length < 1000 ∧ A (upd H a' (.ins C' dx' (putF "life" y fs))) := g_putE ho T.k_Options T.n_Options_life nd_Options (by decide) rfl hv q
theorem nw_Options_life {A : Hp → Prop} (ho : H a = some (.ins T.C_Options dx (obj ky_Options vs))) (hv : vs.length = 2) (q : A (upd H a (.ins T.C_Options dx (obj ky_Options (vs ++ [y]))))) : ∃ a' C' dx' fs, V.ref a = .ref a' ∧ H a' = some (.ins C' dx' fs) ∧ Cls K C' ∧ NoAttr K C' "life" ∧ fs.length < 1000 ∧ A (upd H a' (.ins C' dx' (putF "life" y fs))) := g_newE ho T.k_Options T.n_Options_life nd_Options (by decide) (by rw [hv]; rfl) q
theorem fd_Options_pace {A : V → Prop} (ho : H a = some (.ins T.C_Options dx (obj ky_Options vs))) (hv : vs[3]? = some v) (q : A v) : ∃ a' C' dx' fs v', V.ref a = .ref a' ∧ H a' = some (.ins C' dx' fs) ∧ Cls K C' ∧ NoAttr K C' "pace" ∧ fs.lookup ("pace" : Str) = some v' ∧ A v' := g_fldE ho T.k_Options T.n_Options_pace nd_Options rfl hv q
theorem st_Options_pace {A : Hp → Prop} (ho : H a = some (.ins T.C_Options dx (obj ky_Options vs))) (hv : 3 < vs.length) (q : A (upd H a (.ins T.C_Options dx (obj ky_Options (vs.set 3 y))))) : ∃ a' C' dx' fs, V.ref a = .ref a' ∧ H a' = some (.ins C' dx' fs) ∧ Cls K C' ∧ NoAttr K C' "pace" ∧ fs.length < 1000 ∧ A (upd H a' (.ins C' dx' (putF "pace" y fs))) := g_putE ho T.k_Options T.n_Options_pace nd_Options (by decide) rfl hv q
theorem nw_Options_pace {A : Hp → Prop} (ho : H a = some (.ins T.C_Options dx (obj ky_Options vs))) (hv : vs.length = 3) (q : A (upd H a (.ins T.C_Options dx (obj ky_Options (vs ++ [y]))))) : ∃ a' C' dx' fs, V.ref a = .ref a' ∧ H a' = some (.ins C' dx' fs) ∧ Cls K C' ∧ NoAttr K C' "pace" ∧ fs.length < 1000 ∧ A (upd H a' (.ins C' dx' (putF "pace" y fs))) := g_newE ho T.k_Options T.n_Options_pace nd_Options (by decide) (by rw [hv]; rfl) q
theorem fd_Options_tries {A : V → Prop} (ho : H a = some (.ins T.C_Options dx (obj ky_Options vs))) (hv : vs[4]? = some v) (q : A v) : ∃ a' C' dx' fs v', V.ref a = .ref a' ∧ H a' = some (.ins C' dx' fs) ∧ Cls K C' ∧ NoAttr K C' "tries" ∧ fs.lookup ("tries" : Str) = some v' ∧ A v' := g_fldE ho T.k_Options T.n_Options_tries nd_Options rfl hv q
theorem st_Options_tries {A : Hp → Prop} (ho : H a = some (.ins T.C_Options dx (obj ky_Options vs))) (hv : 4 < vs.length) (q : A (upd H a (.ins T.C_Options dx (obj ky_Options (vs.set 4 y))))) : ∃ a' C' dx' fs, V.ref a = .ref a' ∧ H a' = some (.ins C' dx' fs) ∧ Cls K C' ∧ NoAttr K C' "tries" ∧ fs.length < 1000 ∧ A (upd H a' (.ins C' dx' (putF "tries" y fs))) := g_putE ho T.k_Options T.n_Options_tries nd_Options (by decide) rfl hv q
theorem nw_Options_tries {A : Hp → Prop} (ho : H a = some (.ins T.C_Options dx (obj ky_Options vs))) (hv : vs.length = 4) (q : A (upd H a (.ins T.C_Options dx (obj ky_Options (vs ++ [y]))))) : ∃ a' C' dx' fs, V.ref a = .ref a' ∧ H a' = some (.ins C' dx' fs) ∧ Cls K C' ∧ NoAttr K C' "tries" ∧ fs.length < 1000 ∧ A (upd H a' (.ins C' dx' (putF "tries" y fs))) := g_newE ho T.k_Options T.n_Options_tries nd_Options (by decide) (by rw [hv]; rfl) q
theorem fd_Options_min_rto {A : V → Prop} (ho : H a = some (.ins T.C_Options dx (obj ky_Options vs))) (hv : vs[5]? = some v) (q : A v) : ∃ a' C' dx' fs v', V.ref a = .ref a' ∧ H a' = some (.ins C' dx' fs) ∧ Cls K C' ∧ NoAttr K C' "min_rto" ∧ fs.lookup ("min_rto" : Str) = some v' ∧ A v' := g_fldE ho T.k_Options T.n_Options_min_rto nd_Options rfl hv q
theorem st_Options_min_rto {A : Hp → Prop} (ho : H a = some (.ins T.C_Options dx (obj ky_Options vs))) (hv : 5 < vs.length) (q : A (upd H a (.ins T.C_Options dx (obj ky_Options (vs.set 5 y))))) : ∃ a' C' dx' fs, V.ref a = .ref a' ∧ H a' = some (.ins C' dx' fs) ∧ Cls K C' ∧ NoAttr K C' "min_rto" ∧ fs.length < 1000 ∧ A (upd H a' (.ins C' dx' (putF "min_rto" y fs))) := g_putE ho T.k_Options T.n_Options_min_rto nd_Options (by decide) rfl hv q
theorem nw_Options_min_rto {A : Hp → Prop} (ho : H a = some (.ins T.C_Options dx (obj ky_Options vs))) (hv : vs.length = 5) (q : A (upd H a (.ins T.C_Options dx (obj ky_Options (vs ++ [y]))))) : ∃ a' C' dx' fs, V.ref a = .ref a' ∧ H a' = some (.ins C' dx' fs) ∧ Cls K C' ∧ NoAttr K C' "min_rto" ∧ fs.length < 1000 ∧ A (upd H a' (.ins C' dx' (putF "min_rto" y fs))) := g_newE ho T.k_Options T.n_Options_min_rto nd_Options (by decide) (by rw [hv]; rfl) q
theorem fd_Options_max_rto {A : V → Prop} (ho : H a = some (.ins T.C_Options dx (obj ky_Options vs))) (hv : vs[6]? = some v) (q : A v) : ∃ a' C' dx' fs v', V.ref a = .ref a' ∧ H a' = some (.ins C' dx' fs) ∧ Cls K C' ∧ NoAttr K C' "max_rto" ∧ fs.lookup ("max_rto" : Str) = some v' ∧ A v' := g_fldE ho T.k_Options T.n_Options_max_rto nd_Options rfl hv q
theorem st_Options_max_rto {A : Hp → Prop} (ho : H a = some (.ins T.C_Options dx (obj ky_Options vs))) (hv : 6 < vs.length) (q : A (upd H a (.ins T.C_Options dx (obj ky_Options (vs.set 6 y))))) : ∃ a' C' dx' fs, V.ref a = .ref a' ∧ H a' = some (.ins C' dx' fs) ∧ Cls K C' ∧ NoAttr K C' "max_rto" ∧ fs.length < 1000 ∧ A (upd H a' (.ins C' dx' (putF "max_rto" y fs))) := g_putE ho T.k_Options T.n_Options_max_rto nd_Options (by decide) rfl hv q
theorem nw_Options_max_rto {A : Hp → Prop} (ho : H a = some (.ins T.C_Options dx (obj ky_Options vs))) (hv : vs.length = 6) (q : A (upd H a (.ins T.C_Options dx (obj ky_Options (vs ++ [y]))))) : ∃ a' C' dx' fs, V.ref a = .ref a' ∧ H a' = some (.ins C' dx' fs) ∧ Cls K C' ∧ NoAttr K C' "max_rto" ∧ fs.length < 1000 ∧ A (upd H a' (.ins C' dx' (putF "max_rto" y fs))) := g_newE ho T.k_Options T.n_Options_max_rto nd_Options (by decide) (by rw [hv]; rfl) q
theorem fd_Options_ack_delay {A : V → Prop} (ho : H a = some (.ins T.C_Options dx (obj ky_Options vs))) (hv : vs[7]? = some v) (q : A v) : ∃ a' C' dx' fs v', V.ref a = .ref a' ∧ H a' = some (.ins C' dx' fs) ∧ Cls K C' ∧ NoAttr K C' "ack_delay" ∧ fs.lookup ("ack_delay" : Str) = some v' ∧ A v' := g_fldE ho T.k_Options T.n_Options_ack_delay nd_Options rfl hv q
theorem st_Options_ack_delay {A : Hp → Prop} (ho : H a = some (.ins T.C_Options dx (obj ky_Options vs))) (hv : 7 < vs.length) (q : A (upd H a (.ins T.C_Options dx (obj ky_Options (vs.set 7 y))))) : ∃ a' C' dx' fs, V.ref a = .ref a' ∧ H a' = some (.ins C' dx' fs) ∧ Cls K C' ∧ NoAttr K C' "ack_delay" ∧ fs.length < 1000 ∧ A (upd H a' (.ins C' dx' (putF "ack_delay" y fs))) := g_putE ho T.k_Options T.n_Options_ack_delay nd_Options (by decide) rfl hv q
theorem nw_Options_ack_delay {A : Hp → Prop} (ho : H a = some (.ins T.C_Options dx (obj ky_Options vs))) (hv : vs.length = 7) (q : A (upd H a (.ins T.C_Options dx (obj ky_Options (vs ++ [y]))))) : ∃ a' C' dx' fs, V.ref a = .ref a' ∧ H a' = some (.ins C' dx' fs) ∧ Cls K C' ∧ NoAttr K C' "ack_delay" ∧ fs.length < 1000 ∧ A (upd H a' (.ins C' dx' (putF "ack_delay" y fs))) := g_newE ho T.k_Options T.n_Options_ack_delay nd_Options (by decide) (by rw [hv]; rfl) q
theorem fd_Options_keep_alive {A : V → Prop} (ho : H a = some (.ins T.C_Options dx (obj ky_Options vs))) (hv : vs[8]? = some v) (q : A v) : ∃ a' C' dx' fs v', V.ref a = .ref a' ∧ H a' = some (.ins C' dx' fs) ∧ Cls K C' ∧ NoAttr K C' "keep_alive" ∧ fs.lookup ("keep_alive" : Str) = some v' ∧ A v' := g_fldE ho T.k_Options T.n_Options_keep_alive nd_Options rfl hv q
theorem st_Options_keep_alive {A : Hp → Prop} (ho : H a = some (.ins T.C_Options dx (obj ky_Options vs))) (hv : 8 < vs.length) (q : A (upd H a (.ins T.C_Options dx (obj ky_Options (vs.set 8 y))))) : ∃ a' C' dx' fs, V.ref a = .ref a' ∧ H a' = some (.ins C' dx' fs) ∧ Cls K C' ∧ NoAttr K C' "keep_alive" ∧ fs.length < 1000 ∧ A (upd H a' (.ins C' dx' (putF "keep_alive" y fs))) := g_putE ho T.k_Options T.n_Options_keep_alive nd_Options (by decide) rfl hv q
theorem nw_Options_keep_alive {A : Hp → Prop} (ho : H a = some (.ins T.C_Options dx (obj ky_Options vs))) (hv : vs.length = 8) (q : A (upd H a (.ins T.C_Options dx (obj ky_Options (vs ++ [y]))))) : ∃ a' C' dx' fs, V.ref a = .ref a' ∧ H a' = some (.ins C' dx' fs) ∧ Cls K C' ∧ NoAttr K C' "keep_alive" ∧ fs.length < 1000 ∧ A (upd H a' (.ins C' dx' (putF "keep_alive" y fs))) := g_newE ho T.k_Options T.n_Options_keep_alive nd_Options (by decide) (by rw [hv]; rfl) q
theorem fd_Options_nagle {A : V → Prop} (ho : H a = some (.ins T.C_Options dx (obj ky_Options vs))) (hv : vs[9]? = some v) (q : A v) : ∃ a' C' dx' fs v', V.ref a = .ref a' ∧ H a' = some (.ins C' dx' fs) ∧ Cls K C' ∧ NoAttr K C' "nagle" ∧ fs.lookup ("nagle" : Str) = some v' ∧ A v' := g_fldE ho T.k_Options T.n_Options_nagle nd_Options rfl hv q
theorem st_Options_nagle {A : Hp → Prop} (ho : H a = some (.ins T.C_Options dx (obj ky_Options vs))) (hv : 9 < vs.length) (q : A (upd H a (.ins T.C_Options dx (obj ky_Options (vs.set 9 y))))) : ∃ a' C' dx' fs, V.ref a = .ref a' ∧ H a' = some (.ins C' dx' fs) ∧ Cls K C' ∧ NoAttr K C' "nagle" ∧ fs.length < 1000 ∧ A (upd H a' (.ins C' dx' (putF "nagle" y fs))) := g_putE ho T.k_Options T.n_Options_nagle nd_Options (by decide) rfl hv q
theorem nw_Options_nagle {A : Hp → Prop} (ho : H a = some (.ins T.C_Options dx (obj ky_Options vs))) (hv : vs.length = 9) (q : A (upd H a (.ins T.C_Options dx (obj ky_Options (vs ++ [y]))))) : ∃ a' C' dx' fs, V.ref a = .ref a' ∧ H a' = some (.ins C' dx' fs) ∧ Cls K C' ∧ NoAttr K C' "nagle" ∧ fs.length < 1000 ∧ A (upd H a' (.ins C' dx' (putF "nagle" y fs))) := g_newE ho T.k_Options T.n_Options_nagle nd_Options (by decide) (by rw [hv]; rfl) q
theorem fd_Options_control {A : V → Prop} (ho : H a = some (.ins T.C_Options dx (obj ky_Options vs))) (hv : vs[10]? = some v) (q : A v) : ∃ a' C' dx' fs v', V.ref a = .ref a' ∧ H a' = some (.ins C' dx' fs) ∧ Cls K C' ∧ NoAttr K C' "control" ∧ fs.lookup ("control" : Str) = some v' ∧ A v' := g_fldE ho T.k_Options T.n_Options_control nd_Options rfl hv q
theorem st_Options_control {A : Hp → Prop} (ho : H a = some (.ins T.C_Options dx (obj ky_Options vs))) (hv : 10 < vs.length) (q : A (upd H a (.ins T.C_Options dx (obj ky_Options (vs.set 10 y))))) : ∃ a' C' dx' fs, V.ref a = .ref a' ∧ H a' = some (.ins C' dx' fs) ∧ Cls K C' ∧ NoAttr K C' "control" ∧ fs.length < 1000 ∧ A (upd H a' (.ins C' dx' (putF "control" y fs))) := g_putE ho T.k_Options T.n_Options_control nd_Options (by decide) rfl hv q
theorem nw_Options_control {A : Hp → Prop} (ho : H a = some (.ins T.C_Options dx (obj ky_Options vs))) (hv : vs.length = 10) (q : A (upd H a (.ins T.C_Options dx (obj ky_Options (vs ++ [y]))))) : ∃ a' C' dx' fs, V.ref a = .ref a' ∧ H a' = some (.ins C' dx' fs) ∧ Cls K C' ∧ NoAttr K C' "control" ∧ fs.length < 1000 ∧ A (upd H a' (.ins C' dx' (putF "control" y fs))) := g_newE ho T.k_Options T.n_Options_control nd_Options (by decide) (by rw [hv]; rfl) q
theorem me_Options_fork {A : Prop} (ho : H a = some (.ins T.C_Options dx (obj ky_Options vs))) (q : A) : ∃ a' dx' fs, V.ref a = .ref a' ∧ H a' = some (.ins T.C_Options dx' fs) ∧ fs.lookup ("fork" : Str) = none ∧ A := g_methE ho (by decide +kernel) q
theorem me_Options_wrong_names {A : Prop} (ho : H a = some (.ins T.C_Options dx (obj ky_Options vs))) (q : A) : ∃ a' dx' fs, V.ref a = .ref a' ∧ H a' = some (.ins T.C_Options dx' fs) ∧ fs.lookup ("_wrong_names" : Str) = none ∧ A := g_methE ho (by decide +kernel) q
end
local macro_rules | `(tactic| walk_at "use") => `(tactic| first | ((with_reducible refine' fd_Segment_source ?ho_ ?hv_ ?_); (case ho_ => first | assumption | exact upd_same); (case hv_ => exact rfl)) | ((with_reducible refine' fd_Segment_target ?ho_ ?hv_ ?_); (case ho_ => first | assumption | exact upd_same); (case hv_ => exact rfl)) | ((with_reducible refine' fd_Segment_seq ?ho_ ?hv_ ?_); (case ho_ => first | assumption | exact upd_same); (case hv_ => exact rfl)) | ((with_reducible refine' fd_Segment_count ?ho_ ?hv_ ?_); (case ho_ => first | assumption | exact upd_same); (case hv_ => exact rfl)) | ((with_reducible refine' fd_Segment_echo ?ho_ ?hv_ ?_); (case ho_ => first | assumption | exact upd_same); (case hv_ => exact rfl)) | ((with_reducible refine' fd_Segment_ack ?ho_ ?hv_ ?_); (case ho_ => first | assumption | exact upd_same); (case hv_ => exact rfl)) | ((with_reducible refine' fd_Segment_syn ?ho_ ?hv_ ?_); (case ho_ => first | assumption | exact upd_same); (case hv_ => exact rfl)) | ((with_reducible refine' fd_Segment_fin ?ho_ ?hv_ ?_); (case ho_ => first | assumption | exact upd_same); (case hv_ => exact rfl)) | ((with_reducible refine' fd_Segment_reset ?ho_ ?hv_ ?_); (case ho_ => first | assumption | exact upd_same); (case hv_ => exact rfl)) | ((with_reducible refine' fd_Segment_marked ?ho_ ?hv_ ?_); (case ho_ => first | assumption | exact upd_same); (case hv_ => exact rfl)) | ((with_reducible refine' fd_Segment_cut ?ho_ ?hv_ ?_); (case ho_ => first | assumption | exact upd_same); (case hv_ => exact rfl)) | ((with_reducible refine' fd_Segment_window ?ho_ ?hv_ ?_); (case ho_ => first | assumption | exact upd_same); (case hv_ => exact rfl)) | ((with_reducible refine' fd_Segment_mss ?ho_ ?hv_ ?_); (case ho_ => first | assumption | exact upd_same); (case hv_ => exact rfl)) | ((with_reducible refine' fd_Segment_scale ?ho_ ?hv_ ?_); (case ho_ => first | assumption | exact upd_same); (case hv_ => exact rfl)) | ((with_reducible refine' fd_Segment_ranges_known ?ho_ ?hv_ ?_); (case ho_ => first | assumption | exact upd_same); (case hv_ => exact rfl)) | ((with_reducible refine' fd_Segment_ranges ?ho_ ?hv_ ?_); (case ho_ => first | assumption | exact upd_same); (case hv_ => exact rfl)) | ((with_reducible refine' fd_Segment_stamp ?ho_ ?hv_ ?_); (case ho_ => first | assumption | exact upd_same); (case hv_ => exact rfl)) | ((with_reducible refine' fd_Segment_data ?ho_ ?hv_ ?_); (case ho_ => first | assumption | exact upd_same); (case hv_ => exact rfl)) | ((with_reducible refine' nw_Segment_source ?ho_ ?hv_ ?_); (case ho_ => first | assumption | exact upd_same); (case hv_ => exact rfl)) | ((with_reducible refine' nw_Segment_target ?ho_ ?hv_ ?_); (case ho_ => first | assumption | exact upd_same); (case hv_ => exact rfl)) | ((with_reducible refine' nw_Segment_seq ?ho_ ?hv_ ?_); (case ho_ => first | assumption | exact upd_same); (case hv_ => exact rfl)) | ((with_reducible refine' nw_Segment_count ?ho_ ?hv_ ?_); (case ho_ => first | assumption | exact upd_same); (case hv_ => exact rfl)) | ((with_reducible refine' nw_Segment_echo ?ho_ ?hv_ ?_); (case ho_ => first | assumption | exact upd_same); (case hv_ => exact rfl)) | ((with_reducible refine' nw_Segment_ack ?ho_ ?hv_ ?_); (case ho_ => first | assumption | exact upd_same); (case hv_ => exact rfl)) | ((with_reducible refine' nw_Segment_syn ?ho_ ?hv_ ?_); (case ho_ => first | assumption | exact upd_same); (case hv_ => exact rfl)) | ((with_reducible refine' nw_Segment_fin ?ho_ ?hv_ ?_); (case ho_ => first | assumption | exact upd_same); (case hv_ => exact rfl)) | ((with_reducible refine' nw_Segment_reset ?ho_ ?hv_ ?_); (case ho_ => first | assumption | exact upd_same); (case hv_ => exact rfl)) | ((with_reducible refine' nw_Segment_marked ?ho_ ?hv_ ?_); (case ho_ => first | assumption | exact upd_same); (case hv_ => exact rfl)) | ((with_reducible refine' nw_Segment_cut ?ho_ ?hv_ ?_); (case ho_ => first | assumption | exact upd_same); (case hv_ => exact rfl)) | ((with_reducible refine' nw_Segment_window ?ho_ ?hv_ ?_); (case ho_ => first | assumption | exact upd_same); (case hv_ => exact rfl)) | ((with_reducible refine' nw_Segment_mss ?ho_ ?hv_ ?_); (case ho_ => first | assumption | exact upd_same); (case hv_ => exact rfl)) | ((with_reducible refine' nw_Segment_scale ?ho_ ?hv_ ?_); (case ho_ => first | assumption | exact upd_same); (case hv_ => exact rfl)) | ((with_reducible refine' nw_Segment_ranges_known ?ho_ ?hv_ ?_); (case ho_ => first | assumption | exact upd_same); (case hv_ => exact rfl)) | ((with_reducible refine' nw_Segment_ranges ?ho_ ?hv_ ?_); (case ho_ => first | assumption | exact upd_same); (case hv_ => exact rfl)) | ((with_reducible refine' nw_Segment_stamp ?ho_ ?hv_ ?_); (case ho_ => first | assumption | exact upd_same); (case hv_ => exact rfl)) | ((with_reducible refine' nw_Segment_data ?ho_ ?hv_ ?_); (case ho_ => first | assumption | exact upd_same); (case hv_ => exact rfl)) | ((with_reducible refine' st_Segment_source ?ho_ ?hv_ ?_); (case ho_ => first | assumption | exact upd_same); (case hv_ => exact Nat.le_of_ble_eq_true rfl)) | ((with_reducible refine' st_Segment_target ?ho_ ?hv_ ?_); (case ho_ => first | assumption | exact upd_same); (case hv_ => exact Nat.le_of_ble_eq_true rfl)) | ((with_reducible refine' st_Segment_seq ?ho_ ?hv_ ?_); (case ho_ => first | assumption | exact upd_same); (case hv_ => exact Nat.le_of_ble_eq_true rfl)) | ((with_reducible refine' st_Segment_count ?ho_ ?hv_ ?_); (case ho_ => first | assumption | exact upd_same); (case hv_ => exact Nat.le_of_ble_eq_true rfl)) | ((with_reducible refine' st_Segment_echo ?ho_ ?hv_ ?_); (case ho_ => first | assumption | exact upd_same); (case hv_ => exact Nat.le_of_ble_eq_true rfl)) | ((with_reducible refine' st_Segment_ack ?ho_ ?hv_ ?_); (case ho_ => first | assumption | exact upd_same); (case hv_ => exact Nat.le_of_ble_eq_true rfl)) | ((with_reducible refine' st_Segment_syn ?ho_ ?hv_ ?_); (case ho_ => first | assumption | exact upd_same); (case hv_ => exact Nat.le_of_ble_eq_true rfl)) | ((with_reducible refine' st_Segment_fin ?ho_ ?hv_ ?_); (case ho_ => first | assumption | exact upd_same); (case hv_ => exact Nat.le_of_ble_eq_true rfl)) | ((with_reducible refine' st_Segment_reset ?ho_ ?hv_ ?_); (case ho_ => first | assumption | exact upd_same); (case hv_ => exact Nat.le_of_ble_eq_true rfl)) | ((with_reducible refine' st_Segment_marked ?ho_ ?hv_ ?_); (case ho_ => first | assumption | exact upd_same); (case hv_ => exact Nat.le_of_ble_eq_true rfl)) | ((with_reducible refine' st_Segment_cut ?ho_ ?hv_ ?_); (case ho_ => first | assumption | exact upd_same); (case hv_ => exact Nat.le_of_ble_eq_true rfl)) | ((with_reducible refine' st_Segment_window ?ho_ ?hv_ ?_); (case ho_ => first | assumption | exact upd_same); (case hv_ => exact Nat.le_of_ble_eq_true rfl)) | ((with_reducible refine' st_Segment_mss ?ho_ ?hv_ ?_); (case ho_ => first | assumption | exact upd_same); (case hv_ => exact Nat.le_of_ble_eq_true rfl)) | ((with_reducible refine' st_Segment_scale ?ho_ ?hv_ ?_); (case ho_ => first | assumption | exact upd_same); (case hv_ => exact Nat.le_of_ble_eq_true rfl)) | ((with_reducible refine' st_Segment_ranges_known ?ho_ ?hv_ ?_); (case ho_ => first | assumption | exact upd_same); (case hv_ => exact Nat.le_of_ble_eq_true rfl)) | ((with_reducible refine' st_Segment_ranges ?ho_ ?hv_ ?_); (case ho_ => first | assumption | exact upd_same); (case hv_ => exact Nat.le_of_ble_eq_true rfl)) | ((with_reducible refine' st_Segment_stamp ?ho_ ?hv_ ?_); (case ho_ => first | assumption | exact upd_same); (case hv_ => exact Nat.le_of_ble_eq_true rfl)) | ((with_reducible refine' st_Segment_data ?ho_ ?hv_ ?_); (case ho_ => first | assumption | exact upd_same); (case hv_ => exact Nat.le_of_ble_eq_true rfl)))
local macro_rules | `(tactic| walk_at "use") => `(tactic| first | ((with_reducible refine' fd_Socket_count ?ho_ ?hv_ ?_); (case ho_ => first | assumption | exact upd_same); (case hv_ => exact rfl)) | ((with_reducible refine' fd_Socket_port ?ho_ ?hv_ ?_); (case ho_ => first | assumption | exact upd_same); (case hv_ => exact rfl)) | ((with_reducible refine' fd_Socket_peer ?ho_ ?hv_ ?_); (case ho_ => first | assumption | exact upd_same); (case hv_ => exact rfl)) | ((with_reducible refine' fd_Socket_peer_port ?ho_ ?hv_ ?_); (case ho_ => first | assumption | exact upd_same); (case hv_ => exact rfl)) | ((with_reducible refine' fd_Socket_peer_count ?ho_ ?hv_ ?_); (case ho_ => first | assumption | exact upd_same); (case hv_ => exact rfl)) | ((with_reducible refine' fd_Socket_peer_first ?ho_ ?hv_ ?_); (case ho_ => first | assumption | exact upd_same); (case hv_ => exact rfl)) | ((with_reducible refine' fd_Socket_peer_shift ?ho_ ?hv_ ?_); (case ho_ => first | assumption | exact upd_same); (case hv_ => exact rfl)) | ((with_reducible refine' fd_Socket_listened ?ho_ ?hv_ ?_); (case ho_ => first | assumption | exact upd_same); (case hv_ => exact rfl)) | ((with_reducible refine' fd_Socket_accepted ?ho_ ?hv_ ?_); (case ho_ => first | assumption | exact upd_same); (case hv_ => exact rfl)) | ((with_reducible refine' fd_Socket_endpoint ?ho_ ?hv_ ?_); (case ho_ => first | assumption | exact upd_same); (case hv_ => exact rfl)) | ((with_reducible refine' nw_Socket_count ?ho_ ?hv_ ?_); (case ho_ => first | assumption | exact upd_same); (case hv_ => exact rfl)) | ((with_reducible refine' nw_Socket_port ?ho_ ?hv_ ?_); (case ho_ => first | assumption | exact upd_same); (case hv_ => exact rfl)) | ((with_reducible refine' nw_Socket_peer ?ho_ ?hv_ ?_); (case ho_ => first | assumption | exact upd_same); (case hv_ => exact rfl)) | ((with_reducible refine' nw_Socket_peer_port ?ho_ ?hv_ ?_); (case ho_ => first | assumption | exact upd_same); (case hv_ => exact rfl)) | ((with_reducible refine' nw_Socket_peer_count ?ho_ ?hv_ ?_); (case ho_ => first | assumption | exact upd_same); (case hv_ => exact rfl)) | ((with_reducible refine' nw_Socket_peer_first ?ho_ ?hv_ ?_); (case ho_ => first | assumption | exact upd_same); (case hv_ => exact rfl)) | ((with_reducible refine' nw_Socket_peer_shift ?ho_ ?hv_ ?_); (case ho_ => first | assumption | exact upd_same); (case hv_ => exact rfl)) | ((with_reducible refine' nw_Socket_listened ?ho_ ?hv_ ?_); (case ho_ => first | assumption | exact upd_same); (case hv_ => exact rfl)) | ((with_reducible refine' nw_Socket_accepted ?ho_ ?hv_ ?_); (case ho_ => first | assumption | exact upd_same); (case hv_ => exact rfl)) | ((with_reducible refine' nw_Socket_endpoint ?ho_ ?hv_ ?_); (case ho_ => first | assumption | exact upd_same); (case hv_ => exact rfl)) | ((with_reducible refine' st_Socket_count ?ho_ ?hv_ ?_); (case ho_ => first | assumption | exact upd_same); (case hv_ => exact Nat.le_of_ble_eq_true rfl)) | ((with_reducible refine' st_Socket_port ?ho_ ?hv_ ?_); (case ho_ => first | assumption | exact upd_same); (case hv_ => exact Nat.le_of_ble_eq_true rfl)) | ((with_reducible refine' st_Socket_peer ?ho_ ?hv_ ?_); (case ho_ => first | assumption | exact upd_same); (case hv_ => exact Nat.le_of_ble_eq_true rfl)) | ((with_reducible refine' st_Socket_peer_port ?ho_ ?hv_ ?_); (case ho_ => first | assumption | exact upd_same); (case hv_ => exact Nat.le_of_ble_eq_true rfl)) | ((with_reducible refine' st_Socket_peer_count ?ho_ ?hv_ ?_); (case ho_ => first | assumption | exact upd_same); (case hv_ => exact Nat.le_of_ble_eq_true rfl)) | ((with_reducible refine' st_Socket_peer_first ?ho_ ?hv_ ?_); (case ho_ => first | assumption | exact upd_same); (case hv_ => exact Nat.le_of_ble_eq_true rfl)) | ((with_reducible refine' st_Socket_peer_shift ?ho_ ?hv_ ?_); (case ho_ => first | assumption | exact upd_same); (case hv_ => exact Nat.le_of_ble_eq_true rfl)) | ((with_reducible refine' st_Socket_listened ?ho_ ?hv_ ?_); (case ho_ => first | assumption | exact upd_same); (case hv_ => exact Nat.le_of_ble_eq_true rfl)) | ((with_reducible refine' st_Socket_accepted ?ho_ ?hv_ ?_); (case ho_ => first | assumption | exact upd_same); (case hv_ => exact Nat.le_of_ble_eq_true rfl)) | ((with_reducible refine' st_Socket_endpoint ?ho_ ?hv_ ?_); (case ho_ => first | assumption | exact upd_same); (case hv_ => exact Nat.le_of_ble_eq_true rfl)) | ((with_reducible refine' me_Socket_is_for ?ho_ ?_); (case ho_ => first | assumption | exact upd_same)) | ((with_reducible refine' me_Socket_learn ?ho_ ?_); (case ho_ => first | assumption | exact upd_same)))
local macro_rules | `(tactic| walk_at "use") => `(tactic| first | ((with_reducible refine' fd_Reno_cwnd ?ho_ ?hv_ ?_); (case ho_ => first | assumption | exact upd_same); (case hv_ => exact rfl)) | ((with_reducible refine' fd_Reno_thresh ?ho_ ?hv_ ?_); (case ho_ => first | assumption | exact upd_same); (case hv_ => exact rfl)) | ((with_reducible refine' fd_Reno_peak ?ho_ ?hv_ ?_); (case ho_ => first | assumption | exact upd_same); (case hv_ => exact rfl)) | ((with_reducible refine' fd_Reno_prior ?ho_ ?hv_ ?_); (case ho_ => first | assumption | exact upd_same); (case hv_ => exact rfl)) | ((with_reducible refine' fd_Reno_calm ?ho_ ?hv_ ?_); (case ho_ => first | assumption | exact upd_same); (case hv_ => exact rfl)) | ((with_reducible refine' fd_Reno_credit ?ho_ ?hv_ ?_); (case ho_ => first | assumption | exact upd_same); (case hv_ => exact rfl)) | ((with_reducible refine' nw_Reno_cwnd ?ho_ ?hv_ ?_); (case ho_ => first | assumption | exact upd_same); (case hv_ => exact rfl)) | ((with_reducible refine' nw_Reno_thresh ?ho_ ?hv_ ?_); (case ho_ => first | assumption | exact upd_same); (case hv_ => exact rfl)) | ((with_reducible refine' nw_Reno_peak ?ho_ ?hv_ ?_); (case ho_ => first | assumption | exact upd_same); (case hv_ => exact rfl)) | ((with_reducible refine' nw_Reno_prior ?ho_ ?hv_ ?_); (case ho_ => first | assumption | exact upd_same); (case hv_ => exact rfl)) | ((with_reducible refine' nw_Reno_calm ?ho_ ?hv_ ?_); (case ho_ => first | assumption | exact upd_same); (case hv_ => exact rfl)) | ((with_reducible refine' nw_Reno_credit ?ho_ ?hv_ ?_); (case ho_ => first | assumption | exact upd_same); (case hv_ => exact rfl)) | ((with_reducible refine' st_Reno_cwnd ?ho_ ?hv_ ?_); (case ho_ => first | assumption | exact upd_same); (case hv_ => exact Nat.le_of_ble_eq_true rfl)) | ((with_reducible refine' st_Reno_thresh ?ho_ ?hv_ ?_); (case ho_ => first | assumption | exact upd_same); (case hv_ => exact Nat.le_of_ble_eq_true rfl)) | ((with_reducible refine' st_Reno_peak ?ho_ ?hv_ ?_); (case ho_ => first | assumption | exact upd_same); (case hv_ => exact Nat.le_of_ble_eq_true rfl)) | ((with_reducible refine' st_Reno_prior ?ho_ ?hv_ ?_); (case ho_ => first | assumption | exact upd_same); (case hv_ => exact Nat.le_of_ble_eq_true rfl)) | ((with_reducible refine' st_Reno_calm ?ho_ ?hv_ ?_); (case ho_ => first | assumption | exact upd_same); (case hv_ => exact Nat.le_of_ble_eq_true rfl)) | ((with_reducible refine' st_Reno_credit ?ho_ ?hv_ ?_); (case ho_ => first | assumption | exact upd_same); (case hv_ => exact Nat.le_of_ble_eq_true rfl)) | ((with_reducible refine' me_Reno_bounded ?ho_ ?_); (case ho_ => first | assumption | exact upd_same)))
local macro_rules | `(tactic| walk_at "use") => `(tactic| first | ((with_reducible refine' fd_RoundTrip_least ?ho_ ?hv_ ?_); (case ho_ => first | assumption | exact upd_same); (case hv_ => exact rfl)) | ((with_reducible refine' fd_RoundTrip_most ?ho_ ?hv_ ?_); (case ho_ => first | assumption | exact upd_same); (case hv_ => exact rfl)) | ((with_reducible refine' fd_RoundTrip_srtt ?ho_ ?hv_ ?_); (case ho_ => first | assumption | exact upd_same); (case hv_ => exact rfl)) | ((with_reducible refine' fd_RoundTrip_variance ?ho_ ?hv_ ?_); (case ho_ => first | assumption | exact upd_same); (case hv_ => exact rfl)) | ((with_reducible refine' fd_RoundTrip_rto ?ho_ ?hv_ ?_); (case ho_ => first | assumption | exact upd_same); (case hv_ => exact rfl)) | ((with_reducible refine' fd_RoundTrip_measured ?ho_ ?hv_ ?_); (case ho_ => first | assumption | exact upd_same); (case hv_ => exact rfl)) | ((with_reducible refine' nw_RoundTrip_least ?ho_ ?hv_ ?_); (case ho_ => first | assumption | exact upd_same); (case hv_ => exact rfl)) | ((with_reducible refine' nw_RoundTrip_most ?ho_ ?hv_ ?_); (case ho_ => first | assumption | exact upd_same); (case hv_ => exact rfl)) | ((with_reducible refine' nw_RoundTrip_srtt ?ho_ ?hv_ ?_); (case ho_ => first | assumption | exact upd_same); (case hv_ => exact rfl)) | ((with_reducible refine' nw_RoundTrip_variance ?ho_ ?hv_ ?_); (case ho_ => first | assumption | exact upd_same); (case hv_ => exact rfl)) | ((with_reducible refine' nw_RoundTrip_rto ?ho_ ?hv_ ?_); (case ho_ => first | assumption | exact upd_same); (case hv_ => exact rfl)) | ((with_reducible refine' nw_RoundTrip_measured ?ho_ ?hv_ ?_); (case ho_ => first | assumption | exact upd_same); (case hv_ => exact rfl)) | ((with_reducible refine' st_RoundTrip_least ?ho_ ?hv_ ?_); (case ho_ => first | assumption | exact upd_same); (case hv_ => exact Nat.le_of_ble_eq_true rfl)) | ((with_reducible refine' st_RoundTrip_most ?ho_ ?hv_ ?_); (case ho_ => first | assumption | exact upd_same); (case hv_ => exact Nat.le_of_ble_eq_true rfl)) | ((with_reducible refine' st_RoundTrip_srtt ?ho_ ?hv_ ?_); (case ho_ => first | assumption | exact upd_same); (case hv_ => exact Nat.le_of_ble_eq_true rfl)) | ((with_reducible refine' st_RoundTrip_variance ?ho_ ?hv_ ?_); (case ho_ => first | assumption | exact upd_same); (case hv_ => exact Nat.le_of_ble_eq_true rfl)) | ((with_reducible refine' st_RoundTrip_rto ?ho_ ?hv_ ?_); (case ho_ => first | assumption | exact upd_same); (case hv_ => exact Nat.le_of_ble_eq_true rfl)) | ((with_reducible refine' st_RoundTrip_measured ?ho_ ?hv_ ?_); (case ho_ => first | assumption | exact upd_same); (case hv_ => exact Nat.le_of_ble_eq_true rfl)) | ((with_reducible refine' me_RoundTrip_within_bounds ?ho_ ?_); (case ho_ => first | assumption | exact upd_same)))
local macro_rules | `(tactic| walk_at "use") => `(tactic| first | ((with_reducible refine' fd_OffsetSet__ranges ?ho_ ?hv_ ?_); (case ho_ => first | assumption | exact upd_same); (case hv_ => exact rfl)) | ((with_reducible refine' nw_OffsetSet__ranges ?ho_ ?hv_ ?_); (case ho_ => first | assumption | exact upd_same); (case hv_ => exact rfl)) | ((with_reducible refine' st_OffsetSet__ranges ?ho_ ?hv_ ?_); (case ho_ => first | assumption | exact upd_same); (case hv_ => exact Nat.le_of_ble_eq_true rfl)))
local macro_rules | `(tactic| walk_at "use") => `(tactic| first | ((with_reducible refine' fd_Receiver_room ?ho_ ?hv_ ?_); (case ho_ => first | assumption | exact upd_same); (case hv_ => exact rfl)) | ((with_reducible refine' fd_Receiver_nxt ?ho_ ?hv_ ?_); (case ho_ => first | assumption | exact upd_same); (case hv_ => exact rfl)) | ((with_reducible refine' fd_Receiver_edge ?ho_ ?hv_ ?_); (case ho_ => first | assumption | exact upd_same); (case hv_ => exact rfl)) | ((with_reducible refine' fd_Receiver_end ?ho_ ?hv_ ?_); (case ho_ => first | assumption | exact upd_same); (case hv_ => exact rfl)) | ((with_reducible refine' fd_Receiver_recent ?ho_ ?hv_ ?_); (case ho_ => first | assumption | exact upd_same); (case hv_ => exact rfl)) | ((with_reducible refine' fd_Receiver__ready ?ho_ ?hv_ ?_); (case ho_ => first | assumption | exact upd_same); (case hv_ => exact rfl)) | ((with_reducible refine' fd_Receiver__held ?ho_ ?hv_ ?_); (case ho_ => first | assumption | exact upd_same); (case hv_ => exact rfl)) | ((with_reducible refine' fd_Receiver__held_offsets ?ho_ ?hv_ ?_); (case ho_ => first | assumption | exact upd_same); (case hv_ => exact rfl)) | ((with_reducible refine' nw_Receiver_room ?ho_ ?hv_ ?_); (case ho_ => first | assumption | exact upd_same); (case hv_ => exact rfl)) | ((with_reducible refine' nw_Receiver_nxt ?ho_ ?hv_ ?_); (case ho_ => first | assumption | exact upd_same); (case hv_ => exact rfl)) | ((with_reducible refine' nw_Receiver_edge ?ho_ ?hv_ ?_); (case ho_ => first | assumption | exact upd_same); (case hv_ => exact rfl)) | ((with_reducible refine' nw_Receiver_end ?ho_ ?hv_ ?_); (case ho_ => first | assumption | exact upd_same); (case hv_ => exact rfl)) | ((with_reducible refine' nw_Receiver_recent ?ho_ ?hv_ ?_); (case ho_ => first | assumption | exact upd_same); (case hv_ => exact rfl)) | ((with_reducible refine' nw_Receiver__ready ?ho_ ?hv_ ?_); (case ho_ => first | assumption | exact upd_same); (case hv_ => exact rfl)) | ((with_reducible refine' nw_Receiver__held ?ho_ ?hv_ ?_); (case ho_ => first | assumption | exact upd_same); (case hv_ => exact rfl)) | ((with_reducible refine' nw_Receiver__held_offsets ?ho_ ?hv_ ?_); (case ho_ => first | assumption | exact upd_same); (case hv_ => exact rfl)) | ((with_reducible refine' st_Receiver_room ?ho_ ?hv_ ?_); (case ho_ => first | assumption | exact upd_same); (case hv_ => exact Nat.le_of_ble_eq_true rfl)) | ((with_reducible refine' st_Receiver_nxt ?ho_ ?hv_ ?_); (case ho_ => first | assumption | exact upd_same); (case hv_ => exact Nat.le_of_ble_eq_true rfl)) | ((with_reducible refine' st_Receiver_edge ?ho_ ?hv_ ?_); (case ho_ => first | assumption | exact upd_same); (case hv_ => exact Nat.le_of_ble_eq_true rfl)) | ((with_reducible refine' st_Receiver_end ?ho_ ?hv_ ?_); (case ho_ => first | assumption | exact upd_same); (case hv_ => exact Nat.le_of_ble_eq_true rfl)) | ((with_reducible refine' st_Receiver_recent ?ho_ ?hv_ ?_); (case ho_ => first | assumption | exact upd_same); (case hv_ => exact Nat.le_of_ble_eq_true rfl)) | ((with_reducible refine' st_Receiver__ready ?ho_ ?hv_ ?_); (case ho_ => first | assumption | exact upd_same); (case hv_ => exact Nat.le_of_ble_eq_true rfl)) | ((with_reducible refine' st_Receiver__held ?ho_ ?hv_ ?_); (case ho_ => first | assumption | exact upd_same); (case hv_ => exact Nat.le_of_ble_eq_true rfl)) | ((with_reducible refine' st_Receiver__held_offsets ?ho_ ?hv_ ?_); (case ho_ => first | assumption | exact upd_same); (case hv_ => exact Nat.le_of_ble_eq_true rfl)))
local macro_rules | `(tactic| walk_at "use") => `(tactic| first | ((with_reducible refine' fd_Sender_room ?ho_ ?hv_ ?_); (case ho_ => first | assumption | exact upd_same); (case hv_ => exact rfl)) | ((with_reducible refine' fd_Sender_una ?ho_ ?hv_ ?_); (case ho_ => first | assumption | exact upd_same); (case hv_ => exact rfl)) | ((with_reducible refine' fd_Sender_nxt ?ho_ ?hv_ ?_); (case ho_ => first | assumption | exact upd_same); (case hv_ => exact rfl)) | ((with_reducible refine' fd_Sender_written ?ho_ ?hv_ ?_); (case ho_ => first | assumption | exact upd_same); (case hv_ => exact rfl)) | ((with_reducible refine' fd_Sender_finished ?ho_ ?hv_ ?_); (case ho_ => first | assumption | exact upd_same); (case hv_ => exact rfl)) | ((with_reducible refine' fd_Sender_edge ?ho_ ?hv_ ?_); (case ho_ => first | assumption | exact upd_same); (case hv_ => exact rfl)) | ((with_reducible refine' fd_Sender_recovery ?ho_ ?hv_ ?_); (case ho_ => first | assumption | exact upd_same); (case hv_ => exact rfl)) | ((with_reducible refine' fd_Sender_resend ?ho_ ?hv_ ?_); (case ho_ => first | assumption | exact upd_same); (case hv_ => exact rfl)) | ((with_reducible refine' fd_Sender_lost ?ho_ ?hv_ ?_); (case ho_ => first | assumption | exact upd_same); (case hv_ => exact rfl)) | ((with_reducible refine' fd_Sender_repeated ?ho_ ?hv_ ?_); (case ho_ => first | assumption | exact upd_same); (case hv_ => exact rfl)) | ((with_reducible refine' fd_Sender__queue ?ho_ ?hv_ ?_); (case ho_ => first | assumption | exact upd_same); (case hv_ => exact rfl)) | ((with_reducible refine' fd_Sender__sacked ?ho_ ?hv_ ?_); (case ho_ => first | assumption | exact upd_same); (case hv_ => exact rfl)) | ((with_reducible refine' nw_Sender_room ?ho_ ?hv_ ?_); (case ho_ => first | assumption | exact upd_same); (case hv_ => exact rfl)) | ((with_reducible refine' nw_Sender_una ?ho_ ?hv_ ?_); (case ho_ => first | assumption | exact upd_same); (case hv_ => exact rfl)) | ((with_reducible refine' nw_Sender_nxt ?ho_ ?hv_ ?_); (case ho_ => first | assumption | exact upd_same); (case hv_ => exact rfl)) | ((with_reducible refine' nw_Sender_written ?ho_ ?hv_ ?_); (case ho_ => first | assumption | exact upd_same); (case hv_ => exact rfl)) | ((with_reducible refine' nw_Sender_finished ?ho_ ?hv_ ?_); (case ho_ => first | assumption | exact upd_same); (case hv_ => exact rfl)) | ((with_reducible refine' nw_Sender_edge ?ho_ ?hv_ ?_); (case ho_ => first | assumption | exact upd_same); (case hv_ => exact rfl)) | ((with_reducible refine' nw_Sender_recovery ?ho_ ?hv_ ?_); (case ho_ => first | assumption | exact upd_same); (case hv_ => exact rfl)) | ((with_reducible refine' nw_Sender_resend ?ho_ ?hv_ ?_); (case ho_ => first | assumption | exact upd_same); (case hv_ => exact rfl)) | ((with_reducible refine' nw_Sender_lost ?ho_ ?hv_ ?_); (case ho_ => first | assumption | exact upd_same); (case hv_ => exact rfl)) | ((with_reducible refine' nw_Sender_repeated ?ho_ ?hv_ ?_); (case ho_ => first | assumption | exact upd_same); (case hv_ => exact rfl)) | ((with_reducible refine' nw_Sender__queue ?ho_ ?hv_ ?_); (case ho_ => first | assumption | exact upd_same); (case hv_ => exact rfl)) | ((with_reducible refine' nw_Sender__sacked ?ho_ ?hv_ ?_); (case ho_ => first | assumption | exact upd_same); (case hv_ => exact rfl)) | ((with_reducible refine' st_Sender_room ?ho_ ?hv_ ?_); (case ho_ => first | assumption | exact upd_same); (case hv_ => exact Nat.le_of_ble_eq_true rfl)) | ((with_reducible refine' st_Sender_una ?ho_ ?hv_ ?_); (case ho_ => first | assumption | exact upd_same); (case hv_ => exact Nat.le_of_ble_eq_true rfl)) | ((with_reducible refine' st_Sender_nxt ?ho_ ?hv_ ?_); (case ho_ => first | assumption | exact upd_same); (case hv_ => exact Nat.le_of_ble_eq_true rfl)) | ((with_reducible refine' st_Sender_written ?ho_ ?hv_ ?_); (case ho_ => first | assumption | exact upd_same); (case hv_ => exact Nat.le_of_ble_eq_true rfl)) | ((with_reducible refine' st_Sender_finished ?ho_ ?hv_ ?_); (case ho_ => first | assumption | exact upd_same); (case hv_ => exact Nat.le_of_ble_eq_true rfl)) | ((with_reducible refine' st_Sender_edge ?ho_ ?hv_ ?_); (case ho_ => first | assumption | exact upd_same); (case hv_ => exact Nat.le_of_ble_eq_true rfl)) | ((with_reducible refine' st_Sender_recovery ?ho_ ?hv_ ?_); (case ho_ => first | assumption | exact upd_same); (case hv_ => exact Nat.le_of_ble_eq_true rfl)) | ((with_reducible refine' st_Sender_resend ?ho_ ?hv_ ?_); (case ho_ => first | assumption | exact upd_same); (case hv_ => exact Nat.le_of_ble_eq_true rfl)) | ((with_reducible refine' st_Sender_lost ?ho_ ?hv_ ?_); (case ho_ => first | assumption | exact upd_same); (case hv_ => exact Nat.le_of_ble_eq_true rfl)) | ((with_reducible refine' st_Sender_repeated ?ho_ ?hv_ ?_); (case ho_ => first | assumption | exact upd_same); (case hv_ => exact Nat.le_of_ble_eq_true rfl)) | ((with_reducible refine' st_Sender__queue ?ho_ ?hv_ ?_); (case ho_ => first | assumption | exact upd_same); (case hv_ => exact Nat.le_of_ble_eq_true rfl)) | ((with_reducible refine' st_Sender__sacked ?ho_ ?hv_ ?_); (case ho_ => first | assumption | exact upd_same); (case hv_ => exact Nat.le_of_ble_eq_true rfl)))
local macro_rules | `(tactic| walk_at "use") => `(tactic| first | ((with_reducible refine' fd_Endpoint_options ?ho_ ?hv_ ?_); (case ho_ => first | assumption | exact upd_same); (case hv_ => exact rfl)) | ((with_reducible refine' fd_Endpoint_sender ?ho_ ?hv_ ?_); (case ho_ => first | assumption | exact upd_same); (case hv_ => exact rfl)) | ((with_reducible refine' fd_Endpoint_receiver ?ho_ ?hv_ ?_); (case ho_ => first | assumption | exact upd_same); (case hv_ => exact rfl)) | ((with_reducible refine' fd_Endpoint_trip ?ho_ ?hv_ ?_); (case ho_ => first | assumption | exact upd_same); (case hv_ => exact rfl)) | ((with_reducible refine' fd_Endpoint_control ?ho_ ?hv_ ?_); (case ho_ => first | assumption | exact upd_same); (case hv_ => exact rfl)) | ((with_reducible refine' fd_Endpoint_phase ?ho_ ?hv_ ?_); (case ho_ => first | assumption | exact upd_same); (case hv_ => exact rfl)) | ((with_reducible refine' fd_Endpoint_cause ?ho_ ?hv_ ?_); (case ho_ => first | assumption | exact upd_same); (case hv_ => exact rfl)) | ((with_reducible refine' fd_Endpoint_mss ?ho_ ?hv_ ?_); (case ho_ => first | assumption | exact upd_same); (case hv_ => exact rfl)) | ((with_reducible refine' fd_Endpoint_selective ?ho_ ?hv_ ?_); (case ho_ => first | assumption | exact upd_same); (case hv_ => exact rfl)) | ((with_reducible refine' fd_Endpoint_alarm ?ho_ ?hv_ ?_); (case ho_ => first | assumption | exact upd_same); (case hv_ => exact rfl)) | ((with_reducible refine' fd_Endpoint_since ?ho_ ?hv_ ?_); (case ho_ => first | assumption | exact upd_same); (case hv_ => exact rfl)) | ((with_reducible refine' fd_Endpoint_ack_at ?ho_ ?hv_ ?_); (case ho_ => first | assumption | exact upd_same); (case hv_ => exact rfl)) | ((with_reducible refine' fd_Endpoint_late ?ho_ ?hv_ ?_); (case ho_ => first | assumption | exact upd_same); (case hv_ => exact rfl)) | ((with_reducible refine' fd_Endpoint_asked ?ho_ ?hv_ ?_); (case ho_ => first | assumption | exact upd_same); (case hv_ => exact rfl)) | ((with_reducible refine' fd_Endpoint_again ?ho_ ?hv_ ?_); (case ho_ => first | assumption | exact upd_same); (case hv_ => exact rfl)) | ((with_reducible refine' fd_Endpoint_probe ?ho_ ?hv_ ?_); (case ho_ => first | assumption | exact upd_same); (case hv_ => exact rfl)) | ((with_reducible refine' fd_Endpoint_over ?ho_ ?hv_ ?_); (case ho_ => first | assumption | exact upd_same); (case hv_ => exact rfl)) | ((with_reducible refine' fd_Endpoint_rest ?ho_ ?hv_ ?_); (case ho_ => first | assumption | exact upd_same); (case hv_ => exact rfl)) | ((with_reducible refine' fd_Endpoint_spent_at ?ho_ ?hv_ ?_); (case ho_ => first | assumption | exact upd_same); (case hv_ => exact rfl)) | ((with_reducible refine' fd_Endpoint_spent ?ho_ ?hv_ ?_); (case ho_ => first | assumption | exact upd_same); (case hv_ => exact rfl)) | ((with_reducible refine' fd_Endpoint_stamp ?ho_ ?hv_ ?_); (case ho_ => first | assumption | exact upd_same); (case hv_ => exact rfl)) | ((with_reducible refine' fd_Endpoint_marked ?ho_ ?hv_ ?_); (case ho_ => first | assumption | exact upd_same); (case hv_ => exact rfl)) | ((with_reducible refine' fd_Endpoint_cut ?ho_ ?hv_ ?_); (case ho_ => first | assumption | exact upd_same); (case hv_ => exact rfl)) | ((with_reducible refine' nw_Endpoint_options ?ho_ ?hv_ ?_); (case ho_ => first | assumption | exact upd_same); (case hv_ => exact rfl)) | ((with_reducible refine' nw_Endpoint_sender ?ho_ ?hv_ ?_); (case ho_ => first | assumption | exact upd_same); (case hv_ => exact rfl)) | ((with_reducible refine' nw_Endpoint_receiver ?ho_ ?hv_ ?_); (case ho_ => first | assumption | exact upd_same); (case hv_ => exact rfl)) | ((with_reducible refine' nw_Endpoint_trip ?ho_ ?hv_ ?_); (case ho_ => first | assumption | exact upd_same); (case hv_ => exact rfl)) | ((with_reducible refine' nw_Endpoint_control ?ho_ ?hv_ ?_); (case ho_ => first | assumption | exact upd_same); (case hv_ => exact rfl)) | ((with_reducible refine' nw_Endpoint_phase ?ho_ ?hv_ ?_); (case ho_ => first | assumption | exact upd_same); (case hv_ => exact rfl)) | ((with_reducible refine' nw_Endpoint_cause ?ho_ ?hv_ ?_); (case ho_ => first | assumption | exact upd_same); (case hv_ => exact rfl)) | ((with_reducible refine' nw_Endpoint_mss ?ho_ ?hv_ ?_); (case ho_ => first | assumption | exact upd_same); (case hv_ => exact rfl)) | ((with_reducible refine' nw_Endpoint_selective ?ho_ ?hv_ ?_); (case ho_ => first | assumption | exact upd_same); (case hv_ => exact rfl)) | ((with_reducible refine' nw_Endpoint_alarm ?ho_ ?hv_ ?_); (case ho_ => first | assumption | exact upd_same); (case hv_ => exact rfl)) | ((with_reducible refine' nw_Endpoint_since ?ho_ ?hv_ ?_); (case ho_ => first | assumption | exact upd_same); (case hv_ => exact rfl)) | ((with_reducible refine' nw_Endpoint_ack_at ?ho_ ?hv_ ?_); (case ho_ => first | assumption | exact upd_same); (case hv_ => exact rfl)) | ((with_reducible refine' nw_Endpoint_late ?ho_ ?hv_ ?_); (case ho_ => first | assumption | exact upd_same); (case hv_ => exact rfl)) | ((with_reducible refine' nw_Endpoint_asked ?ho_ ?hv_ ?_); (case ho_ => first | assumption | exact upd_same); (case hv_ => exact rfl)) | ((with_reducible refine' nw_Endpoint_again ?ho_ ?hv_ ?_); (case ho_ => first | assumption | exact upd_same); (case hv_ => exact rfl)) | ((with_reducible refine' nw_Endpoint_probe ?ho_ ?hv_ ?_); (case ho_ => first | assumption | exact upd_same); (case hv_ => exact rfl)) | ((with_reducible refine' nw_Endpoint_over ?ho_ ?hv_ ?_); (case ho_ => first | assumption | exact upd_same); (case hv_ => exact rfl)) | ((with_reducible refine' nw_Endpoint_rest ?ho_ ?hv_ ?_); (case ho_ => first | assumption | exact upd_same); (case hv_ => exact rfl)) | ((with_reducible refine' nw_Endpoint_spent_at ?ho_ ?hv_ ?_); (case ho_ => first | assumption | exact upd_same); (case hv_ => exact rfl)) | ((with_reducible refine' nw_Endpoint_spent ?ho_ ?hv_ ?_); (case ho_ => first | assumption | exact upd_same); (case hv_ => exact rfl)) | ((with_reducible refine' nw_Endpoint_stamp ?ho_ ?hv_ ?_); (case ho_ => first | assumption | exact upd_same); (case hv_ => exact rfl)) | ((with_reducible refine' nw_Endpoint_marked ?ho_ ?hv_ ?_); (case ho_ => first | assumption | exact upd_same); (case hv_ => exact rfl)) | ((with_reducible refine' nw_Endpoint_cut ?ho_ ?hv_ ?_); (case ho_ => first | assumption | exact upd_same); (case hv_ => exact rfl)) | ((with_reducible refine' st_Endpoint_options ?ho_ ?hv_ ?_); (case ho_ => first | assumption | exact upd_same); (case hv_ => exact Nat.le_of_ble_eq_true rfl)) | ((with_reducible refine' st_Endpoint_sender ?ho_ ?hv_ ?_); (case ho_ => first | assumption | exact upd_same); (case hv_ => exact Nat.le_of_ble_eq_true rfl)) | ((with_reducible refine' st_Endpoint_receiver ?ho_ ?hv_ ?_); (case ho_ => first | assumption | exact upd_same); (case hv_ => exact Nat.le_of_ble_eq_true rfl)) | ((with_reducible refine' st_Endpoint_trip ?ho_ ?hv_ ?_); (case ho_ => first | assumption | exact upd_same); (case hv_ => exact Nat.le_of_ble_eq_true rfl)) | ((with_reducible refine' st_Endpoint_control ?ho_ ?hv_ ?_); (case ho_ => first | assumption | exact upd_same); (case hv_ => exact Nat.le_of_ble_eq_true rfl)) | ((with_reducible refine' st_Endpoint_phase ?ho_ ?hv_ ?_); (case ho_ => first | assumption | exact upd_same); (case hv_ => exact Nat.le_of_ble_eq_true rfl)) | ((with_reducible refine' st_Endpoint_cause ?ho_ ?hv_ ?_); (case ho_ => first | assumption | exact upd_same); (case hv_ => exact Nat.le_of_ble_eq_true rfl)) | ((with_reducible refine' st_Endpoint_mss ?ho_ ?hv_ ?_); (case ho_ => first | assumption | exact upd_same); (case hv_ => exact Nat.le_of_ble_eq_true rfl)) | ((with_reducible refine' st_Endpoint_selective ?ho_ ?hv_ ?_); (case ho_ => first | assumption | exact upd_same); (case hv_ => exact Nat.le_of_ble_eq_true rfl)) | ((with_reducible refine' st_Endpoint_alarm ?ho_ ?hv_ ?_); (case ho_ => first | assumption | exact upd_same); (case hv_ => exact Nat.le_of_ble_eq_true rfl)) | ((with_reducible refine' st_Endpoint_since ?ho_ ?hv_ ?_); (case ho_ => first | assumption | exact upd_same); (case hv_ => exact Nat.le_of_ble_eq_true rfl)) | ((with_reducible refine' st_Endpoint_ack_at ?ho_ ?hv_ ?_); (case ho_ => first | assumption | exact upd_same); (case hv_ => exact Nat.le_of_ble_eq_true rfl)) | ((with_reducible refine' st_Endpoint_late ?ho_ ?hv_ ?_); (case ho_ => first | assumption | exact upd_same); (case hv_ => exact Nat.le_of_ble_eq_true rfl)) | ((with_reducible refine' st_Endpoint_asked ?ho_ ?hv_ ?_); (case ho_ => first | assumption | exact upd_same); (case hv_ => exact Nat.le_of_ble_eq_true rfl)) | ((with_reducible refine' st_Endpoint_again ?ho_ ?hv_ ?_); (case ho_ => first | assumption | exact upd_same); (case hv_ => exact Nat.le_of_ble_eq_true rfl)) | ((with_reducible refine' st_Endpoint_probe ?ho_ ?hv_ ?_); (case ho_ => first | assumption | exact upd_same); (case hv_ => exact Nat.le_of_ble_eq_true rfl)) | ((with_reducible refine' st_Endpoint_over ?ho_ ?hv_ ?_); (case ho_ => first | assumption | exact upd_same); (case hv_ => exact Nat.le_of_ble_eq_true rfl)) | ((with_reducible refine' st_Endpoint_rest ?ho_ ?hv_ ?_); (case ho_ => first | assumption | exact upd_same); (case hv_ => exact Nat.le_of_ble_eq_true rfl)) | ((with_reducible refine' st_Endpoint_spent_at ?ho_ ?hv_ ?_); (case ho_ => first | assumption | exact upd_same); (case hv_ => exact Nat.le_of_ble_eq_true rfl)) | ((with_reducible refine' st_Endpoint_spent ?ho_ ?hv_ ?_); (case ho_ => first | assumption | exact upd_same); (case hv_ => exact Nat.le_of_ble_eq_true rfl)) | ((with_reducible refine' st_Endpoint_stamp ?ho_ ?hv_ ?_); (case ho_ => first | assumption | exact upd_same); (case hv_ => exact Nat.le_of_ble_eq_true rfl)) | ((with_reducible refine' st_Endpoint_marked ?ho_ ?hv_ ?_); (case ho_ => first | assumption | exact upd_same); (case hv_ => exact Nat.le_of_ble_eq_true rfl)) | ((with_reducible refine' st_Endpoint_cut ?ho_ ?hv_ ?_); (case ho_ => first | assumption | exact upd_same); (case hv_ => exact Nat.le_of_ble_eq_true rfl)) | ((with_reducible refine' me_Endpoint_abort ?ho_ ?_); (case ho_ => first | assumption | exact upd_same)) | ((with_reducible refine' me_Endpoint_end ?ho_ ?_); (case ho_ => first | assumption | exact upd_same)))
local macro_rules | `(tactic| walk_at "use") => `(tactic| first | ((with_reducible refine' fd_Options_mss ?ho_ ?hv_ ?_); (case ho_ => first | assumption | exact upd_same); (case hv_ => exact rfl)) | ((with_reducible refine' fd_Options_room ?ho_ ?hv_ ?_); (case ho_ => first | assumption | exact upd_same); (case hv_ => exact rfl)) | ((with_reducible refine' fd_Options_life ?ho_ ?hv_ ?_); (case ho_ => first | assumption | exact upd_same); (case hv_ => exact rfl)) | ((with_reducible refine' fd_Options_pace ?ho_ ?hv_ ?_); (case ho_ => first | assumption | exact upd_same); (case hv_ => exact rfl)) | ((with_reducible refine' fd_Options_tries ?ho_ ?hv_ ?_); (case ho_ => first | assumption | exact upd_same); (case hv_ => exact rfl)) | ((with_reducible refine' fd_Options_min_rto ?ho_ ?hv_ ?_); (case ho_ => first | assumption | exact upd_same); (case hv_ => exact rfl)) | ((with_reducible refine' fd_Options_max_rto ?ho_ ?hv_ ?_); (case ho_ => first | assumption | exact upd_same); (case hv_ => exact rfl)) | ((with_reducible refine' fd_Options_ack_delay ?ho_ ?hv_ ?_); (case ho_ => first | assumption | exact upd_same); (case hv_ => exact rfl)) | ((with_reducible refine' fd_Options_keep_alive ?ho_ ?hv_ ?_); (case ho_ => first | assumption | exact upd_same); (case hv_ => exact rfl)) | ((with_reducible refine' fd_Options_nagle ?ho_ ?hv_ ?_); (case ho_ => first | assumption | exact upd_same); (case hv_ => exact rfl)) | ((with_reducible refine' fd_Options_control ?ho_ ?hv_ ?_); (case ho_ => first | assumption | exact upd_same); (case hv_ => exact rfl)) | ((with_reducible refine' nw_Options_mss ?ho_ ?hv_ ?_); (case ho_ => first | assumption | exact upd_same); (case hv_ => exact rfl)) | ((with_reducible refine' nw_Options_room ?ho_ ?hv_ ?_); (case ho_ => first | assumption | exact upd_same); (case hv_ => exact rfl)) | ((with_reducible refine' nw_Options_life ?ho_ ?hv_ ?_); (case ho_ => first | assumption | exact upd_same); (case hv_ => exact rfl)) | ((with_reducible refine' nw_Options_pace ?ho_ ?hv_ ?_); (case ho_ => first | assumption | exact upd_same); (case hv_ => exact rfl)) | ((with_reducible refine' nw_Options_tries ?ho_ ?hv_ ?_); (case ho_ => first | assumption | exact upd_same); (case hv_ => exact rfl)) | ((with_reducible refine' nw_Options_min_rto ?ho_ ?hv_ ?_); (case ho_ => first | assumption | exact upd_same); (case hv_ => exact rfl)) | ((with_reducible refine' nw_Options_max_rto ?ho_ ?hv_ ?_); (case ho_ => first | assumption | exact upd_same); (case hv_ => exact rfl)) | ((with_reducible refine' nw_Options_ack_delay ?ho_ ?hv_ ?_); (case ho_ => first | assumption | exact upd_same); (case hv_ => exact rfl)) | ((with_reducible refine' nw_Options_keep_alive ?ho_ ?hv_ ?_); (case ho_ => first | assumption | exact upd_same); (case hv_ => exact rfl)) | ((with_reducible refine' nw_Options_nagle ?ho_ ?hv_ ?_); (case ho_ => first | assumption | exact upd_same); (case hv_ => exact rfl)) | ((with_reducible refine' nw_Options_control ?ho_ ?hv_ ?_); (case ho_ => first | assumption | exact upd_same); (case hv_ => exact rfl)) | ((with_reducible refine' st_Options_mss ?ho_ ?hv_ ?_); (case ho_ => first | assumption | exact upd_same); (case hv_ => exact Nat.le_of_ble_eq_true rfl)) | ((with_reducible refine' st_Options_room ?ho_ ?hv_ ?_); (case ho_ => first | assumption | exact upd_same); (case hv_ => exact Nat.le_of_ble_eq_true rfl)) | ((with_reducible refine' st_Options_life ?ho_ ?hv_ ?_); (case ho_ => first | assumption | exact upd_same); (case hv_ => exact Nat.le_of_ble_eq_true rfl)) | ((with_reducible refine' st_Options_pace ?ho_ ?hv_ ?_); (case ho_ => first | assumption | exact upd_same); (case hv_ => exact Nat.le_of_ble_eq_true rfl)) | ((with_reducible refine' st_Options_tries ?ho_ ?hv_ ?_); (case ho_ => first | assumption | exact upd_same); (case hv_ => exact Nat.le_of_ble_eq_true rfl)) | ((with_reducible refine' st_Options_min_rto ?ho_ ?hv_ ?_); (case ho_ => first | assumption | exact upd_same); (case hv_ => exact Nat.le_of_ble_eq_true rfl)) | ((with_reducible refine' st_Options_max_rto ?ho_ ?hv_ ?_); (case ho_ => first | assumption | exact upd_same); (case hv_ => exact Nat.le_of_ble_eq_true rfl)) | ((with_reducible refine' st_Options_ack_delay ?ho_ ?hv_ ?_); (case ho_ => first | assumption | exact upd_same); (case hv_ => exact Nat.le_of_ble_eq_true rfl)) | ((with_reducible refine' st_Options_keep_alive ?ho_ ?hv_ ?_); (case ho_ => first | assumption | exact upd_same); (case hv_ => exact Nat.le_of_ble_eq_true rfl)) | ((with_reducible refine' st_Options_nagle ?ho_ ?hv_ ?_); (case ho_ => first | assumption | exact upd_same); (case hv_ => exact Nat.le_of_ble_eq_true rfl)) | ((with_reducible refine' st_Options_control ?ho_ ?hv_ ?_); (case ho_ => first | assumption | exact upd_same); (case hv_ => exact Nat.le_of_ble_eq_true rfl)) | ((with_reducible refine' me_Options_fork ?ho_ ?_); (case ho_ => first | assumption | exact upd_same)) | ((with_reducible refine' me_Options_wrong_names ?ho_ ?_); (case ho_ => first | assumption | exact upd_same)))
end My
namespace My
open PySem PySem.Spec L2
local macro_rules | `(tactic| walk_at "side") => `(tactic| first | assumption | decide | omega | exact ⟨by decide, by decide⟩ | exact ⟨by decide, by decide, by decide⟩ | decide +kernel | exact cdivW (by decide +kernel) (by decide +kernel) | exact Or.inl ⟨by omega, by omega⟩ | exact Or.inr ⟨by omega, by omega⟩ | (simp only [List.length_map, List.length_cons, List.length_nil, List.length_append]; omega))
local macro_rules | `(tactic| walk_at "fact") => `(tactic| first | assumption | omega | with_reducible rfl)
local macro_rules | `(tactic| walk_at "use") => `(tactic| fail "use")
local macro_rules | `(tactic| walk_at "go1") => `(tactic| with_reducible first | refine g_seq ?_ | refine g_asg ?_ | refine g_ret ?_ | refine g_ifS ?_ | refine g_drop ?_ | refine g_star ?_ | refine g_nx ?_ | refine g_rt ?_ | refine g_bkE ?_ | refine g_ctE ?_ | refine g_next ?_ | refine g_retN ?_ | refine g_brk ?_ | refine g_ct ?_ | refine g_c ?_ | refine g_op ?_ | refine g_un ?_ | refine g_rI0 ?_ | refine g_rU ?_ | refine g_rEqI ?_ | refine g_rNeI ?_ | refine g_isN ?_ | refine g_rIsB ?_ | refine g_rNotB ?_ | refine g_test ?_ | refine g_B ?_ | refine g_bl ?_ | refine g_and ?_ | refine g_or ?_ | refine g_not ?_ | refine g_andV ?_ | refine g_orV ?_ | refine g_notV ?_ | refine g_if ?_ | refine g_chain ?_ | refine g_yes ?_ | refine g_lc ?_ | refine g_revR ?_ | refine g_rng1 ?_ | refine g_iList ?_ | refine g_nil ?_ | refine g_cons ?_ | refine g_tup ?_ | refine g_lst ?_ | refine g_call ?_ | refine g_CB ?_ | refine g_sl ?_ | refine g_noPart ?_ | refine g_part ?_ | refine g_intE ?_ | refine g_ref ?_ | refine g_fld ?_ | refine g_sfld ?_ | refine g_meth ?_ | refine g_make ?_ | refine g_prop ?_  | refine g_ipI ?_ | refine g_int1 ?_ | refine g_int1B ?_ | refine g_one ?_ | refine g_two ?_ | refine g_isiI ?_ | refine g_isiIB ?_ | refine g_isiB ?_ | refine g_BM ?_ | refine g_BM0 ?_ | refine g_sub ?_)
local macro_rules | `(tactic| walk_at "go") => `(tactic| repeat (first | walk_at "go1" | ((with_reducible refine' g_nameE ?sd_ ?_); case sd_ => dsimp only [List.set_cons_succ, List.set_cons_zero]) | ((with_reducible refine' g_var ?sd_ ?_); case sd_ => exact rfl) | ((with_reducible refine' g_aug ?sd_ ?_); case sd_ => exact rfl) | ((with_reducible refine' g_rI ?sd_ ?_); case sd_ => walk_at "side") | ((with_reducible refine' g_dT ?sd_ ?_); case sd_ => walk_at "fact") | ((with_reducible refine' g_dF ?sd_ ?_); case sd_ => walk_at "fact") | ((with_reducible refine' g_nT ?sd_ ?_); case sd_ => walk_at "fact") | ((with_reducible refine' g_nF ?sd_ ?_); case sd_ => walk_at "fact") | (with_reducible refine g_iT rfl ?_) | (with_reducible refine g_iF rfl ?_) | walk_at "use"))
local macro_rules | `(tactic| walk_at "nw") => `(tactic| (generalize zq : upd _ _ _ = Hq; have sq : Same _ Hq := (by rw [← zq]; exact same_upd (by assumption)); have kq := (congrFun zq _).symm.trans upd_same; clear zq))
local macro_rules | `(tactic| walk_at "bt") => `(tactic| (generalize zq : upd _ _ _ = Hq; have bq : But _ _ Hq := (by rw [← zq]; exact But.refl.upd); have kq := (congrFun zq _).symm.trans upd_same; clear zq))
local macro_rules | `(tactic| walk_at "use") => `(tactic| first | ((with_reducible refine' fd_Segment_source ?ho_ ?hv_ ?_); (case ho_ => first | assumption | exact upd_same); (case hv_ => exact rfl)) | ((with_reducible refine' fd_Segment_target ?ho_ ?hv_ ?_); (case ho_ => first | assumption | exact upd_same); (case hv_ => exact rfl)) | ((with_reducible refine' fd_Segment_seq ?ho_ ?hv_ ?_); (case ho_ => first | assumption | exact upd_same); (case hv_ => exact rfl)) | ((with_reducible refine' fd_Segment_count ?ho_ ?hv_ ?_); (case ho_ => first | assumption | exact upd_same); (case hv_ => exact rfl)) | ((with_reducible refine' fd_Segment_echo ?ho_ ?hv_ ?_); (case ho_ => first | assumption | exact upd_same); (case hv_ => exact rfl)) | ((with_reducible refine' fd_Segment_ack ?ho_ ?hv_ ?_); (case ho_ => first | assumption | exact upd_same); (case hv_ => exact rfl)) | ((with_reducible refine' fd_Segment_syn ?ho_ ?hv_ ?_); (case ho_ => first | assumption | exact upd_same); (case hv_ => exact rfl)) | ((with_reducible refine' fd_Segment_fin ?ho_ ?hv_ ?_); (case ho_ => first | assumption | exact upd_same); (case hv_ => exact rfl)) | ((with_reducible refine' fd_Segment_reset ?ho_ ?hv_ ?_); (case ho_ => first | assumption | exact upd_same); (case hv_ => exact rfl)) | ((with_reducible refine' fd_Segment_marked ?ho_ ?hv_ ?_); (case ho_ => first | assumption | exact upd_same); (case hv_ => exact rfl)) | ((with_reducible refine' fd_Segment_cut ?ho_ ?hv_ ?_); (case ho_ => first | assumption | exact upd_same); (case hv_ => exact rfl)) | ((with_reducible refine' fd_Segment_window ?ho_ ?hv_ ?_); (case ho_ => first | assumption | exact upd_same); (case hv_ => exact rfl)) | ((with_reducible refine' fd_Segment_mss ?ho_ ?hv_ ?_); (case ho_ => first | assumption | exact upd_same); (case hv_ => exact rfl)) | ((with_reducible refine' fd_Segment_scale ?ho_ ?hv_ ?_); (case ho_ => first | assumption | exact upd_same); (case hv_ => exact rfl)) | ((with_reducible refine' fd_Segment_ranges_known ?ho_ ?hv_ ?_); (case ho_ => first | assumption | exact upd_same); (case hv_ => exact rfl)) | ((with_reducible refine' fd_Segment_ranges ?ho_ ?hv_ ?_); (case ho_ => first | assumption | exact upd_same); (case hv_ => exact rfl)) | ((with_reducible refine' fd_Segment_stamp ?ho_ ?hv_ ?_); (case ho_ => first | assumption | exact upd_same); (case hv_ => exact rfl)) | ((with_reducible refine' fd_Segment_data ?ho_ ?hv_ ?_); (case ho_ => first | assumption | exact upd_same); (case hv_ => exact rfl)) | ((with_reducible refine' nw_Segment_source ?ho_ ?hv_ ?_); (case ho_ => first | assumption | exact upd_same); (case hv_ => exact rfl)) | ((with_reducible refine' nw_Segment_target ?ho_ ?hv_ ?_); (case ho_ => first | assumption | exact upd_same); (case hv_ => exact rfl)) | ((with_reducible refine' nw_Segment_seq ?ho_ ?hv_ ?_); (case ho_ => first | assumption | exact upd_same); (case hv_ => exact rfl)) | ((with_reducible refine' nw_Segment_count ?ho_ ?hv_ ?_); (case ho_ => first | assumption | exact upd_same); (case hv_ => exact rfl)) | ((with_reducible refine' nw_Segment_echo ?ho_ ?hv_ ?_); (case ho_ => first | assumption | exact upd_same); (case hv_ => exact rfl)) | ((with_reducible refine' nw_Segment_ack ?ho_ ?hv_ ?_); (case ho_ => first | assumption | exact upd_same); (case hv_ => exact rfl)) | ((with_reducible refine' nw_Segment_syn ?ho_ ?hv_ ?_); (case ho_ => first | assumption | exact upd_same); (case hv_ => exact rfl)) | ((with_reducible refine' nw_Segment_fin ?ho_ ?hv_ ?_); (case ho_ => first | assumption | exact upd_same); (case hv_ => exact rfl)) | ((with_reducible refine' nw_Segment_reset ?ho_ ?hv_ ?_); (case ho_ => first | assumption | exact upd_same); (case hv_ => exact rfl)) | ((with_reducible refine' nw_Segment_marked ?ho_ ?hv_ ?_); (case ho_ => first | assumption | exact upd_same); (case hv_ => exact rfl)) | ((with_reducible refine' nw_Segment_cut ?ho_ ?hv_ ?_); (case ho_ => first | assumption | exact upd_same); (case hv_ => exact rfl)) | ((with_reducible refine' nw_Segment_window ?ho_ ?hv_ ?_); (case ho_ => first | assumption | exact upd_same); (case hv_ => exact rfl)) | ((with_reducible refine' nw_Segment_mss ?ho_ ?hv_ ?_); (case ho_ => first | assumption | exact upd_same); (case hv_ => exact rfl)) | ((with_reducible refine' nw_Segment_scale ?ho_ ?hv_ ?_); (case ho_ => first | assumption | exact upd_same); (case hv_ => exact rfl)) | ((with_reducible refine' nw_Segment_ranges_known ?ho_ ?hv_ ?_); (case ho_ => first | assumption | exact upd_same); (case hv_ => exact rfl)) | ((with_reducible refine' nw_Segment_ranges ?ho_ ?hv_ ?_); (case ho_ => first | assumption | exact upd_same); (case hv_ => exact rfl)) | ((with_reducible refine' nw_Segment_stamp ?ho_ ?hv_ ?_); (case ho_ => first | assumption | exact upd_same); (case hv_ => exact rfl)) | ((with_reducible refine' nw_Segment_data ?ho_ ?hv_ ?_); (case ho_ => first | assumption | exact upd_same); (case hv_ => exact rfl)) | ((with_reducible refine' st_Segment_source ?ho_ ?hv_ ?_); (case ho_ => first | assumption | exact upd_same); (case hv_ => exact Nat.le_of_ble_eq_true rfl)) | ((with_reducible refine' st_Segment_target ?ho_ ?hv_ ?_); (case ho_ => first | assumption | exact upd_same); (case hv_ => exact Nat.le_of_ble_eq_true rfl)) | ((with_reducible refine' st_Segment_seq ?ho_ ?hv_ ?_); (case ho_ => first | assumption | exact upd_same); (case hv_ => exact Nat.le_of_ble_eq_true rfl)) | ((with_reducible refine' st_Segment_count ?ho_ ?hv_ ?_); (case ho_ => first | assumption | exact upd_same); (case hv_ => exact Nat.le_of_ble_eq_true rfl)) | ((with_reducible refine' st_Segment_echo ?ho_ ?hv_ ?_); (case ho_ => first | assumption | exact upd_same); (case hv_ => exact Nat.le_of_ble_eq_true rfl)) | ((with_reducible refine' st_Segment_ack ?ho_ ?hv_ ?_); (case ho_ => first | assumption | exact upd_same); (case hv_ => exact Nat.le_of_ble_eq_true rfl)) | ((with_reducible refine' st_Segment_syn ?ho_ ?hv_ ?_); (case ho_ => first | assumption | exact upd_same); (case hv_ => exact Nat.le_of_ble_eq_true rfl)) | ((with_reducible refine' st_Segment_fin ?ho_ ?hv_ ?_); (case ho_ => first | assumption | exact upd_same); (case hv_ => exact Nat.le_of_ble_eq_true rfl)) | ((with_reducible refine' st_Segment_reset ?ho_ ?hv_ ?_); (case ho_ => first | assumption | exact upd_same); (case hv_ => exact Nat.le_of_ble_eq_true rfl)) | ((with_reducible refine' st_Segment_marked ?ho_ ?hv_ ?_); (case ho_ => first | assumption | exact upd_same); (case hv_ => exact Nat.le_of_ble_eq_true rfl)) | ((with_reducible refine' st_Segment_cut ?ho_ ?hv_ ?_); (case ho_ => first | assumption | exact upd_same); (case hv_ => exact Nat.le_of_ble_eq_true rfl)) | ((with_reducible refine' st_Segment_window ?ho_ ?hv_ ?_); (case ho_ => first | assumption | exact upd_same); (case hv_ => exact Nat.le_of_ble_eq_true rfl)) | ((with_reducible refine' st_Segment_mss ?ho_ ?hv_ ?_); (case ho_ => first | assumption | exact upd_same); (case hv_ => exact Nat.le_of_ble_eq_true rfl)) | ((with_reducible refine' st_Segment_scale ?ho_ ?hv_ ?_); (case ho_ => first | assumption | exact upd_same); (case hv_ => exact Nat.le_of_ble_eq_true rfl)) | ((with_reducible refine' st_Segment_ranges_known ?ho_ ?hv_ ?_); (case ho_ => first | assumption | exact upd_same); (case hv_ => exact Nat.le_of_ble_eq_true rfl)) | ((with_reducible refine' st_Segment_ranges ?ho_ ?hv_ ?_); (case ho_ => first | assumption | exact upd_same); (case hv_ => exact Nat.le_of_ble_eq_true rfl)) | ((with_reducible refine' st_Segment_stamp ?ho_ ?hv_ ?_); (case ho_ => first | assumption | exact upd_same); (case hv_ => exact Nat.le_of_ble_eq_true rfl)) | ((with_reducible refine' st_Segment_data ?ho_ ?hv_ ?_); (case ho_ => first | assumption | exact upd_same); (case hv_ => exact Nat.le_of_ble_eq_true rfl)))
local macro_rules | `(tactic| walk_at "use") => `(tactic| first | ((with_reducible refine' fd_Socket_count ?ho_ ?hv_ ?_); (case ho_ => first | assumption | exact upd_same); (case hv_ => exact rfl)) | ((with_reducible refine' fd_Socket_port ?ho_ ?hv_ ?_); (case ho_ => first | assumption | exact upd_same); (case hv_ => exact rfl)) | ((with_reducible refine' fd_Socket_peer ?ho_ ?hv_ ?_); (case ho_ => first | assumption | exact upd_same); (case hv_ => exact rfl)) | ((with_reducible refine' fd_Socket_peer_port ?ho_ ?hv_ ?_); (case ho_ => first | assumption | exact upd_same); (case hv_ => exact rfl)) | ((with_reducible refine' fd_Socket_peer_count ?ho_ ?hv_ ?_); (case ho_ => first | assumption | exact upd_same); (case hv_ => exact rfl)) | ((with_reducible refine' fd_Socket_peer_first ?ho_ ?hv_ ?_); (case ho_ => first | assumption | exact upd_same); (case hv_ => exact rfl)) | ((with_reducible refine' fd_Socket_peer_shift ?ho_ ?hv_ ?_); (case ho_ => first | assumption | exact upd_same); (case hv_ => exact rfl)) | ((with_reducible refine' fd_Socket_listened ?ho_ ?hv_ ?_); (case ho_ => first | assumption | exact upd_same); (case hv_ => exact rfl)) | ((with_reducible refine' fd_Socket_accepted ?ho_ ?hv_ ?_); (case ho_ => first | assumption | exact upd_same); (case hv_ => exact rfl)) | ((with_reducible refine' fd_Socket_endpoint ?ho_ ?hv_ ?_); (case ho_ => first | assumption | exact upd_same); (case hv_ => exact rfl)) | ((with_reducible refine' nw_Socket_count ?ho_ ?hv_ ?_); (case ho_ => first | assumption | exact upd_same); (case hv_ => exact rfl)) | ((with_reducible refine' nw_Socket_port ?ho_ ?hv_ ?_); (case ho_ => first | assumption | exact upd_same); (case hv_ => exact rfl)) | ((with_reducible refine' nw_Socket_peer ?ho_ ?hv_ ?_); (case ho_ => first | assumption | exact upd_same); (case hv_ => exact rfl)) | ((with_reducible refine' nw_Socket_peer_port ?ho_ ?hv_ ?_); (case ho_ => first | assumption | exact upd_same); (case hv_ => exact rfl)) | ((with_reducible refine' nw_Socket_peer_count ?ho_ ?hv_ ?_); (case ho_ => first | assumption | exact upd_same); (case hv_ => exact rfl)) | ((with_reducible refine' nw_Socket_peer_first ?ho_ ?hv_ ?_); (case ho_ => first | assumption | exact upd_same); (case hv_ => exact rfl)) | ((with_reducible refine' nw_Socket_peer_shift ?ho_ ?hv_ ?_); (case ho_ => first | assumption | exact upd_same); (case hv_ => exact rfl)) | ((with_reducible refine' nw_Socket_listened ?ho_ ?hv_ ?_); (case ho_ => first | assumption | exact upd_same); (case hv_ => exact rfl)) | ((with_reducible refine' nw_Socket_accepted ?ho_ ?hv_ ?_); (case ho_ => first | assumption | exact upd_same); (case hv_ => exact rfl)) | ((with_reducible refine' nw_Socket_endpoint ?ho_ ?hv_ ?_); (case ho_ => first | assumption | exact upd_same); (case hv_ => exact rfl)) | ((with_reducible refine' st_Socket_count ?ho_ ?hv_ ?_); (case ho_ => first | assumption | exact upd_same); (case hv_ => exact Nat.le_of_ble_eq_true rfl)) | ((with_reducible refine' st_Socket_port ?ho_ ?hv_ ?_); (case ho_ => first | assumption | exact upd_same); (case hv_ => exact Nat.le_of_ble_eq_true rfl)) | ((with_reducible refine' st_Socket_peer ?ho_ ?hv_ ?_); (case ho_ => first | assumption | exact upd_same); (case hv_ => exact Nat.le_of_ble_eq_true rfl)) | ((with_reducible refine' st_Socket_peer_port ?ho_ ?hv_ ?_); (case ho_ => first | assumption | exact upd_same); (case hv_ => exact Nat.le_of_ble_eq_true rfl)) | ((with_reducible refine' st_Socket_peer_count ?ho_ ?hv_ ?_); (case ho_ => first | assumption | exact upd_same); (case hv_ => exact Nat.le_of_ble_eq_true rfl)) | ((with_reducible refine' st_Socket_peer_first ?ho_ ?hv_ ?_); (case ho_ => first | assumption | exact upd_same); (case hv_ => exact Nat.le_of_ble_eq_true rfl)) | ((with_reducible refine' st_Socket_peer_shift ?ho_ ?hv_ ?_); (case ho_ => first | assumption | exact upd_same); (case hv_ => exact Nat.le_of_ble_eq_true rfl)) | ((with_reducible refine' st_Socket_listened ?ho_ ?hv_ ?_); (case ho_ => first | assumption | exact upd_same); (case hv_ => exact Nat.le_of_ble_eq_true rfl)) | ((with_reducible refine' st_Socket_accepted ?ho_ ?hv_ ?_); (case ho_ => first | assumption | exact upd_same); (case hv_ => exact Nat.le_of_ble_eq_true rfl)) | ((with_reducible refine' st_Socket_endpoint ?ho_ ?hv_ ?_); (case ho_ => first | assumption | exact upd_same); (case hv_ => exact Nat.le_of_ble_eq_true rfl)) | ((with_reducible refine' me_Socket_is_for ?ho_ ?_); (case ho_ => first | assumption | exact upd_same)) | ((with_reducible refine' me_Socket_learn ?ho_ ?_); (case ho_ => first | assumption | exact upd_same)))
local macro_rules | `(tactic| walk_at "use") => `(tactic| first | ((with_reducible refine' fd_Reno_cwnd ?ho_ ?hv_ ?_); (case ho_ => first | assumption | exact upd_same); (case hv_ => exact rfl)) | ((with_reducible refine' fd_Reno_thresh ?ho_ ?hv_ ?_); (case ho_ => first | assumption | exact upd_same); (case hv_ => exact rfl)) | ((with_reducible refine' fd_Reno_peak ?ho_ ?hv_ ?_); (case ho_ => first | assumption | exact upd_same); (case hv_ => exact rfl)) | ((with_reducible refine' fd_Reno_prior ?ho_ ?hv_ ?_); (case ho_ => first | assumption | exact upd_same); (case hv_ => exact rfl)) | ((with_reducible refine' fd_Reno_calm ?ho_ ?hv_ ?_); (case ho_ => first | assumption | exact upd_same); (case hv_ => exact rfl)) | ((with_reducible refine' fd_Reno_credit ?ho_ ?hv_ ?_); (case ho_ => first | assumption | exact upd_same); (case hv_ => exact rfl)) | ((with_reducible refine' nw_Reno_cwnd ?ho_ ?hv_ ?_); (case ho_ => first | assumption | exact upd_same); (case hv_ => exact rfl)) | ((with_reducible refine' nw_Reno_thresh ?ho_ ?hv_ ?_); (case ho_ => first | assumption | exact upd_same); (case hv_ => exact rfl)) | ((with_reducible refine' nw_Reno_peak ?ho_ ?hv_ ?_); (case ho_ => first | assumption | exact upd_same); (case hv_ => exact rfl)) | ((with_reducible refine' nw_Reno_prior ?ho_ ?hv_ ?_); (case ho_ => first | assumption | exact upd_same); (case hv_ => exact rfl)) | ((with_reducible refine' nw_Reno_calm ?ho_ ?hv_ ?_); (case ho_ => first | assumption | exact upd_same); (case hv_ => exact rfl)) | ((with_reducible refine' nw_Reno_credit ?ho_ ?hv_ ?_); (case ho_ => first | assumption | exact upd_same); (case hv_ => exact rfl)) | ((with_reducible refine' st_Reno_cwnd ?ho_ ?hv_ ?_); (case ho_ => first | assumption | exact upd_same); (case hv_ => exact Nat.le_of_ble_eq_true rfl)) | ((with_reducible refine' st_Reno_thresh ?ho_ ?hv_ ?_); (case ho_ => first | assumption | exact upd_same); (case hv_ => exact Nat.le_of_ble_eq_true rfl)) | ((with_reducible refine' st_Reno_peak ?ho_ ?hv_ ?_); (case ho_ => first | assumption | exact upd_same); (case hv_ => exact Nat.le_of_ble_eq_true rfl)) | ((with_reducible refine' st_Reno_prior ?ho_ ?hv_ ?_); (case ho_ => first | assumption | exact upd_same); (case hv_ => exact Nat.le_of_ble_eq_true rfl)) | ((with_reducible refine' st_Reno_calm ?ho_ ?hv_ ?_); (case ho_ => first | assumption | exact upd_same); (case hv_ => exact Nat.le_of_ble_eq_true rfl)) | ((with_reducible refine' st_Reno_credit ?ho_ ?hv_ ?_); (case ho_ => first | assumption | exact upd_same); (case hv_ => exact Nat.le_of_ble_eq_true rfl)) | ((with_reducible refine' me_Reno_bounded ?ho_ ?_); (case ho_ => first | assumption | exact upd_same)))
local macro_rules | `(tactic| walk_at "use") => `(tactic| first | ((with_reducible refine' fd_RoundTrip_least ?ho_ ?hv_ ?_); (case ho_ => first | assumption | exact upd_same); (case hv_ => exact rfl)) | ((with_reducible refine' fd_RoundTrip_most ?ho_ ?hv_ ?_); (case ho_ => first | assumption | exact upd_same); (case hv_ => exact rfl)) | ((with_reducible refine' fd_RoundTrip_srtt ?ho_ ?hv_ ?_); (case ho_ => first | assumption | exact upd_same); (case hv_ => exact rfl)) | ((with_reducible refine' fd_RoundTrip_variance ?ho_ ?hv_ ?_); (case ho_ => first | assumption | exact upd_same); (case hv_ => exact rfl)) | ((with_reducible refine' fd_RoundTrip_rto ?ho_ ?hv_ ?_); (case ho_ => first | assumption | exact upd_same); (case hv_ => exact rfl)) | ((with_reducible refine' fd_RoundTrip_measured ?ho_ ?hv_ ?_); (case ho_ => first | assumption | exact upd_same); (case hv_ => exact rfl)) | ((with_reducible refine' nw_RoundTrip_least ?ho_ ?hv_ ?_); (case ho_ => first | assumption | exact upd_same); (case hv_ => exact rfl)) | ((with_reducible refine' nw_RoundTrip_most ?ho_ ?hv_ ?_); (case ho_ => first | assumption | exact upd_same); (case hv_ => exact rfl)) | ((with_reducible refine' nw_RoundTrip_srtt ?ho_ ?hv_ ?_); (case ho_ => first | assumption | exact upd_same); (case hv_ => exact rfl)) | ((with_reducible refine' nw_RoundTrip_variance ?ho_ ?hv_ ?_); (case ho_ => first | assumption | exact upd_same); (case hv_ => exact rfl)) | ((with_reducible refine' nw_RoundTrip_rto ?ho_ ?hv_ ?_); (case ho_ => first | assumption | exact upd_same); (case hv_ => exact rfl)) | ((with_reducible refine' nw_RoundTrip_measured ?ho_ ?hv_ ?_); (case ho_ => first | assumption | exact upd_same); (case hv_ => exact rfl)) | ((with_reducible refine' st_RoundTrip_least ?ho_ ?hv_ ?_); (case ho_ => first | assumption | exact upd_same); (case hv_ => exact Nat.le_of_ble_eq_true rfl)) | ((with_reducible refine' st_RoundTrip_most ?ho_ ?hv_ ?_); (case ho_ => first | assumption | exact upd_same); (case hv_ => exact Nat.le_of_ble_eq_true rfl)) | ((with_reducible refine' st_RoundTrip_srtt ?ho_ ?hv_ ?_); (case ho_ => first | assumption | exact upd_same); (case hv_ => exact Nat.le_of_ble_eq_true rfl)) | ((with_reducible refine' st_RoundTrip_variance ?ho_ ?hv_ ?_); (case ho_ => first | assumption | exact upd_same); (case hv_ => exact Nat.le_of_ble_eq_true rfl)) | ((with_reducible refine' st_RoundTrip_rto ?ho_ ?hv_ ?_); (case ho_ => first | assumption | exact upd_same); (case hv_ => exact Nat.le_of_ble_eq_true rfl)) | ((with_reducible refine' st_RoundTrip_measured ?ho_ ?hv_ ?_); (case ho_ => first | assumption | exact upd_same); (case hv_ => exact Nat.le_of_ble_eq_true rfl)) | ((with_reducible refine' me_RoundTrip_within_bounds ?ho_ ?_); (case ho_ => first | assumption | exact upd_same)))
local macro_rules | `(tactic| walk_at "use") => `(tactic| first | ((with_reducible refine' fd_OffsetSet__ranges ?ho_ ?hv_ ?_); (case ho_ => first | assumption | exact upd_same); (case hv_ => exact rfl)) | ((with_reducible refine' nw_OffsetSet__ranges ?ho_ ?hv_ ?_); (case ho_ => first | assumption | exact upd_same); (case hv_ => exact rfl)) | ((with_reducible refine' st_OffsetSet__ranges ?ho_ ?hv_ ?_); (case ho_ => first | assumption | exact upd_same); (case hv_ => exact Nat.le_of_ble_eq_true rfl)))
local macro_rules | `(tactic| walk_at "use") => `(tactic| first | ((with_reducible refine' fd_Receiver_room ?ho_ ?hv_ ?_); (case ho_ => first | assumption | exact upd_same); (case hv_ => exact rfl)) | ((with_reducible refine' fd_Receiver_nxt ?ho_ ?hv_ ?_); (case ho_ => first | assumption | exact upd_same); (case hv_ => exact rfl)) | ((with_reducible refine' fd_Receiver_edge ?ho_ ?hv_ ?_); (case ho_ => first | assumption | exact upd_same); (case hv_ => exact rfl)) | ((with_reducible refine' fd_Receiver_end ?ho_ ?hv_ ?_); (case ho_ => first | assumption | exact upd_same); (case hv_ => exact rfl)) | ((with_reducible refine' fd_Receiver_recent ?ho_ ?hv_ ?_); (case ho_ => first | assumption | exact upd_same); (case hv_ => exact rfl)) | ((with_reducible refine' fd_Receiver__ready ?ho_ ?hv_ ?_); (case ho_ => first | assumption | exact upd_same); (case hv_ => exact rfl)) | ((with_reducible refine' fd_Receiver__held ?ho_ ?hv_ ?_); (case ho_ => first | assumption | exact upd_same); (case hv_ => exact rfl)) | ((with_reducible refine' fd_Receiver__held_offsets ?ho_ ?hv_ ?_); (case ho_ => first | assumption | exact upd_same); (case hv_ => exact rfl)) | ((with_reducible refine' nw_Receiver_room ?ho_ ?hv_ ?_); (case ho_ => first | assumption | exact upd_same); (case hv_ => exact rfl)) | ((with_reducible refine' nw_Receiver_nxt ?ho_ ?hv_ ?_); (case ho_ => first | assumption | exact upd_same); (case hv_ => exact rfl)) | ((with_reducible refine' nw_Receiver_edge ?ho_ ?hv_ ?_); (case ho_ => first | assumption | exact upd_same); (case hv_ => exact rfl)) | ((with_reducible refine' nw_Receiver_end ?ho_ ?hv_ ?_); (case ho_ => first | assumption | exact upd_same); (case hv_ => exact rfl)) | ((with_reducible refine' nw_Receiver_recent ?ho_ ?hv_ ?_); (case ho_ => first | assumption | exact upd_same); (case hv_ => exact rfl)) | ((with_reducible refine' nw_Receiver__ready ?ho_ ?hv_ ?_); (case ho_ => first | assumption | exact upd_same); (case hv_ => exact rfl)) | ((with_reducible refine' nw_Receiver__held ?ho_ ?hv_ ?_); (case ho_ => first | assumption | exact upd_same); (case hv_ => exact rfl)) | ((with_reducible refine' nw_Receiver__held_offsets ?ho_ ?hv_ ?_); (case ho_ => first | assumption | exact upd_same); (case hv_ => exact rfl)) | ((with_reducible refine' st_Receiver_room ?ho_ ?hv_ ?_); (case ho_ => first | assumption | exact upd_same); (case hv_ => exact Nat.le_of_ble_eq_true rfl)) | ((with_reducible refine' st_Receiver_nxt ?ho_ ?hv_ ?_); (case ho_ => first | assumption | exact upd_same); (case hv_ => exact Nat.le_of_ble_eq_true rfl)) | ((with_reducible refine' st_Receiver_edge ?ho_ ?hv_ ?_); (case ho_ => first | assumption | exact upd_same); (case hv_ => exact Nat.le_of_ble_eq_true rfl)) | ((with_reducible refine' st_Receiver_end ?ho_ ?hv_ ?_); (case ho_ => first | assumption | exact upd_same); (case hv_ => exact Nat.le_of_ble_eq_true rfl)) | ((with_reducible refine' st_Receiver_recent ?ho_ ?hv_ ?_); (case ho_ => first | assumption | exact upd_same); (case hv_ => exact Nat.le_of_ble_eq_true rfl)) | ((with_reducible refine' st_Receiver__ready ?ho_ ?hv_ ?_); (case ho_ => first | assumption | exact upd_same); (case hv_ => exact Nat.le_of_ble_eq_true rfl)) | ((with_reducible refine' st_Receiver__held ?ho_ ?hv_ ?_); (case ho_ => first | assumption | exact upd_same); (case hv_ => exact Nat.le_of_ble_eq_true rfl)) | ((with_reducible refine' st_Receiver__held_offsets ?ho_ ?hv_ ?_); (case ho_ => first | assumption | exact upd_same); (case hv_ => exact Nat.le_of_ble_eq_true rfl)))
local macro_rules | `(tactic| walk_at "use") => `(tactic| first | ((with_reducible refine' fd_Sender_room ?ho_ ?hv_ ?_); (case ho_ => first | assumption | exact upd_same); (case hv_ => exact rfl)) | ((with_reducible refine' fd_Sender_una ?ho_ ?hv_ ?_); (case ho_ => first | assumption | exact upd_same); (case hv_ => exact rfl)) | ((with_reducible refine' fd_Sender_nxt ?ho_ ?hv_ ?_); (case ho_ => first | assumption | exact upd_same); (case hv_ => exact rfl)) | ((with_reducible refine' fd_Sender_written ?ho_ ?hv_ ?_); (case ho_ => first | assumption | exact upd_same); (case hv_ => exact rfl)) | ((with_reducible refine' fd_Sender_finished ?ho_ ?hv_ ?_); (case ho_ => first | assumption | exact upd_same); (case hv_ => exact rfl)) | ((with_reducible refine' fd_Sender_edge ?ho_ ?hv_ ?_); (case ho_ => first | assumption | exact upd_same); (case hv_ => exact rfl)) | ((with_reducible refine' fd_Sender_recovery ?ho_ ?hv_ ?_); (case ho_ => first | assumption | exact upd_same); (case hv_ => exact rfl)) | ((with_reducible refine' fd_Sender_resend ?ho_ ?hv_ ?_); (case ho_ => first | assumption | exact upd_same); (case hv_ => exact rfl)) | ((with_reducible refine' fd_Sender_lost ?ho_ ?hv_ ?_); (case ho_ => first | assumption | exact upd_same); (case hv_ => exact rfl)) | ((with_reducible refine' fd_Sender_repeated ?ho_ ?hv_ ?_); (case ho_ => first | assumption | exact upd_same); (case hv_ => exact rfl)) | ((with_reducible refine' fd_Sender__queue ?ho_ ?hv_ ?_); (case ho_ => first | assumption | exact upd_same); (case hv_ => exact rfl)) | ((with_reducible refine' fd_Sender__sacked ?ho_ ?hv_ ?_); (case ho_ => first | assumption | exact upd_same); (case hv_ => exact rfl)) | ((with_reducible refine' nw_Sender_room ?ho_ ?hv_ ?_); (case ho_ => first | assumption | exact upd_same); (case hv_ => exact rfl)) | ((with_reducible refine' nw_Sender_una ?ho_ ?hv_ ?_); (case ho_ => first | assumption | exact upd_same); (case hv_ => exact rfl)) | ((with_reducible refine' nw_Sender_nxt ?ho_ ?hv_ ?_); (case ho_ => first | assumption | exact upd_same); (case hv_ => exact rfl)) | ((with_reducible refine' nw_Sender_written ?ho_ ?hv_ ?_); (case ho_ => first | assumption | exact upd_same); (case hv_ => exact rfl)) | ((with_reducible refine' nw_Sender_finished ?ho_ ?hv_ ?_); (case ho_ => first | assumption | exact upd_same); (case hv_ => exact rfl)) | ((with_reducible refine' nw_Sender_edge ?ho_ ?hv_ ?_); (case ho_ => first | assumption | exact upd_same); (case hv_ => exact rfl)) | ((with_reducible refine' nw_Sender_recovery ?ho_ ?hv_ ?_); (case ho_ => first | assumption | exact upd_same); (case hv_ => exact rfl)) | ((with_reducible refine' nw_Sender_resend ?ho_ ?hv_ ?_); (case ho_ => first | assumption | exact upd_same); (case hv_ => exact rfl)) | ((with_reducible refine' nw_Sender_lost ?ho_ ?hv_ ?_); (case ho_ => first | assumption | exact upd_same); (case hv_ => exact rfl)) | ((with_reducible refine' nw_Sender_repeated ?ho_ ?hv_ ?_); (case ho_ => first | assumption | exact upd_same); (case hv_ => exact rfl)) | ((with_reducible refine' nw_Sender__queue ?ho_ ?hv_ ?_); (case ho_ => first | assumption | exact upd_same); (case hv_ => exact rfl)) | ((with_reducible refine' nw_Sender__sacked ?ho_ ?hv_ ?_); (case ho_ => first | assumption | exact upd_same); (case hv_ => exact rfl)) | ((with_reducible refine' st_Sender_room ?ho_ ?hv_ ?_); (case ho_ => first | assumption | exact upd_same); (case hv_ => exact Nat.le_of_ble_eq_true rfl)) | ((with_reducible refine' st_Sender_una ?ho_ ?hv_ ?_); (case ho_ => first | assumption | exact upd_same); (case hv_ => exact Nat.le_of_ble_eq_true rfl)) | ((with_reducible refine' st_Sender_nxt ?ho_ ?hv_ ?_); (case ho_ => first | assumption | exact upd_same); (case hv_ => exact Nat.le_of_ble_eq_true rfl)) | ((with_reducible refine' st_Sender_written ?ho_ ?hv_ ?_); (case ho_ => first | assumption | exact upd_same); (case hv_ => exact Nat.le_of_ble_eq_true rfl)) | ((with_reducible refine' st_Sender_finished ?ho_ ?hv_ ?_); (case ho_ => first | assumption | exact upd_same); (case hv_ => exact Nat.le_of_ble_eq_true rfl)) | ((with_reducible refine' st_Sender_edge ?ho_ ?hv_ ?_); (case ho_ => first | assumption | exact upd_same); (case hv_ => exact Nat.le_of_ble_eq_true rfl)) | ((with_reducible refine' st_Sender_recovery ?ho_ ?hv_ ?_); (case ho_ => first | assumption | exact upd_same); (case hv_ => exact Nat.le_of_ble_eq_true rfl)) | ((with_reducible refine' st_Sender_resend ?ho_ ?hv_ ?_); (case ho_ => first | assumption | exact upd_same); (case hv_ => exact Nat.le_of_ble_eq_true rfl)) | ((with_reducible refine' st_Sender_lost ?ho_ ?hv_ ?_); (case ho_ => first | assumption | exact upd_same); (case hv_ => exact Nat.le_of_ble_eq_true rfl)) | ((with_reducible refine' st_Sender_repeated ?ho_ ?hv_ ?_); (case ho_ => first | assumption | exact upd_same); (case hv_ => exact Nat.le_of_ble_eq_true rfl)) | ((with_reducible refine' st_Sender__queue ?ho_ ?hv_ ?_); (case ho_ => first | assumption | exact upd_same); (case hv_ => exact Nat.le_of_ble_eq_true rfl)) | ((with_reducible refine' st_Sender__sacked ?ho_ ?hv_ ?_); (case ho_ => first | assumption | exact upd_same); (case hv_ => exact Nat.le_of_ble_eq_true rfl)))
local macro_rules | `(tactic| walk_at "use") => `(tactic| first | ((with_reducible refine' fd_Endpoint_options ?ho_ ?hv_ ?_); (case ho_ => first | assumption | exact upd_same); (case hv_ => exact rfl)) | ((with_reducible refine' fd_Endpoint_sender ?ho_ ?hv_ ?_); (case ho_ => first | assumption | exact upd_same); (case hv_ => exact rfl)) | ((with_reducible refine' fd_Endpoint_receiver ?ho_ ?hv_ ?_); (case ho_ => first | assumption | exact upd_same); (case hv_ => exact rfl)) | ((with_reducible refine' fd_Endpoint_trip ?ho_ ?hv_ ?_); (case ho_ => first | assumption | exact upd_same); (case hv_ => exact rfl)) | ((with_reducible refine' fd_Endpoint_control ?ho_ ?hv_ ?_); (case ho_ => first | assumption | exact upd_same); (case hv_ => exact rfl)) | ((with_reducible refine' fd_Endpoint_phase ?ho_ ?hv_ ?_); (case ho_ => first | assumption | exact upd_same); (case hv_ => exact rfl)) | ((with_reducible refine' fd_Endpoint_cause ?ho_ ?hv_ ?_); (case ho_ => first | assumption | exact upd_same); (case hv_ => exact rfl)) | ((with_reducible refine' fd_Endpoint_mss ?ho_ ?hv_ ?_); (case ho_ => first | assumption | exact upd_same); (case hv_ => exact rfl)) | ((with_reducible refine' fd_Endpoint_selective ?ho_ ?hv_ ?_); (case ho_ => first | assumption | exact upd_same); (case hv_ => exact rfl)) | ((with_reducible refine' fd_Endpoint_alarm ?ho_ ?hv_ ?_); (case ho_ => first | assumption | exact upd_same); (case hv_ => exact rfl)) | ((with_reducible refine' fd_Endpoint_since ?ho_ ?hv_ ?_); (case ho_ => first | assumption | exact upd_same); (case hv_ => exact rfl)) | ((with_reducible refine' fd_Endpoint_ack_at ?ho_ ?hv_ ?_); (case ho_ => first | assumption | exact upd_same); (case hv_ => exact rfl)) | ((with_reducible refine' fd_Endpoint_late ?ho_ ?hv_ ?_); (case ho_ => first | assumption | exact upd_same); (case hv_ => exact rfl)) | ((with_reducible refine' fd_Endpoint_asked ?ho_ ?hv_ ?_); (case ho_ => first | assumption | exact upd_same); (case hv_ => exact rfl)) | ((with_reducible refine' fd_Endpoint_again ?ho_ ?hv_ ?_); (case ho_ => first | assumption | exact upd_same); (case hv_ => exact rfl)) | ((with_reducible refine' fd_Endpoint_probe ?ho_ ?hv_ ?_); (case ho_ => first | assumption | exact upd_same); (case hv_ => exact rfl)) | ((with_reducible refine' fd_Endpoint_over ?ho_ ?hv_ ?_); (case ho_ => first | assumption | exact upd_same); (case hv_ => exact rfl)) | ((with_reducible refine' fd_Endpoint_rest ?ho_ ?hv_ ?_); (case ho_ => first | assumption | exact upd_same); (case hv_ => exact rfl)) | ((with_reducible refine' fd_Endpoint_spent_at ?ho_ ?hv_ ?_); (case ho_ => first | assumption | exact upd_same); (case hv_ => exact rfl)) | ((with_reducible refine' fd_Endpoint_spent ?ho_ ?hv_ ?_); (case ho_ => first | assumption | exact upd_same); (case hv_ => exact rfl)) | ((with_reducible refine' fd_Endpoint_stamp ?ho_ ?hv_ ?_); (case ho_ => first | assumption | exact upd_same); (case hv_ => exact rfl)) | ((with_reducible refine' fd_Endpoint_marked ?ho_ ?hv_ ?_); (case ho_ => first | assumption | exact upd_same); (case hv_ => exact rfl)) | ((with_reducible refine' fd_Endpoint_cut ?ho_ ?hv_ ?_); (case ho_ => first | assumption | exact upd_same); (case hv_ => exact rfl)) | ((with_reducible refine' nw_Endpoint_options ?ho_ ?hv_ ?_); (case ho_ => first | assumption | exact upd_same); (case hv_ => exact rfl)) | ((with_reducible refine' nw_Endpoint_sender ?ho_ ?hv_ ?_); (case ho_ => first | assumption | exact upd_same); (case hv_ => exact rfl)) | ((with_reducible refine' nw_Endpoint_receiver ?ho_ ?hv_ ?_); (case ho_ => first | assumption | exact upd_same); (case hv_ => exact rfl)) | ((with_reducible refine' nw_Endpoint_trip ?ho_ ?hv_ ?_); (case ho_ => first | assumption | exact upd_same); (case hv_ => exact rfl)) | ((with_reducible refine' nw_Endpoint_control ?ho_ ?hv_ ?_); (case ho_ => first | assumption | exact upd_same); (case hv_ => exact rfl)) | ((with_reducible refine' nw_Endpoint_phase ?ho_ ?hv_ ?_); (case ho_ => first | assumption | exact upd_same); (case hv_ => exact rfl)) | ((with_reducible refine' nw_Endpoint_cause ?ho_ ?hv_ ?_); (case ho_ => first | assumption | exact upd_same); (case hv_ => exact rfl)) | ((with_reducible refine' nw_Endpoint_mss ?ho_ ?hv_ ?_); (case ho_ => first | assumption | exact upd_same); (case hv_ => exact rfl)) | ((with_reducible refine' nw_Endpoint_selective ?ho_ ?hv_ ?_); (case ho_ => first | assumption | exact upd_same); (case hv_ => exact rfl)) | ((with_reducible refine' nw_Endpoint_alarm ?ho_ ?hv_ ?_); (case ho_ => first | assumption | exact upd_same); (case hv_ => exact rfl)) | ((with_reducible refine' nw_Endpoint_since ?ho_ ?hv_ ?_); (case ho_ => first | assumption | exact upd_same); (case hv_ => exact rfl)) | ((with_reducible refine' nw_Endpoint_ack_at ?ho_ ?hv_ ?_); (case ho_ => first | assumption | exact upd_same); (case hv_ => exact rfl)) | ((with_reducible refine' nw_Endpoint_late ?ho_ ?hv_ ?_); (case ho_ => first | assumption | exact upd_same); (case hv_ => exact rfl)) | ((with_reducible refine' nw_Endpoint_asked ?ho_ ?hv_ ?_); (case ho_ => first | assumption | exact upd_same); (case hv_ => exact rfl)) | ((with_reducible refine' nw_Endpoint_again ?ho_ ?hv_ ?_); (case ho_ => first | assumption | exact upd_same); (case hv_ => exact rfl)) | ((with_reducible refine' nw_Endpoint_probe ?ho_ ?hv_ ?_); (case ho_ => first | assumption | exact upd_same); (case hv_ => exact rfl)) | ((with_reducible refine' nw_Endpoint_over ?ho_ ?hv_ ?_); (case ho_ => first | assumption | exact upd_same); (case hv_ => exact rfl)) | ((with_reducible refine' nw_Endpoint_rest ?ho_ ?hv_ ?_); (case ho_ => first | assumption | exact upd_same); (case hv_ => exact rfl)) | ((with_reducible refine' nw_Endpoint_spent_at ?ho_ ?hv_ ?_); (case ho_ => first | assumption | exact upd_same); (case hv_ => exact rfl)) | ((with_reducible refine' nw_Endpoint_spent ?ho_ ?hv_ ?_); (case ho_ => first | assumption | exact upd_same); (case hv_ => exact rfl)) | ((with_reducible refine' nw_Endpoint_stamp ?ho_ ?hv_ ?_); (case ho_ => first | assumption | exact upd_same); (case hv_ => exact rfl)) | ((with_reducible refine' nw_Endpoint_marked ?ho_ ?hv_ ?_); (case ho_ => first | assumption | exact upd_same); (case hv_ => exact rfl)) | ((with_reducible refine' nw_Endpoint_cut ?ho_ ?hv_ ?_); (case ho_ => first | assumption | exact upd_same); (case hv_ => exact rfl)) | ((with_reducible refine' st_Endpoint_options ?ho_ ?hv_ ?_); (case ho_ => first | assumption | exact upd_same); (case hv_ => exact Nat.le_of_ble_eq_true rfl)) | ((with_reducible refine' st_Endpoint_sender ?ho_ ?hv_ ?_); (case ho_ => first | assumption | exact upd_same); (case hv_ => exact Nat.le_of_ble_eq_true rfl)) | ((with_reducible refine' st_Endpoint_receiver ?ho_ ?hv_ ?_); (case ho_ => first | assumption | exact upd_same); (case hv_ => exact Nat.le_of_ble_eq_true rfl)) | ((with_reducible refine' st_Endpoint_trip ?ho_ ?hv_ ?_); (case ho_ => first | assumption | exact upd_same); (case hv_ => exact Nat.le_of_ble_eq_true rfl)) | ((with_reducible refine' st_Endpoint_control ?ho_ ?hv_ ?_); (case ho_ => first | assumption | exact upd_same); (case hv_ => exact Nat.le_of_ble_eq_true rfl)) | ((with_reducible refine' st_Endpoint_phase ?ho_ ?hv_ ?_); (case ho_ => first | assumption | exact upd_same); (case hv_ => exact Nat.le_of_ble_eq_true rfl)) | ((with_reducible refine' st_Endpoint_cause ?ho_ ?hv_ ?_); (case ho_ => first | assumption | exact upd_same); (case hv_ => exact Nat.le_of_ble_eq_true rfl)) | ((with_reducible refine' st_Endpoint_mss ?ho_ ?hv_ ?_); (case ho_ => first | assumption | exact upd_same); (case hv_ => exact Nat.le_of_ble_eq_true rfl)) | ((with_reducible refine' st_Endpoint_selective ?ho_ ?hv_ ?_); (case ho_ => first | assumption | exact upd_same); (case hv_ => exact Nat.le_of_ble_eq_true rfl)) | ((with_reducible refine' st_Endpoint_alarm ?ho_ ?hv_ ?_); (case ho_ => first | assumption | exact upd_same); (case hv_ => exact Nat.le_of_ble_eq_true rfl)) | ((with_reducible refine' st_Endpoint_since ?ho_ ?hv_ ?_); (case ho_ => first | assumption | exact upd_same); (case hv_ => exact Nat.le_of_ble_eq_true rfl)) | ((with_reducible refine' st_Endpoint_ack_at ?ho_ ?hv_ ?_); (case ho_ => first | assumption | exact upd_same); (case hv_ => exact Nat.le_of_ble_eq_true rfl)) | ((with_reducible refine' st_Endpoint_late ?ho_ ?hv_ ?_); (case ho_ => first | assumption | exact upd_same); (case hv_ => exact Nat.le_of_ble_eq_true rfl)) | ((with_reducible refine' st_Endpoint_asked ?ho_ ?hv_ ?_); (case ho_ => first | assumption | exact upd_same); (case hv_ => exact Nat.le_of_ble_eq_true rfl)) | ((with_reducible refine' st_Endpoint_again ?ho_ ?hv_ ?_); (case ho_ => first | assumption | exact upd_same); (case hv_ => exact Nat.le_of_ble_eq_true rfl)) | ((with_reducible refine' st_Endpoint_probe ?ho_ ?hv_ ?_); (case ho_ => first | assumption | exact upd_same); (case hv_ => exact Nat.le_of_ble_eq_true rfl)) | ((with_reducible refine' st_Endpoint_over ?ho_ ?hv_ ?_); (case ho_ => first | assumption | exact upd_same); (case hv_ => exact Nat.le_of_ble_eq_true rfl)) | ((with_reducible refine' st_Endpoint_rest ?ho_ ?hv_ ?_); (case ho_ => first | assumption | exact upd_same); (case hv_ => exact Nat.le_of_ble_eq_true rfl)) | ((with_reducible refine' st_Endpoint_spent_at ?ho_ ?hv_ ?_); (case ho_ => first | assumption | exact upd_same); (case hv_ => exact Nat.le_of_ble_eq_true rfl)) | ((with_reducible refine' st_Endpoint_spent ?ho_ ?hv_ ?_); (case ho_ => first | assumption | exact upd_same); (case hv_ => exact Nat.le_of_ble_eq_true rfl)) | ((with_reducible refine' st_Endpoint_stamp ?ho_ ?hv_ ?_); (case ho_ => first | assumption | exact upd_same); (case hv_ => exact Nat.le_of_ble_eq_true rfl)) | ((with_reducible refine' st_Endpoint_marked ?ho_ ?hv_ ?_); (case ho_ => first | assumption | exact upd_same); (case hv_ => exact Nat.le_of_ble_eq_true rfl)) | ((with_reducible refine' st_Endpoint_cut ?ho_ ?hv_ ?_); (case ho_ => first | assumption | exact upd_same); (case hv_ => exact Nat.le_of_ble_eq_true rfl)) | ((with_reducible refine' me_Endpoint_abort ?ho_ ?_); (case ho_ => first | assumption | exact upd_same)) | ((with_reducible refine' me_Endpoint_end ?ho_ ?_); (case ho_ => first | assumption | exact upd_same)))
local macro_rules | `(tactic| walk_at "use") => `(tactic| first | ((with_reducible refine' fd_Options_mss ?ho_ ?hv_ ?_); (case ho_ => first | assumption | exact upd_same); (case hv_ => exact rfl)) | ((with_reducible refine' fd_Options_room ?ho_ ?hv_ ?_); (case ho_ => first | assumption | exact upd_same); (case hv_ => exact rfl)) | ((with_reducible refine' fd_Options_life ?ho_ ?hv_ ?_); (case ho_ => first | assumption | exact upd_same); (case hv_ => exact rfl)) | ((with_reducible refine' fd_Options_pace ?ho_ ?hv_ ?_); (case ho_ => first | assumption | exact upd_same); (case hv_ => exact rfl)) | ((with_reducible refine' fd_Options_tries ?ho_ ?hv_ ?_); (case ho_ => first | assumption | exact upd_same); (case hv_ => exact rfl)) | ((with_reducible refine' fd_Options_min_rto ?ho_ ?hv_ ?_); (case ho_ => first | assumption | exact upd_same); (case hv_ => exact rfl)) | ((with_reducible refine' fd_Options_max_rto ?ho_ ?hv_ ?_); (case ho_ => first | assumption | exact upd_same); (case hv_ => exact rfl)) | ((with_reducible refine' fd_Options_ack_delay ?ho_ ?hv_ ?_); (case ho_ => first | assumption | exact upd_same); (case hv_ => exact rfl)) | ((with_reducible refine' fd_Options_keep_alive ?ho_ ?hv_ ?_); (case ho_ => first | assumption | exact upd_same); (case hv_ => exact rfl)) | ((with_reducible refine' fd_Options_nagle ?ho_ ?hv_ ?_); (case ho_ => first | assumption | exact upd_same); (case hv_ => exact rfl)) | ((with_reducible refine' fd_Options_control ?ho_ ?hv_ ?_); (case ho_ => first | assumption | exact upd_same); (case hv_ => exact rfl)) | ((with_reducible refine' nw_Options_mss ?ho_ ?hv_ ?_); (case ho_ => first | assumption | exact upd_same); (case hv_ => exact rfl)) | ((with_reducible refine' nw_Options_room ?ho_ ?hv_ ?_); (case ho_ => first | assumption | exact upd_same); (case hv_ => exact rfl)) | ((with_reducible refine' nw_Options_life ?ho_ ?hv_ ?_); (case ho_ => first | assumption | exact upd_same); (case hv_ => exact rfl)) | ((with_reducible refine' nw_Options_pace ?ho_ ?hv_ ?_); (case ho_ => first | assumption | exact upd_same); (case hv_ => exact rfl)) | ((with_reducible refine' nw_Options_tries ?ho_ ?hv_ ?_); (case ho_ => first | assumption | exact upd_same); (case hv_ => exact rfl)) | ((with_reducible refine' nw_Options_min_rto ?ho_ ?hv_ ?_); (case ho_ => first | assumption | exact upd_same); (case hv_ => exact rfl)) | ((with_reducible refine' nw_Options_max_rto ?ho_ ?hv_ ?_); (case ho_ => first | assumption | exact upd_same); (case hv_ => exact rfl)) | ((with_reducible refine' nw_Options_ack_delay ?ho_ ?hv_ ?_); (case ho_ => first | assumption | exact upd_same); (case hv_ => exact rfl)) | ((with_reducible refine' nw_Options_keep_alive ?ho_ ?hv_ ?_); (case ho_ => first | assumption | exact upd_same); (case hv_ => exact rfl)) | ((with_reducible refine' nw_Options_nagle ?ho_ ?hv_ ?_); (case ho_ => first | assumption | exact upd_same); (case hv_ => exact rfl)) | ((with_reducible refine' nw_Options_control ?ho_ ?hv_ ?_); (case ho_ => first | assumption | exact upd_same); (case hv_ => exact rfl)) | ((with_reducible refine' st_Options_mss ?ho_ ?hv_ ?_); (case ho_ => first | assumption | exact upd_same); (case hv_ => exact Nat.le_of_ble_eq_true rfl)) | ((with_reducible refine' st_Options_room ?ho_ ?hv_ ?_); (case ho_ => first | assumption | exact upd_same); (case hv_ => exact Nat.le_of_ble_eq_true rfl)) | ((with_reducible refine' st_Options_life ?ho_ ?hv_ ?_); (case ho_ => first | assumption | exact upd_same); (case hv_ => exact Nat.le_of_ble_eq_true rfl)) | ((with_reducible refine' st_Options_pace ?ho_ ?hv_ ?_); (case ho_ => first | assumption | exact upd_same); (case hv_ => exact Nat.le_of_ble_eq_true rfl)) | ((with_reducible refine' st_Options_tries ?ho_ ?hv_ ?_); (case ho_ => first | assumption | exact upd_same); (case hv_ => exact Nat.le_of_ble_eq_true rfl)) | ((with_reducible refine' st_Options_min_rto ?ho_ ?hv_ ?_); (case ho_ => first | assumption | exact upd_same); (case hv_ => exact Nat.le_of_ble_eq_true rfl)) | ((with_reducible refine' st_Options_max_rto ?ho_ ?hv_ ?_); (case ho_ => first | assumption | exact upd_same); (case hv_ => exact Nat.le_of_ble_eq_true rfl)) | ((with_reducible refine' st_Options_ack_delay ?ho_ ?hv_ ?_); (case ho_ => first | assumption | exact upd_same); (case hv_ => exact Nat.le_of_ble_eq_true rfl)) | ((with_reducible refine' st_Options_keep_alive ?ho_ ?hv_ ?_); (case ho_ => first | assumption | exact upd_same); (case hv_ => exact Nat.le_of_ble_eq_true rfl)) | ((with_reducible refine' st_Options_nagle ?ho_ ?hv_ ?_); (case ho_ => first | assumption | exact upd_same); (case hv_ => exact Nat.le_of_ble_eq_true rfl)) | ((with_reducible refine' st_Options_control ?ho_ ?hv_ ?_); (case ho_ => first | assumption | exact upd_same); (case hv_ => exact Nat.le_of_ble_eq_true rfl)) | ((with_reducible refine' me_Options_fork ?ho_ ?_); (case ho_ => first | assumption | exact upd_same)) | ((with_reducible refine' me_Options_wrong_names ?ho_ ?_); (case ho_ => first | assumption | exact upd_same)))
section
variable {P : Program} {w : World} {K : PySem.W.Frag} {mg : Str → Option Value} {base : Heap}
/-! ### lists of pairs in the heap -/
def tupP (p : Int × Int) : HO := .tup [.int p.1, .int p.2]
def Prs (H : Hp) (vs : List V) (ps : List (Int × Int)) : Prop := vs.length = ps.length ∧ ∀ (i : Nat) p, ps[i]? = some p → ∃ t, vs[i]? = some (V.ref t) ∧ H t = some (tupP p)
theorem Prs.nil {H : Hp} : Prs H [] [] := ⟨rfl, fun i p h => by simp at h⟩
theorem Prs.same {H H' : Hp} {vs : List V} {ps : List (Int × Int)} (h : Prs H vs ps) (s : Same H H') : Prs H' vs ps := ⟨h.1, fun i p e => by
  obtain ⟨t, h1, h2⟩ := h.2 i p e
  exact ⟨t, h1, s _ _ h2⟩⟩
theorem Prs.but {H H' : Hp} {vs : List V} {ps : List (Int × Int)} {a : Addr} {xs : List V} (h : Prs H vs ps) (s : But a H H') (e : H a = some (.lst xs)) : Prs H' vs ps := ⟨h.1, fun i p e2 => by
  obtain ⟨t, h1, h2⟩ := h.2 i p e2
  exact ⟨t, h1, s _ _ (fun z => by rw [z, e] at h2; cases h2) h2⟩⟩
theorem Prs.butD {H H' : Hp} {vs : List V} {ps : List (Int × Int)} {a : Addr} {kvs : List (Key × V)} (h : Prs H vs ps) (s : But a H H') (e : H a = some (.dK kvs)) : Prs H' vs ps := ⟨h.1, fun i p e2 => by
  obtain ⟨t, h1, h2⟩ := h.2 i p e2
  exact ⟨t, h1, s _ _ (fun z => by rw [z, e] at h2; cases h2) h2⟩⟩
theorem Prs.drop {H : Hp} {vs : List V} {ps : List (Int × Int)} (h : Prs H vs ps) (k : Nat) : Prs H (vs.drop k) (ps.drop k) := ⟨by rw [List.length_drop, List.length_drop, h.1], fun i p e => by
  rw [List.getElem?_drop] at e ⊢
  exact h.2 _ p e⟩
theorem Prs.take {H : Hp} {vs : List V} {ps : List (Int × Int)} (h : Prs H vs ps) (k : Nat) : Prs H (vs.take k) (ps.take k) := ⟨by rw [List.length_take, List.length_take, h.1], fun i p e => by
  rw [List.getElem?_take] at e ⊢
  split at e
  · rw [if_pos (by assumption)]
    exact h.2 _ p e
  · cases e⟩
theorem Prs.app {H : Hp} {vs us : List V} {ps qs : List (Int × Int)} (h : Prs H vs ps) (h' : Prs H us qs) : Prs H (vs ++ us) (ps ++ qs) := ⟨by rw [List.length_append, List.length_append, h.1, h'.1], fun i p e => by
  by_cases hi : i < ps.length
  · rw [List.getElem?_append_left hi] at e
    rw [List.getElem?_append_left (by rw [h.1]; exact hi)]
    exact h.2 i p e
  · rw [List.getElem?_append_right (by omega)] at e
    rw [List.getElem?_append_right (by rw [h.1]; omega), h.1]
    exact h'.2 _ p e⟩
theorem Prs.one {H : Hp} {t : Addr} {p : Int × Int} (h : H t = some (tupP p)) : Prs H [V.ref t] [p] := ⟨rfl, fun i q e => by
  match i, e with
  | 0, e => exact ⟨t, rfl, by rw [← Option.some.inj e]; exact h⟩⟩
theorem Prs.cons {H : Hp} {t : Addr} {p : Int × Int} {vs : List V} {ps : List (Int × Int)} (h : H t = some (tupP p)) (h' : Prs H vs ps) : Prs H (V.ref t :: vs) (p :: ps) := (Prs.one h).app h'
theorem Prs.set {H : Hp} {t : Addr} {p : Int × Int} {vs : List V} {ps : List (Int × Int)} (h' : Prs H vs ps) (j : Nat) (h : H t = some (tupP p)) : Prs H (vs.set j (V.ref t)) (ps.set j p) := ⟨by rw [List.length_set, List.length_set, h'.1], fun i q e => by
  by_cases hij : j = i
  · subst hij
    have hl : j < ps.length := by
      obtain ⟨z, _⟩ := List.getElem?_eq_some_iff.mp e
      rw [List.length_set] at z
      exact z
    rw [List.getElem?_set_self hl] at e
    rw [List.getElem?_set_self (by rw [h'.1]; exact hl)]
    exact ⟨t, rfl, by rw [← Option.some.inj e]; exact h⟩
  · rw [List.getElem?_set_ne hij] at e ⊢
    exact h'.2 i q e⟩
theorem cut_nat {xs : List V} {a b : Nat} (hab : a ≤ b) (hb : b ≤ xs.length) : cutV xs (some (a : Int)) (some (b : Int)) = (xs.drop a).take (b - a) := by
  unfold cutV
  rw [HT.sIx_nat, HT.sIx_nat, Nat.min_eq_left (a := a) (by omega), Nat.min_eq_left hb]
theorem cut_to {xs : List V} {b : Nat} (hb : b ≤ xs.length) : cutV xs none (some (b : Int)) = xs.take b := by
  unfold cutV
  rw [HT.sIx_none, HT.sIx_nat, Nat.min_eq_left hb, List.drop_zero, Nat.sub_zero]
theorem cut_from {xs : List V} {a : Nat} (ha : a ≤ xs.length) : cutV xs (some (a : Int)) none = xs.drop a := by
  unfold cutV
  rw [HT.sIx_nat, HT.sIx_none, Nat.min_eq_left ha]
  exact List.take_of_length_le (by rw [List.length_drop]; omega)
/-! == of lists of pairs -/
section
variable {K : PySem.W.Frag} {H : Hp}
def datP (p : Int × Int) : PyData := .tuple [.int p.1, .int p.2]
theorem dp_pair {t : Addr} {p : Int × Int} (h : H t = some (tupP p)) : Dp K H (.ref t) (datP p) := .tup (st h) (.cons (.int _) (.cons (.int _) .nil))
theorem dpAll_pairs : ∀ {vs : List V} {ps : List (Int × Int)}, Prs H vs ps → DpAll K H vs (ps.map datP)
  | [], [], _ => .nil
  | [], _ :: _, h => by have := h.1; simp at this
  | _ :: _, [], h => by have := h.1; simp at this
  | v :: vs, p :: ps, h => by
    obtain ⟨t, h1, h2⟩ := h.2 0 p rfl
    have e : v = V.ref t := Option.some.inj h1
    subst e
    exact .cons (dp_pair h2) (dpAll_pairs (h.drop 1))
theorem lay_pairs : ∀ {ps : List (Int × Int)}, PyData.canLayAll0 (ps.map datP) = true
  | [] => rfl
  | p :: ps => by
    show ((true && (true && true)) && PyData.canLayAll0 (ps.map datP)) = true
    rw [lay_pairs]; rfl
theorem depth_pairs : ∀ {ps : List (Int × Int)}, PyData.depthAll (ps.map datP) ≤ 1
  | [] => by show 0 ≤ 1; decide
  | p :: ps => by
    show max (max 0 (max 0 0) + 1) (PyData.depthAll (ps.map datP)) ≤ 1
    have := depth_pairs (ps := ps)
    omega
theorem shaped_pairs {ps : List (Int × Int)} : SeqAt.shaped (.list (ps.map datP)) = true := by
  show (PyData.canLayAll0 (ps.map datP) && decide (PyData.depthAll (ps.map datP) + 1 ≤ 64)) = true
  have := depth_pairs (ps := ps)
  rw [lay_pairs, decide_eq_true (by omega)]; rfl
theorem eqv_pair {p q : Int × Int} : PyData.eqv (datP p) (datP q) = decide (p = q) := by
  show ((p.1 == q.1) && ((p.2 == q.2) && true)) = decide (p = q)
  rw [Bool.eq_iff_iff]
  simp [Prod.ext_iff]
theorem eqvAll_pairs : ∀ {ps qs : List (Int × Int)}, PyData.eqvAll (ps.map datP) (qs.map datP) = decide (ps = qs)
  | [], [] => rfl
  | [], _ :: _ => rfl
  | _ :: _, [] => rfl
  | p :: ps, q :: qs => by
    show (PyData.eqv (datP p) (datP q) && PyData.eqvAll (ps.map datP) (qs.map datP)) = decide (p :: ps = q :: qs)
    rw [eqvAll_pairs, eqv_pair, Bool.eq_iff_iff]
    simp
theorem g_nePL {Q : VK} {a b : Addr} {vs us : List V} {ps qs : List (Int × Int)} (h1 : SqL K H a vs) (p1 : Prs H vs ps) (h2 : SqL K H b us) (p2 : Prs H us qs) (q : Q (.bl (!decide (ps = qs))) H) : rNeD K (.ref a) (.ref b) H Q :=
  ⟨.list (ps.map datP), .list (qs.map datP), .lst h1 (dpAll_pairs p1), .lst h2 (dpAll_pairs p2), shaped_pairs, shaped_pairs, by rw [show PyData.eqv (.list (ps.map datP)) (.list (qs.map datP)) = decide (ps = qs) from eqvAll_pairs]; exact q⟩
theorem g_eqPL {Q : VK} {a b : Addr} {vs us : List V} {ps qs : List (Int × Int)} (h1 : SqL K H a vs) (p1 : Prs H vs ps) (h2 : SqL K H b us) (p2 : Prs H us qs) (q : Q (.bl (decide (ps = qs))) H) : rEqD K (.ref a) (.ref b) H Q :=
  ⟨.list (ps.map datP), .list (qs.map datP), .lst h1 (dpAll_pairs p1), .lst h2 (dpAll_pairs p2), shaped_pairs, shaped_pairs, by rw [show PyData.eqv (.list (ps.map datP)) (.list (qs.map datP)) = decide (ps = qs) from eqvAll_pairs]; exact q⟩
theorem g_neP {Q : VK} {a b : Addr} {p r : Int × Int} (h1 : H a = some (tupP p)) (h2 : H b = some (tupP r)) (q : Q (.bl (!decide (p = r))) H) : rNeD K (.ref a) (.ref b) H Q :=
  ⟨datP p, datP r, dp_pair h1, dp_pair h2, rfl, rfl, by rw [eqv_pair]; exact q⟩
end

theorem kb_pure {K : PySem.W.Frag} {x qual : Str} {params : Arguments} {body : List Stmt} {scope : Scope} {kws : List (Str × V)} {f : Addr} {fd : FuncData} {ps : List Str} (F : FunD K x qual params body scope [] kws f fd) (n : Nat) (ks : List Str) (g : {α : Type} → List α → List α → List α)
    (hrel : ∀ {vs zs : List V} {us ws : List Value}, Vals vs us → Vals zs ws → Vals (g vs zs) (g us ws))
    (h : ∀ (kV doc pm : Value) (an : Option Addr) (cdv ct : Value) (us ws : List Value), us.length = n → ws.length = ks.length → bindArgs (PySem.W.fnOf x qual params body scope .none kV doc pm an cdv ct) ⟨us, ks.zip ws⟩ = pure (ps.zip (g us ws))) :
    KBn K fd ps n ks (fun us ws => g us ws) (fun vs zs => g vs zs) := by
  obtain ⟨oc, od, dV, kV, doc, pm, an, cdv, ct, osl, rfl, lk, hcd, hD, hK⟩ := F.ex
  rcases hD with ⟨_, rfl⟩ | ⟨e, _⟩
  · exact ⟨fun s us ws X l1 l2 => .of_eq (h kV doc pm an cdv ct us ws l1 l2), fun r1 r2 => hrel r1 r2⟩
  · exact absurd rfl e
theorem pe_callN0 {X : Cx} {CX : CXT} {k : Nat} {f : Addr} {fd : FuncData} {ps ks : List Str} {sp : Sp} {E : XK} {x : Str} {p pos : Pos} {kws : List Keyword} {tk : TA} {g : List Value → List Value → List Value} {gV : List V → List V → List V} (F : FnOk X.prog X.w X.K X.mg X.base CX k f fd ps sp) (hr : Room k X.A) (hg : Gl X x) (hm : X.mg x = some (.ref f)) (hk : PySem.W.keepIn X.K (.ref f) = true) (hb : KBn X.K fd ps 0 ks g gV) (hx : Passes CX X E)
    (hkw : PK X kws tk) (hall : (backToKw pos (keywordEach kws X.env)).all (·.1.isSome) = true := by rfl) (hks : (backToKw pos (keywordEach kws X.env)).filterMap (·.1) = ks := by rfl)
    (hdb : (x == ("__debug__" : Str)) = false := by decide)
    (hpl : ((backTo pos (starEach [] X.env)).any (·.1) || (backToKw pos (keywordEach kws X.env)).any (·.1.isNone)) = false := by rfl) :
    PE X (.Call (.Name x p) [] kws pos) (tCallN 0 ks.length sp gV E tNil tk) := by
  refine ⟨fun pins s σ H Q I h => ?_⟩
  refine wpAny_Call_Name_kw (ld_glob I hg hm ?_ hdb)
  refine PySem.W.callWith_KW0 (h₀ := X.base) I.ok.mod.kin hk hall ?_ hpl
  refine thn (hkw.run pos pins s σ H _ I h) fun ws s2 ⟨zs, H2, I2, rz, l1, l2, q2⟩ => ⟨I2.kIn, ?_⟩
  rw [hks]
  exact run_fnN (us := []) (vs := []) F hr hb hx I2 .nil rz rfl l2 q2
theorem g_callN {n m : Nat} {sp : Sp} {gV : List V → List V → List V} {E : XK} {t tk : TA} {σ : St} {H : Hp} {Q : VK} (h : t σ H fun vs H1 => tk σ H1 fun zs H2 => vs.length = n ∧ zs.length = m ∧ sp (gV vs zs) H2 Q E) : tCallN n m sp gV E t tk σ H Q := h
local macro_rules | `(tactic| walk_at "use") => `(tactic| with_reducible refine g_callN ?_)

/-! ### a call that leaves keyword-only parameters out: the loop over their names, step by step -/
inductive KwSteps (D : Addr) {β : Type} (f : Str → β → Sem (ForInStep β)) : List Str → β → List (Str × Value) → β → Prop
  | nil {b : β} : KwSteps D f [] b [] b
  | skip {a : Str} {L : List Str} {b b1 b' : β} {l : List (Str × Value)} : f a b = pure (.yield b1) → KwSteps D f L b1 l b' → KwSteps D f (a :: L) b l b'
  | look {a : Str} {L : List Str} {b b1 b' : β} {v : Value} {l : List (Str × Value)} (k : Option Value → Sem (ForInStep β)) : f a b = (nsGet D a >>= k) → k (some v) = pure (.yield b1) → KwSteps D f L b1 l b' → KwSteps D f (a :: L) b ((a, v) :: l) b'
theorem KwSteps.chain {D : Addr} {α β : Type} {f : Str → β → Sem (ForInStep β)} {L : List Str} {b b' : β} {l : List (Str × Value)} (h : KwSteps D f L b l b') : ∀ {rest : β → Sem α} {r : α}, rest b' = pure r → KwChain D l (forIn L b f >>= rest) r := by
  induction h with
  | nil =>
    intro rest r e
    show forIn [] _ f >>= rest = pure r
    rw [List.forIn_nil, pure_bind]
    exact e
  | skip e _ ih =>
    intro rest r e2
    have z := ih e2
    rw [List.forIn_cons, e, pure_bind]
    exact z
  | look k e e1 _ ih =>
    intro rest r e2
    have z := ih e2
    rename_i a L b b1 b' v l hs
    refine ⟨_, _, k, fun y => (match y with | .done b => pure b | .yield b => forIn L b f), rest, .yield b1, ?_, e1, z⟩
    rw [List.forIn_cons, e]
    rfl
theorem KwChain.of_steps {D : Addr} {α β : Type} {t : Sem α} {f : Str → β → Sem (ForInStep β)} {L : List Str} {b b' : β} {l : List (Str × Value)} {rest : β → Sem α} {r : α} (e : t = (forIn L b f >>= rest)) (h : KwSteps D f L b l b') (e2 : rest b' = pure r) : KwChain D l t r := e ▸ h.chain e2
theorem KwSteps.skipIf {D : Addr} {β : Type} {f : Str → β → Sem (ForInStep β)} {a : Str} {L : List Str} {b b1 b' : β} {l : List (Str × Value)} {c : Bool} {X : Sem (ForInStep β)} (e : f a b = if c = true then X else pure (.yield b1)) (hc : c = false) (h : KwSteps D f L b1 l b') : KwSteps D f (a :: L) b l b' := .skip (by rw [e, hc]; rfl) h
theorem KwSteps.lookIf {D : Addr} {β : Type} {f : Str → β → Sem (ForInStep β)} {a : Str} {L : List Str} {b b1 b' : β} {v : Value} {l : List (Str × Value)} {c : Bool} {k : Option Value → Sem (ForInStep β)} {Y : Sem (ForInStep β)} (e : f a b = if c = true then (nsGet D a >>= k) else Y) (hc : c = true) (e1 : k (some v) = pure (.yield b1)) (h : KwSteps D f L b1 l b') : KwSteps D f (a :: L) b ((a, v) :: l) b' := .look k (by rw [e, hc]; rfl) e1 h

/-! ### o.m(e, .., k = v, ..) -/
def tMethN (C : Addr) (m : Str) (n k : Nat) (sp : Sp) (gV : List V → List V → List V) (E : XK) (ta : TE) (t tk : TA) : TE := fun σ H Q => ta σ H fun x H1 => ∃ a dx fs, x = .ref a ∧ H1 a = some (.ins C dx fs) ∧ fs.lookup m = none ∧ t σ H1 fun vs H2 => tk σ H2 fun zs H3 => vs.length = n ∧ zs.length = k ∧ sp (gV (x :: vs) zs) H3 Q E
section
variable {X : Cx} {CX : CXT} {k n : Nat} {f C : Addr} {fd : FuncData} {ps ks : List Str} {sp : Sp} {E : XK} {m : Str} {apos pos : Pos} {o e : Expr} {es : List Expr} {kws : List Keyword} {ta : TE} {t tk : TA} {g : List Value → List Value → List Value} {gV : List V → List V → List V} {pl : Sem Bool}
theorem pe_methN (he : PE X o ta) (c : Cls X.K C) (hm : Meth X.K C m f) (F : FnOk X.prog X.w X.K X.mg X.base CX k f fd ps sp) (hr : Room k X.A) (hb : KBn X.K fd ps (n + 1) ks g gV) (hx : Passes CX X E) (ha : PA X (e :: es) t) (hkw : PK X kws tk)
    (hall : (backToKw pos (keywordEach kws X.env)).all (·.1.isSome) = true := by rfl) (hks : (backToKw pos (keywordEach kws X.env)).filterMap (·.1) = ks := by rfl)
    (hst : starEach (e :: es) X.env = (false, eval e X.env) :: starEach es X.env := by rfl)
    (hpl : ((backTo pos (starEach (e :: es) X.env)).any (·.1) || (backToKw pos (keywordEach kws X.env)).any (·.1.isNone)) = false := by rfl)
    (ht : eval (.Call (.Attribute o m apos) (e :: es) kws pos) X.env = (do
      let ov ← eval o X.env
      standAt apos.atName
      let (f, first) ← holding [ov] (getMethod ov m pl)
      callWith pos f first (backTo pos (starEach (e :: es) X.env)) (backToKw pos (keywordEach kws X.env))) := by rfl) :
    PE X (.Call (.Attribute o m apos) (e :: es) kws pos) (tMethN C m n ks.length sp gV E ta t tk) := by
  refine ⟨fun pins s σ H Q I h => ?_⟩
  refine PySem.W.methodCall_KW (pl := pl) (thn (he.run pins s σ H _ I h) fun u s1 ⟨x, H1, I1, rx, a, dx, fs, ex, ea, l, q⟩ => ?_) ht
  subst ex
  obtain rfl : u = Value.ref a := rx
  refine getmeth_ok I1 ea c hm l ?_
  refine PySem.W.callWith_KW (first := [.ref a]) (h₀ := X.base) I.ok.mod.kin hm.kp hall (thn (ha.run pos pins s1 σ H1 _ I1 q) fun us s2 ⟨vs, H2, I2, r, q2⟩ => ?_) hpl hst
  refine thn (hkw.run pos pins s2 σ H2 _ I2 q2) fun ws s3 ⟨zs, H3, I3, rz, l1, l2, q3⟩ => ⟨I3.kIn, ?_⟩
  rw [hks]
  exact run_fnN (us := .ref a :: us) (vs := .ref a :: vs) F hr hb hx I3 (.cons rfl r) rz (by rw [List.length_cons, l1]) l2 q3
theorem pe_methN0 (he : PE X o ta) (c : Cls X.K C) (hm : Meth X.K C m f) (F : FnOk X.prog X.w X.K X.mg X.base CX k f fd ps sp) (hr : Room k X.A) (hb : KBn X.K fd ps (0 + 1) ks g gV) (hx : Passes CX X E) (hkw : PK X kws tk)
    (hall : (backToKw pos (keywordEach kws X.env)).all (·.1.isSome) = true := by rfl) (hks : (backToKw pos (keywordEach kws X.env)).filterMap (·.1) = ks := by rfl)
    (hpl : ((backTo pos (starEach [] X.env)).any (·.1) || (backToKw pos (keywordEach kws X.env)).any (·.1.isNone)) = false := by rfl)
    (ht : eval (.Call (.Attribute o m apos) [] kws pos) X.env = (do
      let ov ← eval o X.env
      standAt apos.atName
      let (f, first) ← holding [ov] (getMethod ov m pl)
      callWith pos f first (backTo pos (starEach [] X.env)) (backToKw pos (keywordEach kws X.env))) := by rfl) :
    PE X (.Call (.Attribute o m apos) [] kws pos) (tMethN C m 0 ks.length sp gV E ta tNil tk) := by
  refine ⟨fun pins s σ H Q I h => ?_⟩
  refine PySem.W.methodCall_KW (pl := pl) (thn (he.run pins s σ H _ I h) fun u s1 ⟨x, H1, I1, rx, a, dx, fs, ex, ea, l, q⟩ => ?_) ht
  subst ex
  obtain rfl : u = Value.ref a := rx
  refine getmeth_ok I1 ea c hm l ?_
  refine PySem.W.callWith_KW0 (first := [.ref a]) (h₀ := X.base) I.ok.mod.kin hm.kp hall ?_ hpl
  refine thn (hkw.run pos pins s1 σ H1 _ I1 q) fun ws s2 ⟨zs, H2, I2, rz, l1, l2, q2⟩ => ⟨I2.kIn, ?_⟩
  rw [hks]
  exact run_fnN (us := [.ref a]) (vs := [.ref a]) F hr hb hx I2 (.cons rfl .nil) rz rfl l2 q2
end
theorem g_methN {C : Addr} {m : Str} {n k : Nat} {sp : Sp} {gV : List V → List V → List V} {E : XK} {ta : TE} {t tk : TA} {σ : St} {H : Hp} {Q : VK} (h : ta σ H fun x H1 => ∃ a dx fs, x = .ref a ∧ H1 a = some (.ins C dx fs) ∧ fs.lookup m = none ∧ t σ H1 fun vs H2 => tk σ H2 fun zs H3 => vs.length = n ∧ zs.length = k ∧ sp (gV (x :: vs) zs) H3 Q E) : tMethN C m n k sp gV E ta t tk σ H Q := h
local macro_rules | `(tactic| walk_at "use") => `(tactic| with_reducible refine g_methN ?_)

theorem g_makeK {C : Addr} {n m : Nat} {sp : Sp} {gV : List V → List V → List V} {E : XK} {t tk : TA} {σ : St} {H : Hp} {Q : VK} (h : t σ H fun vs H1 => tk σ H1 fun zs H2 => vs.length = n ∧ zs.length = m ∧
  ∀ x dx, H2 x = none → H2 dx = none → dx ≠ x → sp (gV (.ref x :: vs) zs) (upd (upd H2 dx (.own x)) x (.ins C dx [])) (fun v H3 => v = .non ∧ Q (.ref x) H3) E) : tMakeK C n m sp gV E t tk σ H Q := h
local macro_rules | `(tactic| walk_at "use") => `(tactic| with_reducible refine g_makeK ?_)

section
variable {K : PySem.W.Frag} {H : Hp} {Q : VK}
theorem dec_str {s t : Str} : decide (V.str s = V.str t) = decide (s = t) := decide_eq_decide.mpr ⟨V.str.inj, congrArg _⟩
theorem g_rEqS {s t : Str} (q : Q (.bl (decide (s = t))) H) : rEq (.str s) (.str t) H Q := g_rEq rfl (by rw [dec_str]; exact q)
theorem g_rNeS {s t : Str} (q : Q (.bl (!decide (s = t))) H) : rNe (.str s) (.str t) H Q := g_rNe rfl (by rw [dec_str]; exact q)
theorem inV_str {s : Str} : ∀ {ws : List Str}, inV (.str s) (ws.map V.str) = decide (s ∈ ws)
  | [] => (decide_eq_false (by simp)).symm
  | t :: ws => by
    show ((t == s) || inV (.str s) (ws.map V.str)) = _
    rw [inV_str, Bool.eq_iff_iff]
    simp only [Bool.or_eq_true, beq_iff_eq, decide_eq_true_eq, List.mem_cons]
    exact ⟨fun h => h.imp Eq.symm id, fun h => h.imp Eq.symm id⟩
theorem flat_strs : ∀ {ws : List Str}, (ws.map V.str).all flatV = true
  | [] => rfl
  | _ :: ws => flat_strs (ws := ws)
theorem g_inS {p : Addr} {ws : List Str} {s : Str} (h : SqT K H p (ws.map V.str)) (q : Q (.bl (decide (s ∈ ws))) H) : rIn K false (.str s) (.ref p) H Q :=
  ⟨p, _, rfl, .inr h, rfl, flat_strs, by rw [if_neg (by decide), inV_str]; exact q⟩
theorem g_isiS {s : Str} (q : Q (.bl true) H) : rIsi K [.str s, .ty "str"] H Q := g_isi (.ty _) (.base (.str _)) (kit_ty (by decide +kernel)) q
end
local macro_rules | `(tactic| walk_at "use") => `(tactic| with_reducible first | refine g_rEqS ?_ | refine g_rNeS ?_ | refine g_isiS ?_)

/-! ### a op1 b op2 c op3 d as a test -/
section
variable {X : Cx} {σ : St} {H : Hp} {a b c d : Expr} {pos : Pos} {ta tb tc td : TE} {op op' op2 : CmpOp}
def tChain3 (r r' r2 : R2) (ta tb tc td : TE) : TE := fun σ H Q => ta σ H fun x H1 => tb σ H1 fun y H2 => r x y H2 fun z H3 => ∃ k, z = .bl k ∧
  (if k = true then tc σ H3 fun w' H4 => r' y w' H4 fun z2 H5 => ∃ k2, z2 = .bl k2 ∧ (if k2 = true then td σ H5 fun u' H6 => r2 w' u' H6 Q else Q (.bl false) H5) else Q (.bl false) H3)
theorem pt_chain3 {r r' r2 : R2} (ho : OpR X (compareOp op) r) (ho' : OpR X (compareOp op') r') (ho2 : OpR X (compareOp op2) r2) (ha : PE X a ta) (hb : PE X b tb) (hc : PE X c tc) (hd : PE X d td)
    (hm : lastMarks [op, op', op2] [b, c, d] = false := by with_unfolding_all rfl) : PT X (.Compare a [op, op', op2] [b, c, d] pos) (tTest (tChain3 r r' r2 ta tb tc td)) := by
  refine ⟨fun pins s σ H Q I h => ?_⟩
  refine PyProof.Rows.isTrue_chain (thn (ha.run pins s σ H _ I h) fun v s1 ⟨x, H1, I1, r1, q1⟩ => PyProof.Rows.test_link (thn (hb.run pins s1 σ H1 _ I1 q1) fun u s2 ⟨y, H2, I2, r2, q2⟩ =>
    thn (ho pins s2 σ H2 x y v u _ I2 r1 r2 q2) fun d s3 ⟨z, H3, I3, r3, k, e, q3⟩ => ?_)) hm
  subst e
  cases r3
  refine wpAny_truthy_bool ?_
  cases k with
  | false =>
    obtain ⟨k', e', q'⟩ := q3
    cases e'
    exact PyProof.Rows.ite_ff ⟨H3, I3, q'⟩
  | true =>
    refine PyProof.Rows.ite_tt (PyProof.Rows.test_link (thn (hc.run pins s3 σ H3 _ I3 q3) fun w' s4 ⟨z', H4, I4, r4, q4⟩ => thn (ho' pins s4 σ H4 y z' u w' _ I4 r2 r4 q4) fun d' s5 ⟨z2, H5, I5, r5, k2, e2, q5⟩ => ?_))
    subst e2
    cases r5
    refine wpAny_truthy_bool ?_
    cases k2 with
    | false =>
      obtain ⟨k', e', q'⟩ := q5
      cases e'
      exact PyProof.Rows.ite_ff ⟨H5, I5, q'⟩
    | true =>
      refine PyProof.Rows.ite_tt (PyProof.Rows.test_last (thn (hd.run pins s5 σ H5 _ I5 q5) fun u' s6 ⟨z6, H6, I6, r6, q6⟩ => thn (ho2 pins s6 σ H6 z' z6 w' u' _ I6 r4 r6 q6) fun d7 s7 ⟨z7, H7, I7, r7, k7, e7, q7⟩ => ?_))
      subst e7
      cases r7
      exact wpAny_truthy_bool ⟨H7, I7, q7⟩
theorem g_chain3 {r r' r2 : R2} {Q : VK} (h : ta σ H fun x H1 => tb σ H1 fun y H2 => r x y H2 fun z H3 => ∃ k, z = .bl k ∧
  (if k = true then tc σ H3 fun w' H4 => r' y w' H4 fun z2 H5 => ∃ k2, z2 = .bl k2 ∧ (if k2 = true then td σ H5 fun u' H6 => r2 w' u' H6 Q else Q (.bl false) H5) else Q (.bl false) H3)) : tChain3 r r' r2 ta tb tc td σ H Q := h
end
local macro_rules | `(tactic| walk_at "use") => `(tactic| with_reducible refine g_chain3 ?_)

/-! ### an expression that changes nothing, by its value: the ways of a chain are joined -/
def tCutV (t : TE) : TE := fun σ H Q => ∃ v, t σ H (fun v' H' => v' = v ∧ H' = H) ∧ Q v H
theorem pe_cutV {X : Cx} {e : Expr} {t : TE} (h : PE X e t) : PE X e (tCutV t) := by
  refine ⟨fun pins s σ H Q I hq => ?_⟩
  obtain ⟨v, hv, q⟩ := hq
  refine thn (h.run pins s σ H _ I hv) fun u s1 ⟨x, H1, I1, rx, e1, e2⟩ => ?_
  subst e1
  subst e2
  exact ⟨_, _, I1, rx, q⟩
theorem g_cutV {t : TE} {σ : St} {H : Hp} {Q : VK} (v : V) (h : t σ H fun v' H' => v' = v ∧ H' = H) (q : Q v H) : tCutV t σ H Q := ⟨v, h, q⟩
local macro_rules | `(tactic| walk_at "vb") => `(tactic| first | exact ⟨congrArg V.bl (decide_eq_decide.mpr (by omega)), rfl⟩ | exact ⟨congrArg V.bl (decide_eq_false (by omega)).symm, rfl⟩ | exact ⟨congrArg V.bl (decide_eq_true (by omega)).symm, rfl⟩)
/-! the same of a test -/
def tCutT (t : TT) : TT := fun σ H P => ∃ b, t σ H (fun b' H' => b' = b ∧ H' = H) ∧ P b H
theorem pt_cutT {X : Cx} {e : Expr} {t : TT} (h : PT X e t) : PT X e (tCutT t) := by
  refine ⟨fun pins s σ H P I hq => ?_⟩
  obtain ⟨b, hb, p⟩ := hq
  refine thn (h.run pins s σ H _ I hb) fun b' s1 ⟨H1, I1, e1, e2⟩ => ?_
  subst e1
  subst e2
  exact ⟨_, I1, p⟩
theorem g_cutT {t : TT} {σ : St} {H : Hp} {P : Bool → Hp → Prop} (b : Bool) (h : t σ H fun b' H' => b' = b ∧ H' = H) (p : P b H) : tCutT t σ H P := ⟨b, h, p⟩

/-! an attribute among the targets of a tuple -/
section
variable {X : Cx} {K : PySem.W.Frag} {o : Expr} {ta : TE} {f : Str} {pos : Pos}
def gFld (K : PySem.W.Frag) (ta : TE) (f : Str) : TG := fun v σ H Q => ta σ H fun x H2 => ∃ a C dx fs, x = .ref a ∧ H2 a = some (.ins C dx fs) ∧ Cls K C ∧ NoAttr K C f ∧ fs.length < 1000 ∧ Q σ (upd H2 a (.ins C dx (putF f v fs)))
theorem pg_fld (ho : PE X o ta) : PG X (.Attribute o f pos) (gFld X.K ta f) := by
  refine ⟨fun pins s σ H v u Q I r h => ?_⟩
  rw [assign_Attribute]
  refine wpAny_bind (wpAny_holding (thn (ho.run pins s σ H _ I h) fun ov s1 ⟨x, H1, I1, r1, q1⟩ => ?_))
  obtain ⟨a, C, dx, fs, ex, ea, c, n, l, q⟩ := q1
  subst ex
  obtain rfl : ov = Value.ref a := r1
  refine wpAny_bind (wpAny_standAt (wpAny_bind (wpAny_holding (setattr_ok I1 ea c n l r fun s3 I3 => ?_))))
  exact wpAny_release ⟨σ, _, I3, q⟩
theorem g_gfld {σ : St} {H : Hp} {v : V} {Q : St → Hp → Prop} (h : ta σ H fun x H2 => ∃ a C dx fs, x = .ref a ∧ H2 a = some (.ins C dx fs) ∧ Cls K C ∧ NoAttr K C f ∧ fs.length < 1000 ∧ Q σ (upd H2 a (.ins C dx (putF f v fs)))) : gFld K ta f v σ H Q := h
theorem g_gfldV {σ : St} {H : Hp} {v : V} {Q : St → Hp → Prop} {i j : Nat} {a C dx : Addr} {ks : List Str} {vs : List V} (hσ : σ[i]? = some (some (.ref a))) (ho : H a = some (.ins C dx (obj ks vs))) (c : Cls K C) (n : NoAttr K C f) (nd : ks.Nodup) (h1 : ks.length < 1000) (hk : ks[j]? = some f) (hv : j < vs.length)
    (q : Q σ (upd H a (.ins C dx (obj ks (vs.set j v))))) : gFld K (tVar i) f v σ H Q :=
  ⟨_, hσ, a, C, dx, _, rfl, ho, c, n, Nat.lt_of_le_of_lt (obj_len ks vs) h1, by rw [obj_put nd hk hv]; exact q⟩
end
/-! `xs[i] += n` -/
section
variable {X : Cx}
theorem get_list : PGet X (rIxL X.K) := by
  intro pins s σ H o i ov iv Q I ro ri h
  obtain ⟨p, xs, k, z, rfl, rfl, hq, he, q⟩ := h
  cases ro
  obtain ⟨t, rfl⟩ := ri
  obtain ⟨its, r, pl, hz⟩ := I.list hq
  obtain ⟨j, h1, h2, h3, h4, h5⟩ := atI_get he
  obtain ⟨w, ew, rw'⟩ := r.get h2
  have hl := r.length
  have hn := line63
  have fin : EP X pins σ Q w s := ⟨z, H, I, rw', q⟩
  by_cases h0 : 0 ≤ k
  · have hj : k.toNat = j := by
      rw [seqIndex_of h0 h5] at h1
      exact Option.some.inj h1
    exact wpAny_getItem_list pl.isList h0 (by omega) (by rw [hj]; simpa using ew) fin
  · have hj : (k + (its.toArray.size : Int)).toNat = j := by
      rw [seqIndex_neg (by omega) h4] at h1
      rw [List.size_toArray, ← hl]
      exact Option.some.inj h1
    exact wpAny_getItem_list_neg pl.isList (by omega) (by rw [List.size_toArray] <;> omega) (by omega) (by rw [hj]; simpa using ew) fin
theorem g_augS {to ti te : TE} {tget : V → V → Hp → VK → Prop} {tip : TIp} {tset : TSet} {D : Ends} {σ : St} {H : Hp} (h : to σ H fun o H1 => ti σ H1 fun i H2 => tget o i H2 fun x H3 => te σ H3 fun y H4 => tip x y H4 fun z H5 => tset o i z H5 fun H6 => D.nx σ H6) : tAugS to ti te tget tip tset D σ H := h
end
local macro_rules | `(tactic| walk_at "use") => `(tactic| with_reducible first | refine g_augS ?_)
/-! `o.f += n` -/
section
variable {K : PySem.W.Frag} {f : Str}
theorem g_fldaug {tv : TE} {rd : V → V → Hp → VK → Prop} {D : Ends} {σ : St} {H : Hp} {i j : Nat} {a C dx : Addr} {ks : List Str} {vs : List V} {v : V} (hσ : σ[i]? = some (some (.ref a))) (ho : H a = some (.ins C dx (obj ks vs))) (c : Cls K C) (n : NoAttr K C f) (nd : ks.Nodup) (hk : ks[j]? = some f) (hv : vs[j]? = some v)
    (h : tv σ H fun y H2 => rd v y H2 fun z H3 => ∃ dx' fs', H3 a = some (.ins C dx' fs') ∧ fs'.length < 1000 ∧ D.nx σ (upd H3 a (.ins C dx' (putF f z fs')))) : sFldAug K (tVar i) tv rd f D σ H :=
  ⟨_, hσ, a, C, dx, _, v, rfl, ho, c, n, (obj_get nd hk).trans hv, h⟩
theorem g_fldaugE {H : Hp} {j : Nat} {a C dx : Addr} {ks : List Str} {vs : List V} {z : V} {A : Hp → Prop} (ho : H a = some (.ins C dx (obj ks vs))) (nd : ks.Nodup) (h1 : ks.length < 1000) (hk : ks[j]? = some f) (hv : j < vs.length) (q : A (upd H a (.ins C dx (obj ks (vs.set j z))))) :
    ∃ dx' fs', H a = some (.ins C dx' fs') ∧ fs'.length < 1000 ∧ A (upd H a (.ins C dx' (putF f z fs'))) := ⟨dx, _, ho, Nat.lt_of_le_of_lt (obj_len ks vs) h1, by rw [obj_put nd hk hv]; exact q⟩
end

theorem but_or {K : PySem.W.Frag} {p : Addr} {H H' : Hp} {a : Addr} {xs : List V} (e : But p H H') (n : a ≠ p) (h : SqL K H a xs ∨ SqT K H a xs) : SqL K H' a xs ∨ SqT K H' a xs := by
  rcases h with h | h
  · exact .inl (but_sq e n h)
  · refine .inr ?_
    rcases h with h | h
    · rcases h with h | h
      · exact .inl (.inl (e _ _ n h))
      · obtain ⟨o, h⟩ := h
        exact .inl (.inr ⟨o, e _ _ n h⟩)
    · exact .inr h
theorem But.free {p r : Addr} {H H' : Hp} (b : But p H H') (n : r ≠ p) (h : H' r = none) : H r = none := by
  cases e : H r with
  | none => rfl
  | some o =>
    have z := b r o n e
    rw [h] at z
    cases z
theorem upd_upd {H : Hp} {p : Addr} {o o' : HO} : upd (upd H p o) p o' = upd H p o' := by
  funext b
  by_cases e : b = p
  · rw [e, upd_same, upd_same]
  · rw [upd_ne e, upd_ne e, upd_ne e]

/-! ### what is not reached -/
def tDeadE : TE := fun _ _ _ => False
def tDeadS : TS := fun _ _ _ => False
theorem pe_dead {X : Cx} {e : Expr} : PE X e tDeadE := ⟨fun _ _ _ _ _ _ h => (show False from h).elim⟩
theorem ps_dead {X : Cx} {st : Stmt} : PS X st tDeadS := ⟨fun _ _ _ _ _ _ h => (show False from h).elim⟩

end
end My
namespace My
open PySem PySem.Spec L2
local macro_rules | `(tactic| walk_at "side") => `(tactic| first | assumption | decide | omega | exact ⟨by decide, by decide⟩ | exact ⟨by decide, by decide, by decide⟩ | decide +kernel | exact cdivW (by decide +kernel) (by decide +kernel) | exact Or.inl ⟨by omega, by omega⟩ | exact Or.inr ⟨by omega, by omega⟩ | (simp only [List.length_map, List.length_cons, List.length_nil, List.length_append]; omega))
local macro_rules | `(tactic| walk_at "fact") => `(tactic| first | assumption | omega | with_reducible rfl)
local macro_rules | `(tactic| walk_at "use") => `(tactic| fail "use")
local macro_rules | `(tactic| walk_at "go1") => `(tactic| with_reducible first | refine g_seq ?_ | refine g_asg ?_ | refine g_ret ?_ | refine g_ifS ?_ | refine g_drop ?_ | refine g_star ?_ | refine g_nx ?_ | refine g_rt ?_ | refine g_bkE ?_ | refine g_ctE ?_ | refine g_next ?_ | refine g_retN ?_ | refine g_brk ?_ | refine g_ct ?_ | refine g_c ?_ | refine g_op ?_ | refine g_un ?_ | refine g_rI0 ?_ | refine g_rU ?_ | refine g_rEqI ?_ | refine g_rNeI ?_ | refine g_isN ?_ | refine g_rIsB ?_ | refine g_rNotB ?_ | refine g_test ?_ | refine g_B ?_ | refine g_bl ?_ | refine g_and ?_ | refine g_or ?_ | refine g_not ?_ | refine g_andV ?_ | refine g_orV ?_ | refine g_notV ?_ | refine g_if ?_ | refine g_chain ?_ | refine g_yes ?_ | refine g_lc ?_ | refine g_revR ?_ | refine g_rng1 ?_ | refine g_iList ?_ | refine g_nil ?_ | refine g_cons ?_ | refine g_tup ?_ | refine g_lst ?_ | refine g_call ?_ | refine g_CB ?_ | refine g_sl ?_ | refine g_noPart ?_ | refine g_part ?_ | refine g_intE ?_ | refine g_ref ?_ | refine g_fld ?_ | refine g_sfld ?_ | refine g_meth ?_ | refine g_make ?_ | refine g_prop ?_  | refine g_ipI ?_ | refine g_int1 ?_ | refine g_int1B ?_ | refine g_one ?_ | refine g_two ?_ | refine g_isiI ?_ | refine g_isiIB ?_ | refine g_isiB ?_ | refine g_BM ?_ | refine g_BM0 ?_ | refine g_sub ?_)
local macro_rules | `(tactic| walk_at "go") => `(tactic| repeat (first | walk_at "go1" | ((with_reducible refine' g_nameE ?sd_ ?_); case sd_ => dsimp only [List.set_cons_succ, List.set_cons_zero]) | ((with_reducible refine' g_var ?sd_ ?_); case sd_ => exact rfl) | ((with_reducible refine' g_aug ?sd_ ?_); case sd_ => exact rfl) | ((with_reducible refine' g_rI ?sd_ ?_); case sd_ => walk_at "side") | ((with_reducible refine' g_dT ?sd_ ?_); case sd_ => walk_at "fact") | ((with_reducible refine' g_dF ?sd_ ?_); case sd_ => walk_at "fact") | ((with_reducible refine' g_nT ?sd_ ?_); case sd_ => walk_at "fact") | ((with_reducible refine' g_nF ?sd_ ?_); case sd_ => walk_at "fact") | (with_reducible refine g_iT rfl ?_) | (with_reducible refine g_iF rfl ?_) | walk_at "use"))
local macro_rules | `(tactic| walk_at "nw") => `(tactic| (generalize zq : upd _ _ _ = Hq; have sq : Same _ Hq := (by rw [← zq]; exact same_upd (by assumption)); have kq := (congrFun zq _).symm.trans upd_same; clear zq))
local macro_rules | `(tactic| walk_at "bt") => `(tactic| (generalize zq : upd _ _ _ = Hq; have bq : But _ _ Hq := (by rw [← zq]; exact But.refl.upd); have kq := (congrFun zq _).symm.trans upd_same; clear zq))
local macro_rules | `(tactic| walk_at "use") => `(tactic| first | ((with_reducible refine' fd_Segment_source ?ho_ ?hv_ ?_); (case ho_ => first | assumption | exact upd_same); (case hv_ => exact rfl)) | ((with_reducible refine' fd_Segment_target ?ho_ ?hv_ ?_); (case ho_ => first | assumption | exact upd_same); (case hv_ => exact rfl)) | ((with_reducible refine' fd_Segment_seq ?ho_ ?hv_ ?_); (case ho_ => first | assumption | exact upd_same); (case hv_ => exact rfl)) | ((with_reducible refine' fd_Segment_count ?ho_ ?hv_ ?_); (case ho_ => first | assumption | exact upd_same); (case hv_ => exact rfl)) | ((with_reducible refine' fd_Segment_echo ?ho_ ?hv_ ?_); (case ho_ => first | assumption | exact upd_same); (case hv_ => exact rfl)) | ((with_reducible refine' fd_Segment_ack ?ho_ ?hv_ ?_); (case ho_ => first | assumption | exact upd_same); (case hv_ => exact rfl)) | ((with_reducible refine' fd_Segment_syn ?ho_ ?hv_ ?_); (case ho_ => first | assumption | exact upd_same); (case hv_ => exact rfl)) | ((with_reducible refine' fd_Segment_fin ?ho_ ?hv_ ?_); (case ho_ => first | assumption | exact upd_same); (case hv_ => exact rfl)) | ((with_reducible refine' fd_Segment_reset ?ho_ ?hv_ ?_); (case ho_ => first | assumption | exact upd_same); (case hv_ => exact rfl)) | ((with_reducible refine' fd_Segment_marked ?ho_ ?hv_ ?_); (case ho_ => first | assumption | exact upd_same); (case hv_ => exact rfl)) | ((with_reducible refine' fd_Segment_cut ?ho_ ?hv_ ?_); (case ho_ => first | assumption | exact upd_same); (case hv_ => exact rfl)) | ((with_reducible refine' fd_Segment_window ?ho_ ?hv_ ?_); (case ho_ => first | assumption | exact upd_same); (case hv_ => exact rfl)) | ((with_reducible refine' fd_Segment_mss ?ho_ ?hv_ ?_); (case ho_ => first | assumption | exact upd_same); (case hv_ => exact rfl)) | ((with_reducible refine' fd_Segment_scale ?ho_ ?hv_ ?_); (case ho_ => first | assumption | exact upd_same); (case hv_ => exact rfl)) | ((with_reducible refine' fd_Segment_ranges_known ?ho_ ?hv_ ?_); (case ho_ => first | assumption | exact upd_same); (case hv_ => exact rfl)) | ((with_reducible refine' fd_Segment_ranges ?ho_ ?hv_ ?_); (case ho_ => first | assumption | exact upd_same); (case hv_ => exact rfl)) | ((with_reducible refine' fd_Segment_stamp ?ho_ ?hv_ ?_); (case ho_ => first | assumption | exact upd_same); (case hv_ => exact rfl)) | ((with_reducible refine' fd_Segment_data ?ho_ ?hv_ ?_); (case ho_ => first | assumption | exact upd_same); (case hv_ => exact rfl)) | ((with_reducible refine' nw_Segment_source ?ho_ ?hv_ ?_); (case ho_ => first | assumption | exact upd_same); (case hv_ => exact rfl)) | ((with_reducible refine' nw_Segment_target ?ho_ ?hv_ ?_); (case ho_ => first | assumption | exact upd_same); (case hv_ => exact rfl)) | ((with_reducible refine' nw_Segment_seq ?ho_ ?hv_ ?_); (case ho_ => first | assumption | exact upd_same); (case hv_ => exact rfl)) | ((with_reducible refine' nw_Segment_count ?ho_ ?hv_ ?_); (case ho_ => first | assumption | exact upd_same); (case hv_ => exact rfl)) | ((with_reducible refine' nw_Segment_echo ?ho_ ?hv_ ?_); (case ho_ => first | assumption | exact upd_same); (case hv_ => exact rfl)) | ((with_reducible refine' nw_Segment_ack ?ho_ ?hv_ ?_); (case ho_ => first | assumption | exact upd_same); (case hv_ => exact rfl)) | ((with_reducible refine' nw_Segment_syn ?ho_ ?hv_ ?_); (case ho_ => first | assumption | exact upd_same); (case hv_ => exact rfl)) | ((with_reducible refine' nw_Segment_fin ?ho_ ?hv_ ?_); (case ho_ => first | assumption | exact upd_same); (case hv_ => exact rfl)) | ((with_reducible refine' nw_Segment_reset ?ho_ ?hv_ ?_); (case ho_ => first | assumption | exact upd_same); (case hv_ => exact rfl)) | ((with_reducible refine' nw_Segment_marked ?ho_ ?hv_ ?_); (case ho_ => first | assumption | exact upd_same); (case hv_ => exact rfl)) | ((with_reducible refine' nw_Segment_cut ?ho_ ?hv_ ?_); (case ho_ => first | assumption | exact upd_same); (case hv_ => exact rfl)) | ((with_reducible refine' nw_Segment_window ?ho_ ?hv_ ?_); (case ho_ => first | assumption | exact upd_same); (case hv_ => exact rfl)) | ((with_reducible refine' nw_Segment_mss ?ho_ ?hv_ ?_); (case ho_ => first | assumption | exact upd_same); (case hv_ => exact rfl)) | ((with_reducible refine' nw_Segment_scale ?ho_ ?hv_ ?_); (case ho_ => first | assumption | exact upd_same); (case hv_ => exact rfl)) | ((with_reducible refine' nw_Segment_ranges_known ?ho_ ?hv_ ?_); (case ho_ => first | assumption | exact upd_same); (case hv_ => exact rfl)) | ((with_reducible refine' nw_Segment_ranges ?ho_ ?hv_ ?_); (case ho_ => first | assumption | exact upd_same); (case hv_ => exact rfl)) | ((with_reducible refine' nw_Segment_stamp ?ho_ ?hv_ ?_); (case ho_ => first | assumption | exact upd_same); (case hv_ => exact rfl)) | ((with_reducible refine' nw_Segment_data ?ho_ ?hv_ ?_); (case ho_ => first | assumption | exact upd_same); (case hv_ => exact rfl)) | ((with_reducible refine' st_Segment_source ?ho_ ?hv_ ?_); (case ho_ => first | assumption | exact upd_same); (case hv_ => exact Nat.le_of_ble_eq_true rfl)) | ((with_reducible refine' st_Segment_target ?ho_ ?hv_ ?_); (case ho_ => first | assumption | exact upd_same); (case hv_ => exact Nat.le_of_ble_eq_true rfl)) | ((with_reducible refine' st_Segment_seq ?ho_ ?hv_ ?_); (case ho_ => first | assumption | exact upd_same); (case hv_ => exact Nat.le_of_ble_eq_true rfl)) | ((with_reducible refine' st_Segment_count ?ho_ ?hv_ ?_); (case ho_ => first | assumption | exact upd_same); (case hv_ => exact Nat.le_of_ble_eq_true rfl)) | ((with_reducible refine' st_Segment_echo ?ho_ ?hv_ ?_); (case ho_ => first | assumption | exact upd_same); (case hv_ => exact Nat.le_of_ble_eq_true rfl)) | ((with_reducible refine' st_Segment_ack ?ho_ ?hv_ ?_); (case ho_ => first | assumption | exact upd_same); (case hv_ => exact Nat.le_of_ble_eq_true rfl)) | ((with_reducible refine' st_Segment_syn ?ho_ ?hv_ ?_); (case ho_ => first | assumption | exact upd_same); (case hv_ => exact Nat.le_of_ble_eq_true rfl)) | ((with_reducible refine' st_Segment_fin ?ho_ ?hv_ ?_); (case ho_ => first | assumption | exact upd_same); (case hv_ => exact Nat.le_of_ble_eq_true rfl)) | ((with_reducible refine' st_Segment_reset ?ho_ ?hv_ ?_); (case ho_ => first | assumption | exact upd_same); (case hv_ => exact Nat.le_of_ble_eq_true rfl)) | ((with_reducible refine' st_Segment_marked ?ho_ ?hv_ ?_); (case ho_ => first | assumption | exact upd_same); (case hv_ => exact Nat.le_of_ble_eq_true rfl)) | ((with_reducible refine' st_Segment_cut ?ho_ ?hv_ ?_); (case ho_ => first | assumption | exact upd_same); (case hv_ => exact Nat.le_of_ble_eq_true rfl)) | ((with_reducible refine' st_Segment_window ?ho_ ?hv_ ?_); (case ho_ => first | assumption | exact upd_same); (case hv_ => exact Nat.le_of_ble_eq_true rfl)) | ((with_reducible refine' st_Segment_mss ?ho_ ?hv_ ?_); (case ho_ => first | assumption | exact upd_same); (case hv_ => exact Nat.le_of_ble_eq_true rfl)) | ((with_reducible refine' st_Segment_scale ?ho_ ?hv_ ?_); (case ho_ => first | assumption | exact upd_same); (case hv_ => exact Nat.le_of_ble_eq_true rfl)) | ((with_reducible refine' st_Segment_ranges_known ?ho_ ?hv_ ?_); (case ho_ => first | assumption | exact upd_same); (case hv_ => exact Nat.le_of_ble_eq_true rfl)) | ((with_reducible refine' st_Segment_ranges ?ho_ ?hv_ ?_); (case ho_ => first | assumption | exact upd_same); (case hv_ => exact Nat.le_of_ble_eq_true rfl)) | ((with_reducible refine' st_Segment_stamp ?ho_ ?hv_ ?_); (case ho_ => first | assumption | exact upd_same); (case hv_ => exact Nat.le_of_ble_eq_true rfl)) | ((with_reducible refine' st_Segment_data ?ho_ ?hv_ ?_); (case ho_ => first | assumption | exact upd_same); (case hv_ => exact Nat.le_of_ble_eq_true rfl)))
local macro_rules | `(tactic| walk_at "use") => `(tactic| first | ((with_reducible refine' fd_Socket_count ?ho_ ?hv_ ?_); (case ho_ => first | assumption | exact upd_same); (case hv_ => exact rfl)) | ((with_reducible refine' fd_Socket_port ?ho_ ?hv_ ?_); (case ho_ => first | assumption | exact upd_same); (case hv_ => exact rfl)) | ((with_reducible refine' fd_Socket_peer ?ho_ ?hv_ ?_); (case ho_ => first | assumption | exact upd_same); (case hv_ => exact rfl)) | ((with_reducible refine' fd_Socket_peer_port ?ho_ ?hv_ ?_); (case ho_ => first | assumption | exact upd_same); (case hv_ => exact rfl)) | ((with_reducible refine' fd_Socket_peer_count ?ho_ ?hv_ ?_); (case ho_ => first | assumption | exact upd_same); (case hv_ => exact rfl)) | ((with_reducible refine' fd_Socket_peer_first ?ho_ ?hv_ ?_); (case ho_ => first | assumption | exact upd_same); (case hv_ => exact rfl)) | ((with_reducible refine' fd_Socket_peer_shift ?ho_ ?hv_ ?_); (case ho_ => first | assumption | exact upd_same); (case hv_ => exact rfl)) | ((with_reducible refine' fd_Socket_listened ?ho_ ?hv_ ?_); (case ho_ => first | assumption | exact upd_same); (case hv_ => exact rfl)) | ((with_reducible refine' fd_Socket_accepted ?ho_ ?hv_ ?_); (case ho_ => first | assumption | exact upd_same); (case hv_ => exact rfl)) | ((with_reducible refine' fd_Socket_endpoint ?ho_ ?hv_ ?_); (case ho_ => first | assumption | exact upd_same); (case hv_ => exact rfl)) | ((with_reducible refine' nw_Socket_count ?ho_ ?hv_ ?_); (case ho_ => first | assumption | exact upd_same); (case hv_ => exact rfl)) | ((with_reducible refine' nw_Socket_port ?ho_ ?hv_ ?_); (case ho_ => first | assumption | exact upd_same); (case hv_ => exact rfl)) | ((with_reducible refine' nw_Socket_peer ?ho_ ?hv_ ?_); (case ho_ => first | assumption | exact upd_same); (case hv_ => exact rfl)) | ((with_reducible refine' nw_Socket_peer_port ?ho_ ?hv_ ?_); (case ho_ => first | assumption | exact upd_same); (case hv_ => exact rfl)) | ((with_reducible refine' nw_Socket_peer_count ?ho_ ?hv_ ?_); (case ho_ => first | assumption | exact upd_same); (case hv_ => exact rfl)) | ((with_reducible refine' nw_Socket_peer_first ?ho_ ?hv_ ?_); (case ho_ => first | assumption | exact upd_same); (case hv_ => exact rfl)) | ((with_reducible refine' nw_Socket_peer_shift ?ho_ ?hv_ ?_); (case ho_ => first | assumption | exact upd_same); (case hv_ => exact rfl)) | ((with_reducible refine' nw_Socket_listened ?ho_ ?hv_ ?_); (case ho_ => first | assumption | exact upd_same); (case hv_ => exact rfl)) | ((with_reducible refine' nw_Socket_accepted ?ho_ ?hv_ ?_); (case ho_ => first | assumption | exact upd_same); (case hv_ => exact rfl)) | ((with_reducible refine' nw_Socket_endpoint ?ho_ ?hv_ ?_); (case ho_ => first | assumption | exact upd_same); (case hv_ => exact rfl)) | ((with_reducible refine' st_Socket_count ?ho_ ?hv_ ?_); (case ho_ => first | assumption | exact upd_same); (case hv_ => exact Nat.le_of_ble_eq_true rfl)) | ((with_reducible refine' st_Socket_port ?ho_ ?hv_ ?_); (case ho_ => first | assumption | exact upd_same); (case hv_ => exact Nat.le_of_ble_eq_true rfl)) | ((with_reducible refine' st_Socket_peer ?ho_ ?hv_ ?_); (case ho_ => first | assumption | exact upd_same); (case hv_ => exact Nat.le_of_ble_eq_true rfl)) | ((with_reducible refine' st_Socket_peer_port ?ho_ ?hv_ ?_); (case ho_ => first | assumption | exact upd_same); (case hv_ => exact Nat.le_of_ble_eq_true rfl)) | ((with_reducible refine' st_Socket_peer_count ?ho_ ?hv_ ?_); (case ho_ => first | assumption | exact upd_same); (case hv_ => exact Nat.le_of_ble_eq_true rfl)) | ((with_reducible refine' st_Socket_peer_first ?ho_ ?hv_ ?_); (case ho_ => first | assumption | exact upd_same); (case hv_ => exact Nat.le_of_ble_eq_true rfl)) | ((with_reducible refine' st_Socket_peer_shift ?ho_ ?hv_ ?_); (case ho_ => first | assumption | exact upd_same); (case hv_ => exact Nat.le_of_ble_eq_true rfl)) | ((with_reducible refine' st_Socket_listened ?ho_ ?hv_ ?_); (case ho_ => first | assumption | exact upd_same); (case hv_ => exact Nat.le_of_ble_eq_true rfl)) | ((with_reducible refine' st_Socket_accepted ?ho_ ?hv_ ?_); (case ho_ => first | assumption | exact upd_same); (case hv_ => exact Nat.le_of_ble_eq_true rfl)) | ((with_reducible refine' st_Socket_endpoint ?ho_ ?hv_ ?_); (case ho_ => first | assumption | exact upd_same); (case hv_ => exact Nat.le_of_ble_eq_true rfl)) | ((with_reducible refine' me_Socket_is_for ?ho_ ?_); (case ho_ => first | assumption | exact upd_same)) | ((with_reducible refine' me_Socket_learn ?ho_ ?_); (case ho_ => first | assumption | exact upd_same)))
local macro_rules | `(tactic| walk_at "use") => `(tactic| first | ((with_reducible refine' fd_Reno_cwnd ?ho_ ?hv_ ?_); (case ho_ => first | assumption | exact upd_same); (case hv_ => exact rfl)) | ((with_reducible refine' fd_Reno_thresh ?ho_ ?hv_ ?_); (case ho_ => first | assumption | exact upd_same); (case hv_ => exact rfl)) | ((with_reducible refine' fd_Reno_peak ?ho_ ?hv_ ?_); (case ho_ => first | assumption | exact upd_same); (case hv_ => exact rfl)) | ((with_reducible refine' fd_Reno_prior ?ho_ ?hv_ ?_); (case ho_ => first | assumption | exact upd_same); (case hv_ => exact rfl)) | ((with_reducible refine' fd_Reno_calm ?ho_ ?hv_ ?_); (case ho_ => first | assumption | exact upd_same); (case hv_ => exact rfl)) | ((with_reducible refine' fd_Reno_credit ?ho_ ?hv_ ?_); (case ho_ => first | assumption | exact upd_same); (case hv_ => exact rfl)) | ((with_reducible refine' nw_Reno_cwnd ?ho_ ?hv_ ?_); (case ho_ => first | assumption | exact upd_same); (case hv_ => exact rfl)) | ((with_reducible refine' nw_Reno_thresh ?ho_ ?hv_ ?_); (case ho_ => first | assumption | exact upd_same); (case hv_ => exact rfl)) | ((with_reducible refine' nw_Reno_peak ?ho_ ?hv_ ?_); (case ho_ => first | assumption | exact upd_same); (case hv_ => exact rfl)) | ((with_reducible refine' nw_Reno_prior ?ho_ ?hv_ ?_); (case ho_ => first | assumption | exact upd_same); (case hv_ => exact rfl)) | ((with_reducible refine' nw_Reno_calm ?ho_ ?hv_ ?_); (case ho_ => first | assumption | exact upd_same); (case hv_ => exact rfl)) | ((with_reducible refine' nw_Reno_credit ?ho_ ?hv_ ?_); (case ho_ => first | assumption | exact upd_same); (case hv_ => exact rfl)) | ((with_reducible refine' st_Reno_cwnd ?ho_ ?hv_ ?_); (case ho_ => first | assumption | exact upd_same); (case hv_ => exact Nat.le_of_ble_eq_true rfl)) | ((with_reducible refine' st_Reno_thresh ?ho_ ?hv_ ?_); (case ho_ => first | assumption | exact upd_same); (case hv_ => exact Nat.le_of_ble_eq_true rfl)) | ((with_reducible refine' st_Reno_peak ?ho_ ?hv_ ?_); (case ho_ => first | assumption | exact upd_same); (case hv_ => exact Nat.le_of_ble_eq_true rfl)) | ((with_reducible refine' st_Reno_prior ?ho_ ?hv_ ?_); (case ho_ => first | assumption | exact upd_same); (case hv_ => exact Nat.le_of_ble_eq_true rfl)) | ((with_reducible refine' st_Reno_calm ?ho_ ?hv_ ?_); (case ho_ => first | assumption | exact upd_same); (case hv_ => exact Nat.le_of_ble_eq_true rfl)) | ((with_reducible refine' st_Reno_credit ?ho_ ?hv_ ?_); (case ho_ => first | assumption | exact upd_same); (case hv_ => exact Nat.le_of_ble_eq_true rfl)) | ((with_reducible refine' me_Reno_bounded ?ho_ ?_); (case ho_ => first | assumption | exact upd_same)))
local macro_rules | `(tactic| walk_at "use") => `(tactic| first | ((with_reducible refine' fd_RoundTrip_least ?ho_ ?hv_ ?_); (case ho_ => first | assumption | exact upd_same); (case hv_ => exact rfl)) | ((with_reducible refine' fd_RoundTrip_most ?ho_ ?hv_ ?_); (case ho_ => first | assumption | exact upd_same); (case hv_ => exact rfl)) | ((with_reducible refine' fd_RoundTrip_srtt ?ho_ ?hv_ ?_); (case ho_ => first | assumption | exact upd_same); (case hv_ => exact rfl)) | ((with_reducible refine' fd_RoundTrip_variance ?ho_ ?hv_ ?_); (case ho_ => first | assumption | exact upd_same); (case hv_ => exact rfl)) | ((with_reducible refine' fd_RoundTrip_rto ?ho_ ?hv_ ?_); (case ho_ => first | assumption | exact upd_same); (case hv_ => exact rfl)) | ((with_reducible refine' fd_RoundTrip_measured ?ho_ ?hv_ ?_); (case ho_ => first | assumption | exact upd_same); (case hv_ => exact rfl)) | ((with_reducible refine' nw_RoundTrip_least ?ho_ ?hv_ ?_); (case ho_ => first | assumption | exact upd_same); (case hv_ => exact rfl)) | ((with_reducible refine' nw_RoundTrip_most ?ho_ ?hv_ ?_); (case ho_ => first | assumption | exact upd_same); (case hv_ => exact rfl)) | ((with_reducible refine' nw_RoundTrip_srtt ?ho_ ?hv_ ?_); (case ho_ => first | assumption | exact upd_same); (case hv_ => exact rfl)) | ((with_reducible refine' nw_RoundTrip_variance ?ho_ ?hv_ ?_); (case ho_ => first | assumption | exact upd_same); (case hv_ => exact rfl)) | ((with_reducible refine' nw_RoundTrip_rto ?ho_ ?hv_ ?_); (case ho_ => first | assumption | exact upd_same); (case hv_ => exact rfl)) | ((with_reducible refine' nw_RoundTrip_measured ?ho_ ?hv_ ?_); (case ho_ => first | assumption | exact upd_same); (case hv_ => exact rfl)) | ((with_reducible refine' st_RoundTrip_least ?ho_ ?hv_ ?_); (case ho_ => first | assumption | exact upd_same); (case hv_ => exact Nat.le_of_ble_eq_true rfl)) | ((with_reducible refine' st_RoundTrip_most ?ho_ ?hv_ ?_); (case ho_ => first | assumption | exact upd_same); (case hv_ => exact Nat.le_of_ble_eq_true rfl)) | ((with_reducible refine' st_RoundTrip_srtt ?ho_ ?hv_ ?_); (case ho_ => first | assumption | exact upd_same); (case hv_ => exact Nat.le_of_ble_eq_true rfl)) | ((with_reducible refine' st_RoundTrip_variance ?ho_ ?hv_ ?_); (case ho_ => first | assumption | exact upd_same); (case hv_ => exact Nat.le_of_ble_eq_true rfl)) | ((with_reducible refine' st_RoundTrip_rto ?ho_ ?hv_ ?_); (case ho_ => first | assumption | exact upd_same); (case hv_ => exact Nat.le_of_ble_eq_true rfl)) | ((with_reducible refine' st_RoundTrip_measured ?ho_ ?hv_ ?_); (case ho_ => first | assumption | exact upd_same); (case hv_ => exact Nat.le_of_ble_eq_true rfl)) | ((with_reducible refine' me_RoundTrip_within_bounds ?ho_ ?_); (case ho_ => first | assumption | exact upd_same)))
local macro_rules | `(tactic| walk_at "use") => `(tactic| first | ((with_reducible refine' fd_OffsetSet__ranges ?ho_ ?hv_ ?_); (case ho_ => first | assumption | exact upd_same); (case hv_ => exact rfl)) | ((with_reducible refine' nw_OffsetSet__ranges ?ho_ ?hv_ ?_); (case ho_ => first | assumption | exact upd_same); (case hv_ => exact rfl)) | ((with_reducible refine' st_OffsetSet__ranges ?ho_ ?hv_ ?_); (case ho_ => first | assumption | exact upd_same); (case hv_ => exact Nat.le_of_ble_eq_true rfl)))
local macro_rules | `(tactic| walk_at "use") => `(tactic| first | ((with_reducible refine' fd_Receiver_room ?ho_ ?hv_ ?_); (case ho_ => first | assumption | exact upd_same); (case hv_ => exact rfl)) | ((with_reducible refine' fd_Receiver_nxt ?ho_ ?hv_ ?_); (case ho_ => first | assumption | exact upd_same); (case hv_ => exact rfl)) | ((with_reducible refine' fd_Receiver_edge ?ho_ ?hv_ ?_); (case ho_ => first | assumption | exact upd_same); (case hv_ => exact rfl)) | ((with_reducible refine' fd_Receiver_end ?ho_ ?hv_ ?_); (case ho_ => first | assumption | exact upd_same); (case hv_ => exact rfl)) | ((with_reducible refine' fd_Receiver_recent ?ho_ ?hv_ ?_); (case ho_ => first | assumption | exact upd_same); (case hv_ => exact rfl)) | ((with_reducible refine' fd_Receiver__ready ?ho_ ?hv_ ?_); (case ho_ => first | assumption | exact upd_same); (case hv_ => exact rfl)) | ((with_reducible refine' fd_Receiver__held ?ho_ ?hv_ ?_); (case ho_ => first | assumption | exact upd_same); (case hv_ => exact rfl)) | ((with_reducible refine' fd_Receiver__held_offsets ?ho_ ?hv_ ?_); (case ho_ => first | assumption | exact upd_same); (case hv_ => exact rfl)) | ((with_reducible refine' nw_Receiver_room ?ho_ ?hv_ ?_); (case ho_ => first | assumption | exact upd_same); (case hv_ => exact rfl)) | ((with_reducible refine' nw_Receiver_nxt ?ho_ ?hv_ ?_); (case ho_ => first | assumption | exact upd_same); (case hv_ => exact rfl)) | ((with_reducible refine' nw_Receiver_edge ?ho_ ?hv_ ?_); (case ho_ => first | assumption | exact upd_same); (case hv_ => exact rfl)) | ((with_reducible refine' nw_Receiver_end ?ho_ ?hv_ ?_); (case ho_ => first | assumption | exact upd_same); (case hv_ => exact rfl)) | ((with_reducible refine' nw_Receiver_recent ?ho_ ?hv_ ?_); (case ho_ => first | assumption | exact upd_same); (case hv_ => exact rfl)) | ((with_reducible refine' nw_Receiver__ready ?ho_ ?hv_ ?_); (case ho_ => first | assumption | exact upd_same); (case hv_ => exact rfl)) | ((with_reducible refine' nw_Receiver__held ?ho_ ?hv_ ?_); (case ho_ => first | assumption | exact upd_same); (case hv_ => exact rfl)) | ((with_reducible refine' nw_Receiver__held_offsets ?ho_ ?hv_ ?_); (case ho_ => first | assumption | exact upd_same); (case hv_ => exact rfl)) | ((with_reducible refine' st_Receiver_room ?ho_ ?hv_ ?_); (case ho_ => first | assumption | exact upd_same); (case hv_ => exact Nat.le_of_ble_eq_true rfl)) | ((with_reducible refine' st_Receiver_nxt ?ho_ ?hv_ ?_); (case ho_ => first | assumption | exact upd_same); (case hv_ => exact Nat.le_of_ble_eq_true rfl)) | ((with_reducible refine' st_Receiver_edge ?ho_ ?hv_ ?_); (case ho_ => first | assumption | exact upd_same); (case hv_ => exact Nat.le_of_ble_eq_true rfl)) | ((with_reducible refine' st_Receiver_end ?ho_ ?hv_ ?_); (case ho_ => first | assumption | exact upd_same); (case hv_ => exact Nat.le_of_ble_eq_true rfl)) | ((with_reducible refine' st_Receiver_recent ?ho_ ?hv_ ?_); (case ho_ => first | assumption | exact upd_same); (case hv_ => exact Nat.le_of_ble_eq_true rfl)) | ((with_reducible refine' st_Receiver__ready ?ho_ ?hv_ ?_); (case ho_ => first | assumption | exact upd_same); (case hv_ => exact Nat.le_of_ble_eq_true rfl)) | ((with_reducible refine' st_Receiver__held ?ho_ ?hv_ ?_); (case ho_ => first | assumption | exact upd_same); (case hv_ => exact Nat.le_of_ble_eq_true rfl)) | ((with_reducible refine' st_Receiver__held_offsets ?ho_ ?hv_ ?_); (case ho_ => first | assumption | exact upd_same); (case hv_ => exact Nat.le_of_ble_eq_true rfl)))
local macro_rules | `(tactic| walk_at "use") => `(tactic| first | ((with_reducible refine' fd_Sender_room ?ho_ ?hv_ ?_); (case ho_ => first | assumption | exact upd_same); (case hv_ => exact rfl)) | ((with_reducible refine' fd_Sender_una ?ho_ ?hv_ ?_); (case ho_ => first | assumption | exact upd_same); (case hv_ => exact rfl)) | ((with_reducible refine' fd_Sender_nxt ?ho_ ?hv_ ?_); (case ho_ => first | assumption | exact upd_same); (case hv_ => exact rfl)) | ((with_reducible refine' fd_Sender_written ?ho_ ?hv_ ?_); (case ho_ => first | assumption | exact upd_same); (case hv_ => exact rfl)) | ((with_reducible refine' fd_Sender_finished ?ho_ ?hv_ ?_); (case ho_ => first | assumption | exact upd_same); (case hv_ => exact rfl)) | ((with_reducible refine' fd_Sender_edge ?ho_ ?hv_ ?_); (case ho_ => first | assumption | exact upd_same); (case hv_ => exact rfl)) | ((with_reducible refine' fd_Sender_recovery ?ho_ ?hv_ ?_); (case ho_ => first | assumption | exact upd_same); (case hv_ => exact rfl)) | ((with_reducible refine' fd_Sender_resend ?ho_ ?hv_ ?_); (case ho_ => first | assumption | exact upd_same); (case hv_ => exact rfl)) | ((with_reducible refine' fd_Sender_lost ?ho_ ?hv_ ?_); (case ho_ => first | assumption | exact upd_same); (case hv_ => exact rfl)) | ((with_reducible refine' fd_Sender_repeated ?ho_ ?hv_ ?_); (case ho_ => first | assumption | exact upd_same); (case hv_ => exact rfl)) | ((with_reducible refine' fd_Sender__queue ?ho_ ?hv_ ?_); (case ho_ => first | assumption | exact upd_same); (case hv_ => exact rfl)) | ((with_reducible refine' fd_Sender__sacked ?ho_ ?hv_ ?_); (case ho_ => first | assumption | exact upd_same); (case hv_ => exact rfl)) | ((with_reducible refine' nw_Sender_room ?ho_ ?hv_ ?_); (case ho_ => first | assumption | exact upd_same); (case hv_ => exact rfl)) | ((with_reducible refine' nw_Sender_una ?ho_ ?hv_ ?_); (case ho_ => first | assumption | exact upd_same); (case hv_ => exact rfl)) | ((with_reducible refine' nw_Sender_nxt ?ho_ ?hv_ ?_); (case ho_ => first | assumption | exact upd_same); (case hv_ => exact rfl)) | ((with_reducible refine' nw_Sender_written ?ho_ ?hv_ ?_); (case ho_ => first | assumption | exact upd_same); (case hv_ => exact rfl)) | ((with_reducible refine' nw_Sender_finished ?ho_ ?hv_ ?_); (case ho_ => first | assumption | exact upd_same); (case hv_ => exact rfl)) | ((with_reducible refine' nw_Sender_edge ?ho_ ?hv_ ?_); (case ho_ => first | assumption | exact upd_same); (case hv_ => exact rfl)) | ((with_reducible refine' nw_Sender_recovery ?ho_ ?hv_ ?_); (case ho_ => first | assumption | exact upd_same); (case hv_ => exact rfl)) | ((with_reducible refine' nw_Sender_resend ?ho_ ?hv_ ?_); (case ho_ => first | assumption | exact upd_same); (case hv_ => exact rfl)) | ((with_reducible refine' nw_Sender_lost ?ho_ ?hv_ ?_); (case ho_ => first | assumption | exact upd_same); (case hv_ => exact rfl)) | ((with_reducible refine' nw_Sender_repeated ?ho_ ?hv_ ?_); (case ho_ => first | assumption | exact upd_same); (case hv_ => exact rfl)) | ((with_reducible refine' nw_Sender__queue ?ho_ ?hv_ ?_); (case ho_ => first | assumption | exact upd_same); (case hv_ => exact rfl)) | ((with_reducible refine' nw_Sender__sacked ?ho_ ?hv_ ?_); (case ho_ => first | assumption | exact upd_same); (case hv_ => exact rfl)) | ((with_reducible refine' st_Sender_room ?ho_ ?hv_ ?_); (case ho_ => first | assumption | exact upd_same); (case hv_ => exact Nat.le_of_ble_eq_true rfl)) | ((with_reducible refine' st_Sender_una ?ho_ ?hv_ ?_); (case ho_ => first | assumption | exact upd_same); (case hv_ => exact Nat.le_of_ble_eq_true rfl)) | ((with_reducible refine' st_Sender_nxt ?ho_ ?hv_ ?_); (case ho_ => first | assumption | exact upd_same); (case hv_ => exact Nat.le_of_ble_eq_true rfl)) | ((with_reducible refine' st_Sender_written ?ho_ ?hv_ ?_); (case ho_ => first | assumption | exact upd_same); (case hv_ => exact Nat.le_of_ble_eq_true rfl)) | ((with_reducible refine' st_Sender_finished ?ho_ ?hv_ ?_); (case ho_ => first | assumption | exact upd_same); (case hv_ => exact Nat.le_of_ble_eq_true rfl)) | ((with_reducible refine' st_Sender_edge ?ho_ ?hv_ ?_); (case ho_ => first | assumption | exact upd_same); (case hv_ => exact Nat.le_of_ble_eq_true rfl)) | ((with_reducible refine' st_Sender_recovery ?ho_ ?hv_ ?_); (case ho_ => first | assumption | exact upd_same); (case hv_ => exact Nat.le_of_ble_eq_true rfl)) | ((with_reducible refine' st_Sender_resend ?ho_ ?hv_ ?_); (case ho_ => first | assumption | exact upd_same); (case hv_ => exact Nat.le_of_ble_eq_true rfl)) | ((with_reducible refine' st_Sender_lost ?ho_ ?hv_ ?_); (case ho_ => first | assumption | exact upd_same); (case hv_ => exact Nat.le_of_ble_eq_true rfl)) | ((with_reducible refine' st_Sender_repeated ?ho_ ?hv_ ?_); (case ho_ => first | assumption | exact upd_same); (case hv_ => exact Nat.le_of_ble_eq_true rfl)) | ((with_reducible refine' st_Sender__queue ?ho_ ?hv_ ?_); (case ho_ => first | assumption | exact upd_same); (case hv_ => exact Nat.le_of_ble_eq_true rfl)) | ((with_reducible refine' st_Sender__sacked ?ho_ ?hv_ ?_); (case ho_ => first | assumption | exact upd_same); (case hv_ => exact Nat.le_of_ble_eq_true rfl)))
local macro_rules | `(tactic| walk_at "use") => `(tactic| first | ((with_reducible refine' fd_Endpoint_options ?ho_ ?hv_ ?_); (case ho_ => first | assumption | exact upd_same); (case hv_ => exact rfl)) | ((with_reducible refine' fd_Endpoint_sender ?ho_ ?hv_ ?_); (case ho_ => first | assumption | exact upd_same); (case hv_ => exact rfl)) | ((with_reducible refine' fd_Endpoint_receiver ?ho_ ?hv_ ?_); (case ho_ => first | assumption | exact upd_same); (case hv_ => exact rfl)) | ((with_reducible refine' fd_Endpoint_trip ?ho_ ?hv_ ?_); (case ho_ => first | assumption | exact upd_same); (case hv_ => exact rfl)) | ((with_reducible refine' fd_Endpoint_control ?ho_ ?hv_ ?_); (case ho_ => first | assumption | exact upd_same); (case hv_ => exact rfl)) | ((with_reducible refine' fd_Endpoint_phase ?ho_ ?hv_ ?_); (case ho_ => first | assumption | exact upd_same); (case hv_ => exact rfl)) | ((with_reducible refine' fd_Endpoint_cause ?ho_ ?hv_ ?_); (case ho_ => first | assumption | exact upd_same); (case hv_ => exact rfl)) | ((with_reducible refine' fd_Endpoint_mss ?ho_ ?hv_ ?_); (case ho_ => first | assumption | exact upd_same); (case hv_ => exact rfl)) | ((with_reducible refine' fd_Endpoint_selective ?ho_ ?hv_ ?_); (case ho_ => first | assumption | exact upd_same); (case hv_ => exact rfl)) | ((with_reducible refine' fd_Endpoint_alarm ?ho_ ?hv_ ?_); (case ho_ => first | assumption | exact upd_same); (case hv_ => exact rfl)) | ((with_reducible refine' fd_Endpoint_since ?ho_ ?hv_ ?_); (case ho_ => first | assumption | exact upd_same); (case hv_ => exact rfl)) | ((with_reducible refine' fd_Endpoint_ack_at ?ho_ ?hv_ ?_); (case ho_ => first | assumption | exact upd_same); (case hv_ => exact rfl)) | ((with_reducible refine' fd_Endpoint_late ?ho_ ?hv_ ?_); (case ho_ => first | assumption | exact upd_same); (case hv_ => exact rfl)) | ((with_reducible refine' fd_Endpoint_asked ?ho_ ?hv_ ?_); (case ho_ => first | assumption | exact upd_same); (case hv_ => exact rfl)) | ((with_reducible refine' fd_Endpoint_again ?ho_ ?hv_ ?_); (case ho_ => first | assumption | exact upd_same); (case hv_ => exact rfl)) | ((with_reducible refine' fd_Endpoint_probe ?ho_ ?hv_ ?_); (case ho_ => first | assumption | exact upd_same); (case hv_ => exact rfl)) | ((with_reducible refine' fd_Endpoint_over ?ho_ ?hv_ ?_); (case ho_ => first | assumption | exact upd_same); (case hv_ => exact rfl)) | ((with_reducible refine' fd_Endpoint_rest ?ho_ ?hv_ ?_); (case ho_ => first | assumption | exact upd_same); (case hv_ => exact rfl)) | ((with_reducible refine' fd_Endpoint_spent_at ?ho_ ?hv_ ?_); (case ho_ => first | assumption | exact upd_same); (case hv_ => exact rfl)) | ((with_reducible refine' fd_Endpoint_spent ?ho_ ?hv_ ?_); (case ho_ => first | assumption | exact upd_same); (case hv_ => exact rfl)) | ((with_reducible refine' fd_Endpoint_stamp ?ho_ ?hv_ ?_); (case ho_ => first | assumption | exact upd_same); (case hv_ => exact rfl)) | ((with_reducible refine' fd_Endpoint_marked ?ho_ ?hv_ ?_); (case ho_ => first | assumption | exact upd_same); (case hv_ => exact rfl)) | ((with_reducible refine' fd_Endpoint_cut ?ho_ ?hv_ ?_); (case ho_ => first | assumption | exact upd_same); (case hv_ => exact rfl)) | ((with_reducible refine' nw_Endpoint_options ?ho_ ?hv_ ?_); (case ho_ => first | assumption | exact upd_same); (case hv_ => exact rfl)) | ((with_reducible refine' nw_Endpoint_sender ?ho_ ?hv_ ?_); (case ho_ => first | assumption | exact upd_same); (case hv_ => exact rfl)) | ((with_reducible refine' nw_Endpoint_receiver ?ho_ ?hv_ ?_); (case ho_ => first | assumption | exact upd_same); (case hv_ => exact rfl)) | ((with_reducible refine' nw_Endpoint_trip ?ho_ ?hv_ ?_); (case ho_ => first | assumption | exact upd_same); (case hv_ => exact rfl)) | ((with_reducible refine' nw_Endpoint_control ?ho_ ?hv_ ?_); (case ho_ => first | assumption | exact upd_same); (case hv_ => exact rfl)) | ((with_reducible refine' nw_Endpoint_phase ?ho_ ?hv_ ?_); (case ho_ => first | assumption | exact upd_same); (case hv_ => exact rfl)) | ((with_reducible refine' nw_Endpoint_cause ?ho_ ?hv_ ?_); (case ho_ => first | assumption | exact upd_same); (case hv_ => exact rfl)) | ((with_reducible refine' nw_Endpoint_mss ?ho_ ?hv_ ?_); (case ho_ => first | assumption | exact upd_same); (case hv_ => exact rfl)) | ((with_reducible refine' nw_Endpoint_selective ?ho_ ?hv_ ?_); (case ho_ => first | assumption | exact upd_same); (case hv_ => exact rfl)) | ((with_reducible refine' nw_Endpoint_alarm ?ho_ ?hv_ ?_); (case ho_ => first | assumption | exact upd_same); (case hv_ => exact rfl)) | ((with_reducible refine' nw_Endpoint_since ?ho_ ?hv_ ?_); (case ho_ => first | assumption | exact upd_same); (case hv_ => exact rfl)) | ((with_reducible refine' nw_Endpoint_ack_at ?ho_ ?hv_ ?_); (case ho_ => first | assumption | exact upd_same); (case hv_ => exact rfl)) | ((with_reducible refine' nw_Endpoint_late ?ho_ ?hv_ ?_); (case ho_ => first | assumption | exact upd_same); (case hv_ => exact rfl)) | ((with_reducible refine' nw_Endpoint_asked ?ho_ ?hv_ ?_); (case ho_ => first | assumption | exact upd_same); (case hv_ => exact rfl)) | ((with_reducible refine' nw_Endpoint_again ?ho_ ?hv_ ?_); (case ho_ => first | assumption | exact upd_same); (case hv_ => exact rfl)) | ((with_reducible refine' nw_Endpoint_probe ?ho_ ?hv_ ?_); (case ho_ => first | assumption | exact upd_same); (case hv_ => exact rfl)) | ((with_reducible refine' nw_Endpoint_over ?ho_ ?hv_ ?_); (case ho_ => first | assumption | exact upd_same); (case hv_ => exact rfl)) | ((with_reducible refine' nw_Endpoint_rest ?ho_ ?hv_ ?_); (case ho_ => first | assumption | exact upd_same); (case hv_ => exact rfl)) | ((with_reducible refine' nw_Endpoint_spent_at ?ho_ ?hv_ ?_); (case ho_ => first | assumption | exact upd_same); (case hv_ => exact rfl)) | ((with_reducible refine' nw_Endpoint_spent ?ho_ ?hv_ ?_); (case ho_ => first | assumption | exact upd_same); (case hv_ => exact rfl)) | ((with_reducible refine' nw_Endpoint_stamp ?ho_ ?hv_ ?_); (case ho_ => first | assumption | exact upd_same); (case hv_ => exact rfl)) | ((with_reducible refine' nw_Endpoint_marked ?ho_ ?hv_ ?_); (case ho_ => first | assumption | exact upd_same); (case hv_ => exact rfl)) | ((with_reducible refine' nw_Endpoint_cut ?ho_ ?hv_ ?_); (case ho_ => first | assumption | exact upd_same); (case hv_ => exact rfl)) | ((with_reducible refine' st_Endpoint_options ?ho_ ?hv_ ?_); (case ho_ => first | assumption | exact upd_same); (case hv_ => exact Nat.le_of_ble_eq_true rfl)) | ((with_reducible refine' st_Endpoint_sender ?ho_ ?hv_ ?_); (case ho_ => first | assumption | exact upd_same); (case hv_ => exact Nat.le_of_ble_eq_true rfl)) | ((with_reducible refine' st_Endpoint_receiver ?ho_ ?hv_ ?_); (case ho_ => first | assumption | exact upd_same); (case hv_ => exact Nat.le_of_ble_eq_true rfl)) | ((with_reducible refine' st_Endpoint_trip ?ho_ ?hv_ ?_); (case ho_ => first | assumption | exact upd_same); (case hv_ => exact Nat.le_of_ble_eq_true rfl)) | ((with_reducible refine' st_Endpoint_control ?ho_ ?hv_ ?_); (case ho_ => first | assumption | exact upd_same); (case hv_ => exact Nat.le_of_ble_eq_true rfl)) | ((with_reducible refine' st_Endpoint_phase ?ho_ ?hv_ ?_); (case ho_ => first | assumption | exact upd_same); (case hv_ => exact Nat.le_of_ble_eq_true rfl)) | ((with_reducible refine' st_Endpoint_cause ?ho_ ?hv_ ?_); (case ho_ => first | assumption | exact upd_same); (case hv_ => exact Nat.le_of_ble_eq_true rfl)) | ((with_reducible refine' st_Endpoint_mss ?ho_ ?hv_ ?_); (case ho_ => first | assumption | exact upd_same); (case hv_ => exact Nat.le_of_ble_eq_true rfl)) | ((with_reducible refine' st_Endpoint_selective ?ho_ ?hv_ ?_); (case ho_ => first | assumption | exact upd_same); (case hv_ => exact Nat.le_of_ble_eq_true rfl)) | ((with_reducible refine' st_Endpoint_alarm ?ho_ ?hv_ ?_); (case ho_ => first | assumption | exact upd_same); (case hv_ => exact Nat.le_of_ble_eq_true rfl)) | ((with_reducible refine' st_Endpoint_since ?ho_ ?hv_ ?_); (case ho_ => first | assumption | exact upd_same); (case hv_ => exact Nat.le_of_ble_eq_true rfl)) | ((with_reducible refine' st_Endpoint_ack_at ?ho_ ?hv_ ?_); (case ho_ => first | assumption | exact upd_same); (case hv_ => exact Nat.le_of_ble_eq_true rfl)) | ((with_reducible refine' st_Endpoint_late ?ho_ ?hv_ ?_); (case ho_ => first | assumption | exact upd_same); (case hv_ => exact Nat.le_of_ble_eq_true rfl)) | ((with_reducible refine' st_Endpoint_asked ?ho_ ?hv_ ?_); (case ho_ => first | assumption | exact upd_same); (case hv_ => exact Nat.le_of_ble_eq_true rfl)) | ((with_reducible refine' st_Endpoint_again ?ho_ ?hv_ ?_); (case ho_ => first | assumption | exact upd_same); (case hv_ => exact Nat.le_of_ble_eq_true rfl)) | ((with_reducible refine' st_Endpoint_probe ?ho_ ?hv_ ?_); (case ho_ => first | assumption | exact upd_same); (case hv_ => exact Nat.le_of_ble_eq_true rfl)) | ((with_reducible refine' st_Endpoint_over ?ho_ ?hv_ ?_); (case ho_ => first | assumption | exact upd_same); (case hv_ => exact Nat.le_of_ble_eq_true rfl)) | ((with_reducible refine' st_Endpoint_rest ?ho_ ?hv_ ?_); (case ho_ => first | assumption | exact upd_same); (case hv_ => exact Nat.le_of_ble_eq_true rfl)) | ((with_reducible refine' st_Endpoint_spent_at ?ho_ ?hv_ ?_); (case ho_ => first | assumption | exact upd_same); (case hv_ => exact Nat.le_of_ble_eq_true rfl)) | ((with_reducible refine' st_Endpoint_spent ?ho_ ?hv_ ?_); (case ho_ => first | assumption | exact upd_same); (case hv_ => exact Nat.le_of_ble_eq_true rfl)) | ((with_reducible refine' st_Endpoint_stamp ?ho_ ?hv_ ?_); (case ho_ => first | assumption | exact upd_same); (case hv_ => exact Nat.le_of_ble_eq_true rfl)) | ((with_reducible refine' st_Endpoint_marked ?ho_ ?hv_ ?_); (case ho_ => first | assumption | exact upd_same); (case hv_ => exact Nat.le_of_ble_eq_true rfl)) | ((with_reducible refine' st_Endpoint_cut ?ho_ ?hv_ ?_); (case ho_ => first | assumption | exact upd_same); (case hv_ => exact Nat.le_of_ble_eq_true rfl)) | ((with_reducible refine' me_Endpoint_abort ?ho_ ?_); (case ho_ => first | assumption | exact upd_same)) | ((with_reducible refine' me_Endpoint_end ?ho_ ?_); (case ho_ => first | assumption | exact upd_same)))
local macro_rules | `(tactic| walk_at "use") => `(tactic| first | ((with_reducible refine' fd_Options_mss ?ho_ ?hv_ ?_); (case ho_ => first | assumption | exact upd_same); (case hv_ => exact rfl)) | ((with_reducible refine' fd_Options_room ?ho_ ?hv_ ?_); (case ho_ => first | assumption | exact upd_same); (case hv_ => exact rfl)) | ((with_reducible refine' fd_Options_life ?ho_ ?hv_ ?_); (case ho_ => first | assumption | exact upd_same); (case hv_ => exact rfl)) | ((with_reducible refine' fd_Options_pace ?ho_ ?hv_ ?_); (case ho_ => first | assumption | exact upd_same); (case hv_ => exact rfl)) | ((with_reducible refine' fd_Options_tries ?ho_ ?hv_ ?_); (case ho_ => first | assumption | exact upd_same); (case hv_ => exact rfl)) | ((with_reducible refine' fd_Options_min_rto ?ho_ ?hv_ ?_); (case ho_ => first | assumption | exact upd_same); (case hv_ => exact rfl)) | ((with_reducible refine' fd_Options_max_rto ?ho_ ?hv_ ?_); (case ho_ => first | assumption | exact upd_same); (case hv_ => exact rfl)) | ((with_reducible refine' fd_Options_ack_delay ?ho_ ?hv_ ?_); (case ho_ => first | assumption | exact upd_same); (case hv_ => exact rfl)) | ((with_reducible refine' fd_Options_keep_alive ?ho_ ?hv_ ?_); (case ho_ => first | assumption | exact upd_same); (case hv_ => exact rfl)) | ((with_reducible refine' fd_Options_nagle ?ho_ ?hv_ ?_); (case ho_ => first | assumption | exact upd_same); (case hv_ => exact rfl)) | ((with_reducible refine' fd_Options_control ?ho_ ?hv_ ?_); (case ho_ => first | assumption | exact upd_same); (case hv_ => exact rfl)) | ((with_reducible refine' nw_Options_mss ?ho_ ?hv_ ?_); (case ho_ => first | assumption | exact upd_same); (case hv_ => exact rfl)) | ((with_reducible refine' nw_Options_room ?ho_ ?hv_ ?_); (case ho_ => first | assumption | exact upd_same); (case hv_ => exact rfl)) | ((with_reducible refine' nw_Options_life ?ho_ ?hv_ ?_); (case ho_ => first | assumption | exact upd_same); (case hv_ => exact rfl)) | ((with_reducible refine' nw_Options_pace ?ho_ ?hv_ ?_); (case ho_ => first | assumption | exact upd_same); (case hv_ => exact rfl)) | ((with_reducible refine' nw_Options_tries ?ho_ ?hv_ ?_); (case ho_ => first | assumption | exact upd_same); (case hv_ => exact rfl)) | ((with_reducible refine' nw_Options_min_rto ?ho_ ?hv_ ?_); (case ho_ => first | assumption | exact upd_same); (case hv_ => exact rfl)) | ((with_reducible refine' nw_Options_max_rto ?ho_ ?hv_ ?_); (case ho_ => first | assumption | exact upd_same); (case hv_ => exact rfl)) | ((with_reducible refine' nw_Options_ack_delay ?ho_ ?hv_ ?_); (case ho_ => first | assumption | exact upd_same); (case hv_ => exact rfl)) | ((with_reducible refine' nw_Options_keep_alive ?ho_ ?hv_ ?_); (case ho_ => first | assumption | exact upd_same); (case hv_ => exact rfl)) | ((with_reducible refine' nw_Options_nagle ?ho_ ?hv_ ?_); (case ho_ => first | assumption | exact upd_same); (case hv_ => exact rfl)) | ((with_reducible refine' nw_Options_control ?ho_ ?hv_ ?_); (case ho_ => first | assumption | exact upd_same); (case hv_ => exact rfl)) | ((with_reducible refine' st_Options_mss ?ho_ ?hv_ ?_); (case ho_ => first | assumption | exact upd_same); (case hv_ => exact Nat.le_of_ble_eq_true rfl)) | ((with_reducible refine' st_Options_room ?ho_ ?hv_ ?_); (case ho_ => first | assumption | exact upd_same); (case hv_ => exact Nat.le_of_ble_eq_true rfl)) | ((with_reducible refine' st_Options_life ?ho_ ?hv_ ?_); (case ho_ => first | assumption | exact upd_same); (case hv_ => exact Nat.le_of_ble_eq_true rfl)) | ((with_reducible refine' st_Options_pace ?ho_ ?hv_ ?_); (case ho_ => first | assumption | exact upd_same); (case hv_ => exact Nat.le_of_ble_eq_true rfl)) | ((with_reducible refine' st_Options_tries ?ho_ ?hv_ ?_); (case ho_ => first | assumption | exact upd_same); (case hv_ => exact Nat.le_of_ble_eq_true rfl)) | ((with_reducible refine' st_Options_min_rto ?ho_ ?hv_ ?_); (case ho_ => first | assumption | exact upd_same); (case hv_ => exact Nat.le_of_ble_eq_true rfl)) | ((with_reducible refine' st_Options_max_rto ?ho_ ?hv_ ?_); (case ho_ => first | assumption | exact upd_same); (case hv_ => exact Nat.le_of_ble_eq_true rfl)) | ((with_reducible refine' st_Options_ack_delay ?ho_ ?hv_ ?_); (case ho_ => first | assumption | exact upd_same); (case hv_ => exact Nat.le_of_ble_eq_true rfl)) | ((with_reducible refine' st_Options_keep_alive ?ho_ ?hv_ ?_); (case ho_ => first | assumption | exact upd_same); (case hv_ => exact Nat.le_of_ble_eq_true rfl)) | ((with_reducible refine' st_Options_nagle ?ho_ ?hv_ ?_); (case ho_ => first | assumption | exact upd_same); (case hv_ => exact Nat.le_of_ble_eq_true rfl)) | ((with_reducible refine' st_Options_control ?ho_ ?hv_ ?_); (case ho_ => first | assumption | exact upd_same); (case hv_ => exact Nat.le_of_ble_eq_true rfl)) | ((with_reducible refine' me_Options_fork ?ho_ ?_); (case ho_ => first | assumption | exact upd_same)) | ((with_reducible refine' me_Options_wrong_names ?ho_ ?_); (case ho_ => first | assumption | exact upd_same)))
section
variable {P : Program} {w : World} {K : PySem.W.Frag} {mg : Str → Option Value} {base : Heap}
/-! ### an endpoint and a socket, just made: of their parts only that they stand -/
theorem g_gcons {t : TG} {u : List V → St → Hp → (St → Hp → Prop) → Prop} {v : V} {r : List V} {σ : St} {H : Hp} {Q : St → Hp → Prop} (h : t v σ H fun σ' H' => u r σ' H' Q) : gCons t u (v :: r) σ H Q := ⟨v, r, rfl, h⟩
theorem g_gnil {σ : St} {H : Hp} {Q : St → Hp → Prop} (q : Q σ H) : gNil [] σ H Q := ⟨rfl, q⟩
theorem made_same {H H2 : Hp} {x dx : Addr} {o o' : HO} (nx : H x = none) (ndx : H dx = none) (n : dx ≠ x) (b : But x (upd (upd H dx o) x o') H2) : Same H H2 := fun c u e => by
  have h1 : c ≠ x := ne_of_none e nx
  exact b _ _ h1 (by rw [upd_ne h1, upd_ne (ne_of_none e ndx)]; exact e)
local macro_rules | `(tactic| walk_at "use") => `(tactic| with_reducible first | refine g_cval ?_ | refine cvq_Control_GREATEST ?_ | refine g_makeK ?_ | refine g_gcons ?_ | refine g_gnil ?_)
def sp_Reno_bounded (K : PySem.W.Frag) : Sp := fun vs H Q _ => ∃ (x : V) (o : Int), vs = [x, .int o] ∧ ∀ n : Int, Q (.int n) H
theorem ok_Reno_bounded (T : Txt P K mg) : FnOk P w K mg base CX0 1 T.f_Reno_bounded T.d_Reno_bounded ["self", "octets"] (sp_Reno_bounded K) := by
  refine T.F_Reno_bounded.ok sc_Reno_bounded (fun vs H Q E h => ?_) (fun cdv A outer s H vs Q E hr h => ?_)
  · obtain ⟨x, o, rfl, q⟩ := h
    rfl
  · obtain ⟨x, o, rfl, q⟩ := h
    have hu := hu_of hr
    refine ⟨_, (pss_one (ps_ret (pe_callB (call_min2 rfl) (by rfl) T.n_min (by decide +kernel) (pa_cons (pv 1) (pa_cons (ClX.pe_cval (pe_glob (v := .ref T.C_Control) (by rfl) T.c_Control rfl)) pa_nil))))), ?_⟩
    dsimp only [cxOf, Cx.nox, Cx.wish, L2.start, List.map, List.cons_append, List.nil_append, List.length_cons, List.length_nil, Nat.reduceAdd, Nat.reduceSub, Nat.zero_add, List.replicate_succ, List.replicate_zero]
    walk_at "go"
    exact q _
def sp_Reno_upper (C : Addr) : Sp := fun vs H Q _ => ∃ (p dx : Addr) (m : Int), vs = [.ref p, .int m] ∧ H p = some (.ins C dx (obj ky_Reno [])) ∧ ∀ H' (a b c d e : V), But p H H' → H' p = some (.ins C dx (obj ky_Reno [a, b, c, d, e])) → Q .non H'
theorem ok_Reno_upper__init__ (T : Txt P K mg) : FnOk P w K mg base CX0 2 T.f_Reno_upper__init__ T.d_Reno_upper__init__ ["self", "mss"] (sp_Reno_upper T.C_Reno) := by
  refine T.F_Reno_upper__init__.ok sc_Reno_upper__init__ (fun vs H Q E h => ?_) (fun cdv A outer s H vs Q E hr h => ?_)
  · obtain ⟨p, dx, m, rfl, ho, q⟩ := h
    rfl
  · obtain ⟨p, dx, m, rfl, ho, q⟩ := h
    have hu := hu_of hr
    refine ⟨_, (pss_cons (ps_fld (pv 0) (pe_meth (pv 0) T.k_Reno T.a_Reno_bounded (ok_Reno_bounded T) (hr.mono (by decide)) T.b_Reno_bounded .nil pass0 (pa_cons (pe_op op_mul pe_int (pv 1)) pa_nil)) rfl)
        (pss_cons (ps_fld (pv 0) (ClX.pe_cval (pe_glob (v := .ref T.C_Control) (by rfl) T.c_Control rfl)) rfl)
        (pss_cons (ps_fld (pv 0) pe_int rfl)
        (pss_cons (ps_fld (pv 0) pe_int rfl)
        (pss_one (ps_fld (pv 0) pe_int rfl)))))), ?_⟩
    dsimp only [cxOf, Cx.nox, Cx.wish, L2.start, List.map, List.cons_append, List.nil_append, List.length_cons, List.length_nil, Nat.reduceAdd, Nat.reduceSub, Nat.zero_add, List.replicate_succ, List.replicate_zero]
    walk_at "go"
    refine ⟨_, _, rfl, fun n => ?_⟩
    walk_at "go"
    simp only [upd_upd, List.nil_append, List.cons_append]
    exact q _ _ _ _ _ _ But.refl.upd upd_same
def sp_init1 (ky : List Str) (C : Addr) : Sp := fun vs H Q _ => ∃ (p dx : Addr) (m : Int), vs = [.ref p, .int m] ∧ H p = some (.ins C dx (obj ky [])) ∧ ∀ H', But p H H' → Q .non H'
theorem ok_Reno_init__ (T : Txt P K mg) : FnOk P w K mg base CX0 4 T.f_Reno_init__ T.d_Reno_init__ ["self", "mss"] (sp_init1 ky_Reno T.C_Reno) := by
  refine T.F_Reno_init__.ok sc_Reno_init__ (fun vs H Q E h => ?_) (fun A outer s H vs Q E hr h => ?_)
  · obtain ⟨p, dx, m, rfl, ho, q⟩ := h
    rfl
  · obtain ⟨p, dx, m, rfl, ho, q⟩ := h
    have hu := hu_of hr
    refine ⟨_, (pss_super T.F_Reno_init__.sup rfl rfl rfl T.n_super rfl rfl T.F_Reno_init__.params rfl rfl rfl (ok_Reno_upper__init__ T) T.b_Reno_upper__init__ (hr.mono (by decide)) (pa_cons (pv 1) pa_nil)
        (pss_one (ps_fld (pv 0) pe_int rfl))), ?_⟩
    dsimp only [NdefX.ncx, NdefX.startF, Cx.nox, Cx.wish, L2.start, List.map, List.cons_append, List.nil_append, List.length_cons, List.length_nil, Nat.reduceAdd, Nat.reduceSub, Nat.zero_add, List.replicate_succ, List.replicate_zero]
    refine ⟨p, dx, _, rfl, ho, ?_⟩
    walk_at "go"
    refine ⟨p, dx, m, rfl, ho, fun H1 a b c d e b1 k1 => ?_⟩
    walk_at "go"
    simp only [List.nil_append, List.cons_append]
    exact q _ b1.upd
def sp_wb (C : Addr) : Sp := fun vs H Q _ => ∃ (p dx : Addr) (l m x : Int) (r : List V), vs = [.ref p, .int x] ∧ H p = some (.ins C dx (obj ky_RoundTrip (.int l :: .int m :: r))) ∧ ∀ n : Int, Q (.int n) H
theorem ok_RoundTrip_within_bounds (T : Txt P K mg) : FnOk P w K mg base CX0 1 T.f_RoundTrip_within_bounds T.d_RoundTrip_within_bounds ["self", "ticks"] (sp_wb T.C_RoundTrip) := by
  refine T.F_RoundTrip_within_bounds.ok sc_RoundTrip_within_bounds (fun vs H Q E h => ?_) (fun cdv A outer s H vs Q E hr h => ?_)
  · obtain ⟨p, dx, l, m, x, r, rfl, ho, q⟩ := h
    rfl
  · obtain ⟨p, dx, l, m, x, r, rfl, ho, q⟩ := h
    have hu := hu_of hr
    refine ⟨_, (pss_one (ps_ret (pe_callB (call_min2 rfl) (by rfl) T.n_min (by decide +kernel) (pa_cons (pe_callB (call_max2 rfl) (by rfl) T.n_max (by decide +kernel) (pa_cons (pv 1) (pa_cons (pe_fld (pv 0) rfl) pa_nil))) (pa_cons (pe_fld (pv 0) rfl) pa_nil))))), ?_⟩
    dsimp only [cxOf, Cx.nox, Cx.wish, L2.start, List.map, List.cons_append, List.nil_append, List.length_cons, List.length_nil, Nat.reduceAdd, Nat.reduceSub, Nat.zero_add, List.replicate_succ, List.replicate_zero]
    walk_at "go"
    exact q _
def sp_RoundTrip_init (C : Addr) : Sp := fun vs H Q _ => ∃ (p dx : Addr) (l m : Int), vs = [.ref p, .int l, .int m] ∧ H p = some (.ins C dx (obj ky_RoundTrip [])) ∧ ∀ H', But p H H' → Q .non H'
theorem ok_RoundTrip_init__ (T : Txt P K mg) : FnOk P w K mg base CX0 2 T.f_RoundTrip_init__ T.d_RoundTrip_init__ ["self", "least", "most"] (sp_RoundTrip_init T.C_RoundTrip) := by
  refine T.F_RoundTrip_init__.ok sc_RoundTrip_init__ (fun vs H Q E h => ?_) (fun cdv A outer s H vs Q E hr h => ?_)
  · obtain ⟨p, dx, l, m, rfl, ho, q⟩ := h
    rfl
  · obtain ⟨p, dx, l, m, rfl, ho, q⟩ := h
    have hu := hu_of hr
    refine ⟨_, (pss_cons (ps_fld (pv 0) (pv 1) rfl)
        (pss_cons (ps_fld (pv 0) (pv 2) rfl)
        (pss_cons (ps_fld (pv 0) pe_int rfl)
        (pss_cons (ps_fld (pv 0) pe_int rfl)
        (pss_cons (ps_fld (pv 0) (pe_meth (pv 0) T.k_RoundTrip T.a_RoundTrip_within_bounds (ok_RoundTrip_within_bounds T) (hr.mono (by decide)) T.b_RoundTrip_within_bounds .nil pass0 (pa_cons (pe_op op_mul pe_int (pv 1)) pa_nil)) rfl)
        (pss_one (ps_fld (pv 0) pe_bl rfl))))))), ?_⟩
    dsimp only [cxOf, Cx.nox, Cx.wish, L2.start, List.map, List.cons_append, List.nil_append, List.length_cons, List.length_nil, Nat.reduceAdd, Nat.reduceSub, Nat.zero_add, List.replicate_succ, List.replicate_zero]
    walk_at "go"
    simp only [upd_upd, List.nil_append, List.cons_append]
    refine ⟨p, dx, l, m, _, _, rfl, upd_same, fun n => ?_⟩
    walk_at "go"
    exact q _ (But.refl.upd.upd.upd)
def sp_OffsetSet_init (K : PySem.W.Frag) (C : Addr) : Sp := fun vs H Q _ => ∃ (p dx a : Addr), vs = [.ref p, .ref a] ∧ H p = some (.ins C dx (obj ky_OffsetSet [])) ∧ SqT K H a [] ∧ ∀ H', But p H H' → Q .non H'
theorem ok_OffsetSet_init__ (T : Txt P K mg) : FnOk P w K mg base CX0 1 T.f_OffsetSet_init__ T.d_OffsetSet_init__ ["self", "ranges"] (sp_OffsetSet_init K T.C_OffsetSet) := by
  refine T.F_OffsetSet_init__.ok sc_OffsetSet_init__ (fun vs H Q E h => ?_) (fun cdv A outer s H vs Q E hr h => ?_)
  · obtain ⟨p, dx, a, rfl, ho, ha, q⟩ := h
    rfl
  · obtain ⟨p, dx, a, rfl, ho, ha, q⟩ := h
    have hu := hu_of hr
    refine ⟨_, (pss_cons (ps_fld (pv 0) (pe_lst pa_nil) rfl)
        (pss_one (ps_for (passes_of rfl) rfl (pi_tup (pv 1)) (pg_tup rfl (pgs_cons (pg_name (i := 2) sc_OffsetSet_init__.nd rfl (Or.inl rfl)) (pgs_cons (pg_name (i := 3) sc_OffsetSet_init__.nd rfl (Or.inl rfl)) pgs_nil))) (pss_one ps_dead)))), ?_⟩
    dsimp only [cxOf, Cx.nox, Cx.wish, L2.start, List.map, List.cons_append, List.nil_append, List.length_cons, List.length_nil, Nat.reduceAdd, Nat.reduceSub, Nat.zero_add, List.replicate_succ, List.replicate_zero]
    walk_at "go"
    refine ⟨by show 0 ≤ sizeLine; decide, fun l hl => ?_⟩
    walk_at "nw"
    rename_i H1 s1 k1
    have ho1 := s1 _ _ ho
    walk_at "go"
    simp only [List.nil_append]
    walk_at "bt"
    rename_i H2 b2 k2
    have B2 : But p H H2 := (But.of s1).trans b2
    have ha2 : SqT K H2 a [] := by
      rcases ha with (h | ⟨o, h⟩) | h
      · exact .inl (.inl (B2 _ _ (fun z => by rw [z, ho] at h; cases h) h))
      · exact .inl (.inr ⟨o, B2 _ _ (fun z => by rw [z, ho] at h; cases h) h⟩)
      · exact .inr h
    refine g_for ?_
    show tVar 1 _ _ _
    walk_at "go"
    refine ⟨⟨_, ha2⟩, ?_⟩
    refine for_it (walk_tup (xs := [])) (fun i σ H' => i = 0 ∧ H' = H2) ⟨rfl, rfl⟩ (fun i σ H' _ h => by rw [h.2]; exact ha2) (fun i x σ H' H'' hi => by cases hi) ?_
    rintro σ' H3 ⟨_, rfl⟩
    walk_at "go"
    exact q _ B2
theorem kbt_0 {P : Program} {K : PySem.W.Frag} {mg : Str → Option Value} (T : Txt P K mg) : ∃ ds, Vals [(.ref T.e_OffsetSet_init___ranges : V)] ds ∧ Binds K T.d_OffsetSet_init__ ["self", "ranges"] ds :=
  T.F_OffsetSet_init__.binds1 (ps := ["self", "ranges"]) 1 0 (by intro h; cases h) rfl fun _ _ _ _ _ _ _ us its l1 l2 => match us, l1, its, l2 with | [_], _, [_], _ => ⟨_, rfl, rfl⟩
theorem ok_Sender_init__ (T : Txt P K mg) : FnOk P w K mg base CX0 3 T.f_Sender_init__ T.d_Sender_init__ ["self", "room"] (sp_init1 ky_Sender T.C_Sender) := by
  refine T.F_Sender_init__.ok sc_Sender_init__ (fun vs H Q E h => ?_) (fun cdv A outer s H vs Q E hr h => ?_)
  · obtain ⟨p, dx, room, rfl, ho, q⟩ := h
    rfl
  · obtain ⟨p, dx, room, rfl, ho, q⟩ := h
    have hu := hu_of hr
    obtain ⟨ds_0, kv_0, kb_0⟩ := kbt_0 T
    refine ⟨_, (pss_cons (ps_fld (pv 0) (pv 1) rfl)
        (pss_cons (ps_fld (pv 0) pe_int rfl)
        (pss_cons (ps_fld (pv 0) pe_int rfl)
        (pss_cons (ps_fld (pv 0) pe_int rfl)
        (pss_cons (ps_fld (pv 0) pe_bl rfl)
        (pss_cons (ps_fld (pv 0) pe_int rfl)
        (pss_cons (ps_fld (pv 0) pe_non rfl)
        (pss_cons (ps_fld (pv 0) pe_int rfl)
        (pss_cons (ps_fld (pv 0) pe_int rfl)
        (pss_cons (ps_fld (pv 0) pe_int rfl)
        (pss_cons (ps_fld (pv 0) (pe_lst pa_nil) rfl)
        (pss_one (ps_fld (pv 0) (pe_make0 T.mk_OffsetSet (ok_OffsetSet_init__ T) (hr.mono (by decide)) rfl T.c_OffsetSet kb_0 kv_0 pass0) rfl))))))))))))), ?_⟩
    dsimp only [cxOf, Cx.nox, Cx.wish, L2.start, List.map, List.cons_append, List.nil_append, List.length_cons, List.length_nil, Nat.reduceAdd, Nat.reduceSub, Nat.zero_add, List.replicate_succ, List.replicate_zero]
    walk_at "go"
    simp only [upd_upd, List.nil_append, List.cons_append]
    walk_at "bt"
    rename_i H1 b1 k1
    refine ⟨by show 0 ≤ sizeLine; decide, fun ql nql => ?_⟩
    walk_at "nw"
    rename_i H2 s2 kq
    have k2 := s2 _ _ k1
    walk_at "go"
    simp only [upd_upd, List.nil_append, List.cons_append]
    walk_at "bt"
    rename_i H3 b3 k3
    have B3 : But p H H3 := (b1.trans (But.of s2)).trans b3
    walk_at "go"
    rintro os dz nos ndz nod
    have npo : os ≠ p := (ne_of_none k3 nos).symm
    refine ⟨os, dz, _, rfl, upd_same, T.es_OffsetSet_init___ranges _, fun H7 b7 => ⟨rfl, ?_⟩⟩
    have s7 := made_same nos ndz nod b7
    have k7 := s7 _ _ k3
    walk_at "go"
    simp only [List.nil_append, List.cons_append]
    exact q _ ((B3.trans (But.of s7)).upd)
theorem ok_Receiver_init__ (T : Txt P K mg) : FnOk P w K mg base CX0 3 T.f_Receiver_init__ T.d_Receiver_init__ ["self", "room"] (sp_init1 ky_Receiver T.C_Receiver) := by
  refine T.F_Receiver_init__.ok sc_Receiver_init__ (fun vs H Q E h => ?_) (fun cdv A outer s H vs Q E hr h => ?_)
  · obtain ⟨p, dx, room, rfl, ho, q⟩ := h
    rfl
  · obtain ⟨p, dx, room, rfl, ho, q⟩ := h
    have hu := hu_of hr
    obtain ⟨ds_0, kv_0, kb_0⟩ := kbt_0 T
    refine ⟨_, (pss_cons (ps_fld (pv 0) (pv 1) rfl)
        (pss_cons (ps_fld (pv 0) pe_int rfl)
        (pss_cons (ps_fld (pv 0) (pe_op op_add (pv 1) pe_int) rfl)
        (pss_cons (ps_fld (pv 0) pe_non rfl)
        (pss_cons (ps_fld (pv 0) pe_int rfl)
        (pss_cons (ps_fld (pv 0) (pe_lst pa_nil) rfl)
        (pss_cons (ps_fld (pv 0) pe_dnewK rfl)
        (pss_one (ps_fld (pv 0) (pe_make0 T.mk_OffsetSet (ok_OffsetSet_init__ T) (hr.mono (by decide)) rfl T.c_OffsetSet kb_0 kv_0 pass0) rfl))))))))), ?_⟩
    dsimp only [cxOf, Cx.nox, Cx.wish, L2.start, List.map, List.cons_append, List.nil_append, List.length_cons, List.length_nil, Nat.reduceAdd, Nat.reduceSub, Nat.zero_add, List.replicate_succ, List.replicate_zero]
    walk_at "go"
    simp only [upd_upd, List.nil_append, List.cons_append]
    walk_at "bt"
    rename_i H1 b1 k1
    refine ⟨by show 0 ≤ sizeLine; decide, fun rl nrl => ?_⟩
    walk_at "nw"
    rename_i H2 s2 kq
    have k2 := s2 _ _ k1
    walk_at "go"
    simp only [upd_upd, List.nil_append, List.cons_append]
    walk_at "bt"
    rename_i H3 b3 k3
    have B3 : But p H H3 := (b1.trans (But.of s2)).trans b3
    refine fun hd nhd => ?_
    walk_at "nw"
    rename_i H4 s4 kd
    have k4 := s4 _ _ k3
    walk_at "go"
    simp only [upd_upd, List.nil_append, List.cons_append]
    walk_at "bt"
    rename_i H5 b5 k5
    have B5 : But p H H5 := (B3.trans (But.of s4)).trans b5
    walk_at "go"
    rintro os dz nos ndz nod
    refine ⟨os, dz, _, rfl, upd_same, T.es_OffsetSet_init___ranges _, fun H7 b7 => ⟨rfl, ?_⟩⟩
    have s7 := made_same nos ndz nod b7
    have k7 := s7 _ _ k5
    walk_at "go"
    simp only [List.nil_append, List.cons_append]
    exact q _ ((B5.trans (But.of s7)).upd)
def sp_new_control (K : PySem.W.Frag) : Sp := fun vs H Q _ => ∃ (m : Int), vs = [.str "reno", .int m] ∧ ∀ p H', H p = none → Same H H' → Q (.ref p) H'
theorem ok_new_control (T : Txt P K mg) : FnOk P w K mg base CX0 6 T.f_new_control T.d_new_control ["kind", "mss"] (sp_new_control K) := by
  refine T.F_new_control.ok sc_new_control (fun vs H Q E h => ?_) (fun cdv A outer s H vs Q E hr h => ?_)
  · obtain ⟨m, rfl, q⟩ := h
    rfl
  · obtain ⟨m, rfl, q⟩ := h
    have hu := hu_of hr
    refine ⟨_, (pss_one (ps_ret (pe_ifExp (pt_cmpR op_eq (pv 0) pe_str (nomark _)) (pe_dead) (pe_make T.mk_Reno (ok_Reno_init__ T) (hr.mono (by decide)) rfl T.c_Reno T.b_Reno_init__ .nil pass0 (pa_cons (pv 1) pa_nil))))), ?_⟩
    dsimp only [cxOf, Cx.nox, Cx.wish, L2.start, List.map, List.cons_append, List.nil_append, List.length_cons, List.length_nil, Nat.reduceAdd, Nat.reduceSub, Nat.zero_add, List.replicate_succ, List.replicate_zero]
    walk_at "go"
    refine g_rEqS ?_
    rw [show (decide (("reno" : Str) = "cubic")) = false from by decide +kernel]
    refine ⟨false, rfl, ?_⟩
    refine iteF ?_
    walk_at "go"
    rintro x dx nx ndx n
    refine ⟨x, dx, m, rfl, upd_same, fun H' b => ⟨rfl, q _ _ nx (made_same nx ndx n b)⟩⟩

end
end My
namespace My
open PySem PySem.Spec L2
local macro_rules | `(tactic| walk_at "side") => `(tactic| first | assumption | decide | omega | exact ⟨by decide, by decide⟩ | exact ⟨by decide, by decide, by decide⟩ | decide +kernel | exact cdivW (by decide +kernel) (by decide +kernel) | exact Or.inl ⟨by omega, by omega⟩ | exact Or.inr ⟨by omega, by omega⟩ | (simp only [List.length_map, List.length_cons, List.length_nil, List.length_append]; omega))
local macro_rules | `(tactic| walk_at "fact") => `(tactic| first | assumption | omega | with_reducible rfl)
local macro_rules | `(tactic| walk_at "use") => `(tactic| fail "use")
local macro_rules | `(tactic| walk_at "go1") => `(tactic| with_reducible first | refine g_seq ?_ | refine g_asg ?_ | refine g_ret ?_ | refine g_ifS ?_ | refine g_drop ?_ | refine g_star ?_ | refine g_nx ?_ | refine g_rt ?_ | refine g_bkE ?_ | refine g_ctE ?_ | refine g_next ?_ | refine g_retN ?_ | refine g_brk ?_ | refine g_ct ?_ | refine g_c ?_ | refine g_op ?_ | refine g_un ?_ | refine g_rI0 ?_ | refine g_rU ?_ | refine g_rEqI ?_ | refine g_rNeI ?_ | refine g_isN ?_ | refine g_rIsB ?_ | refine g_rNotB ?_ | refine g_test ?_ | refine g_B ?_ | refine g_bl ?_ | refine g_and ?_ | refine g_or ?_ | refine g_not ?_ | refine g_andV ?_ | refine g_orV ?_ | refine g_notV ?_ | refine g_if ?_ | refine g_chain ?_ | refine g_yes ?_ | refine g_lc ?_ | refine g_revR ?_ | refine g_rng1 ?_ | refine g_iList ?_ | refine g_nil ?_ | refine g_cons ?_ | refine g_tup ?_ | refine g_lst ?_ | refine g_call ?_ | refine g_CB ?_ | refine g_sl ?_ | refine g_noPart ?_ | refine g_part ?_ | refine g_intE ?_ | refine g_ref ?_ | refine g_fld ?_ | refine g_sfld ?_ | refine g_meth ?_ | refine g_make ?_ | refine g_prop ?_  | refine g_ipI ?_ | refine g_int1 ?_ | refine g_int1B ?_ | refine g_one ?_ | refine g_two ?_ | refine g_isiI ?_ | refine g_isiIB ?_ | refine g_isiB ?_ | refine g_BM ?_ | refine g_BM0 ?_ | refine g_sub ?_)
local macro_rules | `(tactic| walk_at "go") => `(tactic| repeat (first | walk_at "go1" | ((with_reducible refine' g_nameE ?sd_ ?_); case sd_ => dsimp only [List.set_cons_succ, List.set_cons_zero]) | ((with_reducible refine' g_var ?sd_ ?_); case sd_ => exact rfl) | ((with_reducible refine' g_aug ?sd_ ?_); case sd_ => exact rfl) | ((with_reducible refine' g_rI ?sd_ ?_); case sd_ => walk_at "side") | ((with_reducible refine' g_dT ?sd_ ?_); case sd_ => walk_at "fact") | ((with_reducible refine' g_dF ?sd_ ?_); case sd_ => walk_at "fact") | ((with_reducible refine' g_nT ?sd_ ?_); case sd_ => walk_at "fact") | ((with_reducible refine' g_nF ?sd_ ?_); case sd_ => walk_at "fact") | (with_reducible refine g_iT rfl ?_) | (with_reducible refine g_iF rfl ?_) | walk_at "use"))
local macro_rules | `(tactic| walk_at "nw") => `(tactic| (generalize zq : upd _ _ _ = Hq; have sq : Same _ Hq := (by rw [← zq]; exact same_upd (by assumption)); have kq := (congrFun zq _).symm.trans upd_same; clear zq))
local macro_rules | `(tactic| walk_at "bt") => `(tactic| (generalize zq : upd _ _ _ = Hq; have bq : But _ _ Hq := (by rw [← zq]; exact But.refl.upd); have kq := (congrFun zq _).symm.trans upd_same; clear zq))
local macro_rules | `(tactic| walk_at "use") => `(tactic| first | ((with_reducible refine' fd_Segment_source ?ho_ ?hv_ ?_); (case ho_ => first | assumption | exact upd_same); (case hv_ => exact rfl)) | ((with_reducible refine' fd_Segment_target ?ho_ ?hv_ ?_); (case ho_ => first | assumption | exact upd_same); (case hv_ => exact rfl)) | ((with_reducible refine' fd_Segment_seq ?ho_ ?hv_ ?_); (case ho_ => first | assumption | exact upd_same); (case hv_ => exact rfl)) | ((with_reducible refine' fd_Segment_count ?ho_ ?hv_ ?_); (case ho_ => first | assumption | exact upd_same); (case hv_ => exact rfl)) | ((with_reducible refine' fd_Segment_echo ?ho_ ?hv_ ?_); (case ho_ => first | assumption | exact upd_same); (case hv_ => exact rfl)) | ((with_reducible refine' fd_Segment_ack ?ho_ ?hv_ ?_); (case ho_ => first | assumption | exact upd_same); (case hv_ => exact rfl)) | ((with_reducible refine' fd_Segment_syn ?ho_ ?hv_ ?_); (case ho_ => first | assumption | exact upd_same); (case hv_ => exact rfl)) | ((with_reducible refine' fd_Segment_fin ?ho_ ?hv_ ?_); (case ho_ => first | assumption | exact upd_same); (case hv_ => exact rfl)) | ((with_reducible refine' fd_Segment_reset ?ho_ ?hv_ ?_); (case ho_ => first | assumption | exact upd_same); (case hv_ => exact rfl)) | ((with_reducible refine' fd_Segment_marked ?ho_ ?hv_ ?_); (case ho_ => first | assumption | exact upd_same); (case hv_ => exact rfl)) | ((with_reducible refine' fd_Segment_cut ?ho_ ?hv_ ?_); (case ho_ => first | assumption | exact upd_same); (case hv_ => exact rfl)) | ((with_reducible refine' fd_Segment_window ?ho_ ?hv_ ?_); (case ho_ => first | assumption | exact upd_same); (case hv_ => exact rfl)) | ((with_reducible refine' fd_Segment_mss ?ho_ ?hv_ ?_); (case ho_ => first | assumption | exact upd_same); (case hv_ => exact rfl)) | ((with_reducible refine' fd_Segment_scale ?ho_ ?hv_ ?_); (case ho_ => first | assumption | exact upd_same); (case hv_ => exact rfl)) | ((with_reducible refine' fd_Segment_ranges_known ?ho_ ?hv_ ?_); (case ho_ => first | assumption | exact upd_same); (case hv_ => exact rfl)) | ((with_reducible refine' fd_Segment_ranges ?ho_ ?hv_ ?_); (case ho_ => first | assumption | exact upd_same); (case hv_ => exact rfl)) | ((with_reducible refine' fd_Segment_stamp ?ho_ ?hv_ ?_); (case ho_ => first | assumption | exact upd_same); (case hv_ => exact rfl)) | ((with_reducible refine' fd_Segment_data ?ho_ ?hv_ ?_); (case ho_ => first | assumption | exact upd_same); (case hv_ => exact rfl)) | ((with_reducible refine' nw_Segment_source ?ho_ ?hv_ ?_); (case ho_ => first | assumption | exact upd_same); (case hv_ => exact rfl)) | ((with_reducible refine' nw_Segment_target ?ho_ ?hv_ ?_); (case ho_ => first | assumption | exact upd_same); (case hv_ => exact rfl)) | ((with_reducible refine' nw_Segment_seq ?ho_ ?hv_ ?_); (case ho_ => first | assumption | exact upd_same); (case hv_ => exact rfl)) | ((with_reducible refine' nw_Segment_count ?ho_ ?hv_ ?_); (case ho_ => first | assumption | exact upd_same); (case hv_ => exact rfl)) | ((with_reducible refine' nw_Segment_echo ?ho_ ?hv_ ?_); (case ho_ => first | assumption | exact upd_same); (case hv_ => exact rfl)) | ((with_reducible refine' nw_Segment_ack ?ho_ ?hv_ ?_); (case ho_ => first | assumption | exact upd_same); (case hv_ => exact rfl)) | ((with_reducible refine' nw_Segment_syn ?ho_ ?hv_ ?_); (case ho_ => first | assumption | exact upd_same); (case hv_ => exact rfl)) | ((with_reducible refine' nw_Segment_fin ?ho_ ?hv_ ?_); (case ho_ => first | assumption | exact upd_same); (case hv_ => exact rfl)) | ((with_reducible refine' nw_Segment_reset ?ho_ ?hv_ ?_); (case ho_ => first | assumption | exact upd_same); (case hv_ => exact rfl)) | ((with_reducible refine' nw_Segment_marked ?ho_ ?hv_ ?_); (case ho_ => first | assumption | exact upd_same); (case hv_ => exact rfl)) | ((with_reducible refine' nw_Segment_cut ?ho_ ?hv_ ?_); (case ho_ => first | assumption | exact upd_same); (case hv_ => exact rfl)) | ((with_reducible refine' nw_Segment_window ?ho_ ?hv_ ?_); (case ho_ => first | assumption | exact upd_same); (case hv_ => exact rfl)) | ((with_reducible refine' nw_Segment_mss ?ho_ ?hv_ ?_); (case ho_ => first | assumption | exact upd_same); (case hv_ => exact rfl)) | ((with_reducible refine' nw_Segment_scale ?ho_ ?hv_ ?_); (case ho_ => first | assumption | exact upd_same); (case hv_ => exact rfl)) | ((with_reducible refine' nw_Segment_ranges_known ?ho_ ?hv_ ?_); (case ho_ => first | assumption | exact upd_same); (case hv_ => exact rfl)) | ((with_reducible refine' nw_Segment_ranges ?ho_ ?hv_ ?_); (case ho_ => first | assumption | exact upd_same); (case hv_ => exact rfl)) | ((with_reducible refine' nw_Segment_stamp ?ho_ ?hv_ ?_); (case ho_ => first | assumption | exact upd_same); (case hv_ => exact rfl)) | ((with_reducible refine' nw_Segment_data ?ho_ ?hv_ ?_); (case ho_ => first | assumption | exact upd_same); (case hv_ => exact rfl)) | ((with_reducible refine' st_Segment_source ?ho_ ?hv_ ?_); (case ho_ => first | assumption | exact upd_same); (case hv_ => exact Nat.le_of_ble_eq_true rfl)) | ((with_reducible refine' st_Segment_target ?ho_ ?hv_ ?_); (case ho_ => first | assumption | exact upd_same); (case hv_ => exact Nat.le_of_ble_eq_true rfl)) | ((with_reducible refine' st_Segment_seq ?ho_ ?hv_ ?_); (case ho_ => first | assumption | exact upd_same); (case hv_ => exact Nat.le_of_ble_eq_true rfl)) | ((with_reducible refine' st_Segment_count ?ho_ ?hv_ ?_); (case ho_ => first | assumption | exact upd_same); (case hv_ => exact Nat.le_of_ble_eq_true rfl)) | ((with_reducible refine' st_Segment_echo ?ho_ ?hv_ ?_); (case ho_ => first | assumption | exact upd_same); (case hv_ => exact Nat.le_of_ble_eq_true rfl)) | ((with_reducible refine' st_Segment_ack ?ho_ ?hv_ ?_); (case ho_ => first | assumption | exact upd_same); (case hv_ => exact Nat.le_of_ble_eq_true rfl)) | ((with_reducible refine' st_Segment_syn ?ho_ ?hv_ ?_); (case ho_ => first | assumption | exact upd_same); (case hv_ => exact Nat.le_of_ble_eq_true rfl)) | ((with_reducible refine' st_Segment_fin ?ho_ ?hv_ ?_); (case ho_ => first | assumption | exact upd_same); (case hv_ => exact Nat.le_of_ble_eq_true rfl)) | ((with_reducible refine' st_Segment_reset ?ho_ ?hv_ ?_); (case ho_ => first | assumption | exact upd_same); (case hv_ => exact Nat.le_of_ble_eq_true rfl)) | ((with_reducible refine' st_Segment_marked ?ho_ ?hv_ ?_); (case ho_ => first | assumption | exact upd_same); (case hv_ => exact Nat.le_of_ble_eq_true rfl)) | ((with_reducible refine' st_Segment_cut ?ho_ ?hv_ ?_); (case ho_ => first | assumption | exact upd_same); (case hv_ => exact Nat.le_of_ble_eq_true rfl)) | ((with_reducible refine' st_Segment_window ?ho_ ?hv_ ?_); (case ho_ => first | assumption | exact upd_same); (case hv_ => exact Nat.le_of_ble_eq_true rfl)) | ((with_reducible refine' st_Segment_mss ?ho_ ?hv_ ?_); (case ho_ => first | assumption | exact upd_same); (case hv_ => exact Nat.le_of_ble_eq_true rfl)) | ((with_reducible refine' st_Segment_scale ?ho_ ?hv_ ?_); (case ho_ => first | assumption | exact upd_same); (case hv_ => exact Nat.le_of_ble_eq_true rfl)) | ((with_reducible refine' st_Segment_ranges_known ?ho_ ?hv_ ?_); (case ho_ => first | assumption | exact upd_same); (case hv_ => exact Nat.le_of_ble_eq_true rfl)) | ((with_reducible refine' st_Segment_ranges ?ho_ ?hv_ ?_); (case ho_ => first | assumption | exact upd_same); (case hv_ => exact Nat.le_of_ble_eq_true rfl)) | ((with_reducible refine' st_Segment_stamp ?ho_ ?hv_ ?_); (case ho_ => first | assumption | exact upd_same); (case hv_ => exact Nat.le_of_ble_eq_true rfl)) | ((with_reducible refine' st_Segment_data ?ho_ ?hv_ ?_); (case ho_ => first | assumption | exact upd_same); (case hv_ => exact Nat.le_of_ble_eq_true rfl)))
local macro_rules | `(tactic| walk_at "use") => `(tactic| first | ((with_reducible refine' fd_Socket_count ?ho_ ?hv_ ?_); (case ho_ => first | assumption | exact upd_same); (case hv_ => exact rfl)) | ((with_reducible refine' fd_Socket_port ?ho_ ?hv_ ?_); (case ho_ => first | assumption | exact upd_same); (case hv_ => exact rfl)) | ((with_reducible refine' fd_Socket_peer ?ho_ ?hv_ ?_); (case ho_ => first | assumption | exact upd_same); (case hv_ => exact rfl)) | ((with_reducible refine' fd_Socket_peer_port ?ho_ ?hv_ ?_); (case ho_ => first | assumption | exact upd_same); (case hv_ => exact rfl)) | ((with_reducible refine' fd_Socket_peer_count ?ho_ ?hv_ ?_); (case ho_ => first | assumption | exact upd_same); (case hv_ => exact rfl)) | ((with_reducible refine' fd_Socket_peer_first ?ho_ ?hv_ ?_); (case ho_ => first | assumption | exact upd_same); (case hv_ => exact rfl)) | ((with_reducible refine' fd_Socket_peer_shift ?ho_ ?hv_ ?_); (case ho_ => first | assumption | exact upd_same); (case hv_ => exact rfl)) | ((with_reducible refine' fd_Socket_listened ?ho_ ?hv_ ?_); (case ho_ => first | assumption | exact upd_same); (case hv_ => exact rfl)) | ((with_reducible refine' fd_Socket_accepted ?ho_ ?hv_ ?_); (case ho_ => first | assumption | exact upd_same); (case hv_ => exact rfl)) | ((with_reducible refine' fd_Socket_endpoint ?ho_ ?hv_ ?_); (case ho_ => first | assumption | exact upd_same); (case hv_ => exact rfl)) | ((with_reducible refine' nw_Socket_count ?ho_ ?hv_ ?_); (case ho_ => first | assumption | exact upd_same); (case hv_ => exact rfl)) | ((with_reducible refine' nw_Socket_port ?ho_ ?hv_ ?_); (case ho_ => first | assumption | exact upd_same); (case hv_ => exact rfl)) | ((with_reducible refine' nw_Socket_peer ?ho_ ?hv_ ?_); (case ho_ => first | assumption | exact upd_same); (case hv_ => exact rfl)) | ((with_reducible refine' nw_Socket_peer_port ?ho_ ?hv_ ?_); (case ho_ => first | assumption | exact upd_same); (case hv_ => exact rfl)) | ((with_reducible refine' nw_Socket_peer_count ?ho_ ?hv_ ?_); (case ho_ => first | assumption | exact upd_same); (case hv_ => exact rfl)) | ((with_reducible refine' nw_Socket_peer_first ?ho_ ?hv_ ?_); (case ho_ => first | assumption | exact upd_same); (case hv_ => exact rfl)) | ((with_reducible refine' nw_Socket_peer_shift ?ho_ ?hv_ ?_); (case ho_ => first | assumption | exact upd_same); (case hv_ => exact rfl)) | ((with_reducible refine' nw_Socket_listened ?ho_ ?hv_ ?_); (case ho_ => first | assumption | exact upd_same); (case hv_ => exact rfl)) | ((with_reducible refine' nw_Socket_accepted ?ho_ ?hv_ ?_); (case ho_ => first | assumption | exact upd_same); (case hv_ => exact rfl)) | ((with_reducible refine' nw_Socket_endpoint ?ho_ ?hv_ ?_); (case ho_ => first | assumption | exact upd_same); (case hv_ => exact rfl)) | ((with_reducible refine' st_Socket_count ?ho_ ?hv_ ?_); (case ho_ => first | assumption | exact upd_same); (case hv_ => exact Nat.le_of_ble_eq_true rfl)) | ((with_reducible refine' st_Socket_port ?ho_ ?hv_ ?_); (case ho_ => first | assumption | exact upd_same); (case hv_ => exact Nat.le_of_ble_eq_true rfl)) | ((with_reducible refine' st_Socket_peer ?ho_ ?hv_ ?_); (case ho_ => first | assumption | exact upd_same); (case hv_ => exact Nat.le_of_ble_eq_true rfl)) | ((with_reducible refine' st_Socket_peer_port ?ho_ ?hv_ ?_); (case ho_ => first | assumption | exact upd_same); (case hv_ => exact Nat.le_of_ble_eq_true rfl)) | ((with_reducible refine' st_Socket_peer_count ?ho_ ?hv_ ?_); (case ho_ => first | assumption | exact upd_same); (case hv_ => exact Nat.le_of_ble_eq_true rfl)) | ((with_reducible refine' st_Socket_peer_first ?ho_ ?hv_ ?_); (case ho_ => first | assumption | exact upd_same); (case hv_ => exact Nat.le_of_ble_eq_true rfl)) | ((with_reducible refine' st_Socket_peer_shift ?ho_ ?hv_ ?_); (case ho_ => first | assumption | exact upd_same); (case hv_ => exact Nat.le_of_ble_eq_true rfl)) | ((with_reducible refine' st_Socket_listened ?ho_ ?hv_ ?_); (case ho_ => first | assumption | exact upd_same); (case hv_ => exact Nat.le_of_ble_eq_true rfl)) | ((with_reducible refine' st_Socket_accepted ?ho_ ?hv_ ?_); (case ho_ => first | assumption | exact upd_same); (case hv_ => exact Nat.le_of_ble_eq_true rfl)) | ((with_reducible refine' st_Socket_endpoint ?ho_ ?hv_ ?_); (case ho_ => first | assumption | exact upd_same); (case hv_ => exact Nat.le_of_ble_eq_true rfl)) | ((with_reducible refine' me_Socket_is_for ?ho_ ?_); (case ho_ => first | assumption | exact upd_same)) | ((with_reducible refine' me_Socket_learn ?ho_ ?_); (case ho_ => first | assumption | exact upd_same)))
local macro_rules | `(tactic| walk_at "use") => `(tactic| first | ((with_reducible refine' fd_Reno_cwnd ?ho_ ?hv_ ?_); (case ho_ => first | assumption | exact upd_same); (case hv_ => exact rfl)) | ((with_reducible refine' fd_Reno_thresh ?ho_ ?hv_ ?_); (case ho_ => first | assumption | exact upd_same); (case hv_ => exact rfl)) | ((with_reducible refine' fd_Reno_peak ?ho_ ?hv_ ?_); (case ho_ => first | assumption | exact upd_same); (case hv_ => exact rfl)) | ((with_reducible refine' fd_Reno_prior ?ho_ ?hv_ ?_); (case ho_ => first | assumption | exact upd_same); (case hv_ => exact rfl)) | ((with_reducible refine' fd_Reno_calm ?ho_ ?hv_ ?_); (case ho_ => first | assumption | exact upd_same); (case hv_ => exact rfl)) | ((with_reducible refine' fd_Reno_credit ?ho_ ?hv_ ?_); (case ho_ => first | assumption | exact upd_same); (case hv_ => exact rfl)) | ((with_reducible refine' nw_Reno_cwnd ?ho_ ?hv_ ?_); (case ho_ => first | assumption | exact upd_same); (case hv_ => exact rfl)) | ((with_reducible refine' nw_Reno_thresh ?ho_ ?hv_ ?_); (case ho_ => first | assumption | exact upd_same); (case hv_ => exact rfl)) | ((with_reducible refine' nw_Reno_peak ?ho_ ?hv_ ?_); (case ho_ => first | assumption | exact upd_same); (case hv_ => exact rfl)) | ((with_reducible refine' nw_Reno_prior ?ho_ ?hv_ ?_); (case ho_ => first | assumption | exact upd_same); (case hv_ => exact rfl)) | ((with_reducible refine' nw_Reno_calm ?ho_ ?hv_ ?_); (case ho_ => first | assumption | exact upd_same); (case hv_ => exact rfl)) | ((with_reducible refine' nw_Reno_credit ?ho_ ?hv_ ?_); (case ho_ => first | assumption | exact upd_same); (case hv_ => exact rfl)) | ((with_reducible refine' st_Reno_cwnd ?ho_ ?hv_ ?_); (case ho_ => first | assumption | exact upd_same); (case hv_ => exact Nat.le_of_ble_eq_true rfl)) | ((with_reducible refine' st_Reno_thresh ?ho_ ?hv_ ?_); (case ho_ => first | assumption | exact upd_same); (case hv_ => exact Nat.le_of_ble_eq_true rfl)) | ((with_reducible refine' st_Reno_peak ?ho_ ?hv_ ?_); (case ho_ => first | assumption | exact upd_same); (case hv_ => exact Nat.le_of_ble_eq_true rfl)) | ((with_reducible refine' st_Reno_prior ?ho_ ?hv_ ?_); (case ho_ => first | assumption | exact upd_same); (case hv_ => exact Nat.le_of_ble_eq_true rfl)) | ((with_reducible refine' st_Reno_calm ?ho_ ?hv_ ?_); (case ho_ => first | assumption | exact upd_same); (case hv_ => exact Nat.le_of_ble_eq_true rfl)) | ((with_reducible refine' st_Reno_credit ?ho_ ?hv_ ?_); (case ho_ => first | assumption | exact upd_same); (case hv_ => exact Nat.le_of_ble_eq_true rfl)) | ((with_reducible refine' me_Reno_bounded ?ho_ ?_); (case ho_ => first | assumption | exact upd_same)))
local macro_rules | `(tactic| walk_at "use") => `(tactic| first | ((with_reducible refine' fd_RoundTrip_least ?ho_ ?hv_ ?_); (case ho_ => first | assumption | exact upd_same); (case hv_ => exact rfl)) | ((with_reducible refine' fd_RoundTrip_most ?ho_ ?hv_ ?_); (case ho_ => first | assumption | exact upd_same); (case hv_ => exact rfl)) | ((with_reducible refine' fd_RoundTrip_srtt ?ho_ ?hv_ ?_); (case ho_ => first | assumption | exact upd_same); (case hv_ => exact rfl)) | ((with_reducible refine' fd_RoundTrip_variance ?ho_ ?hv_ ?_); (case ho_ => first | assumption | exact upd_same); (case hv_ => exact rfl)) | ((with_reducible refine' fd_RoundTrip_rto ?ho_ ?hv_ ?_); (case ho_ => first | assumption | exact upd_same); (case hv_ => exact rfl)) | ((with_reducible refine' fd_RoundTrip_measured ?ho_ ?hv_ ?_); (case ho_ => first | assumption | exact upd_same); (case hv_ => exact rfl)) | ((with_reducible refine' nw_RoundTrip_least ?ho_ ?hv_ ?_); (case ho_ => first | assumption | exact upd_same); (case hv_ => exact rfl)) | ((with_reducible refine' nw_RoundTrip_most ?ho_ ?hv_ ?_); (case ho_ => first | assumption | exact upd_same); (case hv_ => exact rfl)) | ((with_reducible refine' nw_RoundTrip_srtt ?ho_ ?hv_ ?_); (case ho_ => first | assumption | exact upd_same); (case hv_ => exact rfl)) | ((with_reducible refine' nw_RoundTrip_variance ?ho_ ?hv_ ?_); (case ho_ => first | assumption | exact upd_same); (case hv_ => exact rfl)) | ((with_reducible refine' nw_RoundTrip_rto ?ho_ ?hv_ ?_); (case ho_ => first | assumption | exact upd_same); (case hv_ => exact rfl)) | ((with_reducible refine' nw_RoundTrip_measured ?ho_ ?hv_ ?_); (case ho_ => first | assumption | exact upd_same); (case hv_ => exact rfl)) | ((with_reducible refine' st_RoundTrip_least ?ho_ ?hv_ ?_); (case ho_ => first | assumption | exact upd_same); (case hv_ => exact Nat.le_of_ble_eq_true rfl)) | ((with_reducible refine' st_RoundTrip_most ?ho_ ?hv_ ?_); (case ho_ => first | assumption | exact upd_same); (case hv_ => exact Nat.le_of_ble_eq_true rfl)) | ((with_reducible refine' st_RoundTrip_srtt ?ho_ ?hv_ ?_); (case ho_ => first | assumption | exact upd_same); (case hv_ => exact Nat.le_of_ble_eq_true rfl)) | ((with_reducible refine' st_RoundTrip_variance ?ho_ ?hv_ ?_); (case ho_ => first | assumption | exact upd_same); (case hv_ => exact Nat.le_of_ble_eq_true rfl)) | ((with_reducible refine' st_RoundTrip_rto ?ho_ ?hv_ ?_); (case ho_ => first | assumption | exact upd_same); (case hv_ => exact Nat.le_of_ble_eq_true rfl)) | ((with_reducible refine' st_RoundTrip_measured ?ho_ ?hv_ ?_); (case ho_ => first | assumption | exact upd_same); (case hv_ => exact Nat.le_of_ble_eq_true rfl)) | ((with_reducible refine' me_RoundTrip_within_bounds ?ho_ ?_); (case ho_ => first | assumption | exact upd_same)))
local macro_rules | `(tactic| walk_at "use") => `(tactic| first | ((with_reducible refine' fd_OffsetSet__ranges ?ho_ ?hv_ ?_); (case ho_ => first | assumption | exact upd_same); (case hv_ => exact rfl)) | ((with_reducible refine' nw_OffsetSet__ranges ?ho_ ?hv_ ?_); (case ho_ => first | assumption | exact upd_same); (case hv_ => exact rfl)) | ((with_reducible refine' st_OffsetSet__ranges ?ho_ ?hv_ ?_); (case ho_ => first | assumption | exact upd_same); (case hv_ => exact Nat.le_of_ble_eq_true rfl)))
local macro_rules | `(tactic| walk_at "use") => `(tactic| first | ((with_reducible refine' fd_Receiver_room ?ho_ ?hv_ ?_); (case ho_ => first | assumption | exact upd_same); (case hv_ => exact rfl)) | ((with_reducible refine' fd_Receiver_nxt ?ho_ ?hv_ ?_); (case ho_ => first | assumption | exact upd_same); (case hv_ => exact rfl)) | ((with_reducible refine' fd_Receiver_edge ?ho_ ?hv_ ?_); (case ho_ => first | assumption | exact upd_same); (case hv_ => exact rfl)) | ((with_reducible refine' fd_Receiver_end ?ho_ ?hv_ ?_); (case ho_ => first | assumption | exact upd_same); (case hv_ => exact rfl)) | ((with_reducible refine' fd_Receiver_recent ?ho_ ?hv_ ?_); (case ho_ => first | assumption | exact upd_same); (case hv_ => exact rfl)) | ((with_reducible refine' fd_Receiver__ready ?ho_ ?hv_ ?_); (case ho_ => first | assumption | exact upd_same); (case hv_ => exact rfl)) | ((with_reducible refine' fd_Receiver__held ?ho_ ?hv_ ?_); (case ho_ => first | assumption | exact upd_same); (case hv_ => exact rfl)) | ((with_reducible refine' fd_Receiver__held_offsets ?ho_ ?hv_ ?_); (case ho_ => first | assumption | exact upd_same); (case hv_ => exact rfl)) | ((with_reducible refine' nw_Receiver_room ?ho_ ?hv_ ?_); (case ho_ => first | assumption | exact upd_same); (case hv_ => exact rfl)) | ((with_reducible refine' nw_Receiver_nxt ?ho_ ?hv_ ?_); (case ho_ => first | assumption | exact upd_same); (case hv_ => exact rfl)) | ((with_reducible refine' nw_Receiver_edge ?ho_ ?hv_ ?_); (case ho_ => first | assumption | exact upd_same); (case hv_ => exact rfl)) | ((with_reducible refine' nw_Receiver_end ?ho_ ?hv_ ?_); (case ho_ => first | assumption | exact upd_same); (case hv_ => exact rfl)) | ((with_reducible refine' nw_Receiver_recent ?ho_ ?hv_ ?_); (case ho_ => first | assumption | exact upd_same); (case hv_ => exact rfl)) | ((with_reducible refine' nw_Receiver__ready ?ho_ ?hv_ ?_); (case ho_ => first | assumption | exact upd_same); (case hv_ => exact rfl)) | ((with_reducible refine' nw_Receiver__held ?ho_ ?hv_ ?_); (case ho_ => first | assumption | exact upd_same); (case hv_ => exact rfl)) | ((with_reducible refine' nw_Receiver__held_offsets ?ho_ ?hv_ ?_); (case ho_ => first | assumption | exact upd_same); (case hv_ => exact rfl)) | ((with_reducible refine' st_Receiver_room ?ho_ ?hv_ ?_); (case ho_ => first | assumption | exact upd_same); (case hv_ => exact Nat.le_of_ble_eq_true rfl)) | ((with_reducible refine' st_Receiver_nxt ?ho_ ?hv_ ?_); (case ho_ => first | assumption | exact upd_same); (case hv_ => exact Nat.le_of_ble_eq_true rfl)) | ((with_reducible refine' st_Receiver_edge ?ho_ ?hv_ ?_); (case ho_ => first | assumption | exact upd_same); (case hv_ => exact Nat.le_of_ble_eq_true rfl)) | ((with_reducible refine' st_Receiver_end ?ho_ ?hv_ ?_); (case ho_ => first | assumption | exact upd_same); (case hv_ => exact Nat.le_of_ble_eq_true rfl)) | ((with_reducible refine' st_Receiver_recent ?ho_ ?hv_ ?_); (case ho_ => first | assumption | exact upd_same); (case hv_ => exact Nat.le_of_ble_eq_true rfl)) | ((with_reducible refine' st_Receiver__ready ?ho_ ?hv_ ?_); (case ho_ => first | assumption | exact upd_same); (case hv_ => exact Nat.le_of_ble_eq_true rfl)) | ((with_reducible refine' st_Receiver__held ?ho_ ?hv_ ?_); (case ho_ => first | assumption | exact upd_same); (case hv_ => exact Nat.le_of_ble_eq_true rfl)) | ((with_reducible refine' st_Receiver__held_offsets ?ho_ ?hv_ ?_); (case ho_ => first | assumption | exact upd_same); (case hv_ => exact Nat.le_of_ble_eq_true rfl)))
local macro_rules | `(tactic| walk_at "use") => `(tactic| first | ((with_reducible refine' fd_Sender_room ?ho_ ?hv_ ?_); (case ho_ => first | assumption | exact upd_same); (case hv_ => exact rfl)) | ((with_reducible refine' fd_Sender_una ?ho_ ?hv_ ?_); (case ho_ => first | assumption | exact upd_same); (case hv_ => exact rfl)) | ((with_reducible refine' fd_Sender_nxt ?ho_ ?hv_ ?_); (case ho_ => first | assumption | exact upd_same); (case hv_ => exact rfl)) | ((with_reducible refine' fd_Sender_written ?ho_ ?hv_ ?_); (case ho_ => first | assumption | exact upd_same); (case hv_ => exact rfl)) | ((with_reducible refine' fd_Sender_finished ?ho_ ?hv_ ?_); (case ho_ => first | assumption | exact upd_same); (case hv_ => exact rfl)) | ((with_reducible refine' fd_Sender_edge ?ho_ ?hv_ ?_); (case ho_ => first | assumption | exact upd_same); (case hv_ => exact rfl)) | ((with_reducible refine' fd_Sender_recovery ?ho_ ?hv_ ?_); (case ho_ => first | assumption | exact upd_same); (case hv_ => exact rfl)) | ((with_reducible refine' fd_Sender_resend ?ho_ ?hv_ ?_); (case ho_ => first | assumption | exact upd_same); (case hv_ => exact rfl)) | ((with_reducible refine' fd_Sender_lost ?ho_ ?hv_ ?_); (case ho_ => first | assumption | exact upd_same); (case hv_ => exact rfl)) | ((with_reducible refine' fd_Sender_repeated ?ho_ ?hv_ ?_); (case ho_ => first | assumption | exact upd_same); (case hv_ => exact rfl)) | ((with_reducible refine' fd_Sender__queue ?ho_ ?hv_ ?_); (case ho_ => first | assumption | exact upd_same); (case hv_ => exact rfl)) | ((with_reducible refine' fd_Sender__sacked ?ho_ ?hv_ ?_); (case ho_ => first | assumption | exact upd_same); (case hv_ => exact rfl)) | ((with_reducible refine' nw_Sender_room ?ho_ ?hv_ ?_); (case ho_ => first | assumption | exact upd_same); (case hv_ => exact rfl)) | ((with_reducible refine' nw_Sender_una ?ho_ ?hv_ ?_); (case ho_ => first | assumption | exact upd_same); (case hv_ => exact rfl)) | ((with_reducible refine' nw_Sender_nxt ?ho_ ?hv_ ?_); (case ho_ => first | assumption | exact upd_same); (case hv_ => exact rfl)) | ((with_reducible refine' nw_Sender_written ?ho_ ?hv_ ?_); (case ho_ => first | assumption | exact upd_same); (case hv_ => exact rfl)) | ((with_reducible refine' nw_Sender_finished ?ho_ ?hv_ ?_); (case ho_ => first | assumption | exact upd_same); (case hv_ => exact rfl)) | ((with_reducible refine' nw_Sender_edge ?ho_ ?hv_ ?_); (case ho_ => first | assumption | exact upd_same); (case hv_ => exact rfl)) | ((with_reducible refine' nw_Sender_recovery ?ho_ ?hv_ ?_); (case ho_ => first | assumption | exact upd_same); (case hv_ => exact rfl)) | ((with_reducible refine' nw_Sender_resend ?ho_ ?hv_ ?_); (case ho_ => first | assumption | exact upd_same); (case hv_ => exact rfl)) | ((with_reducible refine' nw_Sender_lost ?ho_ ?hv_ ?_); (case ho_ => first | assumption | exact upd_same); (case hv_ => exact rfl)) | ((with_reducible refine' nw_Sender_repeated ?ho_ ?hv_ ?_); (case ho_ => first | assumption | exact upd_same); (case hv_ => exact rfl)) | ((with_reducible refine' nw_Sender__queue ?ho_ ?hv_ ?_); (case ho_ => first | assumption | exact upd_same); (case hv_ => exact rfl)) | ((with_reducible refine' nw_Sender__sacked ?ho_ ?hv_ ?_); (case ho_ => first | assumption | exact upd_same); (case hv_ => exact rfl)) | ((with_reducible refine' st_Sender_room ?ho_ ?hv_ ?_); (case ho_ => first | assumption | exact upd_same); (case hv_ => exact Nat.le_of_ble_eq_true rfl)) | ((with_reducible refine' st_Sender_una ?ho_ ?hv_ ?_); (case ho_ => first | assumption | exact upd_same); (case hv_ => exact Nat.le_of_ble_eq_true rfl)) | ((with_reducible refine' st_Sender_nxt ?ho_ ?hv_ ?_); (case ho_ => first | assumption | exact upd_same); (case hv_ => exact Nat.le_of_ble_eq_true rfl)) | ((with_reducible refine' st_Sender_written ?ho_ ?hv_ ?_); (case ho_ => first | assumption | exact upd_same); (case hv_ => exact Nat.le_of_ble_eq_true rfl)) | ((with_reducible refine' st_Sender_finished ?ho_ ?hv_ ?_); (case ho_ => first | assumption | exact upd_same); (case hv_ => exact Nat.le_of_ble_eq_true rfl)) | ((with_reducible refine' st_Sender_edge ?ho_ ?hv_ ?_); (case ho_ => first | assumption | exact upd_same); (case hv_ => exact Nat.le_of_ble_eq_true rfl)) | ((with_reducible refine' st_Sender_recovery ?ho_ ?hv_ ?_); (case ho_ => first | assumption | exact upd_same); (case hv_ => exact Nat.le_of_ble_eq_true rfl)) | ((with_reducible refine' st_Sender_resend ?ho_ ?hv_ ?_); (case ho_ => first | assumption | exact upd_same); (case hv_ => exact Nat.le_of_ble_eq_true rfl)) | ((with_reducible refine' st_Sender_lost ?ho_ ?hv_ ?_); (case ho_ => first | assumption | exact upd_same); (case hv_ => exact Nat.le_of_ble_eq_true rfl)) | ((with_reducible refine' st_Sender_repeated ?ho_ ?hv_ ?_); (case ho_ => first | assumption | exact upd_same); (case hv_ => exact Nat.le_of_ble_eq_true rfl)) | ((with_reducible refine' st_Sender__queue ?ho_ ?hv_ ?_); (case ho_ => first | assumption | exact upd_same); (case hv_ => exact Nat.le_of_ble_eq_true rfl)) | ((with_reducible refine' st_Sender__sacked ?ho_ ?hv_ ?_); (case ho_ => first | assumption | exact upd_same); (case hv_ => exact Nat.le_of_ble_eq_true rfl)))
local macro_rules | `(tactic| walk_at "use") => `(tactic| first | ((with_reducible refine' fd_Endpoint_options ?ho_ ?hv_ ?_); (case ho_ => first | assumption | exact upd_same); (case hv_ => exact rfl)) | ((with_reducible refine' fd_Endpoint_sender ?ho_ ?hv_ ?_); (case ho_ => first | assumption | exact upd_same); (case hv_ => exact rfl)) | ((with_reducible refine' fd_Endpoint_receiver ?ho_ ?hv_ ?_); (case ho_ => first | assumption | exact upd_same); (case hv_ => exact rfl)) | ((with_reducible refine' fd_Endpoint_trip ?ho_ ?hv_ ?_); (case ho_ => first | assumption | exact upd_same); (case hv_ => exact rfl)) | ((with_reducible refine' fd_Endpoint_control ?ho_ ?hv_ ?_); (case ho_ => first | assumption | exact upd_same); (case hv_ => exact rfl)) | ((with_reducible refine' fd_Endpoint_phase ?ho_ ?hv_ ?_); (case ho_ => first | assumption | exact upd_same); (case hv_ => exact rfl)) | ((with_reducible refine' fd_Endpoint_cause ?ho_ ?hv_ ?_); (case ho_ => first | assumption | exact upd_same); (case hv_ => exact rfl)) | ((with_reducible refine' fd_Endpoint_mss ?ho_ ?hv_ ?_); (case ho_ => first | assumption | exact upd_same); (case hv_ => exact rfl)) | ((with_reducible refine' fd_Endpoint_selective ?ho_ ?hv_ ?_); (case ho_ => first | assumption | exact upd_same); (case hv_ => exact rfl)) | ((with_reducible refine' fd_Endpoint_alarm ?ho_ ?hv_ ?_); (case ho_ => first | assumption | exact upd_same); (case hv_ => exact rfl)) | ((with_reducible refine' fd_Endpoint_since ?ho_ ?hv_ ?_); (case ho_ => first | assumption | exact upd_same); (case hv_ => exact rfl)) | ((with_reducible refine' fd_Endpoint_ack_at ?ho_ ?hv_ ?_); (case ho_ => first | assumption | exact upd_same); (case hv_ => exact rfl)) | ((with_reducible refine' fd_Endpoint_late ?ho_ ?hv_ ?_); (case ho_ => first | assumption | exact upd_same); (case hv_ => exact rfl)) | ((with_reducible refine' fd_Endpoint_asked ?ho_ ?hv_ ?_); (case ho_ => first | assumption | exact upd_same); (case hv_ => exact rfl)) | ((with_reducible refine' fd_Endpoint_again ?ho_ ?hv_ ?_); (case ho_ => first | assumption | exact upd_same); (case hv_ => exact rfl)) | ((with_reducible refine' fd_Endpoint_probe ?ho_ ?hv_ ?_); (case ho_ => first | assumption | exact upd_same); (case hv_ => exact rfl)) | ((with_reducible refine' fd_Endpoint_over ?ho_ ?hv_ ?_); (case ho_ => first | assumption | exact upd_same); (case hv_ => exact rfl)) | ((with_reducible refine' fd_Endpoint_rest ?ho_ ?hv_ ?_); (case ho_ => first | assumption | exact upd_same); (case hv_ => exact rfl)) | ((with_reducible refine' fd_Endpoint_spent_at ?ho_ ?hv_ ?_); (case ho_ => first | assumption | exact upd_same); (case hv_ => exact rfl)) | ((with_reducible refine' fd_Endpoint_spent ?ho_ ?hv_ ?_); (case ho_ => first | assumption | exact upd_same); (case hv_ => exact rfl)) | ((with_reducible refine' fd_Endpoint_stamp ?ho_ ?hv_ ?_); (case ho_ => first | assumption | exact upd_same); (case hv_ => exact rfl)) | ((with_reducible refine' fd_Endpoint_marked ?ho_ ?hv_ ?_); (case ho_ => first | assumption | exact upd_same); (case hv_ => exact rfl)) | ((with_reducible refine' fd_Endpoint_cut ?ho_ ?hv_ ?_); (case ho_ => first | assumption | exact upd_same); (case hv_ => exact rfl)) | ((with_reducible refine' nw_Endpoint_options ?ho_ ?hv_ ?_); (case ho_ => first | assumption | exact upd_same); (case hv_ => exact rfl)) | ((with_reducible refine' nw_Endpoint_sender ?ho_ ?hv_ ?_); (case ho_ => first | assumption | exact upd_same); (case hv_ => exact rfl)) | ((with_reducible refine' nw_Endpoint_receiver ?ho_ ?hv_ ?_); (case ho_ => first | assumption | exact upd_same); (case hv_ => exact rfl)) | ((with_reducible refine' nw_Endpoint_trip ?ho_ ?hv_ ?_); (case ho_ => first | assumption | exact upd_same); (case hv_ => exact rfl)) | ((with_reducible refine' nw_Endpoint_control ?ho_ ?hv_ ?_); (case ho_ => first | assumption | exact upd_same); (case hv_ => exact rfl)) | ((with_reducible refine' nw_Endpoint_phase ?ho_ ?hv_ ?_); (case ho_ => first | assumption | exact upd_same); (case hv_ => exact rfl)) | ((with_reducible refine' nw_Endpoint_cause ?ho_ ?hv_ ?_); (case ho_ => first | assumption | exact upd_same); (case hv_ => exact rfl)) | ((with_reducible refine' nw_Endpoint_mss ?ho_ ?hv_ ?_); (case ho_ => first | assumption | exact upd_same); (case hv_ => exact rfl)) | ((with_reducible refine' nw_Endpoint_selective ?ho_ ?hv_ ?_); (case ho_ => first | assumption | exact upd_same); (case hv_ => exact rfl)) | ((with_reducible refine' nw_Endpoint_alarm ?ho_ ?hv_ ?_); (case ho_ => first | assumption | exact upd_same); (case hv_ => exact rfl)) | ((with_reducible refine' nw_Endpoint_since ?ho_ ?hv_ ?_); (case ho_ => first | assumption | exact upd_same); (case hv_ => exact rfl)) | ((with_reducible refine' nw_Endpoint_ack_at ?ho_ ?hv_ ?_); (case ho_ => first | assumption | exact upd_same); (case hv_ => exact rfl)) | ((with_reducible refine' nw_Endpoint_late ?ho_ ?hv_ ?_); (case ho_ => first | assumption | exact upd_same); (case hv_ => exact rfl)) | ((with_reducible refine' nw_Endpoint_asked ?ho_ ?hv_ ?_); (case ho_ => first | assumption | exact upd_same); (case hv_ => exact rfl)) | ((with_reducible refine' nw_Endpoint_again ?ho_ ?hv_ ?_); (case ho_ => first | assumption | exact upd_same); (case hv_ => exact rfl)) | ((with_reducible refine' nw_Endpoint_probe ?ho_ ?hv_ ?_); (case ho_ => first | assumption | exact upd_same); (case hv_ => exact rfl)) | ((with_reducible refine' nw_Endpoint_over ?ho_ ?hv_ ?_); (case ho_ => first | assumption | exact upd_same); (case hv_ => exact rfl)) | ((with_reducible refine' nw_Endpoint_rest ?ho_ ?hv_ ?_); (case ho_ => first | assumption | exact upd_same); (case hv_ => exact rfl)) | ((with_reducible refine' nw_Endpoint_spent_at ?ho_ ?hv_ ?_); (case ho_ => first | assumption | exact upd_same); (case hv_ => exact rfl)) | ((with_reducible refine' nw_Endpoint_spent ?ho_ ?hv_ ?_); (case ho_ => first | assumption | exact upd_same); (case hv_ => exact rfl)) | ((with_reducible refine' nw_Endpoint_stamp ?ho_ ?hv_ ?_); (case ho_ => first | assumption | exact upd_same); (case hv_ => exact rfl)) | ((with_reducible refine' nw_Endpoint_marked ?ho_ ?hv_ ?_); (case ho_ => first | assumption | exact upd_same); (case hv_ => exact rfl)) | ((with_reducible refine' nw_Endpoint_cut ?ho_ ?hv_ ?_); (case ho_ => first | assumption | exact upd_same); (case hv_ => exact rfl)) | ((with_reducible refine' st_Endpoint_options ?ho_ ?hv_ ?_); (case ho_ => first | assumption | exact upd_same); (case hv_ => exact Nat.le_of_ble_eq_true rfl)) | ((with_reducible refine' st_Endpoint_sender ?ho_ ?hv_ ?_); (case ho_ => first | assumption | exact upd_same); (case hv_ => exact Nat.le_of_ble_eq_true rfl)) | ((with_reducible refine' st_Endpoint_receiver ?ho_ ?hv_ ?_); (case ho_ => first | assumption | exact upd_same); (case hv_ => exact Nat.le_of_ble_eq_true rfl)) | ((with_reducible refine' st_Endpoint_trip ?ho_ ?hv_ ?_); (case ho_ => first | assumption | exact upd_same); (case hv_ => exact Nat.le_of_ble_eq_true rfl)) | ((with_reducible refine' st_Endpoint_control ?ho_ ?hv_ ?_); (case ho_ => first | assumption | exact upd_same); (case hv_ => exact Nat.le_of_ble_eq_true rfl)) | ((with_reducible refine' st_Endpoint_phase ?ho_ ?hv_ ?_); (case ho_ => first | assumption | exact upd_same); (case hv_ => exact Nat.le_of_ble_eq_true rfl)) | ((with_reducible refine' st_Endpoint_cause ?ho_ ?hv_ ?_); (case ho_ => first | assumption | exact upd_same); (case hv_ => exact Nat.le_of_ble_eq_true rfl)) | ((with_reducible refine' st_Endpoint_mss ?ho_ ?hv_ ?_); (case ho_ => first | assumption | exact upd_same); (case hv_ => exact Nat.le_of_ble_eq_true rfl)) | ((with_reducible refine' st_Endpoint_selective ?ho_ ?hv_ ?_); (case ho_ => first | assumption | exact upd_same); (case hv_ => exact Nat.le_of_ble_eq_true rfl)) | ((with_reducible refine' st_Endpoint_alarm ?ho_ ?hv_ ?_); (case ho_ => first | assumption | exact upd_same); (case hv_ => exact Nat.le_of_ble_eq_true rfl)) | ((with_reducible refine' st_Endpoint_since ?ho_ ?hv_ ?_); (case ho_ => first | assumption | exact upd_same); (case hv_ => exact Nat.le_of_ble_eq_true rfl)) | ((with_reducible refine' st_Endpoint_ack_at ?ho_ ?hv_ ?_); (case ho_ => first | assumption | exact upd_same); (case hv_ => exact Nat.le_of_ble_eq_true rfl)) | ((with_reducible refine' st_Endpoint_late ?ho_ ?hv_ ?_); (case ho_ => first | assumption | exact upd_same); (case hv_ => exact Nat.le_of_ble_eq_true rfl)) | ((with_reducible refine' st_Endpoint_asked ?ho_ ?hv_ ?_); (case ho_ => first | assumption | exact upd_same); (case hv_ => exact Nat.le_of_ble_eq_true rfl)) | ((with_reducible refine' st_Endpoint_again ?ho_ ?hv_ ?_); (case ho_ => first | assumption | exact upd_same); (case hv_ => exact Nat.le_of_ble_eq_true rfl)) | ((with_reducible refine' st_Endpoint_probe ?ho_ ?hv_ ?_); (case ho_ => first | assumption | exact upd_same); (case hv_ => exact Nat.le_of_ble_eq_true rfl)) | ((with_reducible refine' st_Endpoint_over ?ho_ ?hv_ ?_); (case ho_ => first | assumption | exact upd_same); (case hv_ => exact Nat.le_of_ble_eq_true rfl)) | ((with_reducible refine' st_Endpoint_rest ?ho_ ?hv_ ?_); (case ho_ => first | assumption | exact upd_same); (case hv_ => exact Nat.le_of_ble_eq_true rfl)) | ((with_reducible refine' st_Endpoint_spent_at ?ho_ ?hv_ ?_); (case ho_ => first | assumption | exact upd_same); (case hv_ => exact Nat.le_of_ble_eq_true rfl)) | ((with_reducible refine' st_Endpoint_spent ?ho_ ?hv_ ?_); (case ho_ => first | assumption | exact upd_same); (case hv_ => exact Nat.le_of_ble_eq_true rfl)) | ((with_reducible refine' st_Endpoint_stamp ?ho_ ?hv_ ?_); (case ho_ => first | assumption | exact upd_same); (case hv_ => exact Nat.le_of_ble_eq_true rfl)) | ((with_reducible refine' st_Endpoint_marked ?ho_ ?hv_ ?_); (case ho_ => first | assumption | exact upd_same); (case hv_ => exact Nat.le_of_ble_eq_true rfl)) | ((with_reducible refine' st_Endpoint_cut ?ho_ ?hv_ ?_); (case ho_ => first | assumption | exact upd_same); (case hv_ => exact Nat.le_of_ble_eq_true rfl)) | ((with_reducible refine' me_Endpoint_abort ?ho_ ?_); (case ho_ => first | assumption | exact upd_same)) | ((with_reducible refine' me_Endpoint_end ?ho_ ?_); (case ho_ => first | assumption | exact upd_same)))
local macro_rules | `(tactic| walk_at "use") => `(tactic| first | ((with_reducible refine' fd_Options_mss ?ho_ ?hv_ ?_); (case ho_ => first | assumption | exact upd_same); (case hv_ => exact rfl)) | ((with_reducible refine' fd_Options_room ?ho_ ?hv_ ?_); (case ho_ => first | assumption | exact upd_same); (case hv_ => exact rfl)) | ((with_reducible refine' fd_Options_life ?ho_ ?hv_ ?_); (case ho_ => first | assumption | exact upd_same); (case hv_ => exact rfl)) | ((with_reducible refine' fd_Options_pace ?ho_ ?hv_ ?_); (case ho_ => first | assumption | exact upd_same); (case hv_ => exact rfl)) | ((with_reducible refine' fd_Options_tries ?ho_ ?hv_ ?_); (case ho_ => first | assumption | exact upd_same); (case hv_ => exact rfl)) | ((with_reducible refine' fd_Options_min_rto ?ho_ ?hv_ ?_); (case ho_ => first | assumption | exact upd_same); (case hv_ => exact rfl)) | ((with_reducible refine' fd_Options_max_rto ?ho_ ?hv_ ?_); (case ho_ => first | assumption | exact upd_same); (case hv_ => exact rfl)) | ((with_reducible refine' fd_Options_ack_delay ?ho_ ?hv_ ?_); (case ho_ => first | assumption | exact upd_same); (case hv_ => exact rfl)) | ((with_reducible refine' fd_Options_keep_alive ?ho_ ?hv_ ?_); (case ho_ => first | assumption | exact upd_same); (case hv_ => exact rfl)) | ((with_reducible refine' fd_Options_nagle ?ho_ ?hv_ ?_); (case ho_ => first | assumption | exact upd_same); (case hv_ => exact rfl)) | ((with_reducible refine' fd_Options_control ?ho_ ?hv_ ?_); (case ho_ => first | assumption | exact upd_same); (case hv_ => exact rfl)) | ((with_reducible refine' nw_Options_mss ?ho_ ?hv_ ?_); (case ho_ => first | assumption | exact upd_same); (case hv_ => exact rfl)) | ((with_reducible refine' nw_Options_room ?ho_ ?hv_ ?_); (case ho_ => first | assumption | exact upd_same); (case hv_ => exact rfl)) | ((with_reducible refine' nw_Options_life ?ho_ ?hv_ ?_); (case ho_ => first | assumption | exact upd_same); (case hv_ => exact rfl)) | ((with_reducible refine' nw_Options_pace ?ho_ ?hv_ ?_); (case ho_ => first | assumption | exact upd_same); (case hv_ => exact rfl)) | ((with_reducible refine' nw_Options_tries ?ho_ ?hv_ ?_); (case ho_ => first | assumption | exact upd_same); (case hv_ => exact rfl)) | ((with_reducible refine' nw_Options_min_rto ?ho_ ?hv_ ?_); (case ho_ => first | assumption | exact upd_same); (case hv_ => exact rfl)) | ((with_reducible refine' nw_Options_max_rto ?ho_ ?hv_ ?_); (case ho_ => first | assumption | exact upd_same); (case hv_ => exact rfl)) | ((with_reducible refine' nw_Options_ack_delay ?ho_ ?hv_ ?_); (case ho_ => first | assumption | exact upd_same); (case hv_ => exact rfl)) | ((with_reducible refine' nw_Options_keep_alive ?ho_ ?hv_ ?_); (case ho_ => first | assumption | exact upd_same); (case hv_ => exact rfl)) | ((with_reducible refine' nw_Options_nagle ?ho_ ?hv_ ?_); (case ho_ => first | assumption | exact upd_same); (case hv_ => exact rfl)) | ((with_reducible refine' nw_Options_control ?ho_ ?hv_ ?_); (case ho_ => first | assumption | exact upd_same); (case hv_ => exact rfl)) | ((with_reducible refine' st_Options_mss ?ho_ ?hv_ ?_); (case ho_ => first | assumption | exact upd_same); (case hv_ => exact Nat.le_of_ble_eq_true rfl)) | ((with_reducible refine' st_Options_room ?ho_ ?hv_ ?_); (case ho_ => first | assumption | exact upd_same); (case hv_ => exact Nat.le_of_ble_eq_true rfl)) | ((with_reducible refine' st_Options_life ?ho_ ?hv_ ?_); (case ho_ => first | assumption | exact upd_same); (case hv_ => exact Nat.le_of_ble_eq_true rfl)) | ((with_reducible refine' st_Options_pace ?ho_ ?hv_ ?_); (case ho_ => first | assumption | exact upd_same); (case hv_ => exact Nat.le_of_ble_eq_true rfl)) | ((with_reducible refine' st_Options_tries ?ho_ ?hv_ ?_); (case ho_ => first | assumption | exact upd_same); (case hv_ => exact Nat.le_of_ble_eq_true rfl)) | ((with_reducible refine' st_Options_min_rto ?ho_ ?hv_ ?_); (case ho_ => first | assumption | exact upd_same); (case hv_ => exact Nat.le_of_ble_eq_true rfl)) | ((with_reducible refine' st_Options_max_rto ?ho_ ?hv_ ?_); (case ho_ => first | assumption | exact upd_same); (case hv_ => exact Nat.le_of_ble_eq_true rfl)) | ((with_reducible refine' st_Options_ack_delay ?ho_ ?hv_ ?_); (case ho_ => first | assumption | exact upd_same); (case hv_ => exact Nat.le_of_ble_eq_true rfl)) | ((with_reducible refine' st_Options_keep_alive ?ho_ ?hv_ ?_); (case ho_ => first | assumption | exact upd_same); (case hv_ => exact Nat.le_of_ble_eq_true rfl)) | ((with_reducible refine' st_Options_nagle ?ho_ ?hv_ ?_); (case ho_ => first | assumption | exact upd_same); (case hv_ => exact Nat.le_of_ble_eq_true rfl)) | ((with_reducible refine' st_Options_control ?ho_ ?hv_ ?_); (case ho_ => first | assumption | exact upd_same); (case hv_ => exact Nat.le_of_ble_eq_true rfl)) | ((with_reducible refine' me_Options_fork ?ho_ ?_); (case ho_ => first | assumption | exact upd_same)) | ((with_reducible refine' me_Options_wrong_names ?ho_ ?_); (case ho_ => first | assumption | exact upd_same)))
section
variable {P : Program} {w : World} {K : PySem.W.Frag} {mg : Str → Option Value} {base : Heap}
local macro_rules | `(tactic| walk_at "use") => `(tactic| with_reducible first | refine g_makeK ?_ | refine g_gcons ?_ | refine g_gnil ?_)
local macro_rules | `(tactic| walk_at "vb") => `(tactic| first | exact ⟨congrArg V.bl (decide_eq_decide.mpr (by omega)), rfl⟩ | exact ⟨congrArg V.bl (decide_eq_false (by omega)).symm, rfl⟩ | exact ⟨congrArg V.bl (decide_eq_true (by omega)).symm, rfl⟩)
structure Rw where
  mss : Int
  room : Int
  life : Int
  pace : Int
  tries : Int
  low : Int
  high : Int
  ack : Int
  keep : Int
  nagle : Bool
  ctl : Str
deriving DecidableEq
def rwV (g : Rw) : List V := [.int g.mss, .int g.room, .int g.life, .int g.pace, .int g.tries, .int g.low, .int g.high, .int g.ack, .int g.keep, .bl g.nagle, .str g.ctl]
def Bd (g : Rw) : Prop := (-2 ≤ g.mss ∧ g.mss ≤ 4294967296) ∧ (-2 ≤ g.room ∧ g.room ≤ 4294967296) ∧ (-2 ≤ g.life ∧ g.life ≤ 4294967296) ∧ (-2 ≤ g.pace ∧ g.pace ≤ 4294967296) ∧ (-2 ≤ g.tries ∧ g.tries ≤ 4294967296) ∧ (-2 ≤ g.low ∧ g.low ≤ 4294967296) ∧ (-2 ≤ g.high ∧ g.high ≤ 4294967296) ∧ (-2 ≤ g.ack ∧ g.ack ≤ 4294967296) ∧ (-2 ≤ g.keep ∧ g.keep ≤ 4294967296)
def Fit (g : Rw) : Prop := (8 ≤ g.mss ∧ g.mss ≤ 1460) ∧ (2 * g.mss ≤ g.room ∧ g.room ≤ 262144) ∧ (1 ≤ g.life) ∧ (1 ≤ g.pace ∧ g.pace * (g.life + 1) ≤ 1073741824) ∧ (1 ≤ g.tries ∧ g.tries ≤ 100) ∧ (1 ≤ g.low) ∧ (g.low ≤ g.high ∧ g.high ≤ 1073741824) ∧ (0 ≤ g.ack ∧ g.ack < g.low) ∧ (0 ≤ g.keep ∧ g.keep ≤ 1073741824) ∧ (g.ctl ∈ (["reno", "cubic"] : List Str))
instance (g : Rw) : Decidable (Fit g) := by unfold Fit; infer_instance
def bs (g : Rw) : List Bool := [decide (8 ≤ g.mss ∧ g.mss ≤ 1460), decide (2 * g.mss ≤ g.room ∧ g.room ≤ 262144), decide (1 ≤ g.life), decide (1 ≤ g.pace ∧ g.pace * (g.life + 1) ≤ 1073741824), decide (1 ≤ g.tries ∧ g.tries ≤ 100), decide (1 ≤ g.low), decide (g.low ≤ g.high ∧ g.high ≤ 1073741824), decide (0 ≤ g.ack ∧ g.ack < g.low), decide (0 ≤ g.keep ∧ g.keep ≤ 1073741824), true, decide (g.ctl ∈ (["reno", "cubic"] : List Str))]
def nms : List Str := ["mss", "room", "life", "pace", "tries", "min_rto", "max_rto", "ack_delay", "keep_alive", "nagle", "control"]
def wps (g : Rw) : List (Str × Bool) := nms.zip (bs g)
theorem wps_len {g : Rw} : (wps g).length = 11 := rfl
def flt (ps : List (Str × Bool)) : List Str := (ps.filter fun p => !p.2).map (·.1)
def wn (g : Rw) : List Str := flt (wps g)
theorem wn_nil {g : Rw} : wn g = [] ↔ Fit g := by
  unfold wn flt wps bs nms Fit
  simp [List.filter_eq_nil_iff]
theorem flt_take {ps : List (Str × Bool)} {i : Nat} {p : Str × Bool} (h : ps[i]? = some p) : flt (ps.take (i + 1)) = if p.2 = true then flt (ps.take i) else flt (ps.take i) ++ [p.1] := by
  unfold flt
  rw [List.take_add_one, h, List.filter_append, List.map_append]
  obtain ⟨n, b⟩ := p
  cases b <;> simp
theorem flt_len {ps : List (Str × Bool)} : (flt ps).length ≤ ps.length := by
  unfold flt
  rw [List.length_map]
  exact List.length_filter_le _ _
theorem sum_le {α : Type} {f : α → Nat} {m : Nat} : ∀ {l : List α}, (∀ x ∈ l, f x ≤ m) → (l.map f).sum ≤ m * l.length
  | [], _ => by simp
  | x :: l, h => by
    have h1 := h x (List.mem_cons_self ..)
    have h2 := sum_le (l := l) fun y hy => h y (List.mem_cons_of_mem _ hy)
    rw [List.map_cons, List.sum_cons, List.length_cons, Nat.mul_succ]
    omega
theorem wn_len {g : Rw} : (wn g).length ≤ 11 := Nat.le_trans flt_len (by unfold wps; rw [List.length_zip]; exact Nat.min_le_left _ _)
theorem wn_sz {g : Rw} : ((wn g).map (·.length)).sum ≤ 121 := by
  refine Nat.le_trans (sum_le (m := 11) fun x hx => ?_) (Nat.mul_le_mul_left 11 wn_len)
  unfold wn flt at hx
  obtain ⟨p, hp, rfl⟩ := List.mem_map.mp hx
  have h2 := (List.of_mem_zip (List.mem_filter.mp hp).1).1
  have z : ∀ s ∈ nms, s.length ≤ 11 := by decide +kernel
  exact z _ h2
/-- the tuples of a list -/
inductive TpAll (H : Hp) : List V → List (Str × Bool) → Prop
  | nil : TpAll H [] []
  | cons {a : Addr} {n : Str} {b : Bool} {vs : List V} {ps : List (Str × Bool)} : H a = some (.tup [.str n, .bl b]) → TpAll H vs ps → TpAll H (.ref a :: vs) ((n, b) :: ps)
theorem TpAll.get {H : Hp} {vs : List V} {ps : List (Str × Bool)} (h : TpAll H vs ps) : ∀ {i : Nat} {x : V}, vs[i]? = some x → ∃ a p, x = .ref a ∧ ps[i]? = some p ∧ H a = some (.tup [.str p.1, .bl p.2]) := by
  induction h with
  | nil => intro i x e; cases e
  | cons h1 _ ih =>
    intro i x e
    cases i with
    | zero => injection e with e; subst e; exact ⟨_, _, rfl, rfl, h1⟩
    | succ i => exact ih e
theorem TpAll.same {H H' : Hp} {vs : List V} {ps : List (Str × Bool)} (h : TpAll H vs ps) (s : Same H H') : TpAll H' vs ps := by
  induction h with
  | nil => exact .nil
  | cons h1 _ ih => exact .cons (s _ _ h1) ih
theorem TpAll.len {H : Hp} {vs : List V} {ps : List (Str × Bool)} (h : TpAll H vs ps) : vs.length = ps.length := by
  induction h with
  | nil => rfl
  | cons _ _ ih => exact congrArg Nat.succ ih
def OpO (C : Addr) (H : Hp) (p : Addr) (g : Rw) : Prop := ∃ dx, H p = some (.ins C dx (obj ky_Options (rwV g)))
theorem OpO.same {C : Addr} {H H' : Hp} {p : Addr} {g : Rw} (h : OpO C H p g) (s : Same H H') : OpO C H' p g := by
  obtain ⟨dx, h⟩ := h
  exact ⟨dx, s _ _ h⟩
theorem inV_int {s : Int} : ∀ {ws : List Int}, inV (.int s) (ws.map V.int) = decide (s ∈ ws)
  | [] => (decide_eq_false (by simp)).symm
  | t :: ws => by
    show ((t == s) || inV (.int s) (ws.map V.int)) = _
    rw [inV_int, Bool.eq_iff_iff]
    simp only [Bool.or_eq_true, beq_iff_eq, decide_eq_true_eq, List.mem_cons]
    exact ⟨fun h => h.imp Eq.symm id, fun h => h.imp Eq.symm id⟩
theorem flat_ints : ∀ {ws : List Int}, (ws.map V.int).all flatV = true
  | [] => rfl
  | _ :: ws => flat_ints (ws := ws)
theorem g_inI {H : Hp} {Q : VK} {p : Addr} {ws : List Int} {s : Int} (h : SqT K H p (ws.map V.int)) (q : Q (.bl (decide (s ∈ ws))) H) : rIn K false (.int s) (.ref p) H Q :=
  ⟨p, _, rfl, .inr h, rfl, flat_ints, by rw [if_neg (by decide), inV_int]; exact q⟩
theorem g_gtup {K : PySem.W.Frag} {n : Nat} {t : List V → St → Hp → (St → Hp → Prop) → Prop} {a : Addr} {xs : List V} {σ : St} {H : Hp} {Q : St → Hp → Prop} (h : SqT K H a xs) (l : xs.length = n) (q : t xs σ H Q) : gTup K n t (.ref a) σ H Q := ⟨a, xs, rfl, h, l, q⟩
theorem g_dropV {te : TE} {σ : St} {H : Hp} {Q : VK} (h : te σ H Q) : te σ H Q := h
local macro_rules | `(tactic| walk_at "use") => `(tactic| with_reducible first | refine g_gcons ?_ | refine g_gnil ?_)
def sp_Options_wrong_names (C : Addr) : Sp := fun vs H Q _ => ∃ (p : Addr) (g : Rw), vs = [.ref p] ∧ OpO C H p g ∧ Bd g ∧ ∀ l H', H l = none → Same H H' → H' l = some (.lst ((wn g).map V.str)) → Q (.ref l) H'
theorem ok_Options_wrong_names (T : Txt P K mg) : FnOk P w K mg base CX0 1 T.f_Options_wrong_names T.d_Options_wrong_names ["self"] (sp_Options_wrong_names T.C_Options) := by
  refine T.F_Options_wrong_names.ok sc_Options_wrong_names (fun vs H Q E h => ?_) (fun cdv A outer s H vs Q E hr h => ?_)
  · obtain ⟨p, g, rfl, hO, bd, q⟩ := h
    rfl
  · obtain ⟨p, g, rfl, hO, bd, q⟩ := h
    have hu := hu_of hr
    refine ⟨_, (pss_cons (ps_set (i := 1) sc_Options_wrong_names.nd rfl (Or.inl rfl) (pe_lst (pa_cons (pe_tup (pa_cons pe_str (pa_cons (pe_cutV (pe_chain op_le op_le pe_int (pe_fld (pv 0) rfl) pe_int)) pa_nil))) (pa_cons (pe_tup (pa_cons pe_str (pa_cons (pe_cutV (pe_chain op_le op_le (pe_op op_mul pe_int (pe_fld (pv 0) rfl)) (pe_fld (pv 0) rfl) pe_int)) pa_nil))) (pa_cons (pe_tup (pa_cons pe_str (pa_cons (pe_cmpR op_ge (pe_fld (pv 0) rfl) pe_int (nomark _)) pa_nil))) (pa_cons (pe_tup (pa_cons pe_str (pa_cons (pe_cutV (pe_and (pe_cmpR op_ge (pe_fld (pv 0) rfl) pe_int (nomark _)) (pe_one (pe_cmpR op_le (pe_op op_mul (pe_fld (pv 0) rfl) (pe_op op_add (pe_fld (pv 0) rfl) pe_int)) (pe_glob (v := .int 1073741824) (by rfl) T.v_MOST_UNDER_WAY ⟨_, rfl⟩) (nomark _))))) pa_nil))) (pa_cons (pe_tup (pa_cons pe_str (pa_cons (pe_cutV (pe_chain op_le op_le pe_int (pe_fld (pv 0) rfl) pe_int)) pa_nil))) (pa_cons (pe_tup (pa_cons pe_str (pa_cons (pe_cmpR op_ge (pe_fld (pv 0) rfl) pe_int (nomark _)) pa_nil))) (pa_cons (pe_tup (pa_cons pe_str (pa_cons (pe_cutV (pe_chain op_le op_le (pe_fld (pv 0) rfl) (pe_fld (pv 0) rfl) (pe_glob (v := .int 1073741824) (by rfl) T.v_MOST_TICKS ⟨_, rfl⟩))) pa_nil))) (pa_cons (pe_tup (pa_cons pe_str (pa_cons (pe_cutV (pe_chain op_le op_lt pe_int (pe_fld (pv 0) rfl) (pe_fld (pv 0) rfl))) pa_nil))) (pa_cons (pe_tup (pa_cons pe_str (pa_cons (pe_cutV (pe_chain op_le op_le pe_int (pe_fld (pv 0) rfl) (pe_glob (v := .int 1073741824) (by rfl) T.v_MOST_TICKS ⟨_, rfl⟩))) pa_nil))) (pa_cons (pe_tup (pa_cons pe_str (pa_cons (pe_callB call_isi (by rfl) T.n_isinstance (by decide +kernel) (pa_cons (pe_fld (pv 0) rfl) (pa_cons (pe_bltn (v := .ty "bool") (by rfl) T.n_bool (by decide +kernel) rfl) pa_nil))) pa_nil))) (pa_cons (pe_tup (pa_cons pe_str (pa_cons (pe_cmpR op_in_seq (pe_fld (pv 0) rfl) (pe_tup (pa_cons pe_str (pa_cons pe_str pa_nil))) (by with_unfolding_all rfl)) pa_nil))) pa_nil)))))))))))))
        (pss_one (ps_ret (pe_lc (own := [("name", 3), ("is_right", 2)]) (g := gTup K 2 (gCons (gName 3) (gCons (gName 2) gNil))) rfl sc_Options_wrong_names.nd (pi_list (pv 1)) (blkOk_by (N := ["self", "checks", "is_right", "name"]) (sc := defScope s_Options_wrong_names) (by decide +kernel)) (fun _ _ _ _ _ => (pg_tup rfl (pgs_cons (pg_name (i := 3) sc_Options_wrong_names.nd rfl (Or.inl rfl)) (pgs_cons (pg_name (i := 2) sc_Options_wrong_names.nd rfl (Or.inl rfl)) pgs_nil)))) (fun _ _ _ _ _ => (pts_one (pt_not (pt_val (pv 2))))) (fun _ _ _ _ _ => (pv 3)))))), ?_⟩
    dsimp only [cxOf, Cx.nox, Cx.wish, L2.start, List.map, List.cons_append, List.nil_append, List.length_cons, List.length_nil, Nat.reduceAdd, Nat.reduceSub, Nat.zero_add, List.replicate_succ, List.replicate_zero]
    obtain ⟨dx, ho⟩ := hO
    unfold rwV at ho
    unfold Bd at bd
    have hq0 : Same H H := Same.refl H
    walk_at "go"
    refine g_cutV (.bl (decide (8 ≤ g.mss ∧ g.mss ≤ 1460))) ?_ ?_
    · walk_at "go"
      refine g_ite (fun h => ?_) (fun h => ?_)
      · walk_at "go"
        walk_at "vb"
      · walk_at "vb"
    walk_at "go"
    refine ⟨by show 2 ≤ sizeLine; decide, fun p1 hp1 => ?_⟩
    generalize z1 : upd H p1 _ = H1
    have s1 : Same H H1 := by rw [← z1]; exact same_upd hp1
    have k1 : H1 p1 = some (.tup [.str "mss", .bl (decide (8 ≤ g.mss ∧ g.mss ≤ 1460))]) := (congrFun z1 p1).symm.trans upd_same
    clear z1
    have ho := s1 _ _ ho
    walk_at "go"
    refine g_cutV (.bl (decide (2 * g.mss ≤ g.room ∧ g.room ≤ 262144))) ?_ ?_
    · walk_at "go"
      refine g_ite (fun h => ?_) (fun h => ?_)
      · walk_at "go"
        walk_at "vb"
      · walk_at "vb"
    walk_at "go"
    refine ⟨by show 2 ≤ sizeLine; decide, fun p2 hp2 => ?_⟩
    generalize z2 : upd H1 p2 _ = H2
    have s2 : Same H1 H2 := by rw [← z2]; exact same_upd hp2
    have k2 : H2 p2 = some (.tup [.str "room", .bl (decide (2 * g.mss ≤ g.room ∧ g.room ≤ 262144))]) := (congrFun z2 p2).symm.trans upd_same
    clear z2
    have ho := s2 _ _ ho
    walk_at "go"
    refine ⟨by show 2 ≤ sizeLine; decide, fun p3 hp3 => ?_⟩
    generalize z3 : upd H2 p3 _ = H3
    have s3 : Same H2 H3 := by rw [← z3]; exact same_upd hp3
    have k3 : H3 p3 = some (.tup [.str "life", .bl (decide (1 ≤ g.life))]) := (congrFun z3 p3).symm.trans upd_same
    clear z3
    have ho := s3 _ _ ho
    walk_at "go"
    refine g_cutV (.bl (decide (1 ≤ g.pace ∧ g.pace * (g.life + 1) ≤ 1073741824))) ?_ ?_
    · walk_at "go"
      refine g_ite (fun h => ?_) (fun h => ?_)
      · walk_at "go"
        walk_at "vb"
      · walk_at "vb"
    walk_at "go"
    refine ⟨by show 2 ≤ sizeLine; decide, fun p4 hp4 => ?_⟩
    generalize z4 : upd H3 p4 _ = H4
    have s4 : Same H3 H4 := by rw [← z4]; exact same_upd hp4
    have k4 : H4 p4 = some (.tup [.str "pace", .bl (decide (1 ≤ g.pace ∧ g.pace * (g.life + 1) ≤ 1073741824))]) := (congrFun z4 p4).symm.trans upd_same
    clear z4
    have ho := s4 _ _ ho
    walk_at "go"
    refine g_cutV (.bl (decide (1 ≤ g.tries ∧ g.tries ≤ 100))) ?_ ?_
    · walk_at "go"
      refine g_ite (fun h => ?_) (fun h => ?_)
      · walk_at "go"
        walk_at "vb"
      · walk_at "vb"
    walk_at "go"
    refine ⟨by show 2 ≤ sizeLine; decide, fun p5 hp5 => ?_⟩
    generalize z5 : upd H4 p5 _ = H5
    have s5 : Same H4 H5 := by rw [← z5]; exact same_upd hp5
    have k5 : H5 p5 = some (.tup [.str "tries", .bl (decide (1 ≤ g.tries ∧ g.tries ≤ 100))]) := (congrFun z5 p5).symm.trans upd_same
    clear z5
    have ho := s5 _ _ ho
    walk_at "go"
    refine ⟨by show 2 ≤ sizeLine; decide, fun p6 hp6 => ?_⟩
    generalize z6 : upd H5 p6 _ = H6
    have s6 : Same H5 H6 := by rw [← z6]; exact same_upd hp6
    have k6 : H6 p6 = some (.tup [.str "min_rto", .bl (decide (1 ≤ g.low))]) := (congrFun z6 p6).symm.trans upd_same
    clear z6
    have ho := s6 _ _ ho
    walk_at "go"
    refine g_cutV (.bl (decide (g.low ≤ g.high ∧ g.high ≤ 1073741824))) ?_ ?_
    · walk_at "go"
      refine g_ite (fun h => ?_) (fun h => ?_)
      · walk_at "go"
        walk_at "vb"
      · walk_at "vb"
    walk_at "go"
    refine ⟨by show 2 ≤ sizeLine; decide, fun p7 hp7 => ?_⟩
    generalize z7 : upd H6 p7 _ = H7
    have s7 : Same H6 H7 := by rw [← z7]; exact same_upd hp7
    have k7 : H7 p7 = some (.tup [.str "max_rto", .bl (decide (g.low ≤ g.high ∧ g.high ≤ 1073741824))]) := (congrFun z7 p7).symm.trans upd_same
    clear z7
    have ho := s7 _ _ ho
    walk_at "go"
    refine g_cutV (.bl (decide (0 ≤ g.ack ∧ g.ack < g.low))) ?_ ?_
    · walk_at "go"
      refine g_ite (fun h => ?_) (fun h => ?_)
      · walk_at "go"
        walk_at "vb"
      · walk_at "vb"
    walk_at "go"
    refine ⟨by show 2 ≤ sizeLine; decide, fun p8 hp8 => ?_⟩
    generalize z8 : upd H7 p8 _ = H8
    have s8 : Same H7 H8 := by rw [← z8]; exact same_upd hp8
    have k8 : H8 p8 = some (.tup [.str "ack_delay", .bl (decide (0 ≤ g.ack ∧ g.ack < g.low))]) := (congrFun z8 p8).symm.trans upd_same
    clear z8
    have ho := s8 _ _ ho
    walk_at "go"
    refine g_cutV (.bl (decide (0 ≤ g.keep ∧ g.keep ≤ 1073741824))) ?_ ?_
    · walk_at "go"
      refine g_ite (fun h => ?_) (fun h => ?_)
      · walk_at "go"
        walk_at "vb"
      · walk_at "vb"
    walk_at "go"
    refine ⟨by show 2 ≤ sizeLine; decide, fun p9 hp9 => ?_⟩
    generalize z9 : upd H8 p9 _ = H9
    have s9 : Same H8 H9 := by rw [← z9]; exact same_upd hp9
    have k9 : H9 p9 = some (.tup [.str "keep_alive", .bl (decide (0 ≤ g.keep ∧ g.keep ≤ 1073741824))]) := (congrFun z9 p9).symm.trans upd_same
    clear z9
    have ho := s9 _ _ ho
    walk_at "go"
    refine ⟨by show 2 ≤ sizeLine; decide, fun p10 hp10 => ?_⟩
    generalize z10 : upd H9 p10 _ = H10
    have s10 : Same H9 H10 := by rw [← z10]; exact same_upd hp10
    have k10 : H10 p10 = some (.tup [.str "nagle", .bl (true)]) := (congrFun z10 p10).symm.trans upd_same
    clear z10
    have ho := s10 _ _ ho
    walk_at "go"
    refine ⟨by show 2 ≤ sizeLine; decide, fun pc hpc => ?_⟩
    generalize zc : upd H10 pc _ = Hc
    have sc : Same H10 Hc := by rw [← zc]; exact same_upd hpc
    have kc : Hc pc = some (.tup ((["reno", "cubic"] : List Str).map V.str)) := (congrFun zc pc).symm.trans upd_same
    clear zc
    refine g_inS (ws := ["reno", "cubic"]) (st kc) ?_
    walk_at "go"
    refine ⟨by show 2 ≤ sizeLine; decide, fun p11 hp11 => ?_⟩
    generalize z11 : upd Hc p11 _ = H11
    have s11 : Same Hc H11 := by rw [← z11]; exact same_upd hp11
    have k11 : H11 p11 = some (.tup [.str "control", .bl (decide (g.ctl ∈ (["reno", "cubic"] : List Str)))]) := (congrFun z11 p11).symm.trans upd_same
    clear z11
    have s11 : Same H10 H11 := sc.trans s11
    have ho := s11 _ _ ho
    walk_at "go"
    refine ⟨by show 11 ≤ sizeLine; decide, fun l0 hl0 => ?_⟩
    have k11' : TpAll H11 [.ref p1, .ref p2, .ref p3, .ref p4, .ref p5, .ref p6, .ref p7, .ref p8, .ref p9, .ref p10, .ref p11] (wps g) := by
      refine .cons (s11 _ _ (s10 _ _ (s9 _ _ (s8 _ _ (s7 _ _ (s6 _ _ (s5 _ _ (s4 _ _ (s3 _ _ (s2 _ _ (k1))))))))))) ?_
      refine .cons (s11 _ _ (s10 _ _ (s9 _ _ (s8 _ _ (s7 _ _ (s6 _ _ (s5 _ _ (s4 _ _ (s3 _ _ (k2)))))))))) ?_
      refine .cons (s11 _ _ (s10 _ _ (s9 _ _ (s8 _ _ (s7 _ _ (s6 _ _ (s5 _ _ (s4 _ _ (k3))))))))) ?_
      refine .cons (s11 _ _ (s10 _ _ (s9 _ _ (s8 _ _ (s7 _ _ (s6 _ _ (s5 _ _ (k4)))))))) ?_
      refine .cons (s11 _ _ (s10 _ _ (s9 _ _ (s8 _ _ (s7 _ _ (s6 _ _ (k5))))))) ?_
      refine .cons (s11 _ _ (s10 _ _ (s9 _ _ (s8 _ _ (s7 _ _ (k6)))))) ?_
      refine .cons (s11 _ _ (s10 _ _ (s9 _ _ (s8 _ _ (k7))))) ?_
      refine .cons (s11 _ _ (s10 _ _ (s9 _ _ (k8)))) ?_
      refine .cons (s11 _ _ (s10 _ _ (k9))) ?_
      refine .cons (s11 _ _ (k10)) ?_
      refine .cons (k11) ?_
      exact .nil
    have s0 : Same H H11 := ((((((((((s1).trans s2).trans s3).trans s4).trans s5).trans s6).trans s7).trans s8).trans s9).trans s10).trans s11
    generalize z12 : upd H11 l0 _ = H12
    have s12 : Same H11 H12 := by rw [← z12]; exact same_upd hl0
    have k12 : H12 l0 = some (.lst [.ref p1, .ref p2, .ref p3, .ref p4, .ref p5, .ref p6, .ref p7, .ref p8, .ref p9, .ref p10, .ref p11]) := (congrFun z12 l0).symm.trans upd_same
    clear z12
    have K12 := k11'.same s12
    have S12 := s0.trans s12
    clear s1 s2 s3 s4 s5 s6 s7 s8 s9 s10 s11 sc k1 k2 k3 k4 k5 k6 k7 k8 k9 k10 k11 kc k11' ho hl0
    have hln := K12.len
    generalize [V.ref p1, V.ref p2, V.ref p3, V.ref p4, V.ref p5, V.ref p6, V.ref p7, V.ref p8, V.ref p9, V.ref p10, V.ref p11] = vs at k12 K12 hln
    walk_at "go"
    refine ⟨⟨_, sl k12⟩, fun D hD => ?_⟩
    refine lc_it walk_list (fun i H' => Same H12 H' ∧ H' D = some (.lst ((flt ((wps g).take i)).map V.str))) ⟨same_upd hD, upd_same⟩ (fun i H' _ h => sl (h.1 _ _ k12)) ?_ ?_
    · rintro i x H3 H4 hi ⟨s3, e3⟩ ⟨rfl, hx⟩
      obtain ⟨a, ⟨n, b⟩, rfl, hp, ha⟩ := (K12.same s3).get hx
      refine g_gtup (xs := [V.str n, V.bl b]) (st ha) rfl ?_
      walk_at "go"
      refine ⟨rfl, ?_⟩
      walk_at "go"
      have ft := flt_take hp
      dsimp only at ft
      cases b
      · walk_at "go"
        refine ⟨_, e3, ?_, ?_, ?_⟩
        · rw [List.length_map]
          exact szl (Nat.lt_of_le_of_lt flt_len (by rw [List.length_take, wps_len]; omega))
        · exact (But.of s3).upd.same hD
        · rw [upd_same, ft, if_neg (by decide), List.map_append]
          rfl
      · walk_at "go"
        rw [if_pos rfl] at ft
        rw [ft]
        exact ⟨s3, e3⟩
    · rintro H3 ⟨s3, e3⟩
      rw [hln, List.take_length] at e3
      exact q D H3 (S12.free hD) (S12.trans s3) e3

def sp_Options_init (C : Addr) : Sp := fun vs H Q _ => ∃ (p dx : Addr) (g : Rw), vs = .ref p :: rwV g ∧ H p = some (.ins C dx (obj ky_Options [])) ∧ Bd g ∧ Fit g ∧ ∀ H', But p H H' → H' p = some (.ins C dx (obj ky_Options (rwV g))) → Q .non H'
theorem ok_Options_init__ (T : Txt P K mg) : FnOk P w K mg base CX0 2 T.f_Options_init__ T.d_Options_init__ ["self", "mss", "room", "life", "pace", "tries", "min_rto", "max_rto", "ack_delay", "keep_alive", "nagle", "control"] (sp_Options_init T.C_Options) := by
  refine T.F_Options_init__.ok sc_Options_init__ (fun vs H Q E h => ?_) (fun cdv A outer s H vs Q E hr h => ?_)
  · obtain ⟨p, dx, g, rfl, ho, bd, f, q⟩ := h
    rfl
  · obtain ⟨p, dx, g, rfl, ho, bd, f, q⟩ := h
    have hu := hu_of hr
    refine ⟨_, (pss_cons (ps_fld (pv 0) (pv 1) rfl)
        (pss_cons (ps_fld (pv 0) (pv 2) rfl)
        (pss_cons (ps_fld (pv 0) (pv 3) rfl)
        (pss_cons (ps_fld (pv 0) (pv 4) rfl)
        (pss_cons (ps_fld (pv 0) (pv 5) rfl)
        (pss_cons (ps_fld (pv 0) (pv 6) rfl)
        (pss_cons (ps_fld (pv 0) (pv 7) rfl)
        (pss_cons (ps_fld (pv 0) (pv 8) rfl)
        (pss_cons (ps_fld (pv 0) (pv 9) rfl)
        (pss_cons (ps_fld (pv 0) (pv 10) rfl)
        (pss_cons (ps_fld (pv 0) (pv 11) rfl)
        (pss_cons (ps_set (i := 12) sc_Options_init__.nd rfl (Or.inl rfl) (pe_meth0 (pv 0) T.k_Options T.a_Options_wrong_names (ok_Options_wrong_names T) (hr.mono (by decide)) T.b_Options_wrong_names .nil pass0))
        (pss_one (ps_if (pt_cmpR op_gt (pe_callB call_len_seq (by rfl) T.n_len (by decide +kernel) (pa_cons (pv 12) pa_nil)) pe_int (nomark _)) (pss_one (ps_dead)) pss_nil)))))))))))))), ?_⟩
    dsimp only [cxOf, Cx.nox, Cx.wish, L2.start, List.map, List.cons_append, List.nil_append, List.length_cons, List.length_nil, Nat.reduceAdd, Nat.reduceSub, Nat.zero_add, List.replicate_succ, List.replicate_zero]
    unfold rwV
    walk_at "go"
    simp only [upd_upd, List.nil_append, List.cons_append]
    refine ⟨p, g, rfl, ⟨dx, upd_same⟩, bd, fun l H' nl s1 e1 => ?_⟩
    have b1 := (But.refl (p := p) (H := H)).upd (o := .ins T.C_Options dx (obj ky_Options (rwV g)))
    have b2 := b1.trans (But.of s1)
    have ho1 : H' p = some (.ins T.C_Options dx (obj ky_Options (rwV g))) := s1 _ _ upd_same
    walk_at "go"
    refine g_len (.inl (sl e1)) ?_
    walk_at "go"
    rw [List.length_map]
    refine g_ite (fun c => ?_) (fun c => ?_)
    · rw [wn_nil.mpr f] at c
      exact absurd c (by decide)
    · walk_at "go"
      exact q H' b2 ho1
def sp_Options_fork (C : Addr) : Sp := fun vs H Q _ => ∃ (p : Addr) (g : Rw), vs = [.ref p] ∧ OpO C H p g ∧ Bd g ∧ Fit g ∧ ∀ p' H', H p' = none → Same H H' → OpO C H' p' g → Q (.ref p') H'
theorem kbt_1 {P : Program} {K : PySem.W.Frag} {mg : Str → Option Value} (T : Txt P K mg) : ∃ g, KBn K T.d_Options_init__ ["self", "mss", "room", "life", "pace", "tries", "min_rto", "max_rto", "ack_delay", "keep_alive", "nagle", "control"] 1 ["mss", "room", "life", "pace", "tries", "min_rto", "max_rto", "ack_delay", "keep_alive", "nagle", "control"] g (fun vs zs => vs ++ ((zs.drop 0).take 1 ++ ((zs.drop 1).take 1 ++ ((zs.drop 2).take 1 ++ ((zs.drop 3).take 1 ++ ((zs.drop 4).take 1 ++ ((zs.drop 5).take 1 ++ ((zs.drop 6).take 1 ++ ((zs.drop 7).take 1 ++ ((zs.drop 8).take 1 ++ ((zs.drop 9).take 1 ++ ((zs.drop 10).take 1)))))))))))) := by
  obtain ⟨mv, h⟩ := T.F_Options_init__.kbinds0 (ps := ["self", "mss", "room", "life", "pace", "tries", "min_rto", "max_rto", "ack_delay", "keep_alive", "nagle", "control"]) 1 ["mss", "room", "life", "pace", "tries", "min_rto", "max_rto", "ack_delay", "keep_alive", "nagle", "control"] [] (fun vs mz zs => vs ++ ((zs.drop 0).take 1 ++ ((zs.drop 1).take 1 ++ ((zs.drop 2).take 1 ++ ((zs.drop 3).take 1 ++ ((zs.drop 4).take 1 ++ ((zs.drop 5).take 1 ++ ((zs.drop 6).take 1 ++ ((zs.drop 7).take 1 ++ ((zs.drop 8).take 1 ++ ((zs.drop 9).take 1 ++ ((zs.drop 10).take 1)))))))))))) (by intro h; cases h) (fun q hq => List.Sublist.mem hq (.cons _ (.cons _ (.cons _ (.cons _ (.slnil)))))) (fun r1 r2 r3 => r1.append (((r3.drop 0).take 1).append (((r3.drop 1).take 1).append (((r3.drop 2).take 1).append (((r3.drop 3).take 1).append (((r3.drop 4).take 1).append (((r3.drop 5).take 1).append (((r3.drop 6).take 1).append (((r3.drop 7).take 1).append (((r3.drop 8).take 1).append (((r3.drop 9).take 1).append ((r3.drop 10).take 1)))))))))))) (fun D doc pm an cdv ct us mv ws l1 l2 l3 => match us, l1, mv, l2, ws, l3 with | [_], _, [], _, [_, _, _, _, _, _, _, _, _, _, _], _ => (by show _ = _; kernel_rfl))
  exact ⟨_, h⟩
theorem ok_Options_fork (T : Txt P K mg) : FnOk P w K mg base CX0 4 T.f_Options_fork T.d_Options_fork ["self"] (sp_Options_fork T.C_Options) := by
  refine T.F_Options_fork.ok sc_Options_fork (fun vs H Q E h => ?_) (fun cdv A outer s H vs Q E hr h => ?_)
  · obtain ⟨p, g, rfl, ⟨dx, ho⟩, bd, f, q⟩ := h
    rfl
  · obtain ⟨p, g, rfl, ⟨dx, ho⟩, bd, f, q⟩ := h
    have hu := hu_of hr
    obtain ⟨gk_1, kb_1⟩ := kbt_1 T
    refine ⟨_, (pss_one (ps_ret (pe_makeK0 T.mk_Options (ok_Options_init__ T) (hr.mono (by decide)) rfl T.c_Options kb_1 pass0 (pk_cons (pe_fld (pv 0) rfl) (pk_cons (pe_fld (pv 0) rfl) (pk_cons (pe_fld (pv 0) rfl) (pk_cons (pe_fld (pv 0) rfl) (pk_cons (pe_fld (pv 0) rfl) (pk_cons (pe_fld (pv 0) rfl) (pk_cons (pe_fld (pv 0) rfl) (pk_cons (pe_fld (pv 0) rfl) (pk_cons (pe_fld (pv 0) rfl) (pk_cons (pe_fld (pv 0) rfl) (pk_cons (pe_fld (pv 0) rfl) pk_nil)))))))))))))), ?_⟩
    dsimp only [cxOf, Cx.nox, Cx.wish, L2.start, List.map, List.cons_append, List.nil_append, List.length_cons, List.length_nil, Nat.reduceAdd, Nat.reduceSub, Nat.zero_add, List.replicate_succ, List.replicate_zero]
    unfold rwV at ho
    walk_at "go"
    refine ⟨rfl, rfl, fun x dx2 nx ndx n => ?_⟩
    refine ⟨x, dx2, g, rfl, upd_same, bd, f, fun H' b e => ⟨rfl, q x H' nx (made_same nx ndx n b) ⟨dx2, e⟩⟩⟩

end
end My
namespace My
open PySem PySem.Spec L2
local macro_rules | `(tactic| walk_at "side") => `(tactic| first | assumption | decide | omega | exact ⟨by decide, by decide⟩ | exact ⟨by decide, by decide, by decide⟩ | decide +kernel | exact cdivW (by decide +kernel) (by decide +kernel) | exact Or.inl ⟨by omega, by omega⟩ | exact Or.inr ⟨by omega, by omega⟩ | (simp only [List.length_map, List.length_cons, List.length_nil, List.length_append]; omega))
local macro_rules | `(tactic| walk_at "fact") => `(tactic| first | assumption | omega | with_reducible rfl)
local macro_rules | `(tactic| walk_at "use") => `(tactic| fail "use")
local macro_rules | `(tactic| walk_at "go1") => `(tactic| with_reducible first | refine g_seq ?_ | refine g_asg ?_ | refine g_ret ?_ | refine g_ifS ?_ | refine g_drop ?_ | refine g_star ?_ | refine g_nx ?_ | refine g_rt ?_ | refine g_bkE ?_ | refine g_ctE ?_ | refine g_next ?_ | refine g_retN ?_ | refine g_brk ?_ | refine g_ct ?_ | refine g_c ?_ | refine g_op ?_ | refine g_un ?_ | refine g_rI0 ?_ | refine g_rU ?_ | refine g_rEqI ?_ | refine g_rNeI ?_ | refine g_isN ?_ | refine g_rIsB ?_ | refine g_rNotB ?_ | refine g_test ?_ | refine g_B ?_ | refine g_bl ?_ | refine g_and ?_ | refine g_or ?_ | refine g_not ?_ | refine g_andV ?_ | refine g_orV ?_ | refine g_notV ?_ | refine g_if ?_ | refine g_chain ?_ | refine g_yes ?_ | refine g_lc ?_ | refine g_revR ?_ | refine g_rng1 ?_ | refine g_iList ?_ | refine g_nil ?_ | refine g_cons ?_ | refine g_tup ?_ | refine g_lst ?_ | refine g_call ?_ | refine g_CB ?_ | refine g_sl ?_ | refine g_noPart ?_ | refine g_part ?_ | refine g_intE ?_ | refine g_ref ?_ | refine g_fld ?_ | refine g_sfld ?_ | refine g_meth ?_ | refine g_make ?_ | refine g_prop ?_  | refine g_ipI ?_ | refine g_int1 ?_ | refine g_int1B ?_ | refine g_one ?_ | refine g_two ?_ | refine g_isiI ?_ | refine g_isiIB ?_ | refine g_isiB ?_ | refine g_BM ?_ | refine g_BM0 ?_ | refine g_sub ?_)
local macro_rules | `(tactic| walk_at "go") => `(tactic| repeat (first | walk_at "go1" | ((with_reducible refine' g_nameE ?sd_ ?_); case sd_ => dsimp only [List.set_cons_succ, List.set_cons_zero]) | ((with_reducible refine' g_var ?sd_ ?_); case sd_ => exact rfl) | ((with_reducible refine' g_aug ?sd_ ?_); case sd_ => exact rfl) | ((with_reducible refine' g_rI ?sd_ ?_); case sd_ => walk_at "side") | ((with_reducible refine' g_dT ?sd_ ?_); case sd_ => walk_at "fact") | ((with_reducible refine' g_dF ?sd_ ?_); case sd_ => walk_at "fact") | ((with_reducible refine' g_nT ?sd_ ?_); case sd_ => walk_at "fact") | ((with_reducible refine' g_nF ?sd_ ?_); case sd_ => walk_at "fact") | (with_reducible refine g_iT rfl ?_) | (with_reducible refine g_iF rfl ?_) | walk_at "use"))
local macro_rules | `(tactic| walk_at "nw") => `(tactic| (generalize zq : upd _ _ _ = Hq; have sq : Same _ Hq := (by rw [← zq]; exact same_upd (by assumption)); have kq := (congrFun zq _).symm.trans upd_same; clear zq))
local macro_rules | `(tactic| walk_at "bt") => `(tactic| (generalize zq : upd _ _ _ = Hq; have bq : But _ _ Hq := (by rw [← zq]; exact But.refl.upd); have kq := (congrFun zq _).symm.trans upd_same; clear zq))
local macro_rules | `(tactic| walk_at "use") => `(tactic| first | ((with_reducible refine' fd_Segment_source ?ho_ ?hv_ ?_); (case ho_ => first | assumption | exact upd_same); (case hv_ => exact rfl)) | ((with_reducible refine' fd_Segment_target ?ho_ ?hv_ ?_); (case ho_ => first | assumption | exact upd_same); (case hv_ => exact rfl)) | ((with_reducible refine' fd_Segment_seq ?ho_ ?hv_ ?_); (case ho_ => first | assumption | exact upd_same); (case hv_ => exact rfl)) | ((with_reducible refine' fd_Segment_count ?ho_ ?hv_ ?_); (case ho_ => first | assumption | exact upd_same); (case hv_ => exact rfl)) | ((with_reducible refine' fd_Segment_echo ?ho_ ?hv_ ?_); (case ho_ => first | assumption | exact upd_same); (case hv_ => exact rfl)) | ((with_reducible refine' fd_Segment_ack ?ho_ ?hv_ ?_); (case ho_ => first | assumption | exact upd_same); (case hv_ => exact rfl)) | ((with_reducible refine' fd_Segment_syn ?ho_ ?hv_ ?_); (case ho_ => first | assumption | exact upd_same); (case hv_ => exact rfl)) | ((with_reducible refine' fd_Segment_fin ?ho_ ?hv_ ?_); (case ho_ => first | assumption | exact upd_same); (case hv_ => exact rfl)) | ((with_reducible refine' fd_Segment_reset ?ho_ ?hv_ ?_); (case ho_ => first | assumption | exact upd_same); (case hv_ => exact rfl)) | ((with_reducible refine' fd_Segment_marked ?ho_ ?hv_ ?_); (case ho_ => first | assumption | exact upd_same); (case hv_ => exact rfl)) | ((with_reducible refine' fd_Segment_cut ?ho_ ?hv_ ?_); (case ho_ => first | assumption | exact upd_same); (case hv_ => exact rfl)) | ((with_reducible refine' fd_Segment_window ?ho_ ?hv_ ?_); (case ho_ => first | assumption | exact upd_same); (case hv_ => exact rfl)) | ((with_reducible refine' fd_Segment_mss ?ho_ ?hv_ ?_); (case ho_ => first | assumption | exact upd_same); (case hv_ => exact rfl)) | ((with_reducible refine' fd_Segment_scale ?ho_ ?hv_ ?_); (case ho_ => first | assumption | exact upd_same); (case hv_ => exact rfl)) | ((with_reducible refine' fd_Segment_ranges_known ?ho_ ?hv_ ?_); (case ho_ => first | assumption | exact upd_same); (case hv_ => exact rfl)) | ((with_reducible refine' fd_Segment_ranges ?ho_ ?hv_ ?_); (case ho_ => first | assumption | exact upd_same); (case hv_ => exact rfl)) | ((with_reducible refine' fd_Segment_stamp ?ho_ ?hv_ ?_); (case ho_ => first | assumption | exact upd_same); (case hv_ => exact rfl)) | ((with_reducible refine' fd_Segment_data ?ho_ ?hv_ ?_); (case ho_ => first | assumption | exact upd_same); (case hv_ => exact rfl)) | ((with_reducible refine' nw_Segment_source ?ho_ ?hv_ ?_); (case ho_ => first | assumption | exact upd_same); (case hv_ => exact rfl)) | ((with_reducible refine' nw_Segment_target ?ho_ ?hv_ ?_); (case ho_ => first | assumption | exact upd_same); (case hv_ => exact rfl)) | ((with_reducible refine' nw_Segment_seq ?ho_ ?hv_ ?_); (case ho_ => first | assumption | exact upd_same); (case hv_ => exact rfl)) | ((with_reducible refine' nw_Segment_count ?ho_ ?hv_ ?_); (case ho_ => first | assumption | exact upd_same); (case hv_ => exact rfl)) | ((with_reducible refine' nw_Segment_echo ?ho_ ?hv_ ?_); (case ho_ => first | assumption | exact upd_same); (case hv_ => exact rfl)) | ((with_reducible refine' nw_Segment_ack ?ho_ ?hv_ ?_); (case ho_ => first | assumption | exact upd_same); (case hv_ => exact rfl)) | ((with_reducible refine' nw_Segment_syn ?ho_ ?hv_ ?_); (case ho_ => first | assumption | exact upd_same); (case hv_ => exact rfl)) | ((with_reducible refine' nw_Segment_fin ?ho_ ?hv_ ?_); (case ho_ => first | assumption | exact upd_same); (case hv_ => exact rfl)) | ((with_reducible refine' nw_Segment_reset ?ho_ ?hv_ ?_); (case ho_ => first | assumption | exact upd_same); (case hv_ => exact rfl)) | ((with_reducible refine' nw_Segment_marked ?ho_ ?hv_ ?_); (case ho_ => first | assumption | exact upd_same); (case hv_ => exact rfl)) | ((with_reducible refine' nw_Segment_cut ?ho_ ?hv_ ?_); (case ho_ => first | assumption | exact upd_same); (case hv_ => exact rfl)) | ((with_reducible refine' nw_Segment_window ?ho_ ?hv_ ?_); (case ho_ => first | assumption | exact upd_same); (case hv_ => exact rfl)) | ((with_reducible refine' nw_Segment_mss ?ho_ ?hv_ ?_); (case ho_ => first | assumption | exact upd_same); (case hv_ => exact rfl)) | ((with_reducible refine' nw_Segment_scale ?ho_ ?hv_ ?_); (case ho_ => first | assumption | exact upd_same); (case hv_ => exact rfl)) | ((with_reducible refine' nw_Segment_ranges_known ?ho_ ?hv_ ?_); (case ho_ => first | assumption | exact upd_same); (case hv_ => exact rfl)) | ((with_reducible refine' nw_Segment_ranges ?ho_ ?hv_ ?_); (case ho_ => first | assumption | exact upd_same); (case hv_ => exact rfl)) | ((with_reducible refine' nw_Segment_stamp ?ho_ ?hv_ ?_); (case ho_ => first | assumption | exact upd_same); (case hv_ => exact rfl)) | ((with_reducible refine' nw_Segment_data ?ho_ ?hv_ ?_); (case ho_ => first | assumption | exact upd_same); (case hv_ => exact rfl)) | ((with_reducible refine' st_Segment_source ?ho_ ?hv_ ?_); (case ho_ => first | assumption | exact upd_same); (case hv_ => exact Nat.le_of_ble_eq_true rfl)) | ((with_reducible refine' st_Segment_target ?ho_ ?hv_ ?_); (case ho_ => first | assumption | exact upd_same); (case hv_ => exact Nat.le_of_ble_eq_true rfl)) | ((with_reducible refine' st_Segment_seq ?ho_ ?hv_ ?_); (case ho_ => first | assumption | exact upd_same); (case hv_ => exact Nat.le_of_ble_eq_true rfl)) | ((with_reducible refine' st_Segment_count ?ho_ ?hv_ ?_); (case ho_ => first | assumption | exact upd_same); (case hv_ => exact Nat.le_of_ble_eq_true rfl)) | ((with_reducible refine' st_Segment_echo ?ho_ ?hv_ ?_); (case ho_ => first | assumption | exact upd_same); (case hv_ => exact Nat.le_of_ble_eq_true rfl)) | ((with_reducible refine' st_Segment_ack ?ho_ ?hv_ ?_); (case ho_ => first | assumption | exact upd_same); (case hv_ => exact Nat.le_of_ble_eq_true rfl)) | ((with_reducible refine' st_Segment_syn ?ho_ ?hv_ ?_); (case ho_ => first | assumption | exact upd_same); (case hv_ => exact Nat.le_of_ble_eq_true rfl)) | ((with_reducible refine' st_Segment_fin ?ho_ ?hv_ ?_); (case ho_ => first | assumption | exact upd_same); (case hv_ => exact Nat.le_of_ble_eq_true rfl)) | ((with_reducible refine' st_Segment_reset ?ho_ ?hv_ ?_); (case ho_ => first | assumption | exact upd_same); (case hv_ => exact Nat.le_of_ble_eq_true rfl)) | ((with_reducible refine' st_Segment_marked ?ho_ ?hv_ ?_); (case ho_ => first | assumption | exact upd_same); (case hv_ => exact Nat.le_of_ble_eq_true rfl)) | ((with_reducible refine' st_Segment_cut ?ho_ ?hv_ ?_); (case ho_ => first | assumption | exact upd_same); (case hv_ => exact Nat.le_of_ble_eq_true rfl)) | ((with_reducible refine' st_Segment_window ?ho_ ?hv_ ?_); (case ho_ => first | assumption | exact upd_same); (case hv_ => exact Nat.le_of_ble_eq_true rfl)) | ((with_reducible refine' st_Segment_mss ?ho_ ?hv_ ?_); (case ho_ => first | assumption | exact upd_same); (case hv_ => exact Nat.le_of_ble_eq_true rfl)) | ((with_reducible refine' st_Segment_scale ?ho_ ?hv_ ?_); (case ho_ => first | assumption | exact upd_same); (case hv_ => exact Nat.le_of_ble_eq_true rfl)) | ((with_reducible refine' st_Segment_ranges_known ?ho_ ?hv_ ?_); (case ho_ => first | assumption | exact upd_same); (case hv_ => exact Nat.le_of_ble_eq_true rfl)) | ((with_reducible refine' st_Segment_ranges ?ho_ ?hv_ ?_); (case ho_ => first | assumption | exact upd_same); (case hv_ => exact Nat.le_of_ble_eq_true rfl)) | ((with_reducible refine' st_Segment_stamp ?ho_ ?hv_ ?_); (case ho_ => first | assumption | exact upd_same); (case hv_ => exact Nat.le_of_ble_eq_true rfl)) | ((with_reducible refine' st_Segment_data ?ho_ ?hv_ ?_); (case ho_ => first | assumption | exact upd_same); (case hv_ => exact Nat.le_of_ble_eq_true rfl)))
local macro_rules | `(tactic| walk_at "use") => `(tactic| first | ((with_reducible refine' fd_Socket_count ?ho_ ?hv_ ?_); (case ho_ => first | assumption | exact upd_same); (case hv_ => exact rfl)) | ((with_reducible refine' fd_Socket_port ?ho_ ?hv_ ?_); (case ho_ => first | assumption | exact upd_same); (case hv_ => exact rfl)) | ((with_reducible refine' fd_Socket_peer ?ho_ ?hv_ ?_); (case ho_ => first | assumption | exact upd_same); (case hv_ => exact rfl)) | ((with_reducible refine' fd_Socket_peer_port ?ho_ ?hv_ ?_); (case ho_ => first | assumption | exact upd_same); (case hv_ => exact rfl)) | ((with_reducible refine' fd_Socket_peer_count ?ho_ ?hv_ ?_); (case ho_ => first | assumption | exact upd_same); (case hv_ => exact rfl)) | ((with_reducible refine' fd_Socket_peer_first ?ho_ ?hv_ ?_); (case ho_ => first | assumption | exact upd_same); (case hv_ => exact rfl)) | ((with_reducible refine' fd_Socket_peer_shift ?ho_ ?hv_ ?_); (case ho_ => first | assumption | exact upd_same); (case hv_ => exact rfl)) | ((with_reducible refine' fd_Socket_listened ?ho_ ?hv_ ?_); (case ho_ => first | assumption | exact upd_same); (case hv_ => exact rfl)) | ((with_reducible refine' fd_Socket_accepted ?ho_ ?hv_ ?_); (case ho_ => first | assumption | exact upd_same); (case hv_ => exact rfl)) | ((with_reducible refine' fd_Socket_endpoint ?ho_ ?hv_ ?_); (case ho_ => first | assumption | exact upd_same); (case hv_ => exact rfl)) | ((with_reducible refine' nw_Socket_count ?ho_ ?hv_ ?_); (case ho_ => first | assumption | exact upd_same); (case hv_ => exact rfl)) | ((with_reducible refine' nw_Socket_port ?ho_ ?hv_ ?_); (case ho_ => first | assumption | exact upd_same); (case hv_ => exact rfl)) | ((with_reducible refine' nw_Socket_peer ?ho_ ?hv_ ?_); (case ho_ => first | assumption | exact upd_same); (case hv_ => exact rfl)) | ((with_reducible refine' nw_Socket_peer_port ?ho_ ?hv_ ?_); (case ho_ => first | assumption | exact upd_same); (case hv_ => exact rfl)) | ((with_reducible refine' nw_Socket_peer_count ?ho_ ?hv_ ?_); (case ho_ => first | assumption | exact upd_same); (case hv_ => exact rfl)) | ((with_reducible refine' nw_Socket_peer_first ?ho_ ?hv_ ?_); (case ho_ => first | assumption | exact upd_same); (case hv_ => exact rfl)) | ((with_reducible refine' nw_Socket_peer_shift ?ho_ ?hv_ ?_); (case ho_ => first | assumption | exact upd_same); (case hv_ => exact rfl)) | ((with_reducible refine' nw_Socket_listened ?ho_ ?hv_ ?_); (case ho_ => first | assumption | exact upd_same); (case hv_ => exact rfl)) | ((with_reducible refine' nw_Socket_accepted ?ho_ ?hv_ ?_); (case ho_ => first | assumption | exact upd_same); (case hv_ => exact rfl)) | ((with_reducible refine' nw_Socket_endpoint ?ho_ ?hv_ ?_); (case ho_ => first | assumption | exact upd_same); (case hv_ => exact rfl)) | ((with_reducible refine' st_Socket_count ?ho_ ?hv_ ?_); (case ho_ => first | assumption | exact upd_same); (case hv_ => exact Nat.le_of_ble_eq_true rfl)) | ((with_reducible refine' st_Socket_port ?ho_ ?hv_ ?_); (case ho_ => first | assumption | exact upd_same); (case hv_ => exact Nat.le_of_ble_eq_true rfl)) | ((with_reducible refine' st_Socket_peer ?ho_ ?hv_ ?_); (case ho_ => first | assumption | exact upd_same); (case hv_ => exact Nat.le_of_ble_eq_true rfl)) | ((with_reducible refine' st_Socket_peer_port ?ho_ ?hv_ ?_); (case ho_ => first | assumption | exact upd_same); (case hv_ => exact Nat.le_of_ble_eq_true rfl)) | ((with_reducible refine' st_Socket_peer_count ?ho_ ?hv_ ?_); (case ho_ => first | assumption | exact upd_same); (case hv_ => exact Nat.le_of_ble_eq_true rfl)) | ((with_reducible refine' st_Socket_peer_first ?ho_ ?hv_ ?_); (case ho_ => first | assumption | exact upd_same); (case hv_ => exact Nat.le_of_ble_eq_true rfl)) | ((with_reducible refine' st_Socket_peer_shift ?ho_ ?hv_ ?_); (case ho_ => first | assumption | exact upd_same); (case hv_ => exact Nat.le_of_ble_eq_true rfl)) | ((with_reducible refine' st_Socket_listened ?ho_ ?hv_ ?_); (case ho_ => first | assumption | exact upd_same); (case hv_ => exact Nat.le_of_ble_eq_true rfl)) | ((with_reducible refine' st_Socket_accepted ?ho_ ?hv_ ?_); (case ho_ => first | assumption | exact upd_same); (case hv_ => exact Nat.le_of_ble_eq_true rfl)) | ((with_reducible refine' st_Socket_endpoint ?ho_ ?hv_ ?_); (case ho_ => first | assumption | exact upd_same); (case hv_ => exact Nat.le_of_ble_eq_true rfl)) | ((with_reducible refine' me_Socket_is_for ?ho_ ?_); (case ho_ => first | assumption | exact upd_same)) | ((with_reducible refine' me_Socket_learn ?ho_ ?_); (case ho_ => first | assumption | exact upd_same)))
local macro_rules | `(tactic| walk_at "use") => `(tactic| first | ((with_reducible refine' fd_Reno_cwnd ?ho_ ?hv_ ?_); (case ho_ => first | assumption | exact upd_same); (case hv_ => exact rfl)) | ((with_reducible refine' fd_Reno_thresh ?ho_ ?hv_ ?_); (case ho_ => first | assumption | exact upd_same); (case hv_ => exact rfl)) | ((with_reducible refine' fd_Reno_peak ?ho_ ?hv_ ?_); (case ho_ => first | assumption | exact upd_same); (case hv_ => exact rfl)) | ((with_reducible refine' fd_Reno_prior ?ho_ ?hv_ ?_); (case ho_ => first | assumption | exact upd_same); (case hv_ => exact rfl)) | ((with_reducible refine' fd_Reno_calm ?ho_ ?hv_ ?_); (case ho_ => first | assumption | exact upd_same); (case hv_ => exact rfl)) | ((with_reducible refine' fd_Reno_credit ?ho_ ?hv_ ?_); (case ho_ => first | assumption | exact upd_same); (case hv_ => exact rfl)) | ((with_reducible refine' nw_Reno_cwnd ?ho_ ?hv_ ?_); (case ho_ => first | assumption | exact upd_same); (case hv_ => exact rfl)) | ((with_reducible refine' nw_Reno_thresh ?ho_ ?hv_ ?_); (case ho_ => first | assumption | exact upd_same); (case hv_ => exact rfl)) | ((with_reducible refine' nw_Reno_peak ?ho_ ?hv_ ?_); (case ho_ => first | assumption | exact upd_same); (case hv_ => exact rfl)) | ((with_reducible refine' nw_Reno_prior ?ho_ ?hv_ ?_); (case ho_ => first | assumption | exact upd_same); (case hv_ => exact rfl)) | ((with_reducible refine' nw_Reno_calm ?ho_ ?hv_ ?_); (case ho_ => first | assumption | exact upd_same); (case hv_ => exact rfl)) | ((with_reducible refine' nw_Reno_credit ?ho_ ?hv_ ?_); (case ho_ => first | assumption | exact upd_same); (case hv_ => exact rfl)) | ((with_reducible refine' st_Reno_cwnd ?ho_ ?hv_ ?_); (case ho_ => first | assumption | exact upd_same); (case hv_ => exact Nat.le_of_ble_eq_true rfl)) | ((with_reducible refine' st_Reno_thresh ?ho_ ?hv_ ?_); (case ho_ => first | assumption | exact upd_same); (case hv_ => exact Nat.le_of_ble_eq_true rfl)) | ((with_reducible refine' st_Reno_peak ?ho_ ?hv_ ?_); (case ho_ => first | assumption | exact upd_same); (case hv_ => exact Nat.le_of_ble_eq_true rfl)) | ((with_reducible refine' st_Reno_prior ?ho_ ?hv_ ?_); (case ho_ => first | assumption | exact upd_same); (case hv_ => exact Nat.le_of_ble_eq_true rfl)) | ((with_reducible refine' st_Reno_calm ?ho_ ?hv_ ?_); (case ho_ => first | assumption | exact upd_same); (case hv_ => exact Nat.le_of_ble_eq_true rfl)) | ((with_reducible refine' st_Reno_credit ?ho_ ?hv_ ?_); (case ho_ => first | assumption | exact upd_same); (case hv_ => exact Nat.le_of_ble_eq_true rfl)) | ((with_reducible refine' me_Reno_bounded ?ho_ ?_); (case ho_ => first | assumption | exact upd_same)))
local macro_rules | `(tactic| walk_at "use") => `(tactic| first | ((with_reducible refine' fd_RoundTrip_least ?ho_ ?hv_ ?_); (case ho_ => first | assumption | exact upd_same); (case hv_ => exact rfl)) | ((with_reducible refine' fd_RoundTrip_most ?ho_ ?hv_ ?_); (case ho_ => first | assumption | exact upd_same); (case hv_ => exact rfl)) | ((with_reducible refine' fd_RoundTrip_srtt ?ho_ ?hv_ ?_); (case ho_ => first | assumption | exact upd_same); (case hv_ => exact rfl)) | ((with_reducible refine' fd_RoundTrip_variance ?ho_ ?hv_ ?_); (case ho_ => first | assumption | exact upd_same); (case hv_ => exact rfl)) | ((with_reducible refine' fd_RoundTrip_rto ?ho_ ?hv_ ?_); (case ho_ => first | assumption | exact upd_same); (case hv_ => exact rfl)) | ((with_reducible refine' fd_RoundTrip_measured ?ho_ ?hv_ ?_); (case ho_ => first | assumption | exact upd_same); (case hv_ => exact rfl)) | ((with_reducible refine' nw_RoundTrip_least ?ho_ ?hv_ ?_); (case ho_ => first | assumption | exact upd_same); (case hv_ => exact rfl)) | ((with_reducible refine' nw_RoundTrip_most ?ho_ ?hv_ ?_); (case ho_ => first | assumption | exact upd_same); (case hv_ => exact rfl)) | ((with_reducible refine' nw_RoundTrip_srtt ?ho_ ?hv_ ?_); (case ho_ => first | assumption | exact upd_same); (case hv_ => exact rfl)) | ((with_reducible refine' nw_RoundTrip_variance ?ho_ ?hv_ ?_); (case ho_ => first | assumption | exact upd_same); (case hv_ => exact rfl)) | ((with_reducible refine' nw_RoundTrip_rto ?ho_ ?hv_ ?_); (case ho_ => first | assumption | exact upd_same); (case hv_ => exact rfl)) | ((with_reducible refine' nw_RoundTrip_measured ?ho_ ?hv_ ?_); (case ho_ => first | assumption | exact upd_same); (case hv_ => exact rfl)) | ((with_reducible refine' st_RoundTrip_least ?ho_ ?hv_ ?_); (case ho_ => first | assumption | exact upd_same); (case hv_ => exact Nat.le_of_ble_eq_true rfl)) | ((with_reducible refine' st_RoundTrip_most ?ho_ ?hv_ ?_); (case ho_ => first | assumption | exact upd_same); (case hv_ => exact Nat.le_of_ble_eq_true rfl)) | ((with_reducible refine' st_RoundTrip_srtt ?ho_ ?hv_ ?_); (case ho_ => first | assumption | exact upd_same); (case hv_ => exact Nat.le_of_ble_eq_true rfl)) | ((with_reducible refine' st_RoundTrip_variance ?ho_ ?hv_ ?_); (case ho_ => first | assumption | exact upd_same); (case hv_ => exact Nat.le_of_ble_eq_true rfl)) | ((with_reducible refine' st_RoundTrip_rto ?ho_ ?hv_ ?_); (case ho_ => first | assumption | exact upd_same); (case hv_ => exact Nat.le_of_ble_eq_true rfl)) | ((with_reducible refine' st_RoundTrip_measured ?ho_ ?hv_ ?_); (case ho_ => first | assumption | exact upd_same); (case hv_ => exact Nat.le_of_ble_eq_true rfl)) | ((with_reducible refine' me_RoundTrip_within_bounds ?ho_ ?_); (case ho_ => first | assumption | exact upd_same)))
local macro_rules | `(tactic| walk_at "use") => `(tactic| first | ((with_reducible refine' fd_OffsetSet__ranges ?ho_ ?hv_ ?_); (case ho_ => first | assumption | exact upd_same); (case hv_ => exact rfl)) | ((with_reducible refine' nw_OffsetSet__ranges ?ho_ ?hv_ ?_); (case ho_ => first | assumption | exact upd_same); (case hv_ => exact rfl)) | ((with_reducible refine' st_OffsetSet__ranges ?ho_ ?hv_ ?_); (case ho_ => first | assumption | exact upd_same); (case hv_ => exact Nat.le_of_ble_eq_true rfl)))
local macro_rules | `(tactic| walk_at "use") => `(tactic| first | ((with_reducible refine' fd_Receiver_room ?ho_ ?hv_ ?_); (case ho_ => first | assumption | exact upd_same); (case hv_ => exact rfl)) | ((with_reducible refine' fd_Receiver_nxt ?ho_ ?hv_ ?_); (case ho_ => first | assumption | exact upd_same); (case hv_ => exact rfl)) | ((with_reducible refine' fd_Receiver_edge ?ho_ ?hv_ ?_); (case ho_ => first | assumption | exact upd_same); (case hv_ => exact rfl)) | ((with_reducible refine' fd_Receiver_end ?ho_ ?hv_ ?_); (case ho_ => first | assumption | exact upd_same); (case hv_ => exact rfl)) | ((with_reducible refine' fd_Receiver_recent ?ho_ ?hv_ ?_); (case ho_ => first | assumption | exact upd_same); (case hv_ => exact rfl)) | ((with_reducible refine' fd_Receiver__ready ?ho_ ?hv_ ?_); (case ho_ => first | assumption | exact upd_same); (case hv_ => exact rfl)) | ((with_reducible refine' fd_Receiver__held ?ho_ ?hv_ ?_); (case ho_ => first | assumption | exact upd_same); (case hv_ => exact rfl)) | ((with_reducible refine' fd_Receiver__held_offsets ?ho_ ?hv_ ?_); (case ho_ => first | assumption | exact upd_same); (case hv_ => exact rfl)) | ((with_reducible refine' nw_Receiver_room ?ho_ ?hv_ ?_); (case ho_ => first | assumption | exact upd_same); (case hv_ => exact rfl)) | ((with_reducible refine' nw_Receiver_nxt ?ho_ ?hv_ ?_); (case ho_ => first | assumption | exact upd_same); (case hv_ => exact rfl)) | ((with_reducible refine' nw_Receiver_edge ?ho_ ?hv_ ?_); (case ho_ => first | assumption | exact upd_same); (case hv_ => exact rfl)) | ((with_reducible refine' nw_Receiver_end ?ho_ ?hv_ ?_); (case ho_ => first | assumption | exact upd_same); (case hv_ => exact rfl)) | ((with_reducible refine' nw_Receiver_recent ?ho_ ?hv_ ?_); (case ho_ => first | assumption | exact upd_same); (case hv_ => exact rfl)) | ((with_reducible refine' nw_Receiver__ready ?ho_ ?hv_ ?_); (case ho_ => first | assumption | exact upd_same); (case hv_ => exact rfl)) | ((with_reducible refine' nw_Receiver__held ?ho_ ?hv_ ?_); (case ho_ => first | assumption | exact upd_same); (case hv_ => exact rfl)) | ((with_reducible refine' nw_Receiver__held_offsets ?ho_ ?hv_ ?_); (case ho_ => first | assumption | exact upd_same); (case hv_ => exact rfl)) | ((with_reducible refine' st_Receiver_room ?ho_ ?hv_ ?_); (case ho_ => first | assumption | exact upd_same); (case hv_ => exact Nat.le_of_ble_eq_true rfl)) | ((with_reducible refine' st_Receiver_nxt ?ho_ ?hv_ ?_); (case ho_ => first | assumption | exact upd_same); (case hv_ => exact Nat.le_of_ble_eq_true rfl)) | ((with_reducible refine' st_Receiver_edge ?ho_ ?hv_ ?_); (case ho_ => first | assumption | exact upd_same); (case hv_ => exact Nat.le_of_ble_eq_true rfl)) | ((with_reducible refine' st_Receiver_end ?ho_ ?hv_ ?_); (case ho_ => first | assumption | exact upd_same); (case hv_ => exact Nat.le_of_ble_eq_true rfl)) | ((with_reducible refine' st_Receiver_recent ?ho_ ?hv_ ?_); (case ho_ => first | assumption | exact upd_same); (case hv_ => exact Nat.le_of_ble_eq_true rfl)) | ((with_reducible refine' st_Receiver__ready ?ho_ ?hv_ ?_); (case ho_ => first | assumption | exact upd_same); (case hv_ => exact Nat.le_of_ble_eq_true rfl)) | ((with_reducible refine' st_Receiver__held ?ho_ ?hv_ ?_); (case ho_ => first | assumption | exact upd_same); (case hv_ => exact Nat.le_of_ble_eq_true rfl)) | ((with_reducible refine' st_Receiver__held_offsets ?ho_ ?hv_ ?_); (case ho_ => first | assumption | exact upd_same); (case hv_ => exact Nat.le_of_ble_eq_true rfl)))
local macro_rules | `(tactic| walk_at "use") => `(tactic| first | ((with_reducible refine' fd_Sender_room ?ho_ ?hv_ ?_); (case ho_ => first | assumption | exact upd_same); (case hv_ => exact rfl)) | ((with_reducible refine' fd_Sender_una ?ho_ ?hv_ ?_); (case ho_ => first | assumption | exact upd_same); (case hv_ => exact rfl)) | ((with_reducible refine' fd_Sender_nxt ?ho_ ?hv_ ?_); (case ho_ => first | assumption | exact upd_same); (case hv_ => exact rfl)) | ((with_reducible refine' fd_Sender_written ?ho_ ?hv_ ?_); (case ho_ => first | assumption | exact upd_same); (case hv_ => exact rfl)) | ((with_reducible refine' fd_Sender_finished ?ho_ ?hv_ ?_); (case ho_ => first | assumption | exact upd_same); (case hv_ => exact rfl)) | ((with_reducible refine' fd_Sender_edge ?ho_ ?hv_ ?_); (case ho_ => first | assumption | exact upd_same); (case hv_ => exact rfl)) | ((with_reducible refine' fd_Sender_recovery ?ho_ ?hv_ ?_); (case ho_ => first | assumption | exact upd_same); (case hv_ => exact rfl)) | ((with_reducible refine' fd_Sender_resend ?ho_ ?hv_ ?_); (case ho_ => first | assumption | exact upd_same); (case hv_ => exact rfl)) | ((with_reducible refine' fd_Sender_lost ?ho_ ?hv_ ?_); (case ho_ => first | assumption | exact upd_same); (case hv_ => exact rfl)) | ((with_reducible refine' fd_Sender_repeated ?ho_ ?hv_ ?_); (case ho_ => first | assumption | exact upd_same); (case hv_ => exact rfl)) | ((with_reducible refine' fd_Sender__queue ?ho_ ?hv_ ?_); (case ho_ => first | assumption | exact upd_same); (case hv_ => exact rfl)) | ((with_reducible refine' fd_Sender__sacked ?ho_ ?hv_ ?_); (case ho_ => first | assumption | exact upd_same); (case hv_ => exact rfl)) | ((with_reducible refine' nw_Sender_room ?ho_ ?hv_ ?_); (case ho_ => first | assumption | exact upd_same); (case hv_ => exact rfl)) | ((with_reducible refine' nw_Sender_una ?ho_ ?hv_ ?_); (case ho_ => first | assumption | exact upd_same); (case hv_ => exact rfl)) | ((with_reducible refine' nw_Sender_nxt ?ho_ ?hv_ ?_); (case ho_ => first | assumption | exact upd_same); (case hv_ => exact rfl)) | ((with_reducible refine' nw_Sender_written ?ho_ ?hv_ ?_); (case ho_ => first | assumption | exact upd_same); (case hv_ => exact rfl)) | ((with_reducible refine' nw_Sender_finished ?ho_ ?hv_ ?_); (case ho_ => first | assumption | exact upd_same); (case hv_ => exact rfl)) | ((with_reducible refine' nw_Sender_edge ?ho_ ?hv_ ?_); (case ho_ => first | assumption | exact upd_same); (case hv_ => exact rfl)) | ((with_reducible refine' nw_Sender_recovery ?ho_ ?hv_ ?_); (case ho_ => first | assumption | exact upd_same); (case hv_ => exact rfl)) | ((with_reducible refine' nw_Sender_resend ?ho_ ?hv_ ?_); (case ho_ => first | assumption | exact upd_same); (case hv_ => exact rfl)) | ((with_reducible refine' nw_Sender_lost ?ho_ ?hv_ ?_); (case ho_ => first | assumption | exact upd_same); (case hv_ => exact rfl)) | ((with_reducible refine' nw_Sender_repeated ?ho_ ?hv_ ?_); (case ho_ => first | assumption | exact upd_same); (case hv_ => exact rfl)) | ((with_reducible refine' nw_Sender__queue ?ho_ ?hv_ ?_); (case ho_ => first | assumption | exact upd_same); (case hv_ => exact rfl)) | ((with_reducible refine' nw_Sender__sacked ?ho_ ?hv_ ?_); (case ho_ => first | assumption | exact upd_same); (case hv_ => exact rfl)) | ((with_reducible refine' st_Sender_room ?ho_ ?hv_ ?_); (case ho_ => first | assumption | exact upd_same); (case hv_ => exact Nat.le_of_ble_eq_true rfl)) | ((with_reducible refine' st_Sender_una ?ho_ ?hv_ ?_); (case ho_ => first | assumption | exact upd_same); (case hv_ => exact Nat.le_of_ble_eq_true rfl)) | ((with_reducible refine' st_Sender_nxt ?ho_ ?hv_ ?_); (case ho_ => first | assumption | exact upd_same); (case hv_ => exact Nat.le_of_ble_eq_true rfl)) | ((with_reducible refine' st_Sender_written ?ho_ ?hv_ ?_); (case ho_ => first | assumption | exact upd_same); (case hv_ => exact Nat.le_of_ble_eq_true rfl)) | ((with_reducible refine' st_Sender_finished ?ho_ ?hv_ ?_); (case ho_ => first | assumption | exact upd_same); (case hv_ => exact Nat.le_of_ble_eq_true rfl)) | ((with_reducible refine' st_Sender_edge ?ho_ ?hv_ ?_); (case ho_ => first | assumption | exact upd_same); (case hv_ => exact Nat.le_of_ble_eq_true rfl)) | ((with_reducible refine' st_Sender_recovery ?ho_ ?hv_ ?_); (case ho_ => first | assumption | exact upd_same); (case hv_ => exact Nat.le_of_ble_eq_true rfl)) | ((with_reducible refine' st_Sender_resend ?ho_ ?hv_ ?_); (case ho_ => first | assumption | exact upd_same); (case hv_ => exact Nat.le_of_ble_eq_true rfl)) | ((with_reducible refine' st_Sender_lost ?ho_ ?hv_ ?_); (case ho_ => first | assumption | exact upd_same); (case hv_ => exact Nat.le_of_ble_eq_true rfl)) | ((with_reducible refine' st_Sender_repeated ?ho_ ?hv_ ?_); (case ho_ => first | assumption | exact upd_same); (case hv_ => exact Nat.le_of_ble_eq_true rfl)) | ((with_reducible refine' st_Sender__queue ?ho_ ?hv_ ?_); (case ho_ => first | assumption | exact upd_same); (case hv_ => exact Nat.le_of_ble_eq_true rfl)) | ((with_reducible refine' st_Sender__sacked ?ho_ ?hv_ ?_); (case ho_ => first | assumption | exact upd_same); (case hv_ => exact Nat.le_of_ble_eq_true rfl)))
local macro_rules | `(tactic| walk_at "use") => `(tactic| first | ((with_reducible refine' fd_Endpoint_options ?ho_ ?hv_ ?_); (case ho_ => first | assumption | exact upd_same); (case hv_ => exact rfl)) | ((with_reducible refine' fd_Endpoint_sender ?ho_ ?hv_ ?_); (case ho_ => first | assumption | exact upd_same); (case hv_ => exact rfl)) | ((with_reducible refine' fd_Endpoint_receiver ?ho_ ?hv_ ?_); (case ho_ => first | assumption | exact upd_same); (case hv_ => exact rfl)) | ((with_reducible refine' fd_Endpoint_trip ?ho_ ?hv_ ?_); (case ho_ => first | assumption | exact upd_same); (case hv_ => exact rfl)) | ((with_reducible refine' fd_Endpoint_control ?ho_ ?hv_ ?_); (case ho_ => first | assumption | exact upd_same); (case hv_ => exact rfl)) | ((with_reducible refine' fd_Endpoint_phase ?ho_ ?hv_ ?_); (case ho_ => first | assumption | exact upd_same); (case hv_ => exact rfl)) | ((with_reducible refine' fd_Endpoint_cause ?ho_ ?hv_ ?_); (case ho_ => first | assumption | exact upd_same); (case hv_ => exact rfl)) | ((with_reducible refine' fd_Endpoint_mss ?ho_ ?hv_ ?_); (case ho_ => first | assumption | exact upd_same); (case hv_ => exact rfl)) | ((with_reducible refine' fd_Endpoint_selective ?ho_ ?hv_ ?_); (case ho_ => first | assumption | exact upd_same); (case hv_ => exact rfl)) | ((with_reducible refine' fd_Endpoint_alarm ?ho_ ?hv_ ?_); (case ho_ => first | assumption | exact upd_same); (case hv_ => exact rfl)) | ((with_reducible refine' fd_Endpoint_since ?ho_ ?hv_ ?_); (case ho_ => first | assumption | exact upd_same); (case hv_ => exact rfl)) | ((with_reducible refine' fd_Endpoint_ack_at ?ho_ ?hv_ ?_); (case ho_ => first | assumption | exact upd_same); (case hv_ => exact rfl)) | ((with_reducible refine' fd_Endpoint_late ?ho_ ?hv_ ?_); (case ho_ => first | assumption | exact upd_same); (case hv_ => exact rfl)) | ((with_reducible refine' fd_Endpoint_asked ?ho_ ?hv_ ?_); (case ho_ => first | assumption | exact upd_same); (case hv_ => exact rfl)) | ((with_reducible refine' fd_Endpoint_again ?ho_ ?hv_ ?_); (case ho_ => first | assumption | exact upd_same); (case hv_ => exact rfl)) | ((with_reducible refine' fd_Endpoint_probe ?ho_ ?hv_ ?_); (case ho_ => first | assumption | exact upd_same); (case hv_ => exact rfl)) | ((with_reducible refine' fd_Endpoint_over ?ho_ ?hv_ ?_); (case ho_ => first | assumption | exact upd_same); (case hv_ => exact rfl)) | ((with_reducible refine' fd_Endpoint_rest ?ho_ ?hv_ ?_); (case ho_ => first | assumption | exact upd_same); (case hv_ => exact rfl)) | ((with_reducible refine' fd_Endpoint_spent_at ?ho_ ?hv_ ?_); (case ho_ => first | assumption | exact upd_same); (case hv_ => exact rfl)) | ((with_reducible refine' fd_Endpoint_spent ?ho_ ?hv_ ?_); (case ho_ => first | assumption | exact upd_same); (case hv_ => exact rfl)) | ((with_reducible refine' fd_Endpoint_stamp ?ho_ ?hv_ ?_); (case ho_ => first | assumption | exact upd_same); (case hv_ => exact rfl)) | ((with_reducible refine' fd_Endpoint_marked ?ho_ ?hv_ ?_); (case ho_ => first | assumption | exact upd_same); (case hv_ => exact rfl)) | ((with_reducible refine' fd_Endpoint_cut ?ho_ ?hv_ ?_); (case ho_ => first | assumption | exact upd_same); (case hv_ => exact rfl)) | ((with_reducible refine' nw_Endpoint_options ?ho_ ?hv_ ?_); (case ho_ => first | assumption | exact upd_same); (case hv_ => exact rfl)) | ((with_reducible refine' nw_Endpoint_sender ?ho_ ?hv_ ?_); (case ho_ => first | assumption | exact upd_same); (case hv_ => exact rfl)) | ((with_reducible refine' nw_Endpoint_receiver ?ho_ ?hv_ ?_); (case ho_ => first | assumption | exact upd_same); (case hv_ => exact rfl)) | ((with_reducible refine' nw_Endpoint_trip ?ho_ ?hv_ ?_); (case ho_ => first | assumption | exact upd_same); (case hv_ => exact rfl)) | ((with_reducible refine' nw_Endpoint_control ?ho_ ?hv_ ?_); (case ho_ => first | assumption | exact upd_same); (case hv_ => exact rfl)) | ((with_reducible refine' nw_Endpoint_phase ?ho_ ?hv_ ?_); (case ho_ => first | assumption | exact upd_same); (case hv_ => exact rfl)) | ((with_reducible refine' nw_Endpoint_cause ?ho_ ?hv_ ?_); (case ho_ => first | assumption | exact upd_same); (case hv_ => exact rfl)) | ((with_reducible refine' nw_Endpoint_mss ?ho_ ?hv_ ?_); (case ho_ => first | assumption | exact upd_same); (case hv_ => exact rfl)) | ((with_reducible refine' nw_Endpoint_selective ?ho_ ?hv_ ?_); (case ho_ => first | assumption | exact upd_same); (case hv_ => exact rfl)) | ((with_reducible refine' nw_Endpoint_alarm ?ho_ ?hv_ ?_); (case ho_ => first | assumption | exact upd_same); (case hv_ => exact rfl)) | ((with_reducible refine' nw_Endpoint_since ?ho_ ?hv_ ?_); (case ho_ => first | assumption | exact upd_same); (case hv_ => exact rfl)) | ((with_reducible refine' nw_Endpoint_ack_at ?ho_ ?hv_ ?_); (case ho_ => first | assumption | exact upd_same); (case hv_ => exact rfl)) | ((with_reducible refine' nw_Endpoint_late ?ho_ ?hv_ ?_); (case ho_ => first | assumption | exact upd_same); (case hv_ => exact rfl)) | ((with_reducible refine' nw_Endpoint_asked ?ho_ ?hv_ ?_); (case ho_ => first | assumption | exact upd_same); (case hv_ => exact rfl)) | ((with_reducible refine' nw_Endpoint_again ?ho_ ?hv_ ?_); (case ho_ => first | assumption | exact upd_same); (case hv_ => exact rfl)) | ((with_reducible refine' nw_Endpoint_probe ?ho_ ?hv_ ?_); (case ho_ => first | assumption | exact upd_same); (case hv_ => exact rfl)) | ((with_reducible refine' nw_Endpoint_over ?ho_ ?hv_ ?_); (case ho_ => first | assumption | exact upd_same); (case hv_ => exact rfl)) | ((with_reducible refine' nw_Endpoint_rest ?ho_ ?hv_ ?_); (case ho_ => first | assumption | exact upd_same); (case hv_ => exact rfl)) | ((with_reducible refine' nw_Endpoint_spent_at ?ho_ ?hv_ ?_); (case ho_ => first | assumption | exact upd_same); (case hv_ => exact rfl)) | ((with_reducible refine' nw_Endpoint_spent ?ho_ ?hv_ ?_); (case ho_ => first | assumption | exact upd_same); (case hv_ => exact rfl)) | ((with_reducible refine' nw_Endpoint_stamp ?ho_ ?hv_ ?_); (case ho_ => first | assumption | exact upd_same); (case hv_ => exact rfl)) | ((with_reducible refine' nw_Endpoint_marked ?ho_ ?hv_ ?_); (case ho_ => first | assumption | exact upd_same); (case hv_ => exact rfl)) | ((with_reducible refine' nw_Endpoint_cut ?ho_ ?hv_ ?_); (case ho_ => first | assumption | exact upd_same); (case hv_ => exact rfl)) | ((with_reducible refine' st_Endpoint_options ?ho_ ?hv_ ?_); (case ho_ => first | assumption | exact upd_same); (case hv_ => exact Nat.le_of_ble_eq_true rfl)) | ((with_reducible refine' st_Endpoint_sender ?ho_ ?hv_ ?_); (case ho_ => first | assumption | exact upd_same); (case hv_ => exact Nat.le_of_ble_eq_true rfl)) | ((with_reducible refine' st_Endpoint_receiver ?ho_ ?hv_ ?_); (case ho_ => first | assumption | exact upd_same); (case hv_ => exact Nat.le_of_ble_eq_true rfl)) | ((with_reducible refine' st_Endpoint_trip ?ho_ ?hv_ ?_); (case ho_ => first | assumption | exact upd_same); (case hv_ => exact Nat.le_of_ble_eq_true rfl)) | ((with_reducible refine' st_Endpoint_control ?ho_ ?hv_ ?_); (case ho_ => first | assumption | exact upd_same); (case hv_ => exact Nat.le_of_ble_eq_true rfl)) | ((with_reducible refine' st_Endpoint_phase ?ho_ ?hv_ ?_); (case ho_ => first | assumption | exact upd_same); (case hv_ => exact Nat.le_of_ble_eq_true rfl)) | ((with_reducible refine' st_Endpoint_cause ?ho_ ?hv_ ?_); (case ho_ => first | assumption | exact upd_same); (case hv_ => exact Nat.le_of_ble_eq_true rfl)) | ((with_reducible refine' st_Endpoint_mss ?ho_ ?hv_ ?_); (case ho_ => first | assumption | exact upd_same); (case hv_ => exact Nat.le_of_ble_eq_true rfl)) | ((with_reducible refine' st_Endpoint_selective ?ho_ ?hv_ ?_); (case ho_ => first | assumption | exact upd_same); (case hv_ => exact Nat.le_of_ble_eq_true rfl)) | ((with_reducible refine' st_Endpoint_alarm ?ho_ ?hv_ ?_); (case ho_ => first | assumption | exact upd_same); (case hv_ => exact Nat.le_of_ble_eq_true rfl)) | ((with_reducible refine' st_Endpoint_since ?ho_ ?hv_ ?_); (case ho_ => first | assumption | exact upd_same); (case hv_ => exact Nat.le_of_ble_eq_true rfl)) | ((with_reducible refine' st_Endpoint_ack_at ?ho_ ?hv_ ?_); (case ho_ => first | assumption | exact upd_same); (case hv_ => exact Nat.le_of_ble_eq_true rfl)) | ((with_reducible refine' st_Endpoint_late ?ho_ ?hv_ ?_); (case ho_ => first | assumption | exact upd_same); (case hv_ => exact Nat.le_of_ble_eq_true rfl)) | ((with_reducible refine' st_Endpoint_asked ?ho_ ?hv_ ?_); (case ho_ => first | assumption | exact upd_same); (case hv_ => exact Nat.le_of_ble_eq_true rfl)) | ((with_reducible refine' st_Endpoint_again ?ho_ ?hv_ ?_); (case ho_ => first | assumption | exact upd_same); (case hv_ => exact Nat.le_of_ble_eq_true rfl)) | ((with_reducible refine' st_Endpoint_probe ?ho_ ?hv_ ?_); (case ho_ => first | assumption | exact upd_same); (case hv_ => exact Nat.le_of_ble_eq_true rfl)) | ((with_reducible refine' st_Endpoint_over ?ho_ ?hv_ ?_); (case ho_ => first | assumption | exact upd_same); (case hv_ => exact Nat.le_of_ble_eq_true rfl)) | ((with_reducible refine' st_Endpoint_rest ?ho_ ?hv_ ?_); (case ho_ => first | assumption | exact upd_same); (case hv_ => exact Nat.le_of_ble_eq_true rfl)) | ((with_reducible refine' st_Endpoint_spent_at ?ho_ ?hv_ ?_); (case ho_ => first | assumption | exact upd_same); (case hv_ => exact Nat.le_of_ble_eq_true rfl)) | ((with_reducible refine' st_Endpoint_spent ?ho_ ?hv_ ?_); (case ho_ => first | assumption | exact upd_same); (case hv_ => exact Nat.le_of_ble_eq_true rfl)) | ((with_reducible refine' st_Endpoint_stamp ?ho_ ?hv_ ?_); (case ho_ => first | assumption | exact upd_same); (case hv_ => exact Nat.le_of_ble_eq_true rfl)) | ((with_reducible refine' st_Endpoint_marked ?ho_ ?hv_ ?_); (case ho_ => first | assumption | exact upd_same); (case hv_ => exact Nat.le_of_ble_eq_true rfl)) | ((with_reducible refine' st_Endpoint_cut ?ho_ ?hv_ ?_); (case ho_ => first | assumption | exact upd_same); (case hv_ => exact Nat.le_of_ble_eq_true rfl)) | ((with_reducible refine' me_Endpoint_abort ?ho_ ?_); (case ho_ => first | assumption | exact upd_same)) | ((with_reducible refine' me_Endpoint_end ?ho_ ?_); (case ho_ => first | assumption | exact upd_same)))
local macro_rules | `(tactic| walk_at "use") => `(tactic| first | ((with_reducible refine' fd_Options_mss ?ho_ ?hv_ ?_); (case ho_ => first | assumption | exact upd_same); (case hv_ => exact rfl)) | ((with_reducible refine' fd_Options_room ?ho_ ?hv_ ?_); (case ho_ => first | assumption | exact upd_same); (case hv_ => exact rfl)) | ((with_reducible refine' fd_Options_life ?ho_ ?hv_ ?_); (case ho_ => first | assumption | exact upd_same); (case hv_ => exact rfl)) | ((with_reducible refine' fd_Options_pace ?ho_ ?hv_ ?_); (case ho_ => first | assumption | exact upd_same); (case hv_ => exact rfl)) | ((with_reducible refine' fd_Options_tries ?ho_ ?hv_ ?_); (case ho_ => first | assumption | exact upd_same); (case hv_ => exact rfl)) | ((with_reducible refine' fd_Options_min_rto ?ho_ ?hv_ ?_); (case ho_ => first | assumption | exact upd_same); (case hv_ => exact rfl)) | ((with_reducible refine' fd_Options_max_rto ?ho_ ?hv_ ?_); (case ho_ => first | assumption | exact upd_same); (case hv_ => exact rfl)) | ((with_reducible refine' fd_Options_ack_delay ?ho_ ?hv_ ?_); (case ho_ => first | assumption | exact upd_same); (case hv_ => exact rfl)) | ((with_reducible refine' fd_Options_keep_alive ?ho_ ?hv_ ?_); (case ho_ => first | assumption | exact upd_same); (case hv_ => exact rfl)) | ((with_reducible refine' fd_Options_nagle ?ho_ ?hv_ ?_); (case ho_ => first | assumption | exact upd_same); (case hv_ => exact rfl)) | ((with_reducible refine' fd_Options_control ?ho_ ?hv_ ?_); (case ho_ => first | assumption | exact upd_same); (case hv_ => exact rfl)) | ((with_reducible refine' nw_Options_mss ?ho_ ?hv_ ?_); (case ho_ => first | assumption | exact upd_same); (case hv_ => exact rfl)) | ((with_reducible refine' nw_Options_room ?ho_ ?hv_ ?_); (case ho_ => first | assumption | exact upd_same); (case hv_ => exact rfl)) | ((with_reducible refine' nw_Options_life ?ho_ ?hv_ ?_); (case ho_ => first | assumption | exact upd_same); (case hv_ => exact rfl)) | ((with_reducible refine' nw_Options_pace ?ho_ ?hv_ ?_); (case ho_ => first | assumption | exact upd_same); (case hv_ => exact rfl)) | ((with_reducible refine' nw_Options_tries ?ho_ ?hv_ ?_); (case ho_ => first | assumption | exact upd_same); (case hv_ => exact rfl)) | ((with_reducible refine' nw_Options_min_rto ?ho_ ?hv_ ?_); (case ho_ => first | assumption | exact upd_same); (case hv_ => exact rfl)) | ((with_reducible refine' nw_Options_max_rto ?ho_ ?hv_ ?_); (case ho_ => first | assumption | exact upd_same); (case hv_ => exact rfl)) | ((with_reducible refine' nw_Options_ack_delay ?ho_ ?hv_ ?_); (case ho_ => first | assumption | exact upd_same); (case hv_ => exact rfl)) | ((with_reducible refine' nw_Options_keep_alive ?ho_ ?hv_ ?_); (case ho_ => first | assumption | exact upd_same); (case hv_ => exact rfl)) | ((with_reducible refine' nw_Options_nagle ?ho_ ?hv_ ?_); (case ho_ => first | assumption | exact upd_same); (case hv_ => exact rfl)) | ((with_reducible refine' nw_Options_control ?ho_ ?hv_ ?_); (case ho_ => first | assumption | exact upd_same); (case hv_ => exact rfl)) | ((with_reducible refine' st_Options_mss ?ho_ ?hv_ ?_); (case ho_ => first | assumption | exact upd_same); (case hv_ => exact Nat.le_of_ble_eq_true rfl)) | ((with_reducible refine' st_Options_room ?ho_ ?hv_ ?_); (case ho_ => first | assumption | exact upd_same); (case hv_ => exact Nat.le_of_ble_eq_true rfl)) | ((with_reducible refine' st_Options_life ?ho_ ?hv_ ?_); (case ho_ => first | assumption | exact upd_same); (case hv_ => exact Nat.le_of_ble_eq_true rfl)) | ((with_reducible refine' st_Options_pace ?ho_ ?hv_ ?_); (case ho_ => first | assumption | exact upd_same); (case hv_ => exact Nat.le_of_ble_eq_true rfl)) | ((with_reducible refine' st_Options_tries ?ho_ ?hv_ ?_); (case ho_ => first | assumption | exact upd_same); (case hv_ => exact Nat.le_of_ble_eq_true rfl)) | ((with_reducible refine' st_Options_min_rto ?ho_ ?hv_ ?_); (case ho_ => first | assumption | exact upd_same); (case hv_ => exact Nat.le_of_ble_eq_true rfl)) | ((with_reducible refine' st_Options_max_rto ?ho_ ?hv_ ?_); (case ho_ => first | assumption | exact upd_same); (case hv_ => exact Nat.le_of_ble_eq_true rfl)) | ((with_reducible refine' st_Options_ack_delay ?ho_ ?hv_ ?_); (case ho_ => first | assumption | exact upd_same); (case hv_ => exact Nat.le_of_ble_eq_true rfl)) | ((with_reducible refine' st_Options_keep_alive ?ho_ ?hv_ ?_); (case ho_ => first | assumption | exact upd_same); (case hv_ => exact Nat.le_of_ble_eq_true rfl)) | ((with_reducible refine' st_Options_nagle ?ho_ ?hv_ ?_); (case ho_ => first | assumption | exact upd_same); (case hv_ => exact Nat.le_of_ble_eq_true rfl)) | ((with_reducible refine' st_Options_control ?ho_ ?hv_ ?_); (case ho_ => first | assumption | exact upd_same); (case hv_ => exact Nat.le_of_ble_eq_true rfl)) | ((with_reducible refine' me_Options_fork ?ho_ ?_); (case ho_ => first | assumption | exact upd_same)) | ((with_reducible refine' me_Options_wrong_names ?ho_ ?_); (case ho_ => first | assumption | exact upd_same)))
section
variable {P : Program} {w : World} {K : PySem.W.Frag} {mg : Str → Option Value} {base : Heap}
local macro_rules | `(tactic| walk_at "use") => `(tactic| with_reducible first | refine g_makeK ?_)
def epV (a b c d e : V) (ph : Str) (cs : V) (m : Int) (ov : Bool) : List V := [a, b, c, d, e, .str ph, cs, .int m, .bl false, .non, .int 0, .non, .int 0, .bl false, .bl false, .bl false, .bl ov, .int 0, .int 0, .int 0, .int 0, .bl false, .bl false]
/-- an endpoint in this phase -/
def EpO (C : Addr) (H : Hp) (p : Addr) (ph : Str) : Prop := ∃ dx a b c d e cs m ov, H p = some (.ins C dx (obj ky_Endpoint (epV a b c d e ph cs m ov)))
theorem EpO.same {C : Addr} {H H' : Hp} {p : Addr} {ph : Str} (h : EpO C H p ph) (s : Same H H') : EpO C H' p ph := by
  obtain ⟨dx, a, b, c, d, e, cs, m, ov, h⟩ := h
  exact ⟨dx, a, b, c, d, e, cs, m, ov, s _ _ h⟩
def sp_Endpoint_init (C Co : Addr) : Sp := fun vs H Q _ => ∃ (p dx o : Addr) (g : Rw), vs = [.ref p, .ref o, .int 0] ∧ H p = some (.ins C dx (obj ky_Endpoint [])) ∧ OpO Co H o g ∧ Bd g ∧ Fit g ∧ g.ctl = "reno" ∧ ∀ H', But p H H' → EpO C H' p "syn sent" → Q .non H'
theorem ok_Endpoint_init__ (T : Txt P K mg) : FnOk P w K mg base CX0 7 T.f_Endpoint_init__ T.d_Endpoint_init__ ["self", "options", "now"] (sp_Endpoint_init T.C_Endpoint T.C_Options) := by
  refine T.F_Endpoint_init__.ok sc_Endpoint_init__ (fun vs H Q E h => ?_) (fun cdv A outer s H vs Q E hr h => ?_)
  · obtain ⟨p, dx, o, g, rfl, hp, hO, bd, f, hct, q⟩ := h
    rfl
  · obtain ⟨p, dx, o, g, rfl, hp, hO, bd, f, hct, q⟩ := h
    have hu := hu_of hr
    refine ⟨_, (pss_cons (ps_fld (pv 0) (pe_meth0 (pv 1) T.k_Options T.a_Options_fork (ok_Options_fork T) (hr.mono (by decide)) T.b_Options_fork .nil pass0) rfl)
        (pss_cons (ps_fld (pv 0) (pe_make T.mk_Sender (ok_Sender_init__ T) (hr.mono (by decide)) rfl T.c_Sender T.b_Sender_init__ .nil pass0 (pa_cons (pe_fld (pv 1) rfl) pa_nil)) rfl)
        (pss_cons (ps_fld (pv 0) (pe_make T.mk_Receiver (ok_Receiver_init__ T) (hr.mono (by decide)) rfl T.c_Receiver T.b_Receiver_init__ .nil pass0 (pa_cons (pe_fld (pv 1) rfl) pa_nil)) rfl)
        (pss_cons (ps_fld (pv 0) (pe_make T.mk_RoundTrip (ok_RoundTrip_init__ T) (hr.mono (by decide)) rfl T.c_RoundTrip T.b_RoundTrip_init__ .nil pass0 (pa_cons (pe_fld (pv 1) rfl) (pa_cons (pe_fld (pv 1) rfl) pa_nil))) rfl)
        (pss_cons (ps_fld (pv 0) (pe_call (ok_new_control T) (hr.mono (by decide)) rfl T.m_new_control T.F_new_control.kp T.b_new_control .nil pass0 (pa_cons (pe_fld (pv 1) rfl) (pa_cons (pe_fld (pv 1) rfl) pa_nil))) rfl)
        (pss_cons (ps_fld (pv 0) pe_str rfl)
        (pss_cons (ps_fld (pv 0) pe_non rfl)
        (pss_cons (ps_fld (pv 0) (pe_fld (pv 1) rfl) rfl)
        (pss_cons (ps_fld (pv 0) pe_bl rfl)
        (pss_cons (ps_fld (pv 0) pe_non rfl)
        (pss_cons (ps_fld (pv 0) (pv 2) rfl)
        (pss_cons (ps_fld (pv 0) pe_non rfl)
        (pss_cons (ps_fld (pv 0) pe_int rfl)
        (pss_cons (ps_fld (pv 0) pe_bl rfl)
        (pss_cons (ps_fld (pv 0) pe_bl rfl)
        (pss_cons (ps_fld (pv 0) pe_bl rfl)
        (pss_cons (ps_fld (pv 0) pe_bl rfl)
        (pss_cons (ps_fld (pv 0) pe_int rfl)
        (pss_cons (ps_fld (pv 0) (pv 2) rfl)
        (pss_cons (ps_fld (pv 0) pe_int rfl)
        (pss_cons (ps_fld (pv 0) pe_int rfl)
        (pss_cons (ps_fld (pv 0) pe_bl rfl)
        (pss_one (ps_fld (pv 0) pe_bl rfl)))))))))))))))))))))))), ?_⟩
    dsimp only [cxOf, Cx.nox, Cx.wish, L2.start, List.map, List.cons_append, List.nil_append, List.length_cons, List.length_nil, Nat.reduceAdd, Nat.reduceSub, Nat.zero_add, List.replicate_succ, List.replicate_zero]
    have nop : o ≠ p := fun z => by
      obtain ⟨dz, h⟩ := hO
      rw [z, hp] at h
      injection h with h
      injection h with _ _ h
      first | exact absurd (show true = false from congrArg List.isEmpty h) (by decide) | exact absurd (show false = true from congrArg List.isEmpty h) (by decide)
    obtain ⟨dz0, ho0⟩ := id hO
    unfold rwV at ho0
    walk_at "go"
    refine ⟨o, g, rfl, hO, bd, f, fun p1 H1 n1 s1 _ => ?_⟩
    have hp1 := s1 _ _ hp
    have hO1 := hO.same s1
    walk_at "go"
    simp only [List.nil_append]
    walk_at "bt"
    rename_i H2 b2 k2
    have hO2 : OpO T.C_Options H2 o g := let ⟨dz, h⟩ := hO1; ⟨dz, b2 _ _ nop h⟩
    obtain ⟨dz, ho2⟩ := id hO2
    unfold rwV at ho2
    walk_at "go"
    rintro x2 y2 nx2 ny2 ne2
    refine ⟨x2, y2, _, rfl, upd_same, fun H3 b3 => ⟨rfl, ?_⟩⟩
    have s3 := made_same nx2 ny2 ne2 b3
    have ho3 := s3 _ _ ho2
    have hp3 := s3 _ _ k2
    walk_at "go"
    simp only [List.nil_append, List.cons_append]
    walk_at "bt"
    rename_i H4 b4 k4
    have ho4 := b4 _ _ nop ho3
    walk_at "go"
    rintro x4 y4 nx4 ny4 ne4
    refine ⟨x4, y4, _, rfl, upd_same, fun H5 b5 => ⟨rfl, ?_⟩⟩
    have s5 := made_same nx4 ny4 ne4 b5
    have ho5 := s5 _ _ ho4
    have hp5 := s5 _ _ k4
    walk_at "go"
    simp only [List.nil_append, List.cons_append]
    walk_at "bt"
    rename_i H6 b6 k6
    have ho6 := b6 _ _ nop ho5
    walk_at "go"
    rintro x6 y6 nx6 ny6 ne6
    refine ⟨x6, y6, _, _, rfl, upd_same, fun H7 b7 => ⟨rfl, ?_⟩⟩
    have s7 := made_same nx6 ny6 ne6 b7
    have ho7 := s7 _ _ ho6
    have hp7 := s7 _ _ k6
    walk_at "go"
    simp only [List.nil_append, List.cons_append]
    walk_at "bt"
    rename_i H8 b8 k8
    have ho8 := b8 _ _ nop ho7
    walk_at "go"
    refine ⟨_, by rw [hct]; rfl, fun x8 H9 nx8 s9 => ?_⟩
    have ho9 := s9 _ _ ho8
    have hp9 := s9 _ _ k8
    walk_at "go"
    simp only [upd_upd, List.nil_append, List.cons_append]
    walk_at "bt"
    rename_i H10 b10 k10
    have ho10 := b10 _ _ nop ho9
    walk_at "go"
    simp only [upd_upd, List.nil_append, List.cons_append]
    have B : But p H H10 := ((((((((But.of s1).trans b2).trans (But.of s3)).trans b4).trans (But.of s5)).trans b6).trans (But.of s7)).trans b8).trans (But.of s9) |>.trans b10
    exact q _ B.upd ⟨dx, _, _, _, _, _, _, _, _, upd_same⟩

def sp_has_ended (C : Addr) : Sp := fun vs H Q _ => ∃ (p : Addr) (ph : Str), vs = [.ref p] ∧ EpO C H p ph ∧ Q (.bl (decide (ph = "ended"))) H
theorem ok_Endpoint_has_ended (T : Txt P K mg) : FnOk P w K mg base CX0 1 T.f_Endpoint_has_ended T.d_Endpoint_has_ended ["self"] (sp_has_ended T.C_Endpoint) := by
  refine T.F_Endpoint_has_ended.ok sc_Endpoint_has_ended (fun vs H Q E h => ?_) (fun cdv A outer s H vs Q E hr h => ?_)
  · obtain ⟨p, ph, rfl, ⟨dx, a, b, c, d, e, cs, m, ov, hp⟩, q⟩ := h
    rfl
  · obtain ⟨p, ph, rfl, ⟨dx, a, b, c, d, e, cs, m, ov, hp⟩, q⟩ := h
    have hu := hu_of hr
    refine ⟨_, (pss_one (ps_ret (pe_cmpR op_eq (pe_fld (pv 0) rfl) pe_str (nomark _)))), ?_⟩
    dsimp only [cxOf, Cx.nox, Cx.wish, L2.start, List.map, List.cons_append, List.nil_append, List.length_cons, List.length_nil, Nat.reduceAdd, Nat.reduceSub, Nat.zero_add, List.replicate_succ, List.replicate_zero]
    unfold epV at hp
    walk_at "go"
    refine g_rEqS ?_
    exact q
def sp_ep_end (C : Addr) : Sp := fun vs H Q _ => ∃ (p : Addr) (ph cs : Str), vs = [.ref p, .str cs] ∧ EpO C H p ph ∧ ∀ H', But p H H' → EpO C H' p "ended" → Q .non H'
theorem ok_Endpoint_end (T : Txt P K mg) : FnOk P w K mg base CX0 1 T.f_Endpoint_end T.d_Endpoint_end ["self", "cause"] (sp_ep_end T.C_Endpoint) := by
  refine T.F_Endpoint_end.ok sc_Endpoint_end (fun vs H Q E h => ?_) (fun cdv A outer s H vs Q E hr h => ?_)
  · obtain ⟨p, ph, cs0, rfl, ⟨dx, a, b, c, d, e, cs, m, ov, hp⟩, q⟩ := h
    rfl
  · obtain ⟨p, ph, cs0, rfl, ⟨dx, a, b, c, d, e, cs, m, ov, hp⟩, q⟩ := h
    have hu := hu_of hr
    refine ⟨_, (pss_cons (ps_fld (pv 0) pe_str rfl)
        (pss_one (ps_fld (pv 0) (pv 1) rfl))), ?_⟩
    dsimp only [cxOf, Cx.nox, Cx.wish, L2.start, List.map, List.cons_append, List.nil_append, List.length_cons, List.length_nil, Nat.reduceAdd, Nat.reduceSub, Nat.zero_add, List.replicate_succ, List.replicate_zero]
    unfold epV at hp
    walk_at "go"
    simp only [upd_upd]
    exact q _ But.refl.upd ⟨dx, a, b, c, d, e, .str cs0, m, ov, upd_same⟩
def sp_abort (C : Addr) : Sp := fun vs H Q _ => ∃ (p : Addr), vs = [.ref p] ∧ EpO C H p "syn sent" ∧ ∀ H', But p H H' → EpO C H' p "ended" → Q .non H'
theorem ok_Endpoint_abort (T : Txt P K mg) : FnOk P w K mg base CX0 3 T.f_Endpoint_abort T.d_Endpoint_abort ["self"] (sp_abort T.C_Endpoint) := by
  refine T.F_Endpoint_abort.ok sc_Endpoint_abort (fun vs H Q E h => ?_) (fun cdv A outer s H vs Q E hr h => ?_)
  · obtain ⟨p, rfl, hE, q⟩ := h
    rfl
  · obtain ⟨p, rfl, hE, q⟩ := h
    have hu := hu_of hr
    refine ⟨_, (pss_cons (ps_if (pt_val (pe_prop (pv 0) T.k_Endpoint T.p_Endpoint_has_ended (ok_Endpoint_has_ended T) (hr.mono (by decide)) T.b_Endpoint_has_ended .nil pass0 (by rfl))) (pss_one ps_retN) pss_nil)
        (pss_cons (ps_if (pt_cmpR op_ne (pe_fld (pv 0) rfl) pe_str (nomark _)) (pss_one (ps_fld (pv 0) pe_bl rfl)) pss_nil)
        (pss_one (ps_expr (pe_meth (pv 0) T.k_Endpoint T.a_Endpoint_end (ok_Endpoint_end T) (hr.mono (by decide)) T.b_Endpoint_end .nil pass0 (pa_cons pe_str pa_nil)))))), ?_⟩
    dsimp only [cxOf, Cx.nox, Cx.wish, L2.start, List.map, List.cons_append, List.nil_append, List.length_cons, List.length_nil, Nat.reduceAdd, Nat.reduceSub, Nat.zero_add, List.replicate_succ, List.replicate_zero]
    obtain ⟨dx, a, b, c, d, e, cs, m, ov, hp⟩ := id hE
    unfold epV at hp
    walk_at "go"
    refine ⟨p, dx, _, rfl, hp, p, "syn sent", rfl, hE, ?_⟩
    rw [show (decide (("syn sent" : Str) = "ended")) = false from by decide +kernel]
    refine ⟨false, rfl, ?_⟩
    refine iteF ?_
    walk_at "go"
    refine g_rNe rfl ?_
    rw [decide_eq_true rfl]
    refine ⟨false, rfl, ?_⟩
    refine iteF ?_
    walk_at "go"
    exact ⟨p, "syn sent", "aborted", rfl, hE, fun H' b1 e1 => q _ b1 e1⟩

end
end My
namespace My
open PySem PySem.Spec L2
local macro_rules | `(tactic| walk_at "side") => `(tactic| first | assumption | decide | omega | exact ⟨by decide, by decide⟩ | exact ⟨by decide, by decide, by decide⟩ | decide +kernel | exact cdivW (by decide +kernel) (by decide +kernel) | exact Or.inl ⟨by omega, by omega⟩ | exact Or.inr ⟨by omega, by omega⟩ | (simp only [List.length_map, List.length_cons, List.length_nil, List.length_append]; omega))
local macro_rules | `(tactic| walk_at "fact") => `(tactic| first | assumption | omega | with_reducible rfl)
local macro_rules | `(tactic| walk_at "use") => `(tactic| fail "use")
local macro_rules | `(tactic| walk_at "go1") => `(tactic| with_reducible first | refine g_seq ?_ | refine g_asg ?_ | refine g_ret ?_ | refine g_ifS ?_ | refine g_drop ?_ | refine g_star ?_ | refine g_nx ?_ | refine g_rt ?_ | refine g_bkE ?_ | refine g_ctE ?_ | refine g_next ?_ | refine g_retN ?_ | refine g_brk ?_ | refine g_ct ?_ | refine g_c ?_ | refine g_op ?_ | refine g_un ?_ | refine g_rI0 ?_ | refine g_rU ?_ | refine g_rEqI ?_ | refine g_rNeI ?_ | refine g_isN ?_ | refine g_rIsB ?_ | refine g_rNotB ?_ | refine g_test ?_ | refine g_B ?_ | refine g_bl ?_ | refine g_and ?_ | refine g_or ?_ | refine g_not ?_ | refine g_andV ?_ | refine g_orV ?_ | refine g_notV ?_ | refine g_if ?_ | refine g_chain ?_ | refine g_yes ?_ | refine g_lc ?_ | refine g_revR ?_ | refine g_rng1 ?_ | refine g_iList ?_ | refine g_nil ?_ | refine g_cons ?_ | refine g_tup ?_ | refine g_lst ?_ | refine g_call ?_ | refine g_CB ?_ | refine g_sl ?_ | refine g_noPart ?_ | refine g_part ?_ | refine g_intE ?_ | refine g_ref ?_ | refine g_fld ?_ | refine g_sfld ?_ | refine g_meth ?_ | refine g_make ?_ | refine g_prop ?_  | refine g_ipI ?_ | refine g_int1 ?_ | refine g_int1B ?_ | refine g_one ?_ | refine g_two ?_ | refine g_isiI ?_ | refine g_isiIB ?_ | refine g_isiB ?_ | refine g_BM ?_ | refine g_BM0 ?_ | refine g_sub ?_)
local macro_rules | `(tactic| walk_at "go") => `(tactic| repeat (first | walk_at "go1" | ((with_reducible refine' g_nameE ?sd_ ?_); case sd_ => dsimp only [List.set_cons_succ, List.set_cons_zero]) | ((with_reducible refine' g_var ?sd_ ?_); case sd_ => exact rfl) | ((with_reducible refine' g_aug ?sd_ ?_); case sd_ => exact rfl) | ((with_reducible refine' g_rI ?sd_ ?_); case sd_ => walk_at "side") | ((with_reducible refine' g_dT ?sd_ ?_); case sd_ => walk_at "fact") | ((with_reducible refine' g_dF ?sd_ ?_); case sd_ => walk_at "fact") | ((with_reducible refine' g_nT ?sd_ ?_); case sd_ => walk_at "fact") | ((with_reducible refine' g_nF ?sd_ ?_); case sd_ => walk_at "fact") | (with_reducible refine g_iT rfl ?_) | (with_reducible refine g_iF rfl ?_) | walk_at "use"))
local macro_rules | `(tactic| walk_at "nw") => `(tactic| (generalize zq : upd _ _ _ = Hq; have sq : Same _ Hq := (by rw [← zq]; exact same_upd (by assumption)); have kq := (congrFun zq _).symm.trans upd_same; clear zq))
local macro_rules | `(tactic| walk_at "bt") => `(tactic| (generalize zq : upd _ _ _ = Hq; have bq : But _ _ Hq := (by rw [← zq]; exact But.refl.upd); have kq := (congrFun zq _).symm.trans upd_same; clear zq))
local macro_rules | `(tactic| walk_at "use") => `(tactic| first | ((with_reducible refine' fd_Segment_source ?ho_ ?hv_ ?_); (case ho_ => first | assumption | exact upd_same); (case hv_ => exact rfl)) | ((with_reducible refine' fd_Segment_target ?ho_ ?hv_ ?_); (case ho_ => first | assumption | exact upd_same); (case hv_ => exact rfl)) | ((with_reducible refine' fd_Segment_seq ?ho_ ?hv_ ?_); (case ho_ => first | assumption | exact upd_same); (case hv_ => exact rfl)) | ((with_reducible refine' fd_Segment_count ?ho_ ?hv_ ?_); (case ho_ => first | assumption | exact upd_same); (case hv_ => exact rfl)) | ((with_reducible refine' fd_Segment_echo ?ho_ ?hv_ ?_); (case ho_ => first | assumption | exact upd_same); (case hv_ => exact rfl)) | ((with_reducible refine' fd_Segment_ack ?ho_ ?hv_ ?_); (case ho_ => first | assumption | exact upd_same); (case hv_ => exact rfl)) | ((with_reducible refine' fd_Segment_syn ?ho_ ?hv_ ?_); (case ho_ => first | assumption | exact upd_same); (case hv_ => exact rfl)) | ((with_reducible refine' fd_Segment_fin ?ho_ ?hv_ ?_); (case ho_ => first | assumption | exact upd_same); (case hv_ => exact rfl)) | ((with_reducible refine' fd_Segment_reset ?ho_ ?hv_ ?_); (case ho_ => first | assumption | exact upd_same); (case hv_ => exact rfl)) | ((with_reducible refine' fd_Segment_marked ?ho_ ?hv_ ?_); (case ho_ => first | assumption | exact upd_same); (case hv_ => exact rfl)) | ((with_reducible refine' fd_Segment_cut ?ho_ ?hv_ ?_); (case ho_ => first | assumption | exact upd_same); (case hv_ => exact rfl)) | ((with_reducible refine' fd_Segment_window ?ho_ ?hv_ ?_); (case ho_ => first | assumption | exact upd_same); (case hv_ => exact rfl)) | ((with_reducible refine' fd_Segment_mss ?ho_ ?hv_ ?_); (case ho_ => first | assumption | exact upd_same); (case hv_ => exact rfl)) | ((with_reducible refine' fd_Segment_scale ?ho_ ?hv_ ?_); (case ho_ => first | assumption | exact upd_same); (case hv_ => exact rfl)) | ((with_reducible refine' fd_Segment_ranges_known ?ho_ ?hv_ ?_); (case ho_ => first | assumption | exact upd_same); (case hv_ => exact rfl)) | ((with_reducible refine' fd_Segment_ranges ?ho_ ?hv_ ?_); (case ho_ => first | assumption | exact upd_same); (case hv_ => exact rfl)) | ((with_reducible refine' fd_Segment_stamp ?ho_ ?hv_ ?_); (case ho_ => first | assumption | exact upd_same); (case hv_ => exact rfl)) | ((with_reducible refine' fd_Segment_data ?ho_ ?hv_ ?_); (case ho_ => first | assumption | exact upd_same); (case hv_ => exact rfl)) | ((with_reducible refine' nw_Segment_source ?ho_ ?hv_ ?_); (case ho_ => first | assumption | exact upd_same); (case hv_ => exact rfl)) | ((with_reducible refine' nw_Segment_target ?ho_ ?hv_ ?_); (case ho_ => first | assumption | exact upd_same); (case hv_ => exact rfl)) | ((with_reducible refine' nw_Segment_seq ?ho_ ?hv_ ?_); (case ho_ => first | assumption | exact upd_same); (case hv_ => exact rfl)) | ((with_reducible refine' nw_Segment_count ?ho_ ?hv_ ?_); (case ho_ => first | assumption | exact upd_same); (case hv_ => exact rfl)) | ((with_reducible refine' nw_Segment_echo ?ho_ ?hv_ ?_); (case ho_ => first | assumption | exact upd_same); (case hv_ => exact rfl)) | ((with_reducible refine' nw_Segment_ack ?ho_ ?hv_ ?_); (case ho_ => first | assumption | exact upd_same); (case hv_ => exact rfl)) | ((with_reducible refine' nw_Segment_syn ?ho_ ?hv_ ?_); (case ho_ => first | assumption | exact upd_same); (case hv_ => exact rfl)) | ((with_reducible refine' nw_Segment_fin ?ho_ ?hv_ ?_); (case ho_ => first | assumption | exact upd_same); (case hv_ => exact rfl)) | ((with_reducible refine' nw_Segment_reset ?ho_ ?hv_ ?_); (case ho_ => first | assumption | exact upd_same); (case hv_ => exact rfl)) | ((with_reducible refine' nw_Segment_marked ?ho_ ?hv_ ?_); (case ho_ => first | assumption | exact upd_same); (case hv_ => exact rfl)) | ((with_reducible refine' nw_Segment_cut ?ho_ ?hv_ ?_); (case ho_ => first | assumption | exact upd_same); (case hv_ => exact rfl)) | ((with_reducible refine' nw_Segment_window ?ho_ ?hv_ ?_); (case ho_ => first | assumption | exact upd_same); (case hv_ => exact rfl)) | ((with_reducible refine' nw_Segment_mss ?ho_ ?hv_ ?_); (case ho_ => first | assumption | exact upd_same); (case hv_ => exact rfl)) | ((with_reducible refine' nw_Segment_scale ?ho_ ?hv_ ?_); (case ho_ => first | assumption | exact upd_same); (case hv_ => exact rfl)) | ((with_reducible refine' nw_Segment_ranges_known ?ho_ ?hv_ ?_); (case ho_ => first | assumption | exact upd_same); (case hv_ => exact rfl)) | ((with_reducible refine' nw_Segment_ranges ?ho_ ?hv_ ?_); (case ho_ => first | assumption | exact upd_same); (case hv_ => exact rfl)) | ((with_reducible refine' nw_Segment_stamp ?ho_ ?hv_ ?_); (case ho_ => first | assumption | exact upd_same); (case hv_ => exact rfl)) | ((with_reducible refine' nw_Segment_data ?ho_ ?hv_ ?_); (case ho_ => first | assumption | exact upd_same); (case hv_ => exact rfl)) | ((with_reducible refine' st_Segment_source ?ho_ ?hv_ ?_); (case ho_ => first | assumption | exact upd_same); (case hv_ => exact Nat.le_of_ble_eq_true rfl)) | ((with_reducible refine' st_Segment_target ?ho_ ?hv_ ?_); (case ho_ => first | assumption | exact upd_same); (case hv_ => exact Nat.le_of_ble_eq_true rfl)) | ((with_reducible refine' st_Segment_seq ?ho_ ?hv_ ?_); (case ho_ => first | assumption | exact upd_same); (case hv_ => exact Nat.le_of_ble_eq_true rfl)) | ((with_reducible refine' st_Segment_count ?ho_ ?hv_ ?_); (case ho_ => first | assumption | exact upd_same); (case hv_ => exact Nat.le_of_ble_eq_true rfl)) | ((with_reducible refine' st_Segment_echo ?ho_ ?hv_ ?_); (case ho_ => first | assumption | exact upd_same); (case hv_ => exact Nat.le_of_ble_eq_true rfl)) | ((with_reducible refine' st_Segment_ack ?ho_ ?hv_ ?_); (case ho_ => first | assumption | exact upd_same); (case hv_ => exact Nat.le_of_ble_eq_true rfl)) | ((with_reducible refine' st_Segment_syn ?ho_ ?hv_ ?_); (case ho_ => first | assumption | exact upd_same); (case hv_ => exact Nat.le_of_ble_eq_true rfl)) | ((with_reducible refine' st_Segment_fin ?ho_ ?hv_ ?_); (case ho_ => first | assumption | exact upd_same); (case hv_ => exact Nat.le_of_ble_eq_true rfl)) | ((with_reducible refine' st_Segment_reset ?ho_ ?hv_ ?_); (case ho_ => first | assumption | exact upd_same); (case hv_ => exact Nat.le_of_ble_eq_true rfl)) | ((with_reducible refine' st_Segment_marked ?ho_ ?hv_ ?_); (case ho_ => first | assumption | exact upd_same); (case hv_ => exact Nat.le_of_ble_eq_true rfl)) | ((with_reducible refine' st_Segment_cut ?ho_ ?hv_ ?_); (case ho_ => first | assumption | exact upd_same); (case hv_ => exact Nat.le_of_ble_eq_true rfl)) | ((with_reducible refine' st_Segment_window ?ho_ ?hv_ ?_); (case ho_ => first | assumption | exact upd_same); (case hv_ => exact Nat.le_of_ble_eq_true rfl)) | ((with_reducible refine' st_Segment_mss ?ho_ ?hv_ ?_); (case ho_ => first | assumption | exact upd_same); (case hv_ => exact Nat.le_of_ble_eq_true rfl)) | ((with_reducible refine' st_Segment_scale ?ho_ ?hv_ ?_); (case ho_ => first | assumption | exact upd_same); (case hv_ => exact Nat.le_of_ble_eq_true rfl)) | ((with_reducible refine' st_Segment_ranges_known ?ho_ ?hv_ ?_); (case ho_ => first | assumption | exact upd_same); (case hv_ => exact Nat.le_of_ble_eq_true rfl)) | ((with_reducible refine' st_Segment_ranges ?ho_ ?hv_ ?_); (case ho_ => first | assumption | exact upd_same); (case hv_ => exact Nat.le_of_ble_eq_true rfl)) | ((with_reducible refine' st_Segment_stamp ?ho_ ?hv_ ?_); (case ho_ => first | assumption | exact upd_same); (case hv_ => exact Nat.le_of_ble_eq_true rfl)) | ((with_reducible refine' st_Segment_data ?ho_ ?hv_ ?_); (case ho_ => first | assumption | exact upd_same); (case hv_ => exact Nat.le_of_ble_eq_true rfl)))
local macro_rules | `(tactic| walk_at "use") => `(tactic| first | ((with_reducible refine' fd_Socket_count ?ho_ ?hv_ ?_); (case ho_ => first | assumption | exact upd_same); (case hv_ => exact rfl)) | ((with_reducible refine' fd_Socket_port ?ho_ ?hv_ ?_); (case ho_ => first | assumption | exact upd_same); (case hv_ => exact rfl)) | ((with_reducible refine' fd_Socket_peer ?ho_ ?hv_ ?_); (case ho_ => first | assumption | exact upd_same); (case hv_ => exact rfl)) | ((with_reducible refine' fd_Socket_peer_port ?ho_ ?hv_ ?_); (case ho_ => first | assumption | exact upd_same); (case hv_ => exact rfl)) | ((with_reducible refine' fd_Socket_peer_count ?ho_ ?hv_ ?_); (case ho_ => first | assumption | exact upd_same); (case hv_ => exact rfl)) | ((with_reducible refine' fd_Socket_peer_first ?ho_ ?hv_ ?_); (case ho_ => first | assumption | exact upd_same); (case hv_ => exact rfl)) | ((with_reducible refine' fd_Socket_peer_shift ?ho_ ?hv_ ?_); (case ho_ => first | assumption | exact upd_same); (case hv_ => exact rfl)) | ((with_reducible refine' fd_Socket_listened ?ho_ ?hv_ ?_); (case ho_ => first | assumption | exact upd_same); (case hv_ => exact rfl)) | ((with_reducible refine' fd_Socket_accepted ?ho_ ?hv_ ?_); (case ho_ => first | assumption | exact upd_same); (case hv_ => exact rfl)) | ((with_reducible refine' fd_Socket_endpoint ?ho_ ?hv_ ?_); (case ho_ => first | assumption | exact upd_same); (case hv_ => exact rfl)) | ((with_reducible refine' nw_Socket_count ?ho_ ?hv_ ?_); (case ho_ => first | assumption | exact upd_same); (case hv_ => exact rfl)) | ((with_reducible refine' nw_Socket_port ?ho_ ?hv_ ?_); (case ho_ => first | assumption | exact upd_same); (case hv_ => exact rfl)) | ((with_reducible refine' nw_Socket_peer ?ho_ ?hv_ ?_); (case ho_ => first | assumption | exact upd_same); (case hv_ => exact rfl)) | ((with_reducible refine' nw_Socket_peer_port ?ho_ ?hv_ ?_); (case ho_ => first | assumption | exact upd_same); (case hv_ => exact rfl)) | ((with_reducible refine' nw_Socket_peer_count ?ho_ ?hv_ ?_); (case ho_ => first | assumption | exact upd_same); (case hv_ => exact rfl)) | ((with_reducible refine' nw_Socket_peer_first ?ho_ ?hv_ ?_); (case ho_ => first | assumption | exact upd_same); (case hv_ => exact rfl)) | ((with_reducible refine' nw_Socket_peer_shift ?ho_ ?hv_ ?_); (case ho_ => first | assumption | exact upd_same); (case hv_ => exact rfl)) | ((with_reducible refine' nw_Socket_listened ?ho_ ?hv_ ?_); (case ho_ => first | assumption | exact upd_same); (case hv_ => exact rfl)) | ((with_reducible refine' nw_Socket_accepted ?ho_ ?hv_ ?_); (case ho_ => first | assumption | exact upd_same); (case hv_ => exact rfl)) | ((with_reducible refine' nw_Socket_endpoint ?ho_ ?hv_ ?_); (case ho_ => first | assumption | exact upd_same); (case hv_ => exact rfl)) | ((with_reducible refine' st_Socket_count ?ho_ ?hv_ ?_); (case ho_ => first | assumption | exact upd_same); (case hv_ => exact Nat.le_of_ble_eq_true rfl)) | ((with_reducible refine' st_Socket_port ?ho_ ?hv_ ?_); (case ho_ => first | assumption | exact upd_same); (case hv_ => exact Nat.le_of_ble_eq_true rfl)) | ((with_reducible refine' st_Socket_peer ?ho_ ?hv_ ?_); (case ho_ => first | assumption | exact upd_same); (case hv_ => exact Nat.le_of_ble_eq_true rfl)) | ((with_reducible refine' st_Socket_peer_port ?ho_ ?hv_ ?_); (case ho_ => first | assumption | exact upd_same); (case hv_ => exact Nat.le_of_ble_eq_true rfl)) | ((with_reducible refine' st_Socket_peer_count ?ho_ ?hv_ ?_); (case ho_ => first | assumption | exact upd_same); (case hv_ => exact Nat.le_of_ble_eq_true rfl)) | ((with_reducible refine' st_Socket_peer_first ?ho_ ?hv_ ?_); (case ho_ => first | assumption | exact upd_same); (case hv_ => exact Nat.le_of_ble_eq_true rfl)) | ((with_reducible refine' st_Socket_peer_shift ?ho_ ?hv_ ?_); (case ho_ => first | assumption | exact upd_same); (case hv_ => exact Nat.le_of_ble_eq_true rfl)) | ((with_reducible refine' st_Socket_listened ?ho_ ?hv_ ?_); (case ho_ => first | assumption | exact upd_same); (case hv_ => exact Nat.le_of_ble_eq_true rfl)) | ((with_reducible refine' st_Socket_accepted ?ho_ ?hv_ ?_); (case ho_ => first | assumption | exact upd_same); (case hv_ => exact Nat.le_of_ble_eq_true rfl)) | ((with_reducible refine' st_Socket_endpoint ?ho_ ?hv_ ?_); (case ho_ => first | assumption | exact upd_same); (case hv_ => exact Nat.le_of_ble_eq_true rfl)) | ((with_reducible refine' me_Socket_is_for ?ho_ ?_); (case ho_ => first | assumption | exact upd_same)) | ((with_reducible refine' me_Socket_learn ?ho_ ?_); (case ho_ => first | assumption | exact upd_same)))
local macro_rules | `(tactic| walk_at "use") => `(tactic| first | ((with_reducible refine' fd_Reno_cwnd ?ho_ ?hv_ ?_); (case ho_ => first | assumption | exact upd_same); (case hv_ => exact rfl)) | ((with_reducible refine' fd_Reno_thresh ?ho_ ?hv_ ?_); (case ho_ => first | assumption | exact upd_same); (case hv_ => exact rfl)) | ((with_reducible refine' fd_Reno_peak ?ho_ ?hv_ ?_); (case ho_ => first | assumption | exact upd_same); (case hv_ => exact rfl)) | ((with_reducible refine' fd_Reno_prior ?ho_ ?hv_ ?_); (case ho_ => first | assumption | exact upd_same); (case hv_ => exact rfl)) | ((with_reducible refine' fd_Reno_calm ?ho_ ?hv_ ?_); (case ho_ => first | assumption | exact upd_same); (case hv_ => exact rfl)) | ((with_reducible refine' fd_Reno_credit ?ho_ ?hv_ ?_); (case ho_ => first | assumption | exact upd_same); (case hv_ => exact rfl)) | ((with_reducible refine' nw_Reno_cwnd ?ho_ ?hv_ ?_); (case ho_ => first | assumption | exact upd_same); (case hv_ => exact rfl)) | ((with_reducible refine' nw_Reno_thresh ?ho_ ?hv_ ?_); (case ho_ => first | assumption | exact upd_same); (case hv_ => exact rfl)) | ((with_reducible refine' nw_Reno_peak ?ho_ ?hv_ ?_); (case ho_ => first | assumption | exact upd_same); (case hv_ => exact rfl)) | ((with_reducible refine' nw_Reno_prior ?ho_ ?hv_ ?_); (case ho_ => first | assumption | exact upd_same); (case hv_ => exact rfl)) | ((with_reducible refine' nw_Reno_calm ?ho_ ?hv_ ?_); (case ho_ => first | assumption | exact upd_same); (case hv_ => exact rfl)) | ((with_reducible refine' nw_Reno_credit ?ho_ ?hv_ ?_); (case ho_ => first | assumption | exact upd_same); (case hv_ => exact rfl)) | ((with_reducible refine' st_Reno_cwnd ?ho_ ?hv_ ?_); (case ho_ => first | assumption | exact upd_same); (case hv_ => exact Nat.le_of_ble_eq_true rfl)) | ((with_reducible refine' st_Reno_thresh ?ho_ ?hv_ ?_); (case ho_ => first | assumption | exact upd_same); (case hv_ => exact Nat.le_of_ble_eq_true rfl)) | ((with_reducible refine' st_Reno_peak ?ho_ ?hv_ ?_); (case ho_ => first | assumption | exact upd_same); (case hv_ => exact Nat.le_of_ble_eq_true rfl)) | ((with_reducible refine' st_Reno_prior ?ho_ ?hv_ ?_); (case ho_ => first | assumption | exact upd_same); (case hv_ => exact Nat.le_of_ble_eq_true rfl)) | ((with_reducible refine' st_Reno_calm ?ho_ ?hv_ ?_); (case ho_ => first | assumption | exact upd_same); (case hv_ => exact Nat.le_of_ble_eq_true rfl)) | ((with_reducible refine' st_Reno_credit ?ho_ ?hv_ ?_); (case ho_ => first | assumption | exact upd_same); (case hv_ => exact Nat.le_of_ble_eq_true rfl)) | ((with_reducible refine' me_Reno_bounded ?ho_ ?_); (case ho_ => first | assumption | exact upd_same)))
local macro_rules | `(tactic| walk_at "use") => `(tactic| first | ((with_reducible refine' fd_RoundTrip_least ?ho_ ?hv_ ?_); (case ho_ => first | assumption | exact upd_same); (case hv_ => exact rfl)) | ((with_reducible refine' fd_RoundTrip_most ?ho_ ?hv_ ?_); (case ho_ => first | assumption | exact upd_same); (case hv_ => exact rfl)) | ((with_reducible refine' fd_RoundTrip_srtt ?ho_ ?hv_ ?_); (case ho_ => first | assumption | exact upd_same); (case hv_ => exact rfl)) | ((with_reducible refine' fd_RoundTrip_variance ?ho_ ?hv_ ?_); (case ho_ => first | assumption | exact upd_same); (case hv_ => exact rfl)) | ((with_reducible refine' fd_RoundTrip_rto ?ho_ ?hv_ ?_); (case ho_ => first | assumption | exact upd_same); (case hv_ => exact rfl)) | ((with_reducible refine' fd_RoundTrip_measured ?ho_ ?hv_ ?_); (case ho_ => first | assumption | exact upd_same); (case hv_ => exact rfl)) | ((with_reducible refine' nw_RoundTrip_least ?ho_ ?hv_ ?_); (case ho_ => first | assumption | exact upd_same); (case hv_ => exact rfl)) | ((with_reducible refine' nw_RoundTrip_most ?ho_ ?hv_ ?_); (case ho_ => first | assumption | exact upd_same); (case hv_ => exact rfl)) | ((with_reducible refine' nw_RoundTrip_srtt ?ho_ ?hv_ ?_); (case ho_ => first | assumption | exact upd_same); (case hv_ => exact rfl)) | ((with_reducible refine' nw_RoundTrip_variance ?ho_ ?hv_ ?_); (case ho_ => first | assumption | exact upd_same); (case hv_ => exact rfl)) | ((with_reducible refine' nw_RoundTrip_rto ?ho_ ?hv_ ?_); (case ho_ => first | assumption | exact upd_same); (case hv_ => exact rfl)) | ((with_reducible refine' nw_RoundTrip_measured ?ho_ ?hv_ ?_); (case ho_ => first | assumption | exact upd_same); (case hv_ => exact rfl)) | ((with_reducible refine' st_RoundTrip_least ?ho_ ?hv_ ?_); (case ho_ => first | assumption | exact upd_same); (case hv_ => exact Nat.le_of_ble_eq_true rfl)) | ((with_reducible refine' st_RoundTrip_most ?ho_ ?hv_ ?_); (case ho_ => first | assumption | exact upd_same); (case hv_ => exact Nat.le_of_ble_eq_true rfl)) | ((with_reducible refine' st_RoundTrip_srtt ?ho_ ?hv_ ?_); (case ho_ => first | assumption | exact upd_same); (case hv_ => exact Nat.le_of_ble_eq_true rfl)) | ((with_reducible refine' st_RoundTrip_variance ?ho_ ?hv_ ?_); (case ho_ => first | assumption | exact upd_same); (case hv_ => exact Nat.le_of_ble_eq_true rfl)) | ((with_reducible refine' st_RoundTrip_rto ?ho_ ?hv_ ?_); (case ho_ => first | assumption | exact upd_same); (case hv_ => exact Nat.le_of_ble_eq_true rfl)) | ((with_reducible refine' st_RoundTrip_measured ?ho_ ?hv_ ?_); (case ho_ => first | assumption | exact upd_same); (case hv_ => exact Nat.le_of_ble_eq_true rfl)) | ((with_reducible refine' me_RoundTrip_within_bounds ?ho_ ?_); (case ho_ => first | assumption | exact upd_same)))
local macro_rules | `(tactic| walk_at "use") => `(tactic| first | ((with_reducible refine' fd_OffsetSet__ranges ?ho_ ?hv_ ?_); (case ho_ => first | assumption | exact upd_same); (case hv_ => exact rfl)) | ((with_reducible refine' nw_OffsetSet__ranges ?ho_ ?hv_ ?_); (case ho_ => first | assumption | exact upd_same); (case hv_ => exact rfl)) | ((with_reducible refine' st_OffsetSet__ranges ?ho_ ?hv_ ?_); (case ho_ => first | assumption | exact upd_same); (case hv_ => exact Nat.le_of_ble_eq_true rfl)))
local macro_rules | `(tactic| walk_at "use") => `(tactic| first | ((with_reducible refine' fd_Receiver_room ?ho_ ?hv_ ?_); (case ho_ => first | assumption | exact upd_same); (case hv_ => exact rfl)) | ((with_reducible refine' fd_Receiver_nxt ?ho_ ?hv_ ?_); (case ho_ => first | assumption | exact upd_same); (case hv_ => exact rfl)) | ((with_reducible refine' fd_Receiver_edge ?ho_ ?hv_ ?_); (case ho_ => first | assumption | exact upd_same); (case hv_ => exact rfl)) | ((with_reducible refine' fd_Receiver_end ?ho_ ?hv_ ?_); (case ho_ => first | assumption | exact upd_same); (case hv_ => exact rfl)) | ((with_reducible refine' fd_Receiver_recent ?ho_ ?hv_ ?_); (case ho_ => first | assumption | exact upd_same); (case hv_ => exact rfl)) | ((with_reducible refine' fd_Receiver__ready ?ho_ ?hv_ ?_); (case ho_ => first | assumption | exact upd_same); (case hv_ => exact rfl)) | ((with_reducible refine' fd_Receiver__held ?ho_ ?hv_ ?_); (case ho_ => first | assumption | exact upd_same); (case hv_ => exact rfl)) | ((with_reducible refine' fd_Receiver__held_offsets ?ho_ ?hv_ ?_); (case ho_ => first | assumption | exact upd_same); (case hv_ => exact rfl)) | ((with_reducible refine' nw_Receiver_room ?ho_ ?hv_ ?_); (case ho_ => first | assumption | exact upd_same); (case hv_ => exact rfl)) | ((with_reducible refine' nw_Receiver_nxt ?ho_ ?hv_ ?_); (case ho_ => first | assumption | exact upd_same); (case hv_ => exact rfl)) | ((with_reducible refine' nw_Receiver_edge ?ho_ ?hv_ ?_); (case ho_ => first | assumption | exact upd_same); (case hv_ => exact rfl)) | ((with_reducible refine' nw_Receiver_end ?ho_ ?hv_ ?_); (case ho_ => first | assumption | exact upd_same); (case hv_ => exact rfl)) | ((with_reducible refine' nw_Receiver_recent ?ho_ ?hv_ ?_); (case ho_ => first | assumption | exact upd_same); (case hv_ => exact rfl)) | ((with_reducible refine' nw_Receiver__ready ?ho_ ?hv_ ?_); (case ho_ => first | assumption | exact upd_same); (case hv_ => exact rfl)) | ((with_reducible refine' nw_Receiver__held ?ho_ ?hv_ ?_); (case ho_ => first | assumption | exact upd_same); (case hv_ => exact rfl)) | ((with_reducible refine' nw_Receiver__held_offsets ?ho_ ?hv_ ?_); (case ho_ => first | assumption | exact upd_same); (case hv_ => exact rfl)) | ((with_reducible refine' st_Receiver_room ?ho_ ?hv_ ?_); (case ho_ => first | assumption | exact upd_same); (case hv_ => exact Nat.le_of_ble_eq_true rfl)) | ((with_reducible refine' st_Receiver_nxt ?ho_ ?hv_ ?_); (case ho_ => first | assumption | exact upd_same); (case hv_ => exact Nat.le_of_ble_eq_true rfl)) | ((with_reducible refine' st_Receiver_edge ?ho_ ?hv_ ?_); (case ho_ => first | assumption | exact upd_same); (case hv_ => exact Nat.le_of_ble_eq_true rfl)) | ((with_reducible refine' st_Receiver_end ?ho_ ?hv_ ?_); (case ho_ => first | assumption | exact upd_same); (case hv_ => exact Nat.le_of_ble_eq_true rfl)) | ((with_reducible refine' st_Receiver_recent ?ho_ ?hv_ ?_); (case ho_ => first | assumption | exact upd_same); (case hv_ => exact Nat.le_of_ble_eq_true rfl)) | ((with_reducible refine' st_Receiver__ready ?ho_ ?hv_ ?_); (case ho_ => first | assumption | exact upd_same); (case hv_ => exact Nat.le_of_ble_eq_true rfl)) | ((with_reducible refine' st_Receiver__held ?ho_ ?hv_ ?_); (case ho_ => first | assumption | exact upd_same); (case hv_ => exact Nat.le_of_ble_eq_true rfl)) | ((with_reducible refine' st_Receiver__held_offsets ?ho_ ?hv_ ?_); (case ho_ => first | assumption | exact upd_same); (case hv_ => exact Nat.le_of_ble_eq_true rfl)))
local macro_rules | `(tactic| walk_at "use") => `(tactic| first | ((with_reducible refine' fd_Sender_room ?ho_ ?hv_ ?_); (case ho_ => first | assumption | exact upd_same); (case hv_ => exact rfl)) | ((with_reducible refine' fd_Sender_una ?ho_ ?hv_ ?_); (case ho_ => first | assumption | exact upd_same); (case hv_ => exact rfl)) | ((with_reducible refine' fd_Sender_nxt ?ho_ ?hv_ ?_); (case ho_ => first | assumption | exact upd_same); (case hv_ => exact rfl)) | ((with_reducible refine' fd_Sender_written ?ho_ ?hv_ ?_); (case ho_ => first | assumption | exact upd_same); (case hv_ => exact rfl)) | ((with_reducible refine' fd_Sender_finished ?ho_ ?hv_ ?_); (case ho_ => first | assumption | exact upd_same); (case hv_ => exact rfl)) | ((with_reducible refine' fd_Sender_edge ?ho_ ?hv_ ?_); (case ho_ => first | assumption | exact upd_same); (case hv_ => exact rfl)) | ((with_reducible refine' fd_Sender_recovery ?ho_ ?hv_ ?_); (case ho_ => first | assumption | exact upd_same); (case hv_ => exact rfl)) | ((with_reducible refine' fd_Sender_resend ?ho_ ?hv_ ?_); (case ho_ => first | assumption | exact upd_same); (case hv_ => exact rfl)) | ((with_reducible refine' fd_Sender_lost ?ho_ ?hv_ ?_); (case ho_ => first | assumption | exact upd_same); (case hv_ => exact rfl)) | ((with_reducible refine' fd_Sender_repeated ?ho_ ?hv_ ?_); (case ho_ => first | assumption | exact upd_same); (case hv_ => exact rfl)) | ((with_reducible refine' fd_Sender__queue ?ho_ ?hv_ ?_); (case ho_ => first | assumption | exact upd_same); (case hv_ => exact rfl)) | ((with_reducible refine' fd_Sender__sacked ?ho_ ?hv_ ?_); (case ho_ => first | assumption | exact upd_same); (case hv_ => exact rfl)) | ((with_reducible refine' nw_Sender_room ?ho_ ?hv_ ?_); (case ho_ => first | assumption | exact upd_same); (case hv_ => exact rfl)) | ((with_reducible refine' nw_Sender_una ?ho_ ?hv_ ?_); (case ho_ => first | assumption | exact upd_same); (case hv_ => exact rfl)) | ((with_reducible refine' nw_Sender_nxt ?ho_ ?hv_ ?_); (case ho_ => first | assumption | exact upd_same); (case hv_ => exact rfl)) | ((with_reducible refine' nw_Sender_written ?ho_ ?hv_ ?_); (case ho_ => first | assumption | exact upd_same); (case hv_ => exact rfl)) | ((with_reducible refine' nw_Sender_finished ?ho_ ?hv_ ?_); (case ho_ => first | assumption | exact upd_same); (case hv_ => exact rfl)) | ((with_reducible refine' nw_Sender_edge ?ho_ ?hv_ ?_); (case ho_ => first | assumption | exact upd_same); (case hv_ => exact rfl)) | ((with_reducible refine' nw_Sender_recovery ?ho_ ?hv_ ?_); (case ho_ => first | assumption | exact upd_same); (case hv_ => exact rfl)) | ((with_reducible refine' nw_Sender_resend ?ho_ ?hv_ ?_); (case ho_ => first | assumption | exact upd_same); (case hv_ => exact rfl)) | ((with_reducible refine' nw_Sender_lost ?ho_ ?hv_ ?_); (case ho_ => first | assumption | exact upd_same); (case hv_ => exact rfl)) | ((with_reducible refine' nw_Sender_repeated ?ho_ ?hv_ ?_); (case ho_ => first | assumption | exact upd_same); (case hv_ => exact rfl)) | ((with_reducible refine' nw_Sender__queue ?ho_ ?hv_ ?_); (case ho_ => first | assumption | exact upd_same); (case hv_ => exact rfl)) | ((with_reducible refine' nw_Sender__sacked ?ho_ ?hv_ ?_); (case ho_ => first | assumption | exact upd_same); (case hv_ => exact rfl)) | ((with_reducible refine' st_Sender_room ?ho_ ?hv_ ?_); (case ho_ => first | assumption | exact upd_same); (case hv_ => exact Nat.le_of_ble_eq_true rfl)) | ((with_reducible refine' st_Sender_una ?ho_ ?hv_ ?_); (case ho_ => first | assumption | exact upd_same); (case hv_ => exact Nat.le_of_ble_eq_true rfl)) | ((with_reducible refine' st_Sender_nxt ?ho_ ?hv_ ?_); (case ho_ => first | assumption | exact upd_same); (case hv_ => exact Nat.le_of_ble_eq_true rfl)) | ((with_reducible refine' st_Sender_written ?ho_ ?hv_ ?_); (case ho_ => first | assumption | exact upd_same); (case hv_ => exact Nat.le_of_ble_eq_true rfl)) | ((with_reducible refine' st_Sender_finished ?ho_ ?hv_ ?_); (case ho_ => first | assumption | exact upd_same); (case hv_ => exact Nat.le_of_ble_eq_true rfl)) | ((with_reducible refine' st_Sender_edge ?ho_ ?hv_ ?_); (case ho_ => first | assumption | exact upd_same); (case hv_ => exact Nat.le_of_ble_eq_true rfl)) | ((with_reducible refine' st_Sender_recovery ?ho_ ?hv_ ?_); (case ho_ => first | assumption | exact upd_same); (case hv_ => exact Nat.le_of_ble_eq_true rfl)) | ((with_reducible refine' st_Sender_resend ?ho_ ?hv_ ?_); (case ho_ => first | assumption | exact upd_same); (case hv_ => exact Nat.le_of_ble_eq_true rfl)) | ((with_reducible refine' st_Sender_lost ?ho_ ?hv_ ?_); (case ho_ => first | assumption | exact upd_same); (case hv_ => exact Nat.le_of_ble_eq_true rfl)) | ((with_reducible refine' st_Sender_repeated ?ho_ ?hv_ ?_); (case ho_ => first | assumption | exact upd_same); (case hv_ => exact Nat.le_of_ble_eq_true rfl)) | ((with_reducible refine' st_Sender__queue ?ho_ ?hv_ ?_); (case ho_ => first | assumption | exact upd_same); (case hv_ => exact Nat.le_of_ble_eq_true rfl)) | ((with_reducible refine' st_Sender__sacked ?ho_ ?hv_ ?_); (case ho_ => first | assumption | exact upd_same); (case hv_ => exact Nat.le_of_ble_eq_true rfl)))
local macro_rules | `(tactic| walk_at "use") => `(tactic| first | ((with_reducible refine' fd_Endpoint_options ?ho_ ?hv_ ?_); (case ho_ => first | assumption | exact upd_same); (case hv_ => exact rfl)) | ((with_reducible refine' fd_Endpoint_sender ?ho_ ?hv_ ?_); (case ho_ => first | assumption | exact upd_same); (case hv_ => exact rfl)) | ((with_reducible refine' fd_Endpoint_receiver ?ho_ ?hv_ ?_); (case ho_ => first | assumption | exact upd_same); (case hv_ => exact rfl)) | ((with_reducible refine' fd_Endpoint_trip ?ho_ ?hv_ ?_); (case ho_ => first | assumption | exact upd_same); (case hv_ => exact rfl)) | ((with_reducible refine' fd_Endpoint_control ?ho_ ?hv_ ?_); (case ho_ => first | assumption | exact upd_same); (case hv_ => exact rfl)) | ((with_reducible refine' fd_Endpoint_phase ?ho_ ?hv_ ?_); (case ho_ => first | assumption | exact upd_same); (case hv_ => exact rfl)) | ((with_reducible refine' fd_Endpoint_cause ?ho_ ?hv_ ?_); (case ho_ => first | assumption | exact upd_same); (case hv_ => exact rfl)) | ((with_reducible refine' fd_Endpoint_mss ?ho_ ?hv_ ?_); (case ho_ => first | assumption | exact upd_same); (case hv_ => exact rfl)) | ((with_reducible refine' fd_Endpoint_selective ?ho_ ?hv_ ?_); (case ho_ => first | assumption | exact upd_same); (case hv_ => exact rfl)) | ((with_reducible refine' fd_Endpoint_alarm ?ho_ ?hv_ ?_); (case ho_ => first | assumption | exact upd_same); (case hv_ => exact rfl)) | ((with_reducible refine' fd_Endpoint_since ?ho_ ?hv_ ?_); (case ho_ => first | assumption | exact upd_same); (case hv_ => exact rfl)) | ((with_reducible refine' fd_Endpoint_ack_at ?ho_ ?hv_ ?_); (case ho_ => first | assumption | exact upd_same); (case hv_ => exact rfl)) | ((with_reducible refine' fd_Endpoint_late ?ho_ ?hv_ ?_); (case ho_ => first | assumption | exact upd_same); (case hv_ => exact rfl)) | ((with_reducible refine' fd_Endpoint_asked ?ho_ ?hv_ ?_); (case ho_ => first | assumption | exact upd_same); (case hv_ => exact rfl)) | ((with_reducible refine' fd_Endpoint_again ?ho_ ?hv_ ?_); (case ho_ => first | assumption | exact upd_same); (case hv_ => exact rfl)) | ((with_reducible refine' fd_Endpoint_probe ?ho_ ?hv_ ?_); (case ho_ => first | assumption | exact upd_same); (case hv_ => exact rfl)) | ((with_reducible refine' fd_Endpoint_over ?ho_ ?hv_ ?_); (case ho_ => first | assumption | exact upd_same); (case hv_ => exact rfl)) | ((with_reducible refine' fd_Endpoint_rest ?ho_ ?hv_ ?_); (case ho_ => first | assumption | exact upd_same); (case hv_ => exact rfl)) | ((with_reducible refine' fd_Endpoint_spent_at ?ho_ ?hv_ ?_); (case ho_ => first | assumption | exact upd_same); (case hv_ => exact rfl)) | ((with_reducible refine' fd_Endpoint_spent ?ho_ ?hv_ ?_); (case ho_ => first | assumption | exact upd_same); (case hv_ => exact rfl)) | ((with_reducible refine' fd_Endpoint_stamp ?ho_ ?hv_ ?_); (case ho_ => first | assumption | exact upd_same); (case hv_ => exact rfl)) | ((with_reducible refine' fd_Endpoint_marked ?ho_ ?hv_ ?_); (case ho_ => first | assumption | exact upd_same); (case hv_ => exact rfl)) | ((with_reducible refine' fd_Endpoint_cut ?ho_ ?hv_ ?_); (case ho_ => first | assumption | exact upd_same); (case hv_ => exact rfl)) | ((with_reducible refine' nw_Endpoint_options ?ho_ ?hv_ ?_); (case ho_ => first | assumption | exact upd_same); (case hv_ => exact rfl)) | ((with_reducible refine' nw_Endpoint_sender ?ho_ ?hv_ ?_); (case ho_ => first | assumption | exact upd_same); (case hv_ => exact rfl)) | ((with_reducible refine' nw_Endpoint_receiver ?ho_ ?hv_ ?_); (case ho_ => first | assumption | exact upd_same); (case hv_ => exact rfl)) | ((with_reducible refine' nw_Endpoint_trip ?ho_ ?hv_ ?_); (case ho_ => first | assumption | exact upd_same); (case hv_ => exact rfl)) | ((with_reducible refine' nw_Endpoint_control ?ho_ ?hv_ ?_); (case ho_ => first | assumption | exact upd_same); (case hv_ => exact rfl)) | ((with_reducible refine' nw_Endpoint_phase ?ho_ ?hv_ ?_); (case ho_ => first | assumption | exact upd_same); (case hv_ => exact rfl)) | ((with_reducible refine' nw_Endpoint_cause ?ho_ ?hv_ ?_); (case ho_ => first | assumption | exact upd_same); (case hv_ => exact rfl)) | ((with_reducible refine' nw_Endpoint_mss ?ho_ ?hv_ ?_); (case ho_ => first | assumption | exact upd_same); (case hv_ => exact rfl)) | ((with_reducible refine' nw_Endpoint_selective ?ho_ ?hv_ ?_); (case ho_ => first | assumption | exact upd_same); (case hv_ => exact rfl)) | ((with_reducible refine' nw_Endpoint_alarm ?ho_ ?hv_ ?_); (case ho_ => first | assumption | exact upd_same); (case hv_ => exact rfl)) | ((with_reducible refine' nw_Endpoint_since ?ho_ ?hv_ ?_); (case ho_ => first | assumption | exact upd_same); (case hv_ => exact rfl)) | ((with_reducible refine' nw_Endpoint_ack_at ?ho_ ?hv_ ?_); (case ho_ => first | assumption | exact upd_same); (case hv_ => exact rfl)) | ((with_reducible refine' nw_Endpoint_late ?ho_ ?hv_ ?_); (case ho_ => first | assumption | exact upd_same); (case hv_ => exact rfl)) | ((with_reducible refine' nw_Endpoint_asked ?ho_ ?hv_ ?_); (case ho_ => first | assumption | exact upd_same); (case hv_ => exact rfl)) | ((with_reducible refine' nw_Endpoint_again ?ho_ ?hv_ ?_); (case ho_ => first | assumption | exact upd_same); (case hv_ => exact rfl)) | ((with_reducible refine' nw_Endpoint_probe ?ho_ ?hv_ ?_); (case ho_ => first | assumption | exact upd_same); (case hv_ => exact rfl)) | ((with_reducible refine' nw_Endpoint_over ?ho_ ?hv_ ?_); (case ho_ => first | assumption | exact upd_same); (case hv_ => exact rfl)) | ((with_reducible refine' nw_Endpoint_rest ?ho_ ?hv_ ?_); (case ho_ => first | assumption | exact upd_same); (case hv_ => exact rfl)) | ((with_reducible refine' nw_Endpoint_spent_at ?ho_ ?hv_ ?_); (case ho_ => first | assumption | exact upd_same); (case hv_ => exact rfl)) | ((with_reducible refine' nw_Endpoint_spent ?ho_ ?hv_ ?_); (case ho_ => first | assumption | exact upd_same); (case hv_ => exact rfl)) | ((with_reducible refine' nw_Endpoint_stamp ?ho_ ?hv_ ?_); (case ho_ => first | assumption | exact upd_same); (case hv_ => exact rfl)) | ((with_reducible refine' nw_Endpoint_marked ?ho_ ?hv_ ?_); (case ho_ => first | assumption | exact upd_same); (case hv_ => exact rfl)) | ((with_reducible refine' nw_Endpoint_cut ?ho_ ?hv_ ?_); (case ho_ => first | assumption | exact upd_same); (case hv_ => exact rfl)) | ((with_reducible refine' st_Endpoint_options ?ho_ ?hv_ ?_); (case ho_ => first | assumption | exact upd_same); (case hv_ => exact Nat.le_of_ble_eq_true rfl)) | ((with_reducible refine' st_Endpoint_sender ?ho_ ?hv_ ?_); (case ho_ => first | assumption | exact upd_same); (case hv_ => exact Nat.le_of_ble_eq_true rfl)) | ((with_reducible refine' st_Endpoint_receiver ?ho_ ?hv_ ?_); (case ho_ => first | assumption | exact upd_same); (case hv_ => exact Nat.le_of_ble_eq_true rfl)) | ((with_reducible refine' st_Endpoint_trip ?ho_ ?hv_ ?_); (case ho_ => first | assumption | exact upd_same); (case hv_ => exact Nat.le_of_ble_eq_true rfl)) | ((with_reducible refine' st_Endpoint_control ?ho_ ?hv_ ?_); (case ho_ => first | assumption | exact upd_same); (case hv_ => exact Nat.le_of_ble_eq_true rfl)) | ((with_reducible refine' st_Endpoint_phase ?ho_ ?hv_ ?_); (case ho_ => first | assumption | exact upd_same); (case hv_ => exact Nat.le_of_ble_eq_true rfl)) | ((with_reducible refine' st_Endpoint_cause ?ho_ ?hv_ ?_); (case ho_ => first | assumption | exact upd_same); (case hv_ => exact Nat.le_of_ble_eq_true rfl)) | ((with_reducible refine' st_Endpoint_mss ?ho_ ?hv_ ?_); (case ho_ => first | assumption | exact upd_same); (case hv_ => exact Nat.le_of_ble_eq_true rfl)) | ((with_reducible refine' st_Endpoint_selective ?ho_ ?hv_ ?_); (case ho_ => first | assumption | exact upd_same); (case hv_ => exact Nat.le_of_ble_eq_true rfl)) | ((with_reducible refine' st_Endpoint_alarm ?ho_ ?hv_ ?_); (case ho_ => first | assumption | exact upd_same); (case hv_ => exact Nat.le_of_ble_eq_true rfl)) | ((with_reducible refine' st_Endpoint_since ?ho_ ?hv_ ?_); (case ho_ => first | assumption | exact upd_same); (case hv_ => exact Nat.le_of_ble_eq_true rfl)) | ((with_reducible refine' st_Endpoint_ack_at ?ho_ ?hv_ ?_); (case ho_ => first | assumption | exact upd_same); (case hv_ => exact Nat.le_of_ble_eq_true rfl)) | ((with_reducible refine' st_Endpoint_late ?ho_ ?hv_ ?_); (case ho_ => first | assumption | exact upd_same); (case hv_ => exact Nat.le_of_ble_eq_true rfl)) | ((with_reducible refine' st_Endpoint_asked ?ho_ ?hv_ ?_); (case ho_ => first | assumption | exact upd_same); (case hv_ => exact Nat.le_of_ble_eq_true rfl)) | ((with_reducible refine' st_Endpoint_again ?ho_ ?hv_ ?_); (case ho_ => first | assumption | exact upd_same); (case hv_ => exact Nat.le_of_ble_eq_true rfl)) | ((with_reducible refine' st_Endpoint_probe ?ho_ ?hv_ ?_); (case ho_ => first | assumption | exact upd_same); (case hv_ => exact Nat.le_of_ble_eq_true rfl)) | ((with_reducible refine' st_Endpoint_over ?ho_ ?hv_ ?_); (case ho_ => first | assumption | exact upd_same); (case hv_ => exact Nat.le_of_ble_eq_true rfl)) | ((with_reducible refine' st_Endpoint_rest ?ho_ ?hv_ ?_); (case ho_ => first | assumption | exact upd_same); (case hv_ => exact Nat.le_of_ble_eq_true rfl)) | ((with_reducible refine' st_Endpoint_spent_at ?ho_ ?hv_ ?_); (case ho_ => first | assumption | exact upd_same); (case hv_ => exact Nat.le_of_ble_eq_true rfl)) | ((with_reducible refine' st_Endpoint_spent ?ho_ ?hv_ ?_); (case ho_ => first | assumption | exact upd_same); (case hv_ => exact Nat.le_of_ble_eq_true rfl)) | ((with_reducible refine' st_Endpoint_stamp ?ho_ ?hv_ ?_); (case ho_ => first | assumption | exact upd_same); (case hv_ => exact Nat.le_of_ble_eq_true rfl)) | ((with_reducible refine' st_Endpoint_marked ?ho_ ?hv_ ?_); (case ho_ => first | assumption | exact upd_same); (case hv_ => exact Nat.le_of_ble_eq_true rfl)) | ((with_reducible refine' st_Endpoint_cut ?ho_ ?hv_ ?_); (case ho_ => first | assumption | exact upd_same); (case hv_ => exact Nat.le_of_ble_eq_true rfl)) | ((with_reducible refine' me_Endpoint_abort ?ho_ ?_); (case ho_ => first | assumption | exact upd_same)) | ((with_reducible refine' me_Endpoint_end ?ho_ ?_); (case ho_ => first | assumption | exact upd_same)))
local macro_rules | `(tactic| walk_at "use") => `(tactic| first | ((with_reducible refine' fd_Options_mss ?ho_ ?hv_ ?_); (case ho_ => first | assumption | exact upd_same); (case hv_ => exact rfl)) | ((with_reducible refine' fd_Options_room ?ho_ ?hv_ ?_); (case ho_ => first | assumption | exact upd_same); (case hv_ => exact rfl)) | ((with_reducible refine' fd_Options_life ?ho_ ?hv_ ?_); (case ho_ => first | assumption | exact upd_same); (case hv_ => exact rfl)) | ((with_reducible refine' fd_Options_pace ?ho_ ?hv_ ?_); (case ho_ => first | assumption | exact upd_same); (case hv_ => exact rfl)) | ((with_reducible refine' fd_Options_tries ?ho_ ?hv_ ?_); (case ho_ => first | assumption | exact upd_same); (case hv_ => exact rfl)) | ((with_reducible refine' fd_Options_min_rto ?ho_ ?hv_ ?_); (case ho_ => first | assumption | exact upd_same); (case hv_ => exact rfl)) | ((with_reducible refine' fd_Options_max_rto ?ho_ ?hv_ ?_); (case ho_ => first | assumption | exact upd_same); (case hv_ => exact rfl)) | ((with_reducible refine' fd_Options_ack_delay ?ho_ ?hv_ ?_); (case ho_ => first | assumption | exact upd_same); (case hv_ => exact rfl)) | ((with_reducible refine' fd_Options_keep_alive ?ho_ ?hv_ ?_); (case ho_ => first | assumption | exact upd_same); (case hv_ => exact rfl)) | ((with_reducible refine' fd_Options_nagle ?ho_ ?hv_ ?_); (case ho_ => first | assumption | exact upd_same); (case hv_ => exact rfl)) | ((with_reducible refine' fd_Options_control ?ho_ ?hv_ ?_); (case ho_ => first | assumption | exact upd_same); (case hv_ => exact rfl)) | ((with_reducible refine' nw_Options_mss ?ho_ ?hv_ ?_); (case ho_ => first | assumption | exact upd_same); (case hv_ => exact rfl)) | ((with_reducible refine' nw_Options_room ?ho_ ?hv_ ?_); (case ho_ => first | assumption | exact upd_same); (case hv_ => exact rfl)) | ((with_reducible refine' nw_Options_life ?ho_ ?hv_ ?_); (case ho_ => first | assumption | exact upd_same); (case hv_ => exact rfl)) | ((with_reducible refine' nw_Options_pace ?ho_ ?hv_ ?_); (case ho_ => first | assumption | exact upd_same); (case hv_ => exact rfl)) | ((with_reducible refine' nw_Options_tries ?ho_ ?hv_ ?_); (case ho_ => first | assumption | exact upd_same); (case hv_ => exact rfl)) | ((with_reducible refine' nw_Options_min_rto ?ho_ ?hv_ ?_); (case ho_ => first | assumption | exact upd_same); (case hv_ => exact rfl)) | ((with_reducible refine' nw_Options_max_rto ?ho_ ?hv_ ?_); (case ho_ => first | assumption | exact upd_same); (case hv_ => exact rfl)) | ((with_reducible refine' nw_Options_ack_delay ?ho_ ?hv_ ?_); (case ho_ => first | assumption | exact upd_same); (case hv_ => exact rfl)) | ((with_reducible refine' nw_Options_keep_alive ?ho_ ?hv_ ?_); (case ho_ => first | assumption | exact upd_same); (case hv_ => exact rfl)) | ((with_reducible refine' nw_Options_nagle ?ho_ ?hv_ ?_); (case ho_ => first | assumption | exact upd_same); (case hv_ => exact rfl)) | ((with_reducible refine' nw_Options_control ?ho_ ?hv_ ?_); (case ho_ => first | assumption | exact upd_same); (case hv_ => exact rfl)) | ((with_reducible refine' st_Options_mss ?ho_ ?hv_ ?_); (case ho_ => first | assumption | exact upd_same); (case hv_ => exact Nat.le_of_ble_eq_true rfl)) | ((with_reducible refine' st_Options_room ?ho_ ?hv_ ?_); (case ho_ => first | assumption | exact upd_same); (case hv_ => exact Nat.le_of_ble_eq_true rfl)) | ((with_reducible refine' st_Options_life ?ho_ ?hv_ ?_); (case ho_ => first | assumption | exact upd_same); (case hv_ => exact Nat.le_of_ble_eq_true rfl)) | ((with_reducible refine' st_Options_pace ?ho_ ?hv_ ?_); (case ho_ => first | assumption | exact upd_same); (case hv_ => exact Nat.le_of_ble_eq_true rfl)) | ((with_reducible refine' st_Options_tries ?ho_ ?hv_ ?_); (case ho_ => first | assumption | exact upd_same); (case hv_ => exact Nat.le_of_ble_eq_true rfl)) | ((with_reducible refine' st_Options_min_rto ?ho_ ?hv_ ?_); (case ho_ => first | assumption | exact upd_same); (case hv_ => exact Nat.le_of_ble_eq_true rfl)) | ((with_reducible refine' st_Options_max_rto ?ho_ ?hv_ ?_); (case ho_ => first | assumption | exact upd_same); (case hv_ => exact Nat.le_of_ble_eq_true rfl)) | ((with_reducible refine' st_Options_ack_delay ?ho_ ?hv_ ?_); (case ho_ => first | assumption | exact upd_same); (case hv_ => exact Nat.le_of_ble_eq_true rfl)) | ((with_reducible refine' st_Options_keep_alive ?ho_ ?hv_ ?_); (case ho_ => first | assumption | exact upd_same); (case hv_ => exact Nat.le_of_ble_eq_true rfl)) | ((with_reducible refine' st_Options_nagle ?ho_ ?hv_ ?_); (case ho_ => first | assumption | exact upd_same); (case hv_ => exact Nat.le_of_ble_eq_true rfl)) | ((with_reducible refine' st_Options_control ?ho_ ?hv_ ?_); (case ho_ => first | assumption | exact upd_same); (case hv_ => exact Nat.le_of_ble_eq_true rfl)) | ((with_reducible refine' me_Options_fork ?ho_ ?_); (case ho_ => first | assumption | exact upd_same)) | ((with_reducible refine' me_Options_wrong_names ?ho_ ?_); (case ho_ => first | assumption | exact upd_same)))
section
variable {P : Program} {w : World} {K : PySem.W.Frag} {mg : Str → Option Value} {base : Heap}
/-- None or an int -/
def oV : Option Int → V
  | none => .non
  | some i => .int i
/-- None or a pair -/
def StV (H : Hp) : V → Option (Int × Int) → Prop
  | v, none => v = .non
  | v, some p => ∃ t, v = .ref t ∧ H t = some (tupP p)
theorem StV.same {H H' : Hp} {v : V} {o : Option (Int × Int)} (h : StV H v o) (s : Same H H') : StV H' v o := by
  cases o with
  | none => exact h
  | some p =>
    obtain ⟨t, e, h⟩ := h
    exact ⟨t, e, s _ _ h⟩
theorem StV.butD {H H' : Hp} {v : V} {o : Option (Int × Int)} {a : Addr} {kvs : List (Key × V)} (h : StV H v o) (s : But a H H') (e : H a = some (.dK kvs)) : StV H' v o := by
  cases o with
  | none => exact h
  | some p =>
    obtain ⟨t, e1, h⟩ := h
    exact ⟨t, e1, s _ _ (fun z => by rw [z, e] at h; cases h) h⟩

/-- a segment's parts that a socket asks for -/
structure Sm where
  src : Int
  tgt : Int
  seq : Int
  cnt : Int
  echo : Option Int
  syn : Bool
  rst : Bool
  sc : V
def SgO (C : Addr) (H : Hp) (p : Addr) (g : Sm) : Prop := ∃ dx r d a b c e f i j k, H p = some (.ins C dx (obj ky_Segment [.int g.src, .int g.tgt, .int g.seq, .int g.cnt, oV g.echo, a, .bl g.syn, b, .bl g.rst, c, e, f, i, g.sc, j, .ref r, k, .ref d]))
theorem SgO.same {C : Addr} {H H' : Hp} {p : Addr} {g : Sm} (h : SgO C H p g) (s : Same H H') : SgO C H' p g := by
  obtain ⟨dx, r, d, a, b, c, e, f, i, j, k, h⟩ := h
  exact ⟨dx, r, d, a, b, c, e, f, i, j, k, s _ _ h⟩
def sp_Segment_init__ (C : Addr) (K : PySem.W.Frag) : Sp := fun vs H Q _ => ∃ (p dx a1 a2 : Addr) (v1 v2 v3 v4 v5 v6 v7 v8 v9 v10 v11 v12 v13 v14 v15 v16 : V) (rs ds : List V),
  vs = [.ref p, v1, v2, v3, v4, v5, v6, v7, v8, v9, v10, v11, v12, v13, v14, v15, .ref a1, v16, .ref a2] ∧ H p = some (.ins C dx (obj ky_Segment [])) ∧ (∀ H', But p H H' → SqL K H' a1 rs ∨ SqT K H' a1 rs) ∧ (∀ H', But p H H' → SqL K H' a2 ds ∨ SqT K H' a2 ds) ∧
  ∀ r d H', d ≠ r → r ≠ p → d ≠ p → H r = none → H d = none → But p H H' → H' r = some (.lst rs) → H' d = some (.lst ds) → H' p = some (.ins C dx (obj ky_Segment [v1, v2, v3, v4, v5, v6, v7, v8, v9, v10, v11, v12, v13, v14, v15, .ref r, v16, .ref d])) → Q .non H'
theorem ok_Segment_init__ (T : Txt P K mg) : FnOk P w K mg base CX0 1 T.f_Segment_init__ T.d_Segment_init__ ["self", "source", "target", "seq", "count", "echo", "ack", "syn", "fin", "reset", "marked", "cut", "window", "mss", "scale", "ranges_known", "ranges", "stamp", "data"] (sp_Segment_init__ T.C_Segment K) := by
  refine T.F_Segment_init__.ok sc_Segment_init__ (fun vs H Q E h => ?_) (fun cdv A outer s H vs Q E hr h => ?_)
  · obtain ⟨p, dx, a1, a2, v1, v2, v3, v4, v5, v6, v7, v8, v9, v10, v11, v12, v13, v14, v15, v16, rs, ds, rfl, ho, h1, h2, q⟩ := h
    rfl
  · obtain ⟨p, dx, a1, a2, v1, v2, v3, v4, v5, v6, v7, v8, v9, v10, v11, v12, v13, v14, v15, v16, rs, ds, rfl, ho, h1, h2, q⟩ := h
    have hu := hu_of hr
    refine ⟨_, (pss_cons (ps_fld (pv 0) (pv 1) rfl)
        (pss_cons (ps_fld (pv 0) (pv 2) rfl)
        (pss_cons (ps_fld (pv 0) (pv 3) rfl)
        (pss_cons (ps_fld (pv 0) (pv 4) rfl)
        (pss_cons (ps_fld (pv 0) (pv 5) rfl)
        (pss_cons (ps_fld (pv 0) (pv 6) rfl)
        (pss_cons (ps_fld (pv 0) (pv 7) rfl)
        (pss_cons (ps_fld (pv 0) (pv 8) rfl)
        (pss_cons (ps_fld (pv 0) (pv 9) rfl)
        (pss_cons (ps_fld (pv 0) (pv 10) rfl)
        (pss_cons (ps_fld (pv 0) (pv 11) rfl)
        (pss_cons (ps_fld (pv 0) (pv 12) rfl)
        (pss_cons (ps_fld (pv 0) (pv 13) rfl)
        (pss_cons (ps_fld (pv 0) (pv 14) rfl)
        (pss_cons (ps_fld (pv 0) (pv 15) rfl)
        (pss_cons (ps_fld (pv 0) (pe_callTy call_list_of (by rfl) T.n_list (by decide +kernel) (pa_cons (pv 16) pa_nil)) rfl)
        (pss_cons (ps_fld (pv 0) (pv 17) rfl)
        (pss_one (ps_fld (pv 0) (pe_callTy call_list_of (by rfl) T.n_list (by decide +kernel) (pa_cons (pv 18) pa_nil)) rfl))))))))))))))))))), ?_⟩
    dsimp only [cxOf, Cx.nox, Cx.wish, L2.start, List.map, List.cons_append, List.nil_append, List.length_cons, List.length_nil, Nat.reduceAdd, Nat.reduceSub, Nat.zero_add, List.replicate_succ, List.replicate_zero]
    walk_at "go"
    simp only [upd_upd, List.nil_append, List.cons_append]
    have b1 : But p H (upd H p (.ins T.C_Segment dx (obj ky_Segment [v1, v2, v3, v4, v5, v6, v7, v8, v9, v10, v11, v12, v13, v14, v15]))) := But.refl.upd
    refine g_len (h1 _ b1) fun l1 nl1 => ?_
    have e1 : (upd H p (.ins T.C_Segment dx (obj ky_Segment [v1, v2, v3, v4, v5, v6, v7, v8, v9, v10, v11, v12, v13, v14, v15]))) p = some (.ins T.C_Segment dx (obj ky_Segment [v1, v2, v3, v4, v5, v6, v7, v8, v9, v10, v11, v12, v13, v14, v15])) := upd_same
    generalize upd H p (.ins T.C_Segment dx (obj ky_Segment [v1, v2, v3, v4, v5, v6, v7, v8, v9, v10, v11, v12, v13, v14, v15])) = H1 at b1 nl1 e1 ⊢
    have ne1 : l1 ≠ p := fun z => by rw [z, e1] at nl1; cases nl1
    have e1' := upd_keep (o := .lst rs) nl1 e1
    have s1 := same_upd (o := .lst rs) nl1
    have k1 : (upd H1 l1 (.lst rs)) l1 = some (.lst rs) := upd_same
    have b2 := b1.trans (But.of s1)
    have f1 := b1.free ne1 nl1
    generalize upd H1 l1 (.lst rs) = H2 at e1' s1 k1 b2 ⊢
    walk_at "go"
    simp only [upd_upd, List.nil_append, List.cons_append]
    have b3 : But p H2 (upd H2 p (.ins T.C_Segment dx (obj ky_Segment [v1, v2, v3, v4, v5, v6, v7, v8, v9, v10, v11, v12, v13, v14, v15, V.ref l1, v16]))) := But.refl.upd
    refine g_len (h2 _ (b2.trans b3)) fun l3 nl3 => ?_
    have e3 : (upd H2 p (.ins T.C_Segment dx (obj ky_Segment [v1, v2, v3, v4, v5, v6, v7, v8, v9, v10, v11, v12, v13, v14, v15, V.ref l1, v16]))) p = some (.ins T.C_Segment dx (obj ky_Segment [v1, v2, v3, v4, v5, v6, v7, v8, v9, v10, v11, v12, v13, v14, v15, V.ref l1, v16])) := upd_same
    generalize upd H2 p (.ins T.C_Segment dx (obj ky_Segment [v1, v2, v3, v4, v5, v6, v7, v8, v9, v10, v11, v12, v13, v14, v15, V.ref l1, v16])) = H3 at b3 nl3 e3 ⊢
    have ne3 : l3 ≠ p := fun z => by rw [z, e3] at nl3; cases nl3
    have e3' := upd_keep (o := .lst ds) nl3 e3
    have k3 : (upd H3 l3 (.lst ds)) l3 = some (.lst ds) := upd_same
    have b4 := b3.trans (But.of (same_upd (o := .lst ds) nl3))
    have f3 := (b2.trans b3).free ne3 nl3
    generalize upd H3 l3 (.lst ds) = H4 at e3' k3 b4 ⊢
    walk_at "go"
    have n31 : l3 ≠ l1 := fun z => by rw [z, b3 _ _ ne1 k1] at nl3; cases nl3
    refine q l1 l3 _ n31 ne1 ne3 f1 f3 (b2.trans b4).upd ?_ ?_ upd_same
    · rw [upd_ne ne1]; exact b4 _ _ ne1 k1
    · rw [upd_ne ne3]; exact k3

structure Sk where
  cnt : Int
  port : Int
  peer : Int
  pport : Int
  pc : Option Int
  pf : V
  ps : V
  li : Bool
  ep : Addr
def skV (g : Sk) : List V := [.int g.cnt, .int g.port, .int g.peer, .int g.pport, oV g.pc, g.pf, g.ps, .bl g.li, .bl false, .ref g.ep]
def SkO (C : Addr) (H : Hp) (p : Addr) (g : Sk) : Prop := ∃ dx, H p = some (.ins C dx (obj ky_Socket (skV g)))
theorem SkO.same {C : Addr} {H H' : Hp} {p : Addr} {g : Sk} (h : SkO C H p g) (s : Same H H') : SkO C H' p g := let ⟨dx, h⟩ := h; ⟨dx, s _ _ h⟩
def sp_Socket_init (C : Addr) : Sp := fun vs H Q _ => ∃ (p dx : Addr) (c a b d : Int) (ep : Addr) (l : Bool), vs = [.ref p, .int c, .int a, .int b, .int d, .ref ep, .bl l] ∧ H p = some (.ins C dx (obj ky_Socket [])) ∧ ∀ H', But p H H' → SkO C H' p ⟨c, a, b, d, none, .non, .non, l, ep⟩ → Q .non H'
theorem ok_Socket_init__ (T : Txt P K mg) : FnOk P w K mg base CX0 1 T.f_Socket_init__ T.d_Socket_init__ ["self", "count", "port", "peer", "peer_port", "endpoint", "listened"] (sp_Socket_init T.C_Socket) := by
  refine T.F_Socket_init__.ok sc_Socket_init__ (fun vs H Q E h => ?_) (fun cdv A outer s H vs Q E hr h => ?_)
  · obtain ⟨p, dx, c, a, b, d, ep, l, rfl, hp, q⟩ := h
    rfl
  · obtain ⟨p, dx, c, a, b, d, ep, l, rfl, hp, q⟩ := h
    have hu := hu_of hr
    refine ⟨_, (pss_cons (ps_fld (pv 0) (pv 1) rfl)
        (pss_cons (ps_fld (pv 0) (pv 2) rfl)
        (pss_cons (ps_fld (pv 0) (pv 3) rfl)
        (pss_cons (ps_fld (pv 0) (pv 4) rfl)
        (pss_cons (ps_fld (pv 0) pe_non rfl)
        (pss_cons (ps_fld (pv 0) pe_non rfl)
        (pss_cons (ps_fld (pv 0) pe_non rfl)
        (pss_cons (ps_fld (pv 0) (pv 6) rfl)
        (pss_cons (ps_fld (pv 0) pe_bl rfl)
        (pss_one (ps_fld (pv 0) (pv 5) rfl))))))))))), ?_⟩
    dsimp only [cxOf, Cx.nox, Cx.wish, L2.start, List.map, List.cons_append, List.nil_append, List.length_cons, List.length_nil, Nat.reduceAdd, Nat.reduceSub, Nat.zero_add, List.replicate_succ, List.replicate_zero]
    walk_at "go"
    simp only [upd_upd, List.nil_append, List.cons_append]
    exact q _ But.refl.upd ⟨dx, upd_same⟩
def sp_learn (C Cs : Addr) : Sp := fun vs H Q _ => ∃ (p s : Addr) (g : Sk) (m : Sm), vs = [.ref p, .ref s] ∧ SkO C H p g ∧ SgO Cs H s m ∧ (((g.pc ≠ none ∨ m.rst = true ∨ m.syn = false) ∧ Q .non H) ∨ ((g.pc = none ∧ m.rst = false ∧ m.syn = true) ∧ ∀ H', But p H H' → SkO C H' p { g with pc := some m.cnt, pf := .int m.seq, ps := m.sc } → Q .non H'))
theorem ok_Socket_learn (T : Txt P K mg) : FnOk P w K mg base CX0 1 T.f_Socket_learn T.d_Socket_learn ["self", "segment"] (sp_learn T.C_Socket T.C_Segment) := by
  refine T.F_Socket_learn.ok sc_Socket_learn (fun vs H Q E h => ?_) (fun cdv A outer s H vs Q E hr h => ?_)
  · obtain ⟨p, s, g, m, rfl, ⟨dx, hp⟩, ⟨ds, r, d, a, b, c, e, f, i, j, k, hs⟩, q⟩ := h
    rfl
  · obtain ⟨p, s, g, m, rfl, ⟨dx, hp⟩, ⟨ds, r, d, a, b, c, e, f, i, j, k, hs⟩, q⟩ := h
    have hu := hu_of hr
    refine ⟨_, (pss_cons (ps_if (PW.pt (pw_or (pt_cmpR op_notN (pe_fld (pv 0) rfl) pe_non (nomark _)) (pw_or (pt_val (pe_fld (pv 1) rfl)) (pw_or1 (pt_not (pt_val (pe_fld (pv 1) rfl))))))) (pss_one ps_retN) pss_nil)
        (pss_cons (ps_fld (pv 0) (pe_fld (pv 1) rfl) rfl)
        (pss_cons (ps_fld (pv 0) (pe_fld (pv 1) rfl) rfl)
        (pss_one (ps_fld (pv 0) (pe_fld (pv 1) rfl) rfl))))), ?_⟩
    dsimp only [cxOf, Cx.nox, Cx.wish, L2.start, List.map, List.cons_append, List.nil_append, List.length_cons, List.length_nil, Nat.reduceAdd, Nat.reduceSub, Nat.zero_add, List.replicate_succ, List.replicate_zero]
    unfold skV at hp
    obtain ⟨cnt, port, peer, pport, pc, pf, ps, li, ep⟩ := g
    obtain ⟨src, tgt, seq, mc, echo, syn, rst, sc⟩ := m
    dsimp only at hp hs q
    have nsp : s ≠ p := fun z => by
      rw [z, hp] at hs
      injection hs with hs
      injection hs with _ _ hs
      exact absurd (show (10 : Nat) = 18 from congrArg List.length hs) (by decide)
    walk_at "go"
    cases pc with
    | some x =>
      refine g_nT (fun z => nomatch z) ?_
      refine iteT ?_
      walk_at "go"
      rcases q with ⟨_, q⟩ | ⟨⟨z, _⟩, _⟩
      · exact q
      · cases z
    | none =>
      refine g_nF rfl ?_
      walk_at "go"
      cases rst with
      | true =>
        refine iteT ?_
        refine iteT ?_
        walk_at "go"
        rcases q with ⟨_, q⟩ | ⟨⟨_, z, _⟩, _⟩
        · exact q
        · cases z
      | false =>
        refine iteF ?_
        walk_at "go"
        cases syn with
        | false =>
          walk_at "go"
          rcases q with ⟨_, q⟩ | ⟨⟨_, _, z⟩, _⟩
          · exact q
          · cases z
        | true =>
          walk_at "go"
          walk_at "bt"
          rename_i H2 b2 k2
          have hs2 := b2 _ _ nsp hs
          have k2' : H2 p = some (.ins T.C_Socket dx (obj ky_Socket [.int cnt, .int port, .int peer, .int pport, .int mc, pf, ps, .bl li, .bl false, .ref ep])) := k2
          walk_at "go"
          walk_at "bt"
          rename_i H3 b3 k3
          have hs3 := b3 _ _ nsp hs2
          have k3' : H3 p = some (.ins T.C_Socket dx (obj ky_Socket [.int cnt, .int port, .int peer, .int pport, .int mc, .int seq, ps, .bl li, .bl false, .ref ep])) := k3
          walk_at "go"
          rcases q with ⟨z, _⟩ | ⟨_, q⟩
          · rcases z with z | z | z
            · exact absurd rfl z
            · cases z
            · cases z
          · exact q _ ((b2.trans b3).upd) ⟨dx, upd_same⟩

theorem in_none {x y : Int} : inV (.int x) [V.non, V.int y] = decide (x = y) := by
  show (false || inV (.int x) ([y].map V.int)) = _
  rw [inV_int, Bool.false_or]
  simp
theorem g_ne3 {Q : VK} {H : Hp} {a b : Addr} {x y z x' y' z' : Int} (h1 : H a = some (.tup [.int x, .int y, .int z])) (h2 : H b = some (.tup [.int x', .int y', .int z'])) (q : Q (.bl (!decide (x = x' ∧ y = y' ∧ z = z'))) H) : rNeD K (.ref a) (.ref b) H Q := by
  refine ⟨.tuple [.int x, .int y, .int z], .tuple [.int x', .int y', .int z'], .tup (st h1) (.cons (.int _) (.cons (.int _) (.cons (.int _) .nil))), .tup (st h2) (.cons (.int _) (.cons (.int _) (.cons (.int _) .nil))), rfl, rfl, ?_⟩
  have e : PyData.eqv (.tuple [.int x, .int y, .int z]) (.tuple [.int x', .int y', .int z']) = decide (x = x' ∧ y = y' ∧ z = z') := by
    show ((x == x') && ((y == y') && ((z == z') && true))) = _
    rw [Bool.eq_iff_iff]
    simp
  rw [e]
  exact q
def isFor (g : Sk) (m : Sm) (snd : Int) (ph : Str) : Bool := if m.tgt = g.port ∧ snd = g.peer ∧ m.src = g.pport then (match m.echo with | some e => decide (e = g.cnt) && (match g.pc with | none => true | some c => decide (c = m.cnt)) | none => m.syn && !m.rst && (match g.pc with | none => !decide (ph = "ended") | some c => decide (m.cnt = c))) else false
def sp_is_for (C Cs Ce : Addr) : Sp := fun vs H Q _ => ∃ (p s : Addr) (g : Sk) (m : Sm) (snd : Int) (ph : Str), vs = [.ref p, .ref s, .int snd] ∧ SkO C H p g ∧ SgO Cs H s m ∧ EpO Ce H g.ep ph ∧ ∀ H', Same H H' → Q (.bl (isFor g m snd ph)) H'
theorem ok_Socket_is_for (T : Txt P K mg) : FnOk P w K mg base CX0 3 T.f_Socket_is_for T.d_Socket_is_for ["self", "segment", "sender"] (sp_is_for T.C_Socket T.C_Segment T.C_Endpoint) := by
  refine T.F_Socket_is_for.ok sc_Socket_is_for (fun vs H Q E h => ?_) (fun cdv A outer s H vs Q E hr h => ?_)
  · obtain ⟨p, s, g, m, snd, ph, rfl, ⟨dx, hp⟩, ⟨ds, r, d, a, b, c, e, f, i, j, k, hs⟩, hE, q⟩ := h
    rfl
  · obtain ⟨p, s, g, m, snd, ph, rfl, ⟨dx, hp⟩, ⟨ds, r, d, a, b, c, e, f, i, j, k, hs⟩, hE, q⟩ := h
    have hu := hu_of hr
    refine ⟨_, (pss_cons (ps_if (pt_cmpR (op_neD hr.units) (pe_tup (pa_cons (pe_fld (pv 1) rfl) (pa_cons (pv 2) (pa_cons (pe_fld (pv 1) rfl) pa_nil)))) (pe_tup (pa_cons (pe_fld (pv 0) rfl) (pa_cons (pe_fld (pv 0) rfl) (pa_cons (pe_fld (pv 0) rfl) pa_nil)))) (nomark _)) (pss_one (ps_ret pe_bl)) pss_nil)
        (pss_cons (ps_if (pt_cmpR op_notN (pe_fld (pv 1) rfl) pe_non (nomark _)) (pss_one (ps_ret (pe_and (pe_cmpR op_eq (pe_fld (pv 1) rfl) (pe_fld (pv 0) rfl) (nomark _)) (pe_one (pe_cmpR op_in_seq (pe_fld (pv 0) rfl) (pe_tup (pa_cons pe_non (pa_cons (pe_fld (pv 1) rfl) pa_nil))) (by with_unfolding_all rfl)))))) pss_nil)
        (pss_cons (ps_if (PW.pt (pw_or (pt_not (pt_val (pe_fld (pv 1) rfl))) (pw_or1 (pt_val (pe_fld (pv 1) rfl))))) (pss_one (ps_ret pe_bl)) pss_nil)
        (pss_cons (ps_if (pt_cmpR op_isN (pe_fld (pv 0) rfl) pe_non (nomark _)) (pss_one (ps_ret (pe_not (pe_prop (pe_fld (pv 0) rfl) T.k_Endpoint T.p_Endpoint_has_ended (ok_Endpoint_has_ended T) (hr.mono (by decide)) T.b_Endpoint_has_ended .nil pass0 (by rfl))))) pss_nil)
        (pss_one (ps_ret (pe_cmpR op_eq (pe_fld (pv 1) rfl) (pe_fld (pv 0) rfl) (nomark _)))))))), ?_⟩
    dsimp only [cxOf, Cx.nox, Cx.wish, L2.start, List.map, List.cons_append, List.nil_append, List.length_cons, List.length_nil, Nat.reduceAdd, Nat.reduceSub, Nat.zero_add, List.replicate_succ, List.replicate_zero]
    unfold skV at hp
    obtain ⟨cnt, port, peer, pport, pc, pf, ps, li, ep⟩ := g
    obtain ⟨src, tgt, seq, mc, echo, syn, rst, sc⟩ := m
    unfold isFor at q
    dsimp only at hp hs hE q
    walk_at "go"
    refine ⟨by show 3 ≤ sizeLine; decide, fun p1 n1 => ?_⟩
    walk_at "nw"
    rename_i H1 s1 k1
    have hp1 := s1 _ _ hp
    walk_at "go"
    refine ⟨by show 3 ≤ sizeLine; decide, fun p2 n2 => ?_⟩
    walk_at "nw"
    rename_i H2 s2 k2
    have s02 := s1.trans s2
    refine g_ne3 (s2 _ _ k1) k2 ?_
    have hp2 := s02 _ _ hp
    have hs2 := s02 _ _ hs
    have hE2 := hE.same s02
    walk_at "go"
    refine g_iteN (fun c0 => ?_) (fun c0 => ?_)
    · rw [if_neg c0] at q
      walk_at "go"
      exact q _ s02
    · rw [if_pos c0] at q
      walk_at "go"
      cases echo with
      | some e0 =>
        refine g_nT (p := oV (some e0) = V.non) (fun z => nomatch z) ?_
        dsimp only at q
        walk_at "go"
        refine g_rEqI ?_
        walk_at "go"
        refine g_ite (fun c1 => ?_) (fun c1 => ?_)
        · rw [decide_eq_true c1, Bool.true_and] at q
          walk_at "go"
          refine ⟨by show 2 ≤ sizeLine; decide, fun p3 n3 => ?_⟩
          walk_at "nw"
          rename_i H3 s3 k3
          walk_at "go"
          refine ⟨p3, _, rfl, .inr (st k3), by cases pc <;> rfl, rfl, ?_⟩
          cases pc with
          | none => exact q _ (s02.trans s3)
          | some x =>
            rw [show inV (oV (some x)) [V.non, V.int mc] = decide (x = mc) from in_none]
            exact q _ (s02.trans s3)
        · rw [decide_eq_false c1, Bool.false_and] at q
          walk_at "go"
          exact q _ s02
      | none =>
        refine g_nF rfl ?_
        dsimp only at q
        walk_at "go"
        cases syn with
        | false =>
          walk_at "go"
          exact q _ s02
        | true =>
          walk_at "go"
          cases rst with
          | true =>
            walk_at "go"
            exact q _ s02
          | false =>
            walk_at "go"
            cases pc with
            | none =>
              refine g_dT rfl ?_
              obtain ⟨dy, a', b', c', d', e', cs, m', ov, hep⟩ := id hE2
              walk_at "go"
              exact ⟨ep, dy, _, rfl, hep, ep, ph, rfl, hE2, _, rfl, q _ s02⟩
            | some x =>
              refine g_dF (fun z => nomatch z) ?_
              walk_at "go"
              exact g_rEqI (q _ s02)

end
end My
namespace My
open PySem PySem.Spec L2
local macro_rules | `(tactic| walk_at "side") => `(tactic| first | assumption | decide | omega | exact ⟨by decide, by decide⟩ | exact ⟨by decide, by decide, by decide⟩ | decide +kernel | exact cdivW (by decide +kernel) (by decide +kernel) | exact Or.inl ⟨by omega, by omega⟩ | exact Or.inr ⟨by omega, by omega⟩ | (simp only [List.length_map, List.length_cons, List.length_nil, List.length_append]; omega))
local macro_rules | `(tactic| walk_at "fact") => `(tactic| first | assumption | omega | with_reducible rfl)
local macro_rules | `(tactic| walk_at "use") => `(tactic| fail "use")
local macro_rules | `(tactic| walk_at "go1") => `(tactic| with_reducible first | refine g_seq ?_ | refine g_asg ?_ | refine g_ret ?_ | refine g_ifS ?_ | refine g_drop ?_ | refine g_star ?_ | refine g_nx ?_ | refine g_rt ?_ | refine g_bkE ?_ | refine g_ctE ?_ | refine g_next ?_ | refine g_retN ?_ | refine g_brk ?_ | refine g_ct ?_ | refine g_c ?_ | refine g_op ?_ | refine g_un ?_ | refine g_rI0 ?_ | refine g_rU ?_ | refine g_rEqI ?_ | refine g_rNeI ?_ | refine g_isN ?_ | refine g_rIsB ?_ | refine g_rNotB ?_ | refine g_test ?_ | refine g_B ?_ | refine g_bl ?_ | refine g_and ?_ | refine g_or ?_ | refine g_not ?_ | refine g_andV ?_ | refine g_orV ?_ | refine g_notV ?_ | refine g_if ?_ | refine g_chain ?_ | refine g_yes ?_ | refine g_lc ?_ | refine g_revR ?_ | refine g_rng1 ?_ | refine g_iList ?_ | refine g_nil ?_ | refine g_cons ?_ | refine g_tup ?_ | refine g_lst ?_ | refine g_call ?_ | refine g_CB ?_ | refine g_sl ?_ | refine g_noPart ?_ | refine g_part ?_ | refine g_intE ?_ | refine g_ref ?_ | refine g_fld ?_ | refine g_sfld ?_ | refine g_meth ?_ | refine g_make ?_ | refine g_prop ?_  | refine g_ipI ?_ | refine g_int1 ?_ | refine g_int1B ?_ | refine g_one ?_ | refine g_two ?_ | refine g_isiI ?_ | refine g_isiIB ?_ | refine g_isiB ?_ | refine g_BM ?_ | refine g_BM0 ?_ | refine g_sub ?_)
local macro_rules | `(tactic| walk_at "go") => `(tactic| repeat (first | walk_at "go1" | ((with_reducible refine' g_nameE ?sd_ ?_); case sd_ => dsimp only [List.set_cons_succ, List.set_cons_zero]) | ((with_reducible refine' g_var ?sd_ ?_); case sd_ => exact rfl) | ((with_reducible refine' g_aug ?sd_ ?_); case sd_ => exact rfl) | ((with_reducible refine' g_rI ?sd_ ?_); case sd_ => walk_at "side") | ((with_reducible refine' g_dT ?sd_ ?_); case sd_ => walk_at "fact") | ((with_reducible refine' g_dF ?sd_ ?_); case sd_ => walk_at "fact") | ((with_reducible refine' g_nT ?sd_ ?_); case sd_ => walk_at "fact") | ((with_reducible refine' g_nF ?sd_ ?_); case sd_ => walk_at "fact") | (with_reducible refine g_iT rfl ?_) | (with_reducible refine g_iF rfl ?_) | walk_at "use"))
local macro_rules | `(tactic| walk_at "nw") => `(tactic| (generalize zq : upd _ _ _ = Hq; have sq : Same _ Hq := (by rw [← zq]; exact same_upd (by assumption)); have kq := (congrFun zq _).symm.trans upd_same; clear zq))
local macro_rules | `(tactic| walk_at "bt") => `(tactic| (generalize zq : upd _ _ _ = Hq; have bq : But _ _ Hq := (by rw [← zq]; exact But.refl.upd); have kq := (congrFun zq _).symm.trans upd_same; clear zq))
local macro_rules | `(tactic| walk_at "use") => `(tactic| first | ((with_reducible refine' fd_Segment_source ?ho_ ?hv_ ?_); (case ho_ => first | assumption | exact upd_same); (case hv_ => exact rfl)) | ((with_reducible refine' fd_Segment_target ?ho_ ?hv_ ?_); (case ho_ => first | assumption | exact upd_same); (case hv_ => exact rfl)) | ((with_reducible refine' fd_Segment_seq ?ho_ ?hv_ ?_); (case ho_ => first | assumption | exact upd_same); (case hv_ => exact rfl)) | ((with_reducible refine' fd_Segment_count ?ho_ ?hv_ ?_); (case ho_ => first | assumption | exact upd_same); (case hv_ => exact rfl)) | ((with_reducible refine' fd_Segment_echo ?ho_ ?hv_ ?_); (case ho_ => first | assumption | exact upd_same); (case hv_ => exact rfl)) | ((with_reducible refine' fd_Segment_ack ?ho_ ?hv_ ?_); (case ho_ => first | assumption | exact upd_same); (case hv_ => exact rfl)) | ((with_reducible refine' fd_Segment_syn ?ho_ ?hv_ ?_); (case ho_ => first | assumption | exact upd_same); (case hv_ => exact rfl)) | ((with_reducible refine' fd_Segment_fin ?ho_ ?hv_ ?_); (case ho_ => first | assumption | exact upd_same); (case hv_ => exact rfl)) | ((with_reducible refine' fd_Segment_reset ?ho_ ?hv_ ?_); (case ho_ => first | assumption | exact upd_same); (case hv_ => exact rfl)) | ((with_reducible refine' fd_Segment_marked ?ho_ ?hv_ ?_); (case ho_ => first | assumption | exact upd_same); (case hv_ => exact rfl)) | ((with_reducible refine' fd_Segment_cut ?ho_ ?hv_ ?_); (case ho_ => first | assumption | exact upd_same); (case hv_ => exact rfl)) | ((with_reducible refine' fd_Segment_window ?ho_ ?hv_ ?_); (case ho_ => first | assumption | exact upd_same); (case hv_ => exact rfl)) | ((with_reducible refine' fd_Segment_mss ?ho_ ?hv_ ?_); (case ho_ => first | assumption | exact upd_same); (case hv_ => exact rfl)) | ((with_reducible refine' fd_Segment_scale ?ho_ ?hv_ ?_); (case ho_ => first | assumption | exact upd_same); (case hv_ => exact rfl)) | ((with_reducible refine' fd_Segment_ranges_known ?ho_ ?hv_ ?_); (case ho_ => first | assumption | exact upd_same); (case hv_ => exact rfl)) | ((with_reducible refine' fd_Segment_ranges ?ho_ ?hv_ ?_); (case ho_ => first | assumption | exact upd_same); (case hv_ => exact rfl)) | ((with_reducible refine' fd_Segment_stamp ?ho_ ?hv_ ?_); (case ho_ => first | assumption | exact upd_same); (case hv_ => exact rfl)) | ((with_reducible refine' fd_Segment_data ?ho_ ?hv_ ?_); (case ho_ => first | assumption | exact upd_same); (case hv_ => exact rfl)) | ((with_reducible refine' nw_Segment_source ?ho_ ?hv_ ?_); (case ho_ => first | assumption | exact upd_same); (case hv_ => exact rfl)) | ((with_reducible refine' nw_Segment_target ?ho_ ?hv_ ?_); (case ho_ => first | assumption | exact upd_same); (case hv_ => exact rfl)) | ((with_reducible refine' nw_Segment_seq ?ho_ ?hv_ ?_); (case ho_ => first | assumption | exact upd_same); (case hv_ => exact rfl)) | ((with_reducible refine' nw_Segment_count ?ho_ ?hv_ ?_); (case ho_ => first | assumption | exact upd_same); (case hv_ => exact rfl)) | ((with_reducible refine' nw_Segment_echo ?ho_ ?hv_ ?_); (case ho_ => first | assumption | exact upd_same); (case hv_ => exact rfl)) | ((with_reducible refine' nw_Segment_ack ?ho_ ?hv_ ?_); (case ho_ => first | assumption | exact upd_same); (case hv_ => exact rfl)) | ((with_reducible refine' nw_Segment_syn ?ho_ ?hv_ ?_); (case ho_ => first | assumption | exact upd_same); (case hv_ => exact rfl)) | ((with_reducible refine' nw_Segment_fin ?ho_ ?hv_ ?_); (case ho_ => first | assumption | exact upd_same); (case hv_ => exact rfl)) | ((with_reducible refine' nw_Segment_reset ?ho_ ?hv_ ?_); (case ho_ => first | assumption | exact upd_same); (case hv_ => exact rfl)) | ((with_reducible refine' nw_Segment_marked ?ho_ ?hv_ ?_); (case ho_ => first | assumption | exact upd_same); (case hv_ => exact rfl)) | ((with_reducible refine' nw_Segment_cut ?ho_ ?hv_ ?_); (case ho_ => first | assumption | exact upd_same); (case hv_ => exact rfl)) | ((with_reducible refine' nw_Segment_window ?ho_ ?hv_ ?_); (case ho_ => first | assumption | exact upd_same); (case hv_ => exact rfl)) | ((with_reducible refine' nw_Segment_mss ?ho_ ?hv_ ?_); (case ho_ => first | assumption | exact upd_same); (case hv_ => exact rfl)) | ((with_reducible refine' nw_Segment_scale ?ho_ ?hv_ ?_); (case ho_ => first | assumption | exact upd_same); (case hv_ => exact rfl)) | ((with_reducible refine' nw_Segment_ranges_known ?ho_ ?hv_ ?_); (case ho_ => first | assumption | exact upd_same); (case hv_ => exact rfl)) | ((with_reducible refine' nw_Segment_ranges ?ho_ ?hv_ ?_); (case ho_ => first | assumption | exact upd_same); (case hv_ => exact rfl)) | ((with_reducible refine' nw_Segment_stamp ?ho_ ?hv_ ?_); (case ho_ => first | assumption | exact upd_same); (case hv_ => exact rfl)) | ((with_reducible refine' nw_Segment_data ?ho_ ?hv_ ?_); (case ho_ => first | assumption | exact upd_same); (case hv_ => exact rfl)) | ((with_reducible refine' st_Segment_source ?ho_ ?hv_ ?_); (case ho_ => first | assumption | exact upd_same); (case hv_ => exact Nat.le_of_ble_eq_true rfl)) | ((with_reducible refine' st_Segment_target ?ho_ ?hv_ ?_); (case ho_ => first | assumption | exact upd_same); (case hv_ => exact Nat.le_of_ble_eq_true rfl)) | ((with_reducible refine' st_Segment_seq ?ho_ ?hv_ ?_); (case ho_ => first | assumption | exact upd_same); (case hv_ => exact Nat.le_of_ble_eq_true rfl)) | ((with_reducible refine' st_Segment_count ?ho_ ?hv_ ?_); (case ho_ => first | assumption | exact upd_same); (case hv_ => exact Nat.le_of_ble_eq_true rfl)) | ((with_reducible refine' st_Segment_echo ?ho_ ?hv_ ?_); (case ho_ => first | assumption | exact upd_same); (case hv_ => exact Nat.le_of_ble_eq_true rfl)) | ((with_reducible refine' st_Segment_ack ?ho_ ?hv_ ?_); (case ho_ => first | assumption | exact upd_same); (case hv_ => exact Nat.le_of_ble_eq_true rfl)) | ((with_reducible refine' st_Segment_syn ?ho_ ?hv_ ?_); (case ho_ => first | assumption | exact upd_same); (case hv_ => exact Nat.le_of_ble_eq_true rfl)) | ((with_reducible refine' st_Segment_fin ?ho_ ?hv_ ?_); (case ho_ => first | assumption | exact upd_same); (case hv_ => exact Nat.le_of_ble_eq_true rfl)) | ((with_reducible refine' st_Segment_reset ?ho_ ?hv_ ?_); (case ho_ => first | assumption | exact upd_same); (case hv_ => exact Nat.le_of_ble_eq_true rfl)) | ((with_reducible refine' st_Segment_marked ?ho_ ?hv_ ?_); (case ho_ => first | assumption | exact upd_same); (case hv_ => exact Nat.le_of_ble_eq_true rfl)) | ((with_reducible refine' st_Segment_cut ?ho_ ?hv_ ?_); (case ho_ => first | assumption | exact upd_same); (case hv_ => exact Nat.le_of_ble_eq_true rfl)) | ((with_reducible refine' st_Segment_window ?ho_ ?hv_ ?_); (case ho_ => first | assumption | exact upd_same); (case hv_ => exact Nat.le_of_ble_eq_true rfl)) | ((with_reducible refine' st_Segment_mss ?ho_ ?hv_ ?_); (case ho_ => first | assumption | exact upd_same); (case hv_ => exact Nat.le_of_ble_eq_true rfl)) | ((with_reducible refine' st_Segment_scale ?ho_ ?hv_ ?_); (case ho_ => first | assumption | exact upd_same); (case hv_ => exact Nat.le_of_ble_eq_true rfl)) | ((with_reducible refine' st_Segment_ranges_known ?ho_ ?hv_ ?_); (case ho_ => first | assumption | exact upd_same); (case hv_ => exact Nat.le_of_ble_eq_true rfl)) | ((with_reducible refine' st_Segment_ranges ?ho_ ?hv_ ?_); (case ho_ => first | assumption | exact upd_same); (case hv_ => exact Nat.le_of_ble_eq_true rfl)) | ((with_reducible refine' st_Segment_stamp ?ho_ ?hv_ ?_); (case ho_ => first | assumption | exact upd_same); (case hv_ => exact Nat.le_of_ble_eq_true rfl)) | ((with_reducible refine' st_Segment_data ?ho_ ?hv_ ?_); (case ho_ => first | assumption | exact upd_same); (case hv_ => exact Nat.le_of_ble_eq_true rfl)))
local macro_rules | `(tactic| walk_at "use") => `(tactic| first | ((with_reducible refine' fd_Socket_count ?ho_ ?hv_ ?_); (case ho_ => first | assumption | exact upd_same); (case hv_ => exact rfl)) | ((with_reducible refine' fd_Socket_port ?ho_ ?hv_ ?_); (case ho_ => first | assumption | exact upd_same); (case hv_ => exact rfl)) | ((with_reducible refine' fd_Socket_peer ?ho_ ?hv_ ?_); (case ho_ => first | assumption | exact upd_same); (case hv_ => exact rfl)) | ((with_reducible refine' fd_Socket_peer_port ?ho_ ?hv_ ?_); (case ho_ => first | assumption | exact upd_same); (case hv_ => exact rfl)) | ((with_reducible refine' fd_Socket_peer_count ?ho_ ?hv_ ?_); (case ho_ => first | assumption | exact upd_same); (case hv_ => exact rfl)) | ((with_reducible refine' fd_Socket_peer_first ?ho_ ?hv_ ?_); (case ho_ => first | assumption | exact upd_same); (case hv_ => exact rfl)) | ((with_reducible refine' fd_Socket_peer_shift ?ho_ ?hv_ ?_); (case ho_ => first | assumption | exact upd_same); (case hv_ => exact rfl)) | ((with_reducible refine' fd_Socket_listened ?ho_ ?hv_ ?_); (case ho_ => first | assumption | exact upd_same); (case hv_ => exact rfl)) | ((with_reducible refine' fd_Socket_accepted ?ho_ ?hv_ ?_); (case ho_ => first | assumption | exact upd_same); (case hv_ => exact rfl)) | ((with_reducible refine' fd_Socket_endpoint ?ho_ ?hv_ ?_); (case ho_ => first | assumption | exact upd_same); (case hv_ => exact rfl)) | ((with_reducible refine' nw_Socket_count ?ho_ ?hv_ ?_); (case ho_ => first | assumption | exact upd_same); (case hv_ => exact rfl)) | ((with_reducible refine' nw_Socket_port ?ho_ ?hv_ ?_); (case ho_ => first | assumption | exact upd_same); (case hv_ => exact rfl)) | ((with_reducible refine' nw_Socket_peer ?ho_ ?hv_ ?_); (case ho_ => first | assumption | exact upd_same); (case hv_ => exact rfl)) | ((with_reducible refine' nw_Socket_peer_port ?ho_ ?hv_ ?_); (case ho_ => first | assumption | exact upd_same); (case hv_ => exact rfl)) | ((with_reducible refine' nw_Socket_peer_count ?ho_ ?hv_ ?_); (case ho_ => first | assumption | exact upd_same); (case hv_ => exact rfl)) | ((with_reducible refine' nw_Socket_peer_first ?ho_ ?hv_ ?_); (case ho_ => first | assumption | exact upd_same); (case hv_ => exact rfl)) | ((with_reducible refine' nw_Socket_peer_shift ?ho_ ?hv_ ?_); (case ho_ => first | assumption | exact upd_same); (case hv_ => exact rfl)) | ((with_reducible refine' nw_Socket_listened ?ho_ ?hv_ ?_); (case ho_ => first | assumption | exact upd_same); (case hv_ => exact rfl)) | ((with_reducible refine' nw_Socket_accepted ?ho_ ?hv_ ?_); (case ho_ => first | assumption | exact upd_same); (case hv_ => exact rfl)) | ((with_reducible refine' nw_Socket_endpoint ?ho_ ?hv_ ?_); (case ho_ => first | assumption | exact upd_same); (case hv_ => exact rfl)) | ((with_reducible refine' st_Socket_count ?ho_ ?hv_ ?_); (case ho_ => first | assumption | exact upd_same); (case hv_ => exact Nat.le_of_ble_eq_true rfl)) | ((with_reducible refine' st_Socket_port ?ho_ ?hv_ ?_); (case ho_ => first | assumption | exact upd_same); (case hv_ => exact Nat.le_of_ble_eq_true rfl)) | ((with_reducible refine' st_Socket_peer ?ho_ ?hv_ ?_); (case ho_ => first | assumption | exact upd_same); (case hv_ => exact Nat.le_of_ble_eq_true rfl)) | ((with_reducible refine' st_Socket_peer_port ?ho_ ?hv_ ?_); (case ho_ => first | assumption | exact upd_same); (case hv_ => exact Nat.le_of_ble_eq_true rfl)) | ((with_reducible refine' st_Socket_peer_count ?ho_ ?hv_ ?_); (case ho_ => first | assumption | exact upd_same); (case hv_ => exact Nat.le_of_ble_eq_true rfl)) | ((with_reducible refine' st_Socket_peer_first ?ho_ ?hv_ ?_); (case ho_ => first | assumption | exact upd_same); (case hv_ => exact Nat.le_of_ble_eq_true rfl)) | ((with_reducible refine' st_Socket_peer_shift ?ho_ ?hv_ ?_); (case ho_ => first | assumption | exact upd_same); (case hv_ => exact Nat.le_of_ble_eq_true rfl)) | ((with_reducible refine' st_Socket_listened ?ho_ ?hv_ ?_); (case ho_ => first | assumption | exact upd_same); (case hv_ => exact Nat.le_of_ble_eq_true rfl)) | ((with_reducible refine' st_Socket_accepted ?ho_ ?hv_ ?_); (case ho_ => first | assumption | exact upd_same); (case hv_ => exact Nat.le_of_ble_eq_true rfl)) | ((with_reducible refine' st_Socket_endpoint ?ho_ ?hv_ ?_); (case ho_ => first | assumption | exact upd_same); (case hv_ => exact Nat.le_of_ble_eq_true rfl)) | ((with_reducible refine' me_Socket_is_for ?ho_ ?_); (case ho_ => first | assumption | exact upd_same)) | ((with_reducible refine' me_Socket_learn ?ho_ ?_); (case ho_ => first | assumption | exact upd_same)))
local macro_rules | `(tactic| walk_at "use") => `(tactic| first | ((with_reducible refine' fd_Reno_cwnd ?ho_ ?hv_ ?_); (case ho_ => first | assumption | exact upd_same); (case hv_ => exact rfl)) | ((with_reducible refine' fd_Reno_thresh ?ho_ ?hv_ ?_); (case ho_ => first | assumption | exact upd_same); (case hv_ => exact rfl)) | ((with_reducible refine' fd_Reno_peak ?ho_ ?hv_ ?_); (case ho_ => first | assumption | exact upd_same); (case hv_ => exact rfl)) | ((with_reducible refine' fd_Reno_prior ?ho_ ?hv_ ?_); (case ho_ => first | assumption | exact upd_same); (case hv_ => exact rfl)) | ((with_reducible refine' fd_Reno_calm ?ho_ ?hv_ ?_); (case ho_ => first | assumption | exact upd_same); (case hv_ => exact rfl)) | ((with_reducible refine' fd_Reno_credit ?ho_ ?hv_ ?_); (case ho_ => first | assumption | exact upd_same); (case hv_ => exact rfl)) | ((with_reducible refine' nw_Reno_cwnd ?ho_ ?hv_ ?_); (case ho_ => first | assumption | exact upd_same); (case hv_ => exact rfl)) | ((with_reducible refine' nw_Reno_thresh ?ho_ ?hv_ ?_); (case ho_ => first | assumption | exact upd_same); (case hv_ => exact rfl)) | ((with_reducible refine' nw_Reno_peak ?ho_ ?hv_ ?_); (case ho_ => first | assumption | exact upd_same); (case hv_ => exact rfl)) | ((with_reducible refine' nw_Reno_prior ?ho_ ?hv_ ?_); (case ho_ => first | assumption | exact upd_same); (case hv_ => exact rfl)) | ((with_reducible refine' nw_Reno_calm ?ho_ ?hv_ ?_); (case ho_ => first | assumption | exact upd_same); (case hv_ => exact rfl)) | ((with_reducible refine' nw_Reno_credit ?ho_ ?hv_ ?_); (case ho_ => first | assumption | exact upd_same); (case hv_ => exact rfl)) | ((with_reducible refine' st_Reno_cwnd ?ho_ ?hv_ ?_); (case ho_ => first | assumption | exact upd_same); (case hv_ => exact Nat.le_of_ble_eq_true rfl)) | ((with_reducible refine' st_Reno_thresh ?ho_ ?hv_ ?_); (case ho_ => first | assumption | exact upd_same); (case hv_ => exact Nat.le_of_ble_eq_true rfl)) | ((with_reducible refine' st_Reno_peak ?ho_ ?hv_ ?_); (case ho_ => first | assumption | exact upd_same); (case hv_ => exact Nat.le_of_ble_eq_true rfl)) | ((with_reducible refine' st_Reno_prior ?ho_ ?hv_ ?_); (case ho_ => first | assumption | exact upd_same); (case hv_ => exact Nat.le_of_ble_eq_true rfl)) | ((with_reducible refine' st_Reno_calm ?ho_ ?hv_ ?_); (case ho_ => first | assumption | exact upd_same); (case hv_ => exact Nat.le_of_ble_eq_true rfl)) | ((with_reducible refine' st_Reno_credit ?ho_ ?hv_ ?_); (case ho_ => first | assumption | exact upd_same); (case hv_ => exact Nat.le_of_ble_eq_true rfl)) | ((with_reducible refine' me_Reno_bounded ?ho_ ?_); (case ho_ => first | assumption | exact upd_same)))
local macro_rules | `(tactic| walk_at "use") => `(tactic| first | ((with_reducible refine' fd_RoundTrip_least ?ho_ ?hv_ ?_); (case ho_ => first | assumption | exact upd_same); (case hv_ => exact rfl)) | ((with_reducible refine' fd_RoundTrip_most ?ho_ ?hv_ ?_); (case ho_ => first | assumption | exact upd_same); (case hv_ => exact rfl)) | ((with_reducible refine' fd_RoundTrip_srtt ?ho_ ?hv_ ?_); (case ho_ => first | assumption | exact upd_same); (case hv_ => exact rfl)) | ((with_reducible refine' fd_RoundTrip_variance ?ho_ ?hv_ ?_); (case ho_ => first | assumption | exact upd_same); (case hv_ => exact rfl)) | ((with_reducible refine' fd_RoundTrip_rto ?ho_ ?hv_ ?_); (case ho_ => first | assumption | exact upd_same); (case hv_ => exact rfl)) | ((with_reducible refine' fd_RoundTrip_measured ?ho_ ?hv_ ?_); (case ho_ => first | assumption | exact upd_same); (case hv_ => exact rfl)) | ((with_reducible refine' nw_RoundTrip_least ?ho_ ?hv_ ?_); (case ho_ => first | assumption | exact upd_same); (case hv_ => exact rfl)) | ((with_reducible refine' nw_RoundTrip_most ?ho_ ?hv_ ?_); (case ho_ => first | assumption | exact upd_same); (case hv_ => exact rfl)) | ((with_reducible refine' nw_RoundTrip_srtt ?ho_ ?hv_ ?_); (case ho_ => first | assumption | exact upd_same); (case hv_ => exact rfl)) | ((with_reducible refine' nw_RoundTrip_variance ?ho_ ?hv_ ?_); (case ho_ => first | assumption | exact upd_same); (case hv_ => exact rfl)) | ((with_reducible refine' nw_RoundTrip_rto ?ho_ ?hv_ ?_); (case ho_ => first | assumption | exact upd_same); (case hv_ => exact rfl)) | ((with_reducible refine' nw_RoundTrip_measured ?ho_ ?hv_ ?_); (case ho_ => first | assumption | exact upd_same); (case hv_ => exact rfl)) | ((with_reducible refine' st_RoundTrip_least ?ho_ ?hv_ ?_); (case ho_ => first | assumption | exact upd_same); (case hv_ => exact Nat.le_of_ble_eq_true rfl)) | ((with_reducible refine' st_RoundTrip_most ?ho_ ?hv_ ?_); (case ho_ => first | assumption | exact upd_same); (case hv_ => exact Nat.le_of_ble_eq_true rfl)) | ((with_reducible refine' st_RoundTrip_srtt ?ho_ ?hv_ ?_); (case ho_ => first | assumption | exact upd_same); (case hv_ => exact Nat.le_of_ble_eq_true rfl)) | ((with_reducible refine' st_RoundTrip_variance ?ho_ ?hv_ ?_); (case ho_ => first | assumption | exact upd_same); (case hv_ => exact Nat.le_of_ble_eq_true rfl)) | ((with_reducible refine' st_RoundTrip_rto ?ho_ ?hv_ ?_); (case ho_ => first | assumption | exact upd_same); (case hv_ => exact Nat.le_of_ble_eq_true rfl)) | ((with_reducible refine' st_RoundTrip_measured ?ho_ ?hv_ ?_); (case ho_ => first | assumption | exact upd_same); (case hv_ => exact Nat.le_of_ble_eq_true rfl)) | ((with_reducible refine' me_RoundTrip_within_bounds ?ho_ ?_); (case ho_ => first | assumption | exact upd_same)))
local macro_rules | `(tactic| walk_at "use") => `(tactic| first | ((with_reducible refine' fd_OffsetSet__ranges ?ho_ ?hv_ ?_); (case ho_ => first | assumption | exact upd_same); (case hv_ => exact rfl)) | ((with_reducible refine' nw_OffsetSet__ranges ?ho_ ?hv_ ?_); (case ho_ => first | assumption | exact upd_same); (case hv_ => exact rfl)) | ((with_reducible refine' st_OffsetSet__ranges ?ho_ ?hv_ ?_); (case ho_ => first | assumption | exact upd_same); (case hv_ => exact Nat.le_of_ble_eq_true rfl)))
local macro_rules | `(tactic| walk_at "use") => `(tactic| first | ((with_reducible refine' fd_Receiver_room ?ho_ ?hv_ ?_); (case ho_ => first | assumption | exact upd_same); (case hv_ => exact rfl)) | ((with_reducible refine' fd_Receiver_nxt ?ho_ ?hv_ ?_); (case ho_ => first | assumption | exact upd_same); (case hv_ => exact rfl)) | ((with_reducible refine' fd_Receiver_edge ?ho_ ?hv_ ?_); (case ho_ => first | assumption | exact upd_same); (case hv_ => exact rfl)) | ((with_reducible refine' fd_Receiver_end ?ho_ ?hv_ ?_); (case ho_ => first | assumption | exact upd_same); (case hv_ => exact rfl)) | ((with_reducible refine' fd_Receiver_recent ?ho_ ?hv_ ?_); (case ho_ => first | assumption | exact upd_same); (case hv_ => exact rfl)) | ((with_reducible refine' fd_Receiver__ready ?ho_ ?hv_ ?_); (case ho_ => first | assumption | exact upd_same); (case hv_ => exact rfl)) | ((with_reducible refine' fd_Receiver__held ?ho_ ?hv_ ?_); (case ho_ => first | assumption | exact upd_same); (case hv_ => exact rfl)) | ((with_reducible refine' fd_Receiver__held_offsets ?ho_ ?hv_ ?_); (case ho_ => first | assumption | exact upd_same); (case hv_ => exact rfl)) | ((with_reducible refine' nw_Receiver_room ?ho_ ?hv_ ?_); (case ho_ => first | assumption | exact upd_same); (case hv_ => exact rfl)) | ((with_reducible refine' nw_Receiver_nxt ?ho_ ?hv_ ?_); (case ho_ => first | assumption | exact upd_same); (case hv_ => exact rfl)) | ((with_reducible refine' nw_Receiver_edge ?ho_ ?hv_ ?_); (case ho_ => first | assumption | exact upd_same); (case hv_ => exact rfl)) | ((with_reducible refine' nw_Receiver_end ?ho_ ?hv_ ?_); (case ho_ => first | assumption | exact upd_same); (case hv_ => exact rfl)) | ((with_reducible refine' nw_Receiver_recent ?ho_ ?hv_ ?_); (case ho_ => first | assumption | exact upd_same); (case hv_ => exact rfl)) | ((with_reducible refine' nw_Receiver__ready ?ho_ ?hv_ ?_); (case ho_ => first | assumption | exact upd_same); (case hv_ => exact rfl)) | ((with_reducible refine' nw_Receiver__held ?ho_ ?hv_ ?_); (case ho_ => first | assumption | exact upd_same); (case hv_ => exact rfl)) | ((with_reducible refine' nw_Receiver__held_offsets ?ho_ ?hv_ ?_); (case ho_ => first | assumption | exact upd_same); (case hv_ => exact rfl)) | ((with_reducible refine' st_Receiver_room ?ho_ ?hv_ ?_); (case ho_ => first | assumption | exact upd_same); (case hv_ => exact Nat.le_of_ble_eq_true rfl)) | ((with_reducible refine' st_Receiver_nxt ?ho_ ?hv_ ?_); (case ho_ => first | assumption | exact upd_same); (case hv_ => exact Nat.le_of_ble_eq_true rfl)) | ((with_reducible refine' st_Receiver_edge ?ho_ ?hv_ ?_); (case ho_ => first | assumption | exact upd_same); (case hv_ => exact Nat.le_of_ble_eq_true rfl)) | ((with_reducible refine' st_Receiver_end ?ho_ ?hv_ ?_); (case ho_ => first | assumption | exact upd_same); (case hv_ => exact Nat.le_of_ble_eq_true rfl)) | ((with_reducible refine' st_Receiver_recent ?ho_ ?hv_ ?_); (case ho_ => first | assumption | exact upd_same); (case hv_ => exact Nat.le_of_ble_eq_true rfl)) | ((with_reducible refine' st_Receiver__ready ?ho_ ?hv_ ?_); (case ho_ => first | assumption | exact upd_same); (case hv_ => exact Nat.le_of_ble_eq_true rfl)) | ((with_reducible refine' st_Receiver__held ?ho_ ?hv_ ?_); (case ho_ => first | assumption | exact upd_same); (case hv_ => exact Nat.le_of_ble_eq_true rfl)) | ((with_reducible refine' st_Receiver__held_offsets ?ho_ ?hv_ ?_); (case ho_ => first | assumption | exact upd_same); (case hv_ => exact Nat.le_of_ble_eq_true rfl)))
local macro_rules | `(tactic| walk_at "use") => `(tactic| first | ((with_reducible refine' fd_Sender_room ?ho_ ?hv_ ?_); (case ho_ => first | assumption | exact upd_same); (case hv_ => exact rfl)) | ((with_reducible refine' fd_Sender_una ?ho_ ?hv_ ?_); (case ho_ => first | assumption | exact upd_same); (case hv_ => exact rfl)) | ((with_reducible refine' fd_Sender_nxt ?ho_ ?hv_ ?_); (case ho_ => first | assumption | exact upd_same); (case hv_ => exact rfl)) | ((with_reducible refine' fd_Sender_written ?ho_ ?hv_ ?_); (case ho_ => first | assumption | exact upd_same); (case hv_ => exact rfl)) | ((with_reducible refine' fd_Sender_finished ?ho_ ?hv_ ?_); (case ho_ => first | assumption | exact upd_same); (case hv_ => exact rfl)) | ((with_reducible refine' fd_Sender_edge ?ho_ ?hv_ ?_); (case ho_ => first | assumption | exact upd_same); (case hv_ => exact rfl)) | ((with_reducible refine' fd_Sender_recovery ?ho_ ?hv_ ?_); (case ho_ => first | assumption | exact upd_same); (case hv_ => exact rfl)) | ((with_reducible refine' fd_Sender_resend ?ho_ ?hv_ ?_); (case ho_ => first | assumption | exact upd_same); (case hv_ => exact rfl)) | ((with_reducible refine' fd_Sender_lost ?ho_ ?hv_ ?_); (case ho_ => first | assumption | exact upd_same); (case hv_ => exact rfl)) | ((with_reducible refine' fd_Sender_repeated ?ho_ ?hv_ ?_); (case ho_ => first | assumption | exact upd_same); (case hv_ => exact rfl)) | ((with_reducible refine' fd_Sender__queue ?ho_ ?hv_ ?_); (case ho_ => first | assumption | exact upd_same); (case hv_ => exact rfl)) | ((with_reducible refine' fd_Sender__sacked ?ho_ ?hv_ ?_); (case ho_ => first | assumption | exact upd_same); (case hv_ => exact rfl)) | ((with_reducible refine' nw_Sender_room ?ho_ ?hv_ ?_); (case ho_ => first | assumption | exact upd_same); (case hv_ => exact rfl)) | ((with_reducible refine' nw_Sender_una ?ho_ ?hv_ ?_); (case ho_ => first | assumption | exact upd_same); (case hv_ => exact rfl)) | ((with_reducible refine' nw_Sender_nxt ?ho_ ?hv_ ?_); (case ho_ => first | assumption | exact upd_same); (case hv_ => exact rfl)) | ((with_reducible refine' nw_Sender_written ?ho_ ?hv_ ?_); (case ho_ => first | assumption | exact upd_same); (case hv_ => exact rfl)) | ((with_reducible refine' nw_Sender_finished ?ho_ ?hv_ ?_); (case ho_ => first | assumption | exact upd_same); (case hv_ => exact rfl)) | ((with_reducible refine' nw_Sender_edge ?ho_ ?hv_ ?_); (case ho_ => first | assumption | exact upd_same); (case hv_ => exact rfl)) | ((with_reducible refine' nw_Sender_recovery ?ho_ ?hv_ ?_); (case ho_ => first | assumption | exact upd_same); (case hv_ => exact rfl)) | ((with_reducible refine' nw_Sender_resend ?ho_ ?hv_ ?_); (case ho_ => first | assumption | exact upd_same); (case hv_ => exact rfl)) | ((with_reducible refine' nw_Sender_lost ?ho_ ?hv_ ?_); (case ho_ => first | assumption | exact upd_same); (case hv_ => exact rfl)) | ((with_reducible refine' nw_Sender_repeated ?ho_ ?hv_ ?_); (case ho_ => first | assumption | exact upd_same); (case hv_ => exact rfl)) | ((with_reducible refine' nw_Sender__queue ?ho_ ?hv_ ?_); (case ho_ => first | assumption | exact upd_same); (case hv_ => exact rfl)) | ((with_reducible refine' nw_Sender__sacked ?ho_ ?hv_ ?_); (case ho_ => first | assumption | exact upd_same); (case hv_ => exact rfl)) | ((with_reducible refine' st_Sender_room ?ho_ ?hv_ ?_); (case ho_ => first | assumption | exact upd_same); (case hv_ => exact Nat.le_of_ble_eq_true rfl)) | ((with_reducible refine' st_Sender_una ?ho_ ?hv_ ?_); (case ho_ => first | assumption | exact upd_same); (case hv_ => exact Nat.le_of_ble_eq_true rfl)) | ((with_reducible refine' st_Sender_nxt ?ho_ ?hv_ ?_); (case ho_ => first | assumption | exact upd_same); (case hv_ => exact Nat.le_of_ble_eq_true rfl)) | ((with_reducible refine' st_Sender_written ?ho_ ?hv_ ?_); (case ho_ => first | assumption | exact upd_same); (case hv_ => exact Nat.le_of_ble_eq_true rfl)) | ((with_reducible refine' st_Sender_finished ?ho_ ?hv_ ?_); (case ho_ => first | assumption | exact upd_same); (case hv_ => exact Nat.le_of_ble_eq_true rfl)) | ((with_reducible refine' st_Sender_edge ?ho_ ?hv_ ?_); (case ho_ => first | assumption | exact upd_same); (case hv_ => exact Nat.le_of_ble_eq_true rfl)) | ((with_reducible refine' st_Sender_recovery ?ho_ ?hv_ ?_); (case ho_ => first | assumption | exact upd_same); (case hv_ => exact Nat.le_of_ble_eq_true rfl)) | ((with_reducible refine' st_Sender_resend ?ho_ ?hv_ ?_); (case ho_ => first | assumption | exact upd_same); (case hv_ => exact Nat.le_of_ble_eq_true rfl)) | ((with_reducible refine' st_Sender_lost ?ho_ ?hv_ ?_); (case ho_ => first | assumption | exact upd_same); (case hv_ => exact Nat.le_of_ble_eq_true rfl)) | ((with_reducible refine' st_Sender_repeated ?ho_ ?hv_ ?_); (case ho_ => first | assumption | exact upd_same); (case hv_ => exact Nat.le_of_ble_eq_true rfl)) | ((with_reducible refine' st_Sender__queue ?ho_ ?hv_ ?_); (case ho_ => first | assumption | exact upd_same); (case hv_ => exact Nat.le_of_ble_eq_true rfl)) | ((with_reducible refine' st_Sender__sacked ?ho_ ?hv_ ?_); (case ho_ => first | assumption | exact upd_same); (case hv_ => exact Nat.le_of_ble_eq_true rfl)))
local macro_rules | `(tactic| walk_at "use") => `(tactic| first | ((with_reducible refine' fd_Endpoint_options ?ho_ ?hv_ ?_); (case ho_ => first | assumption | exact upd_same); (case hv_ => exact rfl)) | ((with_reducible refine' fd_Endpoint_sender ?ho_ ?hv_ ?_); (case ho_ => first | assumption | exact upd_same); (case hv_ => exact rfl)) | ((with_reducible refine' fd_Endpoint_receiver ?ho_ ?hv_ ?_); (case ho_ => first | assumption | exact upd_same); (case hv_ => exact rfl)) | ((with_reducible refine' fd_Endpoint_trip ?ho_ ?hv_ ?_); (case ho_ => first | assumption | exact upd_same); (case hv_ => exact rfl)) | ((with_reducible refine' fd_Endpoint_control ?ho_ ?hv_ ?_); (case ho_ => first | assumption | exact upd_same); (case hv_ => exact rfl)) | ((with_reducible refine' fd_Endpoint_phase ?ho_ ?hv_ ?_); (case ho_ => first | assumption | exact upd_same); (case hv_ => exact rfl)) | ((with_reducible refine' fd_Endpoint_cause ?ho_ ?hv_ ?_); (case ho_ => first | assumption | exact upd_same); (case hv_ => exact rfl)) | ((with_reducible refine' fd_Endpoint_mss ?ho_ ?hv_ ?_); (case ho_ => first | assumption | exact upd_same); (case hv_ => exact rfl)) | ((with_reducible refine' fd_Endpoint_selective ?ho_ ?hv_ ?_); (case ho_ => first | assumption | exact upd_same); (case hv_ => exact rfl)) | ((with_reducible refine' fd_Endpoint_alarm ?ho_ ?hv_ ?_); (case ho_ => first | assumption | exact upd_same); (case hv_ => exact rfl)) | ((with_reducible refine' fd_Endpoint_since ?ho_ ?hv_ ?_); (case ho_ => first | assumption | exact upd_same); (case hv_ => exact rfl)) | ((with_reducible refine' fd_Endpoint_ack_at ?ho_ ?hv_ ?_); (case ho_ => first | assumption | exact upd_same); (case hv_ => exact rfl)) | ((with_reducible refine' fd_Endpoint_late ?ho_ ?hv_ ?_); (case ho_ => first | assumption | exact upd_same); (case hv_ => exact rfl)) | ((with_reducible refine' fd_Endpoint_asked ?ho_ ?hv_ ?_); (case ho_ => first | assumption | exact upd_same); (case hv_ => exact rfl)) | ((with_reducible refine' fd_Endpoint_again ?ho_ ?hv_ ?_); (case ho_ => first | assumption | exact upd_same); (case hv_ => exact rfl)) | ((with_reducible refine' fd_Endpoint_probe ?ho_ ?hv_ ?_); (case ho_ => first | assumption | exact upd_same); (case hv_ => exact rfl)) | ((with_reducible refine' fd_Endpoint_over ?ho_ ?hv_ ?_); (case ho_ => first | assumption | exact upd_same); (case hv_ => exact rfl)) | ((with_reducible refine' fd_Endpoint_rest ?ho_ ?hv_ ?_); (case ho_ => first | assumption | exact upd_same); (case hv_ => exact rfl)) | ((with_reducible refine' fd_Endpoint_spent_at ?ho_ ?hv_ ?_); (case ho_ => first | assumption | exact upd_same); (case hv_ => exact rfl)) | ((with_reducible refine' fd_Endpoint_spent ?ho_ ?hv_ ?_); (case ho_ => first | assumption | exact upd_same); (case hv_ => exact rfl)) | ((with_reducible refine' fd_Endpoint_stamp ?ho_ ?hv_ ?_); (case ho_ => first | assumption | exact upd_same); (case hv_ => exact rfl)) | ((with_reducible refine' fd_Endpoint_marked ?ho_ ?hv_ ?_); (case ho_ => first | assumption | exact upd_same); (case hv_ => exact rfl)) | ((with_reducible refine' fd_Endpoint_cut ?ho_ ?hv_ ?_); (case ho_ => first | assumption | exact upd_same); (case hv_ => exact rfl)) | ((with_reducible refine' nw_Endpoint_options ?ho_ ?hv_ ?_); (case ho_ => first | assumption | exact upd_same); (case hv_ => exact rfl)) | ((with_reducible refine' nw_Endpoint_sender ?ho_ ?hv_ ?_); (case ho_ => first | assumption | exact upd_same); (case hv_ => exact rfl)) | ((with_reducible refine' nw_Endpoint_receiver ?ho_ ?hv_ ?_); (case ho_ => first | assumption | exact upd_same); (case hv_ => exact rfl)) | ((with_reducible refine' nw_Endpoint_trip ?ho_ ?hv_ ?_); (case ho_ => first | assumption | exact upd_same); (case hv_ => exact rfl)) | ((with_reducible refine' nw_Endpoint_control ?ho_ ?hv_ ?_); (case ho_ => first | assumption | exact upd_same); (case hv_ => exact rfl)) | ((with_reducible refine' nw_Endpoint_phase ?ho_ ?hv_ ?_); (case ho_ => first | assumption | exact upd_same); (case hv_ => exact rfl)) | ((with_reducible refine' nw_Endpoint_cause ?ho_ ?hv_ ?_); (case ho_ => first | assumption | exact upd_same); (case hv_ => exact rfl)) | ((with_reducible refine' nw_Endpoint_mss ?ho_ ?hv_ ?_); (case ho_ => first | assumption | exact upd_same); (case hv_ => exact rfl)) | ((with_reducible refine' nw_Endpoint_selective ?ho_ ?hv_ ?_); (case ho_ => first | assumption | exact upd_same); (case hv_ => exact rfl)) | ((with_reducible refine' nw_Endpoint_alarm ?ho_ ?hv_ ?_); (case ho_ => first | assumption | exact upd_same); (case hv_ => exact rfl)) | ((with_reducible refine' nw_Endpoint_since ?ho_ ?hv_ ?_); (case ho_ => first | assumption | exact upd_same); (case hv_ => exact rfl)) | ((with_reducible refine' nw_Endpoint_ack_at ?ho_ ?hv_ ?_); (case ho_ => first | assumption | exact upd_same); (case hv_ => exact rfl)) | ((with_reducible refine' nw_Endpoint_late ?ho_ ?hv_ ?_); (case ho_ => first | assumption | exact upd_same); (case hv_ => exact rfl)) | ((with_reducible refine' nw_Endpoint_asked ?ho_ ?hv_ ?_); (case ho_ => first | assumption | exact upd_same); (case hv_ => exact rfl)) | ((with_reducible refine' nw_Endpoint_again ?ho_ ?hv_ ?_); (case ho_ => first | assumption | exact upd_same); (case hv_ => exact rfl)) | ((with_reducible refine' nw_Endpoint_probe ?ho_ ?hv_ ?_); (case ho_ => first | assumption | exact upd_same); (case hv_ => exact rfl)) | ((with_reducible refine' nw_Endpoint_over ?ho_ ?hv_ ?_); (case ho_ => first | assumption | exact upd_same); (case hv_ => exact rfl)) | ((with_reducible refine' nw_Endpoint_rest ?ho_ ?hv_ ?_); (case ho_ => first | assumption | exact upd_same); (case hv_ => exact rfl)) | ((with_reducible refine' nw_Endpoint_spent_at ?ho_ ?hv_ ?_); (case ho_ => first | assumption | exact upd_same); (case hv_ => exact rfl)) | ((with_reducible refine' nw_Endpoint_spent ?ho_ ?hv_ ?_); (case ho_ => first | assumption | exact upd_same); (case hv_ => exact rfl)) | ((with_reducible refine' nw_Endpoint_stamp ?ho_ ?hv_ ?_); (case ho_ => first | assumption | exact upd_same); (case hv_ => exact rfl)) | ((with_reducible refine' nw_Endpoint_marked ?ho_ ?hv_ ?_); (case ho_ => first | assumption | exact upd_same); (case hv_ => exact rfl)) | ((with_reducible refine' nw_Endpoint_cut ?ho_ ?hv_ ?_); (case ho_ => first | assumption | exact upd_same); (case hv_ => exact rfl)) | ((with_reducible refine' st_Endpoint_options ?ho_ ?hv_ ?_); (case ho_ => first | assumption | exact upd_same); (case hv_ => exact Nat.le_of_ble_eq_true rfl)) | ((with_reducible refine' st_Endpoint_sender ?ho_ ?hv_ ?_); (case ho_ => first | assumption | exact upd_same); (case hv_ => exact Nat.le_of_ble_eq_true rfl)) | ((with_reducible refine' st_Endpoint_receiver ?ho_ ?hv_ ?_); (case ho_ => first | assumption | exact upd_same); (case hv_ => exact Nat.le_of_ble_eq_true rfl)) | ((with_reducible refine' st_Endpoint_trip ?ho_ ?hv_ ?_); (case ho_ => first | assumption | exact upd_same); (case hv_ => exact Nat.le_of_ble_eq_true rfl)) | ((with_reducible refine' st_Endpoint_control ?ho_ ?hv_ ?_); (case ho_ => first | assumption | exact upd_same); (case hv_ => exact Nat.le_of_ble_eq_true rfl)) | ((with_reducible refine' st_Endpoint_phase ?ho_ ?hv_ ?_); (case ho_ => first | assumption | exact upd_same); (case hv_ => exact Nat.le_of_ble_eq_true rfl)) | ((with_reducible refine' st_Endpoint_cause ?ho_ ?hv_ ?_); (case ho_ => first | assumption | exact upd_same); (case hv_ => exact Nat.le_of_ble_eq_true rfl)) | ((with_reducible refine' st_Endpoint_mss ?ho_ ?hv_ ?_); (case ho_ => first | assumption | exact upd_same); (case hv_ => exact Nat.le_of_ble_eq_true rfl)) | ((with_reducible refine' st_Endpoint_selective ?ho_ ?hv_ ?_); (case ho_ => first | assumption | exact upd_same); (case hv_ => exact Nat.le_of_ble_eq_true rfl)) | ((with_reducible refine' st_Endpoint_alarm ?ho_ ?hv_ ?_); (case ho_ => first | assumption | exact upd_same); (case hv_ => exact Nat.le_of_ble_eq_true rfl)) | ((with_reducible refine' st_Endpoint_since ?ho_ ?hv_ ?_); (case ho_ => first | assumption | exact upd_same); (case hv_ => exact Nat.le_of_ble_eq_true rfl)) | ((with_reducible refine' st_Endpoint_ack_at ?ho_ ?hv_ ?_); (case ho_ => first | assumption | exact upd_same); (case hv_ => exact Nat.le_of_ble_eq_true rfl)) | ((with_reducible refine' st_Endpoint_late ?ho_ ?hv_ ?_); (case ho_ => first | assumption | exact upd_same); (case hv_ => exact Nat.le_of_ble_eq_true rfl)) | ((with_reducible refine' st_Endpoint_asked ?ho_ ?hv_ ?_); (case ho_ => first | assumption | exact upd_same); (case hv_ => exact Nat.le_of_ble_eq_true rfl)) | ((with_reducible refine' st_Endpoint_again ?ho_ ?hv_ ?_); (case ho_ => first | assumption | exact upd_same); (case hv_ => exact Nat.le_of_ble_eq_true rfl)) | ((with_reducible refine' st_Endpoint_probe ?ho_ ?hv_ ?_); (case ho_ => first | assumption | exact upd_same); (case hv_ => exact Nat.le_of_ble_eq_true rfl)) | ((with_reducible refine' st_Endpoint_over ?ho_ ?hv_ ?_); (case ho_ => first | assumption | exact upd_same); (case hv_ => exact Nat.le_of_ble_eq_true rfl)) | ((with_reducible refine' st_Endpoint_rest ?ho_ ?hv_ ?_); (case ho_ => first | assumption | exact upd_same); (case hv_ => exact Nat.le_of_ble_eq_true rfl)) | ((with_reducible refine' st_Endpoint_spent_at ?ho_ ?hv_ ?_); (case ho_ => first | assumption | exact upd_same); (case hv_ => exact Nat.le_of_ble_eq_true rfl)) | ((with_reducible refine' st_Endpoint_spent ?ho_ ?hv_ ?_); (case ho_ => first | assumption | exact upd_same); (case hv_ => exact Nat.le_of_ble_eq_true rfl)) | ((with_reducible refine' st_Endpoint_stamp ?ho_ ?hv_ ?_); (case ho_ => first | assumption | exact upd_same); (case hv_ => exact Nat.le_of_ble_eq_true rfl)) | ((with_reducible refine' st_Endpoint_marked ?ho_ ?hv_ ?_); (case ho_ => first | assumption | exact upd_same); (case hv_ => exact Nat.le_of_ble_eq_true rfl)) | ((with_reducible refine' st_Endpoint_cut ?ho_ ?hv_ ?_); (case ho_ => first | assumption | exact upd_same); (case hv_ => exact Nat.le_of_ble_eq_true rfl)) | ((with_reducible refine' me_Endpoint_abort ?ho_ ?_); (case ho_ => first | assumption | exact upd_same)) | ((with_reducible refine' me_Endpoint_end ?ho_ ?_); (case ho_ => first | assumption | exact upd_same)))
local macro_rules | `(tactic| walk_at "use") => `(tactic| first | ((with_reducible refine' fd_Options_mss ?ho_ ?hv_ ?_); (case ho_ => first | assumption | exact upd_same); (case hv_ => exact rfl)) | ((with_reducible refine' fd_Options_room ?ho_ ?hv_ ?_); (case ho_ => first | assumption | exact upd_same); (case hv_ => exact rfl)) | ((with_reducible refine' fd_Options_life ?ho_ ?hv_ ?_); (case ho_ => first | assumption | exact upd_same); (case hv_ => exact rfl)) | ((with_reducible refine' fd_Options_pace ?ho_ ?hv_ ?_); (case ho_ => first | assumption | exact upd_same); (case hv_ => exact rfl)) | ((with_reducible refine' fd_Options_tries ?ho_ ?hv_ ?_); (case ho_ => first | assumption | exact upd_same); (case hv_ => exact rfl)) | ((with_reducible refine' fd_Options_min_rto ?ho_ ?hv_ ?_); (case ho_ => first | assumption | exact upd_same); (case hv_ => exact rfl)) | ((with_reducible refine' fd_Options_max_rto ?ho_ ?hv_ ?_); (case ho_ => first | assumption | exact upd_same); (case hv_ => exact rfl)) | ((with_reducible refine' fd_Options_ack_delay ?ho_ ?hv_ ?_); (case ho_ => first | assumption | exact upd_same); (case hv_ => exact rfl)) | ((with_reducible refine' fd_Options_keep_alive ?ho_ ?hv_ ?_); (case ho_ => first | assumption | exact upd_same); (case hv_ => exact rfl)) | ((with_reducible refine' fd_Options_nagle ?ho_ ?hv_ ?_); (case ho_ => first | assumption | exact upd_same); (case hv_ => exact rfl)) | ((with_reducible refine' fd_Options_control ?ho_ ?hv_ ?_); (case ho_ => first | assumption | exact upd_same); (case hv_ => exact rfl)) | ((with_reducible refine' nw_Options_mss ?ho_ ?hv_ ?_); (case ho_ => first | assumption | exact upd_same); (case hv_ => exact rfl)) | ((with_reducible refine' nw_Options_room ?ho_ ?hv_ ?_); (case ho_ => first | assumption | exact upd_same); (case hv_ => exact rfl)) | ((with_reducible refine' nw_Options_life ?ho_ ?hv_ ?_); (case ho_ => first | assumption | exact upd_same); (case hv_ => exact rfl)) | ((with_reducible refine' nw_Options_pace ?ho_ ?hv_ ?_); (case ho_ => first | assumption | exact upd_same); (case hv_ => exact rfl)) | ((with_reducible refine' nw_Options_tries ?ho_ ?hv_ ?_); (case ho_ => first | assumption | exact upd_same); (case hv_ => exact rfl)) | ((with_reducible refine' nw_Options_min_rto ?ho_ ?hv_ ?_); (case ho_ => first | assumption | exact upd_same); (case hv_ => exact rfl)) | ((with_reducible refine' nw_Options_max_rto ?ho_ ?hv_ ?_); (case ho_ => first | assumption | exact upd_same); (case hv_ => exact rfl)) | ((with_reducible refine' nw_Options_ack_delay ?ho_ ?hv_ ?_); (case ho_ => first | assumption | exact upd_same); (case hv_ => exact rfl)) | ((with_reducible refine' nw_Options_keep_alive ?ho_ ?hv_ ?_); (case ho_ => first | assumption | exact upd_same); (case hv_ => exact rfl)) | ((with_reducible refine' nw_Options_nagle ?ho_ ?hv_ ?_); (case ho_ => first | assumption | exact upd_same); (case hv_ => exact rfl)) | ((with_reducible refine' nw_Options_control ?ho_ ?hv_ ?_); (case ho_ => first | assumption | exact upd_same); (case hv_ => exact rfl)) | ((with_reducible refine' st_Options_mss ?ho_ ?hv_ ?_); (case ho_ => first | assumption | exact upd_same); (case hv_ => exact Nat.le_of_ble_eq_true rfl)) | ((with_reducible refine' st_Options_room ?ho_ ?hv_ ?_); (case ho_ => first | assumption | exact upd_same); (case hv_ => exact Nat.le_of_ble_eq_true rfl)) | ((with_reducible refine' st_Options_life ?ho_ ?hv_ ?_); (case ho_ => first | assumption | exact upd_same); (case hv_ => exact Nat.le_of_ble_eq_true rfl)) | ((with_reducible refine' st_Options_pace ?ho_ ?hv_ ?_); (case ho_ => first | assumption | exact upd_same); (case hv_ => exact Nat.le_of_ble_eq_true rfl)) | ((with_reducible refine' st_Options_tries ?ho_ ?hv_ ?_); (case ho_ => first | assumption | exact upd_same); (case hv_ => exact Nat.le_of_ble_eq_true rfl)) | ((with_reducible refine' st_Options_min_rto ?ho_ ?hv_ ?_); (case ho_ => first | assumption | exact upd_same); (case hv_ => exact Nat.le_of_ble_eq_true rfl)) | ((with_reducible refine' st_Options_max_rto ?ho_ ?hv_ ?_); (case ho_ => first | assumption | exact upd_same); (case hv_ => exact Nat.le_of_ble_eq_true rfl)) | ((with_reducible refine' st_Options_ack_delay ?ho_ ?hv_ ?_); (case ho_ => first | assumption | exact upd_same); (case hv_ => exact Nat.le_of_ble_eq_true rfl)) | ((with_reducible refine' st_Options_keep_alive ?ho_ ?hv_ ?_); (case ho_ => first | assumption | exact upd_same); (case hv_ => exact Nat.le_of_ble_eq_true rfl)) | ((with_reducible refine' st_Options_nagle ?ho_ ?hv_ ?_); (case ho_ => first | assumption | exact upd_same); (case hv_ => exact Nat.le_of_ble_eq_true rfl)) | ((with_reducible refine' st_Options_control ?ho_ ?hv_ ?_); (case ho_ => first | assumption | exact upd_same); (case hv_ => exact Nat.le_of_ble_eq_true rfl)) | ((with_reducible refine' me_Options_fork ?ho_ ?_); (case ho_ => first | assumption | exact upd_same)) | ((with_reducible refine' me_Options_wrong_names ?ho_ ?_); (case ho_ => first | assumption | exact upd_same)))
section
variable {P : Program} {w : World} {K : PySem.W.Frag} {mg : Str → Option Value} {base : Heap}
def sp_l_rows (K : PySem.W.Frag) : Sp := fun vs H Q _ => ∃ (a : Addr) (ns : List Int) (n : Int), vs = [.ref a, .int n] ∧ SqL K H a (ns.map V.int) ∧ 0 ≤ n ∧ n ≤ 1000 ∧ ∀ (p : Addr) (rs : List Int) H', (rs.length : Int) = n → H p = none → Same H H' → H' p = some (.lst (rs.map V.int)) → Q (.ref p) H'
theorem u_rows {a : Addr} {ns : List Int} {n : Int} {H Q E} (h : SqL K H a (ns.map V.int)) (h0 : 0 ≤ n) (h1 : n ≤ 1000) (q : ∀ (p : Addr) (rs : List Int) H', (rs.length : Int) = n → H p = none → Same H H' → H' p = some (.lst (rs.map V.int)) → Q (.ref p) H') : sp_l_rows K ([.ref a, .int n] ++ []) H Q E := ⟨a, ns, n, rfl, h, h0, h1, q⟩
theorem ok_l_rows (T : Txt P K mg) : FnOk P w K mg base CX0 1 T.f_l_rows T.d_l_rows ["script", "count"] (sp_l_rows K) := by
  refine T.F_l_rows.ok sc_l_rows (fun vs H Q E h => ?_) (fun cdv A outer s H vs Q E hr h => ?_)
  · obtain ⟨a, ns, n, rfl, hS, h0, h1, q⟩ := h
    rfl
  · obtain ⟨a, ns, n, rfl, hS, h0, h1, q⟩ := h
    have hu := hu_of hr
    refine ⟨_, (pss_cons (ps_set (i := 2) sc_l_rows.nd rfl (Or.inl rfl) (pe_lst pa_nil))
        (pss_cons (ps_for PassesOwn.never rfl (pi_range1 (by rfl) T.n_range (pa_cons (pv 1) pa_nil)) (pg_name (i := 3) sc_l_rows.nd rfl (Or.inl rfl)) (pss_cons (ps_set (i := 4) sc_l_rows.nd rfl (Or.inl rfl) pe_int)
        (C8.pss_cut (ps_if (pt_cmpR op_gt (pe_callB call_len_seq (by rfl) T.n_len (by decide +kernel) (pa_cons (pv 0) pa_nil)) pe_int (nomark _)) (pss_one (ps_set (i := 4) sc_l_rows.nd rfl (Or.inl rfl) (pe_callTy call_int1 (by rfl) T.n_int (by decide +kernel) (pa_cons (pe_ix ix_list (pv 0) (pe_op op_mod (pe_callTy call_int1 (by rfl) T.n_int (by decide +kernel) (pa_cons (pv 3) pa_nil)) (pe_callB call_len_seq (by rfl) T.n_len (by decide +kernel) (pa_cons (pv 0) pa_nil))) (fun _ _ => rfl)) pa_nil)))) pss_nil)
        (C8.pss_cut (ps_if (pt_cmpR op_lt (pv 4) pe_int (nomark _)) (pss_one (ps_set (i := 4) sc_l_rows.nd rfl (Or.inl rfl) (pe_op op_sub pe_int (pe_op op_mul pe_int (pv 4))))) pss_nil)
        (C8.pss_cut (ps_if (PW.pt (pw_or (pt_cmpR op_ge (pv 3) (pe_callB call_len_seq (by rfl) T.n_len (by decide +kernel) (pa_cons (pv 0) pa_nil)) (nomark _)) (pw_or1 (pt_cmpR op_lt (pv 4) pe_int (nomark _))))) (pss_cons (ps_set (i := 4) sc_l_rows.nd rfl (Or.inl rfl) (pe_op op_mod (pe_callTy call_int1 (by rfl) T.n_int (by decide +kernel) (pa_cons (pe_op op_add (pe_op op_mul (pe_op op_add (pe_op op_add (pv 4) (pe_op op_mul pe_int (pv 3))) pe_int) pe_int) (pe_op op_mul (pe_op op_mul (pv 3) (pv 3)) pe_int)) pa_nil)) pe_int))
        (pss_one (ps_set (i := 4) sc_l_rows.nd rfl (Or.inl rfl) (pe_op op_mod (pe_callTy call_int1 (by rfl) T.n_int (by decide +kernel) (pa_cons (pe_op op_mul (pe_op op_add (pe_op op_add (pv 4) (pe_op op_mul pe_int (pv 3))) pe_int) pe_int) pa_nil)) pe_int)))) pss_nil)
        (pss_one (ps_expr (pe_bm PySem.F.plainAttrs_list PySem.F.slot_list_append PySem.F.type_list_append mt_append (pv 2) (pa_cons (pv 4) pa_nil)))))))))
        (pss_one (ps_ret (pv 2))))), ?_⟩
    dsimp only [cxOf, Cx.nox, Cx.wish, L2.start, List.map, List.cons_append, List.nil_append, List.length_cons, List.length_nil, Nat.reduceAdd, Nat.reduceSub, Nat.zero_add, List.replicate_succ, List.replicate_zero]
    walk_at "go"
    refine ⟨by decide, fun p hp => ?_⟩
    walk_at "go"
    refine for_r (n := n) n.toNat rfl (by omega) (by omega) (fun i σ H' => ∃ (rs : List Int) (v3 v4 : Option V), σ = [some (.ref a), some (.int n), some (.ref p), v3, v4] ∧ rs.length = i ∧ But p H H' ∧ H' p = some (.lst (rs.map V.int)))
      ⟨[], none, none, rfl, rfl, But.refl.upd, upd_same⟩ ?turn ?done ?ev
    case ev =>
      intro R r
      walk_at "go"
      exact r
    case done =>
      rintro σ H' ⟨rs, v3, v4, rfl, hl, bu, e⟩
      walk_at "go"
      exact q p rs H' (by omega) hp (bu.same hp) e
    case turn =>
      rintro i σ H' hi ⟨rs, v3, v4, rfl, hl, bu, e⟩
      have hS1 := (bu.same hp).seq hS
      have hlen : (rs.map V.int).length < sizeLine := by
        rw [List.length_map]
        exact szl (by omega)
      walk_at "go"
      refine g_cut (fun σ' H0 => H0 = H' ∧ ∃ c : Int, σ' = [some (.ref a), some (.int n), some (.ref p), some (.int (i : Int)), some (.int c)]) ?_ ?_
      · walk_at "go"
        refine g_len (.inl hS1) ?_
        walk_at "go"
        rw [List.length_map]
        refine g_ite (fun c => ?_) (fun c => ?_)
        · walk_at "go"
          refine g_len (.inl hS1) ?_
          walk_at "go"
          rw [List.length_map]
          obtain ⟨j, ej, hj⟩ : ∃ j : Nat, (i : Int) % (ns.length : Int) = (j : Int) ∧ j < ns.length := ⟨i % ns.length, by omega, Nat.mod_lt _ (by omega)⟩
          rw [ej]
          refine g_ixL hS1 (atI_map (by omega) (by omega)) ?_
          walk_at "go"
          exact ⟨rfl, _, rfl⟩
        · walk_at "go"
          exact ⟨rfl, _, rfl⟩
      rintro σ' H0 ⟨rfl, c, rfl⟩
      walk_at "go"
      refine g_cut (fun σ' H1 => H1 = H0 ∧ ∃ c : Int, σ' = [some (.ref a), some (.int n), some (.ref p), some (.int (i : Int)), some (.int c)]) ?_ ?_
      · walk_at "go"
        refine g_ite (fun c => ?_) (fun c => ?_)
        · walk_at "go"
          exact ⟨rfl, _, rfl⟩
        · walk_at "go"
          exact ⟨rfl, _, rfl⟩
      rintro σ' H1 ⟨rfl, c1, rfl⟩
      walk_at "go"
      refine g_cut (fun σ' H2 => H2 = H1 ∧ ∃ c : Int, σ' = [some (.ref a), some (.int n), some (.ref p), some (.int (i : Int)), some (.int c)]) ?_ ?_
      · walk_at "go"
        refine g_len (.inl hS1) ?_
        walk_at "go"
        rw [List.length_map]
        refine g_ite (fun c => ?_) (fun c => ?_)
        · walk_at "go"
          exact ⟨rfl, _, rfl⟩
        · walk_at "go"
          refine g_ite (fun c => ?_) (fun c => ?_)
          · walk_at "go"
            exact ⟨rfl, _, rfl⟩
          · walk_at "go"
            exact ⟨rfl, _, rfl⟩
      rintro σ' H2 ⟨rfl, c2, rfl⟩
      walk_at "go"
      refine ⟨ty_l e, ?_⟩
      walk_at "go"
      refine g_append e hlen ?_
      walk_at "go"
      exact ⟨rs ++ [c2], _, _, rfl, by rw [List.length_append, hl]; rfl, bu.upd, by rw [upd_same, List.map_append]; rfl⟩

theorem g_rng2 {ta : TA} {σ : St} {H : Hp} {R : It → Hp → Prop} (h : ta σ H fun vs H1 => ∃ i j : Int, vs = [.int i, .int j] ∧ (-(2 ^ 62) ≤ i ∧ i < 2 ^ 62 ∧ -(2 ^ 62) ≤ j ∧ j < 2 ^ 62) ∧ R (Itr i (j - i).toNat) H1) : iRng2 ta σ H R := h
local macro_rules | `(tactic| walk_at "use") => `(tactic| with_reducible first | refine g_makeK ?_ | refine g_methN ?_)
def sp_l_pick (K : PySem.W.Frag) : Sp := fun vs H Q _ => ∃ (r a b : Int), vs = [.int r, .int a, .int b] ∧ ∀ x : Int, Q (.int x) H
theorem ok_l_pick (T : Txt P K mg) : FnOk P w K mg base CX0 1 T.f_l_pick T.d_l_pick ["row", "right", "other"] (sp_l_pick K) := by
  refine T.F_l_pick.ok sc_l_pick (fun vs H Q E h => ?_) (fun cdv A outer s H vs Q E hr h => ?_)
  · obtain ⟨r, a, b, rfl, q⟩ := h
    rfl
  · obtain ⟨r, a, b, rfl, q⟩ := h
    have hu := hu_of hr
    refine ⟨_, (pss_cons (ps_if (pt_cmpR op_lt (pe_op op_mod (pe_callTy call_int1 (by rfl) T.n_int (by decide +kernel) (pa_cons (pv 0) pa_nil)) pe_int) pe_int (nomark _)) (pss_one (ps_ret (pv 1))) pss_nil)
        (pss_one (ps_ret (pv 2)))), ?_⟩
    dsimp only [cxOf, Cx.nox, Cx.wish, L2.start, List.map, List.cons_append, List.nil_append, List.length_cons, List.length_nil, Nat.reduceAdd, Nat.reduceSub, Nat.zero_add, List.replicate_succ, List.replicate_zero]
    walk_at "go"
    refine g_ite (fun c => ?_) (fun c => ?_)
    · walk_at "go"
      exact q _
    · walk_at "go"
      exact q _
theorem u_pick {r a b : Int} {H Q E} (q : ∀ x : Int, Q (.int x) H) : sp_l_pick K ([.int r, .int a, .int b] ++ []) H Q E := ⟨r, a, b, rfl, q⟩
def dueB (kw en sy rt : Bool) (cnt pcn mine : Int) (eo : Option Int) : Bool := match eo with | some e => decide (e = cnt) && ((kw && decide (mine = pcn)) || !kw) | none => sy && !rt && ((kw && decide (mine = pcn)) || (!kw && !en))
theorem is_due {kw en sy rt : Bool} {cnt pcn mine src tgt snd seq : Int} {eo : Option Int} {pf ps sc : V} {ep : Addr} {ph : Str} (h : decide (ph = "ended") = en) : isFor ⟨cnt, 5, 9, 6, if kw = true then some pcn else none, pf, ps, false, ep⟩ ⟨src, tgt, seq, mine, eo, sy, rt, sc⟩ snd ph = (dueB kw en sy rt cnt pcn mine eo && decide (src = 6 ∧ tgt = 5 ∧ snd = 9)) := by
  subst h
  unfold isFor dueB
  dsimp only
  by_cases c : tgt = 5 ∧ snd = 9 ∧ src = 6
  · rw [if_pos c, decide_eq_true (show src = 6 ∧ tgt = 5 ∧ snd = 9 from ⟨c.2.2, c.1, c.2.1⟩), Bool.and_true]
    cases kw <;> cases eo <;> simp [eq_comm]
  · rw [if_neg c, decide_eq_false (show ¬ (src = 6 ∧ tgt = 5 ∧ snd = 9) from fun z => c ⟨z.2.1, z.2.2, z.1⟩), Bool.and_false]
def sp_law (K : PySem.W.Frag) : Sp := fun vs H Q _ => ∃ (a : Addr) (ns : List Int), vs = [.ref a] ∧ SqL K H a (ns.map V.int) ∧ ns.length ≤ 63 ∧ ∀ H', Q (.bl true) H'
theorem kbt_2 {P : Program} {K : PySem.W.Frag} {mg : Str → Option Value} (T : Txt P K mg) : ∃ g, KBn K T.d_Segment_init__ ["self", "source", "target", "seq", "count", "echo", "ack", "syn", "fin", "reset", "marked", "cut", "window", "mss", "scale", "ranges_known", "ranges", "stamp", "data"] 3 ["seq", "count", "echo", "syn", "reset"] g (fun vs zs => vs ++ ((zs.drop 0).take 1 ++ ((zs.drop 1).take 1 ++ ((zs.drop 2).take 1 ++ ((([.non, .bl false, .bl false, .bl false, .int 0, .non, .non, .bl false, .ref T.e_Segment_init___ranges, .non, .ref T.e_Segment_init___data] : List V).drop 0).take 1 ++ ((zs.drop 3).take 1 ++ ((([.non, .bl false, .bl false, .bl false, .int 0, .non, .non, .bl false, .ref T.e_Segment_init___ranges, .non, .ref T.e_Segment_init___data] : List V).drop 1).take 1 ++ ((zs.drop 4).take 1 ++ ((([.non, .bl false, .bl false, .bl false, .int 0, .non, .non, .bl false, .ref T.e_Segment_init___ranges, .non, .ref T.e_Segment_init___data] : List V).drop 2).take 1 ++ ((([.non, .bl false, .bl false, .bl false, .int 0, .non, .non, .bl false, .ref T.e_Segment_init___ranges, .non, .ref T.e_Segment_init___data] : List V).drop 3).take 1 ++ ((([.non, .bl false, .bl false, .bl false, .int 0, .non, .non, .bl false, .ref T.e_Segment_init___ranges, .non, .ref T.e_Segment_init___data] : List V).drop 4).take 1 ++ ((([.non, .bl false, .bl false, .bl false, .int 0, .non, .non, .bl false, .ref T.e_Segment_init___ranges, .non, .ref T.e_Segment_init___data] : List V).drop 5).take 1 ++ ((([.non, .bl false, .bl false, .bl false, .int 0, .non, .non, .bl false, .ref T.e_Segment_init___ranges, .non, .ref T.e_Segment_init___data] : List V).drop 6).take 1 ++ ((([.non, .bl false, .bl false, .bl false, .int 0, .non, .non, .bl false, .ref T.e_Segment_init___ranges, .non, .ref T.e_Segment_init___data] : List V).drop 7).take 1 ++ ((([.non, .bl false, .bl false, .bl false, .int 0, .non, .non, .bl false, .ref T.e_Segment_init___ranges, .non, .ref T.e_Segment_init___data] : List V).drop 8).take 1 ++ ((([.non, .bl false, .bl false, .bl false, .int 0, .non, .non, .bl false, .ref T.e_Segment_init___ranges, .non, .ref T.e_Segment_init___data] : List V).drop 9).take 1 ++ ((([.non, .bl false, .bl false, .bl false, .int 0, .non, .non, .bl false, .ref T.e_Segment_init___ranges, .non, .ref T.e_Segment_init___data] : List V).drop 10).take 1))))))))))))))))) := by
  obtain ⟨mv, h⟩ := T.F_Segment_init__.kbinds0 (ps := ["self", "source", "target", "seq", "count", "echo", "ack", "syn", "fin", "reset", "marked", "cut", "window", "mss", "scale", "ranges_known", "ranges", "stamp", "data"]) 3 ["seq", "count", "echo", "syn", "reset"] [("ack", .non), ("fin", .bl false), ("marked", .bl false), ("cut", .bl false), ("window", .int 0), ("mss", .non), ("scale", .non), ("ranges_known", .bl false), ("ranges", .ref T.e_Segment_init___ranges), ("stamp", .non), ("data", .ref T.e_Segment_init___data)] (fun vs mz zs => vs ++ ((zs.drop 0).take 1 ++ ((zs.drop 1).take 1 ++ ((zs.drop 2).take 1 ++ ((mz.drop 0).take 1 ++ ((zs.drop 3).take 1 ++ ((mz.drop 1).take 1 ++ ((zs.drop 4).take 1 ++ ((mz.drop 2).take 1 ++ ((mz.drop 3).take 1 ++ ((mz.drop 4).take 1 ++ ((mz.drop 5).take 1 ++ ((mz.drop 6).take 1 ++ ((mz.drop 7).take 1 ++ ((mz.drop 8).take 1 ++ ((mz.drop 9).take 1 ++ ((mz.drop 10).take 1))))))))))))))))) (by intro h; cases h) (fun q hq => List.Sublist.mem hq (.cons _ (.cons₂ _ (.cons _ (.cons₂ _ (.cons _ (.cons₂ _ (.cons₂ _ (.cons₂ _ (.cons₂ _ (.cons₂ _ (.cons₂ _ (.cons₂ _ (.cons₂ _ (.cons₂ _ (.slnil)))))))))))))))) (fun r1 r2 r3 => r1.append (((r3.drop 0).take 1).append (((r3.drop 1).take 1).append (((r3.drop 2).take 1).append (((r2.drop 0).take 1).append (((r3.drop 3).take 1).append (((r2.drop 1).take 1).append (((r3.drop 4).take 1).append (((r2.drop 2).take 1).append (((r2.drop 3).take 1).append (((r2.drop 4).take 1).append (((r2.drop 5).take 1).append (((r2.drop 6).take 1).append (((r2.drop 7).take 1).append (((r2.drop 8).take 1).append (((r2.drop 9).take 1).append ((r2.drop 10).take 1))))))))))))))))) (fun D doc pm an cdv ct us mv ws l1 l2 l3 => match us, l1, mv, l2, ws, l3 with | [_, _, _], _, [_, _, _, _, _, _, _, _, _, _, _], _, [_, _, _, _, _], _ => (by
    refine' KwChain.of_steps rfl ?st ?en
    case st =>
      apply KwSteps.skipIf; (case e => exact rfl); (case hc => kernel_rfl)
      apply KwSteps.skipIf; (case e => exact rfl); (case hc => kernel_rfl)
      apply KwSteps.skipIf; (case e => exact rfl); (case hc => kernel_rfl)
      apply KwSteps.lookIf; (case e => exact rfl); (case hc => kernel_rfl); (case e1 => exact rfl)
      apply KwSteps.skipIf; (case e => exact rfl); (case hc => kernel_rfl)
      apply KwSteps.lookIf; (case e => exact rfl); (case hc => kernel_rfl); (case e1 => exact rfl)
      apply KwSteps.skipIf; (case e => exact rfl); (case hc => kernel_rfl)
      apply KwSteps.lookIf; (case e => exact rfl); (case hc => kernel_rfl); (case e1 => exact rfl)
      apply KwSteps.lookIf; (case e => exact rfl); (case hc => kernel_rfl); (case e1 => exact rfl)
      apply KwSteps.lookIf; (case e => exact rfl); (case hc => kernel_rfl); (case e1 => exact rfl)
      apply KwSteps.lookIf; (case e => exact rfl); (case hc => kernel_rfl); (case e1 => exact rfl)
      apply KwSteps.lookIf; (case e => exact rfl); (case hc => kernel_rfl); (case e1 => exact rfl)
      apply KwSteps.lookIf; (case e => exact rfl); (case hc => kernel_rfl); (case e1 => exact rfl)
      apply KwSteps.lookIf; (case e => exact rfl); (case hc => kernel_rfl); (case e1 => exact rfl)
      apply KwSteps.lookIf; (case e => exact rfl); (case hc => kernel_rfl); (case e1 => exact rfl)
      apply KwSteps.lookIf; (case e => exact rfl); (case hc => kernel_rfl); (case e1 => exact rfl)
      apply KwSteps.nil
    case en => kernel_rfl))
  exact ⟨_, h⟩
theorem kbt_3 {P : Program} {K : PySem.W.Frag} {mg : Str → Option Value} (T : Txt P K mg) : ∃ g, KBn K T.d_Segment_init__ ["self", "source", "target", "seq", "count", "echo", "ack", "syn", "fin", "reset", "marked", "cut", "window", "mss", "scale", "ranges_known", "ranges", "stamp", "data"] 3 ["seq", "count", "syn"] g (fun vs zs => vs ++ ((zs.drop 0).take 1 ++ ((zs.drop 1).take 1 ++ ((([.non, .non, .bl false, .bl false, .bl false, .bl false, .int 0, .non, .non, .bl false, .ref T.e_Segment_init___ranges, .non, .ref T.e_Segment_init___data] : List V).drop 0).take 1 ++ ((([.non, .non, .bl false, .bl false, .bl false, .bl false, .int 0, .non, .non, .bl false, .ref T.e_Segment_init___ranges, .non, .ref T.e_Segment_init___data] : List V).drop 1).take 1 ++ ((zs.drop 2).take 1 ++ ((([.non, .non, .bl false, .bl false, .bl false, .bl false, .int 0, .non, .non, .bl false, .ref T.e_Segment_init___ranges, .non, .ref T.e_Segment_init___data] : List V).drop 2).take 1 ++ ((([.non, .non, .bl false, .bl false, .bl false, .bl false, .int 0, .non, .non, .bl false, .ref T.e_Segment_init___ranges, .non, .ref T.e_Segment_init___data] : List V).drop 3).take 1 ++ ((([.non, .non, .bl false, .bl false, .bl false, .bl false, .int 0, .non, .non, .bl false, .ref T.e_Segment_init___ranges, .non, .ref T.e_Segment_init___data] : List V).drop 4).take 1 ++ ((([.non, .non, .bl false, .bl false, .bl false, .bl false, .int 0, .non, .non, .bl false, .ref T.e_Segment_init___ranges, .non, .ref T.e_Segment_init___data] : List V).drop 5).take 1 ++ ((([.non, .non, .bl false, .bl false, .bl false, .bl false, .int 0, .non, .non, .bl false, .ref T.e_Segment_init___ranges, .non, .ref T.e_Segment_init___data] : List V).drop 6).take 1 ++ ((([.non, .non, .bl false, .bl false, .bl false, .bl false, .int 0, .non, .non, .bl false, .ref T.e_Segment_init___ranges, .non, .ref T.e_Segment_init___data] : List V).drop 7).take 1 ++ ((([.non, .non, .bl false, .bl false, .bl false, .bl false, .int 0, .non, .non, .bl false, .ref T.e_Segment_init___ranges, .non, .ref T.e_Segment_init___data] : List V).drop 8).take 1 ++ ((([.non, .non, .bl false, .bl false, .bl false, .bl false, .int 0, .non, .non, .bl false, .ref T.e_Segment_init___ranges, .non, .ref T.e_Segment_init___data] : List V).drop 9).take 1 ++ ((([.non, .non, .bl false, .bl false, .bl false, .bl false, .int 0, .non, .non, .bl false, .ref T.e_Segment_init___ranges, .non, .ref T.e_Segment_init___data] : List V).drop 10).take 1 ++ ((([.non, .non, .bl false, .bl false, .bl false, .bl false, .int 0, .non, .non, .bl false, .ref T.e_Segment_init___ranges, .non, .ref T.e_Segment_init___data] : List V).drop 11).take 1 ++ ((([.non, .non, .bl false, .bl false, .bl false, .bl false, .int 0, .non, .non, .bl false, .ref T.e_Segment_init___ranges, .non, .ref T.e_Segment_init___data] : List V).drop 12).take 1))))))))))))))))) := by
  obtain ⟨mv, h⟩ := T.F_Segment_init__.kbinds0 (ps := ["self", "source", "target", "seq", "count", "echo", "ack", "syn", "fin", "reset", "marked", "cut", "window", "mss", "scale", "ranges_known", "ranges", "stamp", "data"]) 3 ["seq", "count", "syn"] [("echo", .non), ("ack", .non), ("fin", .bl false), ("reset", .bl false), ("marked", .bl false), ("cut", .bl false), ("window", .int 0), ("mss", .non), ("scale", .non), ("ranges_known", .bl false), ("ranges", .ref T.e_Segment_init___ranges), ("stamp", .non), ("data", .ref T.e_Segment_init___data)] (fun vs mz zs => vs ++ ((zs.drop 0).take 1 ++ ((zs.drop 1).take 1 ++ ((mz.drop 0).take 1 ++ ((mz.drop 1).take 1 ++ ((zs.drop 2).take 1 ++ ((mz.drop 2).take 1 ++ ((mz.drop 3).take 1 ++ ((mz.drop 4).take 1 ++ ((mz.drop 5).take 1 ++ ((mz.drop 6).take 1 ++ ((mz.drop 7).take 1 ++ ((mz.drop 8).take 1 ++ ((mz.drop 9).take 1 ++ ((mz.drop 10).take 1 ++ ((mz.drop 11).take 1 ++ ((mz.drop 12).take 1))))))))))))))))) (by intro h; cases h) (fun q hq => List.Sublist.mem hq (.cons₂ _ (.cons₂ _ (.cons _ (.cons₂ _ (.cons₂ _ (.cons₂ _ (.cons₂ _ (.cons₂ _ (.cons₂ _ (.cons₂ _ (.cons₂ _ (.cons₂ _ (.cons₂ _ (.cons₂ _ (.slnil)))))))))))))))) (fun r1 r2 r3 => r1.append (((r3.drop 0).take 1).append (((r3.drop 1).take 1).append (((r2.drop 0).take 1).append (((r2.drop 1).take 1).append (((r3.drop 2).take 1).append (((r2.drop 2).take 1).append (((r2.drop 3).take 1).append (((r2.drop 4).take 1).append (((r2.drop 5).take 1).append (((r2.drop 6).take 1).append (((r2.drop 7).take 1).append (((r2.drop 8).take 1).append (((r2.drop 9).take 1).append (((r2.drop 10).take 1).append (((r2.drop 11).take 1).append ((r2.drop 12).take 1))))))))))))))))) (fun D doc pm an cdv ct us mv ws l1 l2 l3 => match us, l1, mv, l2, ws, l3 with | [_, _, _], _, [_, _, _, _, _, _, _, _, _, _, _, _, _], _, [_, _, _], _ => (by
    refine' KwChain.of_steps rfl ?st ?en
    case st =>
      apply KwSteps.skipIf; (case e => exact rfl); (case hc => kernel_rfl)
      apply KwSteps.skipIf; (case e => exact rfl); (case hc => kernel_rfl)
      apply KwSteps.lookIf; (case e => exact rfl); (case hc => kernel_rfl); (case e1 => exact rfl)
      apply KwSteps.lookIf; (case e => exact rfl); (case hc => kernel_rfl); (case e1 => exact rfl)
      apply KwSteps.skipIf; (case e => exact rfl); (case hc => kernel_rfl)
      apply KwSteps.lookIf; (case e => exact rfl); (case hc => kernel_rfl); (case e1 => exact rfl)
      apply KwSteps.lookIf; (case e => exact rfl); (case hc => kernel_rfl); (case e1 => exact rfl)
      apply KwSteps.lookIf; (case e => exact rfl); (case hc => kernel_rfl); (case e1 => exact rfl)
      apply KwSteps.lookIf; (case e => exact rfl); (case hc => kernel_rfl); (case e1 => exact rfl)
      apply KwSteps.lookIf; (case e => exact rfl); (case hc => kernel_rfl); (case e1 => exact rfl)
      apply KwSteps.lookIf; (case e => exact rfl); (case hc => kernel_rfl); (case e1 => exact rfl)
      apply KwSteps.lookIf; (case e => exact rfl); (case hc => kernel_rfl); (case e1 => exact rfl)
      apply KwSteps.lookIf; (case e => exact rfl); (case hc => kernel_rfl); (case e1 => exact rfl)
      apply KwSteps.lookIf; (case e => exact rfl); (case hc => kernel_rfl); (case e1 => exact rfl)
      apply KwSteps.lookIf; (case e => exact rfl); (case hc => kernel_rfl); (case e1 => exact rfl)
      apply KwSteps.lookIf; (case e => exact rfl); (case hc => kernel_rfl); (case e1 => exact rfl)
      apply KwSteps.nil
    case en => kernel_rfl))
  exact ⟨_, h⟩
theorem kbt_4 {P : Program} {K : PySem.W.Frag} {mg : Str → Option Value} (T : Txt P K mg) : ∃ ds, Vals [(.bl false : V)] ds ∧ Binds K T.d_Socket_init__ ["self", "count", "port", "peer", "peer_port", "endpoint", "listened"] ds :=
  T.F_Socket_init__.binds0 (ps := ["self", "count", "port", "peer", "peer_port", "endpoint", "listened"]) 6 (by intro h; cases h) rfl fun D doc pm an cdv ct us ks l1 l2 => match us, l1, ks, l2 with | [_, _, _, _, _, _], _, [_], _ => ⟨_, _, _, _, _, _, rfl, rfl, rfl⟩
theorem kbt_5 {P : Program} {K : PySem.W.Frag} {mg : Str → Option Value} (T : Txt P K mg) : ∃ g, KBn K T.d_Options_init__ ["self", "mss", "room", "life", "pace", "tries", "min_rto", "max_rto", "ack_delay", "keep_alive", "nagle", "control"] 1 ["mss", "room", "life", "pace", "tries", "min_rto", "max_rto"] g (fun vs zs => vs ++ ((zs.drop 0).take 1 ++ ((zs.drop 1).take 1 ++ ((zs.drop 2).take 1 ++ ((zs.drop 3).take 1 ++ ((zs.drop 4).take 1 ++ ((zs.drop 5).take 1 ++ ((zs.drop 6).take 1 ++ ((([.int 0, .int 0, .bl false, .str (PySem.Str.ofString "reno")] : List V).drop 0).take 1 ++ ((([.int 0, .int 0, .bl false, .str (PySem.Str.ofString "reno")] : List V).drop 1).take 1 ++ ((([.int 0, .int 0, .bl false, .str (PySem.Str.ofString "reno")] : List V).drop 2).take 1 ++ ((([.int 0, .int 0, .bl false, .str (PySem.Str.ofString "reno")] : List V).drop 3).take 1)))))))))))) := by
  obtain ⟨mv, h⟩ := T.F_Options_init__.kbinds0 (ps := ["self", "mss", "room", "life", "pace", "tries", "min_rto", "max_rto", "ack_delay", "keep_alive", "nagle", "control"]) 1 ["mss", "room", "life", "pace", "tries", "min_rto", "max_rto"] [("ack_delay", .int 0), ("keep_alive", .int 0), ("nagle", .bl false), ("control", .str (PySem.Str.ofString "reno"))] (fun vs mz zs => vs ++ ((zs.drop 0).take 1 ++ ((zs.drop 1).take 1 ++ ((zs.drop 2).take 1 ++ ((zs.drop 3).take 1 ++ ((zs.drop 4).take 1 ++ ((zs.drop 5).take 1 ++ ((zs.drop 6).take 1 ++ ((mz.drop 0).take 1 ++ ((mz.drop 1).take 1 ++ ((mz.drop 2).take 1 ++ ((mz.drop 3).take 1)))))))))))) (by intro h; cases h) (fun q hq => List.Sublist.mem hq (.cons₂ _ (.cons₂ _ (.cons₂ _ (.cons₂ _ (.slnil)))))) (fun r1 r2 r3 => r1.append (((r3.drop 0).take 1).append (((r3.drop 1).take 1).append (((r3.drop 2).take 1).append (((r3.drop 3).take 1).append (((r3.drop 4).take 1).append (((r3.drop 5).take 1).append (((r3.drop 6).take 1).append (((r2.drop 0).take 1).append (((r2.drop 1).take 1).append (((r2.drop 2).take 1).append ((r2.drop 3).take 1)))))))))))) (fun D doc pm an cdv ct us mv ws l1 l2 l3 => match us, l1, mv, l2, ws, l3 with | [_], _, [_, _, _, _], _, [_, _, _, _, _, _, _], _ => (by
    refine' KwChain.of_steps rfl ?st ?en
    case st =>
      apply KwSteps.skipIf; (case e => exact rfl); (case hc => kernel_rfl)
      apply KwSteps.skipIf; (case e => exact rfl); (case hc => kernel_rfl)
      apply KwSteps.skipIf; (case e => exact rfl); (case hc => kernel_rfl)
      apply KwSteps.skipIf; (case e => exact rfl); (case hc => kernel_rfl)
      apply KwSteps.skipIf; (case e => exact rfl); (case hc => kernel_rfl)
      apply KwSteps.skipIf; (case e => exact rfl); (case hc => kernel_rfl)
      apply KwSteps.skipIf; (case e => exact rfl); (case hc => kernel_rfl)
      apply KwSteps.lookIf; (case e => exact rfl); (case hc => kernel_rfl); (case e1 => exact rfl)
      apply KwSteps.lookIf; (case e => exact rfl); (case hc => kernel_rfl); (case e1 => exact rfl)
      apply KwSteps.lookIf; (case e => exact rfl); (case hc => kernel_rfl); (case e1 => exact rfl)
      apply KwSteps.lookIf; (case e => exact rfl); (case hc => kernel_rfl); (case e1 => exact rfl)
      apply KwSteps.nil
    case en => kernel_rfl))
  exact ⟨_, h⟩
theorem ok_law (T : Txt P K mg) : FnOk P w K mg base CX0 9 T.f_law T.d_law ["script"] (sp_law K) := by
  refine T.F_law.ok sc_law (fun vs H Q E h => ?_) (fun cdv A outer s H vs Q E hr h => ?_)
  · obtain ⟨a, ns, rfl, hS, hlen, q⟩ := h
    rfl
  · obtain ⟨a, ns, rfl, hS, hlen, q⟩ := h
    have hu := hu_of hr
    obtain ⟨gk_2, kb_2⟩ := kbt_2 T
    obtain ⟨gk_3, kb_3⟩ := kbt_3 T
    obtain ⟨ds_4, kv_4, kb_4⟩ := kbt_4 T
    obtain ⟨gk_5, kb_5⟩ := kbt_5 T
    refine ⟨_, (pss_cons (ps_set (i := 1) sc_law.nd rfl (Or.inl rfl) (pe_call (ok_l_rows T) (hr.mono (by decide)) rfl T.m_l_rows T.F_l_rows.kp T.b_l_rows .nil pass0 (pa_cons (pv 0) (pa_cons pe_int pa_nil))))
        (pss_cons (ps_set (i := 2) sc_law.nd rfl (Or.inl rfl) (pe_makeK0 T.mk_Options (ok_Options_init__ T) (hr.mono (by decide)) rfl T.c_Options kb_5 pass0 (pk_cons pe_int (pk_cons pe_int (pk_cons pe_int (pk_cons pe_int (pk_cons pe_int (pk_cons pe_int (pk_cons pe_int pk_nil)))))))))
        (pss_cons (ps_set (i := 3) sc_law.nd rfl (Or.inl rfl) (pe_op op_add pe_int (pe_op op_mod (pe_callTy call_int1 (by rfl) T.n_int (by decide +kernel) (pa_cons (pe_ix ix_list (pv 1) pe_int (fun _ _ => rfl)) pa_nil)) pe_int)))
        (pss_cons (ps_set (i := 4) sc_law.nd rfl (Or.inl rfl) (pe_op op_add pe_int (pe_op op_mod (pe_callTy call_int1 (by rfl) T.n_int (by decide +kernel) (pa_cons (pe_ix ix_list (pv 1) pe_int (fun _ _ => rfl)) pa_nil)) pe_int)))
        (pss_cons (ps_set (i := 5) sc_law.nd rfl (Or.inl rfl) (pe_make T.mk_Endpoint (ok_Endpoint_init__ T) (hr.mono (by decide)) rfl T.c_Endpoint T.b_Endpoint_init__ .nil pass0 (pa_cons (pv 2) (pa_cons pe_int pa_nil))))
        (pss_cons (ps_set (i := 6) sc_law.nd rfl (Or.inl rfl) (pe_make T.mk_Socket (ok_Socket_init__ T) (hr.mono (by decide)) rfl T.c_Socket kb_4 kv_4 pass0 (pa_cons (pv 3) (pa_cons pe_int (pa_cons pe_int (pa_cons pe_int (pa_cons (pv 5) pa_nil)))))))
        (pss_cons (ps_set (i := 7) sc_law.nd rfl (Or.inl rfl) (pe_cmpR op_gt (pe_op op_mod (pe_op op_fdiv (pe_ix ix_list (pv 1) pe_int (fun _ _ => rfl)) pe_int) pe_int) pe_int (nomark _)))
        (C8.pss_cut (ps_if (pt_val (pv 7)) (pss_one (ps_expr (pe_meth (pv 6) T.k_Socket T.a_Socket_learn (ok_Socket_learn T) (hr.mono (by decide)) T.b_Socket_learn .nil pass0 (pa_cons (pe_makeK T.mk_Segment (ok_Segment_init__ T) (hr.mono (by decide)) rfl T.c_Segment kb_3 pass0 (pa_cons pe_int (pa_cons pe_int pa_nil)) (pk_cons pe_int (pk_cons (pv 4) (pk_cons pe_bl pk_nil)))) pa_nil)))) pss_nil)
        (pss_cons (ps_set (i := 8) sc_law.nd rfl (Or.inl rfl) (pe_cmpR op_eq (pe_op op_mod (pe_op op_fdiv (pe_ix ix_list (pv 1) pe_int (fun _ _ => rfl)) pe_int) pe_int) pe_int (nomark _)))
        (C8.pss_cut (ps_if (pt_val (pv 8)) (pss_one (ps_expr (pe_meth0 (pv 5) T.k_Endpoint T.a_Endpoint_abort (ok_Endpoint_abort T) (hr.mono (by decide)) T.b_Endpoint_abort .nil pass0))) pss_nil)
        (pss_cons (ps_for PassesOwn.never rfl (pi_range2 (by rfl) T.n_range (pa_cons pe_int (pa_cons pe_int pa_nil))) (pg_name (i := 9) sc_law.nd rfl (Or.inl rfl)) (pss_cons (ps_set (i := 10) sc_law.nd rfl (Or.inl rfl) (pe_ix ix_list (pv 1) (pv 9) (fun _ _ => rfl)))
        (pss_cons (ps_set (i := 11) sc_law.nd rfl (Or.inl rfl) (pe_call (ok_l_pick T) (hr.mono (by decide)) rfl T.m_l_pick T.F_l_pick.kp T.b_l_pick .nil pass0 (pa_cons (pv 10) (pa_cons pe_int (pa_cons (pe_op op_add pe_int (pe_op op_mod (pe_callTy call_int1 (by rfl) T.n_int (by decide +kernel) (pa_cons (pe_op op_fdiv (pv 10) pe_int) pa_nil)) pe_int)) pa_nil)))))
        (pss_cons (ps_set (i := 12) sc_law.nd rfl (Or.inl rfl) (pe_call (ok_l_pick T) (hr.mono (by decide)) rfl T.m_l_pick T.F_l_pick.kp T.b_l_pick .nil pass0 (pa_cons (pe_op op_fdiv (pv 10) pe_int) (pa_cons pe_int (pa_cons (pe_op op_add pe_int (pe_op op_mod (pe_callTy call_int1 (by rfl) T.n_int (by decide +kernel) (pa_cons (pe_op op_fdiv (pv 10) pe_int) pa_nil)) pe_int)) pa_nil)))))
        (pss_cons (ps_set (i := 13) sc_law.nd rfl (Or.inl rfl) (pe_call (ok_l_pick T) (hr.mono (by decide)) rfl T.m_l_pick T.F_l_pick.kp T.b_l_pick .nil pass0 (pa_cons (pe_op op_fdiv (pv 10) pe_int) (pa_cons pe_int (pa_cons (pe_op op_mod (pe_callTy call_int1 (by rfl) T.n_int (by decide +kernel) (pa_cons (pe_op op_fdiv (pv 10) pe_int) pa_nil)) pe_int) pa_nil)))))
        (pss_cons (ps_set (i := 14) sc_law.nd rfl (Or.inl rfl) (pe_call (ok_l_pick T) (hr.mono (by decide)) rfl T.m_l_pick T.F_l_pick.kp T.b_l_pick .nil pass0 (pa_cons (pe_op op_fdiv (pv 10) pe_int) (pa_cons (pv 3) (pa_cons (pe_op op_mod (pe_callTy call_int1 (by rfl) T.n_int (by decide +kernel) (pa_cons (pe_op op_fdiv (pv 10) pe_int) pa_nil)) pe_int) pa_nil)))))
        (C8.pss_cut (ps_if (pt_cmpR op_eq (pe_op op_mod (pe_op op_fdiv (pv 10) pe_int) pe_int) pe_int (nomark _)) (pss_one (ps_set (i := 14) sc_law.nd rfl (Or.inl rfl) pe_non)) pss_nil)
        (pss_cons (ps_set (i := 15) sc_law.nd rfl (Or.inl rfl) (pe_call (ok_l_pick T) (hr.mono (by decide)) rfl T.m_l_pick T.F_l_pick.kp T.b_l_pick .nil pass0 (pa_cons (pe_op op_fdiv (pv 10) pe_int) (pa_cons (pv 4) (pa_cons (pe_op op_mod (pe_callTy call_int1 (by rfl) T.n_int (by decide +kernel) (pa_cons (pe_op op_fdiv (pv 10) pe_int) pa_nil)) pe_int) pa_nil)))))
        (pss_cons (ps_set (i := 16) sc_law.nd rfl (Or.inl rfl) (pe_cmpR op_eq (pe_op op_mod (pe_op op_fdiv (pv 10) pe_int) pe_int) pe_int (nomark _)))
        (pss_cons (ps_set (i := 17) sc_law.nd rfl (Or.inl rfl) (pe_cmpR op_eq (pe_op op_mod (pe_op op_fdiv (pv 10) pe_int) pe_int) pe_int (nomark _)))
        (pss_cons (ps_set (i := 18) sc_law.nd rfl (Or.inl rfl) (pe_makeK T.mk_Segment (ok_Segment_init__ T) (hr.mono (by decide)) rfl T.c_Segment kb_2 pass0 (pa_cons (pv 11) (pa_cons (pv 12) pa_nil)) (pk_cons (pe_op op_mod (pe_callTy call_int1 (by rfl) T.n_int (by decide +kernel) (pa_cons (pv 10) pa_nil)) pe_int) (pk_cons (pv 15) (pk_cons (pv 14) (pk_cons (pv 16) (pk_cons (pv 17) pk_nil)))))))
        (pss_cons (ps_set (i := 19) sc_law.nd rfl (Or.inl rfl) (pe_cutV (pe_and (pv 7) (pe_one (pe_cmpR op_eq (pv 15) (pv 4) (nomark _))))))
        (C8.pss_cut (ps_if (pt_cmpR op_notN (pv 14) pe_non (nomark _)) (pss_one (ps_set (i := 20) sc_law.nd rfl (Or.inl rfl) (pe_and (pe_cmpR op_eq (pv 14) (pv 3) (nomark _)) (pe_one (pe_or (pv 19) (pe_one (pe_not (pv 7)))))))) (pss_one (ps_set (i := 20) sc_law.nd rfl (Or.inl rfl) (pe_and (pv 16) (pe_and (pe_not (pv 17)) (pe_one (pe_or (pv 19) (pe_one (pe_and (pe_not (pv 7)) (pe_one (pe_not (pv 8))))))))))))
        (pss_cons (ps_set (i := 20) sc_law.nd rfl (Or.inl rfl) (pe_cutV (pe_and (pv 20) (pe_and (pe_cmpR op_eq (pv 11) pe_int (nomark _)) (pe_and (pe_cmpR op_eq (pv 12) pe_int (nomark _)) (pe_one (pe_cmpR op_eq (pv 13) pe_int (nomark _))))))))
        (pss_cons (ps_set (i := 21) sc_law.nd rfl (Or.inl rfl) (pe_meth (pv 6) T.k_Socket T.a_Socket_is_for (ok_Socket_is_for T) (hr.mono (by decide)) T.b_Socket_is_for .nil pass0 (pa_cons (pv 18) (pa_cons (pv 13) pa_nil))))
        (pss_one (ps_if (PW.pt (pw_or (pt_not (pt_val (pe_callB call_isi (by rfl) T.n_isinstance (by decide +kernel) (pa_cons (pv 21) (pa_cons (pe_bltn (v := .ty "bool") (by rfl) T.n_bool (by decide +kernel) rfl) pa_nil))))) (pw_or1 (pt_cmpR op_ne (pv 21) (pv 20) (nomark _))))) (pss_one (ps_ret pe_bl)) pss_nil)))))))))))))))))
        (pss_one (ps_ret pe_bl))))))))))))), ?_⟩
    dsimp only [cxOf, Cx.nox, Cx.wish, L2.start, List.map, List.cons_append, List.nil_append, List.length_cons, List.length_nil, Nat.reduceAdd, Nat.reduceSub, Nat.zero_add, List.replicate_succ, List.replicate_zero]
    walk_at "go"
    refine u_rows hS (by decide) (by decide) fun rw rs H1 hl nrw s1 e1 => ?_
    walk_at "go"
    refine ⟨rfl, rfl, fun x2 dx2 nx2 ndx2 n2 => ?_⟩
    have bd : Bd ⟨10, 40, 3, 50, 9, 1, 2, 0, 0, false, "reno"⟩ := by unfold Bd; decide +kernel
    have ft : Fit ⟨10, 40, 3, 50, 9, 1, 2, 0, 0, false, "reno"⟩ := by unfold Fit; decide +kernel
    refine ⟨x2, dx2, ⟨10, 40, 3, 50, 9, 1, 2, 0, 0, false, "reno"⟩, rfl, upd_same, bd, ft, fun H2 b2 o2 => ⟨rfl, ?_⟩⟩
    have s2 := made_same nx2 ndx2 n2 b2
    have e2 := s2 _ _ e1
    obtain ⟨r0, er0, _⟩ := atI_ints (xs := rs) (i := 0) (by omega) (by omega)
    obtain ⟨r1, er1, _⟩ := atI_ints (xs := rs) (i := 1) (by omega) (by omega)
    walk_at "go"
    refine g_ixL (sl e2) er0 ?_
    walk_at "go"
    refine g_ixL (sl e2) er1 ?_
    walk_at "go"
    generalize 1 + r0 % 4294967295 = cnt
    generalize 1 + r1 % 4294967295 = pcn
    rintro ep dep nep ndep nne
    refine ⟨ep, dep, x2, _, rfl, upd_same, ?hO, bd, ft, rfl, fun H3 b3 E3 => ⟨rfl, ?_⟩⟩
    case hO =>
      exact ⟨dx2, by rw [upd_ne (ne_of_none o2 nep), upd_ne (ne_of_none o2 ndep)]; exact o2⟩
    have s3 := made_same nep ndep nne b3
    have e3 := s3 _ _ e2
    walk_at "go"
    rintro sk dsk nsk ndsk nns
    refine ⟨sk, dsk, cnt, 5, 9, 6, ep, false, rfl, upd_same, fun H4 b4 K4 => ⟨rfl, ?_⟩⟩
    have s4 := made_same nsk ndsk nns b4
    have e4 := s4 _ _ e3
    have E4 := E3.same s4
    have nse : sk ≠ ep := fun z => by
      obtain ⟨_, _, _, _, _, _, _, _, _, h⟩ := E3
      rw [← z, nsk] at h
      cases h
    have nsr : sk ≠ rw := fun z => by rw [← z, nsk] at e3; cases e3
    have ner : ep ≠ rw := fun z => by rw [← z, nep] at e2; cases e2
    walk_at "go"
    refine g_ixL (sl e4) er0 ?_
    walk_at "go"
    generalize decide (0 < r0 / 3 % 3) = kw
    refine g_cut (fun σ' H' => σ' = [some (.ref a), some (.ref rw), some (.ref x2), some (.int cnt), some (.int pcn), some (.ref ep), some (.ref sk), some (.bl kw), none, none, none, none, none, none, none, none, none, none, none, none, none, none] ∧
      EpO T.C_Endpoint H' ep "syn sent" ∧ H' rw = some (.lst (rs.map V.int)) ∧ ∃ pf ps, SkO T.C_Socket H' sk ⟨cnt, 5, 9, 6, if kw = true then some pcn else none, pf, ps, false, ep⟩) ?_ ?_
    · walk_at "go"
      cases kw with
      | false =>
        walk_at "go"
        exact ⟨rfl, E4, e4, .non, .non, K4⟩
      | true =>
        obtain ⟨dz, hk4⟩ := id K4
        unfold skV at hk4
        walk_at "go"
        refine ⟨rfl, rfl, fun y dy ny ndy nyd => ?_⟩
        refine ⟨y, dy, _, _, _, _, _, _, _, _, _, _, _, _, _, _, _, _, _, _, [], [], rfl, upd_same, fun H' _ => .inr (T.es_Segment_init___ranges H'), fun H' _ => .inr (T.es_Segment_init___data H'), fun r d H5 _ _ _ _ _ b5 _ _ ey => ⟨rfl, ?_⟩⟩
        have s5 := made_same ny ndy nyd b5
        have hk5 := s5 _ _ hk4
        walk_at "go"
        refine ⟨sk, y, ⟨cnt, 5, 9, 6, none, .non, .non, false, ep⟩, ⟨6, 5, 77, pcn, none, true, false, .non⟩, rfl, K4.same s5, ⟨dy, r, d, _, _, _, _, _, _, _, _, ey⟩, .inr ⟨⟨rfl, rfl, rfl⟩, fun H6 b6 K6 => ?_⟩⟩
        walk_at "go"
        have E5 := E4.same s5
        obtain ⟨dq, qa, qb, qc, qd, qe, qcs, qm, qov, hq⟩ := E5
        exact ⟨rfl, ⟨dq, qa, qb, qc, qd, qe, qcs, qm, qov, b6 _ _ nse.symm hq⟩, b6 _ _ nsr.symm (s5 _ _ e4), _, _, K6⟩
    rintro σ' H5 ⟨rfl, E5, e5, pf, ps, K5⟩
    generalize hpc : (if kw = true then some pcn else none) = pc at K5
    walk_at "go"
    refine g_ixL (sl e5) er0 ?_
    walk_at "go"
    generalize decide (r0 / 9 % 3 = 0) = en
    refine g_cut (fun σ' H' => σ' = [some (.ref a), some (.ref rw), some (.ref x2), some (.int cnt), some (.int pcn), some (.ref ep), some (.ref sk), some (.bl kw), some (.bl en), none, none, none, none, none, none, none, none, none, none, none, none, none] ∧
      H' rw = some (.lst (rs.map V.int)) ∧ SkO T.C_Socket H' sk ⟨cnt, 5, 9, 6, pc, pf, ps, false, ep⟩ ∧ ∃ ph, EpO T.C_Endpoint H' ep ph ∧ decide (ph = "ended") = en) ?_ ?_
    · walk_at "go"
      cases en with
      | false =>
        walk_at "go"
        exact ⟨rfl, e5, K5, "syn sent", E5, by decide +kernel⟩
      | true =>
        obtain ⟨dq, qa, qb, qc, qd, qe, qcs, qm, qov, hq⟩ := id E5
        walk_at "go"
        refine ⟨ep, rfl, E5, fun H6 b6 E6 => ?_⟩
        walk_at "go"
        obtain ⟨dz, hk5⟩ := K5
        exact ⟨rfl, b6 _ _ ner.symm e5, ⟨dz, b6 _ _ nse hk5⟩, "ended", E6, by decide +kernel⟩
    rintro σ' H6 ⟨rfl, e6, K6, ph, E6, hph⟩
    walk_at "go"
    refine g_for ?_
    refine g_rng2 ?_
    walk_at "go"
    refine ⟨⟨by decide, by decide, by decide, by decide⟩, ?_⟩
    refine for_it (walk_range (lo := 2) (n := 40)) (fun i σ H' => Same H6 H' ∧ ∃ v9 v10 v11 v12 v13 v14 v15 v16 v17 v18 v19 v20 v21 : Option V, σ = [some (.ref a), some (.ref rw), some (.ref x2), some (.int cnt), some (.int pcn), some (.ref ep), some (.ref sk), some (.bl kw), some (.bl en), v9, v10, v11, v12, v13, v14, v15, v16, v17, v18, v19, v20, v21]) ⟨fun b o e => e, none, none, none, none, none, none, none, none, none, none, none, none, none, rfl⟩ (fun _ _ _ _ _ => trivial) ?turn ?done
    case done =>
      rintro σ H7 ⟨s7, v9, v10, v11, v12, v13, v14, v15, v16, v17, v18, v19, v20, v21, rfl⟩
      walk_at "go"
      exact q _
    case turn =>
      rintro i x σ H7 H8 hi ⟨s7, v9, v10, v11, v12, v13, v14, v15, v16, v17, v18, v19, v20, v21, rfl⟩ ⟨rfl, rfl⟩
      have e7 := s7 _ _ e6
      have K7 := K6.same s7
      have E7 := E6.same s7
      obtain ⟨row, er, _⟩ := atI_ints (xs := rs) (i := 2 + (i : Int)) (by omega) (by omega)
      walk_at "go"
      refine g_ixL (sl e7) er ?_
      walk_at "go"
      refine u_pick fun src => ?_
      walk_at "go"
      refine u_pick fun tgt => ?_
      walk_at "go"
      refine u_pick fun snd => ?_
      walk_at "go"
      refine u_pick fun eco => ?_
      walk_at "go"
      refine g_cut (fun σ' H' => H' = H8 ∧ ∃ (eo : Option Int) (v21 : Option V), σ' = [some (.ref a), some (.ref rw), some (.ref x2), some (.int cnt), some (.int pcn), some (.ref ep), some (.ref sk), some (.bl kw), some (.bl en), some (.int (2 + (i : Int))), some (.int row), some (.int src), some (.int tgt), some (.int snd), some (oV eo), v15, v16, v17, v18, v19, v20, v21]) ?_ ?_
      · walk_at "go"
        refine g_ite (fun c => ?_) (fun c => ?_)
        · walk_at "go"
          exact ⟨rfl, none, _, rfl⟩
        · walk_at "go"
          exact ⟨rfl, some eco, _, rfl⟩
      rintro σ' _ ⟨rfl, eo, w21, rfl⟩
      walk_at "go"
      refine u_pick fun mine => ?_
      walk_at "go"
      generalize decide (row / 98304 % 2 = 0) = sy
      generalize decide (row / 196608 % 4 = 0) = rt
      rename_i H9
      refine ⟨rfl, rfl, fun y dy ny ndy nyd => ?_⟩
      refine ⟨y, dy, _, _, _, _, _, _, _, _, _, _, _, _, _, _, _, _, _, _, [], [], rfl, upd_same, fun H' _ => .inr (T.es_Segment_init___ranges H'), fun H' _ => .inr (T.es_Segment_init___data H'), fun r d H10 _ _ _ _ _ b10 _ _ ey => ⟨rfl, ?_⟩⟩
      have s10 := made_same ny ndy nyd b10
      walk_at "go"
      refine g_cutV (.bl (kw && decide (mine = pcn))) ?_ ?_
      · cases kw with
        | false =>
          walk_at "go"
          exact ⟨rfl, rfl⟩
        | true =>
          walk_at "go"
          exact ⟨rfl, rfl⟩
      walk_at "go"
      refine g_cut (fun σ' H' => H' = H10 ∧ ∃ v21, σ' = [some (.ref a), some (.ref rw), some (.ref x2), some (.int cnt), some (.int pcn), some (.ref ep), some (.ref sk), some (.bl kw), some (.bl en), some (.int (2 + (i : Int))), some (.int row), some (.int src), some (.int tgt), some (.int snd), some (oV eo), some (.int mine), some (.bl sy), some (.bl rt), some (.ref y), some (.bl (kw && decide (mine = pcn))),
        some (.bl (dueB kw en sy rt cnt pcn mine eo)), v21]) ?_ ?_
      · walk_at "go"
        cases eo with
        | some e =>
          refine g_nT (p := oV (some e) = V.non) (fun z => nomatch z) ?_
          walk_at "go"
          refine g_rEqI ?_
          walk_at "go"
          refine g_ite (fun c1 => ?_) (fun c1 => ?_)
          · walk_at "go"
            cases hk : (kw && decide (mine = pcn)) with
            | true =>
              walk_at "go"
              refine ⟨rfl, w21, ?_⟩
              rw [show dueB kw en sy rt cnt pcn mine (some e) = true from by unfold dueB; simp [c1, hk]]
            | false =>
              walk_at "go"
              refine ⟨rfl, w21, ?_⟩
              rw [show dueB kw en sy rt cnt pcn mine (some e) = !kw from by unfold dueB; simp [c1, hk]]
          · walk_at "go"
            refine ⟨rfl, w21, ?_⟩
            rw [show dueB kw en sy rt cnt pcn mine (some e) = false from by unfold dueB; simp [c1]]
        | none =>
          refine g_nF (p := oV none = V.non) rfl ?_
          walk_at "go"
          cases sy with
          | false =>
            walk_at "go"
            exact ⟨rfl, _, rfl⟩
          | true =>
            walk_at "go"
            cases rt with
            | true =>
              walk_at "go"
              exact ⟨rfl, _, rfl⟩
            | false =>
              walk_at "go"
              cases hk : (kw && decide (mine = pcn)) with
              | true =>
                walk_at "go"
                refine ⟨rfl, w21, ?_⟩
                rw [show dueB kw en true false cnt pcn mine none = true from by unfold dueB; simp [hk]]
              | false =>
                walk_at "go"
                cases kw with
                | true =>
                  walk_at "go"
                  refine ⟨rfl, w21, ?_⟩
                  rw [show dueB true en true false cnt pcn mine none = false from by unfold dueB; simpa using hk]
                | false =>
                  walk_at "go"
                  refine ⟨rfl, w21, ?_⟩
                  rw [show dueB false en true false cnt pcn mine none = !en from by unfold dueB; simp]
      rintro σ' _ ⟨rfl, v21, rfl⟩
      generalize hD : (dueB kw en sy rt cnt pcn mine eo) = D
      walk_at "go"
      refine g_cutV (.bl (D && decide (src = 6 ∧ tgt = 5 ∧ snd = 9))) ?_ ?_
      · cases D with
        | false =>
          walk_at "go"
          exact ⟨rfl, rfl⟩
        | true =>
          walk_at "go"
          refine g_ite (fun c1 => ?_) (fun c1 => ?_)
          · walk_at "go"
            refine g_ite (fun c2 => ?_) (fun c2 => ?_)
            · walk_at "go"
              exact ⟨congrArg V.bl (by rw [Bool.true_and, decide_eq_decide]; exact ⟨fun z => ⟨c1, c2, z⟩, fun z => z.2.2⟩), rfl⟩
            · walk_at "go"
              exact ⟨congrArg V.bl (by rw [Bool.true_and]; exact (decide_eq_false (fun z => c2 z.2.1)).symm), rfl⟩
          · walk_at "go"
            exact ⟨congrArg V.bl (by rw [Bool.true_and]; exact (decide_eq_false (fun z => c1 z.1)).symm), rfl⟩
      obtain ⟨dz, hk⟩ := id (K7.same s10)
      walk_at "go"
      refine ⟨sk, y, ⟨cnt, 5, 9, 6, pc, pf, ps, false, ep⟩, ⟨src, tgt, _, mine, eo, sy, rt, _⟩, snd, ph, rfl, K7.same s10, ⟨dy, r, d, _, _, _, _, _, _, _, _, ey⟩, E7.same s10, fun H11 s11 => ?_⟩
      rw [← hpc, is_due hph, hD]
      walk_at "go"
      refine g_rNe rfl ?_
      rw [decide_eq_true rfl]
      walk_at "go"
      exact ⟨s7.trans (s10.trans s11), _, _, _, _, _, _, _, _, _, _, _, _, _, rfl⟩

end
end My
namespace My
open PySem PySem.Spec L2
local macro_rules | `(tactic| walk_at "side") => `(tactic| first | assumption | decide | omega | exact ⟨by decide, by decide⟩ | exact ⟨by decide, by decide, by decide⟩ | decide +kernel | exact cdivW (by decide +kernel) (by decide +kernel) | exact Or.inl ⟨by omega, by omega⟩ | exact Or.inr ⟨by omega, by omega⟩ | (simp only [List.length_map, List.length_cons, List.length_nil, List.length_append]; omega))
local macro_rules | `(tactic| walk_at "fact") => `(tactic| first | assumption | omega | with_reducible rfl)
local macro_rules | `(tactic| walk_at "use") => `(tactic| fail "use")
local macro_rules | `(tactic| walk_at "go1") => `(tactic| with_reducible first | refine g_seq ?_ | refine g_asg ?_ | refine g_ret ?_ | refine g_ifS ?_ | refine g_drop ?_ | refine g_star ?_ | refine g_nx ?_ | refine g_rt ?_ | refine g_bkE ?_ | refine g_ctE ?_ | refine g_next ?_ | refine g_retN ?_ | refine g_brk ?_ | refine g_ct ?_ | refine g_c ?_ | refine g_op ?_ | refine g_un ?_ | refine g_rI0 ?_ | refine g_rU ?_ | refine g_rEqI ?_ | refine g_rNeI ?_ | refine g_isN ?_ | refine g_rIsB ?_ | refine g_rNotB ?_ | refine g_test ?_ | refine g_B ?_ | refine g_bl ?_ | refine g_and ?_ | refine g_or ?_ | refine g_not ?_ | refine g_andV ?_ | refine g_orV ?_ | refine g_notV ?_ | refine g_if ?_ | refine g_chain ?_ | refine g_yes ?_ | refine g_lc ?_ | refine g_revR ?_ | refine g_rng1 ?_ | refine g_iList ?_ | refine g_nil ?_ | refine g_cons ?_ | refine g_tup ?_ | refine g_lst ?_ | refine g_call ?_ | refine g_CB ?_ | refine g_sl ?_ | refine g_noPart ?_ | refine g_part ?_ | refine g_intE ?_ | refine g_ref ?_ | refine g_fld ?_ | refine g_sfld ?_ | refine g_meth ?_ | refine g_make ?_ | refine g_prop ?_  | refine g_ipI ?_ | refine g_int1 ?_ | refine g_int1B ?_ | refine g_one ?_ | refine g_two ?_ | refine g_isiI ?_ | refine g_isiIB ?_ | refine g_isiB ?_ | refine g_BM ?_ | refine g_BM0 ?_ | refine g_sub ?_)
local macro_rules | `(tactic| walk_at "go") => `(tactic| repeat (first | walk_at "go1" | ((with_reducible refine' g_nameE ?sd_ ?_); case sd_ => dsimp only [List.set_cons_succ, List.set_cons_zero]) | ((with_reducible refine' g_var ?sd_ ?_); case sd_ => exact rfl) | ((with_reducible refine' g_aug ?sd_ ?_); case sd_ => exact rfl) | ((with_reducible refine' g_rI ?sd_ ?_); case sd_ => walk_at "side") | ((with_reducible refine' g_dT ?sd_ ?_); case sd_ => walk_at "fact") | ((with_reducible refine' g_dF ?sd_ ?_); case sd_ => walk_at "fact") | ((with_reducible refine' g_nT ?sd_ ?_); case sd_ => walk_at "fact") | ((with_reducible refine' g_nF ?sd_ ?_); case sd_ => walk_at "fact") | (with_reducible refine g_iT rfl ?_) | (with_reducible refine g_iF rfl ?_) | walk_at "use"))
local macro_rules | `(tactic| walk_at "nw") => `(tactic| (generalize zq : upd _ _ _ = Hq; have sq : Same _ Hq := (by rw [← zq]; exact same_upd (by assumption)); have kq := (congrFun zq _).symm.trans upd_same; clear zq))
local macro_rules | `(tactic| walk_at "bt") => `(tactic| (generalize zq : upd _ _ _ = Hq; have bq : But _ _ Hq := (by rw [← zq]; exact But.refl.upd); have kq := (congrFun zq _).symm.trans upd_same; clear zq))
theorem all_mk {l : PySem.W.OpenLaw} {w : World} {K : PySem.W.Frag} {h : Heap} {mg : Str → Option Value} {fa : Addr} (X : K.In h) (G : h.Ns mainGlobals mg) (hfa : mg "law" = some (.ref fa))
    {t_CIRCLE : Tok} {t_FIRST_NUMBER_STEP : Tok} {t_MOST_TICKS : Tok} {t_MOST_UNDER_WAY : Tok} {C_InvalidOptions : Addr} {C_Segment : Addr} {C_Socket : Addr} {C_Control : Addr} {C_Cubic : Addr} {C_Reno : Addr} {C_RoundTrip : Addr} {C_OffsetSet : Addr} {C_Receiver : Addr} {C_Sender : Addr} {C_Endpoint : Addr} {C_Options : Addr} {tcc_Control_GREATEST : Tok} {f_Segment_init__ : Addr} {od_Segment_init__ an_Segment_init__ : Option Addr} {sl_Segment_init__ : Array (Option Value)} {oc_Segment_init__ dc_Segment_init__ pm_Segment_init__ cd_Segment_init__ ct_Segment_init__ : Value} {kd_Segment_init__ : Addr} {tk_Segment_init___window : Tok} {e_Segment_init___ranges : Addr} {eo_Segment_init___ranges : Option Addr} {en_Segment_init___ranges : Nat} {el_Segment_init___ranges : Array (Option Value)} {e_Segment_init___data : Addr} {eo_Segment_init___data : Option Addr} {en_Segment_init___data : Nat} {el_Segment_init___data : Array (Option Value)} {f_Socket_init__ : Addr} {od_Socket_init__ an_Socket_init__ : Option Addr} {sl_Socket_init__ : Array (Option Value)} {oc_Socket_init__ dc_Socket_init__ pm_Socket_init__ cd_Socket_init__ ct_Socket_init__ : Value} {kd_Socket_init__ : Addr} {f_Socket_is_for : Addr} {od_Socket_is_for an_Socket_is_for : Option Addr} {sl_Socket_is_for : Array (Option Value)} {oc_Socket_is_for kV_Socket_is_for dc_Socket_is_for pm_Socket_is_for cd_Socket_is_for ct_Socket_is_for : Value} {f_Socket_learn : Addr} {od_Socket_learn an_Socket_learn : Option Addr} {sl_Socket_learn : Array (Option Value)} {oc_Socket_learn kV_Socket_learn dc_Socket_learn pm_Socket_learn cd_Socket_learn ct_Socket_learn : Value} {f_Reno_init__ cda_Reno_init__ cc_Reno_init__ : Addr} {od_Reno_init__ an_Reno_init__ c3_Reno_init__ c4_Reno_init__ : Option Addr} {sl_Reno_init__ c5_Reno_init__ c6_Reno_init__ : Array (Option Value)} {oc_Reno_init__ kV_Reno_init__ dc_Reno_init__ pm_Reno_init__ ct_Reno_init__ c1_Reno_init__ c2_Reno_init__ : Value} {vs_Reno_init__ : Array Value} {fl_Reno_init__ : Str} {tf_Reno_init__ : Tok} {cdd_Reno_init__ : ClassData} {f_Reno_upper__init__ : Addr} {od_Reno_upper__init__ an_Reno_upper__init__ : Option Addr} {sl_Reno_upper__init__ : Array (Option Value)} {oc_Reno_upper__init__ kV_Reno_upper__init__ dc_Reno_upper__init__ pm_Reno_upper__init__ cd_Reno_upper__init__ ct_Reno_upper__init__ : Value} {f_Reno_bounded : Addr} {od_Reno_bounded an_Reno_bounded : Option Addr} {sl_Reno_bounded : Array (Option Value)} {oc_Reno_bounded kV_Reno_bounded dc_Reno_bounded pm_Reno_bounded cd_Reno_bounded ct_Reno_bounded : Value} {f_RoundTrip_init__ : Addr} {od_RoundTrip_init__ an_RoundTrip_init__ : Option Addr} {sl_RoundTrip_init__ : Array (Option Value)} {oc_RoundTrip_init__ kV_RoundTrip_init__ dc_RoundTrip_init__ pm_RoundTrip_init__ cd_RoundTrip_init__ ct_RoundTrip_init__ : Value} {f_RoundTrip_within_bounds : Addr} {od_RoundTrip_within_bounds an_RoundTrip_within_bounds : Option Addr} {sl_RoundTrip_within_bounds : Array (Option Value)} {oc_RoundTrip_within_bounds kV_RoundTrip_within_bounds dc_RoundTrip_within_bounds pm_RoundTrip_within_bounds cd_RoundTrip_within_bounds ct_RoundTrip_within_bounds : Value} {f_OffsetSet_init__ : Addr} {od_OffsetSet_init__ an_OffsetSet_init__ : Option Addr} {sl_OffsetSet_init__ : Array (Option Value)} {oc_OffsetSet_init__ dc_OffsetSet_init__ pm_OffsetSet_init__ cd_OffsetSet_init__ ct_OffsetSet_init__ : Value} {dt_OffsetSet_init__ : Addr} {do_OffsetSet_init__ : Option Addr} {dq_OffsetSet_init__ : Nat} {dl_OffsetSet_init__ : Array (Option Value)} {kV_OffsetSet_init__ : Value} {e_OffsetSet_init___ranges : Addr} {eo_OffsetSet_init___ranges : Option Addr} {en_OffsetSet_init___ranges : Nat} {el_OffsetSet_init___ranges : Array (Option Value)} {f_Receiver_init__ : Addr} {od_Receiver_init__ an_Receiver_init__ : Option Addr} {sl_Receiver_init__ : Array (Option Value)} {oc_Receiver_init__ kV_Receiver_init__ dc_Receiver_init__ pm_Receiver_init__ cd_Receiver_init__ ct_Receiver_init__ : Value} {f_Sender_init__ : Addr} {od_Sender_init__ an_Sender_init__ : Option Addr} {sl_Sender_init__ : Array (Option Value)} {oc_Sender_init__ kV_Sender_init__ dc_Sender_init__ pm_Sender_init__ cd_Sender_init__ ct_Sender_init__ : Value} {f_Endpoint_init__ : Addr} {od_Endpoint_init__ an_Endpoint_init__ : Option Addr} {sl_Endpoint_init__ : Array (Option Value)} {oc_Endpoint_init__ kV_Endpoint_init__ dc_Endpoint_init__ pm_Endpoint_init__ cd_Endpoint_init__ ct_Endpoint_init__ : Value} {f_Endpoint_has_ended : Addr} {od_Endpoint_has_ended an_Endpoint_has_ended : Option Addr} {sl_Endpoint_has_ended : Array (Option Value)} {oc_Endpoint_has_ended kV_Endpoint_has_ended dc_Endpoint_has_ended pm_Endpoint_has_ended cd_Endpoint_has_ended ct_Endpoint_has_ended : Value} {p0_Endpoint_has_ended : Addr} {pr_Endpoint_has_ended : List Value} {f_Endpoint_abort : Addr} {od_Endpoint_abort an_Endpoint_abort : Option Addr} {sl_Endpoint_abort : Array (Option Value)} {oc_Endpoint_abort kV_Endpoint_abort dc_Endpoint_abort pm_Endpoint_abort cd_Endpoint_abort ct_Endpoint_abort : Value} {f_Endpoint_end : Addr} {od_Endpoint_end an_Endpoint_end : Option Addr} {sl_Endpoint_end : Array (Option Value)} {oc_Endpoint_end kV_Endpoint_end dc_Endpoint_end pm_Endpoint_end cd_Endpoint_end ct_Endpoint_end : Value} {f_new_control : Addr} {od_new_control an_new_control : Option Addr} {sl_new_control : Array (Option Value)} {oc_new_control kV_new_control dc_new_control pm_new_control cd_new_control ct_new_control : Value} {f_Options_init__ : Addr} {od_Options_init__ an_Options_init__ : Option Addr} {sl_Options_init__ : Array (Option Value)} {oc_Options_init__ dc_Options_init__ pm_Options_init__ cd_Options_init__ ct_Options_init__ : Value} {kd_Options_init__ : Addr} {tk_Options_init___ack_delay : Tok} {tk_Options_init___keep_alive : Tok} {tk_Options_init___control : Tok} {f_Options_fork : Addr} {od_Options_fork an_Options_fork : Option Addr} {sl_Options_fork : Array (Option Value)} {oc_Options_fork kV_Options_fork dc_Options_fork pm_Options_fork cd_Options_fork ct_Options_fork : Value} {f_Options_wrong_names : Addr} {od_Options_wrong_names an_Options_wrong_names : Option Addr} {sl_Options_wrong_names : Array (Option Value)} {oc_Options_wrong_names kV_Options_wrong_names dc_Options_wrong_names pm_Options_wrong_names cd_Options_wrong_names ct_Options_wrong_names : Value} {f_l_rows : Addr} {od_l_rows an_l_rows : Option Addr} {sl_l_rows : Array (Option Value)} {oc_l_rows kV_l_rows dc_l_rows pm_l_rows cd_l_rows ct_l_rows : Value} {f_l_pick : Addr} {od_l_pick an_l_pick : Option Addr} {sl_l_pick : Array (Option Value)} {oc_l_pick kV_l_pick dc_l_pick pm_l_pick cd_l_pick ct_l_pick : Value} {f_law : Addr} {od_law an_law : Option Addr} {sl_law : Array (Option Value)} {oc_law kV_law dc_law pm_law cd_law ct_law : Value}
    (v_CIRCLE : PySem.W.nsIn K mainGlobals "CIRCLE" = some (some (.int 4294967296 t_CIRCLE)))
    (v_FIRST_NUMBER_STEP : PySem.W.nsIn K mainGlobals "FIRST_NUMBER_STEP" = some (some (.int 2654435761 t_FIRST_NUMBER_STEP)))
    (v_MOST_TICKS : PySem.W.nsIn K mainGlobals "MOST_TICKS" = some (some (.int 1073741824 t_MOST_TICKS)))
    (v_MOST_UNDER_WAY : PySem.W.nsIn K mainGlobals "MOST_UNDER_WAY" = some (some (.int 1073741824 t_MOST_UNDER_WAY)))
    (c_InvalidOptions : PySem.W.nsIn K mainGlobals "InvalidOptions" = some (some (.ref C_InvalidOptions)))
    (be_InvalidOptions : PySem.W.subIn K (.ref C_InvalidOptions) (.type "BaseException") = some true)
    (te_InvalidOptions : PySem.W.typeIn K (.ref C_InvalidOptions) = some (.type "type"))
    (hd_InvalidOptions : PySem.W.hasDictIn K C_InvalidOptions = true)
    (ic_InvalidOptions : PySem.W.isClsIn K C_InvalidOptions = true)
    (xP_InvalidOptions : PySem.W.excIn K C_InvalidOptions [.type "ValueError", .type "Exception", .type "BaseException", .type "object"] "ValueError.__new__" = true)
    (ke_InvalidOptions : PySem.W.keepIn K (.ref C_InvalidOptions) = true)
    (c_Segment : PySem.W.nsIn K mainGlobals "Segment" = some (some (.ref C_Segment)))
    (pg_Segment : PySem.W.plainGet K C_Segment Str.empty = true)
    (hd_Segment : PySem.W.hasDictIn K C_Segment = true)
    (po_Segment : PySem.W.plainOver K C_Segment = true)
    (sa_Segment : PySem.W.findIn K (.ref C_Segment) "__setattr__" = some (some (.builtin "object.__setattr__")))
    (mk0_Segment : PySem.W.makesIn K C_Segment = true)
    (kc_Segment : PySem.W.keepIn K (.ref C_Segment) = true)
    (ha_Segment : PySem.W.findIn K (.ref C_Segment) "__class__" = some (some (.builtin "object.__class__")))
    (hm_Segment : PySem.W.mroIn K C_Segment (.type "object") = some true)
    (hn_all : PySem.W.specialIn K (.builtin "object.__class__") "__get__" = some (some (.builtin "getset_descriptor.__get__")))
    (ht_all : PySem.W.takesIn K (.builtin "object.__class__") = some true)
    (n_Segment_source : PySem.W.findIn K (.ref C_Segment) "source" = some none)
    (n_Segment_target : PySem.W.findIn K (.ref C_Segment) "target" = some none)
    (n_Segment_seq : PySem.W.findIn K (.ref C_Segment) "seq" = some none)
    (n_Segment_count : PySem.W.findIn K (.ref C_Segment) "count" = some none)
    (n_Segment_echo : PySem.W.findIn K (.ref C_Segment) "echo" = some none)
    (n_Segment_ack : PySem.W.findIn K (.ref C_Segment) "ack" = some none)
    (n_Segment_syn : PySem.W.findIn K (.ref C_Segment) "syn" = some none)
    (n_Segment_fin : PySem.W.findIn K (.ref C_Segment) "fin" = some none)
    (n_Segment_reset : PySem.W.findIn K (.ref C_Segment) "reset" = some none)
    (n_Segment_marked : PySem.W.findIn K (.ref C_Segment) "marked" = some none)
    (n_Segment_cut : PySem.W.findIn K (.ref C_Segment) "cut" = some none)
    (n_Segment_window : PySem.W.findIn K (.ref C_Segment) "window" = some none)
    (n_Segment_mss : PySem.W.findIn K (.ref C_Segment) "mss" = some none)
    (n_Segment_scale : PySem.W.findIn K (.ref C_Segment) "scale" = some none)
    (n_Segment_ranges_known : PySem.W.findIn K (.ref C_Segment) "ranges_known" = some none)
    (n_Segment_ranges : PySem.W.findIn K (.ref C_Segment) "ranges" = some none)
    (n_Segment_stamp : PySem.W.findIn K (.ref C_Segment) "stamp" = some none)
    (n_Segment_data : PySem.W.findIn K (.ref C_Segment) "data" = some none)
    (c_Socket : PySem.W.nsIn K mainGlobals "Socket" = some (some (.ref C_Socket)))
    (pg_Socket : PySem.W.plainGet K C_Socket Str.empty = true)
    (hd_Socket : PySem.W.hasDictIn K C_Socket = true)
    (po_Socket : PySem.W.plainOver K C_Socket = true)
    (sa_Socket : PySem.W.findIn K (.ref C_Socket) "__setattr__" = some (some (.builtin "object.__setattr__")))
    (mk0_Socket : PySem.W.makesIn K C_Socket = true)
    (kc_Socket : PySem.W.keepIn K (.ref C_Socket) = true)
    (n_Socket_count : PySem.W.findIn K (.ref C_Socket) "count" = some none)
    (n_Socket_port : PySem.W.findIn K (.ref C_Socket) "port" = some none)
    (n_Socket_peer : PySem.W.findIn K (.ref C_Socket) "peer" = some none)
    (n_Socket_peer_port : PySem.W.findIn K (.ref C_Socket) "peer_port" = some none)
    (n_Socket_peer_count : PySem.W.findIn K (.ref C_Socket) "peer_count" = some none)
    (n_Socket_peer_first : PySem.W.findIn K (.ref C_Socket) "peer_first" = some none)
    (n_Socket_peer_shift : PySem.W.findIn K (.ref C_Socket) "peer_shift" = some none)
    (n_Socket_listened : PySem.W.findIn K (.ref C_Socket) "listened" = some none)
    (n_Socket_accepted : PySem.W.findIn K (.ref C_Socket) "accepted" = some none)
    (n_Socket_endpoint : PySem.W.findIn K (.ref C_Socket) "endpoint" = some none)
    (c_Control : PySem.W.nsIn K mainGlobals "Control" = some (some (.ref C_Control)))
    (pg_Control : PySem.W.plainGet K C_Control Str.empty = true)
    (hd_Control : PySem.W.hasDictIn K C_Control = true)
    (po_Control : PySem.W.plainOver K C_Control = true)
    (sa_Control : PySem.W.findIn K (.ref C_Control) "__setattr__" = some (some (.builtin "object.__setattr__")))
    (mk0_Control : PySem.W.makesIn K C_Control = true)
    (kc_Control : PySem.W.keepIn K (.ref C_Control) = true)
    (c_Cubic : PySem.W.nsIn K mainGlobals "Cubic" = some (some (.ref C_Cubic)))
    (pg_Cubic : PySem.W.plainGet K C_Cubic Str.empty = true)
    (hd_Cubic : PySem.W.hasDictIn K C_Cubic = true)
    (po_Cubic : PySem.W.plainOver K C_Cubic = true)
    (sa_Cubic : PySem.W.findIn K (.ref C_Cubic) "__setattr__" = some (some (.builtin "object.__setattr__")))
    (mk0_Cubic : PySem.W.makesIn K C_Cubic = true)
    (kc_Cubic : PySem.W.keepIn K (.ref C_Cubic) = true)
    (c_Reno : PySem.W.nsIn K mainGlobals "Reno" = some (some (.ref C_Reno)))
    (pg_Reno : PySem.W.plainGet K C_Reno Str.empty = true)
    (hd_Reno : PySem.W.hasDictIn K C_Reno = true)
    (po_Reno : PySem.W.plainOver K C_Reno = true)
    (sa_Reno : PySem.W.findIn K (.ref C_Reno) "__setattr__" = some (some (.builtin "object.__setattr__")))
    (mk0_Reno : PySem.W.makesIn K C_Reno = true)
    (kc_Reno : PySem.W.keepIn K (.ref C_Reno) = true)
    (n_Reno_cwnd : PySem.W.findIn K (.ref C_Reno) "cwnd" = some none)
    (n_Reno_thresh : PySem.W.findIn K (.ref C_Reno) "thresh" = some none)
    (n_Reno_peak : PySem.W.findIn K (.ref C_Reno) "peak" = some none)
    (n_Reno_prior : PySem.W.findIn K (.ref C_Reno) "prior" = some none)
    (n_Reno_calm : PySem.W.findIn K (.ref C_Reno) "calm" = some none)
    (n_Reno_credit : PySem.W.findIn K (.ref C_Reno) "credit" = some none)
    (c_RoundTrip : PySem.W.nsIn K mainGlobals "RoundTrip" = some (some (.ref C_RoundTrip)))
    (pg_RoundTrip : PySem.W.plainGet K C_RoundTrip Str.empty = true)
    (hd_RoundTrip : PySem.W.hasDictIn K C_RoundTrip = true)
    (po_RoundTrip : PySem.W.plainOver K C_RoundTrip = true)
    (sa_RoundTrip : PySem.W.findIn K (.ref C_RoundTrip) "__setattr__" = some (some (.builtin "object.__setattr__")))
    (mk0_RoundTrip : PySem.W.makesIn K C_RoundTrip = true)
    (kc_RoundTrip : PySem.W.keepIn K (.ref C_RoundTrip) = true)
    (n_RoundTrip_least : PySem.W.findIn K (.ref C_RoundTrip) "least" = some none)
    (n_RoundTrip_most : PySem.W.findIn K (.ref C_RoundTrip) "most" = some none)
    (n_RoundTrip_srtt : PySem.W.findIn K (.ref C_RoundTrip) "srtt" = some none)
    (n_RoundTrip_variance : PySem.W.findIn K (.ref C_RoundTrip) "variance" = some none)
    (n_RoundTrip_rto : PySem.W.findIn K (.ref C_RoundTrip) "rto" = some none)
    (n_RoundTrip_measured : PySem.W.findIn K (.ref C_RoundTrip) "measured" = some none)
    (c_OffsetSet : PySem.W.nsIn K mainGlobals "OffsetSet" = some (some (.ref C_OffsetSet)))
    (pg_OffsetSet : PySem.W.plainGet K C_OffsetSet Str.empty = true)
    (hd_OffsetSet : PySem.W.hasDictIn K C_OffsetSet = true)
    (po_OffsetSet : PySem.W.plainOver K C_OffsetSet = true)
    (sa_OffsetSet : PySem.W.findIn K (.ref C_OffsetSet) "__setattr__" = some (some (.builtin "object.__setattr__")))
    (mk0_OffsetSet : PySem.W.makesIn K C_OffsetSet = true)
    (kc_OffsetSet : PySem.W.keepIn K (.ref C_OffsetSet) = true)
    (ha_OffsetSet : PySem.W.findIn K (.ref C_OffsetSet) "__class__" = some (some (.builtin "object.__class__")))
    (hm_OffsetSet : PySem.W.mroIn K C_OffsetSet (.type "object") = some true)
    (n_OffsetSet__ranges : PySem.W.findIn K (.ref C_OffsetSet) "_ranges" = some none)
    (c_Receiver : PySem.W.nsIn K mainGlobals "Receiver" = some (some (.ref C_Receiver)))
    (pg_Receiver : PySem.W.plainGet K C_Receiver Str.empty = true)
    (hd_Receiver : PySem.W.hasDictIn K C_Receiver = true)
    (po_Receiver : PySem.W.plainOver K C_Receiver = true)
    (sa_Receiver : PySem.W.findIn K (.ref C_Receiver) "__setattr__" = some (some (.builtin "object.__setattr__")))
    (mk0_Receiver : PySem.W.makesIn K C_Receiver = true)
    (kc_Receiver : PySem.W.keepIn K (.ref C_Receiver) = true)
    (n_Receiver_room : PySem.W.findIn K (.ref C_Receiver) "room" = some none)
    (n_Receiver_nxt : PySem.W.findIn K (.ref C_Receiver) "nxt" = some none)
    (n_Receiver_edge : PySem.W.findIn K (.ref C_Receiver) "edge" = some none)
    (n_Receiver_end : PySem.W.findIn K (.ref C_Receiver) "end" = some none)
    (n_Receiver_recent : PySem.W.findIn K (.ref C_Receiver) "recent" = some none)
    (n_Receiver__ready : PySem.W.findIn K (.ref C_Receiver) "_ready" = some none)
    (n_Receiver__held : PySem.W.findIn K (.ref C_Receiver) "_held" = some none)
    (n_Receiver__held_offsets : PySem.W.findIn K (.ref C_Receiver) "_held_offsets" = some none)
    (c_Sender : PySem.W.nsIn K mainGlobals "Sender" = some (some (.ref C_Sender)))
    (pg_Sender : PySem.W.plainGet K C_Sender Str.empty = true)
    (hd_Sender : PySem.W.hasDictIn K C_Sender = true)
    (po_Sender : PySem.W.plainOver K C_Sender = true)
    (sa_Sender : PySem.W.findIn K (.ref C_Sender) "__setattr__" = some (some (.builtin "object.__setattr__")))
    (mk0_Sender : PySem.W.makesIn K C_Sender = true)
    (kc_Sender : PySem.W.keepIn K (.ref C_Sender) = true)
    (n_Sender_room : PySem.W.findIn K (.ref C_Sender) "room" = some none)
    (n_Sender_una : PySem.W.findIn K (.ref C_Sender) "una" = some none)
    (n_Sender_nxt : PySem.W.findIn K (.ref C_Sender) "nxt" = some none)
    (n_Sender_written : PySem.W.findIn K (.ref C_Sender) "written" = some none)
    (n_Sender_finished : PySem.W.findIn K (.ref C_Sender) "finished" = some none)
    (n_Sender_edge : PySem.W.findIn K (.ref C_Sender) "edge" = some none)
    (n_Sender_recovery : PySem.W.findIn K (.ref C_Sender) "recovery" = some none)
    (n_Sender_resend : PySem.W.findIn K (.ref C_Sender) "resend" = some none)
    (n_Sender_lost : PySem.W.findIn K (.ref C_Sender) "lost" = some none)
    (n_Sender_repeated : PySem.W.findIn K (.ref C_Sender) "repeated" = some none)
    (n_Sender__queue : PySem.W.findIn K (.ref C_Sender) "_queue" = some none)
    (n_Sender__sacked : PySem.W.findIn K (.ref C_Sender) "_sacked" = some none)
    (c_Endpoint : PySem.W.nsIn K mainGlobals "Endpoint" = some (some (.ref C_Endpoint)))
    (pg_Endpoint : PySem.W.plainGet K C_Endpoint Str.empty = true)
    (hd_Endpoint : PySem.W.hasDictIn K C_Endpoint = true)
    (po_Endpoint : PySem.W.plainOver K C_Endpoint = true)
    (sa_Endpoint : PySem.W.findIn K (.ref C_Endpoint) "__setattr__" = some (some (.builtin "object.__setattr__")))
    (mk0_Endpoint : PySem.W.makesIn K C_Endpoint = true)
    (kc_Endpoint : PySem.W.keepIn K (.ref C_Endpoint) = true)
    (n_Endpoint_options : PySem.W.findIn K (.ref C_Endpoint) "options" = some none)
    (n_Endpoint_sender : PySem.W.findIn K (.ref C_Endpoint) "sender" = some none)
    (n_Endpoint_receiver : PySem.W.findIn K (.ref C_Endpoint) "receiver" = some none)
    (n_Endpoint_trip : PySem.W.findIn K (.ref C_Endpoint) "trip" = some none)
    (n_Endpoint_control : PySem.W.findIn K (.ref C_Endpoint) "control" = some none)
    (n_Endpoint_phase : PySem.W.findIn K (.ref C_Endpoint) "phase" = some none)
    (n_Endpoint_cause : PySem.W.findIn K (.ref C_Endpoint) "cause" = some none)
    (n_Endpoint_mss : PySem.W.findIn K (.ref C_Endpoint) "mss" = some none)
    (n_Endpoint_selective : PySem.W.findIn K (.ref C_Endpoint) "selective" = some none)
    (n_Endpoint_alarm : PySem.W.findIn K (.ref C_Endpoint) "alarm" = some none)
    (n_Endpoint_since : PySem.W.findIn K (.ref C_Endpoint) "since" = some none)
    (n_Endpoint_ack_at : PySem.W.findIn K (.ref C_Endpoint) "ack_at" = some none)
    (n_Endpoint_late : PySem.W.findIn K (.ref C_Endpoint) "late" = some none)
    (n_Endpoint_asked : PySem.W.findIn K (.ref C_Endpoint) "asked" = some none)
    (n_Endpoint_again : PySem.W.findIn K (.ref C_Endpoint) "again" = some none)
    (n_Endpoint_probe : PySem.W.findIn K (.ref C_Endpoint) "probe" = some none)
    (n_Endpoint_over : PySem.W.findIn K (.ref C_Endpoint) "over" = some none)
    (n_Endpoint_rest : PySem.W.findIn K (.ref C_Endpoint) "rest" = some none)
    (n_Endpoint_spent_at : PySem.W.findIn K (.ref C_Endpoint) "spent_at" = some none)
    (n_Endpoint_spent : PySem.W.findIn K (.ref C_Endpoint) "spent" = some none)
    (n_Endpoint_stamp : PySem.W.findIn K (.ref C_Endpoint) "stamp" = some none)
    (n_Endpoint_marked : PySem.W.findIn K (.ref C_Endpoint) "marked" = some none)
    (n_Endpoint_cut : PySem.W.findIn K (.ref C_Endpoint) "cut" = some none)
    (c_Options : PySem.W.nsIn K mainGlobals "Options" = some (some (.ref C_Options)))
    (pg_Options : PySem.W.plainGet K C_Options Str.empty = true)
    (hd_Options : PySem.W.hasDictIn K C_Options = true)
    (po_Options : PySem.W.plainOver K C_Options = true)
    (sa_Options : PySem.W.findIn K (.ref C_Options) "__setattr__" = some (some (.builtin "object.__setattr__")))
    (mk0_Options : PySem.W.makesIn K C_Options = true)
    (kc_Options : PySem.W.keepIn K (.ref C_Options) = true)
    (ha_Options : PySem.W.findIn K (.ref C_Options) "__class__" = some (some (.builtin "object.__class__")))
    (hm_Options : PySem.W.mroIn K C_Options (.type "object") = some true)
    (n_Options_mss : PySem.W.findIn K (.ref C_Options) "mss" = some none)
    (n_Options_room : PySem.W.findIn K (.ref C_Options) "room" = some none)
    (n_Options_life : PySem.W.findIn K (.ref C_Options) "life" = some none)
    (n_Options_pace : PySem.W.findIn K (.ref C_Options) "pace" = some none)
    (n_Options_tries : PySem.W.findIn K (.ref C_Options) "tries" = some none)
    (n_Options_min_rto : PySem.W.findIn K (.ref C_Options) "min_rto" = some none)
    (n_Options_max_rto : PySem.W.findIn K (.ref C_Options) "max_rto" = some none)
    (n_Options_ack_delay : PySem.W.findIn K (.ref C_Options) "ack_delay" = some none)
    (n_Options_keep_alive : PySem.W.findIn K (.ref C_Options) "keep_alive" = some none)
    (n_Options_nagle : PySem.W.findIn K (.ref C_Options) "nagle" = some none)
    (n_Options_control : PySem.W.findIn K (.ref C_Options) "control" = some none)
    (rd_Control : PySem.W.readsIn K C_Control (.type "type") = true)
    (gg_Control : PySem.W.specialIn K (.ref C_Control) "__getattribute__" = some (some (.builtin "type.__getattribute__")))
    (cva_Control_GREATEST : PySem.W.findCls K (.ref C_Control) (.type "type") "GREATEST" = some (.val (.int 1073741824 tcc_Control_GREATEST)))
    (a_Segment_init__ : PySem.W.findIn K (.ref C_Segment) "__init__" = some (some (.ref f_Segment_init__)))
    (i_Segment_init__ : PySem.W.isFn K (.ref f_Segment_init__) = true)
    (l_Segment_init__ : K.lookup f_Segment_init__ = some ⟨oc_Segment_init__, od_Segment_init__, .func (PySem.W.fnOf "__init__" "Segment.__init__" (defArgs s_Segment_init__) (defBody s_Segment_init__) (defScope s_Segment_init__) .none (.ref kd_Segment_init__) dc_Segment_init__ pm_Segment_init__ an_Segment_init__ cd_Segment_init__ ct_Segment_init__), sl_Segment_init__⟩)
    (kw_Segment_init___echo : PySem.W.nsIn K kd_Segment_init__ "echo" = some (some .none))
    (kw_Segment_init___ack : PySem.W.nsIn K kd_Segment_init__ "ack" = some (some .none))
    (kw_Segment_init___syn : PySem.W.nsIn K kd_Segment_init__ "syn" = some (some (.bool false)))
    (kw_Segment_init___fin : PySem.W.nsIn K kd_Segment_init__ "fin" = some (some (.bool false)))
    (kw_Segment_init___reset : PySem.W.nsIn K kd_Segment_init__ "reset" = some (some (.bool false)))
    (kw_Segment_init___marked : PySem.W.nsIn K kd_Segment_init__ "marked" = some (some (.bool false)))
    (kw_Segment_init___cut : PySem.W.nsIn K kd_Segment_init__ "cut" = some (some (.bool false)))
    (kw_Segment_init___window : PySem.W.nsIn K kd_Segment_init__ "window" = some (some (.int 0 tk_Segment_init___window)))
    (kw_Segment_init___mss : PySem.W.nsIn K kd_Segment_init__ "mss" = some (some .none))
    (kw_Segment_init___scale : PySem.W.nsIn K kd_Segment_init__ "scale" = some (some .none))
    (kw_Segment_init___ranges_known : PySem.W.nsIn K kd_Segment_init__ "ranges_known" = some (some (.bool false)))
    (kw_Segment_init___ranges : PySem.W.nsIn K kd_Segment_init__ "ranges" = some (some (.ref e_Segment_init___ranges)))
    (el0_Segment_init___ranges : K.lookup e_Segment_init___ranges = some ⟨.type "tuple", eo_Segment_init___ranges, .seq #[] en_Segment_init___ranges, el_Segment_init___ranges⟩)
    (kw_Segment_init___stamp : PySem.W.nsIn K kd_Segment_init__ "stamp" = some (some .none))
    (kw_Segment_init___data : PySem.W.nsIn K kd_Segment_init__ "data" = some (some (.ref e_Segment_init___data)))
    (el0_Segment_init___data : K.lookup e_Segment_init___data = some ⟨.type "tuple", eo_Segment_init___data, .seq #[] en_Segment_init___data, el_Segment_init___data⟩)
    (cc_Segment_init__ : PySem.W.codeIn K cd_Segment_init__ "Segment.__init__" = true)
    (kk_Segment_init__ : PySem.W.keepIn K (.ref f_Segment_init__) = true)
    (a_Socket_init__ : PySem.W.findIn K (.ref C_Socket) "__init__" = some (some (.ref f_Socket_init__)))
    (i_Socket_init__ : PySem.W.isFn K (.ref f_Socket_init__) = true)
    (l_Socket_init__ : K.lookup f_Socket_init__ = some ⟨oc_Socket_init__, od_Socket_init__, .func (PySem.W.fnOf "__init__" "Socket.__init__" (defArgs s_Socket_init__) (defBody s_Socket_init__) (defScope s_Socket_init__) .none (.ref kd_Socket_init__) dc_Socket_init__ pm_Socket_init__ an_Socket_init__ cd_Socket_init__ ct_Socket_init__), sl_Socket_init__⟩)
    (kw_Socket_init___listened : PySem.W.nsIn K kd_Socket_init__ "listened" = some (some (.bool false)))
    (cc_Socket_init__ : PySem.W.codeIn K cd_Socket_init__ "Socket.__init__" = true)
    (kk_Socket_init__ : PySem.W.keepIn K (.ref f_Socket_init__) = true)
    (a_Socket_is_for : PySem.W.findIn K (.ref C_Socket) "is_for" = some (some (.ref f_Socket_is_for)))
    (i_Socket_is_for : PySem.W.isFn K (.ref f_Socket_is_for) = true)
    (l_Socket_is_for : K.lookup f_Socket_is_for = some ⟨oc_Socket_is_for, od_Socket_is_for, .func (PySem.W.fnOf "is_for" "Socket.is_for" (defArgs s_Socket_is_for) (defBody s_Socket_is_for) (defScope s_Socket_is_for) .none kV_Socket_is_for dc_Socket_is_for pm_Socket_is_for an_Socket_is_for cd_Socket_is_for ct_Socket_is_for), sl_Socket_is_for⟩)
    (cc_Socket_is_for : PySem.W.codeIn K cd_Socket_is_for "Socket.is_for" = true)
    (kk_Socket_is_for : PySem.W.keepIn K (.ref f_Socket_is_for) = true)
    (a_Socket_learn : PySem.W.findIn K (.ref C_Socket) "learn" = some (some (.ref f_Socket_learn)))
    (i_Socket_learn : PySem.W.isFn K (.ref f_Socket_learn) = true)
    (l_Socket_learn : K.lookup f_Socket_learn = some ⟨oc_Socket_learn, od_Socket_learn, .func (PySem.W.fnOf "learn" "Socket.learn" (defArgs s_Socket_learn) (defBody s_Socket_learn) (defScope s_Socket_learn) .none kV_Socket_learn dc_Socket_learn pm_Socket_learn an_Socket_learn cd_Socket_learn ct_Socket_learn), sl_Socket_learn⟩)
    (cc_Socket_learn : PySem.W.codeIn K cd_Socket_learn "Socket.learn" = true)
    (kk_Socket_learn : PySem.W.keepIn K (.ref f_Socket_learn) = true)
    (a_Reno_init__ : PySem.W.findIn K (.ref C_Reno) "__init__" = some (some (.ref f_Reno_init__)))
    (i_Reno_init__ : PySem.W.isFn K (.ref f_Reno_init__) = true)
    (l_Reno_init__ : K.lookup f_Reno_init__ = some ⟨oc_Reno_init__, od_Reno_init__, .func (PySem.W.fnX "__init__" "Reno.__init__" (defArgs s_Reno_init__) (defBody s_Reno_init__) (defScope s_Reno_init__) [("__class__", cc_Reno_init__)] .none kV_Reno_init__ dc_Reno_init__ pm_Reno_init__ an_Reno_init__ (.ref cda_Reno_init__) ct_Reno_init__), sl_Reno_init__⟩)
    (cc0_Reno_init__ : PySem.W.codeIn K (.ref cda_Reno_init__) "Reno.__init__" = true)
    (kk_Reno_init__ : PySem.W.keepIn K (.ref f_Reno_init__) = true)
    (la_Reno_init__ : K.lookup cda_Reno_init__ = some ⟨c1_Reno_init__, c3_Reno_init__, .fields vs_Reno_init__, c5_Reno_init__⟩)
    (lv_Reno_init__ : vs_Reno_init__[2]? = some (.str fl_Reno_init__ tf_Reno_init__))
    (lf_Reno_init__ : ((l.prog.main.file : Str) == fl_Reno_init__) = true)
    (le_Reno_init__ : K.lookup cc_Reno_init__ = some ⟨c2_Reno_init__, c4_Reno_init__, .cell (some (.ref C_Reno)), c6_Reno_init__⟩)
    (ld_Reno_init__ : PySem.W.clsIn K C_Reno = some cdd_Reno_init__)
    (ls_Reno_init__ : PySem.W.mroIn K C_Reno (.ref C_Reno) = some true)
    (lt_Reno_init__ : (l.prog.main.scope.names.lookup ("super" : Str)).isSome = false)
    (lu_Reno_init__ : PySem.W.ks_superIn K C_Reno C_Reno "__init__" = some (some (.ref f_Reno_upper__init__)))
    (ly_Reno_init__ : PySem.W.typeIn K (.ref f_Reno_upper__init__) = some (.type "function"))
    (ln_Reno_init__ : PySem.W.fnIn K f_Reno_upper__init__ = true)
    (lo_Reno_init__ : PySem.W.nsIn K cStatics "thirdparty.any" = some none)
    (l_Reno_upper__init__ : K.lookup f_Reno_upper__init__ = some ⟨oc_Reno_upper__init__, od_Reno_upper__init__, .func (PySem.W.fnOf "__init__" "Control.__init__" (defArgs s_Reno_upper__init__) (defBody s_Reno_upper__init__) (defScope s_Reno_upper__init__) .none kV_Reno_upper__init__ dc_Reno_upper__init__ pm_Reno_upper__init__ an_Reno_upper__init__ cd_Reno_upper__init__ ct_Reno_upper__init__), sl_Reno_upper__init__⟩)
    (cc_Reno_upper__init__ : PySem.W.codeIn K cd_Reno_upper__init__ "Control.__init__" = true)
    (kk_Reno_upper__init__ : PySem.W.keepIn K (.ref f_Reno_upper__init__) = true)
    (a_Reno_bounded : PySem.W.findIn K (.ref C_Reno) "_bounded" = some (some (.ref f_Reno_bounded)))
    (i_Reno_bounded : PySem.W.isFn K (.ref f_Reno_bounded) = true)
    (l_Reno_bounded : K.lookup f_Reno_bounded = some ⟨oc_Reno_bounded, od_Reno_bounded, .func (PySem.W.fnOf "_bounded" "Control._bounded" (defArgs s_Reno_bounded) (defBody s_Reno_bounded) (defScope s_Reno_bounded) .none kV_Reno_bounded dc_Reno_bounded pm_Reno_bounded an_Reno_bounded cd_Reno_bounded ct_Reno_bounded), sl_Reno_bounded⟩)
    (cc_Reno_bounded : PySem.W.codeIn K cd_Reno_bounded "Control._bounded" = true)
    (kk_Reno_bounded : PySem.W.keepIn K (.ref f_Reno_bounded) = true)
    (a_RoundTrip_init__ : PySem.W.findIn K (.ref C_RoundTrip) "__init__" = some (some (.ref f_RoundTrip_init__)))
    (i_RoundTrip_init__ : PySem.W.isFn K (.ref f_RoundTrip_init__) = true)
    (l_RoundTrip_init__ : K.lookup f_RoundTrip_init__ = some ⟨oc_RoundTrip_init__, od_RoundTrip_init__, .func (PySem.W.fnOf "__init__" "RoundTrip.__init__" (defArgs s_RoundTrip_init__) (defBody s_RoundTrip_init__) (defScope s_RoundTrip_init__) .none kV_RoundTrip_init__ dc_RoundTrip_init__ pm_RoundTrip_init__ an_RoundTrip_init__ cd_RoundTrip_init__ ct_RoundTrip_init__), sl_RoundTrip_init__⟩)
    (cc_RoundTrip_init__ : PySem.W.codeIn K cd_RoundTrip_init__ "RoundTrip.__init__" = true)
    (kk_RoundTrip_init__ : PySem.W.keepIn K (.ref f_RoundTrip_init__) = true)
    (a_RoundTrip_within_bounds : PySem.W.findIn K (.ref C_RoundTrip) "_within_bounds" = some (some (.ref f_RoundTrip_within_bounds)))
    (i_RoundTrip_within_bounds : PySem.W.isFn K (.ref f_RoundTrip_within_bounds) = true)
    (l_RoundTrip_within_bounds : K.lookup f_RoundTrip_within_bounds = some ⟨oc_RoundTrip_within_bounds, od_RoundTrip_within_bounds, .func (PySem.W.fnOf "_within_bounds" "RoundTrip._within_bounds" (defArgs s_RoundTrip_within_bounds) (defBody s_RoundTrip_within_bounds) (defScope s_RoundTrip_within_bounds) .none kV_RoundTrip_within_bounds dc_RoundTrip_within_bounds pm_RoundTrip_within_bounds an_RoundTrip_within_bounds cd_RoundTrip_within_bounds ct_RoundTrip_within_bounds), sl_RoundTrip_within_bounds⟩)
    (cc_RoundTrip_within_bounds : PySem.W.codeIn K cd_RoundTrip_within_bounds "RoundTrip._within_bounds" = true)
    (kk_RoundTrip_within_bounds : PySem.W.keepIn K (.ref f_RoundTrip_within_bounds) = true)
    (a_OffsetSet_init__ : PySem.W.findIn K (.ref C_OffsetSet) "__init__" = some (some (.ref f_OffsetSet_init__)))
    (i_OffsetSet_init__ : PySem.W.isFn K (.ref f_OffsetSet_init__) = true)
    (l_OffsetSet_init__ : K.lookup f_OffsetSet_init__ = some ⟨oc_OffsetSet_init__, od_OffsetSet_init__, .func (PySem.W.fnOf "__init__" "OffsetSet.__init__" (defArgs s_OffsetSet_init__) (defBody s_OffsetSet_init__) (defScope s_OffsetSet_init__) (.ref dt_OffsetSet_init__) kV_OffsetSet_init__ dc_OffsetSet_init__ pm_OffsetSet_init__ an_OffsetSet_init__ cd_OffsetSet_init__ ct_OffsetSet_init__), sl_OffsetSet_init__⟩)
    (dt0_OffsetSet_init__ : K.lookup dt_OffsetSet_init__ = some ⟨.type "tuple", do_OffsetSet_init__, .seq #[.ref e_OffsetSet_init___ranges] dq_OffsetSet_init__, dl_OffsetSet_init__⟩)
    (el0_OffsetSet_init___ranges : K.lookup e_OffsetSet_init___ranges = some ⟨.type "tuple", eo_OffsetSet_init___ranges, .seq #[] en_OffsetSet_init___ranges, el_OffsetSet_init___ranges⟩)
    (cc_OffsetSet_init__ : PySem.W.codeIn K cd_OffsetSet_init__ "OffsetSet.__init__" = true)
    (kk_OffsetSet_init__ : PySem.W.keepIn K (.ref f_OffsetSet_init__) = true)
    (a_Receiver_init__ : PySem.W.findIn K (.ref C_Receiver) "__init__" = some (some (.ref f_Receiver_init__)))
    (i_Receiver_init__ : PySem.W.isFn K (.ref f_Receiver_init__) = true)
    (l_Receiver_init__ : K.lookup f_Receiver_init__ = some ⟨oc_Receiver_init__, od_Receiver_init__, .func (PySem.W.fnOf "__init__" "Receiver.__init__" (defArgs s_Receiver_init__) (defBody s_Receiver_init__) (defScope s_Receiver_init__) .none kV_Receiver_init__ dc_Receiver_init__ pm_Receiver_init__ an_Receiver_init__ cd_Receiver_init__ ct_Receiver_init__), sl_Receiver_init__⟩)
    (cc_Receiver_init__ : PySem.W.codeIn K cd_Receiver_init__ "Receiver.__init__" = true)
    (kk_Receiver_init__ : PySem.W.keepIn K (.ref f_Receiver_init__) = true)
    (a_Sender_init__ : PySem.W.findIn K (.ref C_Sender) "__init__" = some (some (.ref f_Sender_init__)))
    (i_Sender_init__ : PySem.W.isFn K (.ref f_Sender_init__) = true)
    (l_Sender_init__ : K.lookup f_Sender_init__ = some ⟨oc_Sender_init__, od_Sender_init__, .func (PySem.W.fnOf "__init__" "Sender.__init__" (defArgs s_Sender_init__) (defBody s_Sender_init__) (defScope s_Sender_init__) .none kV_Sender_init__ dc_Sender_init__ pm_Sender_init__ an_Sender_init__ cd_Sender_init__ ct_Sender_init__), sl_Sender_init__⟩)
    (cc_Sender_init__ : PySem.W.codeIn K cd_Sender_init__ "Sender.__init__" = true)
    (kk_Sender_init__ : PySem.W.keepIn K (.ref f_Sender_init__) = true)
    (a_Endpoint_init__ : PySem.W.findIn K (.ref C_Endpoint) "__init__" = some (some (.ref f_Endpoint_init__)))
    (i_Endpoint_init__ : PySem.W.isFn K (.ref f_Endpoint_init__) = true)
    (l_Endpoint_init__ : K.lookup f_Endpoint_init__ = some ⟨oc_Endpoint_init__, od_Endpoint_init__, .func (PySem.W.fnOf "__init__" "Endpoint.__init__" (defArgs s_Endpoint_init__) (defBody s_Endpoint_init__) (defScope s_Endpoint_init__) .none kV_Endpoint_init__ dc_Endpoint_init__ pm_Endpoint_init__ an_Endpoint_init__ cd_Endpoint_init__ ct_Endpoint_init__), sl_Endpoint_init__⟩)
    (cc_Endpoint_init__ : PySem.W.codeIn K cd_Endpoint_init__ "Endpoint.__init__" = true)
    (kk_Endpoint_init__ : PySem.W.keepIn K (.ref f_Endpoint_init__) = true)
    (a_Endpoint_has_ended : PySem.W.findIn K (.ref C_Endpoint) "has_ended" = some (some (.ref p0_Endpoint_has_ended)))
    (pget_Endpoint_has_ended : PySem.W.specialIn K (.ref p0_Endpoint_has_ended) "__get__" = some (some (.builtin "property.__get__")))
    (ptak_Endpoint_has_ended : PySem.W.takesIn K (.ref p0_Endpoint_has_ended) = some true)
    (prec_Endpoint_has_ended : PySem.W.recIn K p0_Endpoint_has_ended "property" = some (.ref f_Endpoint_has_ended :: pr_Endpoint_has_ended))
    (l_Endpoint_has_ended : K.lookup f_Endpoint_has_ended = some ⟨oc_Endpoint_has_ended, od_Endpoint_has_ended, .func (PySem.W.fnOf "has_ended" "Endpoint.has_ended" (defArgs s_Endpoint_has_ended) (defBody s_Endpoint_has_ended) (defScope s_Endpoint_has_ended) .none kV_Endpoint_has_ended dc_Endpoint_has_ended pm_Endpoint_has_ended an_Endpoint_has_ended cd_Endpoint_has_ended ct_Endpoint_has_ended), sl_Endpoint_has_ended⟩)
    (cc_Endpoint_has_ended : PySem.W.codeIn K cd_Endpoint_has_ended "Endpoint.has_ended" = true)
    (kk_Endpoint_has_ended : PySem.W.keepIn K (.ref f_Endpoint_has_ended) = true)
    (a_Endpoint_abort : PySem.W.findIn K (.ref C_Endpoint) "abort" = some (some (.ref f_Endpoint_abort)))
    (i_Endpoint_abort : PySem.W.isFn K (.ref f_Endpoint_abort) = true)
    (l_Endpoint_abort : K.lookup f_Endpoint_abort = some ⟨oc_Endpoint_abort, od_Endpoint_abort, .func (PySem.W.fnOf "abort" "Endpoint.abort" (defArgs s_Endpoint_abort) (defBody s_Endpoint_abort) (defScope s_Endpoint_abort) .none kV_Endpoint_abort dc_Endpoint_abort pm_Endpoint_abort an_Endpoint_abort cd_Endpoint_abort ct_Endpoint_abort), sl_Endpoint_abort⟩)
    (cc_Endpoint_abort : PySem.W.codeIn K cd_Endpoint_abort "Endpoint.abort" = true)
    (kk_Endpoint_abort : PySem.W.keepIn K (.ref f_Endpoint_abort) = true)
    (a_Endpoint_end : PySem.W.findIn K (.ref C_Endpoint) "_end" = some (some (.ref f_Endpoint_end)))
    (i_Endpoint_end : PySem.W.isFn K (.ref f_Endpoint_end) = true)
    (l_Endpoint_end : K.lookup f_Endpoint_end = some ⟨oc_Endpoint_end, od_Endpoint_end, .func (PySem.W.fnOf "_end" "Endpoint._end" (defArgs s_Endpoint_end) (defBody s_Endpoint_end) (defScope s_Endpoint_end) .none kV_Endpoint_end dc_Endpoint_end pm_Endpoint_end an_Endpoint_end cd_Endpoint_end ct_Endpoint_end), sl_Endpoint_end⟩)
    (cc_Endpoint_end : PySem.W.codeIn K cd_Endpoint_end "Endpoint._end" = true)
    (kk_Endpoint_end : PySem.W.keepIn K (.ref f_Endpoint_end) = true)
    (a_new_control : PySem.W.nsIn K mainGlobals "_new_control" = some (some (.ref f_new_control)))
    (l_new_control : K.lookup f_new_control = some ⟨oc_new_control, od_new_control, .func (PySem.W.fnOf "_new_control" "_new_control" (defArgs s_new_control) (defBody s_new_control) (defScope s_new_control) .none kV_new_control dc_new_control pm_new_control an_new_control cd_new_control ct_new_control), sl_new_control⟩)
    (cc_new_control : PySem.W.codeIn K cd_new_control "_new_control" = true)
    (kk_new_control : PySem.W.keepIn K (.ref f_new_control) = true)
    (a_Options_init__ : PySem.W.findIn K (.ref C_Options) "__init__" = some (some (.ref f_Options_init__)))
    (i_Options_init__ : PySem.W.isFn K (.ref f_Options_init__) = true)
    (l_Options_init__ : K.lookup f_Options_init__ = some ⟨oc_Options_init__, od_Options_init__, .func (PySem.W.fnOf "__init__" "Options.__init__" (defArgs s_Options_init__) (defBody s_Options_init__) (defScope s_Options_init__) .none (.ref kd_Options_init__) dc_Options_init__ pm_Options_init__ an_Options_init__ cd_Options_init__ ct_Options_init__), sl_Options_init__⟩)
    (kw_Options_init___ack_delay : PySem.W.nsIn K kd_Options_init__ "ack_delay" = some (some (.int 0 tk_Options_init___ack_delay)))
    (kw_Options_init___keep_alive : PySem.W.nsIn K kd_Options_init__ "keep_alive" = some (some (.int 0 tk_Options_init___keep_alive)))
    (kw_Options_init___nagle : PySem.W.nsIn K kd_Options_init__ "nagle" = some (some (.bool false)))
    (kw_Options_init___control : PySem.W.nsIn K kd_Options_init__ "control" = some (some (.str (PySem.Str.ofString "reno") tk_Options_init___control)))
    (cc_Options_init__ : PySem.W.codeIn K cd_Options_init__ "Options.__init__" = true)
    (kk_Options_init__ : PySem.W.keepIn K (.ref f_Options_init__) = true)
    (a_Options_fork : PySem.W.findIn K (.ref C_Options) "fork" = some (some (.ref f_Options_fork)))
    (i_Options_fork : PySem.W.isFn K (.ref f_Options_fork) = true)
    (l_Options_fork : K.lookup f_Options_fork = some ⟨oc_Options_fork, od_Options_fork, .func (PySem.W.fnOf "fork" "Options.fork" (defArgs s_Options_fork) (defBody s_Options_fork) (defScope s_Options_fork) .none kV_Options_fork dc_Options_fork pm_Options_fork an_Options_fork cd_Options_fork ct_Options_fork), sl_Options_fork⟩)
    (cc_Options_fork : PySem.W.codeIn K cd_Options_fork "Options.fork" = true)
    (kk_Options_fork : PySem.W.keepIn K (.ref f_Options_fork) = true)
    (a_Options_wrong_names : PySem.W.findIn K (.ref C_Options) "_wrong_names" = some (some (.ref f_Options_wrong_names)))
    (i_Options_wrong_names : PySem.W.isFn K (.ref f_Options_wrong_names) = true)
    (l_Options_wrong_names : K.lookup f_Options_wrong_names = some ⟨oc_Options_wrong_names, od_Options_wrong_names, .func (PySem.W.fnOf "_wrong_names" "Options._wrong_names" (defArgs s_Options_wrong_names) (defBody s_Options_wrong_names) (defScope s_Options_wrong_names) .none kV_Options_wrong_names dc_Options_wrong_names pm_Options_wrong_names an_Options_wrong_names cd_Options_wrong_names ct_Options_wrong_names), sl_Options_wrong_names⟩)
    (cc_Options_wrong_names : PySem.W.codeIn K cd_Options_wrong_names "Options._wrong_names" = true)
    (kk_Options_wrong_names : PySem.W.keepIn K (.ref f_Options_wrong_names) = true)
    (a_l_rows : PySem.W.nsIn K mainGlobals "_law_rows" = some (some (.ref f_l_rows)))
    (l_l_rows : K.lookup f_l_rows = some ⟨oc_l_rows, od_l_rows, .func (PySem.W.fnOf "_law_rows" "_law_rows" (defArgs s_l_rows) (defBody s_l_rows) (defScope s_l_rows) .none kV_l_rows dc_l_rows pm_l_rows an_l_rows cd_l_rows ct_l_rows), sl_l_rows⟩)
    (cc_l_rows : PySem.W.codeIn K cd_l_rows "_law_rows" = true)
    (kk_l_rows : PySem.W.keepIn K (.ref f_l_rows) = true)
    (a_l_pick : PySem.W.nsIn K mainGlobals "_law_pick" = some (some (.ref f_l_pick)))
    (l_l_pick : K.lookup f_l_pick = some ⟨oc_l_pick, od_l_pick, .func (PySem.W.fnOf "_law_pick" "_law_pick" (defArgs s_l_pick) (defBody s_l_pick) (defScope s_l_pick) .none kV_l_pick dc_l_pick pm_l_pick an_l_pick cd_l_pick ct_l_pick), sl_l_pick⟩)
    (cc_l_pick : PySem.W.codeIn K cd_l_pick "_law_pick" = true)
    (kk_l_pick : PySem.W.keepIn K (.ref f_l_pick) = true)
    (a_law : PySem.W.nsIn K mainGlobals "law" = some (some (.ref f_law)))
    (l_law : K.lookup f_law = some ⟨oc_law, od_law, .func (PySem.W.fnOf "law" "law" (defArgs s_law) (defBody s_law) (defScope s_law) .none kV_law dc_law pm_law an_law cd_law ct_law), sl_law⟩)
    (cc_law : PySem.W.codeIn K cd_law "law" = true)
    (kk_law : PySem.W.keepIn K (.ref f_law) = true)
    (z_bool : PySem.W.nsIn K mainGlobals "bool" = some none)
    (z_int : PySem.W.nsIn K mainGlobals "int" = some none)
    (z_isinstance : PySem.W.nsIn K mainGlobals "isinstance" = some none)
    (z_len : PySem.W.nsIn K mainGlobals "len" = some none)
    (z_list : PySem.W.nsIn K mainGlobals "list" = some none)
    (z_max : PySem.W.nsIn K mainGlobals "max" = some none)
    (z_min : PySem.W.nsIn K mainGlobals "min" = some none)
    (z_range : PySem.W.nsIn K mainGlobals "range" = some none)
    (z_super : PySem.W.nsIn K mainGlobals "super" = some none)
    : ∃ fd : FuncData, (∀ (s : Shared) (v : Value), BindsTo s fd ⟨[v], []⟩ [("script", v)]) ∧ ∀ base : Heap, K.In base → base.Ns mainGlobals mg → FnOk l.prog w K mg base CX0 9 fa fd ["script"] (sp_law K) := by
  have e := hfa.symm.trans (PySem.W.mg_of X G a_law)
  have e2 : f_law = fa := by
    injection e with e
    injection e with e
    exact e.symm
  subst e2
  have es_Segment_init___ranges : ∀ H : Hp, SqT K H e_Segment_init___ranges [] := fun H => .inr ⟨_, #[], _, el0_Segment_init___ranges, rfl, rfl, (by show 0 ≤ sizeLine; decide), .nil⟩
  have es_Segment_init___data : ∀ H : Hp, SqT K H e_Segment_init___data [] := fun H => .inr ⟨_, #[], _, el0_Segment_init___data, rfl, rfl, (by show 0 ≤ sizeLine; decide), .nil⟩
  have F_Segment_init__ : FunD K "__init__" "Segment.__init__" (defArgs s_Segment_init__) (defBody s_Segment_init__) (defScope s_Segment_init__) [] [("echo", .non), ("ack", .non), ("syn", .bl false), ("fin", .bl false), ("reset", .bl false), ("marked", .bl false), ("cut", .bl false), ("window", .int 0), ("mss", .non), ("scale", .non), ("ranges_known", .bl false), ("ranges", .ref e_Segment_init___ranges), ("stamp", .non), ("data", .ref e_Segment_init___data)] f_Segment_init__ _ := ⟨⟨_, _, _, _, _, _, _, _, _, _, rfl, l_Segment_init__, cc_Segment_init__, .inl ⟨rfl, rfl⟩, .inr ⟨kd_Segment_init__, rfl, fun q hq => by
      simp only [List.mem_cons, List.not_mem_nil, or_false] at hq
      rcases hq with rfl | rfl | rfl | rfl | rfl | rfl | rfl | rfl | rfl | rfl | rfl | rfl | rfl | rfl
      · exact ⟨_, kw_Segment_init___echo, by first | exact rfl | exact ⟨_, rfl⟩⟩
      · exact ⟨_, kw_Segment_init___ack, by first | exact rfl | exact ⟨_, rfl⟩⟩
      · exact ⟨_, kw_Segment_init___syn, by first | exact rfl | exact ⟨_, rfl⟩⟩
      · exact ⟨_, kw_Segment_init___fin, by first | exact rfl | exact ⟨_, rfl⟩⟩
      · exact ⟨_, kw_Segment_init___reset, by first | exact rfl | exact ⟨_, rfl⟩⟩
      · exact ⟨_, kw_Segment_init___marked, by first | exact rfl | exact ⟨_, rfl⟩⟩
      · exact ⟨_, kw_Segment_init___cut, by first | exact rfl | exact ⟨_, rfl⟩⟩
      · exact ⟨_, kw_Segment_init___window, by first | exact rfl | exact ⟨_, rfl⟩⟩
      · exact ⟨_, kw_Segment_init___mss, by first | exact rfl | exact ⟨_, rfl⟩⟩
      · exact ⟨_, kw_Segment_init___scale, by first | exact rfl | exact ⟨_, rfl⟩⟩
      · exact ⟨_, kw_Segment_init___ranges_known, by first | exact rfl | exact ⟨_, rfl⟩⟩
      · exact ⟨_, kw_Segment_init___ranges, by first | exact rfl | exact ⟨_, rfl⟩⟩
      · exact ⟨_, kw_Segment_init___stamp, by first | exact rfl | exact ⟨_, rfl⟩⟩
      · exact ⟨_, kw_Segment_init___data, by first | exact rfl | exact ⟨_, rfl⟩⟩⟩⟩, kk_Segment_init__⟩
  have F_Socket_init__ : FunD K "__init__" "Socket.__init__" (defArgs s_Socket_init__) (defBody s_Socket_init__) (defScope s_Socket_init__) [] [("listened", .bl false)] f_Socket_init__ _ := ⟨⟨_, _, _, _, _, _, _, _, _, _, rfl, l_Socket_init__, cc_Socket_init__, .inl ⟨rfl, rfl⟩, .inr ⟨kd_Socket_init__, rfl, fun q hq => by
      simp only [List.mem_cons, List.not_mem_nil, or_false] at hq
      rcases hq with rfl
      · exact ⟨_, kw_Socket_init___listened, by first | exact rfl | exact ⟨_, rfl⟩⟩⟩⟩, kk_Socket_init__⟩
  have F_Socket_is_for := fun_mk (st := s_Socket_is_for) l_Socket_is_for cc_Socket_is_for kk_Socket_is_for
  have b_Socket_is_for := F_Socket_is_for.binds (ps := ["self", "segment", "sender"]) fun _ _ _ _ _ _ us hl => match us, hl with | [_, _, _], _ => rfl
  have F_Socket_learn := fun_mk (st := s_Socket_learn) l_Socket_learn cc_Socket_learn kk_Socket_learn
  have b_Socket_learn := F_Socket_learn.binds (ps := ["self", "segment"]) fun _ _ _ _ _ _ us hl => match us, hl with | [_, _], _ => rfl
  have F_Reno_init__ : FunS K l.prog "__init__" "Reno.__init__" s_Reno_init__ f_Reno_init__ f_Reno_upper__init__ C_Reno cda_Reno_init__ cc_Reno_init__ _ := ⟨⟨_, _, _, _, _, rfl⟩, ⟨⟨_, _, _, l_Reno_init__⟩, ⟨_, _, _, _, _, _, la_Reno_init__, lv_Reno_init__, lf_Reno_init__⟩, ⟨_, _, _, le_Reno_init__⟩, ⟨_, ld_Reno_init__⟩, ls_Reno_init__, lt_Reno_init__, lu_Reno_init__, ly_Reno_init__, ln_Reno_init__, lo_Reno_init__⟩, cc0_Reno_init__, kk_Reno_init__⟩
  have b_Reno_init__ := F_Reno_init__.binds (ps := ["self", "mss"]) fun _ _ _ _ _ _ us hl => match us, hl with | [_, _], _ => rfl
  have F_Reno_upper__init__ := fun_mk (st := s_Reno_upper__init__) l_Reno_upper__init__ cc_Reno_upper__init__ kk_Reno_upper__init__
  have b_Reno_upper__init__ := F_Reno_upper__init__.binds (ps := ["self", "mss"]) fun _ _ _ _ _ _ us hl => match us, hl with | [_, _], _ => rfl
  have F_Reno_bounded := fun_mk (st := s_Reno_bounded) l_Reno_bounded cc_Reno_bounded kk_Reno_bounded
  have b_Reno_bounded := F_Reno_bounded.binds (ps := ["self", "octets"]) fun _ _ _ _ _ _ us hl => match us, hl with | [_, _], _ => rfl
  have F_RoundTrip_init__ := fun_mk (st := s_RoundTrip_init__) l_RoundTrip_init__ cc_RoundTrip_init__ kk_RoundTrip_init__
  have b_RoundTrip_init__ := F_RoundTrip_init__.binds (ps := ["self", "least", "most"]) fun _ _ _ _ _ _ us hl => match us, hl with | [_, _, _], _ => rfl
  have F_RoundTrip_within_bounds := fun_mk (st := s_RoundTrip_within_bounds) l_RoundTrip_within_bounds cc_RoundTrip_within_bounds kk_RoundTrip_within_bounds
  have b_RoundTrip_within_bounds := F_RoundTrip_within_bounds.binds (ps := ["self", "ticks"]) fun _ _ _ _ _ _ us hl => match us, hl with | [_, _], _ => rfl
  have es_OffsetSet_init___ranges : ∀ H : Hp, SqT K H e_OffsetSet_init___ranges [] := fun H => .inr ⟨_, #[], _, el0_OffsetSet_init___ranges, rfl, rfl, (by show 0 ≤ sizeLine; decide), .nil⟩
  have F_OffsetSet_init__ : FunD K "__init__" "OffsetSet.__init__" (defArgs s_OffsetSet_init__) (defBody s_OffsetSet_init__) (defScope s_OffsetSet_init__) [.ref e_OffsetSet_init___ranges] [] f_OffsetSet_init__ _ := ⟨⟨_, _, _, _, _, _, _, _, _, _, rfl, l_OffsetSet_init__, cc_OffsetSet_init__, .inr ⟨(by intro h; cases h), dt_OffsetSet_init__, _, [.ref e_OffsetSet_init___ranges], _, rfl, dt0_OffsetSet_init__, rfl, (.cons rfl .nil)⟩, .inl rfl⟩, kk_OffsetSet_init__⟩
  have F_Receiver_init__ := fun_mk (st := s_Receiver_init__) l_Receiver_init__ cc_Receiver_init__ kk_Receiver_init__
  have b_Receiver_init__ := F_Receiver_init__.binds (ps := ["self", "room"]) fun _ _ _ _ _ _ us hl => match us, hl with | [_, _], _ => rfl
  have F_Sender_init__ := fun_mk (st := s_Sender_init__) l_Sender_init__ cc_Sender_init__ kk_Sender_init__
  have b_Sender_init__ := F_Sender_init__.binds (ps := ["self", "room"]) fun _ _ _ _ _ _ us hl => match us, hl with | [_, _], _ => rfl
  have F_Endpoint_init__ := fun_mk (st := s_Endpoint_init__) l_Endpoint_init__ cc_Endpoint_init__ kk_Endpoint_init__
  have b_Endpoint_init__ := F_Endpoint_init__.binds (ps := ["self", "options", "now"]) fun _ _ _ _ _ _ us hl => match us, hl with | [_, _, _], _ => rfl
  have F_Endpoint_has_ended := fun_mk (st := s_Endpoint_has_ended) l_Endpoint_has_ended cc_Endpoint_has_ended kk_Endpoint_has_ended
  have b_Endpoint_has_ended := F_Endpoint_has_ended.binds (ps := ["self"]) fun _ _ _ _ _ _ us hl => match us, hl with | [_], _ => rfl
  have F_Endpoint_abort := fun_mk (st := s_Endpoint_abort) l_Endpoint_abort cc_Endpoint_abort kk_Endpoint_abort
  have b_Endpoint_abort := F_Endpoint_abort.binds (ps := ["self"]) fun _ _ _ _ _ _ us hl => match us, hl with | [_], _ => rfl
  have F_Endpoint_end := fun_mk (st := s_Endpoint_end) l_Endpoint_end cc_Endpoint_end kk_Endpoint_end
  have b_Endpoint_end := F_Endpoint_end.binds (ps := ["self", "cause"]) fun _ _ _ _ _ _ us hl => match us, hl with | [_, _], _ => rfl
  have F_new_control := fun_mk (st := s_new_control) l_new_control cc_new_control kk_new_control
  have b_new_control := F_new_control.binds (ps := ["kind", "mss"]) fun _ _ _ _ _ _ us hl => match us, hl with | [_, _], _ => rfl
  have F_Options_init__ : FunD K "__init__" "Options.__init__" (defArgs s_Options_init__) (defBody s_Options_init__) (defScope s_Options_init__) [] [("ack_delay", .int 0), ("keep_alive", .int 0), ("nagle", .bl false), ("control", .str (PySem.Str.ofString "reno"))] f_Options_init__ _ := ⟨⟨_, _, _, _, _, _, _, _, _, _, rfl, l_Options_init__, cc_Options_init__, .inl ⟨rfl, rfl⟩, .inr ⟨kd_Options_init__, rfl, fun q hq => by
      simp only [List.mem_cons, List.not_mem_nil, or_false] at hq
      rcases hq with rfl | rfl | rfl | rfl
      · exact ⟨_, kw_Options_init___ack_delay, by first | exact rfl | exact ⟨_, rfl⟩⟩
      · exact ⟨_, kw_Options_init___keep_alive, by first | exact rfl | exact ⟨_, rfl⟩⟩
      · exact ⟨_, kw_Options_init___nagle, by first | exact rfl | exact ⟨_, rfl⟩⟩
      · exact ⟨_, kw_Options_init___control, by first | exact rfl | exact ⟨_, rfl⟩⟩⟩⟩, kk_Options_init__⟩
  have F_Options_fork := fun_mk (st := s_Options_fork) l_Options_fork cc_Options_fork kk_Options_fork
  have b_Options_fork := F_Options_fork.binds (ps := ["self"]) fun _ _ _ _ _ _ us hl => match us, hl with | [_], _ => rfl
  have F_Options_wrong_names := fun_mk (st := s_Options_wrong_names) l_Options_wrong_names cc_Options_wrong_names kk_Options_wrong_names
  have b_Options_wrong_names := F_Options_wrong_names.binds (ps := ["self"]) fun _ _ _ _ _ _ us hl => match us, hl with | [_], _ => rfl
  have F_l_rows := fun_mk (st := s_l_rows) l_l_rows cc_l_rows kk_l_rows
  have b_l_rows := F_l_rows.binds (ps := ["script", "count"]) fun _ _ _ _ _ _ us hl => match us, hl with | [_, _], _ => rfl
  have F_l_pick := fun_mk (st := s_l_pick) l_l_pick cc_l_pick kk_l_pick
  have b_l_pick := F_l_pick.binds (ps := ["row", "right", "other"]) fun _ _ _ _ _ _ us hl => match us, hl with | [_, _, _], _ => rfl
  have F_law := fun_mk (st := s_law) l_law cc_law kk_law
  have b_law := F_law.binds (ps := ["script"]) fun _ _ _ _ _ _ us hl => match us, hl with | [_], _ => rfl
  let T : Txt l.prog K mg := { t_CIRCLE := t_CIRCLE, t_FIRST_NUMBER_STEP := t_FIRST_NUMBER_STEP, t_MOST_TICKS := t_MOST_TICKS, t_MOST_UNDER_WAY := t_MOST_UNDER_WAY, C_InvalidOptions := C_InvalidOptions, C_Segment := C_Segment, C_Socket := C_Socket, C_Control := C_Control, C_Cubic := C_Cubic, C_Reno := C_Reno, C_RoundTrip := C_RoundTrip, C_OffsetSet := C_OffsetSet, C_Receiver := C_Receiver, C_Sender := C_Sender, C_Endpoint := C_Endpoint, C_Options := C_Options, f_Segment_init__ := f_Segment_init__, d_Segment_init__ := _, e_Segment_init___ranges := e_Segment_init___ranges, e_Segment_init___data := e_Segment_init___data, f_Socket_init__ := f_Socket_init__, d_Socket_init__ := _, f_Socket_is_for := f_Socket_is_for, d_Socket_is_for := _, f_Socket_learn := f_Socket_learn, d_Socket_learn := _, f_Reno_init__ := f_Reno_init__, d_Reno_init__ := _, cda_Reno_init__ := cda_Reno_init__, cc_Reno_init__ := cc_Reno_init__, f_Reno_upper__init__ := f_Reno_upper__init__, d_Reno_upper__init__ := _, f_Reno_bounded := f_Reno_bounded, d_Reno_bounded := _, f_RoundTrip_init__ := f_RoundTrip_init__, d_RoundTrip_init__ := _, f_RoundTrip_within_bounds := f_RoundTrip_within_bounds, d_RoundTrip_within_bounds := _, f_OffsetSet_init__ := f_OffsetSet_init__, d_OffsetSet_init__ := _, e_OffsetSet_init___ranges := e_OffsetSet_init___ranges, f_Receiver_init__ := f_Receiver_init__, d_Receiver_init__ := _, f_Sender_init__ := f_Sender_init__, d_Sender_init__ := _, f_Endpoint_init__ := f_Endpoint_init__, d_Endpoint_init__ := _, f_Endpoint_has_ended := f_Endpoint_has_ended, d_Endpoint_has_ended := _, p0_Endpoint_has_ended := p0_Endpoint_has_ended, f_Endpoint_abort := f_Endpoint_abort, d_Endpoint_abort := _, f_Endpoint_end := f_Endpoint_end, d_Endpoint_end := _, f_new_control := f_new_control, d_new_control := _, f_Options_init__ := f_Options_init__, d_Options_init__ := _, f_Options_fork := f_Options_fork, d_Options_fork := _, f_Options_wrong_names := f_Options_wrong_names, d_Options_wrong_names := _, f_l_rows := f_l_rows, d_l_rows := _, f_l_pick := f_l_pick, d_l_pick := _, f_law := f_law, d_law := _, v_CIRCLE := PySem.W.mg_of X G v_CIRCLE, v_FIRST_NUMBER_STEP := PySem.W.mg_of X G v_FIRST_NUMBER_STEP, v_MOST_TICKS := PySem.W.mg_of X G v_MOST_TICKS, v_MOST_UNDER_WAY := PySem.W.mg_of X G v_MOST_UNDER_WAY, c_InvalidOptions := PySem.W.mg_of X G c_InvalidOptions, xP_InvalidOptions := xP_InvalidOptions, ke_InvalidOptions := ke_InvalidOptions, be_InvalidOptions := be_InvalidOptions, te_InvalidOptions := te_InvalidOptions, c_Segment := PySem.W.mg_of X G c_Segment, k_Segment := ⟨pg_Segment, hd_Segment, po_Segment, sa_Segment⟩, i_Segment := fun e => .ins e ⟨pg_Segment, hd_Segment, po_Segment, sa_Segment⟩ ha_Segment hn_all ht_all hm_Segment, n_Segment_source := n_Segment_source, n_Segment_target := n_Segment_target, n_Segment_seq := n_Segment_seq, n_Segment_count := n_Segment_count, n_Segment_echo := n_Segment_echo, n_Segment_ack := n_Segment_ack, n_Segment_syn := n_Segment_syn, n_Segment_fin := n_Segment_fin, n_Segment_reset := n_Segment_reset, n_Segment_marked := n_Segment_marked, n_Segment_cut := n_Segment_cut, n_Segment_window := n_Segment_window, n_Segment_mss := n_Segment_mss, n_Segment_scale := n_Segment_scale, n_Segment_ranges_known := n_Segment_ranges_known, n_Segment_ranges := n_Segment_ranges, n_Segment_stamp := n_Segment_stamp, n_Segment_data := n_Segment_data, c_Socket := PySem.W.mg_of X G c_Socket, k_Socket := ⟨pg_Socket, hd_Socket, po_Socket, sa_Socket⟩, n_Socket_count := n_Socket_count, n_Socket_port := n_Socket_port, n_Socket_peer := n_Socket_peer, n_Socket_peer_port := n_Socket_peer_port, n_Socket_peer_count := n_Socket_peer_count, n_Socket_peer_first := n_Socket_peer_first, n_Socket_peer_shift := n_Socket_peer_shift, n_Socket_listened := n_Socket_listened, n_Socket_accepted := n_Socket_accepted, n_Socket_endpoint := n_Socket_endpoint, c_Control := PySem.W.mg_of X G c_Control, k_Control := ⟨pg_Control, hd_Control, po_Control, sa_Control⟩, c_Cubic := PySem.W.mg_of X G c_Cubic, k_Cubic := ⟨pg_Cubic, hd_Cubic, po_Cubic, sa_Cubic⟩, c_Reno := PySem.W.mg_of X G c_Reno, k_Reno := ⟨pg_Reno, hd_Reno, po_Reno, sa_Reno⟩, n_Reno_cwnd := n_Reno_cwnd, n_Reno_thresh := n_Reno_thresh, n_Reno_peak := n_Reno_peak, n_Reno_prior := n_Reno_prior, n_Reno_calm := n_Reno_calm, n_Reno_credit := n_Reno_credit, c_RoundTrip := PySem.W.mg_of X G c_RoundTrip, k_RoundTrip := ⟨pg_RoundTrip, hd_RoundTrip, po_RoundTrip, sa_RoundTrip⟩, n_RoundTrip_least := n_RoundTrip_least, n_RoundTrip_most := n_RoundTrip_most, n_RoundTrip_srtt := n_RoundTrip_srtt, n_RoundTrip_variance := n_RoundTrip_variance, n_RoundTrip_rto := n_RoundTrip_rto, n_RoundTrip_measured := n_RoundTrip_measured, c_OffsetSet := PySem.W.mg_of X G c_OffsetSet, k_OffsetSet := ⟨pg_OffsetSet, hd_OffsetSet, po_OffsetSet, sa_OffsetSet⟩, i_OffsetSet := fun e => .ins e ⟨pg_OffsetSet, hd_OffsetSet, po_OffsetSet, sa_OffsetSet⟩ ha_OffsetSet hn_all ht_all hm_OffsetSet, n_OffsetSet__ranges := n_OffsetSet__ranges, c_Receiver := PySem.W.mg_of X G c_Receiver, k_Receiver := ⟨pg_Receiver, hd_Receiver, po_Receiver, sa_Receiver⟩, n_Receiver_room := n_Receiver_room, n_Receiver_nxt := n_Receiver_nxt, n_Receiver_edge := n_Receiver_edge, n_Receiver_end := n_Receiver_end, n_Receiver_recent := n_Receiver_recent, n_Receiver__ready := n_Receiver__ready, n_Receiver__held := n_Receiver__held, n_Receiver__held_offsets := n_Receiver__held_offsets, c_Sender := PySem.W.mg_of X G c_Sender, k_Sender := ⟨pg_Sender, hd_Sender, po_Sender, sa_Sender⟩, n_Sender_room := n_Sender_room, n_Sender_una := n_Sender_una, n_Sender_nxt := n_Sender_nxt, n_Sender_written := n_Sender_written, n_Sender_finished := n_Sender_finished, n_Sender_edge := n_Sender_edge, n_Sender_recovery := n_Sender_recovery, n_Sender_resend := n_Sender_resend, n_Sender_lost := n_Sender_lost, n_Sender_repeated := n_Sender_repeated, n_Sender__queue := n_Sender__queue, n_Sender__sacked := n_Sender__sacked, c_Endpoint := PySem.W.mg_of X G c_Endpoint, k_Endpoint := ⟨pg_Endpoint, hd_Endpoint, po_Endpoint, sa_Endpoint⟩, n_Endpoint_options := n_Endpoint_options, n_Endpoint_sender := n_Endpoint_sender, n_Endpoint_receiver := n_Endpoint_receiver, n_Endpoint_trip := n_Endpoint_trip, n_Endpoint_control := n_Endpoint_control, n_Endpoint_phase := n_Endpoint_phase, n_Endpoint_cause := n_Endpoint_cause, n_Endpoint_mss := n_Endpoint_mss, n_Endpoint_selective := n_Endpoint_selective, n_Endpoint_alarm := n_Endpoint_alarm, n_Endpoint_since := n_Endpoint_since, n_Endpoint_ack_at := n_Endpoint_ack_at, n_Endpoint_late := n_Endpoint_late, n_Endpoint_asked := n_Endpoint_asked, n_Endpoint_again := n_Endpoint_again, n_Endpoint_probe := n_Endpoint_probe, n_Endpoint_over := n_Endpoint_over, n_Endpoint_rest := n_Endpoint_rest, n_Endpoint_spent_at := n_Endpoint_spent_at, n_Endpoint_spent := n_Endpoint_spent, n_Endpoint_stamp := n_Endpoint_stamp, n_Endpoint_marked := n_Endpoint_marked, n_Endpoint_cut := n_Endpoint_cut, c_Options := PySem.W.mg_of X G c_Options, k_Options := ⟨pg_Options, hd_Options, po_Options, sa_Options⟩, i_Options := fun e => .ins e ⟨pg_Options, hd_Options, po_Options, sa_Options⟩ ha_Options hn_all ht_all hm_Options, n_Options_mss := n_Options_mss, n_Options_room := n_Options_room, n_Options_life := n_Options_life, n_Options_pace := n_Options_pace, n_Options_tries := n_Options_tries, n_Options_min_rto := n_Options_min_rto, n_Options_max_rto := n_Options_max_rto, n_Options_ack_delay := n_Options_ack_delay, n_Options_keep_alive := n_Options_keep_alive, n_Options_nagle := n_Options_nagle, n_Options_control := n_Options_control, es_Segment_init___ranges := es_Segment_init___ranges, es_Segment_init___data := es_Segment_init___data, F_Segment_init__ := F_Segment_init__, mk_Segment := ⟨mk0_Segment, a_Segment_init__, i_Segment_init__, kc_Segment⟩, F_Socket_init__ := F_Socket_init__, mk_Socket := ⟨mk0_Socket, a_Socket_init__, i_Socket_init__, kc_Socket⟩, F_Socket_is_for := F_Socket_is_for, b_Socket_is_for := b_Socket_is_for, a_Socket_is_for := ⟨a_Socket_is_for, i_Socket_is_for, kk_Socket_is_for⟩, F_Socket_learn := F_Socket_learn, b_Socket_learn := b_Socket_learn, a_Socket_learn := ⟨a_Socket_learn, i_Socket_learn, kk_Socket_learn⟩, F_Reno_init__ := F_Reno_init__, b_Reno_init__ := b_Reno_init__, mk_Reno := ⟨mk0_Reno, a_Reno_init__, i_Reno_init__, kc_Reno⟩, F_Reno_upper__init__ := F_Reno_upper__init__, b_Reno_upper__init__ := b_Reno_upper__init__, F_Reno_bounded := F_Reno_bounded, b_Reno_bounded := b_Reno_bounded, a_Reno_bounded := ⟨a_Reno_bounded, i_Reno_bounded, kk_Reno_bounded⟩, F_RoundTrip_init__ := F_RoundTrip_init__, b_RoundTrip_init__ := b_RoundTrip_init__, mk_RoundTrip := ⟨mk0_RoundTrip, a_RoundTrip_init__, i_RoundTrip_init__, kc_RoundTrip⟩, F_RoundTrip_within_bounds := F_RoundTrip_within_bounds, b_RoundTrip_within_bounds := b_RoundTrip_within_bounds, a_RoundTrip_within_bounds := ⟨a_RoundTrip_within_bounds, i_RoundTrip_within_bounds, kk_RoundTrip_within_bounds⟩, es_OffsetSet_init___ranges := es_OffsetSet_init___ranges, F_OffsetSet_init__ := F_OffsetSet_init__, mk_OffsetSet := ⟨mk0_OffsetSet, a_OffsetSet_init__, i_OffsetSet_init__, kc_OffsetSet⟩, F_Receiver_init__ := F_Receiver_init__, b_Receiver_init__ := b_Receiver_init__, mk_Receiver := ⟨mk0_Receiver, a_Receiver_init__, i_Receiver_init__, kc_Receiver⟩, F_Sender_init__ := F_Sender_init__, b_Sender_init__ := b_Sender_init__, mk_Sender := ⟨mk0_Sender, a_Sender_init__, i_Sender_init__, kc_Sender⟩, F_Endpoint_init__ := F_Endpoint_init__, b_Endpoint_init__ := b_Endpoint_init__, mk_Endpoint := ⟨mk0_Endpoint, a_Endpoint_init__, i_Endpoint_init__, kc_Endpoint⟩, F_Endpoint_has_ended := F_Endpoint_has_ended, b_Endpoint_has_ended := b_Endpoint_has_ended, p_Endpoint_has_ended := ⟨a_Endpoint_has_ended, pget_Endpoint_has_ended, ptak_Endpoint_has_ended, _, prec_Endpoint_has_ended⟩, F_Endpoint_abort := F_Endpoint_abort, b_Endpoint_abort := b_Endpoint_abort, a_Endpoint_abort := ⟨a_Endpoint_abort, i_Endpoint_abort, kk_Endpoint_abort⟩, F_Endpoint_end := F_Endpoint_end, b_Endpoint_end := b_Endpoint_end, a_Endpoint_end := ⟨a_Endpoint_end, i_Endpoint_end, kk_Endpoint_end⟩, F_new_control := F_new_control, b_new_control := b_new_control, m_new_control := PySem.W.mg_of X G a_new_control, F_Options_init__ := F_Options_init__, mk_Options := ⟨mk0_Options, a_Options_init__, i_Options_init__, kc_Options⟩, F_Options_fork := F_Options_fork, b_Options_fork := b_Options_fork, a_Options_fork := ⟨a_Options_fork, i_Options_fork, kk_Options_fork⟩, F_Options_wrong_names := F_Options_wrong_names, b_Options_wrong_names := b_Options_wrong_names, a_Options_wrong_names := ⟨a_Options_wrong_names, i_Options_wrong_names, kk_Options_wrong_names⟩, F_l_rows := F_l_rows, b_l_rows := b_l_rows, m_l_rows := PySem.W.mg_of X G a_l_rows, F_l_pick := F_l_pick, b_l_pick := b_l_pick, m_l_pick := PySem.W.mg_of X G a_l_pick, F_law := F_law, b_law := b_law, m_law := PySem.W.mg_of X G a_law, cr_Control := ⟨rd_Control, gg_Control⟩, cv_Control_GREATEST := ⟨_, cva_Control_GREATEST, by first | exact rfl | exact ⟨_, rfl⟩⟩, n_bool := PySem.W.mg_none_of X G z_bool, n_int := PySem.W.mg_none_of X G z_int, n_isinstance := PySem.W.mg_none_of X G z_isinstance, n_len := PySem.W.mg_none_of X G z_len, n_list := PySem.W.mg_none_of X G z_list, n_max := PySem.W.mg_none_of X G z_max, n_min := PySem.W.mg_none_of X G z_min, n_range := PySem.W.mg_none_of X G z_range, n_super := PySem.W.mg_none_of X G z_super }
  exact ⟨PySem.W.fnOf "law" "law" (defArgs s_law) (defBody s_law) (defScope s_law) .none kV_law dc_law pm_law an_law cd_law ct_law, fun s v => .of_eq rfl, fun base _ _ => ok_law T⟩
set_option maxHeartbeats 0 in
theorem er_facts {K : PySem.W.Frag} {h : Heap} {mg : Str → Option Value} {fa : Addr} {w : World} (X : K.In h) (G : h.Ns mainGlobals mg) (hfa : mg "law" = some (.ref fa)) (er_c : er_ok K = true) (er_d : er_fs.map (fun p => erF K p.1) = er_fs.map fun p => some p.2) :
    ∃ fd : FuncData, (∀ (s : Shared) (v : Value), BindsTo s fd ⟨[v], []⟩ [("script", v)]) ∧ ∀ base : Heap, K.In base → base.Ns mainGlobals mg → FnOk (PySem.Challenge.rw_throughline_k45_which_socket_takes_a_seg).prog w K mg base CX0 9 fa fd ["script"] (sp_law K) := by
  unfold er_ok at er_c
  obtain ⟨c_0, er_c⟩ := He.ba er_c
  obtain ⟨c_1, er_c⟩ := He.ba er_c
  obtain ⟨c_2, er_c⟩ := He.ba er_c
  obtain ⟨c_3, er_c⟩ := He.ba er_c
  obtain ⟨c_4, er_c⟩ := He.ba er_c
  obtain ⟨c_5, er_c⟩ := He.ba er_c
  obtain ⟨c_6, er_c⟩ := He.ba er_c
  obtain ⟨c_7, er_c⟩ := He.ba er_c
  obtain ⟨c_8, er_c⟩ := He.ba er_c
  obtain ⟨c_9, er_c⟩ := He.ba er_c
  obtain ⟨c_10, er_c⟩ := He.ba er_c
  obtain ⟨c_11, er_c⟩ := He.ba er_c
  obtain ⟨c_12, er_c⟩ := He.ba er_c
  obtain ⟨c_13, er_c⟩ := He.ba er_c
  obtain ⟨c_14, er_c⟩ := He.ba er_c
  obtain ⟨c_15, er_c⟩ := He.ba er_c
  have c_16 := er_c
  unfold er_ok_0 at c_0
  obtain ⟨z, c_0⟩ := He.ba c_0
  obtain ⟨_, h_v_CIRCLE⟩ := erI_ok z
  obtain ⟨z, c_0⟩ := He.ba c_0
  obtain ⟨_, h_v_FIRST_NUMBER_STEP⟩ := erI_ok z
  obtain ⟨z, c_0⟩ := He.ba c_0
  obtain ⟨_, h_v_MOST_TICKS⟩ := erI_ok z
  obtain ⟨z, c_0⟩ := He.ba c_0
  obtain ⟨_, h_v_MOST_UNDER_WAY⟩ := erI_ok z
  obtain ⟨z, c_0⟩ := He.ba c_0
  have h_c_InvalidOptions : PySem.W.nsIn K mainGlobals "InvalidOptions" = some (some (.ref 1240)) := of_decide_eq_true z
  obtain ⟨z, c_0⟩ := He.ba c_0
  have h_be_InvalidOptions : PySem.W.subIn K (.ref 1240) (.type "BaseException") = some true := of_decide_eq_true z
  obtain ⟨z, c_0⟩ := He.ba c_0
  have h_te_InvalidOptions : PySem.W.typeIn K (.ref 1240) = some (.type "type") := of_decide_eq_true z
  obtain ⟨z, c_0⟩ := He.ba c_0
  have h_hd_InvalidOptions : PySem.W.hasDictIn K 1240 = true := of_decide_eq_true z
  obtain ⟨z, c_0⟩ := He.ba c_0
  have h_ic_InvalidOptions : PySem.W.isClsIn K 1240 = true := of_decide_eq_true z
  obtain ⟨z, c_0⟩ := He.ba c_0
  have h_xP_InvalidOptions : PySem.W.excIn K 1240 [.type "ValueError", .type "Exception", .type "BaseException", .type "object"] "ValueError.__new__" = true := of_decide_eq_true z
  obtain ⟨z, c_0⟩ := He.ba c_0
  have h_ke_InvalidOptions : PySem.W.keepIn K (.ref 1240) = true := of_decide_eq_true z
  obtain ⟨z, c_0⟩ := He.ba c_0
  have h_c_Segment : PySem.W.nsIn K mainGlobals "Segment" = some (some (.ref 63)) := of_decide_eq_true z
  obtain ⟨z, c_0⟩ := He.ba c_0
  have h_pg_Segment : PySem.W.plainGet K 63 Str.empty = true := of_decide_eq_true z
  obtain ⟨z, c_0⟩ := He.ba c_0
  have h_hd_Segment : PySem.W.hasDictIn K 63 = true := of_decide_eq_true z
  obtain ⟨z, c_0⟩ := He.ba c_0
  have h_po_Segment : PySem.W.plainOver K 63 = true := of_decide_eq_true z
  obtain ⟨z, c_0⟩ := He.ba c_0
  have h_sa_Segment : PySem.W.findIn K (.ref 63) "__setattr__" = some (some (.builtin "object.__setattr__")) := of_decide_eq_true z
  obtain ⟨z, c_0⟩ := He.ba c_0
  have h_mk0_Segment : PySem.W.makesIn K 63 = true := of_decide_eq_true z
  obtain ⟨z, c_0⟩ := He.ba c_0
  have h_kc_Segment : PySem.W.keepIn K (.ref 63) = true := of_decide_eq_true z
  obtain ⟨z, c_0⟩ := He.ba c_0
  have h_ha_Segment : PySem.W.findIn K (.ref 63) "__class__" = some (some (.builtin "object.__class__")) := of_decide_eq_true z
  have z := c_0
  have h_hm_Segment : PySem.W.mroIn K 63 (.type "object") = some true := of_decide_eq_true z
  unfold er_ok_1 at c_1
  obtain ⟨z, c_1⟩ := He.ba c_1
  have h_hn_all : PySem.W.specialIn K (.builtin "object.__class__") "__get__" = some (some (.builtin "getset_descriptor.__get__")) := of_decide_eq_true z
  obtain ⟨z, c_1⟩ := He.ba c_1
  have h_ht_all : PySem.W.takesIn K (.builtin "object.__class__") = some true := of_decide_eq_true z
  obtain ⟨z, c_1⟩ := He.ba c_1
  have h_n_Segment_source : PySem.W.findIn K (.ref 63) "source" = some none := of_decide_eq_true z
  obtain ⟨z, c_1⟩ := He.ba c_1
  have h_n_Segment_target : PySem.W.findIn K (.ref 63) "target" = some none := of_decide_eq_true z
  obtain ⟨z, c_1⟩ := He.ba c_1
  have h_n_Segment_seq : PySem.W.findIn K (.ref 63) "seq" = some none := of_decide_eq_true z
  obtain ⟨z, c_1⟩ := He.ba c_1
  have h_n_Segment_count : PySem.W.findIn K (.ref 63) "count" = some none := of_decide_eq_true z
  obtain ⟨z, c_1⟩ := He.ba c_1
  have h_n_Segment_echo : PySem.W.findIn K (.ref 63) "echo" = some none := of_decide_eq_true z
  obtain ⟨z, c_1⟩ := He.ba c_1
  have h_n_Segment_ack : PySem.W.findIn K (.ref 63) "ack" = some none := of_decide_eq_true z
  obtain ⟨z, c_1⟩ := He.ba c_1
  have h_n_Segment_syn : PySem.W.findIn K (.ref 63) "syn" = some none := of_decide_eq_true z
  obtain ⟨z, c_1⟩ := He.ba c_1
  have h_n_Segment_fin : PySem.W.findIn K (.ref 63) "fin" = some none := of_decide_eq_true z
  obtain ⟨z, c_1⟩ := He.ba c_1
  have h_n_Segment_reset : PySem.W.findIn K (.ref 63) "reset" = some none := of_decide_eq_true z
  obtain ⟨z, c_1⟩ := He.ba c_1
  have h_n_Segment_marked : PySem.W.findIn K (.ref 63) "marked" = some none := of_decide_eq_true z
  obtain ⟨z, c_1⟩ := He.ba c_1
  have h_n_Segment_cut : PySem.W.findIn K (.ref 63) "cut" = some none := of_decide_eq_true z
  obtain ⟨z, c_1⟩ := He.ba c_1
  have h_n_Segment_window : PySem.W.findIn K (.ref 63) "window" = some none := of_decide_eq_true z
  obtain ⟨z, c_1⟩ := He.ba c_1
  have h_n_Segment_mss : PySem.W.findIn K (.ref 63) "mss" = some none := of_decide_eq_true z
  obtain ⟨z, c_1⟩ := He.ba c_1
  have h_n_Segment_scale : PySem.W.findIn K (.ref 63) "scale" = some none := of_decide_eq_true z
  obtain ⟨z, c_1⟩ := He.ba c_1
  have h_n_Segment_ranges_known : PySem.W.findIn K (.ref 63) "ranges_known" = some none := of_decide_eq_true z
  obtain ⟨z, c_1⟩ := He.ba c_1
  have h_n_Segment_ranges : PySem.W.findIn K (.ref 63) "ranges" = some none := of_decide_eq_true z
  obtain ⟨z, c_1⟩ := He.ba c_1
  have h_n_Segment_stamp : PySem.W.findIn K (.ref 63) "stamp" = some none := of_decide_eq_true z
  have z := c_1
  have h_n_Segment_data : PySem.W.findIn K (.ref 63) "data" = some none := of_decide_eq_true z
  unfold er_ok_2 at c_2
  obtain ⟨z, c_2⟩ := He.ba c_2
  have h_c_Socket : PySem.W.nsIn K mainGlobals "Socket" = some (some (.ref 184)) := of_decide_eq_true z
  obtain ⟨z, c_2⟩ := He.ba c_2
  have h_pg_Socket : PySem.W.plainGet K 184 Str.empty = true := of_decide_eq_true z
  obtain ⟨z, c_2⟩ := He.ba c_2
  have h_hd_Socket : PySem.W.hasDictIn K 184 = true := of_decide_eq_true z
  obtain ⟨z, c_2⟩ := He.ba c_2
  have h_po_Socket : PySem.W.plainOver K 184 = true := of_decide_eq_true z
  obtain ⟨z, c_2⟩ := He.ba c_2
  have h_sa_Socket : PySem.W.findIn K (.ref 184) "__setattr__" = some (some (.builtin "object.__setattr__")) := of_decide_eq_true z
  obtain ⟨z, c_2⟩ := He.ba c_2
  have h_mk0_Socket : PySem.W.makesIn K 184 = true := of_decide_eq_true z
  obtain ⟨z, c_2⟩ := He.ba c_2
  have h_kc_Socket : PySem.W.keepIn K (.ref 184) = true := of_decide_eq_true z
  obtain ⟨z, c_2⟩ := He.ba c_2
  have h_n_Socket_count : PySem.W.findIn K (.ref 184) "count" = some none := of_decide_eq_true z
  obtain ⟨z, c_2⟩ := He.ba c_2
  have h_n_Socket_port : PySem.W.findIn K (.ref 184) "port" = some none := of_decide_eq_true z
  obtain ⟨z, c_2⟩ := He.ba c_2
  have h_n_Socket_peer : PySem.W.findIn K (.ref 184) "peer" = some none := of_decide_eq_true z
  obtain ⟨z, c_2⟩ := He.ba c_2
  have h_n_Socket_peer_port : PySem.W.findIn K (.ref 184) "peer_port" = some none := of_decide_eq_true z
  obtain ⟨z, c_2⟩ := He.ba c_2
  have h_n_Socket_peer_count : PySem.W.findIn K (.ref 184) "peer_count" = some none := of_decide_eq_true z
  obtain ⟨z, c_2⟩ := He.ba c_2
  have h_n_Socket_peer_first : PySem.W.findIn K (.ref 184) "peer_first" = some none := of_decide_eq_true z
  obtain ⟨z, c_2⟩ := He.ba c_2
  have h_n_Socket_peer_shift : PySem.W.findIn K (.ref 184) "peer_shift" = some none := of_decide_eq_true z
  obtain ⟨z, c_2⟩ := He.ba c_2
  have h_n_Socket_listened : PySem.W.findIn K (.ref 184) "listened" = some none := of_decide_eq_true z
  obtain ⟨z, c_2⟩ := He.ba c_2
  have h_n_Socket_accepted : PySem.W.findIn K (.ref 184) "accepted" = some none := of_decide_eq_true z
  obtain ⟨z, c_2⟩ := He.ba c_2
  have h_n_Socket_endpoint : PySem.W.findIn K (.ref 184) "endpoint" = some none := of_decide_eq_true z
  obtain ⟨z, c_2⟩ := He.ba c_2
  have h_c_Control : PySem.W.nsIn K mainGlobals "Control" = some (some (.ref 268)) := of_decide_eq_true z
  obtain ⟨z, c_2⟩ := He.ba c_2
  have h_pg_Control : PySem.W.plainGet K 268 Str.empty = true := of_decide_eq_true z
  have z := c_2
  have h_hd_Control : PySem.W.hasDictIn K 268 = true := of_decide_eq_true z
  unfold er_ok_3 at c_3
  obtain ⟨z, c_3⟩ := He.ba c_3
  have h_po_Control : PySem.W.plainOver K 268 = true := of_decide_eq_true z
  obtain ⟨z, c_3⟩ := He.ba c_3
  have h_sa_Control : PySem.W.findIn K (.ref 268) "__setattr__" = some (some (.builtin "object.__setattr__")) := of_decide_eq_true z
  obtain ⟨z, c_3⟩ := He.ba c_3
  have h_mk0_Control : PySem.W.makesIn K 268 = true := of_decide_eq_true z
  obtain ⟨z, c_3⟩ := He.ba c_3
  have h_kc_Control : PySem.W.keepIn K (.ref 268) = true := of_decide_eq_true z
  obtain ⟨z, c_3⟩ := He.ba c_3
  have h_c_Cubic : PySem.W.nsIn K mainGlobals "Cubic" = some (some (.ref 326)) := of_decide_eq_true z
  obtain ⟨z, c_3⟩ := He.ba c_3
  have h_pg_Cubic : PySem.W.plainGet K 326 Str.empty = true := of_decide_eq_true z
  obtain ⟨z, c_3⟩ := He.ba c_3
  have h_hd_Cubic : PySem.W.hasDictIn K 326 = true := of_decide_eq_true z
  obtain ⟨z, c_3⟩ := He.ba c_3
  have h_po_Cubic : PySem.W.plainOver K 326 = true := of_decide_eq_true z
  obtain ⟨z, c_3⟩ := He.ba c_3
  have h_sa_Cubic : PySem.W.findIn K (.ref 326) "__setattr__" = some (some (.builtin "object.__setattr__")) := of_decide_eq_true z
  obtain ⟨z, c_3⟩ := He.ba c_3
  have h_mk0_Cubic : PySem.W.makesIn K 326 = true := of_decide_eq_true z
  obtain ⟨z, c_3⟩ := He.ba c_3
  have h_kc_Cubic : PySem.W.keepIn K (.ref 326) = true := of_decide_eq_true z
  obtain ⟨z, c_3⟩ := He.ba c_3
  have h_c_Reno : PySem.W.nsIn K mainGlobals "Reno" = some (some (.ref 375)) := of_decide_eq_true z
  obtain ⟨z, c_3⟩ := He.ba c_3
  have h_pg_Reno : PySem.W.plainGet K 375 Str.empty = true := of_decide_eq_true z
  obtain ⟨z, c_3⟩ := He.ba c_3
  have h_hd_Reno : PySem.W.hasDictIn K 375 = true := of_decide_eq_true z
  obtain ⟨z, c_3⟩ := He.ba c_3
  have h_po_Reno : PySem.W.plainOver K 375 = true := of_decide_eq_true z
  obtain ⟨z, c_3⟩ := He.ba c_3
  have h_sa_Reno : PySem.W.findIn K (.ref 375) "__setattr__" = some (some (.builtin "object.__setattr__")) := of_decide_eq_true z
  obtain ⟨z, c_3⟩ := He.ba c_3
  have h_mk0_Reno : PySem.W.makesIn K 375 = true := of_decide_eq_true z
  obtain ⟨z, c_3⟩ := He.ba c_3
  have h_kc_Reno : PySem.W.keepIn K (.ref 375) = true := of_decide_eq_true z
  obtain ⟨z, c_3⟩ := He.ba c_3
  have h_n_Reno_cwnd : PySem.W.findIn K (.ref 375) "cwnd" = some none := of_decide_eq_true z
  have z := c_3
  have h_n_Reno_thresh : PySem.W.findIn K (.ref 375) "thresh" = some none := of_decide_eq_true z
  unfold er_ok_4 at c_4
  obtain ⟨z, c_4⟩ := He.ba c_4
  have h_n_Reno_peak : PySem.W.findIn K (.ref 375) "peak" = some none := of_decide_eq_true z
  obtain ⟨z, c_4⟩ := He.ba c_4
  have h_n_Reno_prior : PySem.W.findIn K (.ref 375) "prior" = some none := of_decide_eq_true z
  obtain ⟨z, c_4⟩ := He.ba c_4
  have h_n_Reno_calm : PySem.W.findIn K (.ref 375) "calm" = some none := of_decide_eq_true z
  obtain ⟨z, c_4⟩ := He.ba c_4
  have h_n_Reno_credit : PySem.W.findIn K (.ref 375) "credit" = some none := of_decide_eq_true z
  obtain ⟨z, c_4⟩ := He.ba c_4
  have h_c_RoundTrip : PySem.W.nsIn K mainGlobals "RoundTrip" = some (some (.ref 430)) := of_decide_eq_true z
  obtain ⟨z, c_4⟩ := He.ba c_4
  have h_pg_RoundTrip : PySem.W.plainGet K 430 Str.empty = true := of_decide_eq_true z
  obtain ⟨z, c_4⟩ := He.ba c_4
  have h_hd_RoundTrip : PySem.W.hasDictIn K 430 = true := of_decide_eq_true z
  obtain ⟨z, c_4⟩ := He.ba c_4
  have h_po_RoundTrip : PySem.W.plainOver K 430 = true := of_decide_eq_true z
  obtain ⟨z, c_4⟩ := He.ba c_4
  have h_sa_RoundTrip : PySem.W.findIn K (.ref 430) "__setattr__" = some (some (.builtin "object.__setattr__")) := of_decide_eq_true z
  obtain ⟨z, c_4⟩ := He.ba c_4
  have h_mk0_RoundTrip : PySem.W.makesIn K 430 = true := of_decide_eq_true z
  obtain ⟨z, c_4⟩ := He.ba c_4
  have h_kc_RoundTrip : PySem.W.keepIn K (.ref 430) = true := of_decide_eq_true z
  obtain ⟨z, c_4⟩ := He.ba c_4
  have h_n_RoundTrip_least : PySem.W.findIn K (.ref 430) "least" = some none := of_decide_eq_true z
  obtain ⟨z, c_4⟩ := He.ba c_4
  have h_n_RoundTrip_most : PySem.W.findIn K (.ref 430) "most" = some none := of_decide_eq_true z
  obtain ⟨z, c_4⟩ := He.ba c_4
  have h_n_RoundTrip_srtt : PySem.W.findIn K (.ref 430) "srtt" = some none := of_decide_eq_true z
  obtain ⟨z, c_4⟩ := He.ba c_4
  have h_n_RoundTrip_variance : PySem.W.findIn K (.ref 430) "variance" = some none := of_decide_eq_true z
  obtain ⟨z, c_4⟩ := He.ba c_4
  have h_n_RoundTrip_rto : PySem.W.findIn K (.ref 430) "rto" = some none := of_decide_eq_true z
  obtain ⟨z, c_4⟩ := He.ba c_4
  have h_n_RoundTrip_measured : PySem.W.findIn K (.ref 430) "measured" = some none := of_decide_eq_true z
  obtain ⟨z, c_4⟩ := He.ba c_4
  have h_c_OffsetSet : PySem.W.nsIn K mainGlobals "OffsetSet" = some (some (.ref 564)) := of_decide_eq_true z
  obtain ⟨z, c_4⟩ := He.ba c_4
  have h_pg_OffsetSet : PySem.W.plainGet K 564 Str.empty = true := of_decide_eq_true z
  have z := c_4
  have h_hd_OffsetSet : PySem.W.hasDictIn K 564 = true := of_decide_eq_true z
  unfold er_ok_5 at c_5
  obtain ⟨z, c_5⟩ := He.ba c_5
  have h_po_OffsetSet : PySem.W.plainOver K 564 = true := of_decide_eq_true z
  obtain ⟨z, c_5⟩ := He.ba c_5
  have h_sa_OffsetSet : PySem.W.findIn K (.ref 564) "__setattr__" = some (some (.builtin "object.__setattr__")) := of_decide_eq_true z
  obtain ⟨z, c_5⟩ := He.ba c_5
  have h_mk0_OffsetSet : PySem.W.makesIn K 564 = true := of_decide_eq_true z
  obtain ⟨z, c_5⟩ := He.ba c_5
  have h_kc_OffsetSet : PySem.W.keepIn K (.ref 564) = true := of_decide_eq_true z
  obtain ⟨z, c_5⟩ := He.ba c_5
  have h_ha_OffsetSet : PySem.W.findIn K (.ref 564) "__class__" = some (some (.builtin "object.__class__")) := of_decide_eq_true z
  obtain ⟨z, c_5⟩ := He.ba c_5
  have h_hm_OffsetSet : PySem.W.mroIn K 564 (.type "object") = some true := of_decide_eq_true z
  obtain ⟨z, c_5⟩ := He.ba c_5
  have h_n_OffsetSet__ranges : PySem.W.findIn K (.ref 564) "_ranges" = some none := of_decide_eq_true z
  obtain ⟨z, c_5⟩ := He.ba c_5
  have h_c_Receiver : PySem.W.nsIn K mainGlobals "Receiver" = some (some (.ref 714)) := of_decide_eq_true z
  obtain ⟨z, c_5⟩ := He.ba c_5
  have h_pg_Receiver : PySem.W.plainGet K 714 Str.empty = true := of_decide_eq_true z
  obtain ⟨z, c_5⟩ := He.ba c_5
  have h_hd_Receiver : PySem.W.hasDictIn K 714 = true := of_decide_eq_true z
  obtain ⟨z, c_5⟩ := He.ba c_5
  have h_po_Receiver : PySem.W.plainOver K 714 = true := of_decide_eq_true z
  obtain ⟨z, c_5⟩ := He.ba c_5
  have h_sa_Receiver : PySem.W.findIn K (.ref 714) "__setattr__" = some (some (.builtin "object.__setattr__")) := of_decide_eq_true z
  obtain ⟨z, c_5⟩ := He.ba c_5
  have h_mk0_Receiver : PySem.W.makesIn K 714 = true := of_decide_eq_true z
  obtain ⟨z, c_5⟩ := He.ba c_5
  have h_kc_Receiver : PySem.W.keepIn K (.ref 714) = true := of_decide_eq_true z
  obtain ⟨z, c_5⟩ := He.ba c_5
  have h_n_Receiver_room : PySem.W.findIn K (.ref 714) "room" = some none := of_decide_eq_true z
  obtain ⟨z, c_5⟩ := He.ba c_5
  have h_n_Receiver_nxt : PySem.W.findIn K (.ref 714) "nxt" = some none := of_decide_eq_true z
  obtain ⟨z, c_5⟩ := He.ba c_5
  have h_n_Receiver_edge : PySem.W.findIn K (.ref 714) "edge" = some none := of_decide_eq_true z
  obtain ⟨z, c_5⟩ := He.ba c_5
  have h_n_Receiver_end : PySem.W.findIn K (.ref 714) "end" = some none := of_decide_eq_true z
  obtain ⟨z, c_5⟩ := He.ba c_5
  have h_n_Receiver_recent : PySem.W.findIn K (.ref 714) "recent" = some none := of_decide_eq_true z
  have z := c_5
  have h_n_Receiver__ready : PySem.W.findIn K (.ref 714) "_ready" = some none := of_decide_eq_true z
  unfold er_ok_6 at c_6
  obtain ⟨z, c_6⟩ := He.ba c_6
  have h_n_Receiver__held : PySem.W.findIn K (.ref 714) "_held" = some none := of_decide_eq_true z
  obtain ⟨z, c_6⟩ := He.ba c_6
  have h_n_Receiver__held_offsets : PySem.W.findIn K (.ref 714) "_held_offsets" = some none := of_decide_eq_true z
  obtain ⟨z, c_6⟩ := He.ba c_6
  have h_c_Sender : PySem.W.nsIn K mainGlobals "Sender" = some (some (.ref 937)) := of_decide_eq_true z
  obtain ⟨z, c_6⟩ := He.ba c_6
  have h_pg_Sender : PySem.W.plainGet K 937 Str.empty = true := of_decide_eq_true z
  obtain ⟨z, c_6⟩ := He.ba c_6
  have h_hd_Sender : PySem.W.hasDictIn K 937 = true := of_decide_eq_true z
  obtain ⟨z, c_6⟩ := He.ba c_6
  have h_po_Sender : PySem.W.plainOver K 937 = true := of_decide_eq_true z
  obtain ⟨z, c_6⟩ := He.ba c_6
  have h_sa_Sender : PySem.W.findIn K (.ref 937) "__setattr__" = some (some (.builtin "object.__setattr__")) := of_decide_eq_true z
  obtain ⟨z, c_6⟩ := He.ba c_6
  have h_mk0_Sender : PySem.W.makesIn K 937 = true := of_decide_eq_true z
  obtain ⟨z, c_6⟩ := He.ba c_6
  have h_kc_Sender : PySem.W.keepIn K (.ref 937) = true := of_decide_eq_true z
  obtain ⟨z, c_6⟩ := He.ba c_6
  have h_n_Sender_room : PySem.W.findIn K (.ref 937) "room" = some none := of_decide_eq_true z
  obtain ⟨z, c_6⟩ := He.ba c_6
  have h_n_Sender_una : PySem.W.findIn K (.ref 937) "una" = some none := of_decide_eq_true z
  obtain ⟨z, c_6⟩ := He.ba c_6
  have h_n_Sender_nxt : PySem.W.findIn K (.ref 937) "nxt" = some none := of_decide_eq_true z
  obtain ⟨z, c_6⟩ := He.ba c_6
  have h_n_Sender_written : PySem.W.findIn K (.ref 937) "written" = some none := of_decide_eq_true z
  obtain ⟨z, c_6⟩ := He.ba c_6
  have h_n_Sender_finished : PySem.W.findIn K (.ref 937) "finished" = some none := of_decide_eq_true z
  obtain ⟨z, c_6⟩ := He.ba c_6
  have h_n_Sender_edge : PySem.W.findIn K (.ref 937) "edge" = some none := of_decide_eq_true z
  obtain ⟨z, c_6⟩ := He.ba c_6
  have h_n_Sender_recovery : PySem.W.findIn K (.ref 937) "recovery" = some none := of_decide_eq_true z
  obtain ⟨z, c_6⟩ := He.ba c_6
  have h_n_Sender_resend : PySem.W.findIn K (.ref 937) "resend" = some none := of_decide_eq_true z
  obtain ⟨z, c_6⟩ := He.ba c_6
  have h_n_Sender_lost : PySem.W.findIn K (.ref 937) "lost" = some none := of_decide_eq_true z
  obtain ⟨z, c_6⟩ := He.ba c_6
  have h_n_Sender_repeated : PySem.W.findIn K (.ref 937) "repeated" = some none := of_decide_eq_true z
  have z := c_6
  have h_n_Sender__queue : PySem.W.findIn K (.ref 937) "_queue" = some none := of_decide_eq_true z
  unfold er_ok_7 at c_7
  obtain ⟨z, c_7⟩ := He.ba c_7
  have h_n_Sender__sacked : PySem.W.findIn K (.ref 937) "_sacked" = some none := of_decide_eq_true z
  obtain ⟨z, c_7⟩ := He.ba c_7
  have h_c_Endpoint : PySem.W.nsIn K mainGlobals "Endpoint" = some (some (.ref 1206)) := of_decide_eq_true z
  obtain ⟨z, c_7⟩ := He.ba c_7
  have h_pg_Endpoint : PySem.W.plainGet K 1206 Str.empty = true := of_decide_eq_true z
  obtain ⟨z, c_7⟩ := He.ba c_7
  have h_hd_Endpoint : PySem.W.hasDictIn K 1206 = true := of_decide_eq_true z
  obtain ⟨z, c_7⟩ := He.ba c_7
  have h_po_Endpoint : PySem.W.plainOver K 1206 = true := of_decide_eq_true z
  obtain ⟨z, c_7⟩ := He.ba c_7
  have h_sa_Endpoint : PySem.W.findIn K (.ref 1206) "__setattr__" = some (some (.builtin "object.__setattr__")) := of_decide_eq_true z
  obtain ⟨z, c_7⟩ := He.ba c_7
  have h_mk0_Endpoint : PySem.W.makesIn K 1206 = true := of_decide_eq_true z
  obtain ⟨z, c_7⟩ := He.ba c_7
  have h_kc_Endpoint : PySem.W.keepIn K (.ref 1206) = true := of_decide_eq_true z
  obtain ⟨z, c_7⟩ := He.ba c_7
  have h_n_Endpoint_options : PySem.W.findIn K (.ref 1206) "options" = some none := of_decide_eq_true z
  obtain ⟨z, c_7⟩ := He.ba c_7
  have h_n_Endpoint_sender : PySem.W.findIn K (.ref 1206) "sender" = some none := of_decide_eq_true z
  obtain ⟨z, c_7⟩ := He.ba c_7
  have h_n_Endpoint_receiver : PySem.W.findIn K (.ref 1206) "receiver" = some none := of_decide_eq_true z
  obtain ⟨z, c_7⟩ := He.ba c_7
  have h_n_Endpoint_trip : PySem.W.findIn K (.ref 1206) "trip" = some none := of_decide_eq_true z
  obtain ⟨z, c_7⟩ := He.ba c_7
  have h_n_Endpoint_control : PySem.W.findIn K (.ref 1206) "control" = some none := of_decide_eq_true z
  obtain ⟨z, c_7⟩ := He.ba c_7
  have h_n_Endpoint_phase : PySem.W.findIn K (.ref 1206) "phase" = some none := of_decide_eq_true z
  obtain ⟨z, c_7⟩ := He.ba c_7
  have h_n_Endpoint_cause : PySem.W.findIn K (.ref 1206) "cause" = some none := of_decide_eq_true z
  obtain ⟨z, c_7⟩ := He.ba c_7
  have h_n_Endpoint_mss : PySem.W.findIn K (.ref 1206) "mss" = some none := of_decide_eq_true z
  obtain ⟨z, c_7⟩ := He.ba c_7
  have h_n_Endpoint_selective : PySem.W.findIn K (.ref 1206) "selective" = some none := of_decide_eq_true z
  obtain ⟨z, c_7⟩ := He.ba c_7
  have h_n_Endpoint_alarm : PySem.W.findIn K (.ref 1206) "alarm" = some none := of_decide_eq_true z
  obtain ⟨z, c_7⟩ := He.ba c_7
  have h_n_Endpoint_since : PySem.W.findIn K (.ref 1206) "since" = some none := of_decide_eq_true z
  have z := c_7
  have h_n_Endpoint_ack_at : PySem.W.findIn K (.ref 1206) "ack_at" = some none := of_decide_eq_true z
  unfold er_ok_8 at c_8
  obtain ⟨z, c_8⟩ := He.ba c_8
  have h_n_Endpoint_late : PySem.W.findIn K (.ref 1206) "late" = some none := of_decide_eq_true z
  obtain ⟨z, c_8⟩ := He.ba c_8
  have h_n_Endpoint_asked : PySem.W.findIn K (.ref 1206) "asked" = some none := of_decide_eq_true z
  obtain ⟨z, c_8⟩ := He.ba c_8
  have h_n_Endpoint_again : PySem.W.findIn K (.ref 1206) "again" = some none := of_decide_eq_true z
  obtain ⟨z, c_8⟩ := He.ba c_8
  have h_n_Endpoint_probe : PySem.W.findIn K (.ref 1206) "probe" = some none := of_decide_eq_true z
  obtain ⟨z, c_8⟩ := He.ba c_8
  have h_n_Endpoint_over : PySem.W.findIn K (.ref 1206) "over" = some none := of_decide_eq_true z
  obtain ⟨z, c_8⟩ := He.ba c_8
  have h_n_Endpoint_rest : PySem.W.findIn K (.ref 1206) "rest" = some none := of_decide_eq_true z
  obtain ⟨z, c_8⟩ := He.ba c_8
  have h_n_Endpoint_spent_at : PySem.W.findIn K (.ref 1206) "spent_at" = some none := of_decide_eq_true z
  obtain ⟨z, c_8⟩ := He.ba c_8
  have h_n_Endpoint_spent : PySem.W.findIn K (.ref 1206) "spent" = some none := of_decide_eq_true z
  obtain ⟨z, c_8⟩ := He.ba c_8
  have h_n_Endpoint_stamp : PySem.W.findIn K (.ref 1206) "stamp" = some none := of_decide_eq_true z
  obtain ⟨z, c_8⟩ := He.ba c_8
  have h_n_Endpoint_marked : PySem.W.findIn K (.ref 1206) "marked" = some none := of_decide_eq_true z
  obtain ⟨z, c_8⟩ := He.ba c_8
  have h_n_Endpoint_cut : PySem.W.findIn K (.ref 1206) "cut" = some none := of_decide_eq_true z
  obtain ⟨z, c_8⟩ := He.ba c_8
  have h_c_Options : PySem.W.nsIn K mainGlobals "Options" = some (some (.ref 1310)) := of_decide_eq_true z
  obtain ⟨z, c_8⟩ := He.ba c_8
  have h_pg_Options : PySem.W.plainGet K 1310 Str.empty = true := of_decide_eq_true z
  obtain ⟨z, c_8⟩ := He.ba c_8
  have h_hd_Options : PySem.W.hasDictIn K 1310 = true := of_decide_eq_true z
  obtain ⟨z, c_8⟩ := He.ba c_8
  have h_po_Options : PySem.W.plainOver K 1310 = true := of_decide_eq_true z
  obtain ⟨z, c_8⟩ := He.ba c_8
  have h_sa_Options : PySem.W.findIn K (.ref 1310) "__setattr__" = some (some (.builtin "object.__setattr__")) := of_decide_eq_true z
  obtain ⟨z, c_8⟩ := He.ba c_8
  have h_mk0_Options : PySem.W.makesIn K 1310 = true := of_decide_eq_true z
  obtain ⟨z, c_8⟩ := He.ba c_8
  have h_kc_Options : PySem.W.keepIn K (.ref 1310) = true := of_decide_eq_true z
  obtain ⟨z, c_8⟩ := He.ba c_8
  have h_ha_Options : PySem.W.findIn K (.ref 1310) "__class__" = some (some (.builtin "object.__class__")) := of_decide_eq_true z
  have z := c_8
  have h_hm_Options : PySem.W.mroIn K 1310 (.type "object") = some true := of_decide_eq_true z
  unfold er_ok_9 at c_9
  obtain ⟨z, c_9⟩ := He.ba c_9
  have h_n_Options_mss : PySem.W.findIn K (.ref 1310) "mss" = some none := of_decide_eq_true z
  obtain ⟨z, c_9⟩ := He.ba c_9
  have h_n_Options_room : PySem.W.findIn K (.ref 1310) "room" = some none := of_decide_eq_true z
  obtain ⟨z, c_9⟩ := He.ba c_9
  have h_n_Options_life : PySem.W.findIn K (.ref 1310) "life" = some none := of_decide_eq_true z
  obtain ⟨z, c_9⟩ := He.ba c_9
  have h_n_Options_pace : PySem.W.findIn K (.ref 1310) "pace" = some none := of_decide_eq_true z
  obtain ⟨z, c_9⟩ := He.ba c_9
  have h_n_Options_tries : PySem.W.findIn K (.ref 1310) "tries" = some none := of_decide_eq_true z
  obtain ⟨z, c_9⟩ := He.ba c_9
  have h_n_Options_min_rto : PySem.W.findIn K (.ref 1310) "min_rto" = some none := of_decide_eq_true z
  obtain ⟨z, c_9⟩ := He.ba c_9
  have h_n_Options_max_rto : PySem.W.findIn K (.ref 1310) "max_rto" = some none := of_decide_eq_true z
  obtain ⟨z, c_9⟩ := He.ba c_9
  have h_n_Options_ack_delay : PySem.W.findIn K (.ref 1310) "ack_delay" = some none := of_decide_eq_true z
  obtain ⟨z, c_9⟩ := He.ba c_9
  have h_n_Options_keep_alive : PySem.W.findIn K (.ref 1310) "keep_alive" = some none := of_decide_eq_true z
  obtain ⟨z, c_9⟩ := He.ba c_9
  have h_n_Options_nagle : PySem.W.findIn K (.ref 1310) "nagle" = some none := of_decide_eq_true z
  obtain ⟨z, c_9⟩ := He.ba c_9
  have h_n_Options_control : PySem.W.findIn K (.ref 1310) "control" = some none := of_decide_eq_true z
  obtain ⟨z, c_9⟩ := He.ba c_9
  have h_rd_Control : PySem.W.readsIn K 268 (.type "type") = true := of_decide_eq_true z
  obtain ⟨z, c_9⟩ := He.ba c_9
  have h_gg_Control : PySem.W.specialIn K (.ref 268) "__getattribute__" = some (some (.builtin "type.__getattribute__")) := of_decide_eq_true z
  obtain ⟨z, c_9⟩ := He.ba c_9
  obtain ⟨_, h_cva_Control_GREATEST⟩ := erCI_ok z
  obtain ⟨z, c_9⟩ := He.ba c_9
  have h_a_Segment_init__ : PySem.W.findIn K (.ref 63) "__init__" = some (some (.ref 38)) := of_decide_eq_true z
  obtain ⟨z, c_9⟩ := He.ba c_9
  have h_i_Segment_init__ : PySem.W.isFn K (.ref 38) = true := of_decide_eq_true z
  obtain ⟨z, c_9⟩ := He.ba c_9
  have h_kw_Segment_init___echo : PySem.W.nsIn K 31 "echo" = some (some .none) := of_decide_eq_true z
  obtain ⟨z, c_9⟩ := He.ba c_9
  have h_kw_Segment_init___ack : PySem.W.nsIn K 31 "ack" = some (some .none) := of_decide_eq_true z
  obtain ⟨z, c_9⟩ := He.ba c_9
  have h_kw_Segment_init___syn : PySem.W.nsIn K 31 "syn" = some (some (.bool false)) := of_decide_eq_true z
  have z := c_9
  have h_kw_Segment_init___fin : PySem.W.nsIn K 31 "fin" = some (some (.bool false)) := of_decide_eq_true z
  unfold er_ok_10 at c_10
  obtain ⟨z, c_10⟩ := He.ba c_10
  have h_kw_Segment_init___reset : PySem.W.nsIn K 31 "reset" = some (some (.bool false)) := of_decide_eq_true z
  obtain ⟨z, c_10⟩ := He.ba c_10
  have h_kw_Segment_init___marked : PySem.W.nsIn K 31 "marked" = some (some (.bool false)) := of_decide_eq_true z
  obtain ⟨z, c_10⟩ := He.ba c_10
  have h_kw_Segment_init___cut : PySem.W.nsIn K 31 "cut" = some (some (.bool false)) := of_decide_eq_true z
  obtain ⟨z, c_10⟩ := He.ba c_10
  obtain ⟨_, h_kw_Segment_init___window⟩ := erI_ok z
  obtain ⟨z, c_10⟩ := He.ba c_10
  have h_kw_Segment_init___mss : PySem.W.nsIn K 31 "mss" = some (some .none) := of_decide_eq_true z
  obtain ⟨z, c_10⟩ := He.ba c_10
  have h_kw_Segment_init___scale : PySem.W.nsIn K 31 "scale" = some (some .none) := of_decide_eq_true z
  obtain ⟨z, c_10⟩ := He.ba c_10
  have h_kw_Segment_init___ranges_known : PySem.W.nsIn K 31 "ranges_known" = some (some (.bool false)) := of_decide_eq_true z
  obtain ⟨z, c_10⟩ := He.ba c_10
  have h_kw_Segment_init___ranges : PySem.W.nsIn K 31 "ranges" = some (some (.ref 29)) := of_decide_eq_true z
  obtain ⟨z, c_10⟩ := He.ba c_10
  obtain ⟨_, _, _, h_el0_Segment_init___ranges⟩ := erT_ok z
  obtain ⟨z, c_10⟩ := He.ba c_10
  have h_kw_Segment_init___stamp : PySem.W.nsIn K 31 "stamp" = some (some .none) := of_decide_eq_true z
  obtain ⟨z, c_10⟩ := He.ba c_10
  have h_kw_Segment_init___data : PySem.W.nsIn K 31 "data" = some (some (.ref 30)) := of_decide_eq_true z
  obtain ⟨z, c_10⟩ := He.ba c_10
  obtain ⟨_, _, _, h_el0_Segment_init___data⟩ := erT_ok z
  obtain ⟨z, c_10⟩ := He.ba c_10
  have h_cc_Segment_init__ : PySem.W.codeIn K (.ref 37) "Segment.__init__" = true := of_decide_eq_true z
  obtain ⟨z, c_10⟩ := He.ba c_10
  have h_kk_Segment_init__ : PySem.W.keepIn K (.ref 38) = true := of_decide_eq_true z
  obtain ⟨z, c_10⟩ := He.ba c_10
  have h_a_Socket_init__ : PySem.W.findIn K (.ref 184) "__init__" = some (some (.ref 82)) := of_decide_eq_true z
  obtain ⟨z, c_10⟩ := He.ba c_10
  have h_i_Socket_init__ : PySem.W.isFn K (.ref 82) = true := of_decide_eq_true z
  obtain ⟨z, c_10⟩ := He.ba c_10
  have h_kw_Socket_init___listened : PySem.W.nsIn K 75 "listened" = some (some (.bool false)) := of_decide_eq_true z
  obtain ⟨z, c_10⟩ := He.ba c_10
  have h_cc_Socket_init__ : PySem.W.codeIn K (.ref 81) "Socket.__init__" = true := of_decide_eq_true z
  obtain ⟨z, c_10⟩ := He.ba c_10
  have h_kk_Socket_init__ : PySem.W.keepIn K (.ref 82) = true := of_decide_eq_true z
  have z := c_10
  have h_a_Socket_is_for : PySem.W.findIn K (.ref 184) "is_for" = some (some (.ref 97)) := of_decide_eq_true z
  unfold er_ok_11 at c_11
  obtain ⟨z, c_11⟩ := He.ba c_11
  have h_i_Socket_is_for : PySem.W.isFn K (.ref 97) = true := of_decide_eq_true z
  obtain ⟨z, c_11⟩ := He.ba c_11
  have h_cc_Socket_is_for : PySem.W.codeIn K (.ref 96) "Socket.is_for" = true := of_decide_eq_true z
  obtain ⟨z, c_11⟩ := He.ba c_11
  have h_kk_Socket_is_for : PySem.W.keepIn K (.ref 97) = true := of_decide_eq_true z
  obtain ⟨z, c_11⟩ := He.ba c_11
  have h_a_Socket_learn : PySem.W.findIn K (.ref 184) "learn" = some (some (.ref 104)) := of_decide_eq_true z
  obtain ⟨z, c_11⟩ := He.ba c_11
  have h_i_Socket_learn : PySem.W.isFn K (.ref 104) = true := of_decide_eq_true z
  obtain ⟨z, c_11⟩ := He.ba c_11
  have h_cc_Socket_learn : PySem.W.codeIn K (.ref 103) "Socket.learn" = true := of_decide_eq_true z
  obtain ⟨z, c_11⟩ := He.ba c_11
  have h_kk_Socket_learn : PySem.W.keepIn K (.ref 104) = true := of_decide_eq_true z
  obtain ⟨z, c_11⟩ := He.ba c_11
  have h_a_Reno_init__ : PySem.W.findIn K (.ref 375) "__init__" = some (some (.ref 344)) := of_decide_eq_true z
  obtain ⟨z, c_11⟩ := He.ba c_11
  have h_i_Reno_init__ : PySem.W.isFn K (.ref 344) = true := of_decide_eq_true z
  obtain ⟨z, c_11⟩ := He.ba c_11
  have h_cc0_Reno_init__ : PySem.W.codeIn K (.ref 343) "Reno.__init__" = true := of_decide_eq_true z
  obtain ⟨z, c_11⟩ := He.ba c_11
  have h_kk_Reno_init__ : PySem.W.keepIn K (.ref 344) = true := of_decide_eq_true z
  obtain ⟨z, c_11⟩ := He.ba c_11
  obtain ⟨_, _, _, _, _, _, h_la_Reno_init__, h_lv_Reno_init__, h_lf_Reno_init__⟩ := erL_ok z
  obtain ⟨z, c_11⟩ := He.ba c_11
  obtain ⟨_, _, _, h_le_Reno_init__⟩ := erE_ok z
  obtain ⟨z, c_11⟩ := He.ba c_11
  obtain ⟨_, h_ld_Reno_init__⟩ := er_cls z
  obtain ⟨z, c_11⟩ := He.ba c_11
  have h_ls_Reno_init__ : PySem.W.mroIn K 375 (.ref 375) = some true := of_decide_eq_true z
  obtain ⟨z, c_11⟩ := He.ba c_11
  have h_lu_Reno_init__ : PySem.W.ks_superIn K 375 375 "__init__" = some (some (.ref 202)) := of_decide_eq_true z
  obtain ⟨z, c_11⟩ := He.ba c_11
  have h_ly_Reno_init__ : PySem.W.typeIn K (.ref 202) = some (.type "function") := of_decide_eq_true z
  obtain ⟨z, c_11⟩ := He.ba c_11
  have h_ln_Reno_init__ : PySem.W.fnIn K 202 = true := of_decide_eq_true z
  obtain ⟨z, c_11⟩ := He.ba c_11
  have h_lo_Reno_init__ : PySem.W.nsIn K cStatics "thirdparty.any" = some none := of_decide_eq_true z
  have z := c_11
  have h_cc_Reno_upper__init__ : PySem.W.codeIn K (.ref 201) "Control.__init__" = true := of_decide_eq_true z
  unfold er_ok_12 at c_12
  obtain ⟨z, c_12⟩ := He.ba c_12
  have h_kk_Reno_upper__init__ : PySem.W.keepIn K (.ref 202) = true := of_decide_eq_true z
  obtain ⟨z, c_12⟩ := He.ba c_12
  have h_a_Reno_bounded : PySem.W.findIn K (.ref 375) "_bounded" = some (some (.ref 237)) := of_decide_eq_true z
  obtain ⟨z, c_12⟩ := He.ba c_12
  have h_i_Reno_bounded : PySem.W.isFn K (.ref 237) = true := of_decide_eq_true z
  obtain ⟨z, c_12⟩ := He.ba c_12
  have h_cc_Reno_bounded : PySem.W.codeIn K (.ref 236) "Control._bounded" = true := of_decide_eq_true z
  obtain ⟨z, c_12⟩ := He.ba c_12
  have h_kk_Reno_bounded : PySem.W.keepIn K (.ref 237) = true := of_decide_eq_true z
  obtain ⟨z, c_12⟩ := He.ba c_12
  have h_a_RoundTrip_init__ : PySem.W.findIn K (.ref 430) "__init__" = some (some (.ref 391)) := of_decide_eq_true z
  obtain ⟨z, c_12⟩ := He.ba c_12
  have h_i_RoundTrip_init__ : PySem.W.isFn K (.ref 391) = true := of_decide_eq_true z
  obtain ⟨z, c_12⟩ := He.ba c_12
  have h_cc_RoundTrip_init__ : PySem.W.codeIn K (.ref 390) "RoundTrip.__init__" = true := of_decide_eq_true z
  obtain ⟨z, c_12⟩ := He.ba c_12
  have h_kk_RoundTrip_init__ : PySem.W.keepIn K (.ref 391) = true := of_decide_eq_true z
  obtain ⟨z, c_12⟩ := He.ba c_12
  have h_a_RoundTrip_within_bounds : PySem.W.findIn K (.ref 430) "_within_bounds" = some (some (.ref 427)) := of_decide_eq_true z
  obtain ⟨z, c_12⟩ := He.ba c_12
  have h_i_RoundTrip_within_bounds : PySem.W.isFn K (.ref 427) = true := of_decide_eq_true z
  obtain ⟨z, c_12⟩ := He.ba c_12
  have h_cc_RoundTrip_within_bounds : PySem.W.codeIn K (.ref 426) "RoundTrip._within_bounds" = true := of_decide_eq_true z
  obtain ⟨z, c_12⟩ := He.ba c_12
  have h_kk_RoundTrip_within_bounds : PySem.W.keepIn K (.ref 427) = true := of_decide_eq_true z
  obtain ⟨z, c_12⟩ := He.ba c_12
  have h_a_OffsetSet_init__ : PySem.W.findIn K (.ref 564) "__init__" = some (some (.ref 476)) := of_decide_eq_true z
  obtain ⟨z, c_12⟩ := He.ba c_12
  have h_i_OffsetSet_init__ : PySem.W.isFn K (.ref 476) = true := of_decide_eq_true z
  obtain ⟨z, c_12⟩ := He.ba c_12
  obtain ⟨_, _, _, h_dt0_OffsetSet_init__⟩ := erT_ok z
  obtain ⟨z, c_12⟩ := He.ba c_12
  obtain ⟨_, _, _, h_el0_OffsetSet_init___ranges⟩ := erT_ok z
  obtain ⟨z, c_12⟩ := He.ba c_12
  have h_cc_OffsetSet_init__ : PySem.W.codeIn K (.ref 475) "OffsetSet.__init__" = true := of_decide_eq_true z
  obtain ⟨z, c_12⟩ := He.ba c_12
  have h_kk_OffsetSet_init__ : PySem.W.keepIn K (.ref 476) = true := of_decide_eq_true z
  have z := c_12
  have h_a_Receiver_init__ : PySem.W.findIn K (.ref 714) "__init__" = some (some (.ref 582)) := of_decide_eq_true z
  unfold er_ok_13 at c_13
  obtain ⟨z, c_13⟩ := He.ba c_13
  have h_i_Receiver_init__ : PySem.W.isFn K (.ref 582) = true := of_decide_eq_true z
  obtain ⟨z, c_13⟩ := He.ba c_13
  have h_cc_Receiver_init__ : PySem.W.codeIn K (.ref 581) "Receiver.__init__" = true := of_decide_eq_true z
  obtain ⟨z, c_13⟩ := He.ba c_13
  have h_kk_Receiver_init__ : PySem.W.keepIn K (.ref 582) = true := of_decide_eq_true z
  obtain ⟨z, c_13⟩ := He.ba c_13
  have h_a_Sender_init__ : PySem.W.findIn K (.ref 937) "__init__" = some (some (.ref 732)) := of_decide_eq_true z
  obtain ⟨z, c_13⟩ := He.ba c_13
  have h_i_Sender_init__ : PySem.W.isFn K (.ref 732) = true := of_decide_eq_true z
  obtain ⟨z, c_13⟩ := He.ba c_13
  have h_cc_Sender_init__ : PySem.W.codeIn K (.ref 731) "Sender.__init__" = true := of_decide_eq_true z
  obtain ⟨z, c_13⟩ := He.ba c_13
  have h_kk_Sender_init__ : PySem.W.keepIn K (.ref 732) = true := of_decide_eq_true z
  obtain ⟨z, c_13⟩ := He.ba c_13
  have h_a_Endpoint_init__ : PySem.W.findIn K (.ref 1206) "__init__" = some (some (.ref 955)) := of_decide_eq_true z
  obtain ⟨z, c_13⟩ := He.ba c_13
  have h_i_Endpoint_init__ : PySem.W.isFn K (.ref 955) = true := of_decide_eq_true z
  obtain ⟨z, c_13⟩ := He.ba c_13
  have h_cc_Endpoint_init__ : PySem.W.codeIn K (.ref 954) "Endpoint.__init__" = true := of_decide_eq_true z
  obtain ⟨z, c_13⟩ := He.ba c_13
  have h_kk_Endpoint_init__ : PySem.W.keepIn K (.ref 955) = true := of_decide_eq_true z
  obtain ⟨z, c_13⟩ := He.ba c_13
  have h_a_Endpoint_has_ended : PySem.W.findIn K (.ref 1206) "has_ended" = some (some (.ref 973)) := of_decide_eq_true z
  obtain ⟨z, c_13⟩ := He.ba c_13
  have h_pget_Endpoint_has_ended : PySem.W.specialIn K (.ref 973) "__get__" = some (some (.builtin "property.__get__")) := of_decide_eq_true z
  obtain ⟨z, c_13⟩ := He.ba c_13
  have h_ptak_Endpoint_has_ended : PySem.W.takesIn K (.ref 973) = some true := of_decide_eq_true z
  obtain ⟨z, c_13⟩ := He.ba c_13
  obtain ⟨_, h_prec_Endpoint_has_ended⟩ := erP_ok z
  obtain ⟨z, c_13⟩ := He.ba c_13
  have h_cc_Endpoint_has_ended : PySem.W.codeIn K (.ref 971) "Endpoint.has_ended" = true := of_decide_eq_true z
  obtain ⟨z, c_13⟩ := He.ba c_13
  have h_kk_Endpoint_has_ended : PySem.W.keepIn K (.ref 972) = true := of_decide_eq_true z
  obtain ⟨z, c_13⟩ := He.ba c_13
  have h_a_Endpoint_abort : PySem.W.findIn K (.ref 1206) "abort" = some (some (.ref 1041)) := of_decide_eq_true z
  obtain ⟨z, c_13⟩ := He.ba c_13
  have h_i_Endpoint_abort : PySem.W.isFn K (.ref 1041) = true := of_decide_eq_true z
  have z := c_13
  have h_cc_Endpoint_abort : PySem.W.codeIn K (.ref 1040) "Endpoint.abort" = true := of_decide_eq_true z
  unfold er_ok_14 at c_14
  obtain ⟨z, c_14⟩ := He.ba c_14
  have h_kk_Endpoint_abort : PySem.W.keepIn K (.ref 1041) = true := of_decide_eq_true z
  obtain ⟨z, c_14⟩ := He.ba c_14
  have h_a_Endpoint_end : PySem.W.findIn K (.ref 1206) "_end" = some (some (.ref 1091)) := of_decide_eq_true z
  obtain ⟨z, c_14⟩ := He.ba c_14
  have h_i_Endpoint_end : PySem.W.isFn K (.ref 1091) = true := of_decide_eq_true z
  obtain ⟨z, c_14⟩ := He.ba c_14
  have h_cc_Endpoint_end : PySem.W.codeIn K (.ref 1090) "Endpoint._end" = true := of_decide_eq_true z
  obtain ⟨z, c_14⟩ := He.ba c_14
  have h_kk_Endpoint_end : PySem.W.keepIn K (.ref 1091) = true := of_decide_eq_true z
  obtain ⟨z, c_14⟩ := He.ba c_14
  have h_a_new_control : PySem.W.nsIn K mainGlobals "_new_control" = some (some (.ref 1217)) := of_decide_eq_true z
  obtain ⟨z, c_14⟩ := He.ba c_14
  have h_cc_new_control : PySem.W.codeIn K (.ref 1216) "_new_control" = true := of_decide_eq_true z
  obtain ⟨z, c_14⟩ := He.ba c_14
  have h_kk_new_control : PySem.W.keepIn K (.ref 1217) = true := of_decide_eq_true z
  obtain ⟨z, c_14⟩ := He.ba c_14
  have h_a_Options_init__ : PySem.W.findIn K (.ref 1310) "__init__" = some (some (.ref 1257)) := of_decide_eq_true z
  obtain ⟨z, c_14⟩ := He.ba c_14
  have h_i_Options_init__ : PySem.W.isFn K (.ref 1257) = true := of_decide_eq_true z
  obtain ⟨z, c_14⟩ := He.ba c_14
  obtain ⟨_, h_kw_Options_init___ack_delay⟩ := erI_ok z
  obtain ⟨z, c_14⟩ := He.ba c_14
  obtain ⟨_, h_kw_Options_init___keep_alive⟩ := erI_ok z
  obtain ⟨z, c_14⟩ := He.ba c_14
  have h_kw_Options_init___nagle : PySem.W.nsIn K 1250 "nagle" = some (some (.bool false)) := of_decide_eq_true z
  obtain ⟨z, c_14⟩ := He.ba c_14
  obtain ⟨_, h_kw_Options_init___control⟩ := erS_ok z
  obtain ⟨z, c_14⟩ := He.ba c_14
  have h_cc_Options_init__ : PySem.W.codeIn K (.ref 1256) "Options.__init__" = true := of_decide_eq_true z
  obtain ⟨z, c_14⟩ := He.ba c_14
  have h_kk_Options_init__ : PySem.W.keepIn K (.ref 1257) = true := of_decide_eq_true z
  obtain ⟨z, c_14⟩ := He.ba c_14
  have h_a_Options_fork : PySem.W.findIn K (.ref 1310) "fork" = some (some (.ref 1288)) := of_decide_eq_true z
  obtain ⟨z, c_14⟩ := He.ba c_14
  have h_i_Options_fork : PySem.W.isFn K (.ref 1288) = true := of_decide_eq_true z
  obtain ⟨z, c_14⟩ := He.ba c_14
  have h_cc_Options_fork : PySem.W.codeIn K (.ref 1287) "Options.fork" = true := of_decide_eq_true z
  have z := c_14
  have h_kk_Options_fork : PySem.W.keepIn K (.ref 1288) = true := of_decide_eq_true z
  unfold er_ok_15 at c_15
  obtain ⟨z, c_15⟩ := He.ba c_15
  have h_a_Options_wrong_names : PySem.W.findIn K (.ref 1310) "_wrong_names" = some (some (.ref 1307)) := of_decide_eq_true z
  obtain ⟨z, c_15⟩ := He.ba c_15
  have h_i_Options_wrong_names : PySem.W.isFn K (.ref 1307) = true := of_decide_eq_true z
  obtain ⟨z, c_15⟩ := He.ba c_15
  have h_cc_Options_wrong_names : PySem.W.codeIn K (.ref 1306) "Options._wrong_names" = true := of_decide_eq_true z
  obtain ⟨z, c_15⟩ := He.ba c_15
  have h_kk_Options_wrong_names : PySem.W.keepIn K (.ref 1307) = true := of_decide_eq_true z
  obtain ⟨z, c_15⟩ := He.ba c_15
  have h_a_l_rows : PySem.W.nsIn K mainGlobals "_law_rows" = some (some (.ref 1321)) := of_decide_eq_true z
  obtain ⟨z, c_15⟩ := He.ba c_15
  have h_cc_l_rows : PySem.W.codeIn K (.ref 1320) "_law_rows" = true := of_decide_eq_true z
  obtain ⟨z, c_15⟩ := He.ba c_15
  have h_kk_l_rows : PySem.W.keepIn K (.ref 1321) = true := of_decide_eq_true z
  obtain ⟨z, c_15⟩ := He.ba c_15
  have h_a_l_pick : PySem.W.nsIn K mainGlobals "_law_pick" = some (some (.ref 1328)) := of_decide_eq_true z
  obtain ⟨z, c_15⟩ := He.ba c_15
  have h_cc_l_pick : PySem.W.codeIn K (.ref 1327) "_law_pick" = true := of_decide_eq_true z
  obtain ⟨z, c_15⟩ := He.ba c_15
  have h_kk_l_pick : PySem.W.keepIn K (.ref 1328) = true := of_decide_eq_true z
  obtain ⟨z, c_15⟩ := He.ba c_15
  have h_a_law : PySem.W.nsIn K mainGlobals "law" = some (some (.ref 1335)) := of_decide_eq_true z
  obtain ⟨z, c_15⟩ := He.ba c_15
  have h_cc_law : PySem.W.codeIn K (.ref 1334) "law" = true := of_decide_eq_true z
  obtain ⟨z, c_15⟩ := He.ba c_15
  have h_kk_law : PySem.W.keepIn K (.ref 1335) = true := of_decide_eq_true z
  obtain ⟨z, c_15⟩ := He.ba c_15
  have h_z_bool : PySem.W.nsIn K mainGlobals "bool" = some none := of_decide_eq_true z
  obtain ⟨z, c_15⟩ := He.ba c_15
  have h_z_int : PySem.W.nsIn K mainGlobals "int" = some none := of_decide_eq_true z
  obtain ⟨z, c_15⟩ := He.ba c_15
  have h_z_isinstance : PySem.W.nsIn K mainGlobals "isinstance" = some none := of_decide_eq_true z
  obtain ⟨z, c_15⟩ := He.ba c_15
  have h_z_len : PySem.W.nsIn K mainGlobals "len" = some none := of_decide_eq_true z
  obtain ⟨z, c_15⟩ := He.ba c_15
  have h_z_list : PySem.W.nsIn K mainGlobals "list" = some none := of_decide_eq_true z
  obtain ⟨z, c_15⟩ := He.ba c_15
  have h_z_max : PySem.W.nsIn K mainGlobals "max" = some none := of_decide_eq_true z
  have z := c_15
  have h_z_min : PySem.W.nsIn K mainGlobals "min" = some none := of_decide_eq_true z
  unfold er_ok_16 at c_16
  obtain ⟨z, c_16⟩ := He.ba c_16
  have h_z_range : PySem.W.nsIn K mainGlobals "range" = some none := of_decide_eq_true z
  have z := c_16
  have h_z_super : PySem.W.nsIn K mainGlobals "super" = some none := of_decide_eq_true z
  obtain ⟨oc_Segment_init__, od_Segment_init__, osl_Segment_init__, doc_Segment_init__, pm_Segment_init__, an_Segment_init__, ct_Segment_init__, l_Segment_init__⟩ := erF_ok (er_get er_d 0 rfl)
  obtain ⟨oc_Socket_init__, od_Socket_init__, osl_Socket_init__, doc_Socket_init__, pm_Socket_init__, an_Socket_init__, ct_Socket_init__, l_Socket_init__⟩ := erF_ok (er_get er_d 1 rfl)
  obtain ⟨oc_Socket_is_for, od_Socket_is_for, osl_Socket_is_for, doc_Socket_is_for, pm_Socket_is_for, an_Socket_is_for, ct_Socket_is_for, l_Socket_is_for⟩ := erF_ok (er_get er_d 2 rfl)
  obtain ⟨oc_Socket_learn, od_Socket_learn, osl_Socket_learn, doc_Socket_learn, pm_Socket_learn, an_Socket_learn, ct_Socket_learn, l_Socket_learn⟩ := erF_ok (er_get er_d 3 rfl)
  obtain ⟨oc_Reno_init__, od_Reno_init__, osl_Reno_init__, doc_Reno_init__, pm_Reno_init__, an_Reno_init__, ct_Reno_init__, l_Reno_init__⟩ := erF_ok (er_get er_d 4 rfl)
  obtain ⟨oc_Reno_upper__init__, od_Reno_upper__init__, osl_Reno_upper__init__, doc_Reno_upper__init__, pm_Reno_upper__init__, an_Reno_upper__init__, ct_Reno_upper__init__, l_Reno_upper__init__⟩ := erF_ok (er_get er_d 5 rfl)
  obtain ⟨oc_Reno_bounded, od_Reno_bounded, osl_Reno_bounded, doc_Reno_bounded, pm_Reno_bounded, an_Reno_bounded, ct_Reno_bounded, l_Reno_bounded⟩ := erF_ok (er_get er_d 6 rfl)
  obtain ⟨oc_RoundTrip_init__, od_RoundTrip_init__, osl_RoundTrip_init__, doc_RoundTrip_init__, pm_RoundTrip_init__, an_RoundTrip_init__, ct_RoundTrip_init__, l_RoundTrip_init__⟩ := erF_ok (er_get er_d 7 rfl)
  obtain ⟨oc_RoundTrip_within_bounds, od_RoundTrip_within_bounds, osl_RoundTrip_within_bounds, doc_RoundTrip_within_bounds, pm_RoundTrip_within_bounds, an_RoundTrip_within_bounds, ct_RoundTrip_within_bounds, l_RoundTrip_within_bounds⟩ := erF_ok (er_get er_d 8 rfl)
  obtain ⟨oc_OffsetSet_init__, od_OffsetSet_init__, osl_OffsetSet_init__, doc_OffsetSet_init__, pm_OffsetSet_init__, an_OffsetSet_init__, ct_OffsetSet_init__, l_OffsetSet_init__⟩ := erF_ok (er_get er_d 9 rfl)
  obtain ⟨oc_Receiver_init__, od_Receiver_init__, osl_Receiver_init__, doc_Receiver_init__, pm_Receiver_init__, an_Receiver_init__, ct_Receiver_init__, l_Receiver_init__⟩ := erF_ok (er_get er_d 10 rfl)
  obtain ⟨oc_Sender_init__, od_Sender_init__, osl_Sender_init__, doc_Sender_init__, pm_Sender_init__, an_Sender_init__, ct_Sender_init__, l_Sender_init__⟩ := erF_ok (er_get er_d 11 rfl)
  obtain ⟨oc_Endpoint_init__, od_Endpoint_init__, osl_Endpoint_init__, doc_Endpoint_init__, pm_Endpoint_init__, an_Endpoint_init__, ct_Endpoint_init__, l_Endpoint_init__⟩ := erF_ok (er_get er_d 12 rfl)
  obtain ⟨oc_Endpoint_has_ended, od_Endpoint_has_ended, osl_Endpoint_has_ended, doc_Endpoint_has_ended, pm_Endpoint_has_ended, an_Endpoint_has_ended, ct_Endpoint_has_ended, l_Endpoint_has_ended⟩ := erF_ok (er_get er_d 13 rfl)
  obtain ⟨oc_Endpoint_abort, od_Endpoint_abort, osl_Endpoint_abort, doc_Endpoint_abort, pm_Endpoint_abort, an_Endpoint_abort, ct_Endpoint_abort, l_Endpoint_abort⟩ := erF_ok (er_get er_d 14 rfl)
  obtain ⟨oc_Endpoint_end, od_Endpoint_end, osl_Endpoint_end, doc_Endpoint_end, pm_Endpoint_end, an_Endpoint_end, ct_Endpoint_end, l_Endpoint_end⟩ := erF_ok (er_get er_d 15 rfl)
  obtain ⟨oc_new_control, od_new_control, osl_new_control, doc_new_control, pm_new_control, an_new_control, ct_new_control, l_new_control⟩ := erF_ok (er_get er_d 16 rfl)
  obtain ⟨oc_Options_init__, od_Options_init__, osl_Options_init__, doc_Options_init__, pm_Options_init__, an_Options_init__, ct_Options_init__, l_Options_init__⟩ := erF_ok (er_get er_d 17 rfl)
  obtain ⟨oc_Options_fork, od_Options_fork, osl_Options_fork, doc_Options_fork, pm_Options_fork, an_Options_fork, ct_Options_fork, l_Options_fork⟩ := erF_ok (er_get er_d 18 rfl)
  obtain ⟨oc_Options_wrong_names, od_Options_wrong_names, osl_Options_wrong_names, doc_Options_wrong_names, pm_Options_wrong_names, an_Options_wrong_names, ct_Options_wrong_names, l_Options_wrong_names⟩ := erF_ok (er_get er_d 19 rfl)
  obtain ⟨oc_l_rows, od_l_rows, osl_l_rows, doc_l_rows, pm_l_rows, an_l_rows, ct_l_rows, l_l_rows⟩ := erF_ok (er_get er_d 20 rfl)
  obtain ⟨oc_l_pick, od_l_pick, osl_l_pick, doc_l_pick, pm_l_pick, an_l_pick, ct_l_pick, l_l_pick⟩ := erF_ok (er_get er_d 21 rfl)
  obtain ⟨oc_law, od_law, osl_law, doc_law, pm_law, an_law, ct_law, l_law⟩ := erF_ok (er_get er_d 22 rfl)
  exact all_mk X G hfa h_v_CIRCLE h_v_FIRST_NUMBER_STEP h_v_MOST_TICKS h_v_MOST_UNDER_WAY h_c_InvalidOptions h_be_InvalidOptions h_te_InvalidOptions h_hd_InvalidOptions h_ic_InvalidOptions h_xP_InvalidOptions h_ke_InvalidOptions h_c_Segment h_pg_Segment h_hd_Segment h_po_Segment h_sa_Segment h_mk0_Segment h_kc_Segment h_ha_Segment h_hm_Segment h_hn_all h_ht_all h_n_Segment_source h_n_Segment_target h_n_Segment_seq h_n_Segment_count h_n_Segment_echo h_n_Segment_ack h_n_Segment_syn h_n_Segment_fin h_n_Segment_reset h_n_Segment_marked h_n_Segment_cut h_n_Segment_window h_n_Segment_mss h_n_Segment_scale h_n_Segment_ranges_known h_n_Segment_ranges h_n_Segment_stamp h_n_Segment_data h_c_Socket h_pg_Socket h_hd_Socket h_po_Socket h_sa_Socket h_mk0_Socket h_kc_Socket h_n_Socket_count h_n_Socket_port h_n_Socket_peer h_n_Socket_peer_port h_n_Socket_peer_count h_n_Socket_peer_first h_n_Socket_peer_shift h_n_Socket_listened h_n_Socket_accepted h_n_Socket_endpoint h_c_Control h_pg_Control h_hd_Control h_po_Control h_sa_Control h_mk0_Control h_kc_Control h_c_Cubic h_pg_Cubic h_hd_Cubic h_po_Cubic h_sa_Cubic h_mk0_Cubic h_kc_Cubic h_c_Reno h_pg_Reno h_hd_Reno h_po_Reno h_sa_Reno h_mk0_Reno h_kc_Reno h_n_Reno_cwnd h_n_Reno_thresh h_n_Reno_peak h_n_Reno_prior h_n_Reno_calm h_n_Reno_credit h_c_RoundTrip h_pg_RoundTrip h_hd_RoundTrip h_po_RoundTrip h_sa_RoundTrip h_mk0_RoundTrip h_kc_RoundTrip h_n_RoundTrip_least h_n_RoundTrip_most h_n_RoundTrip_srtt h_n_RoundTrip_variance h_n_RoundTrip_rto h_n_RoundTrip_measured h_c_OffsetSet h_pg_OffsetSet h_hd_OffsetSet h_po_OffsetSet h_sa_OffsetSet h_mk0_OffsetSet h_kc_OffsetSet h_ha_OffsetSet h_hm_OffsetSet h_n_OffsetSet__ranges h_c_Receiver h_pg_Receiver h_hd_Receiver h_po_Receiver h_sa_Receiver h_mk0_Receiver h_kc_Receiver h_n_Receiver_room h_n_Receiver_nxt h_n_Receiver_edge h_n_Receiver_end h_n_Receiver_recent h_n_Receiver__ready h_n_Receiver__held h_n_Receiver__held_offsets h_c_Sender h_pg_Sender h_hd_Sender h_po_Sender h_sa_Sender h_mk0_Sender h_kc_Sender h_n_Sender_room h_n_Sender_una h_n_Sender_nxt h_n_Sender_written h_n_Sender_finished h_n_Sender_edge h_n_Sender_recovery h_n_Sender_resend h_n_Sender_lost h_n_Sender_repeated h_n_Sender__queue h_n_Sender__sacked h_c_Endpoint h_pg_Endpoint h_hd_Endpoint h_po_Endpoint h_sa_Endpoint h_mk0_Endpoint h_kc_Endpoint h_n_Endpoint_options h_n_Endpoint_sender h_n_Endpoint_receiver h_n_Endpoint_trip h_n_Endpoint_control h_n_Endpoint_phase h_n_Endpoint_cause h_n_Endpoint_mss h_n_Endpoint_selective h_n_Endpoint_alarm h_n_Endpoint_since h_n_Endpoint_ack_at h_n_Endpoint_late h_n_Endpoint_asked h_n_Endpoint_again h_n_Endpoint_probe h_n_Endpoint_over h_n_Endpoint_rest h_n_Endpoint_spent_at h_n_Endpoint_spent h_n_Endpoint_stamp h_n_Endpoint_marked h_n_Endpoint_cut h_c_Options h_pg_Options h_hd_Options h_po_Options h_sa_Options h_mk0_Options h_kc_Options h_ha_Options h_hm_Options h_n_Options_mss h_n_Options_room h_n_Options_life h_n_Options_pace h_n_Options_tries h_n_Options_min_rto h_n_Options_max_rto h_n_Options_ack_delay h_n_Options_keep_alive h_n_Options_nagle h_n_Options_control h_rd_Control h_gg_Control h_cva_Control_GREATEST h_a_Segment_init__ h_i_Segment_init__ l_Segment_init__ h_kw_Segment_init___echo h_kw_Segment_init___ack h_kw_Segment_init___syn h_kw_Segment_init___fin h_kw_Segment_init___reset h_kw_Segment_init___marked h_kw_Segment_init___cut h_kw_Segment_init___window h_kw_Segment_init___mss h_kw_Segment_init___scale h_kw_Segment_init___ranges_known h_kw_Segment_init___ranges h_el0_Segment_init___ranges h_kw_Segment_init___stamp h_kw_Segment_init___data h_el0_Segment_init___data h_cc_Segment_init__ h_kk_Segment_init__ h_a_Socket_init__ h_i_Socket_init__ l_Socket_init__ h_kw_Socket_init___listened h_cc_Socket_init__ h_kk_Socket_init__ h_a_Socket_is_for h_i_Socket_is_for l_Socket_is_for h_cc_Socket_is_for h_kk_Socket_is_for h_a_Socket_learn h_i_Socket_learn l_Socket_learn h_cc_Socket_learn h_kk_Socket_learn h_a_Reno_init__ h_i_Reno_init__ l_Reno_init__ h_cc0_Reno_init__ h_kk_Reno_init__ h_la_Reno_init__ h_lv_Reno_init__ h_lf_Reno_init__ h_le_Reno_init__ h_ld_Reno_init__ h_ls_Reno_init__ (by first | rfl | decide +kernel) h_lu_Reno_init__ h_ly_Reno_init__ h_ln_Reno_init__ h_lo_Reno_init__ l_Reno_upper__init__ h_cc_Reno_upper__init__ h_kk_Reno_upper__init__ h_a_Reno_bounded h_i_Reno_bounded l_Reno_bounded h_cc_Reno_bounded h_kk_Reno_bounded h_a_RoundTrip_init__ h_i_RoundTrip_init__ l_RoundTrip_init__ h_cc_RoundTrip_init__ h_kk_RoundTrip_init__ h_a_RoundTrip_within_bounds h_i_RoundTrip_within_bounds l_RoundTrip_within_bounds h_cc_RoundTrip_within_bounds h_kk_RoundTrip_within_bounds h_a_OffsetSet_init__ h_i_OffsetSet_init__ l_OffsetSet_init__ h_dt0_OffsetSet_init__ h_el0_OffsetSet_init___ranges h_cc_OffsetSet_init__ h_kk_OffsetSet_init__ h_a_Receiver_init__ h_i_Receiver_init__ l_Receiver_init__ h_cc_Receiver_init__ h_kk_Receiver_init__ h_a_Sender_init__ h_i_Sender_init__ l_Sender_init__ h_cc_Sender_init__ h_kk_Sender_init__ h_a_Endpoint_init__ h_i_Endpoint_init__ l_Endpoint_init__ h_cc_Endpoint_init__ h_kk_Endpoint_init__ h_a_Endpoint_has_ended h_pget_Endpoint_has_ended h_ptak_Endpoint_has_ended h_prec_Endpoint_has_ended l_Endpoint_has_ended h_cc_Endpoint_has_ended h_kk_Endpoint_has_ended h_a_Endpoint_abort h_i_Endpoint_abort l_Endpoint_abort h_cc_Endpoint_abort h_kk_Endpoint_abort h_a_Endpoint_end h_i_Endpoint_end l_Endpoint_end h_cc_Endpoint_end h_kk_Endpoint_end h_a_new_control l_new_control h_cc_new_control h_kk_new_control h_a_Options_init__ h_i_Options_init__ l_Options_init__ h_kw_Options_init___ack_delay h_kw_Options_init___keep_alive h_kw_Options_init___nagle h_kw_Options_init___control h_cc_Options_init__ h_kk_Options_init__ h_a_Options_fork h_i_Options_fork l_Options_fork h_cc_Options_fork h_kk_Options_fork h_a_Options_wrong_names h_i_Options_wrong_names l_Options_wrong_names h_cc_Options_wrong_names h_kk_Options_wrong_names h_a_l_rows l_l_rows h_cc_l_rows h_kk_l_rows h_a_l_pick l_l_pick h_cc_l_pick h_kk_l_pick h_a_law l_law h_cc_law h_kk_law h_z_bool h_z_int h_z_isinstance h_z_len h_z_list h_z_max h_z_min h_z_range h_z_super
end My
open PySem PySem.W PySem.Calls PyProof.Rows
set_option maxRecDepth 100000 in
set_option maxHeartbeats 0 in
theorem PySem.Challenge.cw_throughline_k45_which_socket_takes_a_seg_holds : PySem.Challenge.rw_throughline_k45_which_socket_takes_a_seg.Holds := by
  w_on; o_law
  refine HandSHeadRun.head_any (r := My.er_row) (q := PySem.W.view My.er_row.prog [39]) (H := My.er_hk) (ob := My.er_ob) (M := 40000) (loose := My.er_loose) (d := HandSHeadRun.topDef My.er_row.prog 39) (kwd := []) My.er_ob_eq
    (by kernel_rfl) (fun s => by kernel_rfl) My.er_run (by kernel_rfl) (by kernel_rfl) (by kernel_rfl) (by rfl) (by first | assumption | decide +kernel) (by decide +kernel) ⟨rfl, rfl, rfl, rfl, rfl, by decide +kernel⟩ ?hw ?hc
  case hw => w_witness2
  case hc =>
    refine L2.walk_ofE (l := PySem.Challenge.rw_throughline_k45_which_socket_takes_a_seg) (n := 63) (k := 9) (x := "script") (CX := L2.CX0) rfl (by decide) (by kernel_rfl) ⟨rfl, by decide, by decide⟩ ?F (fun _ _ _ _ z => z)
    intro w mg fa h Y G hm0
    obtain ⟨K, KX, c, d⟩ := Y
    have hm : mg ("law" : PySem.Str) = some (.ref fa) := by
      rw [← show (HandSHeadRun.topDef My.er_row.prog 39).name = ("law" : PySem.Str) by kernel_rfl]
      exact hm0
    obtain ⟨fd, hb, hF⟩ := My.er_facts (w := w) KX G hm c d
    exact ⟨K, fd, My.sp_law K, KX, hb, fun H a ns hl _ hS => ⟨a, ns, rfl, hS, hl, fun _ => rfl⟩, hF⟩
#print axioms PySem.Challenge.cw_throughline_k45_which_socket_takes_a_seg_holds

