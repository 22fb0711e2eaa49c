import PyProof.Rows.All
import Wide.All
import OpenK.AllK
import Wide.FinOn
import HandS.ForMost
import HandS.IsInst
import HandS.Wide
import HandS.Style
import HandS.Conv
import HandS.RevRange
import HandS.Walk
import HandS.Property
import HandS.Star
import HandS.Codes
import HandS.TupAny
import HandS.WideBits
import HandS.ForExc
import HandS.Small
import HandS.RaiseMore
import HandS.FStr
import HandS.ExcIs
import HandS.WrittenGet
import HandS.More
import HandS.Flow
import PySem.Challenge.RW_throughline_k54_messages
set_option Elab.async false
set_option linter.all false
set_option maxRecDepth 100000
set_option maxHeartbeats 4000000
namespace My
open PySem PySem.Spec L2
/-! ### readings, one rule a construct -/
section
variable {K : PySem.W.Frag} {σ : St} {H : Hp} {Q : VK} {v x y z : V} {ta tb te tc : TE} {tt tu : TT} {r : R2} {D : Ends} {ts us : TS} {P : Bool → Hp → Prop} {i j : Int}
theorem g_var {i : Nat} (h : σ[i]? = some (some v)) (q : Q v H) : tVar i σ H Q := ⟨v, h, q⟩
theorem g_c (q : Q v H) : tC v σ H Q := q
theorem g_op (h : ta σ H fun x H1 => tb σ H1 fun y H2 => r x y H2 Q) : tOp r ta tb σ H Q := h
theorem g_un {r : V → Hp → VK → Prop} (h : ta σ H fun x H1 => r x H1 Q) : tUn r ta σ H Q := h
theorem g_rI0 {g : Int → Int → V} (q : Q (g i j) H) : rI0 g (.int i) (.int j) H Q := ⟨i, j, rfl, rfl, q⟩
theorem g_rI {C : Int → Int → Prop} {g : Int → Int → V} (c : C i j) (q : Q (g i j) H) : rI C g (.int i) (.int j) H Q := ⟨i, j, rfl, rfl, c, q⟩
theorem g_rU {g : Int → V} (q : Q (g i) H) : rU g (.int i) H Q := ⟨i, rfl, q⟩
theorem g_rEqI (q : Q (.bl (decide (i = j))) H) : rEq (.int i) (.int j) H Q := ⟨rfl, by rw [dec_int]; exact q⟩
theorem g_rNeI (q : Q (.bl (!decide (i = j))) H) : rNe (.int i) (.int j) H Q := ⟨rfl, by rw [dec_int]; exact q⟩
theorem g_rEq (s : scal x y = true) (q : Q (.bl (decide (x = y))) H) : rEq x y H Q := ⟨s, q⟩
theorem g_rNe (s : scal x y = true) (q : Q (.bl (!decide (x = y))) H) : rNe x y H Q := ⟨s, q⟩
theorem g_isN {A : Prop} (q : A) : V.non = V.non ∧ A := ⟨rfl, q⟩
theorem g_rIsB {a b : Bool} (q : Q (.bl (decide (a = b))) H) : rIsB (.bl a) (.bl b) H Q := ⟨a, b, rfl, rfl, q⟩
theorem g_rNotB {a b : Bool} (q : Q (.bl (!decide (a = b))) H) : rNotB (.bl a) (.bl b) H Q := ⟨a, b, rfl, rfl, q⟩
theorem g_test {t : TE} (h : t σ H fun x H' => ∃ k, x = .bl k ∧ P k H') : tTest t σ H P := h
theorem g_B {t : TE} (h : t σ H fun x H' => ∃ k, x = .bl k ∧ P k H') : tB t σ H P := h
theorem g_bl {b : Bool} {A : Bool → Prop} (q : A b) : ∃ k, V.bl b = .bl k ∧ A k := ⟨b, rfl, q⟩
theorem g_and (h : tt σ H fun c H1 => if c = true then tu σ H1 P else P false H1) : tAnd tt tu σ H P := h
theorem g_or (h : tt σ H fun c H1 => if c = true then P true H1 else tu σ H1 P) : tOr tt tu σ H P := h
theorem g_not (h : tt σ H fun c H1 => P (!c) H1) : tNot tt σ H P := h
theorem g_andV (h : ta σ H fun x H1 => ∃ c, x = .bl c ∧ if c = true then tb σ H1 Q else Q (.bl false) H1) : tAndV ta tb σ H Q := h
theorem g_orV (h : ta σ H fun x H1 => ∃ c, x = .bl c ∧ if c = true then Q (.bl true) H1 else tb σ H1 Q) : tOrV ta tb σ H Q := h
theorem g_notV (h : ta σ H fun x H1 => ∃ c, x = .bl c ∧ Q (.bl (!c)) H1) : tNotV ta σ H Q := h
theorem g_if (h : tt σ H fun c H1 => if c = true then ta σ H1 Q else tb σ H1 Q) : tIf tt ta tb σ H Q := h
theorem g_chain {r' : R2} (h : ta σ H fun x H1 => tb σ H1 fun y H2 => r x y H2 fun z H3 => ∃ k, z = .bl k ∧ (if k = true then tc σ H3 fun w' H4 => r' y w' H4 Q else Q (.bl false) H3)) : tChain r r' ta tb tc σ H Q := h
theorem g_nil {A : List V → Hp → Prop} (q : A [] H) : tNil σ H A := q
theorem g_cons {tr : TA} {A : List V → Hp → Prop} (h : ta σ H fun x H1 => tr σ H1 fun xs H2 => A (x :: xs) H2) : tCons ta tr σ H A := h
theorem g_tup {t : TA} (h : t σ H fun xs H1 => xs.length ≤ sizeLine ∧ ∀ p, H1 p = none → Q (.ref p) (upd H1 p (.tup xs))) : tTup t σ H Q := h
theorem g_lst {t : TA} (h : t σ H fun xs H1 => xs.length ≤ sizeLine ∧ ∀ p, H1 p = none → Q (.ref p) (upd H1 p (.lst xs))) : tLst t σ H Q := h
theorem g_call {sp : Sp} {dvs : List V} {E : XK} {t : TA} (h : t σ H fun vs H1 => sp (vs ++ dvs) H1 Q E) : tCall sp dvs E t σ H Q := h
theorem g_CB {r : List V → Hp → VK → Prop} {t : TA} (h : t σ H fun vs H1 => r vs H1 Q) : tCB r t σ H Q := h
theorem g_sl {r : V → Option Int → Option Int → Hp → VK → Prop} {tl th : TO} (h : te σ H fun x H1 => tl σ H1 fun l H2 => th σ H2 fun u H3 => r x l u H3 Q) : tSl r te tl th σ H Q := h
theorem g_noPart {A : Option Int → Hp → Prop} (q : A none H) : tNoPart σ H A := q
theorem g_part {A : Option Int → Hp → Prop} (h : te σ H fun x H1 => ∃ i, x = .int i ∧ A (some i) H1) : tPart te σ H A := h
theorem g_intE {A : Int → Prop} (q : A i) : ∃ k, V.int i = .int k ∧ A k := ⟨i, rfl, q⟩
theorem g_seq (h : ts { D with nx := us D } σ H) : tSeq ts us D σ H := h
theorem g_next (q : D.nx σ H) : tNext D σ H := q
theorem g_brk (q : D.bk σ H) : tBreak D σ H := q
theorem g_ct (q : D.ct σ H) : tCont D σ H := q
theorem g_asg {g : TG} (h : te σ H fun x H1 => g x σ H1 D.nx) : tAsg te g D σ H := h
theorem g_name {i : Nat} {A : St → Hp → Prop} (q : A (σ.set i (some v)) H) : gName i v σ H A := q
theorem g_aug {i : Nat} {ti : TIp} (h : σ[i]? = some (some x)) (q : te σ H fun y H1 => ti x y H1 fun z H2 => D.nx (σ.set i (some z)) H2) : tAug i te ti D σ H := ⟨x, h, q⟩
theorem g_ipI {f : Int → Int → Int} (q : Q (.int (f i j)) H) : ipI f (.int i) (.int j) H Q := ⟨i, j, rfl, rfl, q⟩
theorem g_drop (h : te σ H fun _ H1 => D.nx σ H1) : tDrop te D σ H := h
theorem g_ret (h : te σ H D.rt) : tRet te D σ H := h
theorem g_retN (q : D.rt .non H) : tRetN D σ H := q
theorem g_ifS (h : tt σ H fun b H1 => if b = true then ts D σ H1 else us D σ H1) : tIfS tt ts us D σ H := h
theorem g_for {wi : TI} {g : TG} {tb : TS} (h : wi σ H fun J H1 => ∃ W : Nat → Nat → St → Hp → Prop, (∃ m, W 0 m σ H1) ∧ ∀ i m σ H, W i m σ H →
    (J.stop i H ∧ D.nx σ H) ∨ (J.go i H ∧ ∃ N : St → Hp → Prop, (∀ σ' H', N σ' H' → ∃ m', m' < m ∧ W (i + 1) m' σ' H') ∧ ∀ x H', J.yld i H x H' → g x σ H' fun σ2 H2 => tb { D with nx := N, ct := N, bk := D.nx } σ2 H2)) : tFor wi g tb D σ H := h
theorem g_iT {c : Bool} {A B : Prop} (e : c = true) (h : A) : if c = true then A else B := by rw [if_pos e]; exact h
theorem g_iF {c : Bool} {A B : Prop} (e : c = false) (h : B) : if c = true then A else B := by rw [e]; exact iteF h
theorem g_ite {p A B : Prop} [Decidable p] (h1 : p → A) (h2 : ¬ p → B) : if decide p = true then A else B := by
  by_cases h : p
  · rw [decide_eq_true h]; exact iteT (h1 h)
  · rw [decide_eq_false h]; exact iteF (h2 h)
theorem g_iteN {p A B : Prop} [Decidable p] (h1 : ¬ p → A) (h2 : p → B) : if (!decide p) = true then A else B := by
  by_cases h : p
  · rw [decide_eq_true h]; exact iteF (h2 h)
  · rw [decide_eq_false h]; exact iteT (h1 h)
theorem g_iteB {b : Bool} {A B : Prop} (h1 : b = true → A) (h2 : b = false → B) : if b = true then A else B := by
  cases b with
  | true => exact iteT (h1 rfl)
  | false => exact iteF (h2 rfl)
theorem g_iteNB {b : Bool} {A B : Prop} (h1 : b = false → A) (h2 : b = true → B) : if (!b) = true then A else B := by
  cases b with
  | true => exact iteF (h2 rfl)
  | false => exact iteT (h1 rfl)
/-! calls of built-ins, by values -/
theorem g_int1 {A : Int → Prop} {B : Bool → Prop} (q : A i) : (∃ i', [V.int i] = [V.int i'] ∧ A i') ∨ ∃ k, [V.int i] = [V.bl k] ∧ B k := .inl ⟨i, rfl, q⟩
theorem g_int1B {b : Bool} {A : Int → Prop} {B : Bool → Prop} (q : B b) : (∃ i', [V.bl b] = [V.int i'] ∧ A i') ∨ ∃ k, [V.bl b] = [V.bl k] ∧ B k := .inr ⟨b, rfl, q⟩
theorem g_one {A : Int → Prop} (q : A i) : ∃ i', [V.int i] = [V.int i'] ∧ A i' := ⟨i, rfl, q⟩
theorem g_two {A : Int → Int → Prop} (q : A i j) : ∃ i' j', [V.int i, V.int j] = [V.int i', V.int j'] ∧ A i' j' := ⟨i, j, rfl, q⟩
theorem g_isi {c : V} {t u : Value} {b : Bool} (hc : ClsV c u) (ht : TyX K H x t) (e : PySem.W.kitOne K t u = some b) (q : Q (.bl b) H) : rIsi K [x, c] H Q := ⟨x, c, t, u, b, rfl, hc, ht, e, q⟩
theorem g_isiI (q : Q (.bl true) H) : rIsi K [.int i, .ty "int"] H Q := g_isi (.ty _) (.base (.int _)) (kit_ty (by decide +kernel)) q
theorem g_isiB {b : Bool} (q : Q (.bl true) H) : rIsi K [.bl b, .ty "bool"] H Q := g_isi (.ty _) (.base (.bl _)) (kit_ty (by decide +kernel)) q
theorem g_isiIB (q : Q (.bl false) H) : rIsi K [.int i, .ty "bool"] H Q := g_isi (.ty _) (.base (.int _)) (kit_ty (by decide +kernel)) q
theorem g_isiL {p : Addr} {xs : List V} (h : H p = some (.lst xs)) (q : Q (.bl true) H) : rIsi K [.ref p, .ty "list"] H Q := g_isi (.ty _) (.base (.lst h)) (kit_ty (by decide +kernel)) q
theorem g_isiU {p : Addr} {xs : List V} (h : H p = some (.tup xs)) (q : Q (.bl true) H) : rIsi K [.ref p, .ty "tuple"] H Q := g_isi (.ty _) (.base (.tup h)) (kit_ty (by decide +kernel)) q
theorem g_ixL {p : Addr} {xs : List V} (h : SqL K H p xs) (e : atI xs i = some v) (q : Q v H) : rIxL K (.ref p) (.int i) H Q := ⟨p, xs, i, v, rfl, rfl, h, e, q⟩
theorem g_ixT {p : Addr} {xs : List V} (h : SqT K H p xs) (e : atI xs i = some v) (q : Q v H) : rIxT K (.ref p) (.int i) H Q := ⟨p, xs, i, v, rfl, rfl, h, e, q⟩
theorem g_append {p : Addr} {xs : List V} (h : H p = some (.lst xs)) (l : xs.length < sizeLine) (q : Q .non (upd H p (.lst (xs ++ [y])))) : rAppend (.ref p) [y] H Q := ⟨p, xs, y, rfl, rfl, h, l, q⟩
theorem g_BM {T : String} {r : V → List V → Hp → VK → Prop} {t : TA} (h : te σ H fun x H1 => tyV K T x H1 ∧ t σ H1 fun xs H2 => r x xs H2 Q) : tBM K T r te t σ H Q := h
theorem g_BM0 {T : String} {r : V → List V → Hp → VK → Prop} (h : te σ H fun x H1 => tyV K T x H1 ∧ r x [] H1 Q) : tBM0 K T r te σ H Q := h
theorem ty_l {p : Addr} {xs : List V} (h : H p = some (.lst xs)) : tyV K "list" (.ref p) H := Or.inl ⟨rfl, _, Or.inl (Or.inl h)⟩
theorem g_setL {p : Addr} {xs : List V} {k : Int} {j : Nat} {A : Hp → Prop} (h : H p = some (.lst xs)) (e : ixN xs.length k = some j) (q : A (upd H p (.lst (xs.set j v)))) : rSetL (.ref p) (.int k) v H A := ⟨p, xs, k, j, rfl, rfl, h, e, q⟩
theorem g_sub {to ti : TE} {t : TSet} {A : St → Hp → Prop} (h : to σ H fun o H1 => ti σ H1 fun i H2 => t o i v H2 fun H3 => A σ H3) : gSub to ti t v σ H A := h
theorem g_len {p : Addr} {xs : List V} {A : Addr → List V → Prop} (h : SqL K H p xs ∨ SqT K H p xs) (q : A p xs) : ∃ p' ys, [V.ref p] = [V.ref p'] ∧ (SqL K H p' ys ∨ SqT K H p' ys) ∧ A p' ys := ⟨p, xs, rfl, h, q⟩
theorem g_slL {p : Addr} {xs : List V} {lo hi : Option Int} (h : SqL K H p xs) (q : ∀ l, H l = none → Q (.ref l) (upd H l (.lst (cutV xs lo hi)))) : rSlL K (.ref p) lo hi H Q := ⟨p, xs, rfl, h, q⟩
theorem g_cat {p q : Addr} {xs ys : List V} (h : H p = some (.lst xs)) (h2 : H q = some (.lst ys)) (l : xs.length + ys.length ≤ sizeLine) (k : ∀ l, H l = none → Q (.ref l) (upd H l (.lst (xs ++ ys)))) : rCat (.ref p) (.ref q) H Q := ⟨p, q, xs, ys, rfl, rfl, h, h2, l, k⟩
end
/-! ### heaps -/
theorem same_upd {H : Hp} {p : Addr} {o : HO} (h : H p = none) : Same H (upd H p o) := fun b x e => by
  rw [upd_ne (ne_of_none e h)]
  exact e
theorem sm {H H' : Hp} {p : Addr} {o : HO} (s : Same H H') (h : H p = some o) : H' p = some o := s p o h
theorem sq_upd {K : PySem.W.Frag} {H : Hp} {p a : Addr} {o : HO} {xs : List V} (n : H p = none) (h : SqL K H a xs) : SqL K (upd H p o) a xs := (same_upd n).seq h
theorem sl {K : PySem.W.Frag} {H : Hp} {a : Addr} {xs : List V} (h : H a = some (.lst xs)) : SqL K H a xs := Or.inl (Or.inl h)
theorem st {K : PySem.W.Frag} {H : Hp} {a : Addr} {xs : List V} (h : H a = some (.tup xs)) : SqT K H a xs := Or.inl (Or.inl h)
theorem Same.sqt {K : PySem.W.Frag} {H H' : Hp} {a : Addr} {xs : List V} (e : Same H H') (h : SqT K H a xs) : SqT K H' a xs := by
  rcases h with (h | ⟨o, h⟩) | h
  · exact .inl (.inl (e _ _ h))
  · exact .inl (.inr ⟨o, e _ _ h⟩)
  · exact .inr h
theorem upd_keep {H : Hp} {p b : Addr} {o o' : HO} (n : H p = none) (h : H b = some o') : upd H p o b = some o' := (same_upd n) b o' h
theorem ne_new {H : Hp} {p b : Addr} {o : HO} (h : H b = some o) (n : H p = none) : b ≠ p := ne_of_none h n
/-- H' is H but at p -/
def But (p : Addr) (H H' : Hp) : Prop := ∀ b o, b ≠ p → H b = some o → H' b = some o
theorem But.refl {p : Addr} {H : Hp} : But p H H := fun _ _ _ h => h
theorem But.of {p : Addr} {H H' : Hp} (s : Same H H') : But p H H' := fun b o _ h => s b o h
theorem But.trans {p : Addr} {H H1 H2 : Hp} (a : But p H H1) (b : But p H1 H2) : But p H H2 := fun c o n h => b c o n (a c o n h)
theorem But.upd {p : Addr} {H H' : Hp} {o : HO} (a : But p H H') : But p H (upd H' p o) := fun b o n h => by rw [upd_ne n]; exact a b o n h
theorem But.same {p : Addr} {H H' : Hp} (a : But p H H') (n : H p = none) : Same H H' := fun b o h => a b o (ne_of_none h n) h
theorem But.tr2 {p : Addr} {H H1 H2 : Hp} (s : Same H H1) (n : H p = none) (a : But p H1 H2) : Same H H2 := fun b o h => a b o (ne_of_none h n) (s b o h)
/-! ### numbers -/
theorem cdivW {a b : Int} (h : 0 < b) (h2 : b < 2 ^ 8000) : CDivW a b := by
  refine ⟨h, ?_⟩
  have e : b.natAbs < 2 ^ 8000 := by
    have : ((b.natAbs : Nat) : Int) < ((2 ^ 8000 : Nat) : Int) := by
      rw [Int.natAbs_of_nonneg (Int.le_of_lt h)]
      exact_mod_cast h2
    exact_mod_cast this
  by_cases z : b.natAbs = 0
  · rw [z]; decide
  · exact Nat.lt_of_lt_of_le (Nat.log2_lt z |>.mpr e) (by decide)
theorem sz {n : Nat} (h : n ≤ 100000) : n ≤ sizeLine := Nat.le_trans h (by decide)
theorem szl {n : Nat} (h : n < 100000) : n < sizeLine := Nat.lt_of_lt_of_le h (by decide)
/-! ### loops -/
theorem for_l {K : PySem.W.Frag} {tl : TE} {g : TG} {tb : TS} {D : Ends} {σ : St} {H : Hp} {a : Addr} {xs : List V} (Pv : Nat → St → Hp → Prop) (hs : SqL K H a xs) (h0 : Pv 0 σ H) (hl : ∀ i σ H, i ≤ xs.length → Pv i σ H → SqL K H a xs)
    (turn : ∀ i x σ H, xs[i]? = some x → Pv i σ H → g x σ H fun σ2 H2 => tb { D with nx := Pv (i + 1), ct := Pv (i + 1), bk := D.nx } σ2 H2) (hd : ∀ σ H, Pv xs.length σ H → D.nx σ H) (e : ∀ R : V → Hp → Prop, R (.ref a) H → tl σ H R) : tFor (iList K tl) g tb D σ H := by
  refine g_for ?_
  refine e _ ⟨a, rfl, ⟨_, hs⟩, ?_⟩
  exact for_list (xs := xs) Pv h0 hl turn hd
theorem for_r {ta : TA} {g : TG} {tb : TS} {D : Ends} {σ : St} {H : Hp} {n : Int} (N : Nat) (en : n.toNat = N) (b1 : -(2 ^ 62) ≤ n) (b2 : n < 2 ^ 62) (Pv : Nat → St → Hp → Prop) (h0 : Pv 0 σ H)
    (turn : ∀ (i : Nat) σ H, i < N → Pv i σ H → g (.int (i : Int)) σ H fun σ2 H2 => tb { D with nx := Pv (i + 1), ct := Pv (i + 1), bk := D.nx } σ2 H2) (hd : ∀ σ H, Pv N σ H → D.nx σ H) (e : ∀ R : List V → Hp → Prop, R [.int n] H → ta σ H R) : tFor (iRng1 ta) g tb D σ H := by
  subst en
  refine g_for ?_
  refine e _ ⟨n, rfl, b1, b2, ?_⟩
  refine for_range (lo := 0) Pv h0 (fun i σ H hi p => ?_) hd
  have z := turn i σ H hi p
  rw [Int.zero_add]
  exact z
theorem g_nx {nx : St → Hp → Prop} {rt : VK} {bk ct : St → Hp → Prop} {σ : St} {H : Hp} (q : nx σ H) : (Ends.mk nx rt bk ct).nx σ H := q
theorem g_bkE {nx : St → Hp → Prop} {rt : VK} {bk ct : St → Hp → Prop} {σ : St} {H : Hp} (q : bk σ H) : (Ends.mk nx rt bk ct).bk σ H := q
theorem g_ctE {nx : St → Hp → Prop} {rt : VK} {bk ct : St → Hp → Prop} {σ : St} {H : Hp} (q : ct σ H) : (Ends.mk nx rt bk ct).ct σ H := q
theorem g_rt {nx : St → Hp → Prop} {rt : VK} {bk ct : St → Hp → Prop} {v : V} {H : Hp} (q : rt v H) : (Ends.mk nx rt bk ct).rt v H := q
/-- a cell of the script -/
def cell (ns : List Int) (k : Int) : Int := ns.getD k.toNat 0
theorem atI_map {ns : List Int} {k : Int} (h0 : 0 ≤ k) (h : k < (ns.length : Int)) : atI (ns.map V.int) k = some (.int (cell ns k)) := by
  have e : k = ((k.toNat : Nat) : Int) := by omega
  have hl : k.toNat < ns.length := by omega
  have e2 : cell ns k = ns[k.toNat] := by
    unfold cell
    rw [List.getD_eq_getElem?_getD, List.getElem?_eq_getElem hl]; rfl
  rw [e2]
  refine at_of e ?_
  rw [List.getElem?_map, List.getElem?_eq_getElem hl]; rfl
theorem cell_out {ns : List Int} {k : Int} (h : ¬ k < (ns.length : Int)) : cell ns k = 0 := by
  unfold cell
  rw [List.getD_eq_getElem?_getD, List.getElem?_eq_none (by omega)]; rfl
theorem atI_some {xs : List V} {i : Int} (h0 : 0 ≤ i) (h : i < (xs.length : Int)) : ∃ v, xs[i.toNat]? = some v ∧ atI xs i = some v := by
  have hl : i.toNat < xs.length := by omega
  exact ⟨xs[i.toNat], List.getElem?_eq_getElem hl, at_of (by omega) (List.getElem?_eq_getElem hl)⟩
theorem atI_ints {xs : List Int} {i : Int} (h0 : 0 ≤ i) (h : i < (xs.length : Int)) : ∃ n, atI (xs.map V.int) i = some (.int n) ∧ xs[i.toNat]? = some n := by
  have hl : i.toNat < xs.length := by omega
  refine ⟨xs[i.toNat], at_of (j := i.toNat) (by omega) ?_, List.getElem?_eq_getElem hl⟩
  rw [List.getElem?_map, List.getElem?_eq_getElem hl]; rfl
theorem g_dT {p A B : Prop} [Decidable p] (h : p) (q : A) : if decide p = true then A else B := by rw [decide_eq_true h]; exact iteT q
theorem g_dF {p A B : Prop} [Decidable p] (h : ¬ p) (q : B) : if decide p = true then A else B := by rw [decide_eq_false h]; exact iteF q
theorem g_nT {p A B : Prop} [Decidable p] (h : ¬ p) (q : A) : if (!decide p) = true then A else B := by rw [decide_eq_false h]; exact iteT q
theorem g_nF {p A B : Prop} [Decidable p] (h : p) (q : B) : if (!decide p) = true then A else B := by rw [decide_eq_true h]; exact iteF q
/-! ### comprehensions: the list ys, value by value -/
theorem g_yes {σ : St} {H : Hp} {P : Bool → Hp → Prop} (q : P true H) : tYes σ H P := q
theorem g_lc {wi : TI} {g : TG} {tt : TT} {te : TE} {vs : List Nat} {σ : St} {H : Hp} {Q : VK} (h : wi σ H fun J H1 => ∀ D, H1 D = none → ∃ W : Nat → Nat → Hp → Prop, (∃ m, W 0 m (upd H1 D (.lst []))) ∧ ∀ i m H, W i m H →
  (J.stop i H ∧ Q (.ref D) H) ∨ (J.go i H ∧ ∃ Nx : Hp → Prop, (∀ H', Nx H' → ∃ m', m' < m ∧ W (i + 1) m' H') ∧ ∀ x H', J.yld i H x H' → g x (wipe σ vs) H' fun σ2 H2 => wipe σ2 vs = wipe σ vs ∧ tt σ2 H2 fun b H3 =>
    if b = true then te σ2 H3 fun y H4 => ∃ acc, H4 D = some (.lst acc) ∧ acc.length < sizeLine ∧ Nx (upd H4 D (.lst (acc ++ [y]))) else Nx H3)) : tLc wi g tt te vs σ H Q := h
theorem g_revR {ta : TE} {σ : St} {H : Hp} {R : It → Hp → Prop} (h : ta σ H fun x H1 => ∃ n : Int, x = .int n ∧ -(2 ^ 62) ≤ (0 : Int) ∧ (0 : Int) < 2 ^ 62 ∧ -(2 ^ 62) ≤ n ∧ n < 2 ^ 62 ∧ R (Itc (0 + (((n - 0).toNat : Nat) : Int) - 1) (-1) (n - 0).toNat) H1) : iRevR (tRg1 ta) σ H R := h
theorem g_rng1 {ta : TA} {σ : St} {H : Hp} {R : It → Hp → Prop} (h : ta σ H fun vs H1 => ∃ j : Int, vs = [.int j] ∧ -(2 ^ 62) ≤ j ∧ j < 2 ^ 62 ∧ R (Itr 0 j.toNat) H1) : iRng1 ta σ H R := h
theorem g_iList {K : PySem.W.Frag} {tl : TE} {σ : St} {H : Hp} {R : It → Hp → Prop} (h : tl σ H fun x H1 => ∃ a, x = .ref a ∧ (∃ xs, SqL K H1 a xs) ∧ R (Itl K a) H1) : iList K tl σ H R := h
def LcP (H1 : Hp) (D : Addr) (ys : List V) (i : Nat) (H : Hp) : Prop := Same H1 H ∧ H D = some (.lst (ys.take i))
theorem lc_vals {J : It} {n : Nat} {G : Hp → Prop} {Y : Nat → Hp → V → Hp → Prop} (w : Walk J n G Y) (ys : List V) {g : TG} {tt : TT} {te : TE} {vs : List Nat} {σ : St} {H1 : Hp} {D : Addr} {Qd : Hp → Prop} (hD : H1 D = none) (hlen : ys.length = n) (hG : ∀ H, Same H1 H → G H)
    (hs : ∀ i x H H', i < n → LcP H1 D ys i H → Y i H x H' → g x (wipe σ vs) H' fun σ2 H2 => wipe σ2 vs = wipe σ vs ∧ tt σ2 H2 fun b H3 =>
      if b = true then te σ2 H3 fun y H4 => ∃ acc, H4 D = some (.lst acc) ∧ acc.length < sizeLine ∧ LcP H1 D ys (i + 1) (upd H4 D (.lst (acc ++ [y]))) else LcP H1 D ys (i + 1) H3)
    (hd : ∀ H, Same H1 H → H D = some (.lst ys) → Qd H) :
    ∃ W : Nat → Nat → Hp → Prop, (∃ m, W 0 m (upd H1 D (.lst []))) ∧ ∀ i m H, W i m H →
      (J.stop i H ∧ Qd H) ∨ (J.go i H ∧ ∃ Nx : Hp → Prop, (∀ H', Nx H' → ∃ m', m' < m ∧ W (i + 1) m' H') ∧ ∀ x H', J.yld i H x H' → g x (wipe σ vs) H' fun σ2 H2 => wipe σ2 vs = wipe σ vs ∧ tt σ2 H2 fun b H3 =>
        if b = true then te σ2 H3 fun y H4 => ∃ acc, H4 D = some (.lst acc) ∧ acc.length < sizeLine ∧ Nx (upd H4 D (.lst (acc ++ [y]))) else Nx H3) := by
  refine lc_it w (LcP H1 D ys) ⟨same_upd hD, by rw [upd_same]; rfl⟩ (fun i H _ p => hG H p.1) hs (fun H p => hd H p.1 ?_)
  have e := p.2
  rw [← hlen, List.take_length] at e
  exact e
theorem lc_next {H1 H4 : Hp} {D : Addr} {ys : List V} {i : Nat} {y : V} (hD : H1 D = none) (p : LcP H1 D ys i H4) (hz : ys.length ≤ 100000) (hy : ys[i]? = some y) :
    ∃ acc, H4 D = some (.lst acc) ∧ acc.length < sizeLine ∧ LcP H1 D ys (i + 1) (upd H4 D (.lst (acc ++ [y]))) := by
  refine ⟨_, p.2, ?_, ?_, ?_⟩
  · rw [List.length_take]
    obtain ⟨h, _⟩ := List.getElem?_eq_some_iff.mp hy
    exact szl (by omega)
  · exact (But.of p.1).upd.same hD
  · rw [upd_same, List.take_add_one, hy]
    rfl
theorem LcP.same {H1 H4 H5 : Hp} {D : Addr} {ys : List V} {i : Nat} (p : LcP H1 D ys i H4) (s : Same H4 H5) : LcP H1 D ys i H5 := ⟨p.1.trans s, s _ _ p.2⟩
theorem map_get {α : Type} {f : α → V} {xs : List α} {i : Nat} {y : V} (h : (xs.map f)[i]? = some y) : ∃ z, xs[i]? = some z ∧ y = f z := by
  rw [List.getElem?_map] at h
  cases e : xs[i]? with
  | none => rw [e] at h; cases h
  | some z => rw [e] at h; exact ⟨z, rfl, (Option.some.inj h).symm⟩
/-! ### == of lists of ints -/
section
variable {K : PySem.W.Frag} {H : Hp} {Q : VK}
theorem dpAll_ints : ∀ {ns : List Int}, DpAll K H (ns.map V.int) (ns.map PyData.int)
  | [] => .nil
  | n :: _ => .cons (.int n) dpAll_ints
theorem lay_ints : ∀ {ns : List Int}, PyData.canLayAll0 (ns.map PyData.int) = true
  | [] => rfl
  | _ :: ns => by
    show (true && PyData.canLayAll0 (ns.map PyData.int)) = true
    rw [lay_ints]; rfl
theorem depth_ints : ∀ {ns : List Int}, PyData.depthAll (ns.map PyData.int) = 0
  | [] => rfl
  | _ :: ns => by
    show max 0 (PyData.depthAll (ns.map PyData.int)) = 0
    rw [depth_ints]; rfl
theorem shaped_ints {ns : List Int} : SeqAt.shaped (.list (ns.map PyData.int)) = true := by
  show (PyData.canLayAll0 (ns.map PyData.int) && decide (PyData.depthAll (ns.map PyData.int) + 1 ≤ 64)) = true
  rw [lay_ints, depth_ints]; rfl
theorem eqvAll_ints : ∀ {ns ms : List Int}, PyData.eqvAll (ns.map PyData.int) (ms.map PyData.int) = decide (ns = ms)
  | [], [] => rfl
  | [], _ :: _ => rfl
  | _ :: _, [] => rfl
  | n :: ns, m :: ms => by
    show ((n == m) && PyData.eqvAll (ns.map PyData.int) (ms.map PyData.int)) = decide (n :: ns = m :: ms)
    rw [eqvAll_ints, Bool.eq_iff_iff]
    simp
theorem dp_ints {a : Addr} {ns : List Int} (h : SqL K H a (ns.map V.int)) : Dp K H (.ref a) (.list (ns.map PyData.int)) := .lst h dpAll_ints
theorem g_eqL {a b : Addr} {ns ms : List Int} (h1 : SqL K H a (ns.map V.int)) (h2 : SqL K H b (ms.map V.int)) (q : Q (.bl (decide (ns = ms))) H) : rEqD K (.ref a) (.ref b) H Q :=
  ⟨_, _, dp_ints h1, dp_ints h2, shaped_ints, shaped_ints, by rw [show PyData.eqv (.list (ns.map PyData.int)) (.list (ms.map PyData.int)) = decide (ns = ms) from eqvAll_ints]; exact q⟩
theorem g_neL {a b : Addr} {ns ms : List Int} (h1 : SqL K H a (ns.map V.int)) (h2 : SqL K H b (ms.map V.int)) (q : Q (.bl (!decide (ns = ms))) H) : rNeD K (.ref a) (.ref b) H Q :=
  ⟨_, _, dp_ints h1, dp_ints h2, shaped_ints, shaped_ints, by rw [show PyData.eqv (.list (ns.map PyData.int)) (.list (ms.map PyData.int)) = decide (ns = ms) from eqvAll_ints]; exact q⟩
theorem g_sum {a : Addr} {ns : List Int} (h : SqL K H a (ns.map V.int)) (q : Q (.int ns.sum) H) : rSum K [.ref a] H Q := ⟨a, ns, rfl, h, q⟩
end
theorem ixN_nat {n : Nat} {k : Int} (h0 : 0 ≤ k) (h : k < (n : Int)) : ixN n k = some k.toNat := by
  unfold ixN
  rw [if_pos h0, if_pos h]
theorem g_ref {a : Addr} {A : Addr → Prop} (q : A a) : ∃ b, V.ref a = .ref b ∧ A b := ⟨a, rfl, q⟩
/-! ### objects: the attributes by their places -/
def obj : List Str → List V → List (Str × V)
  | k :: ks, v :: vs => (k, v) :: obj ks vs
  | _, _ => []
theorem obj_len : ∀ (ks : List Str) (vs : List V), (obj ks vs).length ≤ ks.length
  | [], _ => Nat.zero_le _
  | _ :: _, [] => Nat.zero_le _
  | _ :: ks, _ :: vs => Nat.succ_le_succ (obj_len ks vs)
theorem obj_get : ∀ {ks : List Str} {vs : List V} {i : Nat} {k : Str}, ks.Nodup → ks[i]? = some k → (obj ks vs).lookup k = vs[i]?
  | [], _, _, _, _, h => by cases h
  | k0 :: ks, [], i, k, _, _ => by simp [obj]
  | k0 :: ks, v :: vs, 0, k, _, h => by
    have e : k0 = k := Option.some.inj h
    subst e
    simp [obj]
  | k0 :: ks, v :: vs, i + 1, k, nd, h => by
    have nd' := List.nodup_cons.mp nd
    have hk : k ∈ ks := List.mem_of_getElem? h
    have ne : (k == k0) = false := by
      rw [beq_eq_false_iff_ne]
      intro e
      subst e
      exact nd'.1 hk
    show List.lookup k ((k0, v) :: obj ks vs) = vs[i]?
    rw [List.lookup_cons, ne]
    exact obj_get nd'.2 h
theorem obj_none : ∀ {ks : List Str} {vs : List V} {k : Str}, k ∉ ks → (obj ks vs).lookup k = none
  | [], _, _, _ => rfl
  | _ :: _, [], _, _ => rfl
  | k0 :: ks, v :: vs, k, h => by
    have ne : (k == k0) = false := by
      rw [beq_eq_false_iff_ne]
      intro e
      subst e
      exact h (List.mem_cons_self ..)
    show List.lookup k ((k0, v) :: obj ks vs) = none
    rw [List.lookup_cons, ne]
    exact obj_none fun z => h (List.mem_cons_of_mem _ z)
theorem obj_put : ∀ {ks : List Str} {vs : List V} {i : Nat} {k : Str} {y : V}, ks.Nodup → ks[i]? = some k → i < vs.length → putF k y (obj ks vs) = obj ks (vs.set i y)
  | [], _, _, _, _, _, h, _ => by cases h
  | _ :: _, [], _, _, _, _, _, h => by simp at h
  | k0 :: ks, v :: vs, 0, k, y, _, h, _ => by
    have e : k0 = k := Option.some.inj h
    subst e
    show (if k0 = k0 then _ else _) = _
    rw [if_pos rfl]
    rfl
  | k0 :: ks, v :: vs, i + 1, k, y, nd, h, hl => by
    have nd' := List.nodup_cons.mp nd
    have hk : k ∈ ks := List.mem_of_getElem? h
    have ne : ¬ k0 = k := by
      intro e
      subst e
      exact nd'.1 hk
    show (if k0 = k then _ else (k0, v) :: putF k y (obj ks vs)) = (k0, v) :: obj ks (vs.set i y)
    rw [if_neg ne, obj_put nd'.2 h (by simpa using hl)]
theorem obj_new : ∀ {ks : List Str} {vs : List V} {k : Str} {y : V}, ks.Nodup → ks[vs.length]? = some k → putF k y (obj ks vs) = obj ks (vs ++ [y])
  | [], _, _, _, _, h => by simp at h
  | k0 :: ks, [], k, y, _, h => by
    have e : k0 = k := Option.some.inj h
    subst e
    show [(k0, y)] = obj (k0 :: ks) [y]
    cases ks <;> rfl
  | k0 :: ks, v :: vs, k, y, nd, h => by
    have nd' := List.nodup_cons.mp nd
    have h' : ks[vs.length]? = some k := h
    have hk : k ∈ ks := List.mem_of_getElem? h'
    have ne : ¬ k0 = k := by
      intro e
      subst e
      exact nd'.1 hk
    show (if k0 = k then _ else (k0, v) :: putF k y (obj ks vs)) = (k0, v) :: obj ks (vs ++ [y])
    rw [if_neg ne, obj_new nd'.2 h']
section
variable {K : PySem.W.Frag} {σ : St} {H : Hp} {Q : VK} {v y : V} {ta tv : TE} {D : Ends} {f m : Str} {a C dx : Addr} {ks : List Str} {vs : List V} {i : Nat}
theorem g_fld (h : ta σ H fun x H1 => ∃ a C dx fs v, x = .ref a ∧ H1 a = some (.ins C dx fs) ∧ Cls K C ∧ NoAttr K C f ∧ fs.lookup f = some v ∧ Q v H1) : tFld K ta f σ H Q := h
theorem g_fldE {A : V → Prop} (ho : H a = some (.ins C dx (obj ks vs))) (c : Cls K C) (n : NoAttr K C f) (nd : ks.Nodup) (hk : ks[i]? = some f) (hv : vs[i]? = some v) (q : A v) :
    ∃ a' C' dx' fs v', V.ref a = .ref a' ∧ H a' = some (.ins C' dx' fs) ∧ Cls K C' ∧ NoAttr K C' f ∧ fs.lookup f = some v' ∧ A v' := ⟨a, C, dx, _, v, rfl, ho, c, n, (obj_get nd hk).trans hv, q⟩
theorem g_sfld (h : tv σ H fun y H1 => ta σ H1 fun x H2 => ∃ a C dx fs, x = .ref a ∧ H2 a = some (.ins C dx fs) ∧ Cls K C ∧ NoAttr K C f ∧ fs.length < 1000 ∧ D.nx σ (upd H2 a (.ins C dx (putF f y fs)))) : sFld K ta tv f D σ H := h
theorem g_putE {A : Hp → Prop} (ho : H a = some (.ins C dx (obj ks vs))) (c : Cls K C) (n : NoAttr K C f) (nd : ks.Nodup) (h1 : ks.length < 1000) (hk : ks[i]? = some f) (hv : i < vs.length) (q : A (upd H a (.ins C dx (obj ks (vs.set i y))))) :
    ∃ a' C' dx' fs, V.ref a = .ref a' ∧ H a' = some (.ins C' dx' fs) ∧ Cls K C' ∧ NoAttr K C' f ∧ fs.length < 1000 ∧ A (upd H a' (.ins C' dx' (putF f y fs))) :=
  ⟨a, C, dx, _, rfl, ho, c, n, Nat.lt_of_le_of_lt (obj_len ks vs) h1, by rw [obj_put nd hk hv]; exact q⟩
theorem g_newE {A : Hp → Prop} (ho : H a = some (.ins C dx (obj ks vs))) (c : Cls K C) (n : NoAttr K C f) (nd : ks.Nodup) (h1 : ks.length < 1000) (hk : ks[vs.length]? = some f) (q : A (upd H a (.ins C dx (obj ks (vs ++ [y]))))) :
    ∃ a' C' dx' fs, V.ref a = .ref a' ∧ H a' = some (.ins C' dx' fs) ∧ Cls K C' ∧ NoAttr K C' f ∧ fs.length < 1000 ∧ A (upd H a' (.ins C' dx' (putF f y fs))) :=
  ⟨a, C, dx, _, rfl, ho, c, n, Nat.lt_of_le_of_lt (obj_len ks vs) h1, by rw [obj_new nd hk]; exact q⟩
theorem g_meth {sp : Sp} {dvs : List V} {E : XK} {t : TA} (h : ta σ H fun x H1 => ∃ a dx fs, x = .ref a ∧ H1 a = some (.ins C dx fs) ∧ fs.lookup m = none ∧ t σ H1 fun vs H2 => sp (x :: (vs ++ dvs)) H2 Q E) : tMeth C m sp dvs E ta t σ H Q := h
theorem g_methE {A : Prop} (ho : H a = some (.ins C dx (obj ks vs))) (no : m ∉ ks) (q : A) : ∃ a' dx' fs, V.ref a = .ref a' ∧ H a' = some (.ins C dx' fs) ∧ fs.lookup m = none ∧ A := ⟨a, dx, _, rfl, ho, obj_none no, q⟩
theorem g_make {sp : Sp} {dvs : List V} {E : XK} {t : TA} (h : t σ H fun vs H1 => ∀ x dx, H1 x = none → H1 dx = none → dx ≠ x → sp (.ref x :: (vs ++ dvs)) (upd (upd H1 dx (.own x)) x (.ins C dx [])) (fun v H2 => v = .non ∧ Q (.ref x) H2) E) : tMake C sp dvs E t σ H Q := h
theorem g_prop {sp : Sp} {dvs : List V} {E : XK} (h : ta σ H fun x H1 => ∃ a dx fs, x = .ref a ∧ H1 a = some (.ins C dx fs) ∧ sp (.ref a :: dvs) H1 Q E) : tProp C sp dvs E ta σ H Q := h
theorem g_propE {A : Addr → Prop} (ho : H a = some (.ins C dx (obj ks vs))) (q : A a) : ∃ a' dx' fs, V.ref a = .ref a' ∧ H a' = some (.ins C dx' fs) ∧ A a' := ⟨a, dx, _, rfl, ho, q⟩
theorem g_absE {A : Int → Prop} {n : Int} (q : A n) : ∃ i, [V.int n] = [V.int i] ∧ A i := ⟨n, rfl, q⟩
end
/-- a slice of ints -/
theorem cut_ints (ns : List Int) (lo hi : Option Int) : ∃ ms : List Int, cutV (ns.map V.int) lo hi = ms.map V.int ∧ ms.length ≤ ns.length := by
  unfold cutV
  refine ⟨(ns.drop (HT.sIx (ns.map V.int).length 0 lo)).take (HT.sIx (ns.map V.int).length (ns.map V.int).length hi - HT.sIx (ns.map V.int).length 0 lo), ?_, ?_⟩
  · rw [List.map_take, List.map_drop]
  · rw [List.length_take, List.length_drop]
    omega
theorem g_nameE {i : Nat} {v : V} {σ σ' : St} {H : Hp} {A : St → Hp → Prop} (e : σ.set i (some v) = σ') (q : A σ' H) : gName i v σ H A := by
  subst e
  exact q
theorem but_sq {K : PySem.W.Frag} {p : Addr} {H H' : Hp} {a : Addr} {xs : List V} (e : But p H H') (n : a ≠ p) (h : SqL K H a xs) : SqL K H' a xs := by
  rcases h with (h | ⟨o, h⟩) | h
  · exact .inl (.inl (e _ _ n h))
  · exact .inl (.inr ⟨o, e _ _ n h⟩)
  · exact .inr h
theorem g_star {K : PySem.W.Frag} {te : TE} {t : TA} {σ : St} {H : Hp} {Q : List V → Hp → Prop} (h : te σ H fun x H1 => ∃ p xs, x = V.ref p ∧ (SqT K H1 p xs ∨ SqL K H1 p xs) ∧ t σ H1 fun ys H2 => Q (xs ++ ys) H2) : StX.tStar K te t σ H Q := h
theorem g_while {c : TT} {tb : TS} {D : Ends} {σ : St} {H : Hp} (W : Nat → St → Hp → Prop) (h0 : ∃ m, W m σ H) (h : ∀ m σ H, W m σ H → c σ H fun b H1 => if b = true then ∃ N : St → Hp → Prop, (∀ σ' H', N σ' H' → ∃ m', m' < m ∧ W m' σ' H') ∧ tb { D with nx := N, ct := N, bk := D.nx } σ H1 else D.nx σ H1) : tWhile c tb D σ H := ⟨W, h0, h⟩
theorem g_cut {t u : TS} {D : Ends} {σ : St} {H : Hp} (Mid : St → Hp → Prop) (h1 : t { D with nx := Mid } σ H) (h2 : ∀ σ' H', Mid σ' H' → u D σ' H') : C8.tCut t u D σ H := ⟨Mid, h1, h2⟩
theorem g_min {K : PySem.W.Frag} {a : Addr} {ns : List Int} {H : Hp} {Q : VK} (h : SqL K H a (ns.map V.int)) (h0 : 0 < ns.length) (q : ∀ m, m ∈ ns → (∀ y, y ∈ ns → m ≤ y) → Q (.int m) H) : rMin K [.ref a] H Q := ⟨a, ns, rfl, h, h0, q⟩
theorem g_max {K : PySem.W.Frag} {a : Addr} {ns : List Int} {H : Hp} {Q : VK} (h : SqL K H a (ns.map V.int)) (h0 : 0 < ns.length) (q : ∀ m, m ∈ ns → (∀ y, y ∈ ns → y ≤ m) → Q (.int m) H) : rMax K [.ref a] H Q := ⟨a, ns, rfl, h, h0, q⟩
theorem atI_nat' {xs : List V} {i : Int} {j : Nat} {v : V} (e : i = (j : Int)) (h : xs[j]? = some v) : atI xs i = some v := at_of e h
theorem ixN_last {n : Nat} (h : 0 < n) : ixN n (-1) = some (n - 1) := by
  unfold ixN
  rw [if_neg (by decide), if_pos (by omega)]
  congr 1
  omega
theorem atI_neg1 {xs : List V} {v : V} (h : xs[xs.length - 1]? = some v) : atI xs (-1) = some v := by
  obtain ⟨hl, _⟩ := List.getElem?_eq_some_iff.mp h
  unfold atI
  rw [ixN_last (by omega)]
  exact h
theorem snoc_of {α : Type} {xs : List α} (h : 0 < xs.length) : ∃ a x, xs = a ++ [x] :=
  ⟨xs.dropLast, xs.getLast (List.ne_nil_of_length_pos h), (List.dropLast_concat_getLast _).symm⟩
theorem set_last {α : Type} {a : List α} {x y : α} : (a ++ [x]).set a.length y = a ++ [y] := by
  rw [List.set_append_right _ _ (Nat.le_refl _), Nat.sub_self]
  rfl
end My
namespace My
open PySem PySem.Spec L2
local macro_rules | `(tactic| walk_at "side") => `(tactic| first | assumption | decide | omega | exact ⟨by decide, by decide⟩ | exact ⟨by decide, by decide, by decide⟩ | decide +kernel | exact cdivW (by decide +kernel) (by decide +kernel) | exact Or.inl ⟨by omega, by omega⟩ | exact Or.inr ⟨by omega, by omega⟩ | (simp only [List.length_map, List.length_cons, List.length_nil, List.length_append]; omega))
local macro_rules | `(tactic| walk_at "fact") => `(tactic| first | assumption | omega | with_reducible rfl)
local macro_rules | `(tactic| walk_at "use") => `(tactic| fail "use")
local macro_rules | `(tactic| walk_at "go1") => `(tactic| with_reducible first | refine g_seq ?_ | refine g_asg ?_ | refine g_ret ?_ | refine g_ifS ?_ | refine g_drop ?_ | refine g_star ?_ | refine g_nx ?_ | refine g_rt ?_ | refine g_bkE ?_ | refine g_ctE ?_ | refine g_next ?_ | refine g_retN ?_ | refine g_brk ?_ | refine g_ct ?_ | refine g_c ?_ | refine g_op ?_ | refine g_un ?_ | refine g_rI0 ?_ | refine g_rU ?_ | refine g_rEqI ?_ | refine g_rNeI ?_ | refine g_isN ?_ | refine g_rIsB ?_ | refine g_rNotB ?_ | refine g_test ?_ | refine g_B ?_ | refine g_bl ?_ | refine g_and ?_ | refine g_or ?_ | refine g_not ?_ | refine g_andV ?_ | refine g_orV ?_ | refine g_notV ?_ | refine g_if ?_ | refine g_chain ?_ | refine g_yes ?_ | refine g_lc ?_ | refine g_revR ?_ | refine g_rng1 ?_ | refine g_iList ?_ | refine g_nil ?_ | refine g_cons ?_ | refine g_tup ?_ | refine g_lst ?_ | refine g_call ?_ | refine g_CB ?_ | refine g_sl ?_ | refine g_noPart ?_ | refine g_part ?_ | refine g_intE ?_ | refine g_ref ?_ | refine g_fld ?_ | refine g_sfld ?_ | refine g_meth ?_ | refine g_make ?_ | refine g_prop ?_  | refine g_ipI ?_ | refine g_int1 ?_ | refine g_int1B ?_ | refine g_one ?_ | refine g_two ?_ | refine g_isiI ?_ | refine g_isiIB ?_ | refine g_isiB ?_ | refine g_BM ?_ | refine g_BM0 ?_ | refine g_sub ?_)
local macro_rules | `(tactic| walk_at "go") => `(tactic| repeat (first | walk_at "go1" | ((with_reducible refine' g_nameE ?sd_ ?_); case sd_ => dsimp only [List.set_cons_succ, List.set_cons_zero]) | ((with_reducible refine' g_var ?sd_ ?_); case sd_ => exact rfl) | ((with_reducible refine' g_aug ?sd_ ?_); case sd_ => exact rfl) | ((with_reducible refine' g_rI ?sd_ ?_); case sd_ => walk_at "side") | ((with_reducible refine' g_dT ?sd_ ?_); case sd_ => walk_at "fact") | ((with_reducible refine' g_dF ?sd_ ?_); case sd_ => walk_at "fact") | ((with_reducible refine' g_nT ?sd_ ?_); case sd_ => walk_at "fact") | ((with_reducible refine' g_nF ?sd_ ?_); case sd_ => walk_at "fact") | (with_reducible refine g_iT rfl ?_) | (with_reducible refine g_iF rfl ?_) | walk_at "use"))
def topS (i : Nat) : Stmt := PySem.Challenge.pw_throughline_k54_messages.main.body.getD i (.Pass ⟨0, 0, 0, 0⟩)
abbrev s_write_number : Stmt := topS 5
abbrev s_read_number : Stmt := topS 6
abbrev s_frame_message : Stmt := topS 10
abbrev s_Messages_init__ : Stmt := inClass (topS 11) 0
abbrev s_Messages_pending : Stmt := inClass (topS 11) 1
abbrev s_Messages_feed : Stmt := inClass (topS 11) 2
abbrev s_stop_of_message : Stmt := topS 12
abbrev s_l_cell : Stmt := topS 14
abbrev s_l_is_integer : Stmt := topS 15
abbrev s_l_start : Stmt := topS 16
abbrev s_l_digit : Stmt := topS 17
abbrev s_l_message : Stmt := topS 18
abbrev s_l_whole : Stmt := topS 19
abbrev s_l_same : Stmt := topS 20
abbrev s_l_too_long : Stmt := topS 21
abbrev s_law : Stmt := topS 22
theorem sc_write_number : FnScope ["number", "size", "place"] ["number", "size"] (defScope s_write_number) := ⟨rfl, rfl, rfl, by decide +kernel, rfl, by decide +kernel, by decide +kernel⟩
theorem sc_read_number : FnScope ["octets", "number", "octet"] ["octets"] (defScope s_read_number) := ⟨rfl, rfl, rfl, by decide +kernel, rfl, by decide +kernel, by decide +kernel⟩
theorem sc_frame_message : FnScope ["octets"] ["octets"] (defScope s_frame_message) := ⟨rfl, rfl, rfl, by decide +kernel, rfl, by decide +kernel, by decide +kernel⟩
theorem sc_Messages_init__ : FnScope ["self"] ["self"] (defScope s_Messages_init__) := ⟨rfl, rfl, rfl, by decide +kernel, rfl, by decide +kernel, by decide +kernel⟩
theorem sc_Messages_pending : FnScope ["self"] ["self"] (defScope s_Messages_pending) := ⟨rfl, rfl, rfl, by decide +kernel, rfl, by decide +kernel, by decide +kernel⟩
theorem sc_Messages_feed : FnScope ["self", "octets", "messages", "at", "stop"] ["self", "octets"] (defScope s_Messages_feed) := ⟨rfl, rfl, rfl, by decide +kernel, rfl, by decide +kernel, by decide +kernel⟩
theorem sc_stop_of_message : FnScope ["octets", "at", "stop"] ["octets", "at"] (defScope s_stop_of_message) := ⟨rfl, rfl, rfl, by decide +kernel, rfl, by decide +kernel, by decide +kernel⟩
theorem sc_l_cell : FnScope ["script", "k"] ["script", "k"] (defScope s_l_cell) := ⟨rfl, rfl, rfl, by decide +kernel, rfl, by decide +kernel, by decide +kernel⟩
theorem sc_l_is_integer : FnScope ["told"] ["told"] (defScope s_l_is_integer) := ⟨rfl, rfl, rfl, by decide +kernel, rfl, by decide +kernel, by decide +kernel⟩
theorem sc_l_start : FnScope ["cell", "k", "prime", "mixed"] ["cell", "k"] (defScope s_l_start) := ⟨rfl, rfl, rfl, by decide +kernel, rfl, by decide +kernel, by decide +kernel⟩
theorem sc_l_digit : FnScope ["state", "many", "digit"] ["state", "many"] (defScope s_l_digit) := ⟨rfl, rfl, rfl, by decide +kernel, rfl, by decide +kernel, by decide +kernel⟩
theorem sc_l_message : FnScope ["state", "many", "size", "base", "k"] ["state", "many"] (defScope s_l_message) := ⟨rfl, rfl, rfl, by decide +kernel, rfl, by decide +kernel, by decide +kernel⟩
theorem sc_l_whole : FnScope ["messages", "count", "told", "at", "message"] ["messages", "count"] (defScope s_l_whole) := ⟨rfl, rfl, rfl, by decide +kernel, rfl, by decide +kernel, by decide +kernel⟩
theorem sc_l_same : FnScope ["told", "due", "k", "octet"] ["told", "due"] (defScope s_l_same) := ⟨rfl, rfl, rfl, by decide +kernel, rfl, by decide +kernel, by decide +kernel⟩
theorem sc_l_too_long : FnScope ["state", "e"] ["state"] (defScope s_l_too_long) := ⟨rfl, rfl, rfl, by decide +kernel, rfl, by decide +kernel, by decide +kernel⟩
theorem sc_law : FnScope ["script", "state", "many", "messages", "octets", "k", "message", "given", "told", "end", "reader", "at", "size", "part", "before", "due", "left"] ["script"] (defScope s_law) := ⟨rfl, rfl, rfl, by decide +kernel, rfl, by decide +kernel, by decide +kernel⟩
structure Txt (K : PySem.W.Frag) (mg : Str → Option Value) where
  t_MOST_OCTETS : Tok
  t_HEAD : Tok
  C_ThroughlineError : Addr
  C_InvalidAmount : Addr
  C_InvalidFrame : Addr
  C_Messages : Addr
  f_write_number : Addr
  d_write_number : FuncData
  f_read_number : Addr
  d_read_number : FuncData
  f_frame_message : Addr
  d_frame_message : FuncData
  f_Messages_init__ : Addr
  d_Messages_init__ : FuncData
  f_Messages_pending : Addr
  d_Messages_pending : FuncData
  p0_Messages_pending : Addr
  f_Messages_feed : Addr
  d_Messages_feed : FuncData
  f_stop_of_message : Addr
  d_stop_of_message : FuncData
  f_l_cell : Addr
  d_l_cell : FuncData
  f_l_is_integer : Addr
  d_l_is_integer : FuncData
  f_l_start : Addr
  d_l_start : FuncData
  f_l_digit : Addr
  d_l_digit : FuncData
  f_l_message : Addr
  d_l_message : FuncData
  f_l_whole : Addr
  d_l_whole : FuncData
  f_l_same : Addr
  d_l_same : FuncData
  f_l_too_long : Addr
  d_l_too_long : FuncData
  f_law : Addr
  d_law : FuncData
  v_MOST_OCTETS : mg "MOST_OCTETS" = some (.int 65535 t_MOST_OCTETS)
  v_HEAD : mg "HEAD" = some (.int 2 t_HEAD)
  c_ThroughlineError : mg "ThroughlineError" = some (.ref C_ThroughlineError)
  c_InvalidAmount : mg "InvalidAmount" = some (.ref C_InvalidAmount)
  c_InvalidFrame : mg "InvalidFrame" = some (.ref C_InvalidFrame)
  xP_InvalidAmount : PySem.W.excIn K C_InvalidAmount [.type "ValueError", .type "Exception", .type "BaseException", .type "object"] "ValueError.__new__" = true
  ke_InvalidAmount : PySem.W.keepIn K (.ref C_InvalidAmount) = true
  be_InvalidAmount : PySem.W.subIn K (.ref C_InvalidAmount) (.type "BaseException") = some true
  te_InvalidAmount : PySem.W.typeIn K (.ref C_InvalidAmount) = some (.type "type")
  xc_InvalidAmount : ExcC K C_InvalidAmount
  em_InvalidAmount_InvalidAmount : PySem.W.exmOne K (.ref C_InvalidAmount) (.ref C_InvalidAmount) = some true
  ko_InvalidAmount_ThroughlineError : PySem.W.kitOne K (.ref C_InvalidAmount) (.ref C_ThroughlineError) = some true
  ko_InvalidAmount_InvalidFrame : PySem.W.kitOne K (.ref C_InvalidAmount) (.ref C_InvalidFrame) = some false
  c_Messages : mg "Messages" = some (.ref C_Messages)
  k_Messages : Cls K C_Messages
  n_Messages__begun : NoAttr K C_Messages "_begun"
  F_write_number : Fun K "write_number" "write_number" s_write_number f_write_number d_write_number
  b_write_number : Binds K d_write_number ["number", "size"] []
  m_write_number : mg "write_number" = some (.ref f_write_number)
  F_read_number : Fun K "read_number" "read_number" s_read_number f_read_number d_read_number
  b_read_number : Binds K d_read_number ["octets"] []
  m_read_number : mg "read_number" = some (.ref f_read_number)
  F_frame_message : Fun K "frame_message" "frame_message" s_frame_message f_frame_message d_frame_message
  b_frame_message : Binds K d_frame_message ["octets"] []
  m_frame_message : mg "frame_message" = some (.ref f_frame_message)
  F_Messages_init__ : Fun K "__init__" "Messages.__init__" s_Messages_init__ f_Messages_init__ d_Messages_init__
  b_Messages_init__ : Binds K d_Messages_init__ ["self"] []
  mk_Messages : Mk K C_Messages f_Messages_init__
  F_Messages_pending : Fun K "pending" "Messages.pending" s_Messages_pending f_Messages_pending d_Messages_pending
  b_Messages_pending : Binds K d_Messages_pending ["self"] []
  p_Messages_pending : PropOf K C_Messages "pending" p0_Messages_pending f_Messages_pending
  F_Messages_feed : Fun K "feed" "Messages.feed" s_Messages_feed f_Messages_feed d_Messages_feed
  b_Messages_feed : Binds K d_Messages_feed ["self", "octets"] []
  a_Messages_feed : Meth K C_Messages "feed" f_Messages_feed
  F_stop_of_message : Fun K "_stop_of_message" "_stop_of_message" s_stop_of_message f_stop_of_message d_stop_of_message
  b_stop_of_message : Binds K d_stop_of_message ["octets", "at"] []
  m_stop_of_message : mg "_stop_of_message" = some (.ref f_stop_of_message)
  F_l_cell : Fun K "_law_cell" "_law_cell" s_l_cell f_l_cell d_l_cell
  b_l_cell : Binds K d_l_cell ["script", "k"] []
  m_l_cell : mg "_law_cell" = some (.ref f_l_cell)
  F_l_is_integer : Fun K "_law_is_integer" "_law_is_integer" s_l_is_integer f_l_is_integer d_l_is_integer
  b_l_is_integer : Binds K d_l_is_integer ["told"] []
  m_l_is_integer : mg "_law_is_integer" = some (.ref f_l_is_integer)
  F_l_start : Fun K "_law_start" "_law_start" s_l_start f_l_start d_l_start
  b_l_start : Binds K d_l_start ["cell", "k"] []
  m_l_start : mg "_law_start" = some (.ref f_l_start)
  F_l_digit : Fun K "_law_digit" "_law_digit" s_l_digit f_l_digit d_l_digit
  b_l_digit : Binds K d_l_digit ["state", "many"] []
  m_l_digit : mg "_law_digit" = some (.ref f_l_digit)
  F_l_message : Fun K "_law_message" "_law_message" s_l_message f_l_message d_l_message
  b_l_message : Binds K d_l_message ["state", "many"] []
  m_l_message : mg "_law_message" = some (.ref f_l_message)
  F_l_whole : Fun K "_law_whole" "_law_whole" s_l_whole f_l_whole d_l_whole
  b_l_whole : Binds K d_l_whole ["messages", "count"] []
  m_l_whole : mg "_law_whole" = some (.ref f_l_whole)
  F_l_same : Fun K "_law_same" "_law_same" s_l_same f_l_same d_l_same
  b_l_same : Binds K d_l_same ["told", "due"] []
  m_l_same : mg "_law_same" = some (.ref f_l_same)
  F_l_too_long : Fun K "_law_too_long" "_law_too_long" s_l_too_long f_l_too_long d_l_too_long
  b_l_too_long : Binds K d_l_too_long ["state"] []
  m_l_too_long : mg "_law_too_long" = some (.ref f_l_too_long)
  F_law : Fun K "law" "law" s_law f_law d_law
  b_law : Binds K d_law ["script"] []
  m_law : mg "law" = some (.ref f_law)
  n_bool : mg "bool" = none
  n_int : mg "int" = none
  n_isinstance : mg "isinstance" = none
  n_len : mg "len" = none
  n_list : mg "list" = none
  n_min : mg "min" = none
  n_range : mg "range" = none
  n_reversed : mg "reversed" = none
  n_sum : mg "sum" = none
def ky_Messages : List Str := ["_begun"]
theorem nd_Messages : ky_Messages.Nodup := by decide +kernel
section
variable {K : PySem.W.Frag} {mg : Str → Option Value} {T : Txt K mg} {H : Hp} {a dx : Addr} {vs : List V} {v y : V}
theorem fd_Messages__begun {A : V → Prop} (ho : H a = some (.ins T.C_Messages dx (obj ky_Messages vs))) (hv : vs[0]? = some v) (q : A v) : ∃ a' C' dx' fs v', V.ref a = .ref a' ∧ H a' = some (.ins C' dx' fs) ∧ Cls K C' ∧ NoAttr K C' "_begun" ∧ fs.lookup ("_begun" : Str) = some v' ∧ A v' := g_fldE ho T.k_Messages T.n_Messages__begun nd_Messages rfl hv q
theorem st_Messages__begun {A : Hp → Prop} (ho : H a = some (.ins T.C_Messages dx (obj ky_Messages vs))) (hv : 0 < vs.length) (q : A (upd H a (.ins T.C_Messages dx (obj ky_Messages (vs.set 0 y))))) : ∃ a' C' dx' fs, V.ref a = .ref a' ∧ H a' = some (.ins C' dx' fs) ∧ Cls K C' ∧ NoAttr K C' "_begun" ∧ fs.length < 1000 ∧ A (upd H a' (.ins C' dx' (putF "_begun" y fs))) := g_putE ho T.k_Messages T.n_Messages__begun nd_Messages (by decide) rfl hv q
theorem nw_Messages__begun {A : Hp → Prop} (ho : H a = some (.ins T.C_Messages dx (obj ky_Messages vs))) (hv : vs.length = 0) (q : A (upd H a (.ins T.C_Messages dx (obj ky_Messages (vs ++ [y]))))) : ∃ a' C' dx' fs, V.ref a = .ref a' ∧ H a' = some (.ins C' dx' fs) ∧ Cls K C' ∧ NoAttr K C' "_begun" ∧ fs.length < 1000 ∧ A (upd H a' (.ins C' dx' (putF "_begun" y fs))) := g_newE ho T.k_Messages T.n_Messages__begun nd_Messages (by decide) (by rw [hv]; rfl) q
theorem me_Messages_feed {A : Prop} (ho : H a = some (.ins T.C_Messages dx (obj ky_Messages vs))) (q : A) : ∃ a' dx' fs, V.ref a = .ref a' ∧ H a' = some (.ins T.C_Messages dx' fs) ∧ fs.lookup ("feed" : Str) = none ∧ A := g_methE ho (by decide +kernel) q
end
local macro_rules | `(tactic| walk_at "use") => `(tactic| first | ((with_reducible refine' fd_Messages__begun ?ho_ ?hv_ ?_); (case ho_ => first | assumption | exact upd_same); (case hv_ => exact rfl)) | ((with_reducible refine' nw_Messages__begun ?ho_ ?hv_ ?_); (case ho_ => first | assumption | exact upd_same); (case hv_ => exact rfl)) | ((with_reducible refine' st_Messages__begun ?ho_ ?hv_ ?_); (case ho_ => first | assumption | exact upd_same); (case hv_ => exact Nat.le_of_ble_eq_true rfl)) | ((with_reducible refine' me_Messages_feed ?ho_ ?_); (case ho_ => first | assumption | exact upd_same)))
end My
namespace My
open PySem PySem.Spec L2
local macro_rules | `(tactic| walk_at "side") => `(tactic| first | assumption | decide | omega | exact ⟨by decide, by decide⟩ | exact ⟨by decide, by decide, by decide⟩ | decide +kernel | exact cdivW (by decide +kernel) (by decide +kernel) | exact Or.inl ⟨by omega, by omega⟩ | exact Or.inr ⟨by omega, by omega⟩ | (simp only [List.length_map, List.length_cons, List.length_nil, List.length_append]; omega))
local macro_rules | `(tactic| walk_at "fact") => `(tactic| first | assumption | omega | with_reducible rfl)
local macro_rules | `(tactic| walk_at "use") => `(tactic| fail "use")
local macro_rules | `(tactic| walk_at "go1") => `(tactic| with_reducible first | refine g_seq ?_ | refine g_asg ?_ | refine g_ret ?_ | refine g_ifS ?_ | refine g_drop ?_ | refine g_star ?_ | refine g_nx ?_ | refine g_rt ?_ | refine g_bkE ?_ | refine g_ctE ?_ | refine g_next ?_ | refine g_retN ?_ | refine g_brk ?_ | refine g_ct ?_ | refine g_c ?_ | refine g_op ?_ | refine g_un ?_ | refine g_rI0 ?_ | refine g_rU ?_ | refine g_rEqI ?_ | refine g_rNeI ?_ | refine g_isN ?_ | refine g_rIsB ?_ | refine g_rNotB ?_ | refine g_test ?_ | refine g_B ?_ | refine g_bl ?_ | refine g_and ?_ | refine g_or ?_ | refine g_not ?_ | refine g_andV ?_ | refine g_orV ?_ | refine g_notV ?_ | refine g_if ?_ | refine g_chain ?_ | refine g_yes ?_ | refine g_lc ?_ | refine g_revR ?_ | refine g_rng1 ?_ | refine g_iList ?_ | refine g_nil ?_ | refine g_cons ?_ | refine g_tup ?_ | refine g_lst ?_ | refine g_call ?_ | refine g_CB ?_ | refine g_sl ?_ | refine g_noPart ?_ | refine g_part ?_ | refine g_intE ?_ | refine g_ref ?_ | refine g_fld ?_ | refine g_sfld ?_ | refine g_meth ?_ | refine g_make ?_ | refine g_prop ?_  | refine g_ipI ?_ | refine g_int1 ?_ | refine g_int1B ?_ | refine g_one ?_ | refine g_two ?_ | refine g_isiI ?_ | refine g_isiIB ?_ | refine g_isiB ?_ | refine g_BM ?_ | refine g_BM0 ?_ | refine g_sub ?_)
local macro_rules | `(tactic| walk_at "go") => `(tactic| repeat (first | walk_at "go1" | ((with_reducible refine' g_nameE ?sd_ ?_); case sd_ => dsimp only [List.set_cons_succ, List.set_cons_zero]) | ((with_reducible refine' g_var ?sd_ ?_); case sd_ => exact rfl) | ((with_reducible refine' g_aug ?sd_ ?_); case sd_ => exact rfl) | ((with_reducible refine' g_rI ?sd_ ?_); case sd_ => walk_at "side") | ((with_reducible refine' g_dT ?sd_ ?_); case sd_ => walk_at "fact") | ((with_reducible refine' g_dF ?sd_ ?_); case sd_ => walk_at "fact") | ((with_reducible refine' g_nT ?sd_ ?_); case sd_ => walk_at "fact") | ((with_reducible refine' g_nF ?sd_ ?_); case sd_ => walk_at "fact") | (with_reducible refine g_iT rfl ?_) | (with_reducible refine g_iF rfl ?_) | walk_at "use"))
local macro_rules | `(tactic| walk_at "use") => `(tactic| first | ((with_reducible refine' fd_Messages__begun ?ho_ ?hv_ ?_); (case ho_ => first | assumption | exact upd_same); (case hv_ => exact rfl)) | ((with_reducible refine' nw_Messages__begun ?ho_ ?hv_ ?_); (case ho_ => first | assumption | exact upd_same); (case hv_ => exact rfl)) | ((with_reducible refine' st_Messages__begun ?ho_ ?hv_ ?_); (case ho_ => first | assumption | exact upd_same); (case hv_ => exact Nat.le_of_ble_eq_true rfl)) | ((with_reducible refine' me_Messages_feed ?ho_ ?_); (case ho_ => first | assumption | exact upd_same)))
section
variable {P : Program} {w : World} {K : PySem.W.Frag} {mg : Str → Option Value} {base : Heap}
/-! ### exceptions -/
section
variable {X : Cx} {K : PySem.W.Frag} {σ : St} {H : Hp} {Q : VK} {W : WX} {D : Ends} {C : Addr} {ta : TE} {t : St → Hp → XK → Prop}
def tRaise (t : St → Hp → XK → Prop) (W : WX) : TS := fun _ σ H => t σ H fun cls d H' => W cls d σ H'
theorem ps_rs {e : Expr} {pos : Pos} (hc : X.calm = true) (tk : Takes X W) (he : PMk X e t) : PS X (.Raise (some e) none pos) (tRaise t W) := ps_raise hc tk he
def tMk0 (C : Addr) : St → Hp → XK → Prop := fun _ H Q => Q (.ref C) none H
def tMk1 (C : Addr) (ta : TE) : St → Hp → XK → Prop := fun σ H Q => ta σ H fun _ H1 => Q (.ref C) none H1
theorem pmk_0 {x m : Str} {j : Nat} {p p2 pos : Pos} {bmB : List Value} {B newId initId : String} (F : ExcBaseFacts B newId initId bmB) (q : PySem.W.excIn X.K C bmB newId = true) (gC : X.mg x = some (.ref C)) (kC : PySem.W.keepIn X.K (.ref C) = true) (r : Raises X (.ref C)) (hg : Gl X x)
    (hdb : (x == ("__debug__" : Str)) = false := by decide) : PMk X (.Call (.Name x p) [.Constant (.str m) j p2] [] pos) (tMk0 C) := pmk_own F q gC kC r hg hdb
theorem pmk_1 {x : Str} {e : Expr} {p pos : Pos} {bmB : List Value} {B newId initId : String} (F : ExcBaseFacts B newId initId bmB) (q : PySem.W.excIn X.K C bmB newId = true) (gC : X.mg x = some (.ref C)) (kC : PySem.W.keepIn X.K (.ref C) = true) (r : Raises X (.ref C)) (hg : Gl X x)
    (he : PE X e ta) (hs : starEach [e] X.env = (false, eval e X.env) :: starEach [] X.env := by rfl) (hdb : (x == ("__debug__" : Str)) = false := by decide) : PMk X (.Call (.Name x p) [e] [] pos) (tMk1 C ta) := SkE.pmk_own1 F q gC kC r hg he hs hdb
theorem g_rs0 (q : W (.ref C) none σ H) : tRaise (tMk0 C) W D σ H := q
theorem g_rs1 (h : ta σ H fun _ H1 => W (.ref C) none σ H1) : tRaise (tMk1 C ta) W D σ H := h
def tTryA (K : PySem.W.Frag) (c : Value) (i : Nat) (tb : WX → TS) (ts : Addr → Value → Option Addr → TS) (Wout : WX) : TS := fun D σ H => tb (wAs K c i ts Wout D) D σ H
def tTryO (K : PySem.W.Frag) (c : Value) (tb : WX → TS) (ts : Addr → Value → Option Addr → TS) (Wout : WX) : TS := fun D σ H => tb (wOnly K c ts Wout D) D σ H
theorem ps_tryA {x n : Str} {c : Value} {i : Nat} {body suite : List Stmt} {b₀ : Stmt} {np pos pos' : Pos} {tb : WX → TS} {ts : Addr → Value → Option Addr → TS} {Wout : WX} (hs : X.stack = X.env :: X.outer) (hf : X.env.frame = some X.env.locals) (hN : X.N.Nodup) (hi : X.N[i]? = some n) (hln : X.env.kindOf n = some .local) (hc : Names X x c) (tk : Takes X Wout)
    (hb : ∀ (W : WX) (pn : List (Addr × Obj)) (xe : Value → Shared → Prop), Takes (X.tr pn xe) W → PassesOwn (model X.prog X.w) X.A X.env xe → PSs (X.tr pn xe) body (tb W))
    (hsu : ∀ (a : Addr) (oe : Obj) (cls : Value) (d : Option Addr) (pn : List (Addr × Obj)), Zc cls d oe → (∃ vs, oe.data = .fields vs) → PSs (X.suite a ((a, oe) :: pn)) (b₀ :: suite) (ts a cls d)) :
    PS X (.Try body [.ExceptHandler (some (.Name x np)) (some n) (b₀ :: suite) pos'] [] [] pos) (tTryA X.K c i tb ts Wout) := ps_try_as hs hf hN hi hln hc tk hb hsu
theorem ps_tryO {x : Str} {c : Value} {body suite : List Stmt} {b₀ : Stmt} {np pos pos' : Pos} {tb : WX → TS} {ts : Addr → Value → Option Addr → TS} {Wout : WX} (hs : X.stack = X.env :: X.outer) (hf : X.env.frame = some X.env.locals) (hc : Names X x c) (tk : Takes X Wout)
    (hb : ∀ (W : WX) (pn : List (Addr × Obj)) (xe : Value → Shared → Prop), Takes (X.tr pn xe) W → PassesOwn (model X.prog X.w) X.A X.env xe → PSs (X.tr pn xe) body (tb W))
    (hsu : ∀ (a : Addr) (oe : Obj) (cls : Value) (d : Option Addr) (pn : List (Addr × Obj)), Zc cls d oe → (∃ vs, oe.data = .fields vs) → PSs (X.suite a ((a, oe) :: pn)) (b₀ :: suite) (ts a cls d)) :
    PS X (.Try body [.ExceptHandler (some (.Name x np)) none (b₀ :: suite) pos'] [] [] pos) (tTryO X.K c tb ts Wout) := ps_try_only hs hf hc tk hb hsu
variable {c cls : Value} {d : Option Addr} {i : Nat} {tb : WX → TS} {ts : Addr → Value → Option Addr → TS} {Wout : WX}
theorem g_tryA (h : tb (wAs K c i ts Wout D) D σ H) : tTryA K c i tb ts Wout D σ H := h
theorem g_tryO (h : tb (wOnly K c ts Wout D) D σ H) : tTryO K c tb ts Wout D σ H := h
theorem g_caught (e : PySem.W.exmOne K cls c = some true) (h : ∀ a, H a = none → ts a cls d { nx := fun σ' H' => D.nx (σ'.set i none) H', rt := D.rt, bk := fun σ' H' => D.bk (σ'.set i none) H', ct := fun σ' H' => D.ct (σ'.set i none) H' } (σ.set i (some (.ref a))) H) :
    wAs K c i ts Wout D cls d σ H := ⟨true, e, fun _ => h, fun z => nomatch z⟩
theorem g_caughtO (e : PySem.W.exmOne K cls c = some true) (h : ∀ a, H a = none → ts a cls d D σ H) : wOnly K c ts Wout D cls d σ H := ⟨true, e, fun _ => h, fun z => nomatch z⟩
theorem g_callS {sp : Sp} {E : St → XK} {t : TA} (h : t σ H fun vs H1 => sp vs H1 Q (E σ)) : tCallS sp E t σ H Q := h
/-- isinstance(e, c), e the exception that the suite holds, of a class known later -/
def rIsE2 (K : PySem.W.Frag) (a : Addr) (cls : Value) (d : Option Addr) : List V → Hp → VK → Prop := fun xs H Q => ∃ (D : Addr) (c : V) (cv : Value) (b : Bool), cls = .ref D ∧ d = none ∧ ExcC K D ∧ xs = [.ref a, c] ∧ (∀ u, RelV c u → u = cv) ∧ PySem.W.kitOne K (.ref D) cv = some b ∧ Q (.bl b) H
theorem call_isE2 {a : Addr} {oe : Obj} {pn : List (Addr × Obj)} (hz : Zc cls d oe) (hf : ∃ vs, oe.data = .fields vs) : CallR (X.suite a ((a, oe) :: pn)) (.builtin "isinstance") (rIsE2 X.K a cls d) := by
  intro pins s σ H xs us Q I r h
  obtain ⟨D, c, cv, b, rfl, rfl, C, e1, hcv, e, q⟩ := h
  exact call_isE C hz hf pins s σ H xs us Q I r ⟨c, cv, b, e1, hcv, e, q⟩
theorem g_isER {R B a : Addr} {b : Bool} (C : ExcC K R) (e : PySem.W.kitOne K (.ref R) (.ref B) = some b) (q : Q (.bl b) H) : rIsE2 K a (.ref R) none [.ref a, .ref B] H Q := ⟨R, _, _, b, rfl, rfl, C, rfl, fun u r => by cases r; rfl, e, q⟩
theorem g_isET {R a : Addr} {T : String} {b : Bool} (C : ExcC K R) (e : PySem.W.kitOne K (.ref R) (.type T) = some b) (q : Q (.bl b) H) : rIsE2 K a (.ref R) none [.ref a, .ty T] H Q := ⟨R, _, _, b, rfl, rfl, C, rfl, fun u r => by cases r; rfl, e, q⟩
/-! f-strings -/
def tJoined (ts : List TE) : TE := fun σ H Q => tJs ts Str.empty σ H fun out H1 => Q (.str out) H1
theorem pe_joinedJ {v1 v2 : Expr} {rest : List Expr} {ts : List TE} {pos : Pos} (h : PJ X (v1 :: v2 :: rest) ts) : PE X (.JoinedStr (v1 :: v2 :: rest) pos) (tJoined ts) := pe_joined h
theorem g_joined {ts : List TE} (h : tJs ts Str.empty σ H fun out H1 => Q (.str out) H1) : tJoined ts σ H Q := h
theorem g_jsnil {acc : Str} {A : Str → Hp → Prop} (q : A acc H) : tJs [] acc σ H A := q
theorem g_jscons {acc : Str} {A : Str → Hp → Prop} {t : TE} {ts : List TE} (h : t σ H fun x H1 => ∃ y : Str, x = .str y ∧ (acc ++ y).length ≤ sizeLine ∧ tJs ts (acc ++ y) σ H1 A) : tJs (t :: ts) acc σ H A := h
theorem g_jsE {acc y : Str} {A : Str → Prop} (h1 : (acc ++ y).length ≤ sizeLine) (q : A y) : ∃ y' : Str, V.str y = .str y' ∧ (acc ++ y').length ≤ sizeLine ∧ A y' := ⟨y, rfl, h1, q⟩
def rAddS : R2 := fun x y H Q => ∃ i j : Str, x = .str i ∧ y = .str j ∧ i.length + j.length ≤ sizeLine ∧ Q (.str (i ++ j)) H
theorem op_addS : OpR X (binaryOp .Add) rAddS := op_add_str
theorem g_addS {y z : Str} (h : y.length + z.length ≤ 16777216) (q : Q (.str (y ++ z)) H) : rAddS (.str y) (.str z) H Q := ⟨y, z, rfl, rfl, by rw [sizeLine_eq]; exact h, q⟩
theorem g_slS {y : Str} {lo hi : Option Int} (h : y.length ≤ 16777216) (q : Q (.str (cutS y lo hi)) H) : rSlS (.str y) lo hi H Q := ⟨y, rfl, by rw [sizeLine_eq]; exact h, q⟩
theorem g_m0 {r : V → List V → Hp → VK → Prop} {to : TE} (h : to σ H fun x H1 => (∃ a, x = V.str a) ∧ r x [] H1 Q) : tM0 r to σ H Q := h
theorem g_fmtS {y : Str} {A : Str → Prop} {B : Int → Prop} (h : y.length ≤ sizeLine) (q : A y) : (∃ y' : Str, V.str y = .str y' ∧ y'.length ≤ sizeLine ∧ A y') ∨ ∃ i : Int, V.str y = .int i ∧ i.natAbs.log2 < 1920 ∧ B i := .inl ⟨y, rfl, h, q⟩
theorem g_fmtI {j : Int} {A : Str → Prop} {B : Int → Prop} (h : j.natAbs.log2 < 1920) (q : B j) : (∃ y' : Str, V.int j = .str y' ∧ y'.length ≤ sizeLine ∧ A y') ∨ ∃ i : Int, V.int j = .int i ∧ i.natAbs.log2 < 1920 ∧ B i := .inr ⟨j, rfl, h, q⟩
theorem g_fmt (h : ta σ H fun x H1 => (∃ y : Str, x = .str y ∧ y.length ≤ sizeLine ∧ Q (.str y) H1) ∨ ∃ i : Int, x = .int i ∧ i.natAbs.log2 < 1920 ∧ Q (.str (toString i)) H1) : tFmt ta σ H Q := h
end
theorem kit_refT {K : PySem.W.Frag} {t : Value} {C : Addr} (a : PySem.W.isClsIn K C = true) (b : PySem.W.typeIn K (.ref C) = some (.type "type")) (c : PySem.W.subIn K t (.ref C) = some true) : PySem.W.kitOne K t (.ref C) = some true := by
  unfold PySem.W.isClsIn at a
  unfold PySem.W.kitOne
  by_cases z : (t == Value.ref C) = true
  · rw [if_pos z]
  · rw [if_neg z]
    show (if ((PySem.W.clsIn K C).isSome && PySem.W.typeIn K (.ref C) == some (.type "type")) = true then PySem.W.subIn K t (.ref C) else none) = some true
    rw [a, b, if_pos (by rw [Bool.true_and]; exact beq_self_eq_true _)]
    exact c
theorem kit_refF {K : PySem.W.Frag} {R C : Addr} (a : PySem.W.isClsIn K C = true) (b : PySem.W.typeIn K (.ref C) = some (.type "type")) (c : PySem.W.subIn K (.ref R) (.ref C) = some false) (r : PySem.W.subIn K (.ref R) (.ref R) = some true) : PySem.W.kitOne K (.ref R) (.ref C) = some false := by
  unfold PySem.W.isClsIn at a
  unfold PySem.W.kitOne
  by_cases z : (Value.ref R == Value.ref C) = true
  · have e : Value.ref R = Value.ref C := beq_iff_eq.mp z
    injection e with e
    subst e
    rw [c] at r
    cases r
  · rw [if_neg z]
    show (if ((PySem.W.clsIn K C).isSome && PySem.W.typeIn K (.ref C) == some (.type "type")) = true then PySem.W.subIn K (.ref R) (.ref C) else none) = some false
    rw [a, b, if_pos (by rw [Bool.true_and]; exact beq_self_eq_true _)]
    exact c
theorem kit_tyT {K : PySem.W.Frag} {R : Addr} {T : String} {b : Bool} (a : PySem.W.kitMeta T = true) (c : PySem.W.subIn K (.ref R) (.type T) = some b) : PySem.W.kitOne K (.ref R) (.type T) = some b := by
  unfold PySem.W.kitOne
  rw [if_neg (by show ¬ (Value.ref R == Value.type T) = true; exact fun h => by cases (beq_iff_eq.mp h))]
  show (if PySem.W.kitMeta T = true then PySem.W.subIn K (.ref R) (.type T) else none) = some b
  rw [if_pos a]
  exact c
/-! a written dict with texts as keys -/
theorem ns_entry {K : PySem.W.Frag} {a : Addr} {c : Value} {d : Option Addr} {es : Array DictEntry} {n : Nat} {sl : Array (Option Value)} {x : Str} {u : Value} (h : K.lookup a = some ⟨c, d, .dict es n, sl⟩) (e : (es.toList.find? (·.key.isStr x)).map (·.val) = some u) : PySem.W.nsIn K a x = some (some u) := by
  unfold PySem.W.nsIn
  rw [h]
  dsimp only
  cases q : es.toList.find? (·.key.isStr x) with
  | none => rw [q] at e; cases e
  | some z => rw [q] at e; injection e with e; rw [← e]
theorem fit2 {a b : Str} (h : a.length + b.length ≤ 16777216) : (a ++ b).length ≤ sizeLine := by
  rw [PySem.Str.length_append, sizeLine_eq]
  exact h
theorem log_lt {n : Nat} (h : n < 2 ^ 64) : n.log2 < 1920 := by
  by_cases z : n = 0
  · subst z; decide
  · exact Nat.lt_trans (Nat.log2_lt z |>.mpr h) (by decide)
theorem itext {i : Int} (h : i.natAbs < 2 ^ 64) : (Str.ofString (toString i)).length ≤ 1921 := PyProof.Rows.int_text_len_1921 (log_lt h)
def keyS (e : DictEntry) : Option Str := match e.key with | .str s _ => some s | _ => none
theorem find_keys : ∀ {l : List DictEntry} {ks : List Str} {z : Str}, l.map keyS = ks.map some → z ∉ ks → l.find? (·.key.isStr z) = none ∧ l.any (·.refKey) = false
  | [], _, _, _, _ => ⟨rfl, rfl⟩
  | e :: l, [], _, h, _ => by cases h
  | e :: l, k :: ks, z, h, hz => by
    simp only [List.map_cons, List.cons.injEq] at h
    obtain ⟨i1, i2⟩ := find_keys (l := l) (ks := ks) (z := z) h.2 fun m => hz (List.mem_cons_of_mem _ m)
    have h1 := h.1
    unfold keyS at h1
    obtain ⟨hs, key, val⟩ := e
    dsimp only at h1 ⊢
    cases key with
    | str s t =>
      injection h1 with h1
      subst h1
      have ne : (s == z) = false := by
        rw [beq_eq_false_iff_ne]
        intro e
        exact hz (e ▸ List.mem_cons_self ..)
      refine ⟨?_, ?_⟩
      · rw [List.find?_cons]
        show (match (s == z) with | true => _ | false => _) = none
        rw [ne]
        exact i1
      · rw [List.any_cons, i2, Bool.or_false]
        rfl
    | _ => cases h1
theorem ns_out {K : PySem.W.Frag} {a : Addr} {c : Value} {d : Option Addr} {es : Array DictEntry} {n : Nat} {sl : Array (Option Value)} {z : Str} {ks : List Str} (h : K.lookup a = some ⟨c, d, .dict es n, sl⟩) (e : es.toList.map keyS = ks.map some) (hz : z ∉ ks) : PySem.W.nsIn K a z = some none := by
  obtain ⟨i1, i2⟩ := find_keys e hz
  unfold PySem.W.nsIn
  rw [h]
  dsimp only
  rw [i1]
  dsimp only
  rw [i2]
  rfl
section
variable {K : PySem.W.Frag} {H : Hp} {Q : VK}
def rInK (K : PySem.W.Frag) (d : Addr) : R2 := fun x y H Q => ∃ (z : Str) (r : Option Value), x = .str z ∧ y = .ref d ∧ PySem.W.nsIn K d z = some r ∧ Q (.bl r.isSome) H
def rNotInK (K : PySem.W.Frag) (d : Addr) : R2 := fun x y H Q => ∃ (z : Str) (r : Option Value), x = .str z ∧ y = .ref d ∧ PySem.W.nsIn K d z = some r ∧ Q (.bl (!r.isSome)) H
theorem op_inK {X : Cx} {d : Addr} {es : Array DictEntry} {n : Nat} (D : KDict X.K X.w d es n) : OpR X (compareOp .In) (rInK X.K d) := op_in_kd D
theorem op_notInK {X : Cx} {d : Addr} {es : Array DictEntry} {n : Nat} (D : KDict X.K X.w d es n) : OpR X (compareOp .NotIn) (rNotInK X.K d) := op_notIn_kd D
theorem g_inK {d : Addr} {z : Str} {u : Value} (e : PySem.W.nsIn K d z = some (some u)) (q : Q (.bl true) H) : rInK K d (.str z) (.ref d) H Q := ⟨z, _, rfl, rfl, e, q⟩
theorem g_inKn {d : Addr} {z : Str} (e : PySem.W.nsIn K d z = some none) (q : Q (.bl false) H) : rInK K d (.str z) (.ref d) H Q := ⟨z, _, rfl, rfl, e, q⟩
theorem g_notInK {d : Addr} {z : Str} {u : Value} (e : PySem.W.nsIn K d z = some (some u)) (q : Q (.bl false) H) : rNotInK K d (.str z) (.ref d) H Q := ⟨z, _, rfl, rfl, e, q⟩
theorem g_notInKn {d : Addr} {z : Str} (e : PySem.W.nsIn K d z = some none) (q : Q (.bl true) H) : rNotInK K d (.str z) (.ref d) H Q := ⟨z, _, rfl, rfl, e, q⟩
theorem g_ixK {w : World} {d : Addr} {z : Str} {u : Value} {v : V} {es : Array DictEntry} {n : Nat} (D : KDict K w d es n) (e : PySem.W.nsIn K d z = some (some u)) (r : RelV v u) (q : Q v H) : rIxD K w (.ref d) (.str z) H Q := ⟨d, z, v, rfl, rfl, ⟨es, n, u, D.at_, D.lit, e, r⟩, q⟩
end
local macro_rules | `(tactic| walk_at "use") => `(tactic| with_reducible first | refine g_rs0 ?_ | refine g_rs1 ?_ | refine g_tryA ?_ | refine g_tryO ?_ | refine g_callS ?_ | refine g_joined ?_ | refine g_jsnil ?_ | refine g_jscons ?_ | refine g_fmt ?_)
local macro_rules | `(tactic| walk_at "fit") => `(tactic| (refine fit2 ?_; (try simp only [PySem.Str.length_append]); omega))
local macro_rules | `(tactic| walk_at "use") => `(tactic| first | ((with_reducible refine' g_addS ?sd_ ?_); case sd_ => (first | omega | (simp only [PySem.Str.length_append]; omega))) | ((with_reducible refine' g_slS ?sd_ ?_); case sd_ => omega) | (with_reducible refine g_m0 ?_))


/-! ### del xs[:c] -/
theorem sel_drop {c : Int} : ∀ (xs : List Value) (k0 : Nat), (xs.zipIdx k0).filterMap (fun p => if (if (1 : Int) > 0 then decide ((0 : Int) ≤ (p.2 : Int)) && decide ((p.2 : Int) < c) && (((p.2 : Int) - 0) % 1 == 0) else decide (c < (p.2 : Int)) && decide ((p.2 : Int) ≤ 0) && ((0 - (p.2 : Int)) % (-1) == 0)) = true then none else some p.1) = xs.drop (c.toNat - k0)
  | [], k0 => by simp
  | x :: xs, k0 => by
    rw [List.zipIdx_cons, List.filterMap_cons, sel_drop xs (k0 + 1)]
    dsimp only
    rw [if_pos (show (1 : Int) > 0 by decide)]
    by_cases h : (k0 : Int) < c
    · have e : (decide ((0 : Int) ≤ (k0 : Int)) && decide ((k0 : Int) < c) && (((k0 : Int) - 0) % 1 == 0)) = true := by
        rw [decide_eq_true h, decide_eq_true (Int.natCast_nonneg k0), Int.emod_one]
        rfl
      rw [if_pos e]
      dsimp only
      rw [show c.toNat - k0 = (c.toNat - (k0 + 1)) + 1 by omega, List.drop_succ_cons]
    · have e : ¬ (decide ((0 : Int) ≤ (k0 : Int)) && decide ((k0 : Int) < c) && (((k0 : Int) - 0) % 1 == 0)) = true := by
        rw [decide_eq_false h, Bool.and_false, Bool.false_and]
        exact Bool.false_ne_true
      rw [if_neg e]
      dsimp only
      rw [show c.toNat - k0 = 0 by omega, show c.toNat - (k0 + 1) = 0 by omega]
      rfl
theorem bounds_del {c : Int} {n : Nat} (h0 : 0 ≤ c) : sliceBounds none (some c) none n = (0, min c (n : Int), 1) := by
  simp only [sliceBounds, Option.getD_none]
  have h2 : ¬ (c < 0) := by omega
  simp only [h2, if_false, show (1 : Int) > 0 by decide, if_true]
  rw [show max (0 : Int) (min c (n : Int)) = min c (n : Int) by omega]
section
variable {prog : Program} {w : World} {A : Around} {E : Value → Shared → Prop} {s : Shared}
theorem upd_del {M : Model} {F : Array Value → Array Value} {l : Addr} {its : List Value} {n m : Nat} {Q : Unit → Shared → Prop} (hF : ∀ xs : Array Value, F xs = (xs.toList.drop m).toArray)
    (e : s.heap.get? l = some { cls := .type "list", data := .seq its.toArray n }) (hsz : its.length ≤ sizeLine) (h : Q () { s with heap := s.heap.update l (Obj.mapSeq fun xs => (xs.toList.drop m).toArray) }) : wpAny M A (updateSeq l F) Q E s := by
  rw [show F = fun xs => (xs.toList.drop m).toArray from funext hF]
  exact wpAny_updateSeq (hz := by rw [List.size_toArray]; exact hsz) (_hz' := by rw [List.size_toArray, List.length_drop]; show its.length - _ ≤ _; omega) e rfl h
theorem delItem_slice {l sl : Addr} {its : List Value} {n : Nat} {vu : Value} {c : Int} {Q : Unit → Shared → Prop}
    (e : s.heap.get? l = some { cls := .type "list", data := .seq its.toArray n })
    (hs : s.heap.IsSliceOf sl .none vu .none) (pu : PySem.IsPart vu (some c)) (h0 : 0 ≤ c) (hsz : its.length ≤ sizeLine)
    (h : Q () { s with heap := s.heap.update l (Obj.mapSeq fun xs => (xs.toList.drop (min c (its.length : Int)).toNat).toArray) }) :
    wpAny (model prog w) A (delItem (.ref l) (.ref sl)) Q E s := by
  have hl : s.heap.IsList l its.toArray := PySem.IsL.isList e
  obtain ⟨os, hos, hcs, hds⟩ := id hs
  have hTs : s.TypeIs (.ref sl) "slice" := ⟨os, hos, hcs⟩
  have hstep : ¬ ((PySem.rawPart none == rawInt 0) = true) := Bool.false_ne_true
  refine wpAny_delItem_slot hl.typeIs (by decide) PySem.F.slot_list_delitem (wpAny_call_entry PySem.F.slot_list_delitem hl.typeIs PySem.F.entry_list_delitem ?_ (PySem.F.args_list_delitem_2 _ _))
  show wpAny _ _ (Builtin.List.listSubscript? (.ref sl) >>= _) _ _ s
  refine wpAny_bind ?_
  unfold Builtin.List.listSubscript?
  refine wpAny_bind (wpAny_specialOf hTs slice_no_index ?_)
  simp only [Option.isNone_none, if_true]
  refine wpAny_pure ?_
  show wpAny _ _ (typeOf (.ref sl) >>= _) _ _ s
  refine wpAny_bind (wpAny_typeOf hTs ?_)
  first
    | rw [if_neg (by decide)]
    | refine PySem.W.KFB.if_not (by decide) ?_
  rw [listSliceParts_eq]
  refine wpAny_bind (wpAny_bind (wpAny_field hos hds (x := .none) rfl (wpAny_bind (wpAny_listPart .none ?_))))
  rw [if_neg hstep]
  refine wpAny_bind (wpAny_field hos hds (x := .none) rfl (wpAny_bind (wpAny_listPart .none ?_)))
  refine wpAny_bind (wpAny_field hos hds (x := vu) rfl (wpAny_bind (wpAny_listPart pu (wpAny_pure ?_))))
  unfold Builtin.List.listItems
  refine wpAny_bind (wpAny_bind (wpAny_seqItems e rfl (wpAny_pure ?_)))
  refine wpAny_bind (wpAny_of_eq ((sliceIndices_raw none (some c) none its.toArray.size (by simp)).trans (congrArg (pure : Int × Int × Int → Sem (Int × Int × Int)) (bounds_del h0))) ?_)
  refine wpAny_bind (wpAny_rule ?_)
  refine wpAny_bind (m := updateSeq l _) (upd_del (m := (min c (its.length : Int)).toNat) ?hF e hsz ?_)
  case hF =>
    intro xs
    refine congrArg List.toArray (Eq.trans (congrArg (fun f => List.filterMap f xs.toList.zipIdx) (funext fun p => ?_)) (sel_drop (c := min c (its.length : Int)) xs.toList 0))
    obtain ⟨x, k⟩ := p
    kernel_rfl
  refine wpAny_bind (wpAny_letGo ?_)
  first
    | exact wpAny_pure ⟨.none, rfl, h⟩
    | exact wpAny_bind (wpAny_pure (wpAny_pure ⟨.none, rfl, h⟩))
end
def tDelS (to th : TE) : TS := fun D σ H => to σ H fun x H1 => th σ H1 fun y H2 => ∃ (l : Addr) (xs : List V) (c : Int), x = .ref l ∧ y = .int c ∧ H2 l = some (.lst xs) ∧ 0 ≤ c ∧ D.nx σ (upd H2 l (.lst (xs.drop c.toNat)))
theorem ps_delS {X : Cx} {o hi : Expr} {to th : TE} {p2 tpos pos : Pos} (ho : PE X o to) (hi' : PE X hi th) : PS X (.Delete [.Subscript o (.Slice none (some hi) none p2) tpos] pos) (tDelS to th) := by
  refine ⟨fun pins s σ H D I h => ?_⟩
  refine wpAny_Delete (wpAny_deleteEach_cons (wpAny_delete_Subscript (thn (ho.run pins s σ H _ I h) fun u s1 ⟨x, H1, I1, rx, q1⟩ => ?_)))
  refine PySem.wpAny_Slice ?_
  rw [evalPart_none]
  refine wpAny_pure ?_
  rw [PySem.evalPart_some]
  refine thn (hi'.run pins s1 σ H1 _ I1 q1) fun vu s3 ⟨y, H3, I3, ry, q3⟩ => ?_
  refine wpAny_pure ?_
  have I4 : Inv X pins σ H3 { s3 with heap := s3.heap.push { cls := .type "slice", data := .fields #[.none, vu, .none] } } := I3.kept (t' := s3.toks) fun b ob q => Heap.get?_push_of_some _ q
  obtain ⟨l, xs, c, rfl, rfl, e1, h0, q4⟩ := q3
  cases rx
  obtain ⟨t2, rfl⟩ := ry
  obtain ⟨z, its, n, r, hl, e⟩ := I4.lstM e1
  have hm : (min c (its.length : Int)).toNat = min c.toNat its.length := by omega
  refine delItem_slice e (Heap.IsSliceOf.new ..) (.int c t2) h0 (by omega) ?_
  refine wpAny_deleteEach_nil ⟨σ, _, I4.lset (its' := its.drop c.toNat) (t' := s3.toks) e1 e ?_ (r.drop _) ?_, q4⟩
  · rw [hm]
    show (its.drop (min c.toNat its.length)).toArray = _
    congr 1
    by_cases q : c.toNat ≤ its.length
    · rw [Nat.min_eq_left q]
    · rw [Nat.min_eq_right (by omega), List.drop_eq_nil_of_le (Nat.le_refl _), List.drop_eq_nil_of_le (by omega)]
  · rw [List.length_drop]
    omega
theorem g_delS {to th : TE} {D : Ends} {σ : St} {H : Hp} (h : to σ H fun x H1 => th σ H1 fun y H2 => ∃ (l : Addr) (xs : List V) (c : Int), x = .ref l ∧ y = .int c ∧ H2 l = some (.lst xs) ∧ 0 ≤ c ∧ D.nx σ (upd H2 l (.lst (xs.drop c.toNat)))) : tDelS to th D σ H := h
theorem g_delE {l : Addr} {xs : List V} {c : Int} {H : Hp} {A : Hp → Prop} (h : H l = some (.lst xs)) (h0 : 0 ≤ c) (q : A (upd H l (.lst (xs.drop c.toNat)))) : ∃ (l' : Addr) (xs' : List V) (c' : Int), V.ref l = .ref l' ∧ V.int c = .int c' ∧ H l' = some (.lst xs') ∧ 0 ≤ c' ∧ A (upd H l' (.lst (xs'.drop c'.toNat))) := ⟨l, xs, c, rfl, rfl, h, h0, q⟩
local macro_rules | `(tactic| walk_at "use") => `(tactic| with_reducible refine g_delS ?_)

/-! ### messages in a row: the mathematics -/
def vl (ns : List Int) : Int := ns.foldl (fun v x => 256 * v + x) 0
theorem vl_take {ns : List Int} {i : Nat} {x : Int} (h : ns[i]? = some x) : vl (ns.take (i + 1)) = 256 * vl (ns.take i) + x := by
  unfold vl
  rw [List.take_add_one, h, List.foldl_append]
  rfl
def fr (os : List Int) : List Int := ((os.length : Int) / 256 % 256) :: ((os.length : Int) % 256) :: os
theorem fr_len {os : List Int} : (fr os).length = os.length + 2 := rfl
theorem vl_two {a b : Int} : vl [a, b] = 256 * a + b := by
  show 256 * (256 * 0 + a) + b = _
  omega
def S (ms : List (List Int)) : List Int := (ms.map fr).flatten
theorem S_cons {m : List Int} {ms : List (List Int)} : S (m :: ms) = fr m ++ S ms := rfl
theorem S_app : ∀ {as bs : List (List Int)}, S (as ++ bs) = S as ++ S bs
  | [], _ => rfl
  | a :: as, bs => by
    show fr a ++ S (as ++ bs) = (fr a ++ S as) ++ S bs
    rw [S_app, List.append_assoc]
def en : List (List Int) → Nat → Nat
  | _, 0 => 0
  | [], _ + 1 => 0
  | m :: ms, i + 1 => m.length + 2 + en ms i
theorem en_len : ∀ {ms : List (List Int)} {i : Nat}, (S (ms.take i)).length = en ms i
  | ms, 0 => by cases ms <;> rfl
  | [], _ + 1 => rfl
  | m :: ms, i + 1 => by
    show (fr m ++ S (ms.take i)).length = _
    rw [List.length_append, en_len, fr_len]
    rfl
theorem S_take {ms : List (List Int)} {i : Nat} : S (ms.take i) = (S ms).take (en ms i) := by
  have e : S ms = S (ms.take i) ++ S (ms.drop i) := by rw [← S_app, List.take_append_drop]
  rw [e, ← en_len, List.take_left]
theorem S_drop {ms : List (List Int)} {i : Nat} : S (ms.drop i) = (S ms).drop (en ms i) := by
  have e : S ms = S (ms.take i) ++ S (ms.drop i) := by rw [← S_app, List.take_append_drop]
  rw [e, ← en_len, List.drop_left]
theorem en_le {ms : List (List Int)} {i : Nat} : en ms i ≤ (S ms).length := by
  rw [← en_len, S_take, List.length_take]
  omega
theorem en_all {ms : List (List Int)} : en ms ms.length = (S ms).length := by rw [← en_len, List.take_length]
theorem en_succ : ∀ {ms : List (List Int)} {i : Nat} {m : List Int}, ms[i]? = some m → en ms (i + 1) = en ms i + m.length + 2
  | [], _, _, h => by cases h
  | m0 :: ms, 0, m, h => by
    injection h with h
    subst h
    show m0.length + 2 + en ms 0 = 0 + m0.length + 2
    cases ms <;> (show m0.length + 2 + 0 = _; omega)
  | m0 :: ms, i + 1, m, h => by
    show m0.length + 2 + en ms (i + 1) = m0.length + 2 + en ms i + m.length + 2
    rw [en_succ (show ms[i]? = some m from h)]
    omega
def cnt : List (List Int) → Nat → Nat
  | [], _ => 0
  | m :: ms, c => if m.length + 2 ≤ c then cnt ms (c - m.length - 2) + 1 else 0
theorem cnt_le : ∀ {ms : List (List Int)} {c : Nat}, cnt ms c ≤ ms.length
  | [], _ => Nat.le_refl _
  | m :: ms, c => by
    unfold cnt
    split
    · exact Nat.succ_le_succ cnt_le
    · exact Nat.zero_le _
theorem cnt_iff : ∀ {ms : List (List Int)} {j c : Nat}, j < ms.length → (en ms (j + 1) ≤ c ↔ j < cnt ms c)
  | [], _, _, h => by cases h
  | m :: ms, 0, c, _ => by
    show m.length + 2 + en ms 0 ≤ c ↔ _
    rw [show en ms 0 = 0 by cases ms <;> rfl]
    unfold cnt
    split <;> omega
  | m :: ms, j + 1, c, h => by
    show m.length + 2 + en ms (j + 1) ≤ c ↔ _
    have ih := cnt_iff (ms := ms) (j := j) (c := c - m.length - 2) (Nat.lt_of_succ_lt_succ h)
    unfold cnt
    split
    · constructor
      · intro q
        have := ih.mp (by omega)
        omega
      · intro q
        have := ih.mpr (by omega)
        omega
    · constructor <;> intro q <;> omega
theorem cnt_en : ∀ {ms : List (List Int)} {c : Nat}, en ms (cnt ms c) ≤ c
  | [], c => by show 0 ≤ c; omega
  | m :: ms, c => by
    unfold cnt
    split
    · show m.length + 2 + en ms (cnt ms (c - m.length - 2)) ≤ c
      have := cnt_en (ms := ms) (c := c - m.length - 2)
      omega
    · show 0 ≤ c
      omega
theorem cnt_mono : ∀ {ms : List (List Int)} {c d : Nat}, c ≤ d → cnt ms c ≤ cnt ms d
  | [], _, _, _ => Nat.le_refl _
  | m :: ms, c, d, h => by
    unfold cnt
    split
    · rw [if_pos (by omega)]
      exact Nat.succ_le_succ (cnt_mono (by omega))
    · exact Nat.zero_le _
theorem en_mono : ∀ {ms : List (List Int)} {i j : Nat}, i ≤ j → en ms i ≤ en ms j
  | ms, 0, j, _ => by rw [show en ms 0 = 0 by cases ms <;> rfl]; omega
  | [], i + 1, j, _ => by show 0 ≤ _; omega
  | m :: ms, i + 1, 0, h => by omega
  | m :: ms, i + 1, j + 1, h => by
    show m.length + 2 + en ms i ≤ m.length + 2 + en ms j
    have := en_mono (ms := ms) (i := i) (j := j) (by omega)
    omega
/-- what stands from a to b -/
def seg (xs : List Int) (a b : Nat) : List Int := (xs.take b).drop a
theorem seg_len {xs : List Int} {a b : Nat} (h : b ≤ xs.length) : (seg xs a b).length = b - a := by
  unfold seg
  rw [List.length_drop, List.length_take]
  omega
theorem seg_app {xs : List Int} {a b c : Nat} (h1 : a ≤ b) (h2 : b ≤ c) : seg xs a b ++ seg xs b c = seg xs a c := by
  unfold seg
  rw [show xs.take b = (xs.take c).take b by rw [List.take_take, Nat.min_eq_left h2]]
  generalize xs.take c = ys
  rw [List.drop_take]
  have e : ys.drop b = (ys.drop a).drop (b - a) := by rw [List.drop_drop]; congr 1; omega
  rw [e, List.take_append_drop]
theorem seg_S {ms : List (List Int)} {c d : Nat} (h : c ≤ d) : S ((ms.take d).drop c) = seg (S ms) (en ms c) (en ms d) := by
  rw [S_drop, S_take]
  unfold seg
  congr 1
  have : ∀ {ms : List (List Int)} {c d : Nat}, c ≤ d → en (ms.take d) c = en ms c := by
    intro ms
    induction ms with
    | nil => intro c d _; cases d <;> (cases c <;> rfl)
    | cons m ms ih =>
      intro c d h
      cases c with
      | zero => cases d <;> rfl
      | succ c =>
        cases d with
        | zero => omega
        | succ d =>
          show m.length + 2 + en (ms.take d) c = m.length + 2 + en ms c
          rw [ih (by omega)]
  exact this h
def pend (ms : List (List Int)) (a : Nat) : List Int := seg (S ms) (en ms (cnt ms a)) a
/-- no whole frame stands there -/
def Nost (rest : List Int) : Prop := rest.length < 2 ∨ (rest.length : Int) < 2 + vl (rest.take 2)
theorem vl_fr {m xs : List Int} (h : m.length < 65536) : vl ((fr m ++ xs).take 2) = m.length := by
  show vl [_, _] = _
  rw [vl_two]
  omega
theorem pend_nost {ms : List (List Int)} {a : Nat} (ok : ∀ m ∈ ms, m.length < 65536) (ha : a ≤ (S ms).length) : Nost (pend ms a) := by
  by_cases h : cnt ms a < ms.length
  · have e : ms[cnt ms a]? = some (ms[cnt ms a]) := List.getElem?_eq_getElem h
    have lt : a < en ms (cnt ms a + 1) := by
      apply Nat.lt_of_not_le
      intro z
      exact Nat.lt_irrefl _ ((cnt_iff h).mp z)
    have es := en_succ e
    have le := cnt_en (ms := ms) (c := a)
    have hl : (pend ms a).length = a - en ms (cnt ms a) := seg_len ha
    by_cases h2 : (pend ms a).length < 2
    · exact .inl h2
    · refine .inr ?_
      have e2 : (pend ms a).take 2 = (fr (ms[cnt ms a]) ++ S (ms.drop (cnt ms a + 1))).take 2 := by
        rw [← S_cons, ← List.drop_eq_getElem_cons h, S_drop]
        unfold pend seg
        rw [List.drop_take, List.take_take, Nat.min_eq_left (by omega)]
      rw [e2, vl_fr (ok _ (List.getElem_mem h)), hl]
      omega
  · have e : cnt ms a = ms.length := by have := cnt_le (ms := ms) (c := a); omega
    refine .inl ?_
    unfold pend
    rw [seg_len ha, e, en_all]
    omega
theorem pend_feed {ms : List (List Int)} {a b : Nat} (h : a ≤ b) (hb : b ≤ (S ms).length) : pend ms a ++ seg (S ms) a b = S ((ms.take (cnt ms b)).drop (cnt ms a)) ++ pend ms b := by
  have m := cnt_mono (ms := ms) h
  rw [seg_S m]
  unfold pend
  rw [seg_app cnt_en h, seg_app (en_mono m) cnt_en]

def dg (n : Int) : Nat → List Int
  | 0 => []
  | k + 1 => (n / 256 ^ k % 256) :: dg n k
theorem dg_len (n : Int) : ∀ k, (dg n k).length = k
  | 0 => rfl
  | k + 1 => congrArg Nat.succ (dg_len n k)
theorem dg_get (n : Int) : ∀ k i, i < k → (dg n k)[i]? = some (n / 256 ^ (k - 1 - i) % 256)
  | 0, _, h => by omega
  | k + 1, 0, _ => rfl
  | k + 1, i + 1, h => by
    show (dg n k)[i]? = _
    rw [dg_get n k i (by omega)]
    rw [show k + 1 - 1 - (i + 1) = k - 1 - i by omega]
theorem pw8 {n pl : Int} {m : Nat} (e : 8 * pl = ((8 * m : Nat) : Int)) : n / 2 ^ (8 * pl).toNat = n / 256 ^ m := by
  rw [e, Int.toNat_natCast, Int.pow_mul]
  rfl
def sp_write_number (K : PySem.W.Frag) : Sp := fun vs H Q _ => ∃ (n k : Int), vs = [.int n, .int k] ∧ (0 ≤ k ∧ k ≤ 1000) ∧ ∀ p H', H p = none → Same H H' → H' p = some (.lst ((dg n k.toNat).map V.int)) → Q (.ref p) H'
theorem u_write {n k : Int} {H Q E} (h : 0 ≤ k ∧ k ≤ 1000) (q : ∀ p H', H p = none → Same H H' → H' p = some (.lst ((dg n k.toNat).map V.int)) → Q (.ref p) H') : sp_write_number K ([.int n, .int k] ++ []) H Q E := ⟨n, k, rfl, h, q⟩
theorem ok_write_number (T : Txt K mg) : FnOk P w K mg base CX0 1 T.f_write_number T.d_write_number ["number", "size"] (sp_write_number K) := by
  refine T.F_write_number.ok sc_write_number (fun vs H Q E h => ?_) (fun cdv A outer s H vs Q E hr h => ?_)
  · obtain ⟨n, k, rfl, h0, q⟩ := h
    rfl
  · obtain ⟨n, k, rfl, h0, q⟩ := h
    have hu := hu_of hr
    refine ⟨_, (pss_one (ps_ret (pe_lc (own := [("place", 2)]) (g := gName 2) (tt := tYes) rfl sc_write_number.nd (pi_revR (by rfl) T.n_reversed (prg_1 (by rfl) T.n_range (pv 1))) (blkOk_by (N := ["number", "size", "place"]) (sc := defScope s_write_number) (by decide +kernel)) (fun _ _ _ _ _ => (pg_name (i := 2) sc_write_number.nd rfl (Or.inl rfl))) (fun _ _ _ _ _ => pts_nil) (fun _ _ _ _ _ => (pe_op op_andM (pe_op op_shr (pv 0) (pe_op op_mul pe_int (pv 2))) pe_int))))), ?_⟩
    dsimp only [cxOf, Cx.nox, Cx.wish, L2.start, List.map, List.cons_append, List.nil_append, List.length_cons, List.length_nil, Nat.reduceAdd, Nat.reduceSub, Nat.zero_add, List.replicate_succ, List.replicate_zero]
    walk_at "go"
    refine ⟨by decide, by decide, by omega, by omega, fun D hD => ?_⟩
    refine lc_vals walk_rangeC ((dg n k.toNat).map V.int) hD (by rw [List.length_map, dg_len, Int.sub_zero]) (fun _ _ => trivial) ?_ (fun H' s e => q D H' hD s e)
    rintro i x H1 H2 hi p ⟨rfl, rfl⟩
    refine ⟨rfl, ?_⟩
    walk_at "go"
    refine ⟨_, 8, rfl, rfl, ?_⟩
    refine lc_next hD p (by rw [List.length_map, dg_len]; omega) ?_
    rw [List.getElem?_map, dg_get n _ i (by omega)]
    show some (V.int _) = some (V.int _)
    rw [pw8 (m := k.toNat - 1 - i) (by omega)]
    rfl
local macro_rules | `(tactic| walk_at "use") => `(tactic| with_reducible refine u_write (by omega) ?_)

def sp_read_number (K : PySem.W.Frag) : Sp := fun vs H Q _ => ∃ (a : Addr) (ns : List Int), vs = [.ref a] ∧ SqL K H a (ns.map V.int) ∧ Q (.int (vl ns)) H
theorem u_read {a : Addr} {ns : List Int} {H Q E} (h : SqL K H a (ns.map V.int)) (q : Q (.int (vl ns)) H) : sp_read_number K ([.ref a] ++ []) H Q E := ⟨a, ns, rfl, h, q⟩
theorem ok_read_number (T : Txt K mg) : FnOk P w K mg base CX0 1 T.f_read_number T.d_read_number ["octets"] (sp_read_number K) := by
  refine T.F_read_number.ok sc_read_number (fun vs H Q E h => ?_) (fun cdv A outer s H vs Q E hr h => ?_)
  · obtain ⟨a, ns, rfl, h, q⟩ := h
    rfl
  · obtain ⟨a, ns, rfl, h, q⟩ := h
    have hu := hu_of hr
    refine ⟨_, (pss_cons (ps_set (i := 1) sc_read_number.nd rfl (Or.inl rfl) pe_int)
        (pss_cons (ps_for PassesOwn.never rfl (pi_list (pv 0)) (pg_name (i := 2) sc_read_number.nd rfl (Or.inl rfl)) (pss_one (ps_set (i := 1) sc_read_number.nd rfl (Or.inl rfl) (pe_op op_add (pe_op op_mul pe_int (pv 1)) (pv 2)))))
        (pss_one (ps_ret (pv 1))))), ?_⟩
    dsimp only [cxOf, Cx.nox, Cx.wish, L2.start, List.map, List.cons_append, List.nil_append, List.length_cons, List.length_nil, Nat.reduceAdd, Nat.reduceSub, Nat.zero_add, List.replicate_succ, List.replicate_zero]
    walk_at "go"
    refine for_l (xs := ns.map V.int) (fun i σ H' => H' = H ∧ ∃ v, σ = [some (.ref a), some (.int (vl (ns.take i))), v]) h ⟨rfl, none, rfl⟩ (fun i σ H' _ ⟨e, _⟩ => by rw [e]; exact h) ?turn ?done ?ev
    case ev =>
      intro R r
      walk_at "go"
      exact r
    case done =>
      rintro σ H' ⟨rfl, v, rfl⟩
      rw [List.length_map, List.take_length]
      walk_at "go"
      exact q
    case turn =>
      rintro i x σ H' hx ⟨rfl, v, rfl⟩
      obtain ⟨z, hz, rfl⟩ := map_get hx
      walk_at "go"
      refine ⟨rfl, some (.int z), ?_⟩
      rw [vl_take hz]

def sp_l_is_integer (K : PySem.W.Frag) : Sp := fun vs H Q _ => ∃ (n : Int), vs = [.int n] ∧ Q (.bl true) H
theorem u_isint {n : Int} {H Q E} (q : Q (.bl true) H) : sp_l_is_integer K ([.int n] ++ []) H Q E := ⟨n, rfl, q⟩
theorem ok_l_is_integer (T : Txt K mg) : FnOk P w K mg base CX0 1 T.f_l_is_integer T.d_l_is_integer ["told"] (sp_l_is_integer K) := by
  refine T.F_l_is_integer.ok sc_l_is_integer (fun vs H Q E h => ?_) (fun cdv A outer s H vs Q E hr h => ?_)
  · obtain ⟨n, rfl, q⟩ := h
    rfl
  · obtain ⟨n, rfl, q⟩ := h
    have hu := hu_of hr
    refine ⟨_, (pss_one (ps_ret (pe_and (pe_callB call_isi (by rfl) T.n_isinstance (by decide +kernel) (pa_cons (pv 0) (pa_cons (pe_bltn (v := .ty "int") (by rfl) T.n_int (by decide +kernel) rfl) pa_nil))) (pe_one (pe_not (pe_callB call_isi (by rfl) T.n_isinstance (by decide +kernel) (pa_cons (pv 0) (pa_cons (pe_bltn (v := .ty "bool") (by rfl) T.n_bool (by decide +kernel) rfl) pa_nil)))))))), ?_⟩
    dsimp only [cxOf, Cx.nox, Cx.wish, L2.start, List.map, List.cons_append, List.nil_append, List.length_cons, List.length_nil, Nat.reduceAdd, Nat.reduceSub, Nat.zero_add, List.replicate_succ, List.replicate_zero]
    walk_at "go"
    exact q
local macro_rules | `(tactic| walk_at "use") => `(tactic| with_reducible refine u_isint ?_)

def sp_l_cell (K : PySem.W.Frag) : Sp := fun vs H Q _ => ∃ (a : Addr) (ns : List Int) (k : Int), vs = [.ref a, .int k] ∧ SqL K H a (ns.map V.int) ∧ 0 ≤ k ∧ Q (.int (cell ns k)) H
theorem u_cell {a : Addr} {ns : List Int} {k : Int} {H Q E} (h : SqL K H a (ns.map V.int)) (h0 : 0 ≤ k) (q : Q (.int (cell ns k)) H) : sp_l_cell K ([.ref a, .int k] ++ []) H Q E := ⟨a, ns, k, rfl, h, h0, q⟩
theorem ok_l_cell (T : Txt K mg) : FnOk P w K mg base CX0 1 T.f_l_cell T.d_l_cell ["script", "k"] (sp_l_cell K) := by
  refine T.F_l_cell.ok sc_l_cell (fun vs H Q E h => ?_) (fun cdv A outer s H vs Q E hr h => ?_)
  · obtain ⟨a, ns, k, rfl, hS, h0, q⟩ := h
    rfl
  · obtain ⟨a, ns, k, rfl, hS, h0, q⟩ := h
    have hu := hu_of hr
    refine ⟨_, (pss_cons (ps_if (pt_cmpR op_lt (pv 1) (pe_callB call_len_seq (by rfl) T.n_len (by decide +kernel) (pa_cons (pv 0) pa_nil)) (nomark _)) (pss_one (ps_ret (pe_ix ix_list (pv 0) (pv 1) (fun _ _ => rfl)))) pss_nil)
        (pss_one (ps_ret pe_int))), ?_⟩
    dsimp only [cxOf, Cx.nox, Cx.wish, L2.start, List.map, List.cons_append, List.nil_append, List.length_cons, List.length_nil, Nat.reduceAdd, Nat.reduceSub, Nat.zero_add, List.replicate_succ, List.replicate_zero]
    walk_at "go"
    refine g_len (.inl hS) ?_
    walk_at "go"
    rw [List.length_map]
    refine g_ite (fun h => ?_) (fun h => ?_)
    · walk_at "go"
      refine g_ixL hS (atI_map h0 h) ?_
      exact q
    · walk_at "go"
      rw [cell_out h] at q
      exact q
local macro_rules | `(tactic| walk_at "use") => `(tactic| with_reducible refine u_cell (by assumption) (by decide) ?_)

def sp_l_start (K : PySem.W.Frag) : Sp := fun vs H Q _ => ∃ c k : Int, vs = [.int c, .int k] ∧ ∀ p n, H p = none → Q (.ref p) (upd H p (.lst [.int n]))
theorem u_start {c k : Int} {H Q E} (q : ∀ p n, H p = none → Q (.ref p) (upd H p (.lst [.int n]))) : sp_l_start K ([.int c, .int k] ++ []) H Q E := ⟨c, k, rfl, q⟩
theorem one_ok : 1 ≤ sizeLine := by decide
theorem abs_mod {a : Int} : (a % 618970019642690137449562111).natAbs < 2 ^ 89 := by omega
theorem ok_l_start (T : Txt K mg) : FnOk P w K mg base CX0 1 T.f_l_start T.d_l_start ["cell", "k"] (sp_l_start K) := by
  refine T.F_l_start.ok sc_l_start (fun vs H Q E h => ?_) (fun cdv A outer s H vs Q E hr h => ?_)
  · obtain ⟨c, k, rfl, q⟩ := h
    rfl
  · obtain ⟨c, k, rfl, q⟩ := h
    have hu := hu_of hr
    refine ⟨_, (pss_cons (ps_set (i := 2) sc_l_start.nd rfl (Or.inl rfl) pe_int)
        (pss_cons (ps_if (pt_chain op_lt op_lt (pe_un un_neg pe_int) (pv 0) pe_int) (pss_cons (ps_set (i := 3) sc_l_start.nd rfl (Or.inl rfl) (pe_op op_mod (pe_callTy call_int1 (by rfl) T.n_int (by decide +kernel) (pa_cons (pe_op op_add (pe_op op_mul (pv 0) pe_int) (pe_op op_mul (pe_op op_add (pv 1) pe_int) pe_int)) pa_nil)) (pv 2)))
        (pss_one (ps_ret (pe_lst (pa_cons (pe_op op_mod (pe_callTy call_int1 (by rfl) T.n_int (by decide +kernel) (pa_cons (pe_op op_add (pe_op op_add (pe_op op_mulW (pv 3) (pv 3)) (pe_op op_mul pe_int (pv 3))) (pv 1)) pa_nil)) (pv 2)) pa_nil))))) pss_nil)
        (pss_one (ps_ret (pe_lst (pa_cons (pv 0) pa_nil)))))), ?_⟩
    dsimp only [cxOf, Cx.nox, Cx.wish, L2.start, List.map, List.cons_append, List.nil_append, List.length_cons, List.length_nil, Nat.reduceAdd, Nat.reduceSub, Nat.zero_add, List.replicate_succ, List.replicate_zero]
    walk_at "go"
    refine g_ite (fun c1 => ?_) (fun c1 => ?_)
    · walk_at "go"
      refine g_ite (fun c2 => ?_) (fun c2 => ?_)
      · walk_at "go"
        refine g_rI (wide_mul abs_mod abs_mod (by decide) (by decide) (by decide)) ?_
        walk_at "go"
        exact ⟨one_ok, fun p hp => q p _ hp⟩
      · walk_at "go"
        exact ⟨one_ok, fun p hp => q p _ hp⟩
    · walk_at "go"
      exact ⟨one_ok, fun p hp => q p _ hp⟩
theorem lt8000 {m : Int} (h : m < 18446744073709551616) : m < 2 ^ 8000 := Int.lt_trans h (by decide +kernel)
def sp_l_digit (K : PySem.W.Frag) : Sp := fun vs H Q _ => ∃ (p : Addr) (n m : Int), vs = [.ref p, .int m] ∧ H p = some (.lst [.int n]) ∧ 0 < m ∧ m < 18446744073709551616 ∧ Q (.int (n % m)) (upd H p (.lst [.int (n / m)]))
theorem u_digit {p : Addr} {n m : Int} {H Q E} (h : H p = some (.lst [.int n])) (h0 : 0 < m) (h1 : m < 18446744073709551616) (q : Q (.int (n % m)) (upd H p (.lst [.int (n / m)]))) : sp_l_digit K ([.ref p, .int m] ++ []) H Q E := ⟨p, n, m, rfl, h, h0, h1, q⟩
theorem ok_l_digit (T : Txt K mg) : FnOk P w K mg base CX0 1 T.f_l_digit T.d_l_digit ["state", "many"] (sp_l_digit K) := by
  refine T.F_l_digit.ok sc_l_digit (fun vs H Q E h => ?_) (fun cdv A outer s H vs Q E hr h => ?_)
  · obtain ⟨p, n, m, rfl, hp, h0, h1, q⟩ := h
    rfl
  · obtain ⟨p, n, m, rfl, hp, h0, h1, q⟩ := h
    have hu := hu_of hr
    refine ⟨_, (pss_cons (ps_set (i := 2) sc_l_digit.nd rfl (Or.inl rfl) (pe_op op_mod (pe_callTy call_int1 (by rfl) T.n_int (by decide +kernel) (pa_cons (pe_ix ix_list (pv 0) pe_int (fun _ _ => rfl)) pa_nil)) (pv 1)))
        (pss_cons (ps_asg (pe_op op_fdivW (pe_ix ix_list (pv 0) pe_int (fun _ _ => rfl)) (pv 1)) (pg_sub (pv 0) pe_int set_list))
        (pss_one (ps_ret (pv 2))))), ?_⟩
    dsimp only [cxOf, Cx.nox, Cx.wish, L2.start, List.map, List.cons_append, List.nil_append, List.length_cons, List.length_nil, Nat.reduceAdd, Nat.reduceSub, Nat.zero_add, List.replicate_succ, List.replicate_zero]
    walk_at "go"
    refine g_ixL (sl hp) (at_of (j := 0) rfl rfl) ?_
    walk_at "go"
    refine g_ixL (sl hp) (at_of (j := 0) rfl rfl) ?_
    walk_at "go"
    refine g_rI (cdivW h0 (lt8000 h1)) ?_
    walk_at "go"
    refine g_setL (j := 0) hp rfl ?_
    walk_at "go"
    exact q

theorem dg2 {n : Int} : dg n 2 = [n / 256 % 256, n % 256] := by
  show [n / 256 ^ 1 % 256, n / 256 ^ 0 % 256] = _
  rw [Int.pow_one, Int.pow_zero, Int.ediv_one]
def sp_frame (K : PySem.W.Frag) (C : Addr) : Sp := fun vs H Q E => ∃ (a : Addr) (os : List Int), vs = [.ref a] ∧ SqL K H a (os.map V.int) ∧ ((os.length ≤ 65535 ∧ ∀ p H', H p = none → Same H H' → H' p = some (.lst ((fr os).map V.int)) → Q (.ref p) H') ∨ (65535 < os.length ∧ os.length ≤ 100000 ∧ E (.ref C) none H))
theorem ok_frame_message (T : Txt K mg) : FnOk P w K mg base (L2.CX P w) 2 T.f_frame_message T.d_frame_message ["octets"] (sp_frame K T.C_InvalidAmount) := by
  refine T.F_frame_message.okX sc_frame_message (fun vs H Q E h => ?_) (fun cdv A outer s H vs Q E hr h => ?_)
  · obtain ⟨a, os, rfl, hS, q⟩ := h
    rfl
  · obtain ⟨a, os, rfl, hS, q⟩ := h
    have hu := hu_of hr
    refine ⟨_, (pss_cons (ps_if (pt_cmpR op_gt (pe_callB call_len_seq (by rfl) T.n_len (by decide +kernel) (pa_cons (pv 0) pa_nil)) (pe_glob (v := .int 65535) (by rfl) T.v_MOST_OCTETS ⟨_, rfl⟩) (nomark _)) (pss_one (ps_rs rfl (takes_of rfl rfl rfl rfl) (pmk_1 PySem.F.excBase_ValueError T.xP_InvalidAmount T.c_InvalidAmount T.ke_InvalidAmount (raises_own T.be_InvalidAmount T.te_InvalidAmount) rfl (pe_joinedJ (.cons pe_str (.cons (pe_fmt (pe_callB call_len_seq (by rfl) T.n_len (by decide +kernel) (pa_cons (pv 0) pa_nil))) (.cons pe_str .nil))))))) pss_nil)
        (pss_one (ps_ret (pe_lst (StX.pa_star (pe_call (ok_write_number T) (hr.mono (by decide)) rfl T.m_write_number T.F_write_number.kp T.b_write_number .nil pass0 (pa_cons (pe_callB call_len_seq (by rfl) T.n_len (by decide +kernel) (pa_cons (pv 0) pa_nil)) (pa_cons (pe_glob (v := .int 2) (by rfl) T.v_HEAD ⟨_, rfl⟩) pa_nil))) (StX.pa_star (pv 0) pa_nil)))))), ?_⟩
    dsimp only [cxOf, Cx.nox, Cx.wish, L2.start, List.map, List.cons_append, List.nil_append, List.length_cons, List.length_nil, Nat.reduceAdd, Nat.reduceSub, Nat.zero_add, List.replicate_succ, List.replicate_zero]
    walk_at "go"
    refine g_len (.inl hS) ?_
    walk_at "go"
    rw [List.length_map]
    rcases q with ⟨h1, q⟩ | ⟨h1, h2, q⟩
    · refine g_dF (by omega) ?_
      walk_at "go"
      refine g_len (.inl hS) ?_
      walk_at "go"
      rw [List.length_map]
      intro p H1 hp s1 e1
      walk_at "go"
      refine ⟨p, _, rfl, .inr (sl e1), ?_⟩
      walk_at "go"
      refine ⟨a, _, rfl, .inr (s1.seq hS), ?_⟩
      walk_at "go"
      rw [show Int.toNat 2 = 2 from rfl, dg2]
      refine ⟨by rw [List.append_nil, List.length_append, List.length_map, List.length_map]; exact sz (by show 2 + _ ≤ _; omega), fun p2 hp2 => ?_⟩
      refine q p2 _ (s1.free hp2) (s1.trans (same_upd hp2)) ?_
      rw [upd_same, List.append_nil]
      rfl
    · refine g_dT (by omega) ?_
      walk_at "go"
      have e0 : Str.empty.length = 0 := by decide
      have e1 : (Str.ofString "a message of ").length = 13 := by decide +kernel
      have e2 : (Str.ofString " octets").length = 7 := by decide +kernel
      have e3 := itext (i := (os.length : Int)) (by omega)
      refine g_jsE (by walk_at "fit") ?_
      walk_at "go"
      refine g_len (.inl hS) ?_
      rw [List.length_map]
      refine g_fmtI (log_lt (by omega)) ?_
      refine g_jsE (by walk_at "fit") ?_
      walk_at "go"
      refine g_jsE (by walk_at "fit") ?_
      walk_at "go"
      exact q
def stopV (bs : List Int) (at_ : Nat) : V := if bs.length < at_ + 2 then .non else if (at_ : Int) + 2 + vl (seg bs at_ (at_ + 2)) ≤ bs.length then .int ((at_ : Int) + 2 + vl (seg bs at_ (at_ + 2))) else .non
def sp_stop (K : PySem.W.Frag) : Sp := fun vs H Q _ => ∃ (a : Addr) (bs : List Int) (at_ : Nat), vs = [.ref a, .int at_] ∧ SqL K H a (bs.map V.int) ∧ ∀ H', Same H H' → Q (stopV bs at_) H'
theorem cutV_seg {bs : List Int} {a b : Nat} (h : a ≤ b) (hb : b ≤ bs.length) : cutV (bs.map V.int) (some (a : Int)) (some (b : Int)) = (seg bs a b).map V.int := by
  unfold cutV seg
  rw [HT.sIx_nat, HT.sIx_nat, List.length_map, Nat.min_eq_left (by omega), Nat.min_eq_left (by omega), List.map_drop, List.map_take, List.drop_take]
theorem ok_stop_of_message (T : Txt K mg) : FnOk P w K mg base CX0 2 T.f_stop_of_message T.d_stop_of_message ["octets", "at"] (sp_stop K) := by
  refine T.F_stop_of_message.ok sc_stop_of_message (fun vs H Q E h => ?_) (fun cdv A outer s H vs Q E hr h => ?_)
  · obtain ⟨a, bs, at_, rfl, hS, q⟩ := h
    rfl
  · obtain ⟨a, bs, at_, rfl, hS, q⟩ := h
    have hu := hu_of hr
    refine ⟨_, (pss_cons (ps_if (pt_cmpR op_lt (pe_callB call_len_seq (by rfl) T.n_len (by decide +kernel) (pa_cons (pv 0) pa_nil)) (pe_op op_add (pv 1) (pe_glob (v := .int 2) (by rfl) T.v_HEAD ⟨_, rfl⟩)) (nomark _)) (pss_one (ps_ret pe_non)) pss_nil)
        (pss_cons (ps_set (i := 2) sc_stop_of_message.nd rfl (Or.inl rfl) (pe_op op_add (pe_op op_add (pv 1) (pe_glob (v := .int 2) (by rfl) T.v_HEAD ⟨_, rfl⟩)) (pe_call (ok_read_number T) (hr.mono (by decide)) rfl T.m_read_number T.F_read_number.kp T.b_read_number .nil pass0 (pa_cons (pe_slice sl_list (pv 0) (po_some (pv 1)) (po_some (pe_op op_add (pv 1) (pe_glob (v := .int 2) (by rfl) T.v_HEAD ⟨_, rfl⟩)))) pa_nil))))
        (pss_one (ps_ret (pe_ifExp (pt_cmpR op_le (pv 2) (pe_callB call_len_seq (by rfl) T.n_len (by decide +kernel) (pa_cons (pv 0) pa_nil)) (nomark _)) (pv 2) pe_non))))), ?_⟩
    dsimp only [cxOf, Cx.nox, Cx.wish, L2.start, List.map, List.cons_append, List.nil_append, List.length_cons, List.length_nil, Nat.reduceAdd, Nat.reduceSub, Nat.zero_add, List.replicate_succ, List.replicate_zero]
    walk_at "go"
    refine g_len (.inl hS) ?_
    walk_at "go"
    rw [List.length_map]
    unfold stopV at q
    refine g_ite (fun h => ?_) (fun h => ?_)
    · walk_at "go"
      rw [if_pos (by omega)] at q
      exact q _ (fun _ _ z => z)
    · rw [if_neg (by omega)] at q
      walk_at "go"
      refine g_slL hS fun l hl => ?_
      rw [show (at_ : Int) + 2 = ((at_ + 2 : Nat) : Int) by omega, cutV_seg (by omega) (by omega)]
      walk_at "go"
      refine u_read (sl upd_same) ?_
      walk_at "go"
      refine g_len (.inl ((same_upd hl).seq hS)) ?_
      walk_at "go"
      rw [List.length_map]
      rw [show ((at_ + 2 : Nat) : Int) = (at_ : Int) + 2 by omega]
      refine g_ite (fun h2 => ?_) (fun h2 => ?_)
      · rw [if_pos h2] at q
        walk_at "go"
        exact q _ (same_upd hl)
      · rw [if_neg h2] at q
        walk_at "go"
        exact q _ (same_upd hl)
/-- lists of ints at these addresses -/
def Lss (H : Hp) (qs : List Addr) (ms : List (List Int)) : Prop := qs.length = ms.length ∧ ∀ (i : Nat) (q : Addr) (m : List Int), qs[i]? = some q → ms[i]? = some m → H q = some (.lst (m.map V.int))
theorem Lss.nil {H : Hp} : Lss H [] [] := ⟨rfl, fun i q m h => by cases h⟩
theorem Lss.imp {H H' : Hp} {qs : List Addr} {ms : List (List Int)} (h : Lss H qs ms) (k : ∀ q o, q ∈ qs → H q = some o → H' q = some o) : Lss H' qs ms := ⟨h.1, fun i q m e1 e2 => k q _ (List.mem_of_getElem? e1) (h.2 i q m e1 e2)⟩
theorem Lss.snoc {H : Hp} {qs : List Addr} {ms : List (List Int)} {q : Addr} {m : List Int} (h : Lss H qs ms) (e : H q = some (.lst (m.map V.int))) : Lss H (qs ++ [q]) (ms ++ [m]) := by
  refine ⟨by rw [List.length_append, List.length_append, h.1]; rfl, fun i q' m' e1 e2 => ?_⟩
  by_cases c : i < qs.length
  · rw [List.getElem?_append_left c] at e1
    rw [List.getElem?_append_left (by rw [← h.1]; exact c)] at e2
    exact h.2 i q' m' e1 e2
  · rw [List.getElem?_append_right (by omega)] at e1
    rw [List.getElem?_append_right (by rw [← h.1]; omega), ← h.1] at e2
    have z : i - qs.length = 0 := by
      obtain ⟨z, _⟩ := List.getElem?_eq_some_iff.mp e1
      simp at z
      omega
    rw [z] at e1 e2
    injection e1 with e1
    injection e2 with e2
    subst e1 e2
    exact e
def MsO (C : Addr) (H : Hp) (o b : Addr) (bs : List Int) : Prop := ∃ dx, H o = some (.ins C dx (obj ky_Messages [.ref b])) ∧ H b = some (.lst (bs.map V.int))
def sp_Messages_init (C : Addr) : Sp := fun vs H Q _ => ∃ (o dx : Addr), vs = [.ref o] ∧ H o = some (.ins C dx []) ∧ ∀ b H', H b = none → But o H H' → MsO C H' o b [] → Q .non H'
theorem ok_Messages_init__ (T : Txt K mg) : FnOk P w K mg base CX0 1 T.f_Messages_init__ T.d_Messages_init__ ["self"] (sp_Messages_init T.C_Messages) := by
  refine T.F_Messages_init__.ok sc_Messages_init__ (fun vs H Q E h => ?_) (fun cdv A outer s H vs Q E hr h => ?_)
  · obtain ⟨o, dx, rfl, ho, q⟩ := h
    rfl
  · obtain ⟨o, dx, rfl, ho, q⟩ := h
    have hu := hu_of hr
    refine ⟨_, (pss_one (ps_fld (pv 0) (pe_lst pa_nil) rfl)), ?_⟩
    dsimp only [cxOf, Cx.nox, Cx.wish, L2.start, List.map, List.cons_append, List.nil_append, List.length_cons, List.length_nil, Nat.reduceAdd, Nat.reduceSub, Nat.zero_add, List.replicate_succ, List.replicate_zero]
    walk_at "go"
    refine ⟨by show 0 ≤ sizeLine; decide, fun b hb => ?_⟩
    have ho' : (upd H b (.lst [])) o = some (.ins T.C_Messages dx (obj ky_Messages [])) := (same_upd hb) _ _ ho
    walk_at "go"
    exact q b _ hb (But.of (same_upd hb)).upd ⟨dx, upd_same, by rw [upd_ne (ne_new ho hb).symm]; exact upd_same⟩
def sp_Messages_pending (C : Addr) : Sp := fun vs H Q _ => ∃ (o b : Addr) (bs : List Int), vs = [.ref o] ∧ MsO C H o b bs ∧ Q (.int (bs.length : Int)) H
theorem ok_Messages_pending (T : Txt K mg) : FnOk P w K mg base CX0 1 T.f_Messages_pending T.d_Messages_pending ["self"] (sp_Messages_pending T.C_Messages) := by
  refine T.F_Messages_pending.ok sc_Messages_pending (fun vs H Q E h => ?_) (fun cdv A outer s H vs Q E hr h => ?_)
  · obtain ⟨o, b, bs, rfl, ⟨dx, ho, hb⟩, q⟩ := h
    rfl
  · obtain ⟨o, b, bs, rfl, ⟨dx, ho, hb⟩, q⟩ := h
    have hu := hu_of hr
    refine ⟨_, (pss_one (ps_ret (pe_callB call_len_seq (by rfl) T.n_len (by decide +kernel) (pa_cons (pe_fld (pv 0) rfl) pa_nil)))), ?_⟩
    dsimp only [cxOf, Cx.nox, Cx.wish, L2.start, List.map, List.cons_append, List.nil_append, List.length_cons, List.length_nil, Nat.reduceAdd, Nat.reduceSub, Nat.zero_add, List.replicate_succ, List.replicate_zero]
    walk_at "go"
    refine g_len (.inl (sl hb)) ?_
    walk_at "go"
    rw [List.length_map]
    exact q
theorem xs_drop {ms : List (List Int)} {rest m : List Int} {i : Nat} (h : ms[i]? = some m) : (S ms ++ rest).drop (en ms i) = fr m ++ (S (ms.drop (i + 1)) ++ rest) := by
  obtain ⟨hl, e⟩ := List.getElem?_eq_some_iff.mp h
  rw [List.drop_append_of_le_length en_le, ← S_drop, List.drop_eq_getElem_cons hl, e, S_cons, List.append_assoc]
theorem stop_lt {ms : List (List Int)} {rest m : List Int} {i : Nat} (h : ms[i]? = some m) (hm : m.length < 65536) : stopV (S ms ++ rest) (en ms i) = .int (en ms (i + 1) : Nat) := by
  have e1 := en_succ h
  have e2 : en ms (i + 1) ≤ (S ms).length := en_le
  unfold stopV
  rw [if_neg (by rw [List.length_append]; omega)]
  have e3 : seg (S ms ++ rest) (en ms i) (en ms i + 2) = (fr m ++ (S (ms.drop (i + 1)) ++ rest)).take 2 := by
    unfold seg
    rw [List.drop_take, xs_drop h]
    congr 1
    omega
  rw [e3, vl_fr hm, if_pos (by rw [List.length_append]; omega)]
  congr 1
  omega
theorem seg_m {ms : List (List Int)} {rest m : List Int} {i : Nat} (h : ms[i]? = some m) : seg (S ms ++ rest) (en ms i + 2) (en ms (i + 1)) = m := by
  have e1 := en_succ h
  unfold seg
  rw [List.drop_take]
  have : (S ms ++ rest).drop (en ms i + 2) = m ++ (S (ms.drop (i + 1)) ++ rest) := by
    rw [← List.drop_drop, xs_drop h]
    rfl
  rw [this, show en ms (i + 1) - (en ms i + 2) = m.length by omega, List.take_left]
theorem stop_end {ms : List (List Int)} {rest : List Int} (h : Nost rest) : stopV (S ms ++ rest) (en ms ms.length) = .non := by
  unfold stopV
  rw [en_all]
  by_cases c : (S ms ++ rest).length < (S ms).length + 2
  · rw [if_pos c]
  · rw [if_neg c]
    rw [List.length_append] at c
    have e3 : seg (S ms ++ rest) (S ms).length ((S ms).length + 2) = rest.take 2 := by
      unfold seg
      rw [List.drop_take, List.drop_left]
      congr 1
      omega
    rw [e3, List.length_append]
    rcases h with h | h
    · omega
    · rw [if_neg (by omega)]
theorem msl : ∀ {ms : List (List Int)}, ms.length ≤ (S ms).length
  | [] => Nat.le_refl _
  | m :: ms => by
    rw [S_cons, List.length_append, List.length_cons, fr_len]
    have := msl (ms := ms)
    omega
def sp_feed (C : Addr) : Sp := fun vs H Q _ => ∃ (o b a : Addr) (bs os : List Int) (ms : List (List Int)) (rest : List Int), vs = [.ref o, .ref a] ∧ MsO C H o b bs ∧ H a = some (.lst (os.map V.int)) ∧ bs ++ os = S ms ++ rest ∧ Nost rest ∧ (∀ m ∈ ms, m.length < 65536) ∧ bs.length + os.length ≤ 50000 ∧
  ∀ (p : Addr) (qs : List Addr) (H' : Hp), H p = none → (∀ q, q ∈ qs → H q = none) → qs.Nodup → p ∉ qs → But b H H' → H' b = some (.lst (rest.map V.int)) → H' p = some (.lst (qs.map V.ref)) → Lss H' qs ms → Q (.ref p) H'
theorem ok_Messages_feed (T : Txt K mg) : FnOk P w K mg base CX0 3 T.f_Messages_feed T.d_Messages_feed ["self", "octets"] (sp_feed T.C_Messages) := by
  refine T.F_Messages_feed.ok sc_Messages_feed (fun vs H Q E h => ?_) (fun cdv A outer s H vs Q E hr h => ?_)
  · obtain ⟨o, b, a, bs, os, ms, rest, rfl, ⟨dx, ho, hb⟩, ha, ex, hn, hm, hl, q⟩ := h
    rfl
  · obtain ⟨o, b, a, bs, os, ms, rest, rfl, ⟨dx, ho, hb⟩, ha, ex, hn, hm, hl, q⟩ := h
    have hu := hu_of hr
    refine ⟨_, (pss_cons (ps_expr (pe_bm PySem.F.plainAttrs_list PySem.F.slot_list_extend PySem.F.type_list_extend mt_extend (pe_fld (pv 0) rfl) (pa_cons (pe_callTy call_list_of (by rfl) T.n_list (by decide +kernel) (pa_cons (pv 1) pa_nil)) pa_nil)))
        (pss_cons (ps_set (i := 2) sc_Messages_feed.nd rfl (Or.inl rfl) (pe_lst pa_nil))
        (pss_cons (ps_set (i := 3) sc_Messages_feed.nd rfl (Or.inl rfl) pe_int)
        (pss_cons (ps_set (i := 4) sc_Messages_feed.nd rfl (Or.inl rfl) (pe_call (ok_stop_of_message T) (hr.mono (by decide)) rfl T.m_stop_of_message T.F_stop_of_message.kp T.b_stop_of_message .nil pass0 (pa_cons (pe_fld (pv 0) rfl) (pa_cons (pv 3) pa_nil))))
        (pss_cons (ps_while PassesOwn.never (pt_cmpR op_notN (pv 4) pe_non (nomark _)) (pss_cons (ps_expr (pe_bm PySem.F.plainAttrs_list PySem.F.slot_list_append PySem.F.type_list_append mt_append (pv 2) (pa_cons (pe_slice sl_list (pe_fld (pv 0) rfl) (po_some (pe_op op_add (pv 3) (pe_glob (v := .int 2) (by rfl) T.v_HEAD ⟨_, rfl⟩))) (po_some (pv 4))) pa_nil)))
        (pss_cons (ps_set (i := 3) sc_Messages_feed.nd rfl (Or.inl rfl) (pv 4))
        (pss_one (ps_set (i := 4) sc_Messages_feed.nd rfl (Or.inl rfl) (pe_call (ok_stop_of_message T) (hr.mono (by decide)) rfl T.m_stop_of_message T.F_stop_of_message.kp T.b_stop_of_message .nil pass0 (pa_cons (pe_fld (pv 0) rfl) (pa_cons (pv 3) pa_nil))))))))
        (pss_cons (ps_delS (pe_fld (pv 0) rfl) (pv 3))
        (pss_one (ps_ret (pv 2))))))))), ?_⟩
    dsimp only [cxOf, Cx.nox, Cx.wish, L2.start, List.map, List.cons_append, List.nil_append, List.length_cons, List.length_nil, Nat.reduceAdd, Nat.reduceSub, Nat.zero_add, List.replicate_succ, List.replicate_zero]
    walk_at "go"
    refine ⟨ty_l hb, ?_⟩
    walk_at "go"
    refine ⟨a, _, rfl, .inl (sl ha), fun l hl1 => ?_⟩
    walk_at "go"
    generalize z1 : upd H l _ = H1
    have s1 : Same H H1 := by rw [← z1]; exact same_upd hl1
    have k1 : H1 l = some (.lst (os.map V.int)) := (congrFun z1 l).symm.trans upd_same
    clear z1
    refine ⟨b, l, _, _, rfl, rfl, s1 _ _ hb, k1, by rw [List.length_map, List.length_map]; exact sz (by omega), ?_⟩
    rw [← List.map_append, ex]
    have nbo : o ≠ b := fun z => by rw [z, hb] at ho; cases ho
    walk_at "go"
    generalize z2 : upd H1 b _ = H2
    have b2 : But b H H2 := by rw [← z2]; exact (But.of s1).upd
    have k2 : H2 b = some (.lst ((S ms ++ rest).map V.int)) := (congrFun z2 b).symm.trans upd_same
    clear z2
    refine ⟨by show 0 ≤ sizeLine; decide, fun p hp => ?_⟩
    walk_at "go"
    generalize z3 : upd H2 p _ = H3
    have s3 : Same H2 H3 := by rw [← z3]; exact same_upd hp
    have k3 : H3 p = some (.lst []) := (congrFun z3 p).symm.trans upd_same
    clear z3
    have e3 : H3 o = some (.ins T.C_Messages dx (obj ky_Messages [.ref b])) := s3 _ _ (b2 _ _ nbo ho)
    have hlen : (S ms ++ rest).length ≤ 50000 := by rw [← ex, List.length_append]; exact hl
    walk_at "go"
    refine ⟨b, S ms ++ rest, 0, rfl, sl (s3 _ _ k2), fun H4 s4 => ?_⟩
    walk_at "go"
    have npb : p ≠ b := fun z => by rw [z, k2] at hp; cases hp
    have np0 : H p = none := by
      cases e : H p with
      | none => rfl
      | some o' => rw [b2 _ _ npb e] at hp; cases hp
    have c4 : But b H H4 := (b2.trans (But.of s3)).trans (But.of s4)
    refine g_while (fun m0 σ' H' => ∃ (i : Nat) (qs : List Addr), m0 = ms.length - i ∧ i ≤ ms.length ∧ σ' = [some (.ref o), some (.ref a), some (.ref p), some (.int (en ms i : Nat)), some (stopV (S ms ++ rest) (en ms i))] ∧
      But b H H' ∧ H' b = some (.lst ((S ms ++ rest).map V.int)) ∧ H' p = some (.lst (qs.map V.ref)) ∧ Lss H' qs (ms.take i) ∧ (∀ q, q ∈ qs → H q = none) ∧ qs.Nodup ∧ p ∉ qs) ?start ?turn
    case start =>
      refine ⟨ms.length, 0, [], by omega, by omega, ?_, c4, s4 _ _ (s3 _ _ k2), s4 _ _ k3, ?_, (fun q z => nomatch z), List.nodup_nil, (fun z => nomatch z)⟩
      · rw [show en ms 0 = 0 by cases ms <;> rfl]
        rfl
      · rw [List.take_zero]
        exact Lss.nil
    case turn =>
      rintro m0 σ' H' ⟨i, qs, rfl, hi, rfl, c', kb, kp, hq, hf, hnd, hpq⟩
      by_cases hi2 : i < ms.length
      · have ei : ms[i]? = some (ms[i]) := List.getElem?_eq_getElem hi2
        have lm := hm _ (List.getElem_mem hi2)
        generalize ms[i] = mi at ei lm
        rw [stop_lt ei lm]
        have e1 := en_succ ei
        have e2 : en ms (i + 1) ≤ (S ms).length := en_le
        walk_at "go"
        refine ⟨fun σ' H' => ∃ qs, σ' = [some (.ref o), some (.ref a), some (.ref p), some (.int (en ms (i + 1) : Nat)), some (stopV (S ms ++ rest) (en ms (i + 1)))] ∧ But b H H' ∧ H' b = some (.lst ((S ms ++ rest).map V.int)) ∧ H' p = some (.lst (qs.map V.ref)) ∧ Lss H' qs (ms.take (i + 1)) ∧ (∀ q, q ∈ qs → H q = none) ∧ qs.Nodup ∧ p ∉ qs, fun σ1 H1 ⟨qs, h1, h2⟩ => ⟨ms.length - (i + 1), by omega, i + 1, qs, rfl, by omega, h1, h2⟩, ?_⟩
        walk_at "go"
        refine ⟨ty_l kp, ?_⟩
        have eo := c' _ _ nbo ho
        walk_at "go"
        refine g_slL (sl kb) fun lm1 hlm => ?_
        rw [show ((en ms i : Nat) : Int) + 2 = ((en ms i + 2 : Nat) : Int) by omega, cutV_seg (by omega) (by rw [List.length_append]; omega), seg_m ei]
        walk_at "go"
        generalize z5 : upd H' lm1 _ = H5
        have s5 : Same H' H5 := by rw [← z5]; exact same_upd hlm
        have k5 : H5 lm1 = some (.lst (mi.map V.int)) := (congrFun z5 lm1).symm.trans upd_same
        clear z5
        have nlp : lm1 ≠ p := fun z => by rw [z, kp] at hlm; cases hlm
        have nlb : lm1 ≠ b := fun z => by rw [z, kb] at hlm; cases hlm
        refine g_append (s5 _ _ kp) (by rw [List.length_map, hq.1, List.length_take]; exact szl (by have : (S ms).length ≤ 50000 := by { rw [List.length_append] at hlen; omega }; have := msl (ms := ms); omega)) ?_
        walk_at "go"
        generalize z6 : upd H5 p _ = H6
        have b6 : But p H5 H6 := by rw [← z6]; exact But.refl.upd
        have k6 : H6 p = some (.lst ((qs ++ [lm1]).map V.ref)) := by
          rw [← z6, upd_same, List.map_append]
          rfl
        clear z6
        have eo6 := b6 _ _ (fun z => by rw [z, kp] at eo; cases eo) (s5 _ _ eo)
        have kb6 := b6 _ _ (Ne.symm npb) (s5 _ _ kb)
        walk_at "go"
        refine ⟨b, S ms ++ rest, en ms (i + 1), rfl, sl kb6, fun H7 s7 => ?_⟩
        walk_at "go"
        have hpl : H lm1 = none := by
          cases e : H lm1 with
          | none => rfl
          | some o' => rw [c' _ _ nlb e] at hlm; cases hlm
        have lq : lm1 ∉ qs := fun z => by
          obtain ⟨j, hj⟩ := List.mem_iff_getElem?.mp z
          have : j < (ms.take i).length := by rw [← hq.1]; exact (List.getElem?_eq_some_iff.mp hj).1
          rw [hq.2 j _ _ hj (List.getElem?_eq_getElem this)] at hlm
          cases hlm
        refine ⟨qs ++ [lm1], rfl, ?_, s7 _ _ kb6, s7 _ _ k6, ?_, ?_, ?_, ?_⟩
        · intro b' o' nb e
          have np : b' ≠ p := fun z => by rw [z, np0] at e; cases e
          exact s7 _ _ (b6 _ _ np (s5 _ _ (c' _ _ nb e)))
        · rw [List.take_add_one, ei]
          refine Lss.snoc (hq.imp fun q' o' hq' e => s7 _ _ (b6 _ _ (fun z => hpq (z ▸ hq')) (s5 _ _ e))) (s7 _ _ (b6 _ _ nlp k5))
        · intro q' hq'
          rcases List.mem_append.mp hq' with z | z
          · exact hf _ z
          · rw [List.mem_singleton.mp z]
            exact hpl
        · refine List.nodup_append.mpr ⟨hnd, List.nodup_cons.mpr ⟨(fun z => nomatch z), List.nodup_nil⟩, ?_⟩
          intro x hx y hy e
          rw [List.mem_singleton.mp hy] at e
          exact lq (e ▸ hx)
        · intro z
          rcases List.mem_append.mp z with z | z
          · exact hpq z
          · exact nlp (List.mem_singleton.mp z).symm
      · have e : i = ms.length := by omega
        subst e
        rw [stop_end hn]
        have eo := c' _ _ nbo ho
        walk_at "go"
        refine g_delE kb (by omega) ?_
        walk_at "go"
        rw [List.take_length] at hq
        have nqb : ∀ q', q' ∈ qs → q' ≠ b := fun q' h z => by
          have := hf _ h
          rw [z, hb] at this
          cases this
        refine q p qs _ np0 hf hnd hpq c'.upd ?_ ?_ (hq.imp fun q' o' h e => by rw [upd_ne (nqb _ h)]; exact e)
        · rw [upd_same, Int.toNat_natCast, en_all, ← List.map_drop, List.drop_left]
        · rw [upd_ne npb]
          exact kp
end
end My
namespace My
open PySem PySem.Spec L2
local macro_rules | `(tactic| walk_at "side") => `(tactic| first | assumption | decide | omega | exact ⟨by decide, by decide⟩ | exact ⟨by decide, by decide, by decide⟩ | decide +kernel | exact cdivW (by decide +kernel) (by decide +kernel) | exact Or.inl ⟨by omega, by omega⟩ | exact Or.inr ⟨by omega, by omega⟩ | (simp only [List.length_map, List.length_cons, List.length_nil, List.length_append]; omega))
local macro_rules | `(tactic| walk_at "fact") => `(tactic| first | assumption | omega | with_reducible rfl)
local macro_rules | `(tactic| walk_at "use") => `(tactic| fail "use")
local macro_rules | `(tactic| walk_at "go1") => `(tactic| with_reducible first | refine g_seq ?_ | refine g_asg ?_ | refine g_ret ?_ | refine g_ifS ?_ | refine g_drop ?_ | refine g_star ?_ | refine g_nx ?_ | refine g_rt ?_ | refine g_bkE ?_ | refine g_ctE ?_ | refine g_next ?_ | refine g_retN ?_ | refine g_brk ?_ | refine g_ct ?_ | refine g_c ?_ | refine g_op ?_ | refine g_un ?_ | refine g_rI0 ?_ | refine g_rU ?_ | refine g_rEqI ?_ | refine g_rNeI ?_ | refine g_isN ?_ | refine g_rIsB ?_ | refine g_rNotB ?_ | refine g_test ?_ | refine g_B ?_ | refine g_bl ?_ | refine g_and ?_ | refine g_or ?_ | refine g_not ?_ | refine g_andV ?_ | refine g_orV ?_ | refine g_notV ?_ | refine g_if ?_ | refine g_chain ?_ | refine g_yes ?_ | refine g_lc ?_ | refine g_revR ?_ | refine g_rng1 ?_ | refine g_iList ?_ | refine g_nil ?_ | refine g_cons ?_ | refine g_tup ?_ | refine g_lst ?_ | refine g_call ?_ | refine g_CB ?_ | refine g_sl ?_ | refine g_noPart ?_ | refine g_part ?_ | refine g_intE ?_ | refine g_ref ?_ | refine g_fld ?_ | refine g_sfld ?_ | refine g_meth ?_ | refine g_make ?_ | refine g_prop ?_  | refine g_ipI ?_ | refine g_int1 ?_ | refine g_int1B ?_ | refine g_one ?_ | refine g_two ?_ | refine g_isiI ?_ | refine g_isiIB ?_ | refine g_isiB ?_ | refine g_BM ?_ | refine g_BM0 ?_ | refine g_sub ?_)
local macro_rules | `(tactic| walk_at "go") => `(tactic| repeat (first | walk_at "go1" | ((with_reducible refine' g_nameE ?sd_ ?_); case sd_ => dsimp only [List.set_cons_succ, List.set_cons_zero]) | ((with_reducible refine' g_var ?sd_ ?_); case sd_ => exact rfl) | ((with_reducible refine' g_aug ?sd_ ?_); case sd_ => exact rfl) | ((with_reducible refine' g_rI ?sd_ ?_); case sd_ => walk_at "side") | ((with_reducible refine' g_dT ?sd_ ?_); case sd_ => walk_at "fact") | ((with_reducible refine' g_dF ?sd_ ?_); case sd_ => walk_at "fact") | ((with_reducible refine' g_nT ?sd_ ?_); case sd_ => walk_at "fact") | ((with_reducible refine' g_nF ?sd_ ?_); case sd_ => walk_at "fact") | (with_reducible refine g_iT rfl ?_) | (with_reducible refine g_iF rfl ?_) | walk_at "use"))
local macro_rules | `(tactic| walk_at "use") => `(tactic| first | ((with_reducible refine' fd_Messages__begun ?ho_ ?hv_ ?_); (case ho_ => first | assumption | exact upd_same); (case hv_ => exact rfl)) | ((with_reducible refine' nw_Messages__begun ?ho_ ?hv_ ?_); (case ho_ => first | assumption | exact upd_same); (case hv_ => exact rfl)) | ((with_reducible refine' st_Messages__begun ?ho_ ?hv_ ?_); (case ho_ => first | assumption | exact upd_same); (case hv_ => exact Nat.le_of_ble_eq_true rfl)) | ((with_reducible refine' me_Messages_feed ?ho_ ?_); (case ho_ => first | assumption | exact upd_same)))
section
variable {P : Program} {w : World} {K : PySem.W.Frag} {mg : Str → Option Value} {base : Heap}
local macro_rules | `(tactic| walk_at "use") => `(tactic| with_reducible first | refine g_rs0 ?_ | refine g_rs1 ?_ | refine g_tryA ?_ | refine g_tryO ?_ | refine g_callS ?_ | refine g_joined ?_ | refine g_jsnil ?_ | refine g_jscons ?_ | refine g_fmt ?_)
local macro_rules | `(tactic| walk_at "fit") => `(tactic| (refine fit2 ?_; (try simp only [PySem.Str.length_append]); omega))
local macro_rules | `(tactic| walk_at "use") => `(tactic| first | ((with_reducible refine' g_addS ?sd_ ?_); case sd_ => (first | omega | (simp only [PySem.Str.length_append]; omega))) | ((with_reducible refine' g_slS ?sd_ ?_); case sd_ => omega) | (with_reducible refine g_m0 ?_))

local macro_rules | `(tactic| walk_at "use") => `(tactic| with_reducible refine u_isint ?_)
def sp_l_message (K : PySem.W.Frag) : Sp := fun vs H Q _ => ∃ (p : Addr) (n m : Int), vs = [.ref p, .int m] ∧ H p = some (.lst [.int n]) ∧ 0 < m ∧ m ≤ 100000 ∧ ∀ (q : Addr) (H' : Hp) (os : List Int) (n' : Int), H q = none → But p H H' → H' p = some (.lst [.int n']) → H' q = some (.lst (os.map V.int)) → (os.length : Int) < m → Q (.ref q) H'
theorem ok_l_message (T : Txt K mg) : FnOk P w K mg base CX0 2 T.f_l_message T.d_l_message ["state", "many"] (sp_l_message K) := by
  refine T.F_l_message.ok sc_l_message (fun vs H Q E h => ?_) (fun cdv A outer s H vs Q E hr h => ?_)
  · obtain ⟨p, n, m, rfl, hp, h0, h1, q⟩ := h
    rfl
  · obtain ⟨p, n, m, rfl, hp, h0, h1, q⟩ := h
    have hu := hu_of hr
    refine ⟨_, (pss_cons (ps_set (i := 2) sc_l_message.nd rfl (Or.inl rfl) (pe_call (ok_l_digit T) (hr.mono (by decide)) rfl T.m_l_digit T.F_l_digit.kp T.b_l_digit .nil pass0 (pa_cons (pv 0) (pa_cons (pv 1) pa_nil))))
        (pss_cons (ps_set (i := 3) sc_l_message.nd rfl (Or.inr rfl) (pe_call (ok_l_digit T) (hr.mono (by decide)) rfl T.m_l_digit T.F_l_digit.kp T.b_l_digit .nil pass0 (pa_cons (pv 0) (pa_cons pe_int pa_nil))))
        (pss_one (ps_ret (pe_lc (own := [("k", 4)]) (g := gName 4) (tt := tYes) rfl sc_l_message.nd (pi_range1 (by rfl) T.n_range (pa_cons (pv 2) pa_nil)) (blkOk_by (N := ["state", "many", "size", "base", "k"]) (sc := defScope s_l_message) (by decide +kernel)) (fun _ _ _ _ _ => (pg_name (i := 4) sc_l_message.nd rfl (Or.inl rfl))) (fun _ _ _ _ _ => pts_nil) (fun _ _ _ _ _ => (pe_op op_mod (pe_callTy call_int1 (by rfl) T.n_int (by decide +kernel) (pa_cons (pe_op op_add (pe_op op_add (pv 3) (pe_op op_mul pe_int (pv 4))) (pe_op op_fdiv (pv 4) pe_int)) pa_nil)) pe_int))))))), ?_⟩
    dsimp only [cxOf, Cx.nox, Cx.wish, L2.start, List.map, List.cons_append, List.nil_append, List.length_cons, List.length_nil, Nat.reduceAdd, Nat.reduceSub, Nat.zero_add, List.replicate_succ, List.replicate_zero]
    walk_at "go"
    refine u_digit hp h0 (by omega) ?_
    walk_at "go"
    refine u_digit upd_same (by decide) (by decide) ?_
    have d0 : 0 ≤ n % m := Int.emod_nonneg _ (by omega)
    have d1 : n % m < m := Int.emod_lt_of_pos _ h0
    generalize n % m = z at d0 d1
    generalize n / m = n1
    generalize n1 % 256 = bb
    generalize n1 / 256 = n2
    generalize z1 : upd (upd H p _) p _ = H1
    have b1 : But p H H1 := by rw [← z1]; exact But.refl.upd.upd
    have k1 : H1 p = some (.lst [.int n2]) := (congrFun z1 p).symm.trans upd_same
    clear z1
    walk_at "go"
    refine ⟨by omega, by omega, fun D hD => ?_⟩
    have nDp : D ≠ p := fun e => by rw [e, k1] at hD; cases hD
    refine lc_vals walk_range (((List.range z.toNat).map fun i : Nat => (bb + 3 * (0 + (i : Int)) + (0 + (i : Int)) / 7) % 256).map V.int) hD (by rw [List.length_map, List.length_map, List.length_range]) (fun _ _ => trivial) ?turn0 ?done0
    case turn0 =>
      rintro i x H2 H3 hi2 p2 ⟨rfl, rfl⟩
      refine ⟨rfl, ?_⟩
      walk_at "go"
      refine lc_next hD p2 (by rw [List.length_map, List.length_map, List.length_range]; omega) ?_
      rw [List.getElem?_map, List.getElem?_map, List.getElem?_range (show i < z.toNat from hi2)]
      rfl
    case done0 =>
    intro H3 s3 e3
    have hDn : H D = none := by
      cases e : H D with
      | none => rfl
      | some o => rw [b1 _ _ nDp e] at hD; cases hD
    exact q D H3 _ n2 hDn (b1.trans (But.of s3)) (s3 _ _ k1) e3 (by rw [List.length_map, List.length_range]; omega)
def sp_l_whole (K : PySem.W.Frag) : Sp := fun vs H Q _ => ∃ (pm : Addr) (rs : List Addr) (ms : List (List Int)) (c : Nat), vs = [.ref pm, .int c] ∧ H pm = some (.lst (rs.map V.ref)) ∧ Lss H rs ms ∧ rs.length ≤ 100 ∧ ∀ p H', H p = none → Same H H' → H' p = some (.lst ((rs.take (cnt ms c)).map V.ref)) → Q (.ref p) H'
theorem u_whole {pm : Addr} {rs : List Addr} {ms : List (List Int)} {c : Nat} {H Q E} (h : H pm = some (.lst (rs.map V.ref))) (h2 : Lss H rs ms) (h3 : rs.length ≤ 100) (q : ∀ p H', H p = none → Same H H' → H' p = some (.lst ((rs.take (cnt ms c)).map V.ref)) → Q (.ref p) H') : sp_l_whole K ([.ref pm, .int c] ++ []) H Q E := ⟨pm, rs, ms, c, rfl, h, h2, h3, q⟩
theorem ok_l_whole (T : Txt K mg) : FnOk P w K mg base CX0 1 T.f_l_whole T.d_l_whole ["messages", "count"] (sp_l_whole K) := by
  refine T.F_l_whole.ok sc_l_whole (fun vs H Q E h => ?_) (fun cdv A outer s H vs Q E hr h => ?_)
  · obtain ⟨pm, rs, ms, c, rfl, hpm, hL, hz, q⟩ := h
    rfl
  · obtain ⟨pm, rs, ms, c, rfl, hpm, hL, hz, q⟩ := h
    have hu := hu_of hr
    refine ⟨_, (pss_cons (ps_set (i := 2) sc_l_whole.nd rfl (Or.inl rfl) (pe_lst pa_nil))
        (pss_cons (ps_set (i := 3) sc_l_whole.nd rfl (Or.inl rfl) pe_int)
        (pss_cons (ps_for PassesOwn.never rfl (pi_list (pv 0)) (pg_name (i := 4) sc_l_whole.nd rfl (Or.inl rfl)) (pss_cons (ps_set (i := 3) sc_l_whole.nd rfl (Or.inl rfl) (pe_op op_add (pe_op op_add (pv 3) pe_int) (pe_callB call_len_seq (by rfl) T.n_len (by decide +kernel) (pa_cons (pv 4) pa_nil))))
        (pss_one (ps_if (pt_cmpR op_le (pv 3) (pv 1) (nomark _)) (pss_one (ps_expr (pe_bm PySem.F.plainAttrs_list PySem.F.slot_list_append PySem.F.type_list_append mt_append (pv 2) (pa_cons (pv 4) pa_nil)))) pss_nil))))
        (pss_one (ps_ret (pv 2)))))), ?_⟩
    dsimp only [cxOf, Cx.nox, Cx.wish, L2.start, List.map, List.cons_append, List.nil_append, List.length_cons, List.length_nil, Nat.reduceAdd, Nat.reduceSub, Nat.zero_add, List.replicate_succ, List.replicate_zero]
    walk_at "go"
    refine ⟨by show 0 ≤ sizeLine; decide, fun p hp => ?_⟩
    generalize z1 : upd H p _ = H1
    have s1 : Same H H1 := by rw [← z1]; exact same_upd hp
    have k1 : H1 p = some (.lst []) := (congrFun z1 p).symm.trans upd_same
    clear z1
    walk_at "go"
    have npm : pm ≠ p := ne_of_none hpm hp
    refine for_l (xs := rs.map V.ref) (fun i σ H' => ∃ v, σ = [some (.ref pm), some (.int c), some (.ref p), some (.int (en ms i : Nat)), v] ∧ But p H H' ∧ H' p = some (.lst ((rs.take (min i (cnt ms c))).map V.ref))) (sl (s1 _ _ hpm)) ?start (fun i σ H' _ ⟨v, _, bt, _⟩ => sl (bt _ _ npm hpm)) ?turn ?done ?ev
    case start =>
      refine ⟨none, ?_, But.of s1, by rw [Nat.zero_min, List.take_zero]; exact k1⟩
      rw [show en ms 0 = 0 by cases ms <;> rfl]
      rfl
    case ev =>
      intro R r
      walk_at "go"
      exact r
    case done =>
      rintro σ' H' ⟨v, rfl, bt, e⟩
      walk_at "go"
      refine q p H' hp (bt.same hp) ?_
      rw [e, List.length_map, hL.1, Nat.min_eq_right cnt_le]
    case turn =>
      rintro i x σ' H' hx ⟨v, rfl, bt, e⟩
      obtain ⟨r, hr, rfl⟩ : ∃ r, rs[i]? = some r ∧ x = .ref r := map_get hx
      have hi : i < ms.length := by rw [← hL.1]; exact (List.getElem?_eq_some_iff.mp hr).1
      have em : ms[i]? = some (ms[i]) := List.getElem?_eq_getElem hi
      generalize ms[i] = m at em
      have e1 := hL.2 i r m hr em
      have nrp : r ≠ p := ne_of_none e1 hp
      have es := en_succ em
      walk_at "go"
      refine g_len (.inl (sl (bt _ _ nrp e1))) ?_
      walk_at "go"
      rw [List.length_map, show ((en ms i : Nat) : Int) + 2 + (m.length : Int) = ((en ms (i + 1) : Nat) : Int) by omega]
      refine g_ite (fun h => ?_) (fun h => ?_)
      · have hc := (cnt_iff hi).mp (show en ms (i + 1) ≤ c by omega)
        walk_at "go"
        refine ⟨ty_l e, ?_⟩
        walk_at "go"
        refine g_append e (by rw [List.length_map, List.length_take]; exact szl (by omega)) ?_
        walk_at "go"
        refine ⟨_, rfl, bt.upd, ?_⟩
        rw [upd_same, Nat.min_eq_left (by omega), Nat.min_eq_left (by omega), List.take_add_one, hr, List.map_append]
        rfl
      · have hc : ¬ i < cnt ms c := fun z => h (by have := (cnt_iff hi).mpr z; omega)
        walk_at "go"
        refine ⟨_, rfl, bt, ?_⟩
        rw [e, Nat.min_eq_right (by omega), Nat.min_eq_right (by omega)]
def sp_l_same (K : PySem.W.Frag) : Sp := fun vs H Q _ => ∃ (p pd : Addr) (qs rs : List Addr) (ms : List (List Int)), vs = [.ref p, .ref pd] ∧ H p = some (.lst (qs.map V.ref)) ∧ H pd = some (.lst (rs.map V.ref)) ∧ Lss H qs ms ∧ Lss H rs ms ∧ qs.Nodup ∧ p ∉ qs ∧ pd ∉ qs ∧ (∀ r, r ∈ rs → r ∉ qs) ∧ (∀ m ∈ ms, m.length ≤ 65536) ∧ ms.length ≤ 100 ∧ ∀ H', (∀ b o, b ∉ qs → H b = some o → H' b = some o) → Q (.bl true) H'
theorem u_same {p pd : Addr} {qs rs : List Addr} {ms : List (List Int)} {H Q E} (h1 : H p = some (.lst (qs.map V.ref))) (h2 : H pd = some (.lst (rs.map V.ref))) (h3 : Lss H qs ms) (h4 : Lss H rs ms) (h5 : qs.Nodup) (h6 : p ∉ qs) (h7 : pd ∉ qs) (h8 : ∀ r, r ∈ rs → r ∉ qs) (h9 : ∀ m ∈ ms, m.length ≤ 65536) (h10 : ms.length ≤ 100) (q : ∀ H', (∀ b o, b ∉ qs → H b = some o → H' b = some o) → Q (.bl true) H') : sp_l_same K ([.ref p, .ref pd] ++ []) H Q E := ⟨p, pd, qs, rs, ms, rfl, h1, h2, h3, h4, h5, h6, h7, h8, h9, h10, q⟩
theorem ok_l_same (T : Txt K mg) : FnOk P w K mg base CX0 2 T.f_l_same T.d_l_same ["told", "due"] (sp_l_same K) := by
  refine T.F_l_same.ok sc_l_same (fun vs H Q E h => ?_) (fun cdv A outer s H vs Q E hr h => ?_)
  · obtain ⟨p, pd, qs, rs, ms, rfl, hp, hd, hq, hrr, nd, np, npd, nr, hm, hz, q⟩ := h
    rfl
  · obtain ⟨p, pd, qs, rs, ms, rfl, hp, hd, hq, hrr, nd, np, npd, nr, hm, hz, q⟩ := h
    have hu := hu_of hr
    refine ⟨_, (pss_cons (ps_if (PW.pt (pw_or (pt_not (pt_val (pe_callB call_isi (by rfl) T.n_isinstance (by decide +kernel) (pa_cons (pv 0) (pa_cons (pe_bltn (v := .ty "list") (by rfl) T.n_list (by decide +kernel) rfl) pa_nil))))) (pw_or1 (pt_cmpR op_ne (pe_callB call_len_seq (by rfl) T.n_len (by decide +kernel) (pa_cons (pv 0) pa_nil)) (pe_callB call_len_seq (by rfl) T.n_len (by decide +kernel) (pa_cons (pv 1) pa_nil)) (nomark _))))) (pss_one (ps_ret pe_bl)) pss_nil)
        (pss_cons (ps_for PassesOwn.never rfl (pi_range1 (by rfl) T.n_range (pa_cons (pe_callB call_len_seq (by rfl) T.n_len (by decide +kernel) (pa_cons (pv 1) pa_nil)) pa_nil)) (pg_name (i := 2) sc_l_same.nd rfl (Or.inl rfl)) (pss_cons (ps_if (PW.pt (pw_or (pt_not (pt_val (pe_callB call_isi (by rfl) T.n_isinstance (by decide +kernel) (pa_cons (pe_ix ix_list (pv 0) (pv 2) (fun _ _ => rfl)) (pa_cons (pe_bltn (v := .ty "list") (by rfl) T.n_list (by decide +kernel) rfl) pa_nil))))) (pw_or1 (pt_cmpR (op_neD hr.units) (pe_ix ix_list (pv 0) (pv 2) (fun _ _ => rfl)) (pe_ix ix_list (pv 1) (pv 2) (fun _ _ => rfl)) (nomark _))))) (pss_one (ps_ret pe_bl)) pss_nil)
        (pss_cons (ps_for PassesOwn.never rfl (pi_list (pe_ix ix_list (pv 0) (pv 2) (fun _ _ => rfl))) (pg_name (i := 3) sc_l_same.nd rfl (Or.inl rfl)) (pss_one (ps_if (pt_not (pt_val (pe_call (ok_l_is_integer T) (hr.mono (by decide)) rfl T.m_l_is_integer T.F_l_is_integer.kp T.b_l_is_integer .nil pass0 (pa_cons (pv 3) pa_nil)))) (pss_one (ps_ret pe_bl)) pss_nil)))
        (pss_one (ps_expr (pe_bm PySem.F.plainAttrs_list PySem.F.slot_list_append PySem.F.type_list_append mt_append (pe_ix ix_list (pv 0) (pv 2) (fun _ _ => rfl)) (pa_cons pe_int pa_nil)))))))
        (pss_one (ps_ret pe_bl)))), ?_⟩
    dsimp only [cxOf, Cx.nox, Cx.wish, L2.start, List.map, List.cons_append, List.nil_append, List.length_cons, List.length_nil, Nat.reduceAdd, Nat.reduceSub, Nat.zero_add, List.replicate_succ, List.replicate_zero]
    walk_at "go"
    refine g_isiL hp ?_
    walk_at "go"
    refine g_len (.inl (sl hp)) ?_
    walk_at "go"
    refine g_len (.inl (sl hd)) ?_
    walk_at "go"
    rw [List.length_map, List.length_map, hq.1, hrr.1]
    refine g_nF rfl ?_
    walk_at "go"
    refine for_r (n := (ms.length : Int)) ms.length (by omega) (by omega) (by omega) (fun i σ H' => ∃ v1 v2, σ = [some (.ref p), some (.ref pd), v1, v2] ∧ ∀ b o, b ∉ qs.take i → H b = some o → H' b = some o) ?start ?turn ?done ?ev
    case start => exact ⟨none, none, rfl, fun _ _ _ z => z⟩
    case ev =>
      intro R r
      walk_at "go"
      refine g_len (.inl (sl hd)) ?_
      rw [List.length_map, hrr.1]
      exact r
    case done =>
      rintro σ' H' ⟨v1, v2, rfl, k⟩
      walk_at "go"
      rw [← hq.1, List.take_length] at k
      exact q H' k
    case turn =>
      rintro i σ' H' hi ⟨v1, v2, rfl, k⟩
      have em : ms[i]? = some (ms[i]) := List.getElem?_eq_getElem hi
      have lm := hm _ (List.getElem_mem hi)
      generalize ms[i] = m at em lm
      have hiq : i < qs.length := by rw [hq.1]; exact hi
      have hir : i < rs.length := by rw [hrr.1]; exact hi
      have eq1 : qs[i]? = some (qs[i]) := List.getElem?_eq_getElem hiq
      have mq : qs[i] ∈ qs := List.getElem_mem hiq
      have mr : rs[i] ∈ rs := List.getElem_mem hir
      have er1 : rs[i]? = some (rs[i]) := List.getElem?_eq_getElem hir
      have nqt : qs[i] ∉ qs.take i := by
        intro z
        have h2 := List.take_append_drop i qs
        rw [← h2] at nd
        have := (List.nodup_append.mp nd).2.2 _ z (qs[i]) (by rw [List.drop_eq_getElem_cons hiq]; exact List.mem_cons_self ..)
        exact this rfl
      generalize qs[i] = qi at eq1 mq nqt
      generalize rs[i] = ri at er1 mr
      have tk : ∀ b, b ∉ qs → b ∉ qs.take i := fun b h z => h (List.mem_of_mem_take z)
      have ep := k _ _ (tk _ np) hp
      have ed := k _ _ (tk _ npd) hd
      have e1 := k _ _ nqt (hq.2 i _ _ eq1 em)
      have e2 := k _ _ (tk _ (nr _ mr)) (hrr.2 i _ _ er1 em)
      have gq : atI (qs.map V.ref) (i : Int) = some (.ref qi) := at_of rfl (by rw [List.getElem?_map, eq1]; rfl)
      have gr : atI (rs.map V.ref) (i : Int) = some (.ref ri) := at_of rfl (by rw [List.getElem?_map, er1]; rfl)
      walk_at "go"
      refine g_ixL (sl ep) gq ?_
      walk_at "go"
      refine g_isiL e1 ?_
      walk_at "go"
      refine g_ixL (sl ep) gq ?_
      walk_at "go"
      refine g_ixL (sl ed) gr ?_
      walk_at "go"
      refine g_neL (sl e1) (sl e2) ?_
      walk_at "go"
      refine for_l (xs := m.map V.int) (fun j σ H'' => H'' = H' ∧ ∃ v, σ = [some (.ref p), some (.ref pd), some (.int i), v]) (sl e1) ⟨rfl, v2, rfl⟩ (fun j σ H'' _ ⟨e, _⟩ => by rw [e]; exact sl e1) ?turn1 ?done1 ?ev1
      case ev1 =>
        intro R r
        walk_at "go"
        refine g_ixL (sl ep) gq ?_
        exact r
      case turn1 =>
        rintro j x σ'' _ hx ⟨rfl, v, rfl⟩
        obtain ⟨z, hz1, rfl⟩ := map_get hx
        walk_at "go"
        exact ⟨rfl, _, rfl⟩
      case done1 =>
        rintro σ'' _ ⟨rfl, v, rfl⟩
        walk_at "go"
        refine g_ixL (sl ep) gq ?_
        walk_at "go"
        refine ⟨ty_l e1, ?_⟩
        walk_at "go"
        refine g_append e1 (by rw [List.length_map]; exact szl (by omega)) ?_
        walk_at "go"
        refine ⟨_, _, rfl, fun b o nb e => ?_⟩
        rw [List.take_add_one, eq1] at nb
        rw [upd_ne (fun z => nb (List.mem_append_right _ (by rw [z]; exact List.mem_singleton.mpr rfl)))]
        exact k b o (fun z => nb (List.mem_append_left _ z)) e
theorem rep1 {k : Nat} : (List.replicate k [V.int 1]).flatten = (List.replicate k (1 : Int)).map V.int := by
  induction k with
  | zero => rfl
  | succ k ih =>
    rw [List.replicate_succ, List.replicate_succ, List.flatten_cons, ih]
    rfl
def sp_l_too_long (K : PySem.W.Frag) : Sp := fun vs H Q _ => ∃ (p : Addr) (n : Int), vs = [.ref p] ∧ H p = some (.lst [.int n]) ∧ ∀ H', Q (.bl true) H'
theorem ok_l_too_long (T : Txt K mg) : FnOk P w K mg base CX0 3 T.f_l_too_long T.d_l_too_long ["state"] (sp_l_too_long K) := by
  refine T.F_l_too_long.ok sc_l_too_long (fun vs H Q E h => ?_) (fun cdv A outer s H vs Q E hr h => ?_)
  · obtain ⟨p, n, rfl, hp, q⟩ := h
    rfl
  · obtain ⟨p, n, rfl, hp, q⟩ := h
    have hu := hu_of hr
    refine ⟨_, (pss_cons (ps_tryA (i := 1) rfl rfl sc_l_too_long.nd rfl rfl ⟨rfl, by decide, .inl T.c_InvalidAmount⟩ takes0 (fun W pn xe tk po_ => (pss_one (ps_expr (pe_callS (ok_frame_message T) (hr.mono (by decide)) rfl T.m_frame_message T.F_frame_message.kp T.b_frame_message (fun σ => passAt tk σ) (pa_cons (pe_op op_rep (pe_lst (pa_cons pe_int pa_nil)) (pe_op op_add pe_int (pe_call (ok_l_digit T) (hr.mono (by decide)) rfl T.m_l_digit T.F_l_digit.kp T.b_l_digit .nil pass0 (pa_cons (pv 0) (pa_cons pe_int pa_nil))))) pa_nil))))) (fun a oe cls d pn hz_ hf_ => (pss_one (ps_ret (pe_and (pe_callB (call_isE2 hz_ hf_) (by rfl) T.n_isinstance (by decide +kernel) (pa_cons (pv 1) (pa_cons (pe_glob (v := .ref T.C_ThroughlineError) (by rfl) T.c_ThroughlineError rfl) pa_nil))) (pe_one (pe_not (pe_callB (call_isE2 hz_ hf_) (by rfl) T.n_isinstance (by decide +kernel) (pa_cons (pv 1) (pa_cons (pe_glob (v := .ref T.C_InvalidFrame) (by rfl) T.c_InvalidFrame rfl) pa_nil))))))))))
        (pss_one (ps_ret pe_bl))), ?_⟩
    dsimp only [cxOf, Cx.nox, Cx.wish, L2.start, List.map, List.cons_append, List.nil_append, List.length_cons, List.length_nil, Nat.reduceAdd, Nat.reduceSub, Nat.zero_add, List.replicate_succ, List.replicate_zero]
    walk_at "go"
    refine ⟨by show 1 ≤ sizeLine; decide, fun l hl => ?_⟩
    walk_at "go"
    refine u_digit ((same_upd hl) _ _ hp) (by decide) (by decide) ?_
    have d0 : 0 ≤ n % 3 := Int.emod_nonneg _ (by decide)
    have d1 : n % 3 < 3 := Int.emod_lt_of_pos _ (by decide)
    have npl : l ≠ p := fun z => by rw [z, hp] at hl; cases hl
    walk_at "go"
    refine ⟨l, _, [.int 1], rfl, rfl, by rw [upd_ne npl]; exact upd_same, by omega, by omega, by rw [sizeLine_eq]; show 1 * _ ≤ _; omega, fun p2 hp2 => ?_⟩
    rw [rep1]
    walk_at "go"
    refine ⟨p2, _, rfl, sl upd_same, .inr ⟨?_, ?_, ?_⟩⟩
    · rw [List.length_replicate]
      omega
    · rw [List.length_replicate]
      omega
    · refine g_caught T.em_InvalidAmount_InvalidAmount fun e he => ?_
      dsimp only [List.set_cons_succ, List.set_cons_zero]
      walk_at "go"
      refine g_isER T.xc_InvalidAmount T.ko_InvalidAmount_ThroughlineError ?_
      walk_at "go"
      refine g_isER T.xc_InvalidAmount T.ko_InvalidAmount_InvalidFrame ?_
      walk_at "go"
      exact q _
end
end My
namespace My
open PySem PySem.Spec L2
local macro_rules | `(tactic| walk_at "side") => `(tactic| first | assumption | decide | omega | exact ⟨by decide, by decide⟩ | exact ⟨by decide, by decide, by decide⟩ | decide +kernel | exact cdivW (by decide +kernel) (by decide +kernel) | exact Or.inl ⟨by omega, by omega⟩ | exact Or.inr ⟨by omega, by omega⟩ | (simp only [List.length_map, List.length_cons, List.length_nil, List.length_append]; omega))
local macro_rules | `(tactic| walk_at "fact") => `(tactic| first | assumption | omega | with_reducible rfl)
local macro_rules | `(tactic| walk_at "use") => `(tactic| fail "use")
local macro_rules | `(tactic| walk_at "go1") => `(tactic| with_reducible first | refine g_seq ?_ | refine g_asg ?_ | refine g_ret ?_ | refine g_ifS ?_ | refine g_drop ?_ | refine g_star ?_ | refine g_nx ?_ | refine g_rt ?_ | refine g_bkE ?_ | refine g_ctE ?_ | refine g_next ?_ | refine g_retN ?_ | refine g_brk ?_ | refine g_ct ?_ | refine g_c ?_ | refine g_op ?_ | refine g_un ?_ | refine g_rI0 ?_ | refine g_rU ?_ | refine g_rEqI ?_ | refine g_rNeI ?_ | refine g_isN ?_ | refine g_rIsB ?_ | refine g_rNotB ?_ | refine g_test ?_ | refine g_B ?_ | refine g_bl ?_ | refine g_and ?_ | refine g_or ?_ | refine g_not ?_ | refine g_andV ?_ | refine g_orV ?_ | refine g_notV ?_ | refine g_if ?_ | refine g_chain ?_ | refine g_yes ?_ | refine g_lc ?_ | refine g_revR ?_ | refine g_rng1 ?_ | refine g_iList ?_ | refine g_nil ?_ | refine g_cons ?_ | refine g_tup ?_ | refine g_lst ?_ | refine g_call ?_ | refine g_CB ?_ | refine g_sl ?_ | refine g_noPart ?_ | refine g_part ?_ | refine g_intE ?_ | refine g_ref ?_ | refine g_fld ?_ | refine g_sfld ?_ | refine g_meth ?_ | refine g_make ?_ | refine g_prop ?_  | refine g_ipI ?_ | refine g_int1 ?_ | refine g_int1B ?_ | refine g_one ?_ | refine g_two ?_ | refine g_isiI ?_ | refine g_isiIB ?_ | refine g_isiB ?_ | refine g_BM ?_ | refine g_BM0 ?_ | refine g_sub ?_)
local macro_rules | `(tactic| walk_at "go") => `(tactic| repeat (first | walk_at "go1" | ((with_reducible refine' g_nameE ?sd_ ?_); case sd_ => dsimp only [List.set_cons_succ, List.set_cons_zero]) | ((with_reducible refine' g_var ?sd_ ?_); case sd_ => exact rfl) | ((with_reducible refine' g_aug ?sd_ ?_); case sd_ => exact rfl) | ((with_reducible refine' g_rI ?sd_ ?_); case sd_ => walk_at "side") | ((with_reducible refine' g_dT ?sd_ ?_); case sd_ => walk_at "fact") | ((with_reducible refine' g_dF ?sd_ ?_); case sd_ => walk_at "fact") | ((with_reducible refine' g_nT ?sd_ ?_); case sd_ => walk_at "fact") | ((with_reducible refine' g_nF ?sd_ ?_); case sd_ => walk_at "fact") | (with_reducible refine g_iT rfl ?_) | (with_reducible refine g_iF rfl ?_) | walk_at "use"))
local macro_rules | `(tactic| walk_at "use") => `(tactic| first | ((with_reducible refine' fd_Messages__begun ?ho_ ?hv_ ?_); (case ho_ => first | assumption | exact upd_same); (case hv_ => exact rfl)) | ((with_reducible refine' nw_Messages__begun ?ho_ ?hv_ ?_); (case ho_ => first | assumption | exact upd_same); (case hv_ => exact rfl)) | ((with_reducible refine' st_Messages__begun ?ho_ ?hv_ ?_); (case ho_ => first | assumption | exact upd_same); (case hv_ => exact Nat.le_of_ble_eq_true rfl)) | ((with_reducible refine' me_Messages_feed ?ho_ ?_); (case ho_ => first | assumption | exact upd_same)))
section
variable {P : Program} {w : World} {K : PySem.W.Frag} {mg : Str → Option Value} {base : Heap}
local macro_rules | `(tactic| walk_at "use") => `(tactic| with_reducible first | refine g_rs0 ?_ | refine g_rs1 ?_ | refine g_tryA ?_ | refine g_tryO ?_ | refine g_callS ?_ | refine g_joined ?_ | refine g_jsnil ?_ | refine g_jscons ?_ | refine g_fmt ?_)
local macro_rules | `(tactic| walk_at "fit") => `(tactic| (refine fit2 ?_; (try simp only [PySem.Str.length_append]); omega))
local macro_rules | `(tactic| walk_at "use") => `(tactic| first | ((with_reducible refine' g_addS ?sd_ ?_); case sd_ => (first | omega | (simp only [PySem.Str.length_append]; omega))) | ((with_reducible refine' g_slS ?sd_ ?_); case sd_ => omega) | (with_reducible refine g_m0 ?_))

local macro_rules | `(tactic| walk_at "use") => `(tactic| with_reducible first | refine u_isint ?_ | refine u_cell (by assumption) (by decide) ?_ | refine u_cell (by assumption) (by omega) ?_)
theorem Sbound {n : Nat} : ∀ {ms : List (List Int)}, (∀ m ∈ ms, m.length ≤ n) → (S ms).length ≤ ms.length * (n + 2)
  | [], _ => by rw [List.length_nil, Nat.zero_mul]; exact Nat.le_refl 0
  | m :: ms, h => by
    rw [S_cons, List.length_append, fr_len, List.length_cons, Nat.succ_mul]
    have := h m (List.mem_cons_self ..)
    have := Sbound (ms := ms) fun m hm => h m (List.mem_cons_of_mem _ hm)
    omega
/-- what the first loop keeps -/
def L1 (H H' : Hp) (ps : Addr) (n : Int) (pm po : Addr) (rs : List Addr) (ms : List (List Int)) (i : Nat) : Prop :=
  Same H H' ∧ H' ps = some (.lst [.int n]) ∧ H' pm = some (.lst (rs.map V.ref)) ∧ H' po = some (.lst ((S ms).map V.int)) ∧ Lss H' rs ms ∧ ms.length = i ∧ (∀ m ∈ ms, m.length ≤ 700) ∧ ps ≠ pm ∧ pm ∉ rs ∧ po ≠ pm ∧ ps ≠ po ∧ ps ∉ rs
theorem sum_en : ∀ {ms : List (List Int)} {c : Nat}, ((ms.take c).map fun m : List Int => (m.length : Int) + 2).sum = (en ms c : Int)
  | ms, 0 => by cases ms <;> rfl
  | [], _ + 1 => rfl
  | m :: ms, c + 1 => by
    show ((m.length : Int) + 2) + ((ms.take c).map fun m : List Int => (m.length : Int) + 2).sum = ((m.length + 2 + en ms c : Nat) : Int)
    rw [sum_en]
    omega
theorem cut_hi {xs : List V} {k : Nat} : cutV xs (some (k : Int)) none = xs.drop k := by
  unfold cutV
  rw [HT.sIx_none, HT.sIx_nat]
  rcases Nat.le_total k xs.length with z | z
  · rw [Nat.min_eq_left z, List.take_of_length_le (by rw [List.length_drop]; omega)]
  · rw [Nat.min_eq_right z, List.drop_of_length_le (Nat.le_refl _), List.drop_of_length_le z, List.take_nil]
theorem Lss.cut {H : Hp} {qs : List Addr} {ms : List (List Int)} {c d : Nat} (h : Lss H qs ms) : Lss H ((qs.take d).drop c) ((ms.take d).drop c) := by
  refine ⟨by simp only [List.length_drop, List.length_take, h.1], fun i q m e1 e2 => ?_⟩
  rw [List.getElem?_drop, List.getElem?_take] at e1 e2
  by_cases z : c + i < d
  · rw [if_pos z] at e1 e2
    exact h.2 _ q m e1 e2
  · rw [if_neg z] at e1
    cases e1
/-- what the second loop keeps -/
def L2 (C : Addr) (H H' : Hp) (ps ro rb pm po : Addr) (rs : List Addr) (ms : List (List Int)) (at_ : Nat) (n : Int) : Prop :=
  Same H H' ∧ H' ps = some (.lst [.int n]) ∧ MsO C H' ro rb (pend ms at_) ∧ H' pm = some (.lst (rs.map V.ref)) ∧ H' po = some (.lst ((S ms).map V.int)) ∧ Lss H' rs ms ∧ rb ≠ ps ∧ rb ≠ pm ∧ rb ≠ po ∧ rb ∉ rs ∧ ps ≠ pm ∧ ps ≠ po ∧ ps ∉ rs ∧ H rb = none ∧ H ps = none
def sp_law (K : PySem.W.Frag) : Sp := fun vs H Q _ => ∃ (a : Addr) (ns : List Int), vs = [.ref a] ∧ SqL K H a (ns.map V.int) ∧ ns.length ≤ 63 ∧ ∀ H', Q (.bl true) H'

theorem ok_law (T : Txt K mg) : FnOk P w K mg base CX0 4 T.f_law T.d_law ["script"] (sp_law K) := by
  refine T.F_law.ok sc_law (fun vs H Q E h => ?_) (fun cdv A outer s H vs Q E hr h => ?_)
  · obtain ⟨a, ns, rfl, hS, hlen, q⟩ := h
    rfl
  · obtain ⟨a, ns, rfl, hS, hlen, q⟩ := h
    have hu := hu_of hr
    refine ⟨_, (pss_cons (ps_set (i := 1) sc_law.nd rfl (Or.inl rfl) (pe_call (ok_l_start T) (hr.mono (by decide)) rfl T.m_l_start T.F_l_start.kp T.b_l_start .nil pass0 (pa_cons (pe_call (ok_l_cell T) (hr.mono (by decide)) rfl T.m_l_cell T.F_l_cell.kp T.b_l_cell .nil pass0 (pa_cons (pv 0) (pa_cons pe_int pa_nil))) (pa_cons pe_int pa_nil))))
        (pss_cons (ps_set (i := 2) sc_law.nd rfl (Or.inl rfl) (pe_ix ix_tup (pe_tup (pa_cons pe_int (pa_cons pe_int pa_nil))) (pe_callTy call_int1 (by rfl) T.n_int (by decide +kernel) (pa_cons (pe_cmpR op_eq (pe_call (ok_l_digit T) (hr.mono (by decide)) rfl T.m_l_digit T.F_l_digit.kp T.b_l_digit .nil pass0 (pa_cons (pv 1) (pa_cons pe_int pa_nil))) pe_int (nomark _)) pa_nil)) (fun _ _ => rfl)))
        (pss_cons (ps_set (i := 3) sc_law.nd rfl (Or.inl rfl) (pe_lst pa_nil))
        (pss_cons (ps_set (i := 4) sc_law.nd rfl (Or.inl rfl) (pe_lst pa_nil))
        (pss_cons (ps_for PassesOwn.never rfl (pi_range1 (by rfl) T.n_range (pa_cons (pe_call (ok_l_digit T) (hr.mono (by decide)) rfl T.m_l_digit T.F_l_digit.kp T.b_l_digit .nil pass0 (pa_cons (pv 1) (pa_cons pe_int pa_nil))) pa_nil)) (pg_name (i := 5) sc_law.nd rfl (Or.inl rfl)) (pss_cons (ps_set (i := 6) sc_law.nd rfl (Or.inl rfl) (pe_call (ok_l_message T) (hr.mono (by decide)) rfl T.m_l_message T.F_l_message.kp T.b_l_message .nil pass0 (pa_cons (pe_call (ok_l_start T) (hr.mono (by decide)) rfl T.m_l_start T.F_l_start.kp T.b_l_start .nil pass0 (pa_cons (pe_call (ok_l_cell T) (hr.mono (by decide)) rfl T.m_l_cell T.F_l_cell.kp T.b_l_cell .nil pass0 (pa_cons (pv 0) (pa_cons (pe_op op_add pe_int (pv 5)) pa_nil))) (pa_cons (pv 5) pa_nil))) (pa_cons (pv 2) pa_nil))))
        (pss_cons (ps_set (i := 7) sc_law.nd rfl (Or.inl rfl) (pe_callTy call_list_of (by rfl) T.n_list (by decide +kernel) (pa_cons (pv 6) pa_nil)))
        (pss_cons (ps_set (i := 8) sc_law.nd rfl (Or.inl rfl) (pe_call (ok_frame_message T) (hr.mono (by decide)) rfl T.m_frame_message T.F_frame_message.kp T.b_frame_message .nil passL (pa_cons (pv 7) pa_nil)))
        (pss_cons (ps_expr (pe_bm PySem.F.plainAttrs_list PySem.F.slot_list_append PySem.F.type_list_append mt_append (pv 7) (pa_cons pe_int pa_nil)))
        (pss_cons (ps_if (PW.pt (pw_or (pt_not (pt_val (pe_callB call_isi (by rfl) T.n_isinstance (by decide +kernel) (pa_cons (pv 8) (pa_cons (pe_bltn (v := .ty "list") (by rfl) T.n_list (by decide +kernel) rfl) pa_nil))))) (pw_or1 (pt_cmpR (op_neD hr.units) (pv 8) (pe_op op_cat (pe_lst (pa_cons (pe_op op_fdiv (pe_callB call_len_seq (by rfl) T.n_len (by decide +kernel) (pa_cons (pv 6) pa_nil)) pe_int) (pa_cons (pe_op op_mod (pe_callTy call_int1 (by rfl) T.n_int (by decide +kernel) (pa_cons (pe_callB call_len_seq (by rfl) T.n_len (by decide +kernel) (pa_cons (pv 6) pa_nil)) pa_nil)) pe_int) pa_nil))) (pv 6)) (nomark _))))) (pss_one (ps_ret pe_bl)) pss_nil)
        (pss_cons (ps_expr (pe_bm PySem.F.plainAttrs_list PySem.F.slot_list_append PySem.F.type_list_append mt_append (pv 3) (pa_cons (pv 6) pa_nil)))
        (pss_one (ps_set (i := 4) sc_law.nd rfl (Or.inl rfl) (pe_op op_cat (pv 4) (pv 8)))))))))))
        (pss_cons (ps_set (i := 9) sc_law.nd rfl (Or.inl rfl) (pe_callB call_len_seq (by rfl) T.n_len (by decide +kernel) (pa_cons (pv 4) pa_nil)))
        (C8.pss_cut (ps_if (pt_cmpR op_eq (pe_call (ok_l_digit T) (hr.mono (by decide)) rfl T.m_l_digit T.F_l_digit.kp T.b_l_digit .nil pass0 (pa_cons (pv 1) (pa_cons pe_int pa_nil))) pe_int (nomark _)) (pss_one (ps_set (i := 9) sc_law.nd rfl (Or.inl rfl) (pe_call (ok_l_digit T) (hr.mono (by decide)) rfl T.m_l_digit T.F_l_digit.kp T.b_l_digit .nil pass0 (pa_cons (pv 1) (pa_cons (pe_op op_add (pe_callB call_len_seq (by rfl) T.n_len (by decide +kernel) (pa_cons (pv 4) pa_nil)) pe_int) pa_nil))))) pss_nil)
        (pss_cons (ps_set (i := 10) sc_law.nd rfl (Or.inl rfl) (pe_make0 T.mk_Messages (ok_Messages_init__ T) (hr.mono (by decide)) rfl T.c_Messages T.b_Messages_init__ .nil pass0))
        (pss_cons (ps_set (i := 1) sc_law.nd rfl (Or.inl rfl) (pe_call (ok_l_start T) (hr.mono (by decide)) rfl T.m_l_start T.F_l_start.kp T.b_l_start .nil pass0 (pa_cons (pe_call (ok_l_cell T) (hr.mono (by decide)) rfl T.m_l_cell T.F_l_cell.kp T.b_l_cell .nil pass0 (pa_cons (pv 0) (pa_cons pe_int pa_nil))) (pa_cons pe_int pa_nil))))
        (pss_cons (ps_set (i := 11) sc_law.nd rfl (Or.inl rfl) pe_int)
        (pss_cons (ps_for PassesOwn.never rfl (pi_range1 (by rfl) T.n_range (pa_cons pe_int pa_nil)) (pg_name (i := 5) sc_law.nd rfl (Or.inl rfl)) (pss_cons (ps_set (i := 12) sc_law.nd rfl (Or.inl rfl) (pe_call (ok_l_digit T) (hr.mono (by decide)) rfl T.m_l_digit T.F_l_digit.kp T.b_l_digit .nil pass0 (pa_cons (pv 1) (pa_cons (pe_ix ix_tup (pe_tup (pa_cons pe_int (pa_cons pe_int (pa_cons (pe_op op_add (pe_op op_sub (pv 9) (pv 11)) pe_int) pa_nil)))) (pe_call (ok_l_digit T) (hr.mono (by decide)) rfl T.m_l_digit T.F_l_digit.kp T.b_l_digit .nil pass0 (pa_cons (pv 1) (pa_cons pe_int pa_nil))) (fun _ _ => rfl)) pa_nil))))
        (C8.pss_cut (ps_if (pt_cmpR op_eq (pv 5) pe_int (nomark _)) (pss_one (ps_set (i := 12) sc_law.nd rfl (Or.inl rfl) (pe_op op_sub (pv 9) (pv 11)))) pss_nil)
        (pss_cons (ps_set (i := 13) sc_law.nd rfl (Or.inl rfl) (pe_slice sl_list (pv 4) (po_some (pv 11)) (po_some (pe_callB (call_min2 rfl) (by rfl) T.n_min (by decide +kernel) (pa_cons (pe_op op_add (pv 11) (pv 12)) (pa_cons (pv 9) pa_nil))))))
        (pss_cons (ps_set (i := 14) sc_law.nd rfl (Or.inl rfl) (pe_call (ok_l_whole T) (hr.mono (by decide)) rfl T.m_l_whole T.F_l_whole.kp T.b_l_whole .nil pass0 (pa_cons (pv 3) (pa_cons (pv 11) pa_nil))))
        (pss_cons (ps_set (i := 11) sc_law.nd rfl (Or.inl rfl) (pe_op op_add (pv 11) (pe_callB call_len_seq (by rfl) T.n_len (by decide +kernel) (pa_cons (pv 13) pa_nil))))
        (pss_cons (ps_set (i := 15) sc_law.nd rfl (Or.inl rfl) (pe_slice sl_list (pe_call (ok_l_whole T) (hr.mono (by decide)) rfl T.m_l_whole T.F_l_whole.kp T.b_l_whole .nil pass0 (pa_cons (pv 3) (pa_cons (pv 11) pa_nil))) (po_some (pe_callB call_len_seq (by rfl) T.n_len (by decide +kernel) (pa_cons (pv 14) pa_nil))) po_none))
        (pss_cons (ps_set (i := 8) sc_law.nd rfl (Or.inl rfl) (pe_meth (pv 10) T.k_Messages T.a_Messages_feed (ok_Messages_feed T) (hr.mono (by decide)) T.b_Messages_feed .nil pass0 (pa_cons (pv 13) pa_nil)))
        (pss_cons (ps_expr (pe_bm PySem.F.plainAttrs_list PySem.F.slot_list_append PySem.F.type_list_append mt_append (pv 13) (pa_cons pe_int pa_nil)))
        (pss_cons (ps_set (i := 16) sc_law.nd rfl (Or.inl rfl) (pe_op op_sub (pv 11) (pe_callB (cr_sum rfl) (by rfl) T.n_sum (by decide +kernel) (pa_cons (pe_lc (own := [("message", 6)]) (g := gName 6) (tt := tYes) rfl sc_law.nd (pi_list (pe_call (ok_l_whole T) (hr.mono (by decide)) rfl T.m_l_whole T.F_l_whole.kp T.b_l_whole .nil pass0 (pa_cons (pv 3) (pa_cons (pv 11) pa_nil)))) (blkOk_by (N := ["script", "state", "many", "messages", "octets", "k", "message", "given", "told", "end", "reader", "at", "size", "part", "before", "due", "left"]) (sc := defScope s_law) (by decide +kernel)) (fun _ _ _ _ _ => (pg_name (i := 6) sc_law.nd rfl (Or.inl rfl))) (fun _ _ _ _ _ => pts_nil) (fun _ _ _ _ _ => (pe_op op_add (pe_callB (r := fun xs H Q => ∃ p ys, xs = [V.ref p] ∧ (SqL K H p ys ∨ SqT K H p ys) ∧ Q (.int ys.length) H) call_len_seq (by rfl) T.n_len (by decide +kernel) (pa_cons (pv 6) pa_nil)) pe_int))) pa_nil))))
        (pss_one (ps_if (PW.pt (pw_or (pt_not (pt_val (pe_call (ok_l_same T) (hr.mono (by decide)) rfl T.m_l_same T.F_l_same.kp T.b_l_same .nil pass0 (pa_cons (pv 8) (pa_cons (pv 15) pa_nil))))) (pw_or (pt_not (pt_val (pe_call (ok_l_is_integer T) (hr.mono (by decide)) rfl T.m_l_is_integer T.F_l_is_integer.kp T.b_l_is_integer .nil pass0 (pa_cons (pe_prop (pv 10) T.k_Messages T.p_Messages_pending (ok_Messages_pending T) (hr.mono (by decide)) T.b_Messages_pending .nil pass0 (by rfl)) pa_nil)))) (pw_or1 (pt_cmpR op_ne (pe_prop (pv 10) T.k_Messages T.p_Messages_pending (ok_Messages_pending T) (hr.mono (by decide)) T.b_Messages_pending .nil pass0 (by rfl)) (pv 16) (nomark _)))))) (pss_one (ps_ret pe_bl)) pss_nil))))))))))))
        (pss_one (ps_ret (pe_or (pe_cmpR op_gt (pe_call (ok_l_digit T) (hr.mono (by decide)) rfl T.m_l_digit T.F_l_digit.kp T.b_l_digit .nil pass0 (pa_cons (pv 1) (pa_cons pe_int pa_nil))) pe_int (nomark _)) (pe_one (pe_call (ok_l_too_long T) (hr.mono (by decide)) rfl T.m_l_too_long T.F_l_too_long.kp T.b_l_too_long .nil pass0 (pa_cons (pv 1) pa_nil))))))))))))))))), ?_⟩
    dsimp only [cxOf, Cx.nox, Cx.wish, L2.start, List.map, List.cons_append, List.nil_append, List.length_cons, List.length_nil, Nat.reduceAdd, Nat.reduceSub, Nat.zero_add, List.replicate_succ, List.replicate_zero]
    walk_at "go"
    refine u_start fun ps n0 hps => ?_
    walk_at "go"
    generalize z1 : upd H ps _ = H1
    have s1 : Same H H1 := by rw [← z1]; exact same_upd hps
    have k1 : H1 ps = some (.lst [.int n0]) := (congrFun z1 ps).symm.trans upd_same
    clear z1
    refine ⟨by show 2 ≤ sizeLine; decide, fun pt hpt => ?_⟩
    walk_at "go"
    have nps : ps ≠ pt := ne_of_none k1 hpt
    refine u_digit ((same_upd hpt) _ _ k1) (by decide) (by decide) ?_
    walk_at "go"
    generalize z2 : upd (upd H1 pt _) ps _ = H2
    have s2 : Same H H2 := by
      intro b o e
      have nb : b ≠ ps := ne_of_none e hps
      rw [← z2, upd_ne nb]
      exact (same_upd hpt) _ _ (s1 _ _ e)
    have k2 : H2 ps = some (.lst [.int (n0 / 4)]) := (congrFun z2 ps).symm.trans upd_same
    have t2 : H2 pt = some (.tup [.int 10, .int 701]) := by rw [← z2, upd_ne nps.symm]; exact upd_same
    clear z2
    obtain ⟨many, em, hm0, hm1⟩ : ∃ many : Int, atI [V.int 10, V.int 701] (if decide (n0 % 4 = 0) = true then 1 else 0) = some (.int many) ∧ 10 ≤ many ∧ many ≤ 701 := by
      by_cases c : n0 % 4 = 0
      · exact ⟨701, by rw [decide_eq_true c]; rfl, by decide, by decide⟩
      · exact ⟨10, by rw [decide_eq_false c]; rfl, by decide, by decide⟩
    refine g_ixT (st t2) em ?_
    walk_at "go"
    refine ⟨by show 0 ≤ sizeLine; decide, fun pm hpm => ?_⟩
    walk_at "go"
    refine ⟨by show 0 ≤ sizeLine; decide, fun po hpo => ?_⟩
    walk_at "go"
    generalize z3 : upd (upd H2 pm _) po _ = H3
    have s3 : Same H2 H3 := by rw [← z3]; exact (same_upd hpm).trans (same_upd hpo)
    have p3 : H3 pm = some (.lst []) := by rw [← z3]; exact (same_upd hpo) _ _ upd_same
    have o3 : H3 po = some (.lst []) := (congrFun z3 po).symm.trans upd_same
    have npp : pm ≠ po := fun z => by rw [z, upd_same] at hpo; cases hpo
    clear z3
    have nsm : ps ≠ pm := ne_of_none k2 hpm
    have nso : ps ≠ po := ne_of_none ((same_upd hpm) _ _ k2) hpo
    have k3 := s3 _ _ k2
    obtain ⟨N, eN, hN⟩ : ∃ N : Nat, n0 / 4 % 13 = (N : Int) ∧ N ≤ 12 := ⟨(n0 / 4 % 13).toNat, by omega, by omega⟩
    generalize z4 : upd H3 ps (.lst [.int (n0 / 4 / 13)]) = H4
    have s4 : Same H H4 := by
      intro b o e
      have nb : b ≠ ps := ne_of_none e hps
      rw [← z4, upd_ne nb]
      exact s3 _ _ (s2 _ _ e)
    have k4 : H4 ps = some (.lst [.int (n0 / 4 / 13)]) := (congrFun z4 ps).symm.trans upd_same
    have p4 : H4 pm = some (.lst []) := by rw [← z4, upd_ne nsm.symm]; exact p3
    have o4 : H4 po = some (.lst []) := by rw [← z4, upd_ne nso.symm]; exact o3
    refine g_for ?_
    walk_at "go"
    refine u_digit k3 (by decide) (by decide) ?_
    walk_at "go"
    rw [eN, z4]
    refine ⟨by omega, by omega, ?_⟩
    rw [Int.toNat_natCast]
    refine for_range (lo := 0) (fun i σ' H' => ∃ (rs : List Addr) (ms : List (List Int)) (po' : Addr) (v5 v6 v7 v8 : Option V), σ' = [some (.ref a), some (.ref ps), some (.int many), some (.ref pm), some (.ref po'), v5, v6, v7, v8, none, none, none, none, none, none, none, none] ∧ L1 H H' ps (n0 / 4 / 13) pm po' rs ms i) ?start1 ?turn1 ?done1
    case start1 => exact ⟨[], [], po, none, none, none, none, rfl, s4, k4, p4, o4, Lss.nil, rfl, (fun m z => nomatch z), nsm, (fun z => nomatch z), npp.symm, nso, (fun z => nomatch z)⟩
    case turn1 =>
      rintro i σ' H' hi ⟨rs, ms, po', v5, v6, v7, v8, rfl, l1, l2, l3, l4, l5, l6, l7, l8, l9, l10, l11, l12⟩
      have hS' := l1.seq hS
      walk_at "go"
      refine u_start fun p2 n2 hp2 => ?_
      walk_at "go"
      have s5 := same_upd (o := .lst [.int n2]) hp2
      refine ⟨p2, n2, many, rfl, upd_same, by omega, by omega, fun qm H6 os n6 hqm b6 k6 e6 lo => ?_⟩
      have s6 : Same H' H6 := fun b o e => b6 b o (ne_of_none e hp2) (s5 b o e)
      have f6 : H' qm = none := s5.free hqm
      walk_at "go"
      refine ⟨qm, _, rfl, .inl (sl e6), fun lg hlg => ?_⟩
      walk_at "go"
      generalize z7 : upd H6 lg _ = H7
      have s7 : Same H6 H7 := by rw [← z7]; exact same_upd hlg
      have k7 : H7 lg = some (.lst (os.map V.int)) := (congrFun z7 lg).symm.trans upd_same
      clear z7
      refine ⟨lg, os, rfl, sl k7, .inl ⟨by omega, fun lt H8 hlt s8 e8 => ?_⟩⟩
      walk_at "go"
      refine ⟨ty_l (s8 _ _ k7), ?_⟩
      walk_at "go"
      refine g_append (s8 _ _ k7) (by rw [List.length_map]; exact szl (by omega)) ?_
      generalize z9 : upd H8 lg _ = H9
      have b9 : But lg H8 H9 := by rw [← z9]; exact But.refl.upd
      clear z9
      have ng : ∀ {b o}, H6 b = some o → H9 b = some o := fun {b o} e => b9 _ _ (ne_of_none e hlg) (s8 _ _ (s7 _ _ e))
      have e9 : H9 lt = some (.lst ((fr os).map V.int)) := b9 _ _ (fun z => by rw [z, k7] at hlt; cases hlt) e8
      walk_at "go"
      refine g_isiL e9 ?_
      walk_at "go"
      refine g_len (.inl (sl (ng e6))) ?_
      walk_at "go"
      refine g_len (.inl (sl (ng e6))) ?_
      walk_at "go"
      rw [List.length_map]
      refine ⟨by show 2 ≤ sizeLine; decide, fun lx hlx => ?_⟩
      walk_at "go"
      have sx := same_upd (o := .lst [.int ((os.length : Int) / 256), .int ((os.length : Int) % 256)]) hlx
      refine g_cat upd_same (sx _ _ (ng e6)) (by rw [List.length_map]; exact sz (by show 2 + _ ≤ _; omega)) fun ly hly => ?_
      generalize zx : upd (upd H9 lx _) ly _ = H10
      have s10 : Same H9 H10 := by rw [← zx]; exact sx.trans (same_upd hly)
      have k10 : H10 ly = some (.lst ((fr os).map V.int)) := by
        refine (congrFun zx ly).symm.trans ?_
        rw [upd_same]
        congr 2
        show [V.int ((os.length : Int) / 256), V.int ((os.length : Int) % 256)] ++ os.map V.int = V.int ((os.length : Int) / 256 % 256) :: V.int ((os.length : Int) % 256) :: os.map V.int
        rw [show (os.length : Int) / 256 % 256 = (os.length : Int) / 256 by omega]
        rfl
      clear zx sx
      refine g_neL (sl (s10 _ _ e9)) (sl k10) ?_
      walk_at "go"
      have toH : ∀ {b o}, H' b = some o → H10 b = some o := fun {b o} e => s10 _ _ (ng (s6 _ _ e))
      have pm10 := toH l3
      refine ⟨ty_l pm10, ?_⟩
      walk_at "go"
      refine g_append pm10 (by rw [List.length_map, l5.1]; exact szl (by omega)) ?_
      walk_at "go"
      generalize z11 : upd H10 pm _ = H11
      have b11 : But pm H10 H11 := by rw [← z11]; exact But.refl.upd
      have k11 : H11 pm = some (.lst ((rs ++ [qm]).map V.ref)) := by
        rw [← z11, upd_same, List.map_append]
        rfl
      clear z11
      have nqm : qm ≠ pm := fun z => by rw [z, l3] at f6; cases f6
      have npp' : po' ≠ pm := fun z => l10 z
      have nlt : lt ≠ pm := fun z => by
        have : H7 pm = some _ := s7 _ _ (s6 _ _ l3)
        rw [z, this] at hlt
        cases hlt
      have po11 := b11 _ _ npp' (toH l4)
      refine g_cat po11 (b11 _ _ nlt (s10 _ _ e9)) (by rw [List.length_map, List.length_map, fr_len]; exact sz (by have := Sbound (ms := ms) (n := 701) (fun m hm => by have := l7 m hm; omega); have : ms.length * 703 ≤ 12 * 703 := Nat.mul_le_mul_right _ (by omega); omega)) fun lz hlz => ?_
      walk_at "go"
      generalize z12 : upd H11 lz _ = H12
      have s12 : Same H11 H12 := by rw [← z12]; exact same_upd hlz
      have k12 : H12 lz = some (.lst ((S (ms ++ [os])).map V.int)) := by
        rw [← z12, upd_same, ← List.map_append, S_app]
        show _ = some (HO.lst (List.map V.int (S ms ++ (fr os ++ []))))
        rw [List.append_nil]
      clear z12
      have hlz_ := hlz
      have toL_ : ∀ {o}, H' ps = some o → H11 ps = some o := fun {o} e => b11 _ _ nsm (toH e)
      have nslz : ps ≠ lz := fun z => by
        have := toL_ l2
        rw [z, hlz] at this
        cases this
      have nlz : lz ≠ pm := fun z => by rw [z, k11] at hlz; cases hlz
      have toL : ∀ {b o}, b ≠ pm → H' b = some o → H12 b = some o := fun {b o} n e => s12 _ _ (b11 _ _ n (toH e))
      refine ⟨rs ++ [qm], ms ++ [os], lz, _, _, _, _, rfl, ?_, toL nsm l2, s12 _ _ k11, k12, ?_, ?_, ?_, nsm, ?_, nlz, nslz, ?_⟩
      · intro b o e
        have n1 : b ≠ pm := ne_of_none e (s2.free hpm)
        exact toL n1 (l1 _ _ e)
      · refine Lss.snoc (l5.imp fun q' o' hq' e => toL (fun z => l9 (z ▸ hq')) e) (s12 _ _ (b11 _ _ nqm (s10 _ _ (ng e6))))
      · rw [List.length_append, l6]
        rfl
      · intro m hm
        rcases List.mem_append.mp hm with z | z
        · exact l7 m z
        · rw [List.mem_singleton.mp z]
          omega
      · intro z
        rcases List.mem_append.mp z with z | z
        · exact l9 z
        · exact nqm (List.mem_singleton.mp z).symm
      · intro z
        rcases List.mem_append.mp z with z | z
        · exact l12 z
        · rw [← List.mem_singleton.mp z, l2] at f6
          cases f6
    case done1 =>
    rintro σ' H' ⟨rs, ms, po', v5, v6, v7, v8, rfl, l1, l2, l3, l4, l5, l6, l7, l8, l9, l10, l11, l12⟩
    walk_at "go"
    have hms : ms.length ≤ 12 := by omega
    have l7_ := l7
    have lS : (S ms).length ≤ 12 * 703 := by
      have h1 := Sbound (ms := ms) (n := 701) (fun m hm => by have := l7 m hm; omega)
      have h2 : ms.length * 703 ≤ 12 * 703 := Nat.mul_le_mul_right _ hms
      omega
    have hS' := l1.seq hS
    refine g_len (.inl (sl l4)) ?_
    walk_at "go"
    rw [List.length_map]
    have nps' : ps ≠ po' := l11
    refine g_cut (fun σ2 H2 => ∃ e n : Nat, e ≤ (S ms).length ∧ σ2 = [some (.ref a), some (.ref ps), some (.int many), some (.ref pm), some (.ref po'), v5, v6, v7, v8, some (.int e), none, none, none, none, none, none, none] ∧ But ps H' H2) ?_ ?_
    · walk_at "go"
      refine u_digit l2 (by decide) (by decide) ?_
      walk_at "go"
      refine g_ite (fun h => ?_) (fun h => ?_)
      · walk_at "go"
        refine g_len (.inl (sl (by rw [upd_ne nps'.symm]; exact l4))) ?_
        walk_at "go"
        rw [List.length_map]
        refine u_digit upd_same (by omega) (by omega) ?_
        walk_at "go"
        have d0 := Int.emod_nonneg (n0 / 4 / 13 / 3) (show ((S ms).length : Int) + 1 ≠ 0 by omega)
        have d1 := Int.emod_lt_of_pos (n0 / 4 / 13 / 3) (show (0 : Int) < ((S ms).length : Int) + 1 by omega)
        refine ⟨(n0 / 4 / 13 / 3 % (((S ms).length : Int) + 1)).toNat, 0, by omega, ?_, But.refl.upd.upd⟩
        rw [Int.toNat_of_nonneg d0]
      · walk_at "go"
        exact ⟨(S ms).length, 0, Nat.le_refl _, rfl, But.refl.upd⟩
    rintro σ2 H2' ⟨e, _, he, rfl, bt⟩
    have sb : Same H H2' := fun b o z => bt _ _ (ne_of_none z hps) (l1 _ _ z)
    have pm2 := bt _ _ l8.symm l3
    have po2 := bt _ _ nps'.symm l4
    have L2' : Lss H2' rs ms := l5.imp fun q' o' hq' z => bt _ _ (fun w => l12 (w ▸ hq')) z
    walk_at "go"
    intro ro dx hro hdx ndx
    have m0 : (upd (upd H2' dx (.own ro)) ro (.ins T.C_Messages dx [])) ro = some (.ins T.C_Messages dx []) := upd_same
    refine ⟨ro, dx, rfl, m0, fun rb H5 hrb b5 mo => ⟨rfl, ?_⟩⟩
    have s5 : Same H2' H5 := by
      intro b o z
      have n1 : b ≠ ro := ne_of_none z hro
      refine b5 _ _ n1 ?_
      rw [upd_ne n1, upd_ne (ne_of_none z hdx)]
      exact z
    have hrb0 : H2' rb = none := by
      cases z : H2' rb with
      | none => rfl
      | some o =>
        have n1 : rb ≠ ro := ne_of_none z hro
        rw [upd_ne n1, upd_ne (ne_of_none z hdx), z] at hrb
        cases hrb
    have hS5 := (sb.trans s5).seq hS
    walk_at "go"
    refine u_start fun ps2 n2 hp2 => ?_
    walk_at "go"
    generalize z6 : upd H5 ps2 _ = H6
    have s6 : Same H5 H6 := by rw [← z6]; exact same_upd hp2
    have k6 : H6 ps2 = some (.lst [.int n2]) := (congrFun z6 ps2).symm.trans upd_same
    clear z6
    have fn : ∀ {x o}, H2' x = some o → x ≠ rb := fun {x o} z w => by rw [w, hrb0] at z; cases z
    have fp : ∀ {x o}, H2' x = some o → x ≠ ps2 := fun {x o} z w => by rw [w] at z; rw [s5 _ _ z] at hp2; cases hp2
    have frs : ∀ {x}, x ∈ rs → ∃ o, H2' x = some o := fun {x} hx => by
      obtain ⟨j, hj⟩ := List.mem_iff_getElem?.mp hx
      have hjl : j < ms.length := by rw [← L2'.1]; exact (List.getElem?_eq_some_iff.mp hj).1
      exact ⟨_, L2'.2 j _ _ hj (List.getElem?_eq_getElem hjl)⟩
    have nrp : rb ≠ ps2 := fun w => by
      obtain ⟨_, _, z⟩ := mo
      rw [w, hp2] at z
      cases z
    refine for_r (n := 21) 21 rfl (by decide) (by decide) (fun i σ' H' => ∃ (at_ : Nat) (n : Int) (v5 v6 v12 v13 v14 v8 v15 v16 : Option V), at_ ≤ e ∧ σ' = [some (.ref a), some (.ref ps2), some (.int many), some (.ref pm), some (.ref po'), v5, v6, v7, v8, some (.int e), some (.ref ro), some (.int at_), v12, v13, v14, v15, v16] ∧ L2 T.C_Messages H H' ps2 ro rb pm po' rs ms at_ n) ?start2 ?turn2 ?done2 ?ev2
    case start2 =>
      refine ⟨0, n2, _, _, _, _, _, _, _, _, Nat.zero_le _, rfl, (sb.trans s5).trans s6, k6, ?_, s6 _ _ (s5 _ _ pm2), s6 _ _ (s5 _ _ po2), L2'.imp fun q' o' _ z => s6 _ _ (s5 _ _ z), nrp, (fn pm2).symm, (fn po2).symm, (fun w => by obtain ⟨o, z⟩ := frs w; exact fn z rfl), (fp pm2).symm, (fp po2).symm, (fun w => by obtain ⟨o, z⟩ := frs w; exact fp z rfl), sb.free hrb0, (sb.trans s5).free hp2⟩
      obtain ⟨d, m1, m2⟩ := mo
      refine ⟨d, s6 _ _ m1, ?_⟩
      rw [s6 _ _ m2]
      have : pend ms 0 = [] := by
        apply List.eq_nil_of_length_eq_zero
        unfold pend
        rw [seg_len (Nat.zero_le _)]
        omega
      rw [this]
    case ev2 =>
      intro R r
      walk_at "go"
      exact r
    case done2 =>
      rintro σ' H' ⟨at_, n, v5, v6, v12, v13, v14, v8, v15, v16, ha, rfl, l1, l2, l3⟩
      walk_at "go"
      refine u_digit l2 (by decide) (by decide) ?_
      walk_at "go"
      refine g_ite (fun h => ?_) (fun h => ?_)
      · walk_at "go"
        exact q _
      · walk_at "go"
        exact ⟨ps2, _, rfl, upd_same, fun H' => q _⟩
    case turn2 =>
      rintro i σ' H' hi ⟨at_, n, v5, v6, v12, v13, v14, v8, v15, v16, ha, rfl, l1, l2, l3, l4, l5, l6, l7, l8, l9, l10, l11, l12, l13, l14, l15⟩
      walk_at "go"
      refine ⟨by show 3 ≤ sizeLine; decide, fun t ht => ?_⟩
      walk_at "go"
      have npt : ps2 ≠ t := ne_of_none l2 ht
      refine u_digit ((same_upd ht) _ _ l2) (by decide) (by decide) ?_
      generalize zt : upd (upd H' t _) ps2 _ = H7
      have b7 : But ps2 H' H7 := by rw [← zt]; exact (But.of (same_upd ht)).upd
      have k7 : H7 ps2 = some (.lst [.int (n / 3)]) := (congrFun zt ps2).symm.trans upd_same
      have t7 : H7 t = some (.tup [.int 3, .int 9, .int ((e : Int) - at_ + 1)]) := by rw [← zt, upd_ne npt.symm]; exact upd_same
      clear zt
      obtain ⟨z, ez, hz0, hz1⟩ : ∃ z : Int, atI [V.int 3, V.int 9, V.int ((e : Int) - at_ + 1)] (n % 3) = some (.int z) ∧ 0 < z ∧ z < 18446744073709551616 := by
        obtain c | c | c : n % 3 = 0 ∨ n % 3 = 1 ∨ n % 3 = 2 := by omega
        · rw [c]; exact ⟨3, rfl, by decide, by decide⟩
        · rw [c]; exact ⟨9, rfl, by decide, by decide⟩
        · rw [c]; exact ⟨_, rfl, by omega, by omega⟩
      refine g_ixT (st t7) ez ?_
      walk_at "go"
      refine u_digit k7 hz0 hz1 ?_
      walk_at "go"
      have hz2 : 0 ≤ n / 3 % z := Int.emod_nonneg _ (by omega)
      generalize n / 3 % z = sz0 at hz2
      generalize z8 : upd H7 ps2 _ = H8
      have b8 : But ps2 H' H8 := by rw [← z8]; exact b7.upd
      obtain ⟨n8, k8⟩ : ∃ n8, H8 ps2 = some (.lst [.int n8]) := ⟨_, (congrFun z8 ps2).symm.trans upd_same⟩
      clear z8
      refine g_cut (fun σ3 H3 => H8 = H3 ∧ ∃ y : Nat, σ3 = [some (.ref a), some (.ref ps2), some (.int many), some (.ref pm), some (.ref po'), some (.int i), v6, v7, v8, some (.int e), some (.ref ro), some (.int at_), some (.int y), v13, v14, v15, v16]) ?_ ?_
      · walk_at "go"
        refine g_ite (fun h => ?_) (fun h => ?_)
        · walk_at "go"
          exact ⟨rfl, e - at_, by rw [Int.ofNat_sub ha]⟩
        · walk_at "go"
          exact ⟨rfl, sz0.toNat, by rw [Int.toNat_of_nonneg hz2]⟩
      rintro σ3 _ ⟨rfl, y, rfl⟩
      have pm8 := b8 _ _ l11.symm l4
      have po8 := b8 _ _ l12.symm l5
      have L8 : Lss H8 rs ms := l6.imp fun q' o' hq' w => b8 _ _ (fun w' => l13 (w' ▸ hq')) w
      obtain ⟨dx0, m1, m2⟩ := l3
      have nro : ro ≠ ps2 := fun w => by rw [w, l2] at m1; cases m1
      have m18 := b8 _ _ nro m1
      have m28 := b8 _ _ l7 m2
      obtain ⟨b, eb, hab, hbe⟩ : ∃ b : Nat, (if (e : Int) < (at_ : Int) + (y : Int) then (e : Int) else (at_ : Int) + (y : Int)) = (b : Int) ∧ at_ ≤ b ∧ b ≤ e := by
        by_cases c : (e : Int) < (at_ : Int) + (y : Int)
        · exact ⟨e, by rw [if_pos c], ha, Nat.le_refl _⟩
        · exact ⟨at_ + y, by rw [if_neg c]; omega, by omega, by omega⟩
      have hbS : b ≤ (S ms).length := by omega
      walk_at "go"
      rw [eb]
      refine g_slL (sl po8) fun lp hlp => ?_
      rw [cutV_seg hab hbS]
      walk_at "go"
      generalize z9 : upd H8 lp _ = H9
      have s9 : Same H8 H9 := by rw [← z9]; exact same_upd hlp
      have k9 : H9 lp = some (.lst ((seg (S ms) at_ b).map V.int)) := (congrFun z9 lp).symm.trans upd_same
      clear z9
      have hrs : rs.length ≤ 100 := by rw [l6.1]; omega
      refine u_whole (s9 _ _ pm8) (L8.imp fun _ _ _ w => s9 _ _ w) hrs fun lb H10 hlb s10 e10 => ?_
      walk_at "go"
      refine g_len (.inl (sl (s10 _ _ k9))) ?_
      walk_at "go"
      rw [List.length_map, seg_len hbS, show (at_ : Int) + ((b - at_ : Nat) : Int) = (b : Int) by omega]
      refine u_whole (s10 _ _ (s9 _ _ pm8)) (L8.imp fun _ _ _ w => s10 _ _ (s9 _ _ w)) hrs fun lw H11 hlw s11 e11 => ?_
      walk_at "go"
      refine g_len (.inl (sl (s11 _ _ e10))) ?_
      walk_at "go"
      have ccl : cnt ms at_ ≤ rs.length := by rw [l6.1]; exact cnt_le
      rw [List.length_map, List.length_take, Nat.min_eq_left ccl]
      refine g_slL (sl e11) fun ld hld => ?_
      rw [cut_hi, ← List.map_drop]
      generalize z12 : upd H11 ld _ = H12
      have s12 : Same H11 H12 := by rw [← z12]; exact same_upd hld
      have k12 : H12 ld = some (.lst (((rs.take (cnt ms b)).drop (cnt ms at_)).map V.ref)) := (congrFun z12 ld).symm.trans upd_same
      clear z12
      have s812 : Same H8 H12 := ((s9.trans s10).trans s11).trans s12
      have m112 := s812 _ _ m18
      walk_at "go"
      refine ⟨ro, rb, lp, pend ms at_, seg (S ms) at_ b, (ms.take (cnt ms b)).drop (cnt ms at_), pend ms b, rfl, ⟨dx0, s812 _ _ m18, s812 _ _ m28⟩, s12 _ _ (s11 _ _ (s10 _ _ k9)), pend_feed hab hbS, pend_nost (fun m hm => by have := l7_ m hm; omega) hbS, fun m hm => by have := l7_ m (List.mem_of_mem_take (List.mem_of_mem_drop hm)); omega, ?_, fun p qs H13 hp hq nd pq b13 kb kp hL => ?_⟩
      · rw [seg_len hbS]
        have : (pend ms at_).length = at_ - en ms (cnt ms at_) := seg_len (by omega)
        omega
      have nlpb : lp ≠ rb := fun w => by rw [w, m28] at hlp; cases hlp
      have fq : ∀ {x o}, H12 x = some o → x ∉ qs := fun {x o} z w => by rw [hq _ w] at z; cases z
      have lp13 := b13 _ _ nlpb (s12 _ _ (s11 _ _ (s10 _ _ k9)))
      walk_at "go"
      refine ⟨ty_l lp13, ?_⟩
      walk_at "go"
      refine g_append lp13 (by rw [List.length_map, seg_len hbS]; exact szl (by omega)) ?_
      walk_at "go"
      generalize z14 : upd H13 lp _ = H14
      have b14 : But lp H13 H14 := by rw [← z14]; exact But.refl.upd
      clear z14
      have c14 : ∀ {x o}, x ≠ rb → H8 x = some o → H14 x = some o := fun {x o} nx z => b14 _ _ (ne_of_none z hlp) (b13 _ _ nx (s812 _ _ z))
      have fr8 : ∀ {x}, x ∈ rs → ∃ o, H8 x = some o := fun {x} hx => by
        obtain ⟨j, hj⟩ := List.mem_iff_getElem?.mp hx
        have hjl : j < ms.length := by rw [← L8.1]; exact (List.getElem?_eq_some_iff.mp hj).1
        exact ⟨_, L8.2 j _ _ hj (List.getElem?_eq_getElem hjl)⟩
      have L14 : Lss H14 rs ms := L8.imp fun q' o' hq' z => c14 (fun w => l10 (w ▸ hq')) z
      have kb14 : H14 rb = some (.lst ((pend ms b).map V.int)) := b14 _ _ nlpb.symm kb
      have npl : p ≠ lp := fun w => by rw [w, s12 _ _ (s11 _ _ (s10 _ _ k9))] at hp; cases hp
      have kp14 := b14 _ _ npl kp
      have lpq : lp ∉ qs := fq (s12 _ _ (s11 _ _ (s10 _ _ k9)))
      have hL14 : Lss H14 qs _ := hL.imp fun q' o' hq' z => b14 _ _ (fun w => lpq (w ▸ hq')) z
      have ldl : ld ≠ lp := fun w => by rw [w, s11 _ _ (s10 _ _ k9)] at hld; cases hld
      have ldb : ld ≠ rb := fun w => by rw [w, s11 _ _ (s10 _ _ (s9 _ _ m28))] at hld; cases hld
      have kd14 : H14 ld = some _ := b14 _ _ ldl (b13 _ _ ldb k12)
      have mr14 := c14 (show ro ≠ rb from fun w => by rw [w, m28] at m18; cases m18) m18
      refine u_whole (c14 l8.symm pm8) L14 hrs fun lv H15 hlv s15 e15 => ?_
      walk_at "go"
      refine ⟨⟨_, sl e15⟩, fun D hD => ?_⟩
      refine lc_vals walk_list (((ms.take (cnt ms b)).map fun m : List Int => (m.length : Int) + 2).map V.int) hD (by rw [List.length_map, List.length_map, List.length_map, List.length_take, List.length_take, L8.1]) (fun H s => s.seq (sl e15)) ?turn3 ?done3
      case turn3 =>
        rintro j x Hj Hj' hj pj ⟨rfl, hx⟩
        obtain ⟨r, hr', rfl⟩ : ∃ r, (rs.take (cnt ms b))[j]? = some r ∧ x = .ref r := map_get hx
        rw [List.getElem?_take] at hr'
        have hjc : j < cnt ms b := by
          by_cases w : j < cnt ms b
          · exact w
          · rw [if_neg w] at hr'; cases hr'
        rw [if_pos hjc] at hr'
        have hjl : j < ms.length := by rw [← L8.1]; exact (List.getElem?_eq_some_iff.mp hr').1
        have em' : ms[j]? = some (ms[j]) := List.getElem?_eq_getElem hjl
        have e1 := pj.1 _ _ (s15 _ _ (L14.2 j _ _ hr' em'))
        refine ⟨rfl, ?_⟩
        walk_at "go"
        refine g_len (.inl (sl e1)) ?_
        walk_at "go"
        rw [List.length_map]
        refine lc_next hD pj (by rw [List.length_map, List.length_map, List.length_take]; omega) ?_
        rw [List.getElem?_map, List.getElem?_map, List.getElem?_take, if_pos hjc, em']
        rfl
      case done3 =>
      intro H16 s16 e16
      walk_at "go"
      refine g_sum (sl e16) ?_
      rw [sum_en]
      walk_at "go"
      have s46 : Same H14 H16 := s15.trans s16
      have ldq : ld ∉ qs := fq k12
      refine u_same (s46 _ _ kp14) (s46 _ _ kd14) (hL14.imp fun _ _ _ w => s46 _ _ w) ((L14.cut).imp fun _ _ _ w => s46 _ _ w) nd pq ldq (fun r hr' w => ?_) (fun m hm => by have := l7_ m (List.mem_of_mem_take (List.mem_of_mem_drop hm)); omega) (by rw [List.length_drop, List.length_take]; omega) fun H17 s17 => ?_
      · obtain ⟨o, z⟩ := fr8 (List.mem_of_mem_take (List.mem_of_mem_drop hr'))
        exact fq (s812 _ _ z) w
      have c17 : ∀ {x o}, x ≠ rb → H8 x = some o → H17 x = some o := fun {x o} nx z => s17 _ _ (fq (s812 _ _ z)) (s46 _ _ (c14 nx z))
      have rbq : rb ∉ qs := fq (s812 _ _ m28)
      have kb17 := s17 _ _ rbq (s46 _ _ kb14)
      have mr17 := s17 _ _ (fq m112) (s46 _ _ mr14)
      walk_at "go"
      refine ⟨ro, _, _, rfl, mr17, ro, rb, pend ms b, rfl, ⟨dx0, mr17, kb17⟩, ?_⟩
      walk_at "go"
      refine ⟨ro, _, _, rfl, mr17, ro, rb, pend ms b, rfl, ⟨dx0, mr17, kb17⟩, ?_⟩
      walk_at "go"
      have lpn : ((pend ms b).length : Int) = (b : Int) - (en ms (cnt ms b) : Int) := by
        have h1 : (pend ms b).length = b - en ms (cnt ms b) := seg_len hbS
        have h2 := cnt_en (ms := ms) (c := b)
        omega
      rw [lpn]
      refine g_nF rfl ?_
      walk_at "go"
      have fullS : Same H H17 := fun b' o z => by
        have n1 : b' ≠ ps2 := ne_of_none z l15
        have n2 : b' ≠ rb := ne_of_none z l14
        exact c17 n2 (b8 _ _ n1 (l1 _ _ z))
      have ps17 : H17 ps2 = some (.lst [.int n8]) := c17 l7.symm k8
      refine ⟨b, n8, _, _, _, _, _, _, _, _, hbe, rfl, fullS, ps17, ⟨dx0, mr17, kb17⟩, c17 l8.symm pm8, c17 l9.symm po8, L8.imp fun q' o' hq' z => c17 (fun w => l10 (w ▸ hq')) z, l7, l8, l9, l10, l11, l12, l13, l14, l15⟩
end
end My
namespace My
open PySem PySem.Spec L2
local macro_rules | `(tactic| walk_at "side") => `(tactic| first | assumption | decide | omega | exact ⟨by decide, by decide⟩ | exact ⟨by decide, by decide, by decide⟩ | decide +kernel | exact cdivW (by decide +kernel) (by decide +kernel) | exact Or.inl ⟨by omega, by omega⟩ | exact Or.inr ⟨by omega, by omega⟩ | (simp only [List.length_map, List.length_cons, List.length_nil, List.length_append]; omega))
local macro_rules | `(tactic| walk_at "fact") => `(tactic| first | assumption | omega | with_reducible rfl)
local macro_rules | `(tactic| walk_at "use") => `(tactic| fail "use")
local macro_rules | `(tactic| walk_at "go1") => `(tactic| with_reducible first | refine g_seq ?_ | refine g_asg ?_ | refine g_ret ?_ | refine g_ifS ?_ | refine g_drop ?_ | refine g_star ?_ | refine g_nx ?_ | refine g_rt ?_ | refine g_bkE ?_ | refine g_ctE ?_ | refine g_next ?_ | refine g_retN ?_ | refine g_brk ?_ | refine g_ct ?_ | refine g_c ?_ | refine g_op ?_ | refine g_un ?_ | refine g_rI0 ?_ | refine g_rU ?_ | refine g_rEqI ?_ | refine g_rNeI ?_ | refine g_isN ?_ | refine g_rIsB ?_ | refine g_rNotB ?_ | refine g_test ?_ | refine g_B ?_ | refine g_bl ?_ | refine g_and ?_ | refine g_or ?_ | refine g_not ?_ | refine g_andV ?_ | refine g_orV ?_ | refine g_notV ?_ | refine g_if ?_ | refine g_chain ?_ | refine g_yes ?_ | refine g_lc ?_ | refine g_revR ?_ | refine g_rng1 ?_ | refine g_iList ?_ | refine g_nil ?_ | refine g_cons ?_ | refine g_tup ?_ | refine g_lst ?_ | refine g_call ?_ | refine g_CB ?_ | refine g_sl ?_ | refine g_noPart ?_ | refine g_part ?_ | refine g_intE ?_ | refine g_ref ?_ | refine g_fld ?_ | refine g_sfld ?_ | refine g_meth ?_ | refine g_make ?_ | refine g_prop ?_  | refine g_ipI ?_ | refine g_int1 ?_ | refine g_int1B ?_ | refine g_one ?_ | refine g_two ?_ | refine g_isiI ?_ | refine g_isiIB ?_ | refine g_isiB ?_ | refine g_BM ?_ | refine g_BM0 ?_ | refine g_sub ?_)
local macro_rules | `(tactic| walk_at "go") => `(tactic| repeat (first | walk_at "go1" | ((with_reducible refine' g_nameE ?sd_ ?_); case sd_ => dsimp only [List.set_cons_succ, List.set_cons_zero]) | ((with_reducible refine' g_var ?sd_ ?_); case sd_ => exact rfl) | ((with_reducible refine' g_aug ?sd_ ?_); case sd_ => exact rfl) | ((with_reducible refine' g_rI ?sd_ ?_); case sd_ => walk_at "side") | ((with_reducible refine' g_dT ?sd_ ?_); case sd_ => walk_at "fact") | ((with_reducible refine' g_dF ?sd_ ?_); case sd_ => walk_at "fact") | ((with_reducible refine' g_nT ?sd_ ?_); case sd_ => walk_at "fact") | ((with_reducible refine' g_nF ?sd_ ?_); case sd_ => walk_at "fact") | (with_reducible refine g_iT rfl ?_) | (with_reducible refine g_iF rfl ?_) | walk_at "use"))
theorem all_mk {l : PySem.W.OpenLaw} {w : World} {K : PySem.W.Frag} {h : Heap} {mg : Str → Option Value} {fa : Addr} (X : K.In h) (G : h.Ns mainGlobals mg) (hfa : mg "law" = some (.ref fa))
    {t_MOST_OCTETS : Tok} {t_HEAD : Tok} {C_ThroughlineError : Addr} {C_InvalidAmount : Addr} {C_InvalidFrame : Addr} {C_Messages : Addr} {f_write_number : Addr} {od_write_number an_write_number : Option Addr} {sl_write_number : Array (Option Value)} {oc_write_number kV_write_number dc_write_number pm_write_number cd_write_number ct_write_number : Value} {f_read_number : Addr} {od_read_number an_read_number : Option Addr} {sl_read_number : Array (Option Value)} {oc_read_number kV_read_number dc_read_number pm_read_number cd_read_number ct_read_number : Value} {f_frame_message : Addr} {od_frame_message an_frame_message : Option Addr} {sl_frame_message : Array (Option Value)} {oc_frame_message kV_frame_message dc_frame_message pm_frame_message cd_frame_message ct_frame_message : Value} {f_Messages_init__ : Addr} {od_Messages_init__ an_Messages_init__ : Option Addr} {sl_Messages_init__ : Array (Option Value)} {oc_Messages_init__ kV_Messages_init__ dc_Messages_init__ pm_Messages_init__ cd_Messages_init__ ct_Messages_init__ : Value} {f_Messages_pending : Addr} {od_Messages_pending an_Messages_pending : Option Addr} {sl_Messages_pending : Array (Option Value)} {oc_Messages_pending kV_Messages_pending dc_Messages_pending pm_Messages_pending cd_Messages_pending ct_Messages_pending : Value} {p0_Messages_pending : Addr} {pr_Messages_pending : List Value} {f_Messages_feed : Addr} {od_Messages_feed an_Messages_feed : Option Addr} {sl_Messages_feed : Array (Option Value)} {oc_Messages_feed kV_Messages_feed dc_Messages_feed pm_Messages_feed cd_Messages_feed ct_Messages_feed : Value} {f_stop_of_message : Addr} {od_stop_of_message an_stop_of_message : Option Addr} {sl_stop_of_message : Array (Option Value)} {oc_stop_of_message kV_stop_of_message dc_stop_of_message pm_stop_of_message cd_stop_of_message ct_stop_of_message : Value} {f_l_cell : Addr} {od_l_cell an_l_cell : Option Addr} {sl_l_cell : Array (Option Value)} {oc_l_cell kV_l_cell dc_l_cell pm_l_cell cd_l_cell ct_l_cell : Value} {f_l_is_integer : Addr} {od_l_is_integer an_l_is_integer : Option Addr} {sl_l_is_integer : Array (Option Value)} {oc_l_is_integer kV_l_is_integer dc_l_is_integer pm_l_is_integer cd_l_is_integer ct_l_is_integer : Value} {f_l_start : Addr} {od_l_start an_l_start : Option Addr} {sl_l_start : Array (Option Value)} {oc_l_start kV_l_start dc_l_start pm_l_start cd_l_start ct_l_start : Value} {f_l_digit : Addr} {od_l_digit an_l_digit : Option Addr} {sl_l_digit : Array (Option Value)} {oc_l_digit kV_l_digit dc_l_digit pm_l_digit cd_l_digit ct_l_digit : Value} {f_l_message : Addr} {od_l_message an_l_message : Option Addr} {sl_l_message : Array (Option Value)} {oc_l_message kV_l_message dc_l_message pm_l_message cd_l_message ct_l_message : Value} {f_l_whole : Addr} {od_l_whole an_l_whole : Option Addr} {sl_l_whole : Array (Option Value)} {oc_l_whole kV_l_whole dc_l_whole pm_l_whole cd_l_whole ct_l_whole : Value} {f_l_same : Addr} {od_l_same an_l_same : Option Addr} {sl_l_same : Array (Option Value)} {oc_l_same kV_l_same dc_l_same pm_l_same cd_l_same ct_l_same : Value} {f_l_too_long : Addr} {od_l_too_long an_l_too_long : Option Addr} {sl_l_too_long : Array (Option Value)} {oc_l_too_long kV_l_too_long dc_l_too_long pm_l_too_long cd_l_too_long ct_l_too_long : Value} {f_law : Addr} {od_law an_law : Option Addr} {sl_law : Array (Option Value)} {oc_law kV_law dc_law pm_law cd_law ct_law : Value}
    (v_MOST_OCTETS : PySem.W.nsIn K mainGlobals "MOST_OCTETS" = some (some (.int 65535 t_MOST_OCTETS)))
    (v_HEAD : PySem.W.nsIn K mainGlobals "HEAD" = some (some (.int 2 t_HEAD)))
    (c_ThroughlineError : PySem.W.nsIn K mainGlobals "ThroughlineError" = some (some (.ref C_ThroughlineError)))
    (be_ThroughlineError : PySem.W.subIn K (.ref C_ThroughlineError) (.type "BaseException") = some true)
    (te_ThroughlineError : PySem.W.typeIn K (.ref C_ThroughlineError) = some (.type "type"))
    (hd_ThroughlineError : PySem.W.hasDictIn K C_ThroughlineError = true)
    (ic_ThroughlineError : PySem.W.isClsIn K C_ThroughlineError = true)
    (c_InvalidAmount : PySem.W.nsIn K mainGlobals "InvalidAmount" = some (some (.ref C_InvalidAmount)))
    (be_InvalidAmount : PySem.W.subIn K (.ref C_InvalidAmount) (.type "BaseException") = some true)
    (te_InvalidAmount : PySem.W.typeIn K (.ref C_InvalidAmount) = some (.type "type"))
    (hd_InvalidAmount : PySem.W.hasDictIn K C_InvalidAmount = true)
    (ic_InvalidAmount : PySem.W.isClsIn K C_InvalidAmount = true)
    (c_InvalidFrame : PySem.W.nsIn K mainGlobals "InvalidFrame" = some (some (.ref C_InvalidFrame)))
    (be_InvalidFrame : PySem.W.subIn K (.ref C_InvalidFrame) (.type "BaseException") = some true)
    (te_InvalidFrame : PySem.W.typeIn K (.ref C_InvalidFrame) = some (.type "type"))
    (hd_InvalidFrame : PySem.W.hasDictIn K C_InvalidFrame = true)
    (ic_InvalidFrame : PySem.W.isClsIn K C_InvalidFrame = true)
    (xP_InvalidAmount : PySem.W.excIn K C_InvalidAmount [.type "ValueError", .type "Exception", .type "BaseException", .type "object"] "ValueError.__new__" = true)
    (ke_InvalidAmount : PySem.W.keepIn K (.ref C_InvalidAmount) = true)
    (xg_InvalidAmount : PySem.W.findIn K (.ref C_InvalidAmount) "__getattribute__" = some (some (.builtin "BaseException.__getattribute__")))
    (xk_InvalidAmount : PySem.W.findIn K (.ref C_InvalidAmount) "__getattr__" = some none)
    (xa_InvalidAmount : PySem.W.findIn K (.ref C_InvalidAmount) "__class__" = some (some (.builtin "object.__class__")))
    (xm_InvalidAmount : PySem.W.mroIn K C_InvalidAmount (.type "object") = some true)
    (hn_all : PySem.W.specialIn K (.builtin "object.__class__") "__get__" = some (some (.builtin "getset_descriptor.__get__")))
    (ht_all : PySem.W.takesIn K (.builtin "object.__class__") = some true)
    (su_InvalidAmount_InvalidAmount : PySem.W.subIn K (.ref C_InvalidAmount) (.ref C_InvalidAmount) = some true)
    (su_InvalidAmount_ThroughlineError : PySem.W.subIn K (.ref C_InvalidAmount) (.ref C_ThroughlineError) = some true)
    (su_InvalidAmount_InvalidFrame : PySem.W.subIn K (.ref C_InvalidAmount) (.ref C_InvalidFrame) = some false)
    (sr_InvalidAmount : PySem.W.subIn K (.ref C_InvalidAmount) (.ref C_InvalidAmount) = some true)
    (c_Messages : PySem.W.nsIn K mainGlobals "Messages" = some (some (.ref C_Messages)))
    (pg_Messages : PySem.W.plainGet K C_Messages Str.empty = true)
    (hd_Messages : PySem.W.hasDictIn K C_Messages = true)
    (po_Messages : PySem.W.plainOver K C_Messages = true)
    (sa_Messages : PySem.W.findIn K (.ref C_Messages) "__setattr__" = some (some (.builtin "object.__setattr__")))
    (mk0_Messages : PySem.W.makesIn K C_Messages = true)
    (kc_Messages : PySem.W.keepIn K (.ref C_Messages) = true)
    (n_Messages__begun : PySem.W.findIn K (.ref C_Messages) "_begun" = some none)
    (a_write_number : PySem.W.nsIn K mainGlobals "write_number" = some (some (.ref f_write_number)))
    (l_write_number : K.lookup f_write_number = some ⟨oc_write_number, od_write_number, .func (PySem.W.fnOf "write_number" "write_number" (defArgs s_write_number) (defBody s_write_number) (defScope s_write_number) .none kV_write_number dc_write_number pm_write_number an_write_number cd_write_number ct_write_number), sl_write_number⟩)
    (cc_write_number : PySem.W.codeIn K cd_write_number "write_number" = true)
    (kk_write_number : PySem.W.keepIn K (.ref f_write_number) = true)
    (a_read_number : PySem.W.nsIn K mainGlobals "read_number" = some (some (.ref f_read_number)))
    (l_read_number : K.lookup f_read_number = some ⟨oc_read_number, od_read_number, .func (PySem.W.fnOf "read_number" "read_number" (defArgs s_read_number) (defBody s_read_number) (defScope s_read_number) .none kV_read_number dc_read_number pm_read_number an_read_number cd_read_number ct_read_number), sl_read_number⟩)
    (cc_read_number : PySem.W.codeIn K cd_read_number "read_number" = true)
    (kk_read_number : PySem.W.keepIn K (.ref f_read_number) = true)
    (a_frame_message : PySem.W.nsIn K mainGlobals "frame_message" = some (some (.ref f_frame_message)))
    (l_frame_message : K.lookup f_frame_message = some ⟨oc_frame_message, od_frame_message, .func (PySem.W.fnOf "frame_message" "frame_message" (defArgs s_frame_message) (defBody s_frame_message) (defScope s_frame_message) .none kV_frame_message dc_frame_message pm_frame_message an_frame_message cd_frame_message ct_frame_message), sl_frame_message⟩)
    (cc_frame_message : PySem.W.codeIn K cd_frame_message "frame_message" = true)
    (kk_frame_message : PySem.W.keepIn K (.ref f_frame_message) = true)
    (a_Messages_init__ : PySem.W.findIn K (.ref C_Messages) "__init__" = some (some (.ref f_Messages_init__)))
    (i_Messages_init__ : PySem.W.isFn K (.ref f_Messages_init__) = true)
    (l_Messages_init__ : K.lookup f_Messages_init__ = some ⟨oc_Messages_init__, od_Messages_init__, .func (PySem.W.fnOf "__init__" "Messages.__init__" (defArgs s_Messages_init__) (defBody s_Messages_init__) (defScope s_Messages_init__) .none kV_Messages_init__ dc_Messages_init__ pm_Messages_init__ an_Messages_init__ cd_Messages_init__ ct_Messages_init__), sl_Messages_init__⟩)
    (cc_Messages_init__ : PySem.W.codeIn K cd_Messages_init__ "Messages.__init__" = true)
    (kk_Messages_init__ : PySem.W.keepIn K (.ref f_Messages_init__) = true)
    (a_Messages_pending : PySem.W.findIn K (.ref C_Messages) "pending" = some (some (.ref p0_Messages_pending)))
    (pget_Messages_pending : PySem.W.specialIn K (.ref p0_Messages_pending) "__get__" = some (some (.builtin "property.__get__")))
    (ptak_Messages_pending : PySem.W.takesIn K (.ref p0_Messages_pending) = some true)
    (prec_Messages_pending : PySem.W.recIn K p0_Messages_pending "property" = some (.ref f_Messages_pending :: pr_Messages_pending))
    (l_Messages_pending : K.lookup f_Messages_pending = some ⟨oc_Messages_pending, od_Messages_pending, .func (PySem.W.fnOf "pending" "Messages.pending" (defArgs s_Messages_pending) (defBody s_Messages_pending) (defScope s_Messages_pending) .none kV_Messages_pending dc_Messages_pending pm_Messages_pending an_Messages_pending cd_Messages_pending ct_Messages_pending), sl_Messages_pending⟩)
    (cc_Messages_pending : PySem.W.codeIn K cd_Messages_pending "Messages.pending" = true)
    (kk_Messages_pending : PySem.W.keepIn K (.ref f_Messages_pending) = true)
    (a_Messages_feed : PySem.W.findIn K (.ref C_Messages) "feed" = some (some (.ref f_Messages_feed)))
    (i_Messages_feed : PySem.W.isFn K (.ref f_Messages_feed) = true)
    (l_Messages_feed : K.lookup f_Messages_feed = some ⟨oc_Messages_feed, od_Messages_feed, .func (PySem.W.fnOf "feed" "Messages.feed" (defArgs s_Messages_feed) (defBody s_Messages_feed) (defScope s_Messages_feed) .none kV_Messages_feed dc_Messages_feed pm_Messages_feed an_Messages_feed cd_Messages_feed ct_Messages_feed), sl_Messages_feed⟩)
    (cc_Messages_feed : PySem.W.codeIn K cd_Messages_feed "Messages.feed" = true)
    (kk_Messages_feed : PySem.W.keepIn K (.ref f_Messages_feed) = true)
    (a_stop_of_message : PySem.W.nsIn K mainGlobals "_stop_of_message" = some (some (.ref f_stop_of_message)))
    (l_stop_of_message : K.lookup f_stop_of_message = some ⟨oc_stop_of_message, od_stop_of_message, .func (PySem.W.fnOf "_stop_of_message" "_stop_of_message" (defArgs s_stop_of_message) (defBody s_stop_of_message) (defScope s_stop_of_message) .none kV_stop_of_message dc_stop_of_message pm_stop_of_message an_stop_of_message cd_stop_of_message ct_stop_of_message), sl_stop_of_message⟩)
    (cc_stop_of_message : PySem.W.codeIn K cd_stop_of_message "_stop_of_message" = true)
    (kk_stop_of_message : PySem.W.keepIn K (.ref f_stop_of_message) = true)
    (a_l_cell : PySem.W.nsIn K mainGlobals "_law_cell" = some (some (.ref f_l_cell)))
    (l_l_cell : K.lookup f_l_cell = some ⟨oc_l_cell, od_l_cell, .func (PySem.W.fnOf "_law_cell" "_law_cell" (defArgs s_l_cell) (defBody s_l_cell) (defScope s_l_cell) .none kV_l_cell dc_l_cell pm_l_cell an_l_cell cd_l_cell ct_l_cell), sl_l_cell⟩)
    (cc_l_cell : PySem.W.codeIn K cd_l_cell "_law_cell" = true)
    (kk_l_cell : PySem.W.keepIn K (.ref f_l_cell) = true)
    (a_l_is_integer : PySem.W.nsIn K mainGlobals "_law_is_integer" = some (some (.ref f_l_is_integer)))
    (l_l_is_integer : K.lookup f_l_is_integer = some ⟨oc_l_is_integer, od_l_is_integer, .func (PySem.W.fnOf "_law_is_integer" "_law_is_integer" (defArgs s_l_is_integer) (defBody s_l_is_integer) (defScope s_l_is_integer) .none kV_l_is_integer dc_l_is_integer pm_l_is_integer an_l_is_integer cd_l_is_integer ct_l_is_integer), sl_l_is_integer⟩)
    (cc_l_is_integer : PySem.W.codeIn K cd_l_is_integer "_law_is_integer" = true)
    (kk_l_is_integer : PySem.W.keepIn K (.ref f_l_is_integer) = true)
    (a_l_start : PySem.W.nsIn K mainGlobals "_law_start" = some (some (.ref f_l_start)))
    (l_l_start : K.lookup f_l_start = some ⟨oc_l_start, od_l_start, .func (PySem.W.fnOf "_law_start" "_law_start" (defArgs s_l_start) (defBody s_l_start) (defScope s_l_start) .none kV_l_start dc_l_start pm_l_start an_l_start cd_l_start ct_l_start), sl_l_start⟩)
    (cc_l_start : PySem.W.codeIn K cd_l_start "_law_start" = true)
    (kk_l_start : PySem.W.keepIn K (.ref f_l_start) = true)
    (a_l_digit : PySem.W.nsIn K mainGlobals "_law_digit" = some (some (.ref f_l_digit)))
    (l_l_digit : K.lookup f_l_digit = some ⟨oc_l_digit, od_l_digit, .func (PySem.W.fnOf "_law_digit" "_law_digit" (defArgs s_l_digit) (defBody s_l_digit) (defScope s_l_digit) .none kV_l_digit dc_l_digit pm_l_digit an_l_digit cd_l_digit ct_l_digit), sl_l_digit⟩)
    (cc_l_digit : PySem.W.codeIn K cd_l_digit "_law_digit" = true)
    (kk_l_digit : PySem.W.keepIn K (.ref f_l_digit) = true)
    (a_l_message : PySem.W.nsIn K mainGlobals "_law_message" = some (some (.ref f_l_message)))
    (l_l_message : K.lookup f_l_message = some ⟨oc_l_message, od_l_message, .func (PySem.W.fnOf "_law_message" "_law_message" (defArgs s_l_message) (defBody s_l_message) (defScope s_l_message) .none kV_l_message dc_l_message pm_l_message an_l_message cd_l_message ct_l_message), sl_l_message⟩)
    (cc_l_message : PySem.W.codeIn K cd_l_message "_law_message" = true)
    (kk_l_message : PySem.W.keepIn K (.ref f_l_message) = true)
    (a_l_whole : PySem.W.nsIn K mainGlobals "_law_whole" = some (some (.ref f_l_whole)))
    (l_l_whole : K.lookup f_l_whole = some ⟨oc_l_whole, od_l_whole, .func (PySem.W.fnOf "_law_whole" "_law_whole" (defArgs s_l_whole) (defBody s_l_whole) (defScope s_l_whole) .none kV_l_whole dc_l_whole pm_l_whole an_l_whole cd_l_whole ct_l_whole), sl_l_whole⟩)
    (cc_l_whole : PySem.W.codeIn K cd_l_whole "_law_whole" = true)
    (kk_l_whole : PySem.W.keepIn K (.ref f_l_whole) = true)
    (a_l_same : PySem.W.nsIn K mainGlobals "_law_same" = some (some (.ref f_l_same)))
    (l_l_same : K.lookup f_l_same = some ⟨oc_l_same, od_l_same, .func (PySem.W.fnOf "_law_same" "_law_same" (defArgs s_l_same) (defBody s_l_same) (defScope s_l_same) .none kV_l_same dc_l_same pm_l_same an_l_same cd_l_same ct_l_same), sl_l_same⟩)
    (cc_l_same : PySem.W.codeIn K cd_l_same "_law_same" = true)
    (kk_l_same : PySem.W.keepIn K (.ref f_l_same) = true)
    (a_l_too_long : PySem.W.nsIn K mainGlobals "_law_too_long" = some (some (.ref f_l_too_long)))
    (l_l_too_long : K.lookup f_l_too_long = some ⟨oc_l_too_long, od_l_too_long, .func (PySem.W.fnOf "_law_too_long" "_law_too_long" (defArgs s_l_too_long) (defBody s_l_too_long) (defScope s_l_too_long) .none kV_l_too_long dc_l_too_long pm_l_too_long an_l_too_long cd_l_too_long ct_l_too_long), sl_l_too_long⟩)
    (cc_l_too_long : PySem.W.codeIn K cd_l_too_long "_law_too_long" = true)
    (kk_l_too_long : PySem.W.keepIn K (.ref f_l_too_long) = true)
    (a_law : PySem.W.nsIn K mainGlobals "law" = some (some (.ref f_law)))
    (l_law : K.lookup f_law = some ⟨oc_law, od_law, .func (PySem.W.fnOf "law" "law" (defArgs s_law) (defBody s_law) (defScope s_law) .none kV_law dc_law pm_law an_law cd_law ct_law), sl_law⟩)
    (cc_law : PySem.W.codeIn K cd_law "law" = true)
    (kk_law : PySem.W.keepIn K (.ref f_law) = true)
    (z_bool : PySem.W.nsIn K mainGlobals "bool" = some none)
    (z_int : PySem.W.nsIn K mainGlobals "int" = some none)
    (z_isinstance : PySem.W.nsIn K mainGlobals "isinstance" = some none)
    (z_len : PySem.W.nsIn K mainGlobals "len" = some none)
    (z_list : PySem.W.nsIn K mainGlobals "list" = some none)
    (z_min : PySem.W.nsIn K mainGlobals "min" = some none)
    (z_range : PySem.W.nsIn K mainGlobals "range" = some none)
    (z_reversed : PySem.W.nsIn K mainGlobals "reversed" = some none)
    (z_sum : PySem.W.nsIn K mainGlobals "sum" = some none)
    : ∃ fd : FuncData, (∀ (s : Shared) (v : Value), BindsTo s fd ⟨[v], []⟩ [("script", v)]) ∧ ∀ base : Heap, K.In base → base.Ns mainGlobals mg → FnOk l.prog w K mg base CX0 4 fa fd ["script"] (sp_law K) := by
  have e := hfa.symm.trans (PySem.W.mg_of X G a_law)
  have e2 : f_law = fa := by
    injection e with e
    injection e with e
    exact e.symm
  subst e2
  have F_write_number := fun_mk (st := s_write_number) l_write_number cc_write_number kk_write_number
  have b_write_number := F_write_number.binds (ps := ["number", "size"]) fun _ _ _ _ _ _ us hl => match us, hl with | [_, _], _ => rfl
  have F_read_number := fun_mk (st := s_read_number) l_read_number cc_read_number kk_read_number
  have b_read_number := F_read_number.binds (ps := ["octets"]) fun _ _ _ _ _ _ us hl => match us, hl with | [_], _ => rfl
  have F_frame_message := fun_mk (st := s_frame_message) l_frame_message cc_frame_message kk_frame_message
  have b_frame_message := F_frame_message.binds (ps := ["octets"]) fun _ _ _ _ _ _ us hl => match us, hl with | [_], _ => rfl
  have F_Messages_init__ := fun_mk (st := s_Messages_init__) l_Messages_init__ cc_Messages_init__ kk_Messages_init__
  have b_Messages_init__ := F_Messages_init__.binds (ps := ["self"]) fun _ _ _ _ _ _ us hl => match us, hl with | [_], _ => rfl
  have F_Messages_pending := fun_mk (st := s_Messages_pending) l_Messages_pending cc_Messages_pending kk_Messages_pending
  have b_Messages_pending := F_Messages_pending.binds (ps := ["self"]) fun _ _ _ _ _ _ us hl => match us, hl with | [_], _ => rfl
  have F_Messages_feed := fun_mk (st := s_Messages_feed) l_Messages_feed cc_Messages_feed kk_Messages_feed
  have b_Messages_feed := F_Messages_feed.binds (ps := ["self", "octets"]) fun _ _ _ _ _ _ us hl => match us, hl with | [_, _], _ => rfl
  have F_stop_of_message := fun_mk (st := s_stop_of_message) l_stop_of_message cc_stop_of_message kk_stop_of_message
  have b_stop_of_message := F_stop_of_message.binds (ps := ["octets", "at"]) fun _ _ _ _ _ _ us hl => match us, hl with | [_, _], _ => rfl
  have F_l_cell := fun_mk (st := s_l_cell) l_l_cell cc_l_cell kk_l_cell
  have b_l_cell := F_l_cell.binds (ps := ["script", "k"]) fun _ _ _ _ _ _ us hl => match us, hl with | [_, _], _ => rfl
  have F_l_is_integer := fun_mk (st := s_l_is_integer) l_l_is_integer cc_l_is_integer kk_l_is_integer
  have b_l_is_integer := F_l_is_integer.binds (ps := ["told"]) fun _ _ _ _ _ _ us hl => match us, hl with | [_], _ => rfl
  have F_l_start := fun_mk (st := s_l_start) l_l_start cc_l_start kk_l_start
  have b_l_start := F_l_start.binds (ps := ["cell", "k"]) fun _ _ _ _ _ _ us hl => match us, hl with | [_, _], _ => rfl
  have F_l_digit := fun_mk (st := s_l_digit) l_l_digit cc_l_digit kk_l_digit
  have b_l_digit := F_l_digit.binds (ps := ["state", "many"]) fun _ _ _ _ _ _ us hl => match us, hl with | [_, _], _ => rfl
  have F_l_message := fun_mk (st := s_l_message) l_l_message cc_l_message kk_l_message
  have b_l_message := F_l_message.binds (ps := ["state", "many"]) fun _ _ _ _ _ _ us hl => match us, hl with | [_, _], _ => rfl
  have F_l_whole := fun_mk (st := s_l_whole) l_l_whole cc_l_whole kk_l_whole
  have b_l_whole := F_l_whole.binds (ps := ["messages", "count"]) fun _ _ _ _ _ _ us hl => match us, hl with | [_, _], _ => rfl
  have F_l_same := fun_mk (st := s_l_same) l_l_same cc_l_same kk_l_same
  have b_l_same := F_l_same.binds (ps := ["told", "due"]) fun _ _ _ _ _ _ us hl => match us, hl with | [_, _], _ => rfl
  have F_l_too_long := fun_mk (st := s_l_too_long) l_l_too_long cc_l_too_long kk_l_too_long
  have b_l_too_long := F_l_too_long.binds (ps := ["state"]) fun _ _ _ _ _ _ us hl => match us, hl with | [_], _ => rfl
  have F_law := fun_mk (st := s_law) l_law cc_law kk_law
  have b_law := F_law.binds (ps := ["script"]) fun _ _ _ _ _ _ us hl => match us, hl with | [_], _ => rfl
  let T : Txt K mg := { t_MOST_OCTETS := t_MOST_OCTETS, t_HEAD := t_HEAD, C_ThroughlineError := C_ThroughlineError, C_InvalidAmount := C_InvalidAmount, C_InvalidFrame := C_InvalidFrame, C_Messages := C_Messages, f_write_number := f_write_number, d_write_number := _, f_read_number := f_read_number, d_read_number := _, f_frame_message := f_frame_message, d_frame_message := _, f_Messages_init__ := f_Messages_init__, d_Messages_init__ := _, f_Messages_pending := f_Messages_pending, d_Messages_pending := _, p0_Messages_pending := p0_Messages_pending, f_Messages_feed := f_Messages_feed, d_Messages_feed := _, f_stop_of_message := f_stop_of_message, d_stop_of_message := _, f_l_cell := f_l_cell, d_l_cell := _, f_l_is_integer := f_l_is_integer, d_l_is_integer := _, f_l_start := f_l_start, d_l_start := _, f_l_digit := f_l_digit, d_l_digit := _, f_l_message := f_l_message, d_l_message := _, f_l_whole := f_l_whole, d_l_whole := _, f_l_same := f_l_same, d_l_same := _, f_l_too_long := f_l_too_long, d_l_too_long := _, f_law := f_law, d_law := _, v_MOST_OCTETS := PySem.W.mg_of X G v_MOST_OCTETS, v_HEAD := PySem.W.mg_of X G v_HEAD, c_ThroughlineError := PySem.W.mg_of X G c_ThroughlineError, c_InvalidAmount := PySem.W.mg_of X G c_InvalidAmount, c_InvalidFrame := PySem.W.mg_of X G c_InvalidFrame, xP_InvalidAmount := xP_InvalidAmount, ke_InvalidAmount := ke_InvalidAmount, be_InvalidAmount := be_InvalidAmount, te_InvalidAmount := te_InvalidAmount, xc_InvalidAmount := ⟨xg_InvalidAmount, xk_InvalidAmount, be_InvalidAmount, hd_InvalidAmount, xa_InvalidAmount, hn_all, ht_all, xm_InvalidAmount⟩, em_InvalidAmount_InvalidAmount := PySem.W.exm_ref be_InvalidAmount hd_InvalidAmount te_InvalidAmount su_InvalidAmount_InvalidAmount, ko_InvalidAmount_ThroughlineError := kit_refT ic_ThroughlineError te_ThroughlineError su_InvalidAmount_ThroughlineError, ko_InvalidAmount_InvalidFrame := kit_refF ic_InvalidFrame te_InvalidFrame su_InvalidAmount_InvalidFrame sr_InvalidAmount, c_Messages := PySem.W.mg_of X G c_Messages, k_Messages := ⟨pg_Messages, hd_Messages, po_Messages, sa_Messages⟩, n_Messages__begun := n_Messages__begun, F_write_number := F_write_number, b_write_number := b_write_number, m_write_number := PySem.W.mg_of X G a_write_number, F_read_number := F_read_number, b_read_number := b_read_number, m_read_number := PySem.W.mg_of X G a_read_number, F_frame_message := F_frame_message, b_frame_message := b_frame_message, m_frame_message := PySem.W.mg_of X G a_frame_message, F_Messages_init__ := F_Messages_init__, b_Messages_init__ := b_Messages_init__, mk_Messages := ⟨mk0_Messages, a_Messages_init__, i_Messages_init__, kc_Messages⟩, F_Messages_pending := F_Messages_pending, b_Messages_pending := b_Messages_pending, p_Messages_pending := ⟨a_Messages_pending, pget_Messages_pending, ptak_Messages_pending, _, prec_Messages_pending⟩, F_Messages_feed := F_Messages_feed, b_Messages_feed := b_Messages_feed, a_Messages_feed := ⟨a_Messages_feed, i_Messages_feed, kk_Messages_feed⟩, F_stop_of_message := F_stop_of_message, b_stop_of_message := b_stop_of_message, m_stop_of_message := PySem.W.mg_of X G a_stop_of_message, F_l_cell := F_l_cell, b_l_cell := b_l_cell, m_l_cell := PySem.W.mg_of X G a_l_cell, F_l_is_integer := F_l_is_integer, b_l_is_integer := b_l_is_integer, m_l_is_integer := PySem.W.mg_of X G a_l_is_integer, F_l_start := F_l_start, b_l_start := b_l_start, m_l_start := PySem.W.mg_of X G a_l_start, F_l_digit := F_l_digit, b_l_digit := b_l_digit, m_l_digit := PySem.W.mg_of X G a_l_digit, F_l_message := F_l_message, b_l_message := b_l_message, m_l_message := PySem.W.mg_of X G a_l_message, F_l_whole := F_l_whole, b_l_whole := b_l_whole, m_l_whole := PySem.W.mg_of X G a_l_whole, F_l_same := F_l_same, b_l_same := b_l_same, m_l_same := PySem.W.mg_of X G a_l_same, F_l_too_long := F_l_too_long, b_l_too_long := b_l_too_long, m_l_too_long := PySem.W.mg_of X G a_l_too_long, F_law := F_law, b_law := b_law, m_law := PySem.W.mg_of X G a_law, n_bool := PySem.W.mg_none_of X G z_bool, n_int := PySem.W.mg_none_of X G z_int, n_isinstance := PySem.W.mg_none_of X G z_isinstance, n_len := PySem.W.mg_none_of X G z_len, n_list := PySem.W.mg_none_of X G z_list, n_min := PySem.W.mg_none_of X G z_min, n_range := PySem.W.mg_none_of X G z_range, n_reversed := PySem.W.mg_none_of X G z_reversed, n_sum := PySem.W.mg_none_of X G z_sum }
  exact ⟨PySem.W.fnOf "law" "law" (defArgs s_law) (defBody s_law) (defScope s_law) .none kV_law dc_law pm_law an_law cd_law ct_law, fun s v => .of_eq rfl, fun base _ _ => ok_law T⟩
theorem walk {l : PySem.W.OpenLaw} {q : Program} {loose : List Str} {XP : (Str → Option Value) → Heap → Prop} {YP : World → Heap → Prop} {d : DefRec} {K : Params → PySem.W.Frag} (hn : l.most = some 63) (hdf : d.params.defaults = [])
    (hY : ∀ (w : World) (h : Heap), YP w h → (K w.params).In h)
    (F : ∀ (w : World) (mg : Str → Option Value) (fa : Addr) (h : Heap), (K w.params).In h → h.Ns mainGlobals mg → mg d.name = some (.ref fa) →
      ∃ fd : FuncData, (∀ (s : Shared) (u : Value), BindsTo s fd ⟨[u], []⟩ [("script", u)]) ∧ ∀ base : Heap, (K w.params).In base → base.Ns mainGlobals mg → FnOk l.prog w (K w.params) mg base CX0 4 fa fd ["script"] (sp_law (K w.params))) :
    PySem.W.WalkO q loose XP YP l.row.toRowW d [] (fun f vs => PySem.call f vs) :=
  L2.walk_of (n := 63) (k := 4) (x := "script") (CX := fun _ => CX0) (sp := fun w => sp_law (K w.params)) hn (by decide) hdf ⟨rfl, by decide, by decide⟩ hY F (fun _ _ a ns hl _ hS => ⟨a, ns, rfl, hS, hl, fun _ => rfl⟩) fun _ _ _ _ _ z => z
end My
open PySem PySem.W PyProof.Rows
set_option maxRecDepth 100000 in
set_option maxHeartbeats 0 in
theorem PySem.Challenge.cw_throughline_k54_messages_holds : PySem.Challenge.rw_throughline_k54_messages.Holds := by
  w_on; o_law; k_head; (case hw => w_witness2)
  k_fill
  refine My.walk (l := PySem.Challenge.rw_throughline_k54_messages) rfl rfl (fun w h Y => PySem.W.kIn_of Y) ?F
  case F =>
    intro w mg fa h KX G hmg
    refine' My.all_mk KX G hmg ?v_MOST_OCTETS ?v_HEAD ?c_ThroughlineError ?be_ThroughlineError ?te_ThroughlineError ?hd_ThroughlineError ?ic_ThroughlineError ?c_InvalidAmount ?be_InvalidAmount ?te_InvalidAmount ?hd_InvalidAmount ?ic_InvalidAmount ?c_InvalidFrame ?be_InvalidFrame ?te_InvalidFrame ?hd_InvalidFrame ?ic_InvalidFrame ?xP_InvalidAmount ?ke_InvalidAmount ?xg_InvalidAmount ?xk_InvalidAmount ?xa_InvalidAmount ?xm_InvalidAmount ?hn_all ?ht_all ?su_InvalidAmount_InvalidAmount ?su_InvalidAmount_ThroughlineError ?su_InvalidAmount_InvalidFrame ?sr_InvalidAmount ?c_Messages ?pg_Messages ?hd_Messages ?po_Messages ?sa_Messages ?mk0_Messages ?kc_Messages ?n_Messages__begun ?a_write_number ?l_write_number ?cc_write_number ?kk_write_number ?a_read_number ?l_read_number ?cc_read_number ?kk_read_number ?a_frame_message ?l_frame_message ?cc_frame_message ?kk_frame_message ?a_Messages_init__ ?i_Messages_init__ ?l_Messages_init__ ?cc_Messages_init__ ?kk_Messages_init__ ?a_Messages_pending ?pget_Messages_pending ?ptak_Messages_pending ?prec_Messages_pending ?l_Messages_pending ?cc_Messages_pending ?kk_Messages_pending ?a_Messages_feed ?i_Messages_feed ?l_Messages_feed ?cc_Messages_feed ?kk_Messages_feed ?a_stop_of_message ?l_stop_of_message ?cc_stop_of_message ?kk_stop_of_message ?a_l_cell ?l_l_cell ?cc_l_cell ?kk_l_cell ?a_l_is_integer ?l_l_is_integer ?cc_l_is_integer ?kk_l_is_integer ?a_l_start ?l_l_start ?cc_l_start ?kk_l_start ?a_l_digit ?l_l_digit ?cc_l_digit ?kk_l_digit ?a_l_message ?l_l_message ?cc_l_message ?kk_l_message ?a_l_whole ?l_l_whole ?cc_l_whole ?kk_l_whole ?a_l_same ?l_l_same ?cc_l_same ?kk_l_same ?a_l_too_long ?l_l_too_long ?cc_l_too_long ?kk_l_too_long ?a_law ?l_law ?cc_law ?kk_law ?z_bool ?z_int ?z_isinstance ?z_len ?z_list ?z_min ?z_range ?z_reversed ?z_sum
    (case v_MOST_OCTETS => k_is)
    (case v_HEAD => k_is)
    (case c_ThroughlineError => k_is)
    (case be_ThroughlineError => k_is)
    (case te_ThroughlineError => k_is)
    (case hd_ThroughlineError => k_is)
    (case ic_ThroughlineError => k_is)
    (case c_InvalidAmount => k_is)
    (case be_InvalidAmount => k_is)
    (case te_InvalidAmount => k_is)
    (case hd_InvalidAmount => k_is)
    (case ic_InvalidAmount => k_is)
    (case c_InvalidFrame => k_is)
    (case be_InvalidFrame => k_is)
    (case te_InvalidFrame => k_is)
    (case hd_InvalidFrame => k_is)
    (case ic_InvalidFrame => k_is)
    (case xP_InvalidAmount => k_exc)
    (case ke_InvalidAmount => k_is)
    (case xg_InvalidAmount => k_is)
    (case xk_InvalidAmount => k_is)
    (case xa_InvalidAmount => k_is)
    (case xm_InvalidAmount => k_is)
    (case hn_all => k_is)
    (case ht_all => k_is)
    (case su_InvalidAmount_InvalidAmount => first | k_is | rfl)
    (case su_InvalidAmount_ThroughlineError => first | k_is | rfl)
    (case su_InvalidAmount_InvalidFrame => first | k_is | rfl)
    (case sr_InvalidAmount => first | rfl | k_is)
    (case c_Messages => k_is)
    (case pg_Messages => k_is)
    (case hd_Messages => k_is)
    (case po_Messages => k_is)
    (case sa_Messages => k_is)
    (case mk0_Messages => k_is)
    (case kc_Messages => k_is)
    (case n_Messages__begun => k_is)
    (case a_write_number => k_is)
    (case l_write_number => k_is)
    (case cc_write_number => k_is)
    (case kk_write_number => k_is)
    (case a_read_number => k_is)
    (case l_read_number => k_is)
    (case cc_read_number => k_is)
    (case kk_read_number => k_is)
    (case a_frame_message => k_is)
    (case l_frame_message => k_is)
    (case cc_frame_message => k_is)
    (case kk_frame_message => k_is)
    (case a_Messages_init__ => k_is)
    (case i_Messages_init__ => k_is)
    (case l_Messages_init__ => k_is)
    (case cc_Messages_init__ => k_is)
    (case kk_Messages_init__ => k_is)
    (case a_Messages_pending => k_is)
    (case pget_Messages_pending => k_is)
    (case ptak_Messages_pending => k_is)
    (case prec_Messages_pending => k_is)
    (case l_Messages_pending => k_is)
    (case cc_Messages_pending => k_is)
    (case kk_Messages_pending => k_is)
    (case a_Messages_feed => k_is)
    (case i_Messages_feed => k_is)
    (case l_Messages_feed => k_is)
    (case cc_Messages_feed => k_is)
    (case kk_Messages_feed => k_is)
    (case a_stop_of_message => k_is)
    (case l_stop_of_message => k_is)
    (case cc_stop_of_message => k_is)
    (case kk_stop_of_message => k_is)
    (case a_l_cell => k_is)
    (case l_l_cell => k_is)
    (case cc_l_cell => k_is)
    (case kk_l_cell => k_is)
    (case a_l_is_integer => k_is)
    (case l_l_is_integer => k_is)
    (case cc_l_is_integer => k_is)
    (case kk_l_is_integer => k_is)
    (case a_l_start => k_is)
    (case l_l_start => k_is)
    (case cc_l_start => k_is)
    (case kk_l_start => k_is)
    (case a_l_digit => k_is)
    (case l_l_digit => k_is)
    (case cc_l_digit => k_is)
    (case kk_l_digit => k_is)
    (case a_l_message => k_is)
    (case l_l_message => k_is)
    (case cc_l_message => k_is)
    (case kk_l_message => k_is)
    (case a_l_whole => k_is)
    (case l_l_whole => k_is)
    (case cc_l_whole => k_is)
    (case kk_l_whole => k_is)
    (case a_l_same => k_is)
    (case l_l_same => k_is)
    (case cc_l_same => k_is)
    (case kk_l_same => k_is)
    (case a_l_too_long => k_is)
    (case l_l_too_long => k_is)
    (case cc_l_too_long => k_is)
    (case kk_l_too_long => k_is)
    (case a_law => k_is)
    (case l_law => k_is)
    (case cc_law => k_is)
    (case kk_law => k_is)
    (case z_bool => k_is)
    (case z_int => k_is)
    (case z_isinstance => k_is)
    (case z_len => k_is)
    (case z_list => k_is)
    (case z_min => k_is)
    (case z_range => k_is)
    (case z_reversed => k_is)
    (case z_sum => k_is)
#print axioms PySem.Challenge.cw_throughline_k54_messages_holds

