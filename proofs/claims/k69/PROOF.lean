import PyProof.Rows.All
import Wide.All
import OpenK.AllK
import Wide.FinOn
import HandS.ForMost
import HandS.IsInst
import HandS.Wide
import HandS.Style
import HandS.Conv
import HandS.RevRange
import HandS.Walk
import HandS.Property
import HandS.Star
import HandS.Codes
import HandS.TupAny
import HandS.WideBits
import HandS.MakeKwOnly
import HandS.Defaults
import HandS.Iter
import HandS.Small
import HandS.More
import HandS.Flow
import PySem.Challenge.RW_throughline_k69_findings_in_packets
set_option Elab.async false
set_option linter.all false
set_option maxRecDepth 100000
set_option maxHeartbeats 4000000
namespace My
open PySem PySem.Spec L2
/-! ### readings, one rule a construct -/
section
variable {K : PySem.W.Frag} {σ : St} {H : Hp} {Q : VK} {v x y z : V} {ta tb te tc : TE} {tt tu : TT} {r : R2} {D : Ends} {ts us : TS} {P : Bool → Hp → Prop} {i j : Int}
theorem g_var {i : Nat} (h : σ[i]? = some (some v)) (q : Q v H) : tVar i σ H Q := ⟨v, h, q⟩
theorem g_c (q : Q v H) : tC v σ H Q := q
theorem g_op (h : ta σ H fun x H1 => tb σ H1 fun y H2 => r x y H2 Q) : tOp r ta tb σ H Q := h
theorem g_un {r : V → Hp → VK → Prop} (h : ta σ H fun x H1 => r x H1 Q) : tUn r ta σ H Q := h
theorem g_rI0 {g : Int → Int → V} (q : Q (g i j) H) : rI0 g (.int i) (.int j) H Q := ⟨i, j, rfl, rfl, q⟩
theorem g_rI {C : Int → Int → Prop} {g : Int → Int → V} (c : C i j) (q : Q (g i j) H) : rI C g (.int i) (.int j) H Q := ⟨i, j, rfl, rfl, c, q⟩
theorem g_rU {g : Int → V} (q : Q (g i) H) : rU g (.int i) H Q := ⟨i, rfl, q⟩
theorem g_rEqI (q : Q (.bl (decide (i = j))) H) : rEq (.int i) (.int j) H Q := ⟨rfl, by rw [dec_int]; exact q⟩
theorem g_rNeI (q : Q (.bl (!decide (i = j))) H) : rNe (.int i) (.int j) H Q := ⟨rfl, by rw [dec_int]; exact q⟩
theorem g_rEq (s : scal x y = true) (q : Q (.bl (decide (x = y))) H) : rEq x y H Q := ⟨s, q⟩
theorem g_rNe (s : scal x y = true) (q : Q (.bl (!decide (x = y))) H) : rNe x y H Q := ⟨s, q⟩
theorem g_isN {A : Prop} (q : A) : V.non = V.non ∧ A := ⟨rfl, q⟩
theorem g_rIsB {a b : Bool} (q : Q (.bl (decide (a = b))) H) : rIsB (.bl a) (.bl b) H Q := ⟨a, b, rfl, rfl, q⟩
theorem g_rNotB {a b : Bool} (q : Q (.bl (!decide (a = b))) H) : rNotB (.bl a) (.bl b) H Q := ⟨a, b, rfl, rfl, q⟩
theorem g_test {t : TE} (h : t σ H fun x H' => ∃ k, x = .bl k ∧ P k H') : tTest t σ H P := h
theorem g_B {t : TE} (h : t σ H fun x H' => ∃ k, x = .bl k ∧ P k H') : tB t σ H P := h
theorem g_bl {b : Bool} {A : Bool → Prop} (q : A b) : ∃ k, V.bl b = .bl k ∧ A k := ⟨b, rfl, q⟩
theorem g_and (h : tt σ H fun c H1 => if c = true then tu σ H1 P else P false H1) : tAnd tt tu σ H P := h
theorem g_or (h : tt σ H fun c H1 => if c = true then P true H1 else tu σ H1 P) : tOr tt tu σ H P := h
theorem g_not (h : tt σ H fun c H1 => P (!c) H1) : tNot tt σ H P := h
theorem g_andV (h : ta σ H fun x H1 => ∃ c, x = .bl c ∧ if c = true then tb σ H1 Q else Q (.bl false) H1) : tAndV ta tb σ H Q := h
theorem g_orV (h : ta σ H fun x H1 => ∃ c, x = .bl c ∧ if c = true then Q (.bl true) H1 else tb σ H1 Q) : tOrV ta tb σ H Q := h
theorem g_notV (h : ta σ H fun x H1 => ∃ c, x = .bl c ∧ Q (.bl (!c)) H1) : tNotV ta σ H Q := h
theorem g_if (h : tt σ H fun c H1 => if c = true then ta σ H1 Q else tb σ H1 Q) : tIf tt ta tb σ H Q := h
theorem g_chain {r' : R2} (h : ta σ H fun x H1 => tb σ H1 fun y H2 => r x y H2 fun z H3 => ∃ k, z = .bl k ∧ (if k = true then tc σ H3 fun w' H4 => r' y w' H4 Q else Q (.bl false) H3)) : tChain r r' ta tb tc σ H Q := h
theorem g_nil {A : List V → Hp → Prop} (q : A [] H) : tNil σ H A := q
theorem g_cons {tr : TA} {A : List V → Hp → Prop} (h : ta σ H fun x H1 => tr σ H1 fun xs H2 => A (x :: xs) H2) : tCons ta tr σ H A := h
theorem g_tup {t : TA} (h : t σ H fun xs H1 => xs.length ≤ sizeLine ∧ ∀ p, H1 p = none → Q (.ref p) (upd H1 p (.tup xs))) : tTup t σ H Q := h
theorem g_lst {t : TA} (h : t σ H fun xs H1 => xs.length ≤ sizeLine ∧ ∀ p, H1 p = none → Q (.ref p) (upd H1 p (.lst xs))) : tLst t σ H Q := h
theorem g_call {sp : Sp} {dvs : List V} {E : XK} {t : TA} (h : t σ H fun vs H1 => sp (vs ++ dvs) H1 Q E) : tCall sp dvs E t σ H Q := h
theorem g_CB {r : List V → Hp → VK → Prop} {t : TA} (h : t σ H fun vs H1 => r vs H1 Q) : tCB r t σ H Q := h
theorem g_sl {r : V → Option Int → Option Int → Hp → VK → Prop} {tl th : TO} (h : te σ H fun x H1 => tl σ H1 fun l H2 => th σ H2 fun u H3 => r x l u H3 Q) : tSl r te tl th σ H Q := h
theorem g_noPart {A : Option Int → Hp → Prop} (q : A none H) : tNoPart σ H A := q
theorem g_part {A : Option Int → Hp → Prop} (h : te σ H fun x H1 => ∃ i, x = .int i ∧ A (some i) H1) : tPart te σ H A := h
theorem g_intE {A : Int → Prop} (q : A i) : ∃ k, V.int i = .int k ∧ A k := ⟨i, rfl, q⟩
theorem g_seq (h : ts { D with nx := us D } σ H) : tSeq ts us D σ H := h
theorem g_next (q : D.nx σ H) : tNext D σ H := q
theorem g_brk (q : D.bk σ H) : tBreak D σ H := q
theorem g_ct (q : D.ct σ H) : tCont D σ H := q
theorem g_asg {g : TG} (h : te σ H fun x H1 => g x σ H1 D.nx) : tAsg te g D σ H := h
theorem g_name {i : Nat} {A : St → Hp → Prop} (q : A (σ.set i (some v)) H) : gName i v σ H A := q
theorem g_aug {i : Nat} {ti : TIp} (h : σ[i]? = some (some x)) (q : te σ H fun y H1 => ti x y H1 fun z H2 => D.nx (σ.set i (some z)) H2) : tAug i te ti D σ H := ⟨x, h, q⟩
theorem g_ipI {f : Int → Int → Int} (q : Q (.int (f i j)) H) : ipI f (.int i) (.int j) H Q := ⟨i, j, rfl, rfl, q⟩
theorem g_drop (h : te σ H fun _ H1 => D.nx σ H1) : tDrop te D σ H := h
theorem g_ret (h : te σ H D.rt) : tRet te D σ H := h
theorem g_retN (q : D.rt .non H) : tRetN D σ H := q
theorem g_ifS (h : tt σ H fun b H1 => if b = true then ts D σ H1 else us D σ H1) : tIfS tt ts us D σ H := h
theorem g_for {wi : TI} {g : TG} {tb : TS} (h : wi σ H fun J H1 => ∃ W : Nat → Nat → St → Hp → Prop, (∃ m, W 0 m σ H1) ∧ ∀ i m σ H, W i m σ H →
    (J.stop i H ∧ D.nx σ H) ∨ (J.go i H ∧ ∃ N : St → Hp → Prop, (∀ σ' H', N σ' H' → ∃ m', m' < m ∧ W (i + 1) m' σ' H') ∧ ∀ x H', J.yld i H x H' → g x σ H' fun σ2 H2 => tb { D with nx := N, ct := N, bk := D.nx } σ2 H2)) : tFor wi g tb D σ H := h
theorem g_iT {c : Bool} {A B : Prop} (e : c = true) (h : A) : if c = true then A else B := by rw [if_pos e]; exact h
theorem g_iF {c : Bool} {A B : Prop} (e : c = false) (h : B) : if c = true then A else B := by rw [e]; exact iteF h
theorem g_ite {p A B : Prop} [Decidable p] (h1 : p → A) (h2 : ¬ p → B) : if decide p = true then A else B := by
  by_cases h : p
  · rw [decide_eq_true h]; exact iteT (h1 h)
  · rw [decide_eq_false h]; exact iteF (h2 h)
theorem g_iteN {p A B : Prop} [Decidable p] (h1 : ¬ p → A) (h2 : p → B) : if (!decide p) = true then A else B := by
  by_cases h : p
  · rw [decide_eq_true h]; exact iteF (h2 h)
  · rw [decide_eq_false h]; exact iteT (h1 h)
theorem g_iteB {b : Bool} {A B : Prop} (h1 : b = true → A) (h2 : b = false → B) : if b = true then A else B := by
  cases b with
  | true => exact iteT (h1 rfl)
  | false => exact iteF (h2 rfl)
theorem g_iteNB {b : Bool} {A B : Prop} (h1 : b = false → A) (h2 : b = true → B) : if (!b) = true then A else B := by
  cases b with
  | true => exact iteF (h2 rfl)
  | false => exact iteT (h1 rfl)
/-! calls of built-ins, by values -/
theorem g_int1 {A : Int → Prop} {B : Bool → Prop} (q : A i) : (∃ i', [V.int i] = [V.int i'] ∧ A i') ∨ ∃ k, [V.int i] = [V.bl k] ∧ B k := .inl ⟨i, rfl, q⟩
theorem g_int1B {b : Bool} {A : Int → Prop} {B : Bool → Prop} (q : B b) : (∃ i', [V.bl b] = [V.int i'] ∧ A i') ∨ ∃ k, [V.bl b] = [V.bl k] ∧ B k := .inr ⟨b, rfl, q⟩
theorem g_one {A : Int → Prop} (q : A i) : ∃ i', [V.int i] = [V.int i'] ∧ A i' := ⟨i, rfl, q⟩
theorem g_two {A : Int → Int → Prop} (q : A i j) : ∃ i' j', [V.int i, V.int j] = [V.int i', V.int j'] ∧ A i' j' := ⟨i, j, rfl, q⟩
theorem g_isi {c : V} {t u : Value} {b : Bool} (hc : ClsV c u) (ht : TyX K H x t) (e : PySem.W.kitOne K t u = some b) (q : Q (.bl b) H) : rIsi K [x, c] H Q := ⟨x, c, t, u, b, rfl, hc, ht, e, q⟩
theorem g_isiI (q : Q (.bl true) H) : rIsi K [.int i, .ty "int"] H Q := g_isi (.ty _) (.base (.int _)) (kit_ty (by decide +kernel)) q
theorem g_isiB {b : Bool} (q : Q (.bl true) H) : rIsi K [.bl b, .ty "bool"] H Q := g_isi (.ty _) (.base (.bl _)) (kit_ty (by decide +kernel)) q
theorem g_isiIB (q : Q (.bl false) H) : rIsi K [.int i, .ty "bool"] H Q := g_isi (.ty _) (.base (.int _)) (kit_ty (by decide +kernel)) q
theorem g_isiL {p : Addr} {xs : List V} (h : H p = some (.lst xs)) (q : Q (.bl true) H) : rIsi K [.ref p, .ty "list"] H Q := g_isi (.ty _) (.base (.lst h)) (kit_ty (by decide +kernel)) q
theorem g_isiU {p : Addr} {xs : List V} (h : H p = some (.tup xs)) (q : Q (.bl true) H) : rIsi K [.ref p, .ty "tuple"] H Q := g_isi (.ty _) (.base (.tup h)) (kit_ty (by decide +kernel)) q
theorem g_ixL {p : Addr} {xs : List V} (h : SqL K H p xs) (e : atI xs i = some v) (q : Q v H) : rIxL K (.ref p) (.int i) H Q := ⟨p, xs, i, v, rfl, rfl, h, e, q⟩
theorem g_ixT {p : Addr} {xs : List V} (h : SqT K H p xs) (e : atI xs i = some v) (q : Q v H) : rIxT K (.ref p) (.int i) H Q := ⟨p, xs, i, v, rfl, rfl, h, e, q⟩
theorem g_append {p : Addr} {xs : List V} (h : H p = some (.lst xs)) (l : xs.length < sizeLine) (q : Q .non (upd H p (.lst (xs ++ [y])))) : rAppend (.ref p) [y] H Q := ⟨p, xs, y, rfl, rfl, h, l, q⟩
theorem g_BM {T : String} {r : V → List V → Hp → VK → Prop} {t : TA} (h : te σ H fun x H1 => tyV K T x H1 ∧ t σ H1 fun xs H2 => r x xs H2 Q) : tBM K T r te t σ H Q := h
theorem g_BM0 {T : String} {r : V → List V → Hp → VK → Prop} (h : te σ H fun x H1 => tyV K T x H1 ∧ r x [] H1 Q) : tBM0 K T r te σ H Q := h
theorem ty_l {p : Addr} {xs : List V} (h : H p = some (.lst xs)) : tyV K "list" (.ref p) H := Or.inl ⟨rfl, _, Or.inl (Or.inl h)⟩
theorem g_setL {p : Addr} {xs : List V} {k : Int} {j : Nat} {A : Hp → Prop} (h : H p = some (.lst xs)) (e : ixN xs.length k = some j) (q : A (upd H p (.lst (xs.set j v)))) : rSetL (.ref p) (.int k) v H A := ⟨p, xs, k, j, rfl, rfl, h, e, q⟩
theorem g_sub {to ti : TE} {t : TSet} {A : St → Hp → Prop} (h : to σ H fun o H1 => ti σ H1 fun i H2 => t o i v H2 fun H3 => A σ H3) : gSub to ti t v σ H A := h
theorem g_len {p : Addr} {xs : List V} {A : Addr → List V → Prop} (h : SqL K H p xs ∨ SqT K H p xs) (q : A p xs) : ∃ p' ys, [V.ref p] = [V.ref p'] ∧ (SqL K H p' ys ∨ SqT K H p' ys) ∧ A p' ys := ⟨p, xs, rfl, h, q⟩
theorem g_slL {p : Addr} {xs : List V} {lo hi : Option Int} (h : SqL K H p xs) (q : ∀ l, H l = none → Q (.ref l) (upd H l (.lst (cutV xs lo hi)))) : rSlL K (.ref p) lo hi H Q := ⟨p, xs, rfl, h, q⟩
theorem g_cat {p q : Addr} {xs ys : List V} (h : H p = some (.lst xs)) (h2 : H q = some (.lst ys)) (l : xs.length + ys.length ≤ sizeLine) (k : ∀ l, H l = none → Q (.ref l) (upd H l (.lst (xs ++ ys)))) : rCat (.ref p) (.ref q) H Q := ⟨p, q, xs, ys, rfl, rfl, h, h2, l, k⟩
end
/-! ### heaps -/
theorem same_upd {H : Hp} {p : Addr} {o : HO} (h : H p = none) : Same H (upd H p o) := fun b x e => by
  rw [upd_ne (ne_of_none e h)]
  exact e
theorem sm {H H' : Hp} {p : Addr} {o : HO} (s : Same H H') (h : H p = some o) : H' p = some o := s p o h
theorem sq_upd {K : PySem.W.Frag} {H : Hp} {p a : Addr} {o : HO} {xs : List V} (n : H p = none) (h : SqL K H a xs) : SqL K (upd H p o) a xs := (same_upd n).seq h
theorem sl {K : PySem.W.Frag} {H : Hp} {a : Addr} {xs : List V} (h : H a = some (.lst xs)) : SqL K H a xs := Or.inl (Or.inl h)
theorem st {K : PySem.W.Frag} {H : Hp} {a : Addr} {xs : List V} (h : H a = some (.tup xs)) : SqT K H a xs := Or.inl (Or.inl h)
theorem Same.sqt {K : PySem.W.Frag} {H H' : Hp} {a : Addr} {xs : List V} (e : Same H H') (h : SqT K H a xs) : SqT K H' a xs := by
  rcases h with (h | ⟨o, h⟩) | h
  · exact .inl (.inl (e _ _ h))
  · exact .inl (.inr ⟨o, e _ _ h⟩)
  · exact .inr h
theorem upd_keep {H : Hp} {p b : Addr} {o o' : HO} (n : H p = none) (h : H b = some o') : upd H p o b = some o' := (same_upd n) b o' h
theorem ne_new {H : Hp} {p b : Addr} {o : HO} (h : H b = some o) (n : H p = none) : b ≠ p := ne_of_none h n
/-- H' is H but at p -/
def But (p : Addr) (H H' : Hp) : Prop := ∀ b o, b ≠ p → H b = some o → H' b = some o
theorem But.refl {p : Addr} {H : Hp} : But p H H := fun _ _ _ h => h
theorem But.of {p : Addr} {H H' : Hp} (s : Same H H') : But p H H' := fun b o _ h => s b o h
theorem But.trans {p : Addr} {H H1 H2 : Hp} (a : But p H H1) (b : But p H1 H2) : But p H H2 := fun c o n h => b c o n (a c o n h)
theorem But.upd {p : Addr} {H H' : Hp} {o : HO} (a : But p H H') : But p H (upd H' p o) := fun b o n h => by rw [upd_ne n]; exact a b o n h
theorem But.same {p : Addr} {H H' : Hp} (a : But p H H') (n : H p = none) : Same H H' := fun b o h => a b o (ne_of_none h n) h
theorem But.tr2 {p : Addr} {H H1 H2 : Hp} (s : Same H H1) (n : H p = none) (a : But p H1 H2) : Same H H2 := fun b o h => a b o (ne_of_none h n) (s b o h)
/-! ### numbers -/
theorem cdivW {a b : Int} (h : 0 < b) (h2 : b < 2 ^ 8000) : CDivW a b := by
  refine ⟨h, ?_⟩
  have e : b.natAbs < 2 ^ 8000 := by
    have : ((b.natAbs : Nat) : Int) < ((2 ^ 8000 : Nat) : Int) := by
      rw [Int.natAbs_of_nonneg (Int.le_of_lt h)]
      exact_mod_cast h2
    exact_mod_cast this
  by_cases z : b.natAbs = 0
  · rw [z]; decide
  · exact Nat.lt_of_lt_of_le (Nat.log2_lt z |>.mpr e) (by decide)
theorem sz {n : Nat} (h : n ≤ 100000) : n ≤ sizeLine := Nat.le_trans h (by decide)
theorem szl {n : Nat} (h : n < 100000) : n < sizeLine := Nat.lt_of_lt_of_le h (by decide)
/-! ### loops -/
theorem for_l {K : PySem.W.Frag} {tl : TE} {g : TG} {tb : TS} {D : Ends} {σ : St} {H : Hp} {a : Addr} {xs : List V} (Pv : Nat → St → Hp → Prop) (hs : SqL K H a xs) (h0 : Pv 0 σ H) (hl : ∀ i σ H, i ≤ xs.length → Pv i σ H → SqL K H a xs)
    (turn : ∀ i x σ H, xs[i]? = some x → Pv i σ H → g x σ H fun σ2 H2 => tb { D with nx := Pv (i + 1), ct := Pv (i + 1), bk := D.nx } σ2 H2) (hd : ∀ σ H, Pv xs.length σ H → D.nx σ H) (e : ∀ R : V → Hp → Prop, R (.ref a) H → tl σ H R) : tFor (iList K tl) g tb D σ H := by
  refine g_for ?_
  refine e _ ⟨a, rfl, ⟨_, hs⟩, ?_⟩
  exact for_list (xs := xs) Pv h0 hl turn hd
theorem for_r {ta : TA} {g : TG} {tb : TS} {D : Ends} {σ : St} {H : Hp} {n : Int} (N : Nat) (en : n.toNat = N) (b1 : -(2 ^ 62) ≤ n) (b2 : n < 2 ^ 62) (Pv : Nat → St → Hp → Prop) (h0 : Pv 0 σ H)
    (turn : ∀ (i : Nat) σ H, i < N → Pv i σ H → g (.int (i : Int)) σ H fun σ2 H2 => tb { D with nx := Pv (i + 1), ct := Pv (i + 1), bk := D.nx } σ2 H2) (hd : ∀ σ H, Pv N σ H → D.nx σ H) (e : ∀ R : List V → Hp → Prop, R [.int n] H → ta σ H R) : tFor (iRng1 ta) g tb D σ H := by
  subst en
  refine g_for ?_
  refine e _ ⟨n, rfl, b1, b2, ?_⟩
  refine for_range (lo := 0) Pv h0 (fun i σ H hi p => ?_) hd
  have z := turn i σ H hi p
  rw [Int.zero_add]
  exact z
theorem g_nx {nx : St → Hp → Prop} {rt : VK} {bk ct : St → Hp → Prop} {σ : St} {H : Hp} (q : nx σ H) : (Ends.mk nx rt bk ct).nx σ H := q
theorem g_bkE {nx : St → Hp → Prop} {rt : VK} {bk ct : St → Hp → Prop} {σ : St} {H : Hp} (q : bk σ H) : (Ends.mk nx rt bk ct).bk σ H := q
theorem g_ctE {nx : St → Hp → Prop} {rt : VK} {bk ct : St → Hp → Prop} {σ : St} {H : Hp} (q : ct σ H) : (Ends.mk nx rt bk ct).ct σ H := q
theorem g_rt {nx : St → Hp → Prop} {rt : VK} {bk ct : St → Hp → Prop} {v : V} {H : Hp} (q : rt v H) : (Ends.mk nx rt bk ct).rt v H := q
/-- a cell of the script -/
def cell (ns : List Int) (k : Int) : Int := ns.getD k.toNat 0
theorem atI_map {ns : List Int} {k : Int} (h0 : 0 ≤ k) (h : k < (ns.length : Int)) : atI (ns.map V.int) k = some (.int (cell ns k)) := by
  have e : k = ((k.toNat : Nat) : Int) := by omega
  have hl : k.toNat < ns.length := by omega
  have e2 : cell ns k = ns[k.toNat] := by
    unfold cell
    rw [List.getD_eq_getElem?_getD, List.getElem?_eq_getElem hl]; rfl
  rw [e2]
  refine at_of e ?_
  rw [List.getElem?_map, List.getElem?_eq_getElem hl]; rfl
theorem cell_out {ns : List Int} {k : Int} (h : ¬ k < (ns.length : Int)) : cell ns k = 0 := by
  unfold cell
  rw [List.getD_eq_getElem?_getD, List.getElem?_eq_none (by omega)]; rfl
theorem atI_some {xs : List V} {i : Int} (h0 : 0 ≤ i) (h : i < (xs.length : Int)) : ∃ v, xs[i.toNat]? = some v ∧ atI xs i = some v := by
  have hl : i.toNat < xs.length := by omega
  exact ⟨xs[i.toNat], List.getElem?_eq_getElem hl, at_of (by omega) (List.getElem?_eq_getElem hl)⟩
theorem atI_ints {xs : List Int} {i : Int} (h0 : 0 ≤ i) (h : i < (xs.length : Int)) : ∃ n, atI (xs.map V.int) i = some (.int n) ∧ xs[i.toNat]? = some n := by
  have hl : i.toNat < xs.length := by omega
  refine ⟨xs[i.toNat], at_of (j := i.toNat) (by omega) ?_, List.getElem?_eq_getElem hl⟩
  rw [List.getElem?_map, List.getElem?_eq_getElem hl]; rfl
theorem g_dT {p A B : Prop} [Decidable p] (h : p) (q : A) : if decide p = true then A else B := by rw [decide_eq_true h]; exact iteT q
theorem g_dF {p A B : Prop} [Decidable p] (h : ¬ p) (q : B) : if decide p = true then A else B := by rw [decide_eq_false h]; exact iteF q
theorem g_nT {p A B : Prop} [Decidable p] (h : ¬ p) (q : A) : if (!decide p) = true then A else B := by rw [decide_eq_false h]; exact iteT q
theorem g_nF {p A B : Prop} [Decidable p] (h : p) (q : B) : if (!decide p) = true then A else B := by rw [decide_eq_true h]; exact iteF q
/-! ### comprehensions: the list ys, value by value -/
theorem g_yes {σ : St} {H : Hp} {P : Bool → Hp → Prop} (q : P true H) : tYes σ H P := q
theorem g_lc {wi : TI} {g : TG} {tt : TT} {te : TE} {vs : List Nat} {σ : St} {H : Hp} {Q : VK} (h : wi σ H fun J H1 => ∀ D, H1 D = none → ∃ W : Nat → Nat → Hp → Prop, (∃ m, W 0 m (upd H1 D (.lst []))) ∧ ∀ i m H, W i m H →
  (J.stop i H ∧ Q (.ref D) H) ∨ (J.go i H ∧ ∃ Nx : Hp → Prop, (∀ H', Nx H' → ∃ m', m' < m ∧ W (i + 1) m' H') ∧ ∀ x H', J.yld i H x H' → g x (wipe σ vs) H' fun σ2 H2 => wipe σ2 vs = wipe σ vs ∧ tt σ2 H2 fun b H3 =>
    if b = true then te σ2 H3 fun y H4 => ∃ acc, H4 D = some (.lst acc) ∧ acc.length < sizeLine ∧ Nx (upd H4 D (.lst (acc ++ [y]))) else Nx H3)) : tLc wi g tt te vs σ H Q := h
theorem g_revR {ta : TE} {σ : St} {H : Hp} {R : It → Hp → Prop} (h : ta σ H fun x H1 => ∃ n : Int, x = .int n ∧ -(2 ^ 62) ≤ (0 : Int) ∧ (0 : Int) < 2 ^ 62 ∧ -(2 ^ 62) ≤ n ∧ n < 2 ^ 62 ∧ R (Itc (0 + (((n - 0).toNat : Nat) : Int) - 1) (-1) (n - 0).toNat) H1) : iRevR (tRg1 ta) σ H R := h
theorem g_rng1 {ta : TA} {σ : St} {H : Hp} {R : It → Hp → Prop} (h : ta σ H fun vs H1 => ∃ j : Int, vs = [.int j] ∧ -(2 ^ 62) ≤ j ∧ j < 2 ^ 62 ∧ R (Itr 0 j.toNat) H1) : iRng1 ta σ H R := h
theorem g_iList {K : PySem.W.Frag} {tl : TE} {σ : St} {H : Hp} {R : It → Hp → Prop} (h : tl σ H fun x H1 => ∃ a, x = .ref a ∧ (∃ xs, SqL K H1 a xs) ∧ R (Itl K a) H1) : iList K tl σ H R := h
def LcP (H1 : Hp) (D : Addr) (ys : List V) (i : Nat) (H : Hp) : Prop := Same H1 H ∧ H D = some (.lst (ys.take i))
theorem lc_vals {J : It} {n : Nat} {G : Hp → Prop} {Y : Nat → Hp → V → Hp → Prop} (w : Walk J n G Y) (ys : List V) {g : TG} {tt : TT} {te : TE} {vs : List Nat} {σ : St} {H1 : Hp} {D : Addr} {Qd : Hp → Prop} (hD : H1 D = none) (hlen : ys.length = n) (hG : ∀ H, Same H1 H → G H)
    (hs : ∀ i x H H', i < n → LcP H1 D ys i H → Y i H x H' → g x (wipe σ vs) H' fun σ2 H2 => wipe σ2 vs = wipe σ vs ∧ tt σ2 H2 fun b H3 =>
      if b = true then te σ2 H3 fun y H4 => ∃ acc, H4 D = some (.lst acc) ∧ acc.length < sizeLine ∧ LcP H1 D ys (i + 1) (upd H4 D (.lst (acc ++ [y]))) else LcP H1 D ys (i + 1) H3)
    (hd : ∀ H, Same H1 H → H D = some (.lst ys) → Qd H) :
    ∃ W : Nat → Nat → Hp → Prop, (∃ m, W 0 m (upd H1 D (.lst []))) ∧ ∀ i m H, W i m H →
      (J.stop i H ∧ Qd H) ∨ (J.go i H ∧ ∃ Nx : Hp → Prop, (∀ H', Nx H' → ∃ m', m' < m ∧ W (i + 1) m' H') ∧ ∀ x H', J.yld i H x H' → g x (wipe σ vs) H' fun σ2 H2 => wipe σ2 vs = wipe σ vs ∧ tt σ2 H2 fun b H3 =>
        if b = true then te σ2 H3 fun y H4 => ∃ acc, H4 D = some (.lst acc) ∧ acc.length < sizeLine ∧ Nx (upd H4 D (.lst (acc ++ [y]))) else Nx H3) := by
  refine lc_it w (LcP H1 D ys) ⟨same_upd hD, by rw [upd_same]; rfl⟩ (fun i H _ p => hG H p.1) hs (fun H p => hd H p.1 ?_)
  have e := p.2
  rw [← hlen, List.take_length] at e
  exact e
theorem lc_next {H1 H4 : Hp} {D : Addr} {ys : List V} {i : Nat} {y : V} (hD : H1 D = none) (p : LcP H1 D ys i H4) (hz : ys.length ≤ 100000) (hy : ys[i]? = some y) :
    ∃ acc, H4 D = some (.lst acc) ∧ acc.length < sizeLine ∧ LcP H1 D ys (i + 1) (upd H4 D (.lst (acc ++ [y]))) := by
  refine ⟨_, p.2, ?_, ?_, ?_⟩
  · rw [List.length_take]
    obtain ⟨h, _⟩ := List.getElem?_eq_some_iff.mp hy
    exact szl (by omega)
  · exact (But.of p.1).upd.same hD
  · rw [upd_same, List.take_add_one, hy]
    rfl
theorem LcP.same {H1 H4 H5 : Hp} {D : Addr} {ys : List V} {i : Nat} (p : LcP H1 D ys i H4) (s : Same H4 H5) : LcP H1 D ys i H5 := ⟨p.1.trans s, s _ _ p.2⟩
theorem map_get {α : Type} {f : α → V} {xs : List α} {i : Nat} {y : V} (h : (xs.map f)[i]? = some y) : ∃ z, xs[i]? = some z ∧ y = f z := by
  rw [List.getElem?_map] at h
  cases e : xs[i]? with
  | none => rw [e] at h; cases h
  | some z => rw [e] at h; exact ⟨z, rfl, (Option.some.inj h).symm⟩
/-! ### == of lists of ints -/
section
variable {K : PySem.W.Frag} {H : Hp} {Q : VK}
theorem dpAll_ints : ∀ {ns : List Int}, DpAll K H (ns.map V.int) (ns.map PyData.int)
  | [] => .nil
  | n :: _ => .cons (.int n) dpAll_ints
theorem lay_ints : ∀ {ns : List Int}, PyData.canLayAll0 (ns.map PyData.int) = true
  | [] => rfl
  | _ :: ns => by
    show (true && PyData.canLayAll0 (ns.map PyData.int)) = true
    rw [lay_ints]; rfl
theorem depth_ints : ∀ {ns : List Int}, PyData.depthAll (ns.map PyData.int) = 0
  | [] => rfl
  | _ :: ns => by
    show max 0 (PyData.depthAll (ns.map PyData.int)) = 0
    rw [depth_ints]; rfl
theorem shaped_ints {ns : List Int} : SeqAt.shaped (.list (ns.map PyData.int)) = true := by
  show (PyData.canLayAll0 (ns.map PyData.int) && decide (PyData.depthAll (ns.map PyData.int) + 1 ≤ 64)) = true
  rw [lay_ints, depth_ints]; rfl
theorem eqvAll_ints : ∀ {ns ms : List Int}, PyData.eqvAll (ns.map PyData.int) (ms.map PyData.int) = decide (ns = ms)
  | [], [] => rfl
  | [], _ :: _ => rfl
  | _ :: _, [] => rfl
  | n :: ns, m :: ms => by
    show ((n == m) && PyData.eqvAll (ns.map PyData.int) (ms.map PyData.int)) = decide (n :: ns = m :: ms)
    rw [eqvAll_ints, Bool.eq_iff_iff]
    simp
theorem dp_ints {a : Addr} {ns : List Int} (h : SqL K H a (ns.map V.int)) : Dp K H (.ref a) (.list (ns.map PyData.int)) := .lst h dpAll_ints
theorem g_eqL {a b : Addr} {ns ms : List Int} (h1 : SqL K H a (ns.map V.int)) (h2 : SqL K H b (ms.map V.int)) (q : Q (.bl (decide (ns = ms))) H) : rEqD K (.ref a) (.ref b) H Q :=
  ⟨_, _, dp_ints h1, dp_ints h2, shaped_ints, shaped_ints, by rw [show PyData.eqv (.list (ns.map PyData.int)) (.list (ms.map PyData.int)) = decide (ns = ms) from eqvAll_ints]; exact q⟩
theorem g_neL {a b : Addr} {ns ms : List Int} (h1 : SqL K H a (ns.map V.int)) (h2 : SqL K H b (ms.map V.int)) (q : Q (.bl (!decide (ns = ms))) H) : rNeD K (.ref a) (.ref b) H Q :=
  ⟨_, _, dp_ints h1, dp_ints h2, shaped_ints, shaped_ints, by rw [show PyData.eqv (.list (ns.map PyData.int)) (.list (ms.map PyData.int)) = decide (ns = ms) from eqvAll_ints]; exact q⟩
theorem g_sum {a : Addr} {ns : List Int} (h : SqL K H a (ns.map V.int)) (q : Q (.int ns.sum) H) : rSum K [.ref a] H Q := ⟨a, ns, rfl, h, q⟩
end
theorem ixN_nat {n : Nat} {k : Int} (h0 : 0 ≤ k) (h : k < (n : Int)) : ixN n k = some k.toNat := by
  unfold ixN
  rw [if_pos h0, if_pos h]
theorem g_ref {a : Addr} {A : Addr → Prop} (q : A a) : ∃ b, V.ref a = .ref b ∧ A b := ⟨a, rfl, q⟩
/-! ### objects: the attributes by their places -/
def obj : List Str → List V → List (Str × V)
  | k :: ks, v :: vs => (k, v) :: obj ks vs
  | _, _ => []
theorem obj_len : ∀ (ks : List Str) (vs : List V), (obj ks vs).length ≤ ks.length
  | [], _ => Nat.zero_le _
  | _ :: _, [] => Nat.zero_le _
  | _ :: ks, _ :: vs => Nat.succ_le_succ (obj_len ks vs)
theorem obj_get : ∀ {ks : List Str} {vs : List V} {i : Nat} {k : Str}, ks.Nodup → ks[i]? = some k → (obj ks vs).lookup k = vs[i]?
  | [], _, _, _, _, h => by cases h
  | k0 :: ks, [], i, k, _, _ => by simp [obj]
  | k0 :: ks, v :: vs, 0, k, _, h => by
    have e : k0 = k := Option.some.inj h
    subst e
    simp [obj]
  | k0 :: ks, v :: vs, i + 1, k, nd, h => by
    have nd' := List.nodup_cons.mp nd
    have hk : k ∈ ks := List.mem_of_getElem? h
    have ne : (k == k0) = false := by
      rw [beq_eq_false_iff_ne]
      intro e
      subst e
      exact nd'.1 hk
    show List.lookup k ((k0, v) :: obj ks vs) = vs[i]?
    rw [List.lookup_cons, ne]
    exact obj_get nd'.2 h
theorem obj_none : ∀ {ks : List Str} {vs : List V} {k : Str}, k ∉ ks → (obj ks vs).lookup k = none
  | [], _, _, _ => rfl
  | _ :: _, [], _, _ => rfl
  | k0 :: ks, v :: vs, k, h => by
    have ne : (k == k0) = false := by
      rw [beq_eq_false_iff_ne]
      intro e
      subst e
      exact h (List.mem_cons_self ..)
    show List.lookup k ((k0, v) :: obj ks vs) = none
    rw [List.lookup_cons, ne]
    exact obj_none fun z => h (List.mem_cons_of_mem _ z)
theorem obj_put : ∀ {ks : List Str} {vs : List V} {i : Nat} {k : Str} {y : V}, ks.Nodup → ks[i]? = some k → i < vs.length → putF k y (obj ks vs) = obj ks (vs.set i y)
  | [], _, _, _, _, _, h, _ => by cases h
  | _ :: _, [], _, _, _, _, _, h => by simp at h
  | k0 :: ks, v :: vs, 0, k, y, _, h, _ => by
    have e : k0 = k := Option.some.inj h
    subst e
    show (if k0 = k0 then _ else _) = _
    rw [if_pos rfl]
    rfl
  | k0 :: ks, v :: vs, i + 1, k, y, nd, h, hl => by
    have nd' := List.nodup_cons.mp nd
    have hk : k ∈ ks := List.mem_of_getElem? h
    have ne : ¬ k0 = k := by
      intro e
      subst e
      exact nd'.1 hk
    show (if k0 = k then _ else (k0, v) :: putF k y (obj ks vs)) = (k0, v) :: obj ks (vs.set i y)
    rw [if_neg ne, obj_put nd'.2 h (by simpa using hl)]
theorem obj_new : ∀ {ks : List Str} {vs : List V} {k : Str} {y : V}, ks.Nodup → ks[vs.length]? = some k → putF k y (obj ks vs) = obj ks (vs ++ [y])
  | [], _, _, _, _, h => by simp at h
  | k0 :: ks, [], k, y, _, h => by
    have e : k0 = k := Option.some.inj h
    subst e
    show [(k0, y)] = obj (k0 :: ks) [y]
    cases ks <;> rfl
  | k0 :: ks, v :: vs, k, y, nd, h => by
    have nd' := List.nodup_cons.mp nd
    have h' : ks[vs.length]? = some k := h
    have hk : k ∈ ks := List.mem_of_getElem? h'
    have ne : ¬ k0 = k := by
      intro e
      subst e
      exact nd'.1 hk
    show (if k0 = k then _ else (k0, v) :: putF k y (obj ks vs)) = (k0, v) :: obj ks (vs ++ [y])
    rw [if_neg ne, obj_new nd'.2 h']
section
variable {K : PySem.W.Frag} {σ : St} {H : Hp} {Q : VK} {v y : V} {ta tv : TE} {D : Ends} {f m : Str} {a C dx : Addr} {ks : List Str} {vs : List V} {i : Nat}
theorem g_fld (h : ta σ H fun x H1 => ∃ a C dx fs v, x = .ref a ∧ H1 a = some (.ins C dx fs) ∧ Cls K C ∧ NoAttr K C f ∧ fs.lookup f = some v ∧ Q v H1) : tFld K ta f σ H Q := h
theorem g_fldE {A : V → Prop} (ho : H a = some (.ins C dx (obj ks vs))) (c : Cls K C) (n : NoAttr K C f) (nd : ks.Nodup) (hk : ks[i]? = some f) (hv : vs[i]? = some v) (q : A v) :
    ∃ a' C' dx' fs v', V.ref a = .ref a' ∧ H a' = some (.ins C' dx' fs) ∧ Cls K C' ∧ NoAttr K C' f ∧ fs.lookup f = some v' ∧ A v' := ⟨a, C, dx, _, v, rfl, ho, c, n, (obj_get nd hk).trans hv, q⟩
theorem g_sfld (h : tv σ H fun y H1 => ta σ H1 fun x H2 => ∃ a C dx fs, x = .ref a ∧ H2 a = some (.ins C dx fs) ∧ Cls K C ∧ NoAttr K C f ∧ fs.length < 1000 ∧ D.nx σ (upd H2 a (.ins C dx (putF f y fs)))) : sFld K ta tv f D σ H := h
theorem g_putE {A : Hp → Prop} (ho : H a = some (.ins C dx (obj ks vs))) (c : Cls K C) (n : NoAttr K C f) (nd : ks.Nodup) (h1 : ks.length < 1000) (hk : ks[i]? = some f) (hv : i < vs.length) (q : A (upd H a (.ins C dx (obj ks (vs.set i y))))) :
    ∃ a' C' dx' fs, V.ref a = .ref a' ∧ H a' = some (.ins C' dx' fs) ∧ Cls K C' ∧ NoAttr K C' f ∧ fs.length < 1000 ∧ A (upd H a' (.ins C' dx' (putF f y fs))) :=
  ⟨a, C, dx, _, rfl, ho, c, n, Nat.lt_of_le_of_lt (obj_len ks vs) h1, by rw [obj_put nd hk hv]; exact q⟩
theorem g_newE {A : Hp → Prop} (ho : H a = some (.ins C dx (obj ks vs))) (c : Cls K C) (n : NoAttr K C f) (nd : ks.Nodup) (h1 : ks.length < 1000) (hk : ks[vs.length]? = some f) (q : A (upd H a (.ins C dx (obj ks (vs ++ [y]))))) :
    ∃ a' C' dx' fs, V.ref a = .ref a' ∧ H a' = some (.ins C' dx' fs) ∧ Cls K C' ∧ NoAttr K C' f ∧ fs.length < 1000 ∧ A (upd H a' (.ins C' dx' (putF f y fs))) :=
  ⟨a, C, dx, _, rfl, ho, c, n, Nat.lt_of_le_of_lt (obj_len ks vs) h1, by rw [obj_new nd hk]; exact q⟩
theorem g_meth {sp : Sp} {dvs : List V} {E : XK} {t : TA} (h : ta σ H fun x H1 => ∃ a dx fs, x = .ref a ∧ H1 a = some (.ins C dx fs) ∧ fs.lookup m = none ∧ t σ H1 fun vs H2 => sp (x :: (vs ++ dvs)) H2 Q E) : tMeth C m sp dvs E ta t σ H Q := h
theorem g_methE {A : Prop} (ho : H a = some (.ins C dx (obj ks vs))) (no : m ∉ ks) (q : A) : ∃ a' dx' fs, V.ref a = .ref a' ∧ H a' = some (.ins C dx' fs) ∧ fs.lookup m = none ∧ A := ⟨a, dx, _, rfl, ho, obj_none no, q⟩
theorem g_make {sp : Sp} {dvs : List V} {E : XK} {t : TA} (h : t σ H fun vs H1 => ∀ x dx, H1 x = none → H1 dx = none → dx ≠ x → sp (.ref x :: (vs ++ dvs)) (upd (upd H1 dx (.own x)) x (.ins C dx [])) (fun v H2 => v = .non ∧ Q (.ref x) H2) E) : tMake C sp dvs E t σ H Q := h
theorem g_prop {sp : Sp} {dvs : List V} {E : XK} (h : ta σ H fun x H1 => ∃ a dx fs, x = .ref a ∧ H1 a = some (.ins C dx fs) ∧ sp (.ref a :: dvs) H1 Q E) : tProp C sp dvs E ta σ H Q := h
theorem g_propE {A : Addr → Prop} (ho : H a = some (.ins C dx (obj ks vs))) (q : A a) : ∃ a' dx' fs, V.ref a = .ref a' ∧ H a' = some (.ins C dx' fs) ∧ A a' := ⟨a, dx, _, rfl, ho, q⟩
theorem g_absE {A : Int → Prop} {n : Int} (q : A n) : ∃ i, [V.int n] = [V.int i] ∧ A i := ⟨n, rfl, q⟩
end
/-- a slice of ints -/
theorem cut_ints (ns : List Int) (lo hi : Option Int) : ∃ ms : List Int, cutV (ns.map V.int) lo hi = ms.map V.int ∧ ms.length ≤ ns.length := by
  unfold cutV
  refine ⟨(ns.drop (HT.sIx (ns.map V.int).length 0 lo)).take (HT.sIx (ns.map V.int).length (ns.map V.int).length hi - HT.sIx (ns.map V.int).length 0 lo), ?_, ?_⟩
  · rw [List.map_take, List.map_drop]
  · rw [List.length_take, List.length_drop]
    omega
theorem g_nameE {i : Nat} {v : V} {σ σ' : St} {H : Hp} {A : St → Hp → Prop} (e : σ.set i (some v) = σ') (q : A σ' H) : gName i v σ H A := by
  subst e
  exact q
theorem but_sq {K : PySem.W.Frag} {p : Addr} {H H' : Hp} {a : Addr} {xs : List V} (e : But p H H') (n : a ≠ p) (h : SqL K H a xs) : SqL K H' a xs := by
  rcases h with (h | ⟨o, h⟩) | h
  · exact .inl (.inl (e _ _ n h))
  · exact .inl (.inr ⟨o, e _ _ n h⟩)
  · exact .inr h
theorem g_star {K : PySem.W.Frag} {te : TE} {t : TA} {σ : St} {H : Hp} {Q : List V → Hp → Prop} (h : te σ H fun x H1 => ∃ p xs, x = V.ref p ∧ (SqT K H1 p xs ∨ SqL K H1 p xs) ∧ t σ H1 fun ys H2 => Q (xs ++ ys) H2) : StX.tStar K te t σ H Q := h
theorem g_while {c : TT} {tb : TS} {D : Ends} {σ : St} {H : Hp} (W : Nat → St → Hp → Prop) (h0 : ∃ m, W m σ H) (h : ∀ m σ H, W m σ H → c σ H fun b H1 => if b = true then ∃ N : St → Hp → Prop, (∀ σ' H', N σ' H' → ∃ m', m' < m ∧ W m' σ' H') ∧ tb { D with nx := N, ct := N, bk := D.nx } σ H1 else D.nx σ H1) : tWhile c tb D σ H := ⟨W, h0, h⟩
theorem g_cut {t u : TS} {D : Ends} {σ : St} {H : Hp} (Mid : St → Hp → Prop) (h1 : t { D with nx := Mid } σ H) (h2 : ∀ σ' H', Mid σ' H' → u D σ' H') : C8.tCut t u D σ H := ⟨Mid, h1, h2⟩
theorem g_min {K : PySem.W.Frag} {a : Addr} {ns : List Int} {H : Hp} {Q : VK} (h : SqL K H a (ns.map V.int)) (h0 : 0 < ns.length) (q : ∀ m, m ∈ ns → (∀ y, y ∈ ns → m ≤ y) → Q (.int m) H) : rMin K [.ref a] H Q := ⟨a, ns, rfl, h, h0, q⟩
theorem g_max {K : PySem.W.Frag} {a : Addr} {ns : List Int} {H : Hp} {Q : VK} (h : SqL K H a (ns.map V.int)) (h0 : 0 < ns.length) (q : ∀ m, m ∈ ns → (∀ y, y ∈ ns → y ≤ m) → Q (.int m) H) : rMax K [.ref a] H Q := ⟨a, ns, rfl, h, h0, q⟩
theorem atI_nat' {xs : List V} {i : Int} {j : Nat} {v : V} (e : i = (j : Int)) (h : xs[j]? = some v) : atI xs i = some v := at_of e h
theorem ixN_last {n : Nat} (h : 0 < n) : ixN n (-1) = some (n - 1) := by
  unfold ixN
  rw [if_neg (by decide), if_pos (by omega)]
  congr 1
  omega
theorem atI_neg1 {xs : List V} {v : V} (h : xs[xs.length - 1]? = some v) : atI xs (-1) = some v := by
  obtain ⟨hl, _⟩ := List.getElem?_eq_some_iff.mp h
  unfold atI
  rw [ixN_last (by omega)]
  exact h
theorem snoc_of {α : Type} {xs : List α} (h : 0 < xs.length) : ∃ a x, xs = a ++ [x] :=
  ⟨xs.dropLast, xs.getLast (List.ne_nil_of_length_pos h), (List.dropLast_concat_getLast _).symm⟩
theorem set_last {α : Type} {a : List α} {x y : α} : (a ++ [x]).set a.length y = a ++ [y] := by
  rw [List.set_append_right _ _ (Nat.le_refl _), Nat.sub_self]
  rfl
end My
namespace My
open PySem PySem.Spec L2
local macro_rules | `(tactic| walk_at "side") => `(tactic| first | assumption | decide | omega | exact ⟨by decide, by decide⟩ | exact ⟨by decide, by decide, by decide⟩ | decide +kernel | exact cdivW (by decide +kernel) (by decide +kernel) | exact Or.inl ⟨by omega, by omega⟩ | exact Or.inr ⟨by omega, by omega⟩ | (simp only [List.length_map, List.length_cons, List.length_nil, List.length_append]; omega))
local macro_rules | `(tactic| walk_at "fact") => `(tactic| first | assumption | omega | with_reducible rfl)
local macro_rules | `(tactic| walk_at "use") => `(tactic| fail "use")
local macro_rules | `(tactic| walk_at "go1") => `(tactic| with_reducible first | refine g_seq ?_ | refine g_asg ?_ | refine g_ret ?_ | refine g_ifS ?_ | refine g_drop ?_ | refine g_star ?_ | refine g_nx ?_ | refine g_rt ?_ | refine g_bkE ?_ | refine g_ctE ?_ | refine g_next ?_ | refine g_retN ?_ | refine g_brk ?_ | refine g_ct ?_ | refine g_c ?_ | refine g_op ?_ | refine g_un ?_ | refine g_rI0 ?_ | refine g_rU ?_ | refine g_rEqI ?_ | refine g_rNeI ?_ | refine g_isN ?_ | refine g_rIsB ?_ | refine g_rNotB ?_ | refine g_test ?_ | refine g_B ?_ | refine g_bl ?_ | refine g_and ?_ | refine g_or ?_ | refine g_not ?_ | refine g_andV ?_ | refine g_orV ?_ | refine g_notV ?_ | refine g_if ?_ | refine g_chain ?_ | refine g_yes ?_ | refine g_lc ?_ | refine g_revR ?_ | refine g_rng1 ?_ | refine g_iList ?_ | refine g_nil ?_ | refine g_cons ?_ | refine g_tup ?_ | refine g_lst ?_ | refine g_call ?_ | refine g_CB ?_ | refine g_sl ?_ | refine g_noPart ?_ | refine g_part ?_ | refine g_intE ?_ | refine g_ref ?_ | refine g_fld ?_ | refine g_sfld ?_ | refine g_meth ?_ | refine g_make ?_ | refine g_prop ?_  | refine g_ipI ?_ | refine g_int1 ?_ | refine g_int1B ?_ | refine g_one ?_ | refine g_two ?_ | refine g_isiI ?_ | refine g_isiIB ?_ | refine g_isiB ?_ | refine g_BM ?_ | refine g_BM0 ?_ | refine g_sub ?_)
local macro_rules | `(tactic| walk_at "go") => `(tactic| repeat (first | walk_at "go1" | ((with_reducible refine' g_nameE ?sd_ ?_); case sd_ => dsimp only [List.set_cons_succ, List.set_cons_zero]) | ((with_reducible refine' g_var ?sd_ ?_); case sd_ => exact rfl) | ((with_reducible refine' g_aug ?sd_ ?_); case sd_ => exact rfl) | ((with_reducible refine' g_rI ?sd_ ?_); case sd_ => walk_at "side") | ((with_reducible refine' g_dT ?sd_ ?_); case sd_ => walk_at "fact") | ((with_reducible refine' g_dF ?sd_ ?_); case sd_ => walk_at "fact") | ((with_reducible refine' g_nT ?sd_ ?_); case sd_ => walk_at "fact") | ((with_reducible refine' g_nF ?sd_ ?_); case sd_ => walk_at "fact") | (with_reducible refine g_iT rfl ?_) | (with_reducible refine g_iF rfl ?_) | walk_at "use"))
def topS (i : Nat) : Stmt := PySem.Challenge.pw_throughline_k69_findings_in_packets.main.body.getD i (.Pass ⟨0, 0, 0, 0⟩)
abbrev s_Finding_init__ : Stmt := inClass (topS 2) 0
abbrev s_Finding_eq__ : Stmt := inClass (topS 2) 1
abbrev s_judge_packets : Stmt := topS 10
abbrev s_PacketJudge_init__ : Stmt := inClass (topS 11) 0
abbrev s_PacketJudge_problems_of : Stmt := inClass (topS 11) 1
abbrev s_PacketJudge_problems_under_way : Stmt := inClass (topS 11) 2
abbrev s_PacketJudge_learn : Stmt := inClass (topS 11) 3
abbrev s_is_same : Stmt := topS 12
abbrev s_Packet_init__ : Stmt := inClass (topS 14) 0
abbrev s_Packet_fork : Stmt := inClass (topS 14) 2
abbrev s_Record_init__ : Stmt := inClass (topS 16) 0
abbrev s_l_cell : Stmt := topS 18
abbrev s_l_is_integer : Stmt := topS 19
abbrev s_l_start : Stmt := topS 20
abbrev s_l_digit : Stmt := topS 21
abbrev s_l_row : Stmt := topS 22
abbrev s_l_first : Stmt := topS 23
abbrev s_l_copies : Stmt := topS 24
abbrev s_l_problems : Stmt := topS 25
abbrev s_l_record : Stmt := topS 26
abbrev s_law : Stmt := topS 27
theorem sc_Finding_init__ : FnScope ["self", "index", "problem"] ["self", "index", "problem"] (defScope s_Finding_init__) := ⟨rfl, rfl, rfl, by decide +kernel, rfl, by decide +kernel, by decide +kernel⟩
theorem sc_Finding_eq__ : FnScope ["self", "other"] ["self", "other"] (defScope s_Finding_eq__) := ⟨rfl, rfl, rfl, by decide +kernel, rfl, by decide +kernel, by decide +kernel⟩
theorem sc_judge_packets : FnScope ["records", "life", "judge", "findings", "index", "record", "problem"] ["records", "life"] (defScope s_judge_packets) := ⟨rfl, rfl, rfl, by decide +kernel, rfl, by decide +kernel, by decide +kernel⟩
theorem sc_PacketJudge_init__ : FnScope ["self", "life"] ["self", "life"] (defScope s_PacketJudge_init__) := ⟨rfl, rfl, rfl, by decide +kernel, rfl, by decide +kernel, by decide +kernel⟩
theorem sc_PacketJudge_problems_of : FnScope ["self", "record", "problems"] ["self", "record"] (defScope s_PacketJudge_problems_of) := ⟨rfl, rfl, rfl, by decide +kernel, rfl, by decide +kernel, by decide +kernel⟩
theorem sc_PacketJudge_problems_under_way : FnScope ["self", "record", "first", "problems"] ["self", "record"] (defScope s_PacketJudge_problems_under_way) := ⟨rfl, rfl, rfl, by decide +kernel, rfl, by decide +kernel, by decide +kernel⟩
theorem sc_PacketJudge_learn : FnScope ["self", "record", "number", "copies"] ["self", "record"] (defScope s_PacketJudge_learn) := ⟨rfl, rfl, rfl, by decide +kernel, rfl, by decide +kernel, by decide +kernel⟩
theorem sc_is_same : FnScope ["first", "packet"] ["first", "packet"] (defScope s_is_same) := ⟨rfl, rfl, rfl, by decide +kernel, rfl, by decide +kernel, by decide +kernel⟩
theorem sc_Packet_init__ : FnScope ["self", "sender", "target", "octets", "marked"] ["self", "sender", "target", "octets", "marked"] (defScope s_Packet_init__) := ⟨rfl, rfl, rfl, by decide +kernel, rfl, by decide +kernel, by decide +kernel⟩
theorem sc_Packet_fork : FnScope ["self"] ["self"] (defScope s_Packet_fork) := ⟨rfl, rfl, rfl, by decide +kernel, rfl, by decide +kernel, by decide +kernel⟩
theorem sc_Record_init__ : FnScope ["self", "tick", "number", "word", "packet"] ["self", "tick", "number", "word", "packet"] (defScope s_Record_init__) := ⟨rfl, rfl, rfl, by decide +kernel, rfl, by decide +kernel, by decide +kernel⟩
theorem sc_l_cell : FnScope ["script", "k"] ["script", "k"] (defScope s_l_cell) := ⟨rfl, rfl, rfl, by decide +kernel, rfl, by decide +kernel, by decide +kernel⟩
theorem sc_l_is_integer : FnScope ["told"] ["told"] (defScope s_l_is_integer) := ⟨rfl, rfl, rfl, by decide +kernel, rfl, by decide +kernel, by decide +kernel⟩
theorem sc_l_start : FnScope ["cell", "k", "prime", "mixed"] ["cell", "k"] (defScope s_l_start) := ⟨rfl, rfl, rfl, by decide +kernel, rfl, by decide +kernel, by decide +kernel⟩
theorem sc_l_digit : FnScope ["state", "many", "digit"] ["state", "many"] (defScope s_l_digit) := ⟨rfl, rfl, rfl, by decide +kernel, rfl, by decide +kernel, by decide +kernel⟩
theorem sc_l_row : FnScope ["cell", "k", "marks", "state", "word", "number", "kind", "packet"] ["cell", "k", "marks"] (defScope s_l_row) := ⟨rfl, rfl, rfl, by decide +kernel, rfl, by decide +kernel, by decide +kernel⟩
theorem sc_l_first : FnScope ["rows", "number", "row"] ["rows", "number"] (defScope s_l_first) := ⟨rfl, rfl, rfl, by decide +kernel, rfl, by decide +kernel, by decide +kernel⟩
theorem sc_l_copies : FnScope ["rows", "number", "copies", "seen", "row"] ["rows", "number"] (defScope s_l_copies) := ⟨rfl, rfl, rfl, by decide +kernel, rfl, by decide +kernel, by decide +kernel⟩
theorem sc_l_problems : FnScope ["rows", "row", "life", "due", "sent", "first", "other"] ["rows", "row", "life"] (defScope s_l_problems) := ⟨rfl, rfl, rfl, by decide +kernel, rfl, by decide +kernel, by decide +kernel⟩
theorem sc_l_record : FnScope ["row"] ["row"] (defScope s_l_record) := ⟨rfl, rfl, rfl, by decide +kernel, rfl, by decide +kernel, by decide +kernel⟩
theorem sc_law : FnScope ["script", "life", "rows", "due", "marks", "k", "row", "problem", "told"] ["script"] (defScope s_law) := ⟨rfl, rfl, rfl, by decide +kernel, rfl, by decide +kernel, by decide +kernel⟩
structure Txt (K : PySem.W.Frag) (mg : Str → Option Value) where
  t_TICK_BACK : Tok
  t_WRONG_NUMBER : Tok
  t_NOT_UNDER_WAY : Tok
  t_OTHER_PACKET : Tok
  t_TOO_YOUNG : Tok
  t_TOO_OLD : Tok
  C_Finding : Addr
  C_PacketJudge : Addr
  C_Packet : Addr
  C_Record : Addr
  f_Finding_init__ : Addr
  d_Finding_init__ : FuncData
  f_Finding_eq__ : Addr
  d_Finding_eq__ : FuncData
  f_judge_packets : Addr
  d_judge_packets : FuncData
  f_PacketJudge_init__ : Addr
  d_PacketJudge_init__ : FuncData
  f_PacketJudge_problems_of : Addr
  d_PacketJudge_problems_of : FuncData
  f_PacketJudge_problems_under_way : Addr
  d_PacketJudge_problems_under_way : FuncData
  f_PacketJudge_learn : Addr
  d_PacketJudge_learn : FuncData
  f_is_same : Addr
  d_is_same : FuncData
  f_Packet_init__ : Addr
  d_Packet_init__ : FuncData
  f_Packet_fork : Addr
  d_Packet_fork : FuncData
  f_Record_init__ : Addr
  d_Record_init__ : FuncData
  f_l_cell : Addr
  d_l_cell : FuncData
  f_l_is_integer : Addr
  d_l_is_integer : FuncData
  f_l_start : Addr
  d_l_start : FuncData
  f_l_digit : Addr
  d_l_digit : FuncData
  f_l_row : Addr
  d_l_row : FuncData
  f_l_first : Addr
  d_l_first : FuncData
  f_l_copies : Addr
  d_l_copies : FuncData
  f_l_problems : Addr
  d_l_problems : FuncData
  f_l_record : Addr
  d_l_record : FuncData
  f_law : Addr
  d_law : FuncData
  v_TICK_BACK : mg "TICK_BACK" = some (.str (PySem.Str.ofString "the tick goes back") t_TICK_BACK)
  v_WRONG_NUMBER : mg "WRONG_NUMBER" = some (.str (PySem.Str.ofString "the number is not the next one") t_WRONG_NUMBER)
  v_NOT_UNDER_WAY : mg "NOT_UNDER_WAY" = some (.str (PySem.Str.ofString "the packet is not under way") t_NOT_UNDER_WAY)
  v_OTHER_PACKET : mg "OTHER_PACKET" = some (.str (PySem.Str.ofString "the packet is not the one that was sent") t_OTHER_PACKET)
  v_TOO_YOUNG : mg "TOO_YOUNG" = some (.str (PySem.Str.ofString "the packet is too young to expire") t_TOO_YOUNG)
  v_TOO_OLD : mg "TOO_OLD" = some (.str (PySem.Str.ofString "the packet is too old") t_TOO_OLD)
  c_Finding : mg "Finding" = some (.ref C_Finding)
  k_Finding : Cls K C_Finding
  i_Finding : ∀ {H : Hp} {a dx : Addr} {fs : List (Str × V)}, H a = some (.ins C_Finding dx fs) → TyOf K H (.ref a) (.ref C_Finding)
  q_Finding : PySem.W.subIn K (.type "int") (.ref C_Finding) = some false
  ki_Finding : PySem.W.kitOne K (.type "int") (.ref C_Finding) = some false
  n_Finding_index : NoAttr K C_Finding "index"
  n_Finding_problem : NoAttr K C_Finding "problem"
  c_PacketJudge : mg "PacketJudge" = some (.ref C_PacketJudge)
  k_PacketJudge : Cls K C_PacketJudge
  n_PacketJudge__life : NoAttr K C_PacketJudge "_life"
  n_PacketJudge__tick_before : NoAttr K C_PacketJudge "_tick_before"
  n_PacketJudge__last : NoAttr K C_PacketJudge "_last"
  n_PacketJudge__first : NoAttr K C_PacketJudge "_first"
  n_PacketJudge__copies : NoAttr K C_PacketJudge "_copies"
  c_Packet : mg "Packet" = some (.ref C_Packet)
  k_Packet : Cls K C_Packet
  i_Packet : ∀ {H : Hp} {a dx : Addr} {fs : List (Str × V)}, H a = some (.ins C_Packet dx fs) → TyOf K H (.ref a) (.ref C_Packet)
  n_Packet_sender : NoAttr K C_Packet "sender"
  n_Packet_target : NoAttr K C_Packet "target"
  n_Packet_octets : NoAttr K C_Packet "octets"
  n_Packet_marked : NoAttr K C_Packet "marked"
  c_Record : mg "Record" = some (.ref C_Record)
  k_Record : Cls K C_Record
  i_Record : ∀ {H : Hp} {a dx : Addr} {fs : List (Str × V)}, H a = some (.ins C_Record dx fs) → TyOf K H (.ref a) (.ref C_Record)
  n_Record_tick : NoAttr K C_Record "tick"
  n_Record_number : NoAttr K C_Record "number"
  n_Record_word : NoAttr K C_Record "word"
  n_Record_packet : NoAttr K C_Record "packet"
  F_Finding_init__ : Fun K "__init__" "Finding.__init__" s_Finding_init__ f_Finding_init__ d_Finding_init__
  b_Finding_init__ : Binds K d_Finding_init__ ["self", "index", "problem"] []
  mk_Finding : Mk K C_Finding f_Finding_init__
  F_Finding_eq__ : Fun K "__eq__" "Finding.__eq__" s_Finding_eq__ f_Finding_eq__ d_Finding_eq__
  b_Finding_eq__ : Binds K d_Finding_eq__ ["self", "other"] []
  a_Finding_eq__ : Meth K C_Finding "__eq__" f_Finding_eq__
  F_judge_packets : FunD K "judge_packets" "judge_packets" (defArgs s_judge_packets) (defBody s_judge_packets) (defScope s_judge_packets) [] [] f_judge_packets d_judge_packets
  m_judge_packets : mg "judge_packets" = some (.ref f_judge_packets)
  F_PacketJudge_init__ : Fun K "__init__" "PacketJudge.__init__" s_PacketJudge_init__ f_PacketJudge_init__ d_PacketJudge_init__
  b_PacketJudge_init__ : Binds K d_PacketJudge_init__ ["self", "life"] []
  mk_PacketJudge : Mk K C_PacketJudge f_PacketJudge_init__
  F_PacketJudge_problems_of : Fun K "problems_of" "PacketJudge.problems_of" s_PacketJudge_problems_of f_PacketJudge_problems_of d_PacketJudge_problems_of
  b_PacketJudge_problems_of : Binds K d_PacketJudge_problems_of ["self", "record"] []
  a_PacketJudge_problems_of : Meth K C_PacketJudge "problems_of" f_PacketJudge_problems_of
  F_PacketJudge_problems_under_way : Fun K "_problems_under_way" "PacketJudge._problems_under_way" s_PacketJudge_problems_under_way f_PacketJudge_problems_under_way d_PacketJudge_problems_under_way
  b_PacketJudge_problems_under_way : Binds K d_PacketJudge_problems_under_way ["self", "record"] []
  a_PacketJudge_problems_under_way : Meth K C_PacketJudge "_problems_under_way" f_PacketJudge_problems_under_way
  F_PacketJudge_learn : Fun K "_learn" "PacketJudge._learn" s_PacketJudge_learn f_PacketJudge_learn d_PacketJudge_learn
  b_PacketJudge_learn : Binds K d_PacketJudge_learn ["self", "record"] []
  a_PacketJudge_learn : Meth K C_PacketJudge "_learn" f_PacketJudge_learn
  F_is_same : Fun K "_is_same" "_is_same" s_is_same f_is_same d_is_same
  b_is_same : Binds K d_is_same ["first", "packet"] []
  m_is_same : mg "_is_same" = some (.ref f_is_same)
  F_Packet_init__ : FunD K "__init__" "Packet.__init__" (defArgs s_Packet_init__) (defBody s_Packet_init__) (defScope s_Packet_init__) [] [("marked", .bl false)] f_Packet_init__ d_Packet_init__
  mk_Packet : Mk K C_Packet f_Packet_init__
  F_Packet_fork : Fun K "fork" "Packet.fork" s_Packet_fork f_Packet_fork d_Packet_fork
  b_Packet_fork : Binds K d_Packet_fork ["self"] []
  a_Packet_fork : Meth K C_Packet "fork" f_Packet_fork
  F_Record_init__ : Fun K "__init__" "Record.__init__" s_Record_init__ f_Record_init__ d_Record_init__
  b_Record_init__ : Binds K d_Record_init__ ["self", "tick", "number", "word", "packet"] []
  mk_Record : Mk K C_Record f_Record_init__
  F_l_cell : Fun K "_law_cell" "_law_cell" s_l_cell f_l_cell d_l_cell
  b_l_cell : Binds K d_l_cell ["script", "k"] []
  m_l_cell : mg "_law_cell" = some (.ref f_l_cell)
  F_l_is_integer : Fun K "_law_is_integer" "_law_is_integer" s_l_is_integer f_l_is_integer d_l_is_integer
  b_l_is_integer : Binds K d_l_is_integer ["told"] []
  m_l_is_integer : mg "_law_is_integer" = some (.ref f_l_is_integer)
  F_l_start : Fun K "_law_start" "_law_start" s_l_start f_l_start d_l_start
  b_l_start : Binds K d_l_start ["cell", "k"] []
  m_l_start : mg "_law_start" = some (.ref f_l_start)
  F_l_digit : Fun K "_law_digit" "_law_digit" s_l_digit f_l_digit d_l_digit
  b_l_digit : Binds K d_l_digit ["state", "many"] []
  m_l_digit : mg "_law_digit" = some (.ref f_l_digit)
  F_l_row : Fun K "_law_row" "_law_row" s_l_row f_l_row d_l_row
  b_l_row : Binds K d_l_row ["cell", "k", "marks"] []
  m_l_row : mg "_law_row" = some (.ref f_l_row)
  F_l_first : Fun K "_law_first" "_law_first" s_l_first f_l_first d_l_first
  b_l_first : Binds K d_l_first ["rows", "number"] []
  m_l_first : mg "_law_first" = some (.ref f_l_first)
  F_l_copies : Fun K "_law_copies" "_law_copies" s_l_copies f_l_copies d_l_copies
  b_l_copies : Binds K d_l_copies ["rows", "number"] []
  m_l_copies : mg "_law_copies" = some (.ref f_l_copies)
  F_l_problems : Fun K "_law_problems" "_law_problems" s_l_problems f_l_problems d_l_problems
  b_l_problems : Binds K d_l_problems ["rows", "row", "life"] []
  m_l_problems : mg "_law_problems" = some (.ref f_l_problems)
  F_l_record : Fun K "_law_record" "_law_record" s_l_record f_l_record d_l_record
  b_l_record : Binds K d_l_record ["row"] []
  m_l_record : mg "_law_record" = some (.ref f_l_record)
  F_law : Fun K "law" "law" s_law f_law d_law
  b_law : Binds K d_law ["script"] []
  m_law : mg "law" = some (.ref f_law)
  n_bool : mg "bool" = none
  n_enumerate : mg "enumerate" = none
  n_int : mg "int" = none
  n_isinstance : mg "isinstance" = none
  n_len : mg "len" = none
  n_list : mg "list" = none
  n_max : mg "max" = none
  n_min : mg "min" = none
  n_range : mg "range" = none
def ky_Finding : List Str := ["index", "problem"]
theorem nd_Finding : ky_Finding.Nodup := by decide +kernel
section
variable {K : PySem.W.Frag} {mg : Str → Option Value} {T : Txt K mg} {H : Hp} {a dx : Addr} {vs : List V} {v y : V}
theorem fd_Finding_index {A : V → Prop} (ho : H a = some (.ins T.C_Finding dx (obj ky_Finding vs))) (hv : vs[0]? = some v) (q : A v) : ∃ a' C' dx' fs v', V.ref a = .ref a' ∧ H a' = some (.ins C' dx' fs) ∧ Cls K C' ∧ NoAttr K C' "index" ∧ fs.lookup ("index" : Str) = some v' ∧ A v' := g_fldE ho T.k_Finding T.n_Finding_index nd_Finding rfl hv q
theorem st_Finding_index {A : Hp → Prop} (ho : H a = some (.ins T.C_Finding dx (obj ky_Finding vs))) (hv : 0 < vs.length) (q : A (upd H a (.ins T.C_Finding dx (obj ky_Finding (vs.set 0 y))))) : ∃ a' C' dx' fs, V.ref a = .ref a' ∧ H a' = some (.ins C' dx' fs) ∧ Cls K C' ∧ NoAttr K C' "index" ∧ fs.length < 1000 ∧ A (upd H a' (.ins C' dx' (putF "index" y fs))) := g_putE ho T.k_Finding T.n_Finding_index nd_Finding (by decide) rfl hv q
theorem nw_Finding_index {A : Hp → Prop} (ho : H a = some (.ins T.C_Finding dx (obj ky_Finding vs))) (hv : vs.length = 0) (q : A (upd H a (.ins T.C_Finding dx (obj ky_Finding (vs ++ [y]))))) : ∃ a' C' dx' fs, V.ref a = .ref a' ∧ H a' = some (.ins C' dx' fs) ∧ Cls K C' ∧ NoAttr K C' "index" ∧ fs.length < 1000 ∧ A (upd H a' (.ins C' dx' (putF "index" y fs))) := g_newE ho T.k_Finding T.n_Finding_index nd_Finding (by decide) (by rw [hv]; rfl) q
theorem fd_Finding_problem {A : V → Prop} (ho : H a = some (.ins T.C_Finding dx (obj ky_Finding vs))) (hv : vs[1]? = some v) (q : A v) : ∃ a' C' dx' fs v', V.ref a = .ref a' ∧ H a' = some (.ins C' dx' fs) ∧ Cls K C' ∧ NoAttr K C' "problem" ∧ fs.lookup ("problem" : Str) = some v' ∧ A v' := g_fldE ho T.k_Finding T.n_Finding_problem nd_Finding rfl hv q
theorem st_Finding_problem {A : Hp → Prop} (ho : H a = some (.ins T.C_Finding dx (obj ky_Finding vs))) (hv : 1 < vs.length) (q : A (upd H a (.ins T.C_Finding dx (obj ky_Finding (vs.set 1 y))))) : ∃ a' C' dx' fs, V.ref a = .ref a' ∧ H a' = some (.ins C' dx' fs) ∧ Cls K C' ∧ NoAttr K C' "problem" ∧ fs.length < 1000 ∧ A (upd H a' (.ins C' dx' (putF "problem" y fs))) := g_putE ho T.k_Finding T.n_Finding_problem nd_Finding (by decide) rfl hv q
theorem nw_Finding_problem {A : Hp → Prop} (ho : H a = some (.ins T.C_Finding dx (obj ky_Finding vs))) (hv : vs.length = 1) (q : A (upd H a (.ins T.C_Finding dx (obj ky_Finding (vs ++ [y]))))) : ∃ a' C' dx' fs, V.ref a = .ref a' ∧ H a' = some (.ins C' dx' fs) ∧ Cls K C' ∧ NoAttr K C' "problem" ∧ fs.length < 1000 ∧ A (upd H a' (.ins C' dx' (putF "problem" y fs))) := g_newE ho T.k_Finding T.n_Finding_problem nd_Finding (by decide) (by rw [hv]; rfl) q
theorem me_Finding_eq__ {A : Prop} (ho : H a = some (.ins T.C_Finding dx (obj ky_Finding vs))) (q : A) : ∃ a' dx' fs, V.ref a = .ref a' ∧ H a' = some (.ins T.C_Finding dx' fs) ∧ fs.lookup ("__eq__" : Str) = none ∧ A := g_methE ho (by decide +kernel) q
end
def ky_PacketJudge : List Str := ["_life", "_tick_before", "_last", "_first", "_copies"]
theorem nd_PacketJudge : ky_PacketJudge.Nodup := by decide +kernel
section
variable {K : PySem.W.Frag} {mg : Str → Option Value} {T : Txt K mg} {H : Hp} {a dx : Addr} {vs : List V} {v y : V}
theorem fd_PacketJudge__life {A : V → Prop} (ho : H a = some (.ins T.C_PacketJudge dx (obj ky_PacketJudge vs))) (hv : vs[0]? = some v) (q : A v) : ∃ a' C' dx' fs v', V.ref a = .ref a' ∧ H a' = some (.ins C' dx' fs) ∧ Cls K C' ∧ NoAttr K C' "_life" ∧ fs.lookup ("_life" : Str) = some v' ∧ A v' := g_fldE ho T.k_PacketJudge T.n_PacketJudge__life nd_PacketJudge rfl hv q
theorem st_PacketJudge__life {A : Hp → Prop} (ho : H a = some (.ins T.C_PacketJudge dx (obj ky_PacketJudge vs))) (hv : 0 < vs.length) (q : A (upd H a (.ins T.C_PacketJudge dx (obj ky_PacketJudge (vs.set 0 y))))) : ∃ a' C' dx' fs, V.ref a = .ref a' ∧ H a' = some (.ins C' dx' fs) ∧ Cls K C' ∧ NoAttr K C' "_life" ∧ fs.length < 1000 ∧ A (upd H a' (.ins C' dx' (putF "_life" y fs))) := g_putE ho T.k_PacketJudge T.n_PacketJudge__life nd_PacketJudge (by decide) rfl hv q
theorem nw_PacketJudge__life {A : Hp → Prop} (ho : H a = some (.ins T.C_PacketJudge dx (obj ky_PacketJudge vs))) (hv : vs.length = 0) (q : A (upd H a (.ins T.C_PacketJudge dx (obj ky_PacketJudge (vs ++ [y]))))) : ∃ a' C' dx' fs, V.ref a = .ref a' ∧ H a' = some (.ins C' dx' fs) ∧ Cls K C' ∧ NoAttr K C' "_life" ∧ fs.length < 1000 ∧ A (upd H a' (.ins C' dx' (putF "_life" y fs))) := g_newE ho T.k_PacketJudge T.n_PacketJudge__life nd_PacketJudge (by decide) (by rw [hv]; rfl) q
theorem fd_PacketJudge__tick_before {A : V → Prop} (ho : H a = some (.ins T.C_PacketJudge dx (obj ky_PacketJudge vs))) (hv : vs[1]? = some v) (q : A v) : ∃ a' C' dx' fs v', V.ref a = .ref a' ∧ H a' = some (.ins C' dx' fs) ∧ Cls K C' ∧ NoAttr K C' "_tick_before" ∧ fs.lookup ("_tick_before" : Str) = some v' ∧ A v' := g_fldE ho T.k_PacketJudge T.n_PacketJudge__tick_before nd_PacketJudge rfl hv q
theorem st_PacketJudge__tick_before {A : Hp → Prop} (ho : H a = some (.ins T.C_PacketJudge dx (obj ky_PacketJudge vs))) (hv : 1 < vs.length) (q : A (upd H a (.ins T.C_PacketJudge dx (obj ky_PacketJudge (vs.set 1 y))))) : ∃ a' C' dx' fs, V.ref a = .ref a' ∧ H a' = some (.ins C' dx' fs) ∧ Cls K C' ∧ NoAttr K C' "_tick_before" ∧ fs.length < 1000 ∧ A (upd H a' (.ins C' dx' (putF "_tick_before" y fs))) := g_putE ho T.k_PacketJudge T.n_PacketJudge__tick_before nd_PacketJudge (by decide) rfl hv q
theorem nw_PacketJudge__tick_before {A : Hp → Prop} (ho : H a = some (.ins T.C_PacketJudge dx (obj ky_PacketJudge vs))) (hv : vs.length = 1) (q : A (upd H a (.ins T.C_PacketJudge dx (obj ky_PacketJudge (vs ++ [y]))))) : ∃ a' C' dx' fs, V.ref a = .ref a' ∧ H a' = some (.ins C' dx' fs) ∧ Cls K C' ∧ NoAttr K C' "_tick_before" ∧ fs.length < 1000 ∧ A (upd H a' (.ins C' dx' (putF "_tick_before" y fs))) := g_newE ho T.k_PacketJudge T.n_PacketJudge__tick_before nd_PacketJudge (by decide) (by rw [hv]; rfl) q
theorem fd_PacketJudge__last {A : V → Prop} (ho : H a = some (.ins T.C_PacketJudge dx (obj ky_PacketJudge vs))) (hv : vs[2]? = some v) (q : A v) : ∃ a' C' dx' fs v', V.ref a = .ref a' ∧ H a' = some (.ins C' dx' fs) ∧ Cls K C' ∧ NoAttr K C' "_last" ∧ fs.lookup ("_last" : Str) = some v' ∧ A v' := g_fldE ho T.k_PacketJudge T.n_PacketJudge__last nd_PacketJudge rfl hv q
theorem st_PacketJudge__last {A : Hp → Prop} (ho : H a = some (.ins T.C_PacketJudge dx (obj ky_PacketJudge vs))) (hv : 2 < vs.length) (q : A (upd H a (.ins T.C_PacketJudge dx (obj ky_PacketJudge (vs.set 2 y))))) : ∃ a' C' dx' fs, V.ref a = .ref a' ∧ H a' = some (.ins C' dx' fs) ∧ Cls K C' ∧ NoAttr K C' "_last" ∧ fs.length < 1000 ∧ A (upd H a' (.ins C' dx' (putF "_last" y fs))) := g_putE ho T.k_PacketJudge T.n_PacketJudge__last nd_PacketJudge (by decide) rfl hv q
theorem nw_PacketJudge__last {A : Hp → Prop} (ho : H a = some (.ins T.C_PacketJudge dx (obj ky_PacketJudge vs))) (hv : vs.length = 2) (q : A (upd H a (.ins T.C_PacketJudge dx (obj ky_PacketJudge (vs ++ [y]))))) : ∃ a' C' dx' fs, V.ref a = .ref a' ∧ H a' = some (.ins C' dx' fs) ∧ Cls K C' ∧ NoAttr K C' "_last" ∧ fs.length < 1000 ∧ A (upd H a' (.ins C' dx' (putF "_last" y fs))) := g_newE ho T.k_PacketJudge T.n_PacketJudge__last nd_PacketJudge (by decide) (by rw [hv]; rfl) q
theorem fd_PacketJudge__first {A : V → Prop} (ho : H a = some (.ins T.C_PacketJudge dx (obj ky_PacketJudge vs))) (hv : vs[3]? = some v) (q : A v) : ∃ a' C' dx' fs v', V.ref a = .ref a' ∧ H a' = some (.ins C' dx' fs) ∧ Cls K C' ∧ NoAttr K C' "_first" ∧ fs.lookup ("_first" : Str) = some v' ∧ A v' := g_fldE ho T.k_PacketJudge T.n_PacketJudge__first nd_PacketJudge rfl hv q
theorem st_PacketJudge__first {A : Hp → Prop} (ho : H a = some (.ins T.C_PacketJudge dx (obj ky_PacketJudge vs))) (hv : 3 < vs.length) (q : A (upd H a (.ins T.C_PacketJudge dx (obj ky_PacketJudge (vs.set 3 y))))) : ∃ a' C' dx' fs, V.ref a = .ref a' ∧ H a' = some (.ins C' dx' fs) ∧ Cls K C' ∧ NoAttr K C' "_first" ∧ fs.length < 1000 ∧ A (upd H a' (.ins C' dx' (putF "_first" y fs))) := g_putE ho T.k_PacketJudge T.n_PacketJudge__first nd_PacketJudge (by decide) rfl hv q
theorem nw_PacketJudge__first {A : Hp → Prop} (ho : H a = some (.ins T.C_PacketJudge dx (obj ky_PacketJudge vs))) (hv : vs.length = 3) (q : A (upd H a (.ins T.C_PacketJudge dx (obj ky_PacketJudge (vs ++ [y]))))) : ∃ a' C' dx' fs, V.ref a = .ref a' ∧ H a' = some (.ins C' dx' fs) ∧ Cls K C' ∧ NoAttr K C' "_first" ∧ fs.length < 1000 ∧ A (upd H a' (.ins C' dx' (putF "_first" y fs))) := g_newE ho T.k_PacketJudge T.n_PacketJudge__first nd_PacketJudge (by decide) (by rw [hv]; rfl) q
theorem fd_PacketJudge__copies {A : V → Prop} (ho : H a = some (.ins T.C_PacketJudge dx (obj ky_PacketJudge vs))) (hv : vs[4]? = some v) (q : A v) : ∃ a' C' dx' fs v', V.ref a = .ref a' ∧ H a' = some (.ins C' dx' fs) ∧ Cls K C' ∧ NoAttr K C' "_copies" ∧ fs.lookup ("_copies" : Str) = some v' ∧ A v' := g_fldE ho T.k_PacketJudge T.n_PacketJudge__copies nd_PacketJudge rfl hv q
theorem st_PacketJudge__copies {A : Hp → Prop} (ho : H a = some (.ins T.C_PacketJudge dx (obj ky_PacketJudge vs))) (hv : 4 < vs.length) (q : A (upd H a (.ins T.C_PacketJudge dx (obj ky_PacketJudge (vs.set 4 y))))) : ∃ a' C' dx' fs, V.ref a = .ref a' ∧ H a' = some (.ins C' dx' fs) ∧ Cls K C' ∧ NoAttr K C' "_copies" ∧ fs.length < 1000 ∧ A (upd H a' (.ins C' dx' (putF "_copies" y fs))) := g_putE ho T.k_PacketJudge T.n_PacketJudge__copies nd_PacketJudge (by decide) rfl hv q
theorem nw_PacketJudge__copies {A : Hp → Prop} (ho : H a = some (.ins T.C_PacketJudge dx (obj ky_PacketJudge vs))) (hv : vs.length = 4) (q : A (upd H a (.ins T.C_PacketJudge dx (obj ky_PacketJudge (vs ++ [y]))))) : ∃ a' C' dx' fs, V.ref a = .ref a' ∧ H a' = some (.ins C' dx' fs) ∧ Cls K C' ∧ NoAttr K C' "_copies" ∧ fs.length < 1000 ∧ A (upd H a' (.ins C' dx' (putF "_copies" y fs))) := g_newE ho T.k_PacketJudge T.n_PacketJudge__copies nd_PacketJudge (by decide) (by rw [hv]; rfl) q
theorem me_PacketJudge_problems_of {A : Prop} (ho : H a = some (.ins T.C_PacketJudge dx (obj ky_PacketJudge vs))) (q : A) : ∃ a' dx' fs, V.ref a = .ref a' ∧ H a' = some (.ins T.C_PacketJudge dx' fs) ∧ fs.lookup ("problems_of" : Str) = none ∧ A := g_methE ho (by decide +kernel) q
theorem me_PacketJudge_problems_under_way {A : Prop} (ho : H a = some (.ins T.C_PacketJudge dx (obj ky_PacketJudge vs))) (q : A) : ∃ a' dx' fs, V.ref a = .ref a' ∧ H a' = some (.ins T.C_PacketJudge dx' fs) ∧ fs.lookup ("_problems_under_way" : Str) = none ∧ A := g_methE ho (by decide +kernel) q
theorem me_PacketJudge_learn {A : Prop} (ho : H a = some (.ins T.C_PacketJudge dx (obj ky_PacketJudge vs))) (q : A) : ∃ a' dx' fs, V.ref a = .ref a' ∧ H a' = some (.ins T.C_PacketJudge dx' fs) ∧ fs.lookup ("_learn" : Str) = none ∧ A := g_methE ho (by decide +kernel) q
end
def ky_Packet : List Str := ["sender", "target", "octets", "marked"]
theorem nd_Packet : ky_Packet.Nodup := by decide +kernel
section
variable {K : PySem.W.Frag} {mg : Str → Option Value} {T : Txt K mg} {H : Hp} {a dx : Addr} {vs : List V} {v y : V}
theorem fd_Packet_sender {A : V → Prop} (ho : H a = some (.ins T.C_Packet dx (obj ky_Packet vs))) (hv : vs[0]? = some v) (q : A v) : ∃ a' C' dx' fs v', V.ref a = .ref a' ∧ H a' = some (.ins C' dx' fs) ∧ Cls K C' ∧ NoAttr K C' "sender" ∧ fs.lookup ("sender" : Str) = some v' ∧ A v' := g_fldE ho T.k_Packet T.n_Packet_sender nd_Packet rfl hv q
theorem st_Packet_sender {A : Hp → Prop} (ho : H a = some (.ins T.C_Packet dx (obj ky_Packet vs))) (hv : 0 < vs.length) (q : A (upd H a (.ins T.C_Packet dx (obj ky_Packet (vs.set 0 y))))) : ∃ a' C' dx' fs, V.ref a = .ref a' ∧ H a' = some (.ins C' dx' fs) ∧ Cls K C' ∧ NoAttr K C' "sender" ∧ fs.length < 1000 ∧ A (upd H a' (.ins C' dx' (putF "sender" y fs))) := g_putE ho T.k_Packet T.n_Packet_sender nd_Packet (by decide) rfl hv q
theorem nw_Packet_sender {A : Hp → Prop} (ho : H a = some (.ins T.C_Packet dx (obj ky_Packet vs))) (hv : vs.length = 0) (q : A (upd H a (.ins T.C_Packet dx (obj ky_Packet (vs ++ [y]))))) : ∃ a' C' dx' fs, V.ref a = .ref a' ∧ H a' = some (.ins C' dx' fs) ∧ Cls K C' ∧ NoAttr K C' "sender" ∧ fs.length < 1000 ∧ A (upd H a' (.ins C' dx' (putF "sender" y fs))) := g_newE ho T.k_Packet T.n_Packet_sender nd_Packet (by decide) (by rw [hv]; rfl) q
theorem fd_Packet_target {A : V → Prop} (ho : H a = some (.ins T.C_Packet dx (obj ky_Packet vs))) (hv : vs[1]? = some v) (q : A v) : ∃ a' C' dx' fs v', V.ref a = .ref a' ∧ H a' = some (.ins C' dx' fs) ∧ Cls K C' ∧ NoAttr K C' "target" ∧ fs.lookup ("target" : Str) = some v' ∧ A v' := g_fldE ho T.k_Packet T.n_Packet_target nd_Packet rfl hv q
theorem st_Packet_target {A : Hp → Prop} (ho : H a = some (.ins T.C_Packet dx (obj ky_Packet vs))) (hv : 1 < vs.length) (q : A (upd H a (.ins T.C_Packet dx (obj ky_Packet (vs.set 1 y))))) : ∃ a' C' dx' fs, V.ref a = .ref a' ∧ H a' = some (.ins C' dx' fs) ∧ Cls K C' ∧ NoAttr K C' "target" ∧ fs.length < 1000 ∧ A (upd H a' (.ins C' dx' (putF "target" y fs))) := g_putE ho T.k_Packet T.n_Packet_target nd_Packet (by decide) rfl hv q
theorem nw_Packet_target {A : Hp → Prop} (ho : H a = some (.ins T.C_Packet dx (obj ky_Packet vs))) (hv : vs.length = 1) (q : A (upd H a (.ins T.C_Packet dx (obj ky_Packet (vs ++ [y]))))) : ∃ a' C' dx' fs, V.ref a = .ref a' ∧ H a' = some (.ins C' dx' fs) ∧ Cls K C' ∧ NoAttr K C' "target" ∧ fs.length < 1000 ∧ A (upd H a' (.ins C' dx' (putF "target" y fs))) := g_newE ho T.k_Packet T.n_Packet_target nd_Packet (by decide) (by rw [hv]; rfl) q
theorem fd_Packet_octets {A : V → Prop} (ho : H a = some (.ins T.C_Packet dx (obj ky_Packet vs))) (hv : vs[2]? = some v) (q : A v) : ∃ a' C' dx' fs v', V.ref a = .ref a' ∧ H a' = some (.ins C' dx' fs) ∧ Cls K C' ∧ NoAttr K C' "octets" ∧ fs.lookup ("octets" : Str) = some v' ∧ A v' := g_fldE ho T.k_Packet T.n_Packet_octets nd_Packet rfl hv q
theorem st_Packet_octets {A : Hp → Prop} (ho : H a = some (.ins T.C_Packet dx (obj ky_Packet vs))) (hv : 2 < vs.length) (q : A (upd H a (.ins T.C_Packet dx (obj ky_Packet (vs.set 2 y))))) : ∃ a' C' dx' fs, V.ref a = .ref a' ∧ H a' = some (.ins C' dx' fs) ∧ Cls K C' ∧ NoAttr K C' "octets" ∧ fs.length < 1000 ∧ A (upd H a' (.ins C' dx' (putF "octets" y fs))) := g_putE ho T.k_Packet T.n_Packet_octets nd_Packet (by decide) rfl hv q
theorem nw_Packet_octets {A : Hp → Prop} (ho : H a = some (.ins T.C_Packet dx (obj ky_Packet vs))) (hv : vs.length = 2) (q : A (upd H a (.ins T.C_Packet dx (obj ky_Packet (vs ++ [y]))))) : ∃ a' C' dx' fs, V.ref a = .ref a' ∧ H a' = some (.ins C' dx' fs) ∧ Cls K C' ∧ NoAttr K C' "octets" ∧ fs.length < 1000 ∧ A (upd H a' (.ins C' dx' (putF "octets" y fs))) := g_newE ho T.k_Packet T.n_Packet_octets nd_Packet (by decide) (by rw [hv]; rfl) q
theorem fd_Packet_marked {A : V → Prop} (ho : H a = some (.ins T.C_Packet dx (obj ky_Packet vs))) (hv : vs[3]? = some v) (q : A v) : ∃ a' C' dx' fs v', V.ref a = .ref a' ∧ H a' = some (.ins C' dx' fs) ∧ Cls K C' ∧ NoAttr K C' "marked" ∧ fs.lookup ("marked" : Str) = some v' ∧ A v' := g_fldE ho T.k_Packet T.n_Packet_marked nd_Packet rfl hv q
theorem st_Packet_marked {A : Hp → Prop} (ho : H a = some (.ins T.C_Packet dx (obj ky_Packet vs))) (hv : 3 < vs.length) (q : A (upd H a (.ins T.C_Packet dx (obj ky_Packet (vs.set 3 y))))) : ∃ a' C' dx' fs, V.ref a = .ref a' ∧ H a' = some (.ins C' dx' fs) ∧ Cls K C' ∧ NoAttr K C' "marked" ∧ fs.length < 1000 ∧ A (upd H a' (.ins C' dx' (putF "marked" y fs))) := g_putE ho T.k_Packet T.n_Packet_marked nd_Packet (by decide) rfl hv q
theorem nw_Packet_marked {A : Hp → Prop} (ho : H a = some (.ins T.C_Packet dx (obj ky_Packet vs))) (hv : vs.length = 3) (q : A (upd H a (.ins T.C_Packet dx (obj ky_Packet (vs ++ [y]))))) : ∃ a' C' dx' fs, V.ref a = .ref a' ∧ H a' = some (.ins C' dx' fs) ∧ Cls K C' ∧ NoAttr K C' "marked" ∧ fs.length < 1000 ∧ A (upd H a' (.ins C' dx' (putF "marked" y fs))) := g_newE ho T.k_Packet T.n_Packet_marked nd_Packet (by decide) (by rw [hv]; rfl) q
theorem me_Packet_fork {A : Prop} (ho : H a = some (.ins T.C_Packet dx (obj ky_Packet vs))) (q : A) : ∃ a' dx' fs, V.ref a = .ref a' ∧ H a' = some (.ins T.C_Packet dx' fs) ∧ fs.lookup ("fork" : Str) = none ∧ A := g_methE ho (by decide +kernel) q
end
def ky_Record : List Str := ["tick", "number", "word", "packet"]
theorem nd_Record : ky_Record.Nodup := by decide +kernel
section
variable {K : PySem.W.Frag} {mg : Str → Option Value} {T : Txt K mg} {H : Hp} {a dx : Addr} {vs : List V} {v y : V}
theorem fd_Record_tick {A : V → Prop} (ho : H a = some (.ins T.C_Record dx (obj ky_Record vs))) (hv : vs[0]? = some v) (q : A v) : ∃ a' C' dx' fs v', V.ref a = .ref a' ∧ H a' = some (.ins C' dx' fs) ∧ Cls K C' ∧ NoAttr K C' "tick" ∧ fs.lookup ("tick" : Str) = some v' ∧ A v' := g_fldE ho T.k_Record T.n_Record_tick nd_Record rfl hv q
theorem st_Record_tick {A : Hp → Prop} (ho : H a = some (.ins T.C_Record dx (obj ky_Record vs))) (hv : 0 < vs.length) (q : A (upd H a (.ins T.C_Record dx (obj ky_Record (vs.set 0 y))))) : ∃ a' C' dx' fs, V.ref a = .ref a' ∧ H a' = some (.ins C' dx' fs) ∧ Cls K C' ∧ NoAttr K C' "tick" ∧ fs.length < 1000 ∧ A (upd H a' (.ins C' dx' (putF "tick" y fs))) := g_putE ho T.k_Record T.n_Record_tick nd_Record (by decide) rfl hv q
theorem nw_Record_tick {A : Hp → Prop} (ho : H a = some (.ins T.C_Record dx (obj ky_Record vs))) (hv : vs.length = 0) (q : A (upd H a (.ins T.C_Record dx (obj ky_Record (vs ++ [y]))))) : ∃ a' C' dx' fs, V.ref a = .ref a' ∧ H a' = some (.ins C' dx' fs) ∧ Cls K C' ∧ NoAttr K C' "tick" ∧ fs.length < 1000 ∧ A (upd H a' (.ins C' dx' (putF "tick" y fs))) := g_newE ho T.k_Record T.n_Record_tick nd_Record (by decide) (by rw [hv]; rfl) q
theorem fd_Record_number {A : V → Prop} (ho : H a = some (.ins T.C_Record dx (obj ky_Record vs))) (hv : vs[1]? = some v) (q : A v) : ∃ a' C' dx' fs v', V.ref a = .ref a' ∧ H a' = some (.ins C' dx' fs) ∧ Cls K C' ∧ NoAttr K C' "number" ∧ fs.lookup ("number" : Str) = some v' ∧ A v' := g_fldE ho T.k_Record T.n_Record_number nd_Record rfl hv q
theorem st_Record_number {A : Hp → Prop} (ho : H a = some (.ins T.C_Record dx (obj ky_Record vs))) (hv : 1 < vs.length) (q : A (upd H a (.ins T.C_Record dx (obj ky_Record (vs.set 1 y))))) : ∃ a' C' dx' fs, V.ref a = .ref a' ∧ H a' = some (.ins C' dx' fs) ∧ Cls K C' ∧ NoAttr K C' "number" ∧ fs.length < 1000 ∧ A (upd H a' (.ins C' dx' (putF "number" y fs))) := g_putE ho T.k_Record T.n_Record_number nd_Record (by decide) rfl hv q
theorem nw_Record_number {A : Hp → Prop} (ho : H a = some (.ins T.C_Record dx (obj ky_Record vs))) (hv : vs.length = 1) (q : A (upd H a (.ins T.C_Record dx (obj ky_Record (vs ++ [y]))))) : ∃ a' C' dx' fs, V.ref a = .ref a' ∧ H a' = some (.ins C' dx' fs) ∧ Cls K C' ∧ NoAttr K C' "number" ∧ fs.length < 1000 ∧ A (upd H a' (.ins C' dx' (putF "number" y fs))) := g_newE ho T.k_Record T.n_Record_number nd_Record (by decide) (by rw [hv]; rfl) q
theorem fd_Record_word {A : V → Prop} (ho : H a = some (.ins T.C_Record dx (obj ky_Record vs))) (hv : vs[2]? = some v) (q : A v) : ∃ a' C' dx' fs v', V.ref a = .ref a' ∧ H a' = some (.ins C' dx' fs) ∧ Cls K C' ∧ NoAttr K C' "word" ∧ fs.lookup ("word" : Str) = some v' ∧ A v' := g_fldE ho T.k_Record T.n_Record_word nd_Record rfl hv q
theorem st_Record_word {A : Hp → Prop} (ho : H a = some (.ins T.C_Record dx (obj ky_Record vs))) (hv : 2 < vs.length) (q : A (upd H a (.ins T.C_Record dx (obj ky_Record (vs.set 2 y))))) : ∃ a' C' dx' fs, V.ref a = .ref a' ∧ H a' = some (.ins C' dx' fs) ∧ Cls K C' ∧ NoAttr K C' "word" ∧ fs.length < 1000 ∧ A (upd H a' (.ins C' dx' (putF "word" y fs))) := g_putE ho T.k_Record T.n_Record_word nd_Record (by decide) rfl hv q
theorem nw_Record_word {A : Hp → Prop} (ho : H a = some (.ins T.C_Record dx (obj ky_Record vs))) (hv : vs.length = 2) (q : A (upd H a (.ins T.C_Record dx (obj ky_Record (vs ++ [y]))))) : ∃ a' C' dx' fs, V.ref a = .ref a' ∧ H a' = some (.ins C' dx' fs) ∧ Cls K C' ∧ NoAttr K C' "word" ∧ fs.length < 1000 ∧ A (upd H a' (.ins C' dx' (putF "word" y fs))) := g_newE ho T.k_Record T.n_Record_word nd_Record (by decide) (by rw [hv]; rfl) q
theorem fd_Record_packet {A : V → Prop} (ho : H a = some (.ins T.C_Record dx (obj ky_Record vs))) (hv : vs[3]? = some v) (q : A v) : ∃ a' C' dx' fs v', V.ref a = .ref a' ∧ H a' = some (.ins C' dx' fs) ∧ Cls K C' ∧ NoAttr K C' "packet" ∧ fs.lookup ("packet" : Str) = some v' ∧ A v' := g_fldE ho T.k_Record T.n_Record_packet nd_Record rfl hv q
theorem st_Record_packet {A : Hp → Prop} (ho : H a = some (.ins T.C_Record dx (obj ky_Record vs))) (hv : 3 < vs.length) (q : A (upd H a (.ins T.C_Record dx (obj ky_Record (vs.set 3 y))))) : ∃ a' C' dx' fs, V.ref a = .ref a' ∧ H a' = some (.ins C' dx' fs) ∧ Cls K C' ∧ NoAttr K C' "packet" ∧ fs.length < 1000 ∧ A (upd H a' (.ins C' dx' (putF "packet" y fs))) := g_putE ho T.k_Record T.n_Record_packet nd_Record (by decide) rfl hv q
theorem nw_Record_packet {A : Hp → Prop} (ho : H a = some (.ins T.C_Record dx (obj ky_Record vs))) (hv : vs.length = 3) (q : A (upd H a (.ins T.C_Record dx (obj ky_Record (vs ++ [y]))))) : ∃ a' C' dx' fs, V.ref a = .ref a' ∧ H a' = some (.ins C' dx' fs) ∧ Cls K C' ∧ NoAttr K C' "packet" ∧ fs.length < 1000 ∧ A (upd H a' (.ins C' dx' (putF "packet" y fs))) := g_newE ho T.k_Record T.n_Record_packet nd_Record (by decide) (by rw [hv]; rfl) q
end
local macro_rules | `(tactic| walk_at "use") => `(tactic| first | ((with_reducible refine' fd_Finding_index ?ho_ ?hv_ ?_); (case ho_ => first | assumption | exact upd_same); (case hv_ => exact rfl)) | ((with_reducible refine' fd_Finding_problem ?ho_ ?hv_ ?_); (case ho_ => first | assumption | exact upd_same); (case hv_ => exact rfl)) | ((with_reducible refine' nw_Finding_index ?ho_ ?hv_ ?_); (case ho_ => first | assumption | exact upd_same); (case hv_ => exact rfl)) | ((with_reducible refine' nw_Finding_problem ?ho_ ?hv_ ?_); (case ho_ => first | assumption | exact upd_same); (case hv_ => exact rfl)) | ((with_reducible refine' st_Finding_index ?ho_ ?hv_ ?_); (case ho_ => first | assumption | exact upd_same); (case hv_ => exact Nat.le_of_ble_eq_true rfl)) | ((with_reducible refine' st_Finding_problem ?ho_ ?hv_ ?_); (case ho_ => first | assumption | exact upd_same); (case hv_ => exact Nat.le_of_ble_eq_true rfl)) | ((with_reducible refine' me_Finding_eq__ ?ho_ ?_); (case ho_ => first | assumption | exact upd_same)))
local macro_rules | `(tactic| walk_at "use") => `(tactic| first | ((with_reducible refine' fd_PacketJudge__life ?ho_ ?hv_ ?_); (case ho_ => first | assumption | exact upd_same); (case hv_ => exact rfl)) | ((with_reducible refine' fd_PacketJudge__tick_before ?ho_ ?hv_ ?_); (case ho_ => first | assumption | exact upd_same); (case hv_ => exact rfl)) | ((with_reducible refine' fd_PacketJudge__last ?ho_ ?hv_ ?_); (case ho_ => first | assumption | exact upd_same); (case hv_ => exact rfl)) | ((with_reducible refine' fd_PacketJudge__first ?ho_ ?hv_ ?_); (case ho_ => first | assumption | exact upd_same); (case hv_ => exact rfl)) | ((with_reducible refine' fd_PacketJudge__copies ?ho_ ?hv_ ?_); (case ho_ => first | assumption | exact upd_same); (case hv_ => exact rfl)) | ((with_reducible refine' nw_PacketJudge__life ?ho_ ?hv_ ?_); (case ho_ => first | assumption | exact upd_same); (case hv_ => exact rfl)) | ((with_reducible refine' nw_PacketJudge__tick_before ?ho_ ?hv_ ?_); (case ho_ => first | assumption | exact upd_same); (case hv_ => exact rfl)) | ((with_reducible refine' nw_PacketJudge__last ?ho_ ?hv_ ?_); (case ho_ => first | assumption | exact upd_same); (case hv_ => exact rfl)) | ((with_reducible refine' nw_PacketJudge__first ?ho_ ?hv_ ?_); (case ho_ => first | assumption | exact upd_same); (case hv_ => exact rfl)) | ((with_reducible refine' nw_PacketJudge__copies ?ho_ ?hv_ ?_); (case ho_ => first | assumption | exact upd_same); (case hv_ => exact rfl)) | ((with_reducible refine' st_PacketJudge__life ?ho_ ?hv_ ?_); (case ho_ => first | assumption | exact upd_same); (case hv_ => exact Nat.le_of_ble_eq_true rfl)) | ((with_reducible refine' st_PacketJudge__tick_before ?ho_ ?hv_ ?_); (case ho_ => first | assumption | exact upd_same); (case hv_ => exact Nat.le_of_ble_eq_true rfl)) | ((with_reducible refine' st_PacketJudge__last ?ho_ ?hv_ ?_); (case ho_ => first | assumption | exact upd_same); (case hv_ => exact Nat.le_of_ble_eq_true rfl)) | ((with_reducible refine' st_PacketJudge__first ?ho_ ?hv_ ?_); (case ho_ => first | assumption | exact upd_same); (case hv_ => exact Nat.le_of_ble_eq_true rfl)) | ((with_reducible refine' st_PacketJudge__copies ?ho_ ?hv_ ?_); (case ho_ => first | assumption | exact upd_same); (case hv_ => exact Nat.le_of_ble_eq_true rfl)) | ((with_reducible refine' me_PacketJudge_problems_of ?ho_ ?_); (case ho_ => first | assumption | exact upd_same)) | ((with_reducible refine' me_PacketJudge_problems_under_way ?ho_ ?_); (case ho_ => first | assumption | exact upd_same)) | ((with_reducible refine' me_PacketJudge_learn ?ho_ ?_); (case ho_ => first | assumption | exact upd_same)))
local macro_rules | `(tactic| walk_at "use") => `(tactic| first | ((with_reducible refine' fd_Packet_sender ?ho_ ?hv_ ?_); (case ho_ => first | assumption | exact upd_same); (case hv_ => exact rfl)) | ((with_reducible refine' fd_Packet_target ?ho_ ?hv_ ?_); (case ho_ => first | assumption | exact upd_same); (case hv_ => exact rfl)) | ((with_reducible refine' fd_Packet_octets ?ho_ ?hv_ ?_); (case ho_ => first | assumption | exact upd_same); (case hv_ => exact rfl)) | ((with_reducible refine' fd_Packet_marked ?ho_ ?hv_ ?_); (case ho_ => first | assumption | exact upd_same); (case hv_ => exact rfl)) | ((with_reducible refine' nw_Packet_sender ?ho_ ?hv_ ?_); (case ho_ => first | assumption | exact upd_same); (case hv_ => exact rfl)) | ((with_reducible refine' nw_Packet_target ?ho_ ?hv_ ?_); (case ho_ => first | assumption | exact upd_same); (case hv_ => exact rfl)) | ((with_reducible refine' nw_Packet_octets ?ho_ ?hv_ ?_); (case ho_ => first | assumption | exact upd_same); (case hv_ => exact rfl)) | ((with_reducible refine' nw_Packet_marked ?ho_ ?hv_ ?_); (case ho_ => first | assumption | exact upd_same); (case hv_ => exact rfl)) | ((with_reducible refine' st_Packet_sender ?ho_ ?hv_ ?_); (case ho_ => first | assumption | exact upd_same); (case hv_ => exact Nat.le_of_ble_eq_true rfl)) | ((with_reducible refine' st_Packet_target ?ho_ ?hv_ ?_); (case ho_ => first | assumption | exact upd_same); (case hv_ => exact Nat.le_of_ble_eq_true rfl)) | ((with_reducible refine' st_Packet_octets ?ho_ ?hv_ ?_); (case ho_ => first | assumption | exact upd_same); (case hv_ => exact Nat.le_of_ble_eq_true rfl)) | ((with_reducible refine' st_Packet_marked ?ho_ ?hv_ ?_); (case ho_ => first | assumption | exact upd_same); (case hv_ => exact Nat.le_of_ble_eq_true rfl)) | ((with_reducible refine' me_Packet_fork ?ho_ ?_); (case ho_ => first | assumption | exact upd_same)))
local macro_rules | `(tactic| walk_at "use") => `(tactic| first | ((with_reducible refine' fd_Record_tick ?ho_ ?hv_ ?_); (case ho_ => first | assumption | exact upd_same); (case hv_ => exact rfl)) | ((with_reducible refine' fd_Record_number ?ho_ ?hv_ ?_); (case ho_ => first | assumption | exact upd_same); (case hv_ => exact rfl)) | ((with_reducible refine' fd_Record_word ?ho_ ?hv_ ?_); (case ho_ => first | assumption | exact upd_same); (case hv_ => exact rfl)) | ((with_reducible refine' fd_Record_packet ?ho_ ?hv_ ?_); (case ho_ => first | assumption | exact upd_same); (case hv_ => exact rfl)) | ((with_reducible refine' nw_Record_tick ?ho_ ?hv_ ?_); (case ho_ => first | assumption | exact upd_same); (case hv_ => exact rfl)) | ((with_reducible refine' nw_Record_number ?ho_ ?hv_ ?_); (case ho_ => first | assumption | exact upd_same); (case hv_ => exact rfl)) | ((with_reducible refine' nw_Record_word ?ho_ ?hv_ ?_); (case ho_ => first | assumption | exact upd_same); (case hv_ => exact rfl)) | ((with_reducible refine' nw_Record_packet ?ho_ ?hv_ ?_); (case ho_ => first | assumption | exact upd_same); (case hv_ => exact rfl)) | ((with_reducible refine' st_Record_tick ?ho_ ?hv_ ?_); (case ho_ => first | assumption | exact upd_same); (case hv_ => exact Nat.le_of_ble_eq_true rfl)) | ((with_reducible refine' st_Record_number ?ho_ ?hv_ ?_); (case ho_ => first | assumption | exact upd_same); (case hv_ => exact Nat.le_of_ble_eq_true rfl)) | ((with_reducible refine' st_Record_word ?ho_ ?hv_ ?_); (case ho_ => first | assumption | exact upd_same); (case hv_ => exact Nat.le_of_ble_eq_true rfl)) | ((with_reducible refine' st_Record_packet ?ho_ ?hv_ ?_); (case ho_ => first | assumption | exact upd_same); (case hv_ => exact Nat.le_of_ble_eq_true rfl)))
end My
namespace My
open PySem PySem.Spec L2
local macro_rules | `(tactic| walk_at "side") => `(tactic| first | assumption | decide | omega | exact ⟨by decide, by decide⟩ | exact ⟨by decide, by decide, by decide⟩ | decide +kernel | exact cdivW (by decide +kernel) (by decide +kernel) | exact Or.inl ⟨by omega, by omega⟩ | exact Or.inr ⟨by omega, by omega⟩ | (simp only [List.length_map, List.length_cons, List.length_nil, List.length_append]; omega))
local macro_rules | `(tactic| walk_at "fact") => `(tactic| first | assumption | omega | with_reducible rfl)
local macro_rules | `(tactic| walk_at "use") => `(tactic| fail "use")
local macro_rules | `(tactic| walk_at "go1") => `(tactic| with_reducible first | refine g_seq ?_ | refine g_asg ?_ | refine g_ret ?_ | refine g_ifS ?_ | refine g_drop ?_ | refine g_star ?_ | refine g_nx ?_ | refine g_rt ?_ | refine g_bkE ?_ | refine g_ctE ?_ | refine g_next ?_ | refine g_retN ?_ | refine g_brk ?_ | refine g_ct ?_ | refine g_c ?_ | refine g_op ?_ | refine g_un ?_ | refine g_rI0 ?_ | refine g_rU ?_ | refine g_rEqI ?_ | refine g_rNeI ?_ | refine g_isN ?_ | refine g_rIsB ?_ | refine g_rNotB ?_ | refine g_test ?_ | refine g_B ?_ | refine g_bl ?_ | refine g_and ?_ | refine g_or ?_ | refine g_not ?_ | refine g_andV ?_ | refine g_orV ?_ | refine g_notV ?_ | refine g_if ?_ | refine g_chain ?_ | refine g_yes ?_ | refine g_lc ?_ | refine g_revR ?_ | refine g_rng1 ?_ | refine g_iList ?_ | refine g_nil ?_ | refine g_cons ?_ | refine g_tup ?_ | refine g_lst ?_ | refine g_call ?_ | refine g_CB ?_ | refine g_sl ?_ | refine g_noPart ?_ | refine g_part ?_ | refine g_intE ?_ | refine g_ref ?_ | refine g_fld ?_ | refine g_sfld ?_ | refine g_meth ?_ | refine g_make ?_ | refine g_prop ?_  | refine g_ipI ?_ | refine g_int1 ?_ | refine g_int1B ?_ | refine g_one ?_ | refine g_two ?_ | refine g_isiI ?_ | refine g_isiIB ?_ | refine g_isiB ?_ | refine g_BM ?_ | refine g_BM0 ?_ | refine g_sub ?_)
local macro_rules | `(tactic| walk_at "go") => `(tactic| repeat (first | walk_at "go1" | ((with_reducible refine' g_nameE ?sd_ ?_); case sd_ => dsimp only [List.set_cons_succ, List.set_cons_zero]) | ((with_reducible refine' g_var ?sd_ ?_); case sd_ => exact rfl) | ((with_reducible refine' g_aug ?sd_ ?_); case sd_ => exact rfl) | ((with_reducible refine' g_rI ?sd_ ?_); case sd_ => walk_at "side") | ((with_reducible refine' g_dT ?sd_ ?_); case sd_ => walk_at "fact") | ((with_reducible refine' g_dF ?sd_ ?_); case sd_ => walk_at "fact") | ((with_reducible refine' g_nT ?sd_ ?_); case sd_ => walk_at "fact") | ((with_reducible refine' g_nF ?sd_ ?_); case sd_ => walk_at "fact") | (with_reducible refine g_iT rfl ?_) | (with_reducible refine g_iF rfl ?_) | walk_at "use"))
local macro_rules | `(tactic| walk_at "use") => `(tactic| first | ((with_reducible refine' fd_Finding_index ?ho_ ?hv_ ?_); (case ho_ => first | assumption | exact upd_same); (case hv_ => exact rfl)) | ((with_reducible refine' fd_Finding_problem ?ho_ ?hv_ ?_); (case ho_ => first | assumption | exact upd_same); (case hv_ => exact rfl)) | ((with_reducible refine' nw_Finding_index ?ho_ ?hv_ ?_); (case ho_ => first | assumption | exact upd_same); (case hv_ => exact rfl)) | ((with_reducible refine' nw_Finding_problem ?ho_ ?hv_ ?_); (case ho_ => first | assumption | exact upd_same); (case hv_ => exact rfl)) | ((with_reducible refine' st_Finding_index ?ho_ ?hv_ ?_); (case ho_ => first | assumption | exact upd_same); (case hv_ => exact Nat.le_of_ble_eq_true rfl)) | ((with_reducible refine' st_Finding_problem ?ho_ ?hv_ ?_); (case ho_ => first | assumption | exact upd_same); (case hv_ => exact Nat.le_of_ble_eq_true rfl)) | ((with_reducible refine' me_Finding_eq__ ?ho_ ?_); (case ho_ => first | assumption | exact upd_same)))
local macro_rules | `(tactic| walk_at "use") => `(tactic| first | ((with_reducible refine' fd_PacketJudge__life ?ho_ ?hv_ ?_); (case ho_ => first | assumption | exact upd_same); (case hv_ => exact rfl)) | ((with_reducible refine' fd_PacketJudge__tick_before ?ho_ ?hv_ ?_); (case ho_ => first | assumption | exact upd_same); (case hv_ => exact rfl)) | ((with_reducible refine' fd_PacketJudge__last ?ho_ ?hv_ ?_); (case ho_ => first | assumption | exact upd_same); (case hv_ => exact rfl)) | ((with_reducible refine' fd_PacketJudge__first ?ho_ ?hv_ ?_); (case ho_ => first | assumption | exact upd_same); (case hv_ => exact rfl)) | ((with_reducible refine' fd_PacketJudge__copies ?ho_ ?hv_ ?_); (case ho_ => first | assumption | exact upd_same); (case hv_ => exact rfl)) | ((with_reducible refine' nw_PacketJudge__life ?ho_ ?hv_ ?_); (case ho_ => first | assumption | exact upd_same); (case hv_ => exact rfl)) | ((with_reducible refine' nw_PacketJudge__tick_before ?ho_ ?hv_ ?_); (case ho_ => first | assumption | exact upd_same); (case hv_ => exact rfl)) | ((with_reducible refine' nw_PacketJudge__last ?ho_ ?hv_ ?_); (case ho_ => first | assumption | exact upd_same); (case hv_ => exact rfl)) | ((with_reducible refine' nw_PacketJudge__first ?ho_ ?hv_ ?_); (case ho_ => first | assumption | exact upd_same); (case hv_ => exact rfl)) | ((with_reducible refine' nw_PacketJudge__copies ?ho_ ?hv_ ?_); (case ho_ => first | assumption | exact upd_same); (case hv_ => exact rfl)) | ((with_reducible refine' st_PacketJudge__life ?ho_ ?hv_ ?_); (case ho_ => first | assumption | exact upd_same); (case hv_ => exact Nat.le_of_ble_eq_true rfl)) | ((with_reducible refine' st_PacketJudge__tick_before ?ho_ ?hv_ ?_); (case ho_ => first | assumption | exact upd_same); (case hv_ => exact Nat.le_of_ble_eq_true rfl)) | ((with_reducible refine' st_PacketJudge__last ?ho_ ?hv_ ?_); (case ho_ => first | assumption | exact upd_same); (case hv_ => exact Nat.le_of_ble_eq_true rfl)) | ((with_reducible refine' st_PacketJudge__first ?ho_ ?hv_ ?_); (case ho_ => first | assumption | exact upd_same); (case hv_ => exact Nat.le_of_ble_eq_true rfl)) | ((with_reducible refine' st_PacketJudge__copies ?ho_ ?hv_ ?_); (case ho_ => first | assumption | exact upd_same); (case hv_ => exact Nat.le_of_ble_eq_true rfl)) | ((with_reducible refine' me_PacketJudge_problems_of ?ho_ ?_); (case ho_ => first | assumption | exact upd_same)) | ((with_reducible refine' me_PacketJudge_problems_under_way ?ho_ ?_); (case ho_ => first | assumption | exact upd_same)) | ((with_reducible refine' me_PacketJudge_learn ?ho_ ?_); (case ho_ => first | assumption | exact upd_same)))
local macro_rules | `(tactic| walk_at "use") => `(tactic| first | ((with_reducible refine' fd_Packet_sender ?ho_ ?hv_ ?_); (case ho_ => first | assumption | exact upd_same); (case hv_ => exact rfl)) | ((with_reducible refine' fd_Packet_target ?ho_ ?hv_ ?_); (case ho_ => first | assumption | exact upd_same); (case hv_ => exact rfl)) | ((with_reducible refine' fd_Packet_octets ?ho_ ?hv_ ?_); (case ho_ => first | assumption | exact upd_same); (case hv_ => exact rfl)) | ((with_reducible refine' fd_Packet_marked ?ho_ ?hv_ ?_); (case ho_ => first | assumption | exact upd_same); (case hv_ => exact rfl)) | ((with_reducible refine' nw_Packet_sender ?ho_ ?hv_ ?_); (case ho_ => first | assumption | exact upd_same); (case hv_ => exact rfl)) | ((with_reducible refine' nw_Packet_target ?ho_ ?hv_ ?_); (case ho_ => first | assumption | exact upd_same); (case hv_ => exact rfl)) | ((with_reducible refine' nw_Packet_octets ?ho_ ?hv_ ?_); (case ho_ => first | assumption | exact upd_same); (case hv_ => exact rfl)) | ((with_reducible refine' nw_Packet_marked ?ho_ ?hv_ ?_); (case ho_ => first | assumption | exact upd_same); (case hv_ => exact rfl)) | ((with_reducible refine' st_Packet_sender ?ho_ ?hv_ ?_); (case ho_ => first | assumption | exact upd_same); (case hv_ => exact Nat.le_of_ble_eq_true rfl)) | ((with_reducible refine' st_Packet_target ?ho_ ?hv_ ?_); (case ho_ => first | assumption | exact upd_same); (case hv_ => exact Nat.le_of_ble_eq_true rfl)) | ((with_reducible refine' st_Packet_octets ?ho_ ?hv_ ?_); (case ho_ => first | assumption | exact upd_same); (case hv_ => exact Nat.le_of_ble_eq_true rfl)) | ((with_reducible refine' st_Packet_marked ?ho_ ?hv_ ?_); (case ho_ => first | assumption | exact upd_same); (case hv_ => exact Nat.le_of_ble_eq_true rfl)) | ((with_reducible refine' me_Packet_fork ?ho_ ?_); (case ho_ => first | assumption | exact upd_same)))
local macro_rules | `(tactic| walk_at "use") => `(tactic| first | ((with_reducible refine' fd_Record_tick ?ho_ ?hv_ ?_); (case ho_ => first | assumption | exact upd_same); (case hv_ => exact rfl)) | ((with_reducible refine' fd_Record_number ?ho_ ?hv_ ?_); (case ho_ => first | assumption | exact upd_same); (case hv_ => exact rfl)) | ((with_reducible refine' fd_Record_word ?ho_ ?hv_ ?_); (case ho_ => first | assumption | exact upd_same); (case hv_ => exact rfl)) | ((with_reducible refine' fd_Record_packet ?ho_ ?hv_ ?_); (case ho_ => first | assumption | exact upd_same); (case hv_ => exact rfl)) | ((with_reducible refine' nw_Record_tick ?ho_ ?hv_ ?_); (case ho_ => first | assumption | exact upd_same); (case hv_ => exact rfl)) | ((with_reducible refine' nw_Record_number ?ho_ ?hv_ ?_); (case ho_ => first | assumption | exact upd_same); (case hv_ => exact rfl)) | ((with_reducible refine' nw_Record_word ?ho_ ?hv_ ?_); (case ho_ => first | assumption | exact upd_same); (case hv_ => exact rfl)) | ((with_reducible refine' nw_Record_packet ?ho_ ?hv_ ?_); (case ho_ => first | assumption | exact upd_same); (case hv_ => exact rfl)) | ((with_reducible refine' st_Record_tick ?ho_ ?hv_ ?_); (case ho_ => first | assumption | exact upd_same); (case hv_ => exact Nat.le_of_ble_eq_true rfl)) | ((with_reducible refine' st_Record_number ?ho_ ?hv_ ?_); (case ho_ => first | assumption | exact upd_same); (case hv_ => exact Nat.le_of_ble_eq_true rfl)) | ((with_reducible refine' st_Record_word ?ho_ ?hv_ ?_); (case ho_ => first | assumption | exact upd_same); (case hv_ => exact Nat.le_of_ble_eq_true rfl)) | ((with_reducible refine' st_Record_packet ?ho_ ?hv_ ?_); (case ho_ => first | assumption | exact upd_same); (case hv_ => exact Nat.le_of_ble_eq_true rfl)))
section
variable {P : Program} {w : World} {K : PySem.W.Frag} {mg : Str → Option Value} {base : Heap}
/-! an attribute among the targets of a tuple -/
section
variable {X : Cx} {K : PySem.W.Frag} {o : Expr} {ta : TE} {f : Str} {pos : Pos}
def gFld (K : PySem.W.Frag) (ta : TE) (f : Str) : TG := fun v σ H Q => ta σ H fun x H2 => ∃ a C dx fs, x = .ref a ∧ H2 a = some (.ins C dx fs) ∧ Cls K C ∧ NoAttr K C f ∧ fs.length < 1000 ∧ Q σ (upd H2 a (.ins C dx (putF f v fs)))
theorem pg_fld (ho : PE X o ta) : PG X (.Attribute o f pos) (gFld X.K ta f) := by
  refine ⟨fun pins s σ H v u Q I r h => ?_⟩
  rw [assign_Attribute]
  refine wpAny_bind (wpAny_holding (thn (ho.run pins s σ H _ I h) fun ov s1 ⟨x, H1, I1, r1, q1⟩ => ?_))
  obtain ⟨a, C, dx, fs, ex, ea, c, n, l, q⟩ := q1
  subst ex
  obtain rfl : ov = Value.ref a := r1
  refine wpAny_bind (wpAny_standAt (wpAny_bind (wpAny_holding (setattr_ok I1 ea c n l r fun s3 I3 => ?_))))
  exact wpAny_release ⟨σ, _, I3, q⟩
theorem g_gfld {σ : St} {H : Hp} {v : V} {Q : St → Hp → Prop} (h : ta σ H fun x H2 => ∃ a C dx fs, x = .ref a ∧ H2 a = some (.ins C dx fs) ∧ Cls K C ∧ NoAttr K C f ∧ fs.length < 1000 ∧ Q σ (upd H2 a (.ins C dx (putF f v fs)))) : gFld K ta f v σ H Q := h
theorem g_gfldV {σ : St} {H : Hp} {v : V} {Q : St → Hp → Prop} {i j : Nat} {a C dx : Addr} {ks : List Str} {vs : List V} (hσ : σ[i]? = some (some (.ref a))) (ho : H a = some (.ins C dx (obj ks vs))) (c : Cls K C) (n : NoAttr K C f) (nd : ks.Nodup) (h1 : ks.length < 1000) (hk : ks[j]? = some f) (hv : j < vs.length)
    (q : Q σ (upd H a (.ins C dx (obj ks (vs.set j v))))) : gFld K (tVar i) f v σ H Q :=
  ⟨_, hσ, a, C, dx, _, rfl, ho, c, n, Nat.lt_of_le_of_lt (obj_len ks vs) h1, by rw [obj_put nd hk hv]; exact q⟩
end
/-! `xs[i] += n` -/
section
variable {X : Cx}
theorem get_list : PGet X (rIxL X.K) := by
  intro pins s σ H o i ov iv Q I ro ri h
  obtain ⟨p, xs, k, z, rfl, rfl, hq, he, q⟩ := h
  cases ro
  obtain ⟨t, rfl⟩ := ri
  obtain ⟨its, r, pl, hz⟩ := I.list hq
  obtain ⟨j, h1, h2, h3, h4, h5⟩ := atI_get he
  obtain ⟨w, ew, rw'⟩ := r.get h2
  have hl := r.length
  have hn := line63
  have fin : EP X pins σ Q w s := ⟨z, H, I, rw', q⟩
  by_cases h0 : 0 ≤ k
  · have hj : k.toNat = j := by
      rw [seqIndex_of h0 h5] at h1
      exact Option.some.inj h1
    exact wpAny_getItem_list pl.isList h0 (by omega) (by rw [hj]; simpa using ew) fin
  · have hj : (k + (its.toArray.size : Int)).toNat = j := by
      rw [seqIndex_neg (by omega) h4] at h1
      rw [List.size_toArray, ← hl]
      exact Option.some.inj h1
    exact wpAny_getItem_list_neg pl.isList (by omega) (by rw [List.size_toArray] <;> omega) (by omega) (by rw [hj]; simpa using ew) fin
theorem g_augS {to ti te : TE} {tget : V → V → Hp → VK → Prop} {tip : TIp} {tset : TSet} {D : Ends} {σ : St} {H : Hp} (h : to σ H fun o H1 => ti σ H1 fun i H2 => tget o i H2 fun x H3 => te σ H3 fun y H4 => tip x y H4 fun z H5 => tset o i z H5 fun H6 => D.nx σ H6) : tAugS to ti te tget tip tset D σ H := h
end
local macro_rules | `(tactic| walk_at "use") => `(tactic| with_reducible first | refine g_augS ?_)
/-! `o.f += n` -/
section
variable {K : PySem.W.Frag} {f : Str}
theorem g_fldaug {tv : TE} {rd : V → V → Hp → VK → Prop} {D : Ends} {σ : St} {H : Hp} {i j : Nat} {a C dx : Addr} {ks : List Str} {vs : List V} {v : V} (hσ : σ[i]? = some (some (.ref a))) (ho : H a = some (.ins C dx (obj ks vs))) (c : Cls K C) (n : NoAttr K C f) (nd : ks.Nodup) (hk : ks[j]? = some f) (hv : vs[j]? = some v)
    (h : tv σ H fun y H2 => rd v y H2 fun z H3 => ∃ dx' fs', H3 a = some (.ins C dx' fs') ∧ fs'.length < 1000 ∧ D.nx σ (upd H3 a (.ins C dx' (putF f z fs')))) : sFldAug K (tVar i) tv rd f D σ H :=
  ⟨_, hσ, a, C, dx, _, v, rfl, ho, c, n, (obj_get nd hk).trans hv, h⟩
theorem g_fldaugE {H : Hp} {j : Nat} {a C dx : Addr} {ks : List Str} {vs : List V} {z : V} {A : Hp → Prop} (ho : H a = some (.ins C dx (obj ks vs))) (nd : ks.Nodup) (h1 : ks.length < 1000) (hk : ks[j]? = some f) (hv : j < vs.length) (q : A (upd H a (.ins C dx (obj ks (vs.set j z))))) :
    ∃ dx' fs', H a = some (.ins C dx' fs') ∧ fs'.length < 1000 ∧ A (upd H a (.ins C dx' (putF f z fs'))) := ⟨dx, _, ho, Nat.lt_of_le_of_lt (obj_len ks vs) h1, by rw [obj_put nd hk hv]; exact q⟩
end

/-! ### x == y by an own __eq__, whatever it answers -/
def rEqO (C : Addr) (OK : V → Hp → Prop) (sp : Sp) (E : XK) : R2 := fun x y H Q => ∃ a dx fs, x = .ref a ∧ H a = some (.ins C dx fs) ∧ OK y H ∧ sp [x, y] H (fun v H' => ∃ b, v = .bl b ∧ Q (.bl b) H') E
/-- what may stand on the right: an instance of the class, or an int -/
def EqR (C : Addr) : V → Hp → Prop := fun y H => (∃ b dy gs, y = .ref b ∧ H b = some (.ins C dy gs)) ∨ ∃ i, y = .int i
theorem op_eqO {X : Cx} {CX : CXT} {n : Nat} {C f : Addr} {fd : FuncData} {ps : List Str} {sp : Sp} {E : XK} (F : FnOk X.prog X.w X.K X.mg X.base CX n f fd ps sp) (hr : Room n X.A)
    (hm : Meth X.K C "__eq__" f) (hi : PySem.W.subIn X.K (.type "int") (.ref C) = some false) (hb : Binds X.K fd ps []) (hx : Passes CX X E) : OpR X (compareOp .Eq) (rEqO C (EqR C) sp E) := by
  obtain ⟨hs, hf, _⟩ := hm
  intro pins s σ H x y v u Q I rx ry hq
  obtain ⟨a, dx, fs, rfl, ha, hy, hsp⟩ := hq
  cases rx
  show wpAny (model X.prog X.w) X.A (richCompare .Eq (.ref a) u) (EP X pins σ Q) X.xe s
  obtain ⟨mA, J, _⟩ := ins_get I.hok ha
  obtain ⟨od, J, _⟩ := J.look
  obtain ⟨m, hF⟩ := I.fr
  have hl := F.len _ _ _ _ hsp
  have r2 : Vals [V.ref a, y] [Value.ref a, u] := .cons rfl (.cons ry .nil)
  have main : wpAny (model X.prog X.w) X.A (call (.ref f) [.ref a, u]) (PySem.W.CmpBack (EP X pins σ Q)) X.xe s := by
    refine wpAny_call (codeAny_mono (F.run X.A X.stack s H ⟨[.ref a, u], []⟩ [.ref a, u] [.ref a, y] _ E hr I.env0 (by
      have := hb s [.ref a, u] I.kIn (by simpa using hl)
      simpa using this) r2 hsp) fun r s' hq => ?_)
    cases r with
    | error e => exact hx pins σ H s e s' I hq
    | ok fl =>
      cases fl with
      | ret w =>
        obtain ⟨z, H', I', rz, b, ez, q⟩ := I.after hq
        subst ez
        cases rz
        exact ⟨.bl b, H', I', rfl, q⟩
      | next => exact False.elim hq
      | brk => exact False.elim hq
      | cont => exact False.elim hq
  rcases hy with ⟨b, dy, gs, rfl, hb'⟩ | ⟨i, rfl⟩
  · cases ry
    obtain ⟨mB, J', _⟩ := ins_get I.hok hb'
    obtain ⟨od', J', _⟩ := J'.look
    exact PySem.W.cmp_K (op := .Eq) (tb := .ref C) hr.units0 hF I.ok.mod.kin J J'.type (by simp [PySem.W.notFirst]) hs hf main
  · obtain ⟨t, rfl⟩ := ry
    exact PySem.W.cmp_K (op := .Eq) (tb := .type "int") hr.units0 hF I.ok.mod.kin J (PySem.W.Looks.of_pure rfl) (by unfold PySem.W.notFirst; rw [hi]; rfl) hs hf main
theorem kit_own {K : PySem.W.Frag} {T : String} {C : Addr} (a : PySem.W.isClsIn K C = true) (b : PySem.W.typeIn K (.ref C) = some (.type "type")) (c : PySem.W.subIn K (.type T) (.ref C) = some false) : PySem.W.kitOne K (.type T) (.ref C) = some false := by
  unfold PySem.W.isClsIn at a
  unfold PySem.W.kitOne
  rw [if_neg (by show ¬ (Value.type T == Value.ref C) = true; exact fun h => by cases (beq_iff_eq.mp h))]
  show (if ((PySem.W.clsIn K C).isSome && PySem.W.typeIn K (.ref C) == some (.type "type")) = true then PySem.W.subIn K (.type T) (.ref C) else none) = some false
  rw [a, b, if_pos (by rw [Bool.true_and]; exact beq_self_eq_true _)]
  exact c

theorem kb_pure {K : PySem.W.Frag} {x qual : Str} {params : Arguments} {body : List Stmt} {scope : Scope} {kws : List (Str × V)} {f : Addr} {fd : FuncData} {ps : List Str} (F : FunD K x qual params body scope [] kws f fd) (n : Nat) (ks : List Str) (g : {α : Type} → List α → List α → List α)
    (hrel : ∀ {vs zs : List V} {us ws : List Value}, Vals vs us → Vals zs ws → Vals (g vs zs) (g us ws))
    (h : ∀ (kV doc pm : Value) (an : Option Addr) (cdv ct : Value) (us ws : List Value), us.length = n → ws.length = ks.length → bindArgs (PySem.W.fnOf x qual params body scope .none kV doc pm an cdv ct) ⟨us, ks.zip ws⟩ = pure (ps.zip (g us ws))) :
    KBn K fd ps n ks (fun us ws => g us ws) (fun vs zs => g vs zs) := by
  obtain ⟨oc, od, dV, kV, doc, pm, an, cdv, ct, osl, rfl, lk, hcd, hD, hK⟩ := F.ex
  rcases hD with ⟨_, rfl⟩ | ⟨e, _⟩
  · exact ⟨fun s us ws X l1 l2 => .of_eq (h kV doc pm an cdv ct us ws l1 l2), fun r1 r2 => hrel r1 r2⟩
  · exact absurd rfl e
theorem pe_callN0 {X : Cx} {CX : CXT} {k : Nat} {f : Addr} {fd : FuncData} {ps ks : List Str} {sp : Sp} {E : XK} {x : Str} {p pos : Pos} {kws : List Keyword} {tk : TA} {g : List Value → List Value → List Value} {gV : List V → List V → List V} (F : FnOk X.prog X.w X.K X.mg X.base CX k f fd ps sp) (hr : Room k X.A) (hg : Gl X x) (hm : X.mg x = some (.ref f)) (hk : PySem.W.keepIn X.K (.ref f) = true) (hb : KBn X.K fd ps 0 ks g gV) (hx : Passes CX X E)
    (hkw : PK X kws tk) (hall : (backToKw pos (keywordEach kws X.env)).all (·.1.isSome) = true := by rfl) (hks : (backToKw pos (keywordEach kws X.env)).filterMap (·.1) = ks := by rfl)
    (hdb : (x == ("__debug__" : Str)) = false := by decide)
    (hpl : ((backTo pos (starEach [] X.env)).any (·.1) || (backToKw pos (keywordEach kws X.env)).any (·.1.isNone)) = false := by rfl) :
    PE X (.Call (.Name x p) [] kws pos) (tCallN 0 ks.length sp gV E tNil tk) := by
  refine ⟨fun pins s σ H Q I h => ?_⟩
  refine wpAny_Call_Name_kw (ld_glob I hg hm ?_ hdb)
  refine PySem.W.callWith_KW0 (h₀ := X.base) I.ok.mod.kin hk hall ?_ hpl
  refine thn (hkw.run pos pins s σ H _ I h) fun ws s2 ⟨zs, H2, I2, rz, l1, l2, q2⟩ => ⟨I2.kIn, ?_⟩
  rw [hks]
  exact run_fnN (us := []) (vs := []) F hr hb hx I2 .nil rz rfl l2 q2
theorem g_callN {n m : Nat} {sp : Sp} {gV : List V → List V → List V} {E : XK} {t tk : TA} {σ : St} {H : Hp} {Q : VK} (h : t σ H fun vs H1 => tk σ H1 fun zs H2 => vs.length = n ∧ zs.length = m ∧ sp (gV vs zs) H2 Q E) : tCallN n m sp gV E t tk σ H Q := h
local macro_rules | `(tactic| walk_at "use") => `(tactic| with_reducible refine g_callN ?_)

/-! ### a call that leaves keyword-only parameters out: the loop over their names, step by step -/
inductive KwSteps (D : Addr) {β : Type} (f : Str → β → Sem (ForInStep β)) : List Str → β → List (Str × Value) → β → Prop
  | nil {b : β} : KwSteps D f [] b [] b
  | skip {a : Str} {L : List Str} {b b1 b' : β} {l : List (Str × Value)} : f a b = pure (.yield b1) → KwSteps D f L b1 l b' → KwSteps D f (a :: L) b l b'
  | look {a : Str} {L : List Str} {b b1 b' : β} {v : Value} {l : List (Str × Value)} (k : Option Value → Sem (ForInStep β)) : f a b = (nsGet D a >>= k) → k (some v) = pure (.yield b1) → KwSteps D f L b1 l b' → KwSteps D f (a :: L) b ((a, v) :: l) b'
theorem KwSteps.chain {D : Addr} {α β : Type} {f : Str → β → Sem (ForInStep β)} {L : List Str} {b b' : β} {l : List (Str × Value)} (h : KwSteps D f L b l b') : ∀ {rest : β → Sem α} {r : α}, rest b' = pure r → KwChain D l (forIn L b f >>= rest) r := by
  induction h with
  | nil =>
    intro rest r e
    show forIn [] _ f >>= rest = pure r
    rw [List.forIn_nil, pure_bind]
    exact e
  | skip e _ ih =>
    intro rest r e2
    have z := ih e2
    rw [List.forIn_cons, e, pure_bind]
    exact z
  | look k e e1 _ ih =>
    intro rest r e2
    have z := ih e2
    rename_i a L b b1 b' v l hs
    refine ⟨_, _, k, fun y => (match y with | .done b => pure b | .yield b => forIn L b f), rest, .yield b1, ?_, e1, z⟩
    rw [List.forIn_cons, e]
    rfl
theorem KwChain.of_steps {D : Addr} {α β : Type} {t : Sem α} {f : Str → β → Sem (ForInStep β)} {L : List Str} {b b' : β} {l : List (Str × Value)} {rest : β → Sem α} {r : α} (e : t = (forIn L b f >>= rest)) (h : KwSteps D f L b l b') (e2 : rest b' = pure r) : KwChain D l t r := e ▸ h.chain e2
theorem KwSteps.skipIf {D : Addr} {β : Type} {f : Str → β → Sem (ForInStep β)} {a : Str} {L : List Str} {b b1 b' : β} {l : List (Str × Value)} {c : Bool} {X : Sem (ForInStep β)} (e : f a b = if c = true then X else pure (.yield b1)) (hc : c = false) (h : KwSteps D f L b1 l b') : KwSteps D f (a :: L) b l b' := .skip (by rw [e, hc]; rfl) h
theorem KwSteps.lookIf {D : Addr} {β : Type} {f : Str → β → Sem (ForInStep β)} {a : Str} {L : List Str} {b b1 b' : β} {v : Value} {l : List (Str × Value)} {c : Bool} {k : Option Value → Sem (ForInStep β)} {Y : Sem (ForInStep β)} (e : f a b = if c = true then (nsGet D a >>= k) else Y) (hc : c = true) (e1 : k (some v) = pure (.yield b1)) (h : KwSteps D f L b1 l b') : KwSteps D f (a :: L) b ((a, v) :: l) b' := .look k (by rw [e, hc]; rfl) e1 h

theorem g_makeK {C : Addr} {n m : Nat} {sp : Sp} {gV : List V → List V → List V} {E : XK} {t tk : TA} {σ : St} {H : Hp} {Q : VK} (h : t σ H fun vs H1 => tk σ H1 fun zs H2 => vs.length = n ∧ zs.length = m ∧
  ∀ x dx, H2 x = none → H2 dx = none → dx ≠ x → sp (gV (.ref x :: vs) zs) (upd (upd H2 dx (.own x)) x (.ins C dx [])) (fun v H3 => v = .non ∧ Q (.ref x) H3) E) : tMakeK C n m sp gV E t tk σ H Q := h
local macro_rules | `(tactic| walk_at "use") => `(tactic| with_reducible refine g_makeK ?_)

section
variable {K : PySem.W.Frag} {H : Hp} {Q : VK}
theorem dec_str {s t : Str} : decide (V.str s = V.str t) = decide (s = t) := decide_eq_decide.mpr ⟨V.str.inj, congrArg _⟩
theorem g_rEqS {s t : Str} (q : Q (.bl (decide (s = t))) H) : rEq (.str s) (.str t) H Q := g_rEq rfl (by rw [dec_str]; exact q)
theorem g_rNeS {s t : Str} (q : Q (.bl (!decide (s = t))) H) : rNe (.str s) (.str t) H Q := g_rNe rfl (by rw [dec_str]; exact q)
theorem inV_str {s : Str} : ∀ {ws : List Str}, inV (.str s) (ws.map V.str) = decide (s ∈ ws)
  | [] => (decide_eq_false (by simp)).symm
  | t :: ws => by
    show ((t == s) || inV (.str s) (ws.map V.str)) = _
    rw [inV_str, Bool.eq_iff_iff]
    simp only [Bool.or_eq_true, beq_iff_eq, decide_eq_true_eq, List.mem_cons]
    exact ⟨fun h => h.imp Eq.symm id, fun h => h.imp Eq.symm id⟩
theorem flat_strs : ∀ {ws : List Str}, (ws.map V.str).all flatV = true
  | [] => rfl
  | _ :: ws => flat_strs (ws := ws)
theorem g_inS {p : Addr} {ws : List Str} {s : Str} (h : SqT K H p (ws.map V.str)) (q : Q (.bl (decide (s ∈ ws))) H) : rIn K false (.str s) (.ref p) H Q :=
  ⟨p, _, rfl, .inr h, rfl, flat_strs, by rw [if_neg (by decide), inV_str]; exact q⟩
theorem g_isiS {s : Str} (q : Q (.bl true) H) : rIsi K [.str s, .ty "str"] H Q := g_isi (.ty _) (.base (.str _)) (kit_ty (by decide +kernel)) q
end
local macro_rules | `(tactic| walk_at "use") => `(tactic| with_reducible first | refine g_rEqS ?_ | refine g_rNeS ?_ | refine g_isiS ?_)

local macro_rules | `(tactic| walk_at "use") => `(tactic| with_reducible first | refine g_callN ?_)
def rAddS : R2 := fun x y H Q => ∃ i j : Str, x = .str i ∧ y = .str j ∧ i.length + j.length ≤ sizeLine ∧ Q (.str (i ++ j)) H
theorem op_addS {X : Cx} : OpR X (binaryOp .Add) rAddS := op_add_str
theorem g_addS {H : Hp} {Q : VK} {y z : Str} (h : y.length + z.length ≤ 16777216) (q : Q (.str (y ++ z)) H) : rAddS (.str y) (.str z) H Q := ⟨y, z, rfl, rfl, by rw [sizeLine_eq]; exact h, q⟩

/-! ### dicts with ints as keys, by what they hold -/
def Dk (H : Hp) (d : Addr) (f : Int → Option V) (n : Nat) : Prop := ∃ kvs : List (Key × V), H d = some (.dK kvs) ∧ kvs.length ≤ n ∧ ∀ k : Int, valV kvs (.inl k) = f k
theorem Dk.new {H : Hp} {d : Addr} (h : H d = some (.dK [])) : Dk H d (fun _ => none) 0 := ⟨[], h, Nat.le_refl _, fun _ => rfl⟩
theorem Dk.get {H : Hp} {d : Addr} {f : Int → Option V} {n : Nat} (h : Dk H d f n) (k : Int) : DGet H d (.int k) (f k) := by
  obtain ⟨kvs, e, _, hv⟩ := h
  have z := DGet.k (k := .inl k) e
  rw [hv] at z
  exact z
theorem Dk.isD {H : Hp} {d : Addr} {f : Int → Option V} {n : Nat} (h : Dk H d f n) : IsD H d := by
  obtain ⟨kvs, e, _, _⟩ := h
  exact .inl ⟨kvs, .inl e⟩
theorem Dk.put {H : Hp} {d : Addr} {f : Int → Option V} {n : Nat} (h : Dk H d f n) (hn : n < 100000) (k : Int) (v : V) : ∃ H', DPut H d (.int k) v H' ∧ But d H H' ∧ Dk H' d (fun j => if j = k then some v else f j) (n + 1) := by
  obtain ⟨kvs, e, hl, hv⟩ := h
  refine ⟨_, DPut.k (k := .inl k) (v := v) e (szl (by omega)), But.refl.upd, putK kvs (.inl k) v, upd_same, Nat.le_trans (length_putK _ _ _) (by omega), fun j => ?_⟩
  rw [valV_put, hv]
  show _ = if j = k then some v else f j
  by_cases z : j = k
  · subst z
    rw [if_pos rfl, if_pos rfl]
  · rw [if_neg z, if_neg fun w => z (Sum.inl.inj w)]
theorem Dk.at {H H' : Hp} {d : Addr} {f : Int → Option V} {n : Nat} (h : Dk H d f n) (s : ∀ o, H d = some o → H' d = some o) : Dk H' d f n := by
  obtain ⟨kvs, e, hl, hv⟩ := h
  exact ⟨kvs, s _ e, hl, hv⟩
theorem Dk.same {H H' : Hp} {d : Addr} {f : Int → Option V} {n : Nat} (h : Dk H d f n) (s : Same H H') : Dk H' d f n := h.at (s d)
theorem Dk.none {H : Hp} {d : Addr} {f : Int → Option V} {n : Nat} (h : Dk H d f n) {p : Addr} (hp : H p = none) : d ≠ p := by
  obtain ⟨kvs, e, _, _⟩ := h
  exact ne_of_none e hp
theorem g_dgetI {td ty : TE} {σ : St} {H : Hp} {Q : VK} (h : td σ H fun x H1 => ty σ H1 fun y H2 => ∃ a v, x = .ref a ∧ DGet H2 a y (some v) ∧ Q v H2) : tDGet td ty σ H Q := h
theorem g_dputI {td ty tv : TE} {D : Ends} {σ : St} {H : Hp} (h : tv σ H fun v H1 => td σ H1 fun x H2 => ty σ H2 fun y H3 => ∃ a H4, x = .ref a ∧ DPut H3 a y v H4 ∧ D.nx σ H4) : sDPut td ty tv D σ H := h
theorem g_dget1I {td ty : TE} {σ : St} {H : Hp} {Q : VK} (h : td σ H fun x H1 => ∃ a, x = .ref a ∧ IsD H1 a ∧ ty σ H1 fun y H2 => ∃ o, DGet H2 a y o ∧ Q (o.getD .non) H2) : tDGet1 td ty σ H Q := h
theorem g_dget2I {td ty tx : TE} {σ : St} {H : Hp} {Q : VK} (h : td σ H fun x H1 => ∃ a, x = .ref a ∧ IsD H1 a ∧ ty σ H1 fun y H2 => tx σ H2 fun z H3 => ∃ o, DGet H3 a y o ∧ Q (o.getD z) H3) : tDGet2 td ty tx σ H Q := h
theorem g_dinI {td ty : TE} {σ : St} {H : Hp} {Q : VK} (h : ty σ H fun y H1 => td σ H1 fun x H2 => ∃ a o, x = .ref a ∧ DGet H2 a y o ∧ Q (.bl o.isSome) H2) : tDIn ty td σ H Q := h
theorem g_dnotinI {td ty : TE} {σ : St} {H : Hp} {Q : VK} (h : ty σ H fun y H1 => td σ H1 fun x H2 => ∃ a o, x = .ref a ∧ DGet H2 a y o ∧ Q (.bl (!o.isSome)) H2) : tDNotIn ty td σ H Q := h
theorem g_dnewK {σ : St} {H : Hp} {Q : VK} (h : ∀ p, H p = none → Q (.ref p) (upd H p (.dK []))) : tDNewK σ H Q := h
local macro_rules | `(tactic| walk_at "use") => `(tactic| with_reducible first | refine g_dgetI ?_ | refine g_dputI ?_ | refine g_dget1I ?_ | refine g_dget2I ?_ | refine g_dinI ?_ | refine g_dnotinI ?_ | refine g_dnewK ?_)


theorem g_gtup {K : PySem.W.Frag} {n : Nat} {t : List V → St → Hp → (St → Hp → Prop) → Prop} {a : Addr} {xs : List V} {σ : St} {H : Hp} {Q : St → Hp → Prop} (h : SqT K H a xs) (l : xs.length = n) (q : t xs σ H Q) : gTup K n t (.ref a) σ H Q := ⟨a, xs, rfl, h, l, q⟩
theorem g_gcons {t : TG} {u : List V → St → Hp → (St → Hp → Prop) → Prop} {v : V} {r : List V} {σ : St} {H : Hp} {Q : St → Hp → Prop} (h : t v σ H fun σ' H' => u r σ' H' Q) : gCons t u (v :: r) σ H Q := ⟨v, r, rfl, h⟩
theorem g_gnil {σ : St} {H : Hp} {Q : St → Hp → Prop} (q : Q σ H) : gNil [] σ H Q := ⟨rfl, q⟩
local macro_rules | `(tactic| walk_at "use") => `(tactic| with_reducible first | refine g_gcons ?_ | refine g_gnil ?_ | refine g_makeK ?_)
/-! ### what a row says, and what is wrong with it -/
structure Rw where
  tick : Int
  num : Int
  word : Str
  a : Int
  b : Int
  ds : List Int
  mkd : Bool
def wS : Str := "sent"
def pTB : Str := "the tick goes back"
def pWN : Str := "the number is not the next one"
def pNU : Str := "the packet is not under way"
def pOP : Str := "the packet is not the one that was sent"
def pTY : Str := "the packet is too young to expire"
def pTO : Str := "the packet is too old"
def PS : List Str := [pTB, pWN, pNU, pOP, pTY, pTO]
def Wd (r : Rw) : Prop := r.word ∈ (["sent", "delivered", "lost", "copied", "marked", "expired"] : List Str)
def firstR (rows : List Rw) (n : Int) : Option Rw := rows.find? fun r => decide (r.word = "sent") && decide (r.num = n)
def lastS (rows : List Rw) : Int := rows.foldl (fun (l : Int) (r : Rw) => if r.word = ("sent" : Str) then r.num else l) (-1)
def cps (n : Int) (s : Int × Bool) (r : Rw) : Int × Bool :=
  if r.num = n then
    ((if r.word = "copied" ∨ (r.word = "sent" ∧ s.2 = false) then s.1 + 1 else if r.word ∈ (["delivered", "lost", "expired"] : List Str) ∧ s.1 > 0 then s.1 - 1 else s.1), s.2 || decide (r.word = "sent"))
  else s
def cpA (rows : List Rw) (n : Int) : Int × Bool := rows.foldl (cps n) (0, false)
def pkne (f r : Rw) : Bool := !(decide (f.a = r.a) && (decide (f.b = r.b) && decide (f.ds = r.ds)))
def pOt (f r : Rw) : Bool := pkne f r || (f.mkd && !r.mkd)
def und (rows : List Rw) (r : Rw) (life : Int) : List Str :=
  match firstR rows r.num with
  | none => [pNU]
  | some f => (((if (cpA rows r.num).1 = 0 then [pNU] else []) ++ (if pOt f r = true then [pOP] else [])) ++ (if r.word = "expired" ∧ r.tick ≤ f.tick + life then [pTY] else [])) ++ (if ¬ r.word = "expired" ∧ f.tick + life < r.tick then [pTO] else [])
def tb (rows : List Rw) (r : Rw) : Prop := match rows.getLast? with | none => False | some l => r.tick < l.tick
instance (rows : List Rw) (r : Rw) : Decidable (tb rows r) := by unfold tb; split <;> infer_instance
theorem tb_none {rows : List Rw} {r : Rw} (e : rows.getLast? = none) : ¬ tb rows r := by
  unfold tb
  rw [e]
  exact not_false
theorem tb_some {rows : List Rw} {r g : Rw} (e : rows.getLast? = some g) : tb rows r ↔ r.tick < g.tick := by
  unfold tb
  rw [e]
def prb (rows : List Rw) (r : Rw) (life : Int) : List Str :=
  (if tb rows r then [pTB] else []) ++ (if r.word = "sent" then (if ¬ r.num = lastS rows + 1 then [pWN] else []) else und rows r life)
def allP (rows : List Rw) (life : Int) : Nat → List (Int × Str)
  | 0 => []
  | i + 1 => allP rows life i ++ (match rows[i]? with | none => [] | some r => (prb (rows.take i) r life).map fun p => ((i : Int), p))
theorem cpA_snoc {rows : List Rw} {r : Rw} {n : Int} : cpA (rows ++ [r]) n = cps n (cpA rows n) r := by
  unfold cpA
  rw [List.foldl_append]
  rfl
theorem lastS_snoc {rows : List Rw} {r : Rw} : lastS (rows ++ [r]) = if r.word = "sent" then r.num else lastS rows := by
  unfold lastS
  rw [List.foldl_append]
  rfl
theorem firstR_snoc {rows : List Rw} {r : Rw} {n : Int} : firstR (rows ++ [r]) n = match firstR rows n with | some f => some f | none => if r.word = "sent" ∧ r.num = n then some r else none := by
  unfold firstR
  rw [List.find?_append]
  cases e : List.find? (fun r : Rw => decide (r.word = ("sent" : Str)) && decide (r.num = n)) rows with
  | some f => rfl
  | none =>
    rw [Option.none_or]
    show List.find? (fun r : Rw => decide (r.word = ("sent" : Str)) && decide (r.num = n)) [r] = (if r.word = ("sent" : Str) ∧ r.num = n then some r else none)
    rw [List.find?_cons]
    by_cases c : r.word = "sent" ∧ r.num = n
    · rw [if_pos c, decide_eq_true c.1, decide_eq_true c.2]
      rfl
    · rw [if_neg c]
      by_cases c1 : r.word = "sent"
      · have c2 : ¬ r.num = n := fun z => c ⟨c1, z⟩
        rw [decide_eq_true c1, decide_eq_false c2]
        rfl
      · rw [decide_eq_false c1]
        rfl
theorem seen_acc {n : Int} : ∀ (rows : List Rw) (s : Int × Bool), (rows.foldl (cps n) s).2 = (s.2 || (firstR rows n).isSome)
  | [], s => by
    show s.2 = (s.2 || false)
    rw [Bool.or_false]
  | r :: rows, s => by
    rw [List.foldl_cons, seen_acc rows]
    unfold firstR
    rw [List.find?_cons]
    unfold cps
    by_cases c : r.num = n
    · rw [if_pos c, decide_eq_true c, Bool.and_true]
      by_cases c1 : r.word = "sent"
      · rw [decide_eq_true c1]
        simp
      · rw [decide_eq_false c1]
        simp
    · rw [if_neg c, decide_eq_false c, Bool.and_false]
theorem seen_eq {n : Int} {rows : List Rw} : (cpA rows n).2 = (firstR rows n).isSome := by
  unfold cpA
  rw [seen_acc]
  exact Bool.false_or _
theorem und_len {rows : List Rw} {r : Rw} {life : Int} : (und rows r life).length ≤ 4 := by
  unfold und
  cases firstR rows r.num with
  | none => exact Nat.le_succ_of_le (Nat.le_succ_of_le (Nat.le_succ _))
  | some f =>
    simp only [List.length_append]
    have h : ∀ (c : Prop) [Decidable c] (p : Str), (if c then [p] else []).length ≤ 1 := fun c _ p => by split <;> simp
    have h1 := h ((cpA rows r.num).1 = 0) pNU
    have h2 := h (pOt f r = true) pOP
    have h3 := h (r.word = "expired" ∧ r.tick ≤ f.tick + life) pTY
    have h4 := h (¬ r.word = "expired" ∧ f.tick + life < r.tick) pTO
    omega
theorem prb_len {rows : List Rw} {r : Rw} {life : Int} : (prb rows r life).length ≤ 5 := by
  unfold prb
  have := und_len (rows := rows) (r := r) (life := life)
  rw [List.length_append]
  split <;> split <;> (try split) <;> simp <;> omega
theorem und_mem {rows : List Rw} {r : Rw} {life : Int} {p : Str} (h : p ∈ und rows r life) : p ∈ PS := by
  unfold und at h
  have g : ∀ (c : Prop) [Decidable c] (q : Str), p ∈ (if c then [q] else []) → p = q := fun c _ q z => by
    by_cases hc : c
    · rw [if_pos hc] at z; exact List.mem_singleton.mp z
    · rw [if_neg hc] at z; cases z
  unfold PS
  cases e : firstR rows r.num with
  | none =>
    rw [e] at h
    rw [List.mem_singleton.mp h]
    simp
  | some f =>
    rw [e] at h
    simp only [List.mem_append] at h
    rcases h with ((h | h) | h) | h <;> rw [g _ _ h] <;> simp
theorem prb_mem {rows : List Rw} {r : Rw} {life : Int} {p : Str} (h : p ∈ prb rows r life) : p ∈ PS := by
  unfold prb at h
  rcases List.mem_append.mp h with h | h
  · by_cases c : tb rows r
    · rw [if_pos c] at h
      rw [List.mem_singleton.mp h]
      unfold PS
      simp
    · rw [if_neg c] at h; cases h
  · by_cases c : r.word = "sent"
    · rw [if_pos c] at h
      by_cases c2 : ¬ r.num = lastS rows + 1
      · rw [if_pos c2] at h
        rw [List.mem_singleton.mp h]
        unfold PS
        simp
      · rw [if_neg c2] at h; cases h
    · rw [if_neg c] at h
      exact und_mem h
theorem allP_len {rows : List Rw} {life : Int} : ∀ i, (allP rows life i).length ≤ 5 * i
  | 0 => Nat.le_refl _
  | i + 1 => by
    show (allP rows life i ++ _).length ≤ _
    have := allP_len (rows := rows) (life := life) i
    rw [List.length_append]
    cases e : rows[i]? with
    | none => simp; omega
    | some r =>
      have := prb_len (rows := rows.take i) (r := r) (life := life)
      simp only [List.length_map]
      omega
theorem allP_mem {rows : List Rw} {life : Int} {x : Int × Str} : ∀ {i}, x ∈ allP rows life i → x.2 ∈ PS
  | 0, h => by cases h
  | i + 1, h => by
    have h' : x ∈ allP rows life i ++ _ := h
    rcases List.mem_append.mp h' with h | h
    · exact allP_mem h
    · cases e : rows[i]? with
      | none => rw [e] at h; cases h
      | some r =>
        rw [e] at h
        obtain ⟨p, hp, rfl⟩ := List.mem_map.mp h
        exact prb_mem hp
/-! ### heaps that change at a set -/
def ButS (S : Addr → Prop) (H H' : Hp) : Prop := ∀ b o, ¬ S b → H b = some o → H' b = some o
theorem ButS.refl {S : Addr → Prop} {H : Hp} : ButS S H H := fun _ _ _ h => h
theorem ButS.of {S : Addr → Prop} {H H' : Hp} (s : Same H H') : ButS S H H' := fun b o _ h => s b o h
theorem ButS.trans {S : Addr → Prop} {H H1 H2 : Hp} (a : ButS S H H1) (b : ButS S H1 H2) : ButS S H H2 := fun c o n h => b c o n (a c o n h)
theorem ButS.but {S : Addr → Prop} {H H' : Hp} {p : Addr} (hp : S p) (b : But p H H') : ButS S H H' := fun c o n h => b c o (fun z => n (z ▸ hp)) h
theorem ButS.mono {S S' : Addr → Prop} {H H' : Hp} (b : ButS S H H') (i : ∀ x, S x → S' x) : ButS S' H H' := fun c o n h => b c o (fun z => n (i c z)) h
/-- S is young -/
theorem ButS.same {S : Addr → Prop} {H H' : Hp} (b : ButS S H H') (n : ∀ x, S x → H x = none) : Same H H' := fun c o h => b c o (fun z => by rw [n c z] at h; cases h) h
/-! ### the program's objects -/
def PkO (C : Addr) (S : Addr → Prop) (H : Hp) (p : Addr) (r : Rw) : Prop := ∃ dx l, ¬ S p ∧ ¬ S l ∧ H p = some (.ins C dx (obj ky_Packet [.int r.a, .int r.b, .ref l, .bl r.mkd])) ∧ H l = some (.lst (r.ds.map V.int))
def RcO (C C2 : Addr) (S : Addr → Prop) (H : Hp) (p : Addr) (r : Rw) : Prop := ∃ dx q, ¬ S p ∧ H p = some (.ins C dx (obj ky_Record [.int r.tick, .int r.num, .str r.word, .ref q])) ∧ PkO C2 S H q r
theorem PkO.but {C : Addr} {S : Addr → Prop} {H H' : Hp} {p : Addr} {r : Rw} (h : PkO C S H p r) (b : ButS S H H') : PkO C S H' p r := by
  obtain ⟨dx, l, n1, n2, h1, h2⟩ := h
  exact ⟨dx, l, n1, n2, b _ _ n1 h1, b _ _ n2 h2⟩
theorem RcO.but {C C2 : Addr} {S : Addr → Prop} {H H' : Hp} {p : Addr} {r : Rw} (h : RcO C C2 S H p r) (b : ButS S H H') : RcO C C2 S H' p r := by
  obtain ⟨dx, q, n1, h1, h2⟩ := h
  exact ⟨dx, q, n1, b _ _ n1 h1, h2.but b⟩
theorem PkO.set {C : Addr} {S S' : Addr → Prop} {H : Hp} {p : Addr} {r : Rw} (h : PkO C S H p r) (n : ∀ x, S' x → H x = none) : PkO C S' H p r := by
  obtain ⟨dx, l, n1, n2, h1, h2⟩ := h
  exact ⟨dx, l, (fun z => by rw [n _ z] at h1; cases h1), (fun z => by rw [n _ z] at h2; cases h2), h1, h2⟩
theorem RcO.set {C C2 : Addr} {S S' : Addr → Prop} {H : Hp} {p : Addr} {r : Rw} (h : RcO C C2 S H p r) (n : ∀ x, S' x → H x = none) : RcO C C2 S' H p r := by
  obtain ⟨dx, q, n1, h1, h2⟩ := h
  exact ⟨dx, q, (fun z => by rw [n _ z] at h1; cases h1), h1, h2.set n⟩
def FdO (C : Addr) (H : Hp) (p : Addr) (x : Int × Str) : Prop := ∃ dx, H p = some (.ins C dx (obj ky_Finding [.int x.1, .str x.2]))
def sp_Finding_init__ (C : Addr) : Sp := fun vs H Q _ => ∃ (p dx : Addr) (x : Int × Str), vs = [.ref p, .int x.1, .str x.2] ∧ H p = some (.ins C dx (obj ky_Finding [])) ∧ Q .non (upd H p (.ins C dx (obj ky_Finding [.int x.1, .str x.2])))
theorem ok_Finding_init__ (T : Txt K mg) : FnOk P w K mg base CX0 1 T.f_Finding_init__ T.d_Finding_init__ ["self", "index", "problem"] (sp_Finding_init__ T.C_Finding) := by
  refine T.F_Finding_init__.ok sc_Finding_init__ (fun vs H Q E h => ?_) (fun cdv A outer s H vs Q E hr h => ?_)
  · obtain ⟨p, dx, x, rfl, ho, q⟩ := h
    rfl
  · obtain ⟨p, dx, x, rfl, ho, q⟩ := h
    have hu := hu_of hr
    refine ⟨_, (pss_cons (ps_fld (pv 0) (pv 1) rfl)
        (pss_one (ps_fld (pv 0) (pv 2) rfl))), ?_⟩
    dsimp only [cxOf, Cx.nox, Cx.wish, L2.start, List.map, List.cons_append, List.nil_append, List.length_cons, List.length_nil, Nat.reduceAdd, Nat.reduceSub, Nat.zero_add, List.replicate_succ, List.replicate_zero]
    walk_at "go"
    simp only [upd_upd, List.nil_append, List.cons_append]
    exact q
def sp_Finding_eq__ (C : Addr) : Sp := fun vs H Q _ => ∃ (p p' : Addr) (x y : Int × Str), vs = [.ref p, .ref p'] ∧ FdO C H p x ∧ FdO C H p' y ∧ Q (.bl (decide (x = y))) H
theorem ok_Finding_eq__ (T : Txt K mg) : FnOk P w K mg base CX0 1 T.f_Finding_eq__ T.d_Finding_eq__ ["self", "other"] (sp_Finding_eq__ T.C_Finding) := by
  refine T.F_Finding_eq__.ok sc_Finding_eq__ (fun vs H Q E h => ?_) (fun cdv A outer s H vs Q E hr h => ?_)
  · obtain ⟨p, p', ⟨i, x⟩, ⟨j, y⟩, rfl, ⟨dx, ho⟩, ⟨dx', ho'⟩, q⟩ := h
    rfl
  · obtain ⟨p, p', ⟨i, x⟩, ⟨j, y⟩, rfl, ⟨dx, ho⟩, ⟨dx', ho'⟩, q⟩ := h
    have hu := hu_of hr
    refine ⟨_, (pss_cons (ps_if (pt_not (pt_val (pe_callB call_isi (by rfl) T.n_isinstance (by decide +kernel) (pa_cons (pv 1) (pa_cons (pe_glob (v := .ref T.C_Finding) (by rfl) T.c_Finding rfl) pa_nil))))) (pss_one (ps_ret pe_bl)) pss_nil)
        (pss_one (ps_ret (pe_and (pe_cmpR op_eq (pe_fld (pv 0) rfl) (pe_fld (pv 1) rfl) (nomark _)) (pe_one (pe_cmpR op_eq (pe_fld (pv 0) rfl) (pe_fld (pv 1) rfl) (nomark _))))))), ?_⟩
    dsimp only [cxOf, Cx.nox, Cx.wish, L2.start, List.map, List.cons_append, List.nil_append, List.length_cons, List.length_nil, Nat.reduceAdd, Nat.reduceSub, Nat.zero_add, List.replicate_succ, List.replicate_zero]
    dsimp only at ho ho'
    walk_at "go"
    refine g_isi (.own _) (.base (T.i_Finding ho')) (if_pos (beq_self_eq_true _)) ?_
    walk_at "go"
    refine g_ite (fun c => ?_) (fun c => ?_)
    · walk_at "go"
      rw [show decide (x = y) = decide ((i, x) = (j, y)) from decide_eq_decide.mpr ⟨fun z => by rw [z, c], fun z => (Prod.mk.inj z).2⟩]
      exact q
    · walk_at "go"
      rw [decide_eq_false (show ¬ (i, x) = (j, y) from fun z => c (Prod.mk.inj z).1)] at q
      exact q
def sp_Packet_init__ (C : Addr) : Sp := fun vs H Q _ => ∃ (p dx l : Addr) (r : Rw), vs = [.ref p, .int r.a, .int r.b, .ref l, .bl r.mkd] ∧ H p = some (.ins C dx (obj ky_Packet [])) ∧ H l = some (.lst (r.ds.map V.int)) ∧ ∀ H', But p H H' → PkO C (fun _ => False) H' p r → Q .non H'
theorem ok_Packet_init__ (T : Txt K mg) : FnOk P w K mg base CX0 1 T.f_Packet_init__ T.d_Packet_init__ ["self", "sender", "target", "octets", "marked"] (sp_Packet_init__ T.C_Packet) := by
  refine T.F_Packet_init__.ok sc_Packet_init__ (fun vs H Q E h => ?_) (fun cdv A outer s H vs Q E hr h => ?_)
  · obtain ⟨p, dx, l, r, rfl, ho, hl, q⟩ := h
    rfl
  · obtain ⟨p, dx, l, r, rfl, ho, hl, q⟩ := h
    have hu := hu_of hr
    refine ⟨_, (pss_cons (ps_fld (pv 0) (pv 1) rfl)
        (pss_cons (ps_fld (pv 0) (pv 2) rfl)
        (pss_cons (ps_fld (pv 0) (pe_callTy call_list_of (by rfl) T.n_list (by decide +kernel) (pa_cons (pv 3) pa_nil)) rfl)
        (pss_one (ps_fld (pv 0) (pv 4) rfl))))), ?_⟩
    dsimp only [cxOf, Cx.nox, Cx.wish, L2.start, List.map, List.cons_append, List.nil_append, List.length_cons, List.length_nil, Nat.reduceAdd, Nat.reduceSub, Nat.zero_add, List.replicate_succ, List.replicate_zero]
    have npl : p ≠ l := fun z => by rw [← z, ho] at hl; cases hl
    walk_at "go"
    refine ⟨l, r.ds.map V.int, rfl, .inl (sl (by rw [upd_ne npl.symm, upd_ne npl.symm]; exact hl)), fun l2 hl2 => ?_⟩
    simp only [upd_upd, List.nil_append, List.cons_append] at hl2 ⊢
    generalize z1 : upd H p _ = H1 at hl2 ⊢
    have b1 : But p H H1 := by rw [← z1]; exact But.refl.upd
    have k1 : H1 p = some (.ins T.C_Packet dx (obj ky_Packet [.int r.a, .int r.b])) := (congrFun z1 p).symm.trans upd_same
    clear z1
    have n2 : p ≠ l2 := ne_of_none k1 hl2
    generalize z2 : upd H1 l2 _ = H2
    have s2 : Same H1 H2 := by rw [← z2]; exact same_upd hl2
    have k2 : H2 l2 = some (.lst (r.ds.map V.int)) := (congrFun z2 l2).symm.trans upd_same
    clear z2
    have kp2 := s2 _ _ k1
    walk_at "go"
    simp only [upd_upd, List.nil_append, List.cons_append]
    exact q _ (b1.trans (But.of s2)).upd ⟨dx, l2, not_false, not_false, upd_same, by rw [upd_ne n2.symm]; exact k2⟩
def sp_Packet_fork (C : Addr) : Sp := fun vs H Q _ => ∃ (p : Addr) (r : Rw), vs = [.ref p] ∧ PkO C (fun _ => False) H p r ∧ ∀ p' H', H p' = none → Same H H' → PkO C (fun _ => False) H' p' r → Q (.ref p') H'
theorem kbt_0 {K : PySem.W.Frag} {mg : Str → Option Value} (T : Txt K mg) : ∃ g, KBn K T.d_Packet_init__ ["self", "sender", "target", "octets", "marked"] 4 ["marked"] g (fun vs zs => vs ++ ((zs.drop 0).take 1)) := by
  obtain ⟨mv, h⟩ := T.F_Packet_init__.kbinds0 (ps := ["self", "sender", "target", "octets", "marked"]) 4 ["marked"] [] (fun vs mz zs => vs ++ ((zs.drop 0).take 1)) (by intro h; cases h) (fun q hq => List.Sublist.mem hq (.cons _ (.slnil))) (fun r1 r2 r3 => r1.append ((r3.drop 0).take 1)) (fun D doc pm an cdv ct us mv ws l1 l2 l3 => match us, l1, mv, l2, ws, l3 with | [_, _, _, _], _, [], _, [_], _ => (by show _ = _; kernel_rfl))
  exact ⟨_, h⟩
theorem ok_Packet_fork (T : Txt K mg) : FnOk P w K mg base CX0 3 T.f_Packet_fork T.d_Packet_fork ["self"] (sp_Packet_fork T.C_Packet) := by
  refine T.F_Packet_fork.ok sc_Packet_fork (fun vs H Q E h => ?_) (fun cdv A outer s H vs Q E hr h => ?_)
  · obtain ⟨p, r, rfl, ⟨dx, l, _, _, ho, hl⟩, q⟩ := h
    rfl
  · obtain ⟨p, r, rfl, ⟨dx, l, _, _, ho, hl⟩, q⟩ := h
    have hu := hu_of hr
    obtain ⟨gk_0, kb_0⟩ := kbt_0 T
    refine ⟨_, (pss_one (ps_ret (pe_makeK T.mk_Packet (ok_Packet_init__ T) (hr.mono (by decide)) rfl T.c_Packet kb_0 pass0 (pa_cons (pe_fld (pv 0) rfl) (pa_cons (pe_fld (pv 0) rfl) (pa_cons (pe_fld (pv 0) rfl) pa_nil))) (pk_cons (pe_fld (pv 0) rfl) pk_nil)))), ?_⟩
    dsimp only [cxOf, Cx.nox, Cx.wish, L2.start, List.map, List.cons_append, List.nil_append, List.length_cons, List.length_nil, Nat.reduceAdd, Nat.reduceSub, Nat.zero_add, List.replicate_succ, List.replicate_zero]
    walk_at "go"
    refine ⟨rfl, rfl, fun x dx2 nx ndx nxd => ?_⟩
    have b1 : But x H (upd (upd H dx2 (.own x)) x (.ins T.C_Packet dx2 [])) := ((But.of (same_upd (o := .own x) ndx))).upd
    refine ⟨x, dx2, l, r, rfl, upd_same, (b1.same nx) _ _ hl, fun H' b o => ⟨rfl, q x H' nx ((b1.trans b).same nx) o⟩⟩
def sp_Record_init__ (C C2 : Addr) : Sp := fun vs H Q _ => ∃ (p dx k : Addr) (r : Rw), vs = [.ref p, .int r.tick, .int r.num, .str r.word, .ref k] ∧ H p = some (.ins C dx (obj ky_Record [])) ∧ PkO C2 (fun _ => False) H k r ∧ k ≠ p ∧ ∀ H', But p H H' → RcO C C2 (fun _ => False) H' p r → Q .non H'
theorem ok_Record_init__ (T : Txt K mg) : FnOk P w K mg base CX0 4 T.f_Record_init__ T.d_Record_init__ ["self", "tick", "number", "word", "packet"] (sp_Record_init__ T.C_Record T.C_Packet) := by
  refine T.F_Record_init__.ok sc_Record_init__ (fun vs H Q E h => ?_) (fun cdv A outer s H vs Q E hr h => ?_)
  · obtain ⟨p, dx, k, r, rfl, ho, hk, nkp, q⟩ := h
    rfl
  · obtain ⟨p, dx, k, r, rfl, ho, hk, nkp, q⟩ := h
    have hu := hu_of hr
    refine ⟨_, (pss_cons (ps_fld (pv 0) (pv 1) rfl)
        (pss_cons (ps_fld (pv 0) (pv 2) rfl)
        (pss_cons (ps_fld (pv 0) (pv 3) rfl)
        (pss_one (ps_fld (pv 0) (pe_meth0 (pv 4) T.k_Packet T.a_Packet_fork (ok_Packet_fork T) (hr.mono (by decide)) T.b_Packet_fork .nil pass0) rfl))))), ?_⟩
    dsimp only [cxOf, Cx.nox, Cx.wish, L2.start, List.map, List.cons_append, List.nil_append, List.length_cons, List.length_nil, Nat.reduceAdd, Nat.reduceSub, Nat.zero_add, List.replicate_succ, List.replicate_zero]
    obtain ⟨dxk, l, _, _, hk1, hl1⟩ := hk
    have nlp : l ≠ p := fun z => by rw [z, ho] at hl1; cases hl1
    walk_at "go"
    simp only [upd_upd, List.nil_append, List.cons_append]
    generalize z1 : upd H p _ = H1
    have b1 : But p H H1 := by rw [← z1]; exact But.refl.upd
    have k1 : H1 p = some (.ins T.C_Record dx (obj ky_Record [.int r.tick, .int r.num, .str r.word])) := (congrFun z1 p).symm.trans upd_same
    clear z1
    have hk2 := b1 _ _ nkp hk1
    walk_at "go"
    refine ⟨k, r, rfl, ⟨dxk, l, not_false, not_false, hk2, b1 _ _ nlp hl1⟩, fun p' H2 np' s2 o2 => ?_⟩
    have kp2 := s2 _ _ k1
    walk_at "go"
    simp only [upd_upd, List.nil_append, List.cons_append]
    have b2 := (b1.trans (But.of s2)).upd (o := .ins T.C_Record dx (obj ky_Record [.int r.tick, .int r.num, .str r.word, .ref p']))
    refine q _ b2 ⟨dx, p', not_false, upd_same, ?_⟩
    obtain ⟨dxp, lp, _, _, op, ol⟩ := o2
    refine ⟨dxp, lp, not_false, not_false, ?_, ?_⟩
    · rw [upd_ne (fun z => by rw [z, k1] at np'; cases np')]
      exact op
    · rw [upd_ne (fun z => by rw [z, kp2] at ol; cases ol)]
      exact ol
theorem eqvAll_cons {x y : PyData} {xs ys : List PyData} : PyData.eqvAll (x :: xs) (y :: ys) = (PyData.eqv x y && PyData.eqvAll xs ys) := rfl
def pkD (r : Rw) : PyData := .tuple [.int r.a, .int r.b, .list (r.ds.map PyData.int)]
theorem eqv_pk {f r : Rw} : PyData.eqv (pkD f) (pkD r) = !pkne f r := by
  show ((f.a == r.a) && ((f.b == r.b) && (PyData.eqvAll (f.ds.map PyData.int) (r.ds.map PyData.int) && true))) = _
  rw [eqvAll_ints]
  unfold pkne
  rw [Bool.not_not, Bool.and_true, Bool.eq_iff_iff]
  simp
theorem sh_of {d : PyData} (h1 : PyData.canLay0 d = true) (h2 : PyData.depth d ≤ 64) : SeqAt.shaped d = true := by
  unfold SeqAt.shaped
  rw [h1, decide_eq_true h2]
  rfl
theorem sh_pk {r : Rw} : SeqAt.shaped (pkD r) = true := by
  refine sh_of ?_ ?_
  · show (true && (true && (PyData.canLayAll0 (r.ds.map PyData.int) && true))) = true
    rw [lay_ints]
    rfl
  · show max 0 (max 0 (max (PyData.depthAll (r.ds.map PyData.int) + 1) 0)) + 1 ≤ 64
    rw [depth_ints]
    decide
def sp_is_same (C : Addr) : Sp := fun vs H Q _ => ∃ (S S' : Addr → Prop) (p p' : Addr) (f r : Rw), vs = [.ref p, .ref p'] ∧ PkO C S H p f ∧ PkO C S' H p' r ∧ ∀ H', Same H H' → Q (.bl (!pOt f r)) H'
theorem ok_is_same (T : Txt K mg) : FnOk P w K mg base CX0 1 T.f_is_same T.d_is_same ["first", "packet"] (sp_is_same T.C_Packet) := by
  refine T.F_is_same.ok sc_is_same (fun vs H Q E h => ?_) (fun cdv A outer s H vs Q E hr h => ?_)
  · obtain ⟨S, S', p, p', f, r, rfl, ⟨dx, l, _, _, ho, hl⟩, ⟨dx', l', _, _, ho', hl'⟩, q⟩ := h
    rfl
  · obtain ⟨S, S', p, p', f, r, rfl, ⟨dx, l, _, _, ho, hl⟩, ⟨dx', l', _, _, ho', hl'⟩, q⟩ := h
    have hu := hu_of hr
    refine ⟨_, (pss_cons (ps_if (pt_cmpR (op_neD hr.units) (pe_tup (pa_cons (pe_fld (pv 0) rfl) (pa_cons (pe_fld (pv 0) rfl) (pa_cons (pe_fld (pv 0) rfl) pa_nil)))) (pe_tup (pa_cons (pe_fld (pv 1) rfl) (pa_cons (pe_fld (pv 1) rfl) (pa_cons (pe_fld (pv 1) rfl) pa_nil)))) (nomark _)) (pss_one (ps_ret pe_bl)) pss_nil)
        (pss_one (ps_ret (pe_or (pe_fld (pv 1) rfl) (pe_one (pe_not (pe_fld (pv 0) rfl))))))), ?_⟩
    dsimp only [cxOf, Cx.nox, Cx.wish, L2.start, List.map, List.cons_append, List.nil_append, List.length_cons, List.length_nil, Nat.reduceAdd, Nat.reduceSub, Nat.zero_add, List.replicate_succ, List.replicate_zero]
    walk_at "go"
    refine ⟨by show 3 ≤ sizeLine; decide, fun t ht => ?_⟩
    generalize z1 : upd H t _ = H1
    have s1 : Same H H1 := by rw [← z1]; exact same_upd ht
    have k1 : H1 t = some (.tup [.int f.a, .int f.b, .ref l]) := (congrFun z1 t).symm.trans upd_same
    clear z1
    have ho1' := s1 _ _ ho'
    walk_at "go"
    refine ⟨by show 3 ≤ sizeLine; decide, fun t' ht' => ?_⟩
    generalize z2 : upd H1 t' _ = H2
    have s2 : Same H1 H2 := by rw [← z2]; exact same_upd ht'
    have k2 : H2 t' = some (.tup [.int r.a, .int r.b, .ref l']) := (congrFun z2 t').symm.trans upd_same
    clear z2
    have s12 := s1.trans s2
    refine ⟨pkD f, pkD r, .tup (st (s2 _ _ k1)) (.cons (.int _) (.cons (.int _) (.cons (dp_ints (sl (s12 _ _ hl))) .nil))), .tup (st k2) (.cons (.int _) (.cons (.int _) (.cons (dp_ints (sl (s12 _ _ hl'))) .nil))), sh_pk, sh_pk, ?_⟩
    rw [eqv_pk, Bool.not_not]
    have ho2 := s12 _ _ ho
    have ho2' := s12 _ _ ho'
    have q' := q H2 s12
    unfold pOt at q'
    cases c : pkne f r with
    | true =>
      rw [c] at q'
      walk_at "go"
      exact q'
    | false =>
      rw [c] at q'
      walk_at "go"
      cases c2 : r.mkd with
      | true =>
        rw [c2] at q'
        walk_at "go"
        rw [show (!(false || (f.mkd && !true))) = true by cases f.mkd <;> rfl] at q'
        exact q'
      | false =>
        rw [c2] at q'
        walk_at "go"
        rw [show (!(false || (f.mkd && !false))) = !f.mkd by cases f.mkd <;> rfl] at q'
        exact q'
end
end My
namespace My
open PySem PySem.Spec L2
local macro_rules | `(tactic| walk_at "side") => `(tactic| first | assumption | decide | omega | exact ⟨by decide, by decide⟩ | exact ⟨by decide, by decide, by decide⟩ | decide +kernel | exact cdivW (by decide +kernel) (by decide +kernel) | exact Or.inl ⟨by omega, by omega⟩ | exact Or.inr ⟨by omega, by omega⟩ | (simp only [List.length_map, List.length_cons, List.length_nil, List.length_append]; omega))
local macro_rules | `(tactic| walk_at "fact") => `(tactic| first | assumption | omega | with_reducible rfl)
local macro_rules | `(tactic| walk_at "use") => `(tactic| fail "use")
local macro_rules | `(tactic| walk_at "go1") => `(tactic| with_reducible first | refine g_seq ?_ | refine g_asg ?_ | refine g_ret ?_ | refine g_ifS ?_ | refine g_drop ?_ | refine g_star ?_ | refine g_nx ?_ | refine g_rt ?_ | refine g_bkE ?_ | refine g_ctE ?_ | refine g_next ?_ | refine g_retN ?_ | refine g_brk ?_ | refine g_ct ?_ | refine g_c ?_ | refine g_op ?_ | refine g_un ?_ | refine g_rI0 ?_ | refine g_rU ?_ | refine g_rEqI ?_ | refine g_rNeI ?_ | refine g_isN ?_ | refine g_rIsB ?_ | refine g_rNotB ?_ | refine g_test ?_ | refine g_B ?_ | refine g_bl ?_ | refine g_and ?_ | refine g_or ?_ | refine g_not ?_ | refine g_andV ?_ | refine g_orV ?_ | refine g_notV ?_ | refine g_if ?_ | refine g_chain ?_ | refine g_yes ?_ | refine g_lc ?_ | refine g_revR ?_ | refine g_rng1 ?_ | refine g_iList ?_ | refine g_nil ?_ | refine g_cons ?_ | refine g_tup ?_ | refine g_lst ?_ | refine g_call ?_ | refine g_CB ?_ | refine g_sl ?_ | refine g_noPart ?_ | refine g_part ?_ | refine g_intE ?_ | refine g_ref ?_ | refine g_fld ?_ | refine g_sfld ?_ | refine g_meth ?_ | refine g_make ?_ | refine g_prop ?_  | refine g_ipI ?_ | refine g_int1 ?_ | refine g_int1B ?_ | refine g_one ?_ | refine g_two ?_ | refine g_isiI ?_ | refine g_isiIB ?_ | refine g_isiB ?_ | refine g_BM ?_ | refine g_BM0 ?_ | refine g_sub ?_)
local macro_rules | `(tactic| walk_at "go") => `(tactic| repeat (first | walk_at "go1" | ((with_reducible refine' g_nameE ?sd_ ?_); case sd_ => dsimp only [List.set_cons_succ, List.set_cons_zero]) | ((with_reducible refine' g_var ?sd_ ?_); case sd_ => exact rfl) | ((with_reducible refine' g_aug ?sd_ ?_); case sd_ => exact rfl) | ((with_reducible refine' g_rI ?sd_ ?_); case sd_ => walk_at "side") | ((with_reducible refine' g_dT ?sd_ ?_); case sd_ => walk_at "fact") | ((with_reducible refine' g_dF ?sd_ ?_); case sd_ => walk_at "fact") | ((with_reducible refine' g_nT ?sd_ ?_); case sd_ => walk_at "fact") | ((with_reducible refine' g_nF ?sd_ ?_); case sd_ => walk_at "fact") | (with_reducible refine g_iT rfl ?_) | (with_reducible refine g_iF rfl ?_) | walk_at "use"))
local macro_rules | `(tactic| walk_at "use") => `(tactic| first | ((with_reducible refine' fd_Finding_index ?ho_ ?hv_ ?_); (case ho_ => first | assumption | exact upd_same); (case hv_ => exact rfl)) | ((with_reducible refine' fd_Finding_problem ?ho_ ?hv_ ?_); (case ho_ => first | assumption | exact upd_same); (case hv_ => exact rfl)) | ((with_reducible refine' nw_Finding_index ?ho_ ?hv_ ?_); (case ho_ => first | assumption | exact upd_same); (case hv_ => exact rfl)) | ((with_reducible refine' nw_Finding_problem ?ho_ ?hv_ ?_); (case ho_ => first | assumption | exact upd_same); (case hv_ => exact rfl)) | ((with_reducible refine' st_Finding_index ?ho_ ?hv_ ?_); (case ho_ => first | assumption | exact upd_same); (case hv_ => exact Nat.le_of_ble_eq_true rfl)) | ((with_reducible refine' st_Finding_problem ?ho_ ?hv_ ?_); (case ho_ => first | assumption | exact upd_same); (case hv_ => exact Nat.le_of_ble_eq_true rfl)) | ((with_reducible refine' me_Finding_eq__ ?ho_ ?_); (case ho_ => first | assumption | exact upd_same)))
local macro_rules | `(tactic| walk_at "use") => `(tactic| first | ((with_reducible refine' fd_PacketJudge__life ?ho_ ?hv_ ?_); (case ho_ => first | assumption | exact upd_same); (case hv_ => exact rfl)) | ((with_reducible refine' fd_PacketJudge__tick_before ?ho_ ?hv_ ?_); (case ho_ => first | assumption | exact upd_same); (case hv_ => exact rfl)) | ((with_reducible refine' fd_PacketJudge__last ?ho_ ?hv_ ?_); (case ho_ => first | assumption | exact upd_same); (case hv_ => exact rfl)) | ((with_reducible refine' fd_PacketJudge__first ?ho_ ?hv_ ?_); (case ho_ => first | assumption | exact upd_same); (case hv_ => exact rfl)) | ((with_reducible refine' fd_PacketJudge__copies ?ho_ ?hv_ ?_); (case ho_ => first | assumption | exact upd_same); (case hv_ => exact rfl)) | ((with_reducible refine' nw_PacketJudge__life ?ho_ ?hv_ ?_); (case ho_ => first | assumption | exact upd_same); (case hv_ => exact rfl)) | ((with_reducible refine' nw_PacketJudge__tick_before ?ho_ ?hv_ ?_); (case ho_ => first | assumption | exact upd_same); (case hv_ => exact rfl)) | ((with_reducible refine' nw_PacketJudge__last ?ho_ ?hv_ ?_); (case ho_ => first | assumption | exact upd_same); (case hv_ => exact rfl)) | ((with_reducible refine' nw_PacketJudge__first ?ho_ ?hv_ ?_); (case ho_ => first | assumption | exact upd_same); (case hv_ => exact rfl)) | ((with_reducible refine' nw_PacketJudge__copies ?ho_ ?hv_ ?_); (case ho_ => first | assumption | exact upd_same); (case hv_ => exact rfl)) | ((with_reducible refine' st_PacketJudge__life ?ho_ ?hv_ ?_); (case ho_ => first | assumption | exact upd_same); (case hv_ => exact Nat.le_of_ble_eq_true rfl)) | ((with_reducible refine' st_PacketJudge__tick_before ?ho_ ?hv_ ?_); (case ho_ => first | assumption | exact upd_same); (case hv_ => exact Nat.le_of_ble_eq_true rfl)) | ((with_reducible refine' st_PacketJudge__last ?ho_ ?hv_ ?_); (case ho_ => first | assumption | exact upd_same); (case hv_ => exact Nat.le_of_ble_eq_true rfl)) | ((with_reducible refine' st_PacketJudge__first ?ho_ ?hv_ ?_); (case ho_ => first | assumption | exact upd_same); (case hv_ => exact Nat.le_of_ble_eq_true rfl)) | ((with_reducible refine' st_PacketJudge__copies ?ho_ ?hv_ ?_); (case ho_ => first | assumption | exact upd_same); (case hv_ => exact Nat.le_of_ble_eq_true rfl)) | ((with_reducible refine' me_PacketJudge_problems_of ?ho_ ?_); (case ho_ => first | assumption | exact upd_same)) | ((with_reducible refine' me_PacketJudge_problems_under_way ?ho_ ?_); (case ho_ => first | assumption | exact upd_same)) | ((with_reducible refine' me_PacketJudge_learn ?ho_ ?_); (case ho_ => first | assumption | exact upd_same)))
local macro_rules | `(tactic| walk_at "use") => `(tactic| first | ((with_reducible refine' fd_Packet_sender ?ho_ ?hv_ ?_); (case ho_ => first | assumption | exact upd_same); (case hv_ => exact rfl)) | ((with_reducible refine' fd_Packet_target ?ho_ ?hv_ ?_); (case ho_ => first | assumption | exact upd_same); (case hv_ => exact rfl)) | ((with_reducible refine' fd_Packet_octets ?ho_ ?hv_ ?_); (case ho_ => first | assumption | exact upd_same); (case hv_ => exact rfl)) | ((with_reducible refine' fd_Packet_marked ?ho_ ?hv_ ?_); (case ho_ => first | assumption | exact upd_same); (case hv_ => exact rfl)) | ((with_reducible refine' nw_Packet_sender ?ho_ ?hv_ ?_); (case ho_ => first | assumption | exact upd_same); (case hv_ => exact rfl)) | ((with_reducible refine' nw_Packet_target ?ho_ ?hv_ ?_); (case ho_ => first | assumption | exact upd_same); (case hv_ => exact rfl)) | ((with_reducible refine' nw_Packet_octets ?ho_ ?hv_ ?_); (case ho_ => first | assumption | exact upd_same); (case hv_ => exact rfl)) | ((with_reducible refine' nw_Packet_marked ?ho_ ?hv_ ?_); (case ho_ => first | assumption | exact upd_same); (case hv_ => exact rfl)) | ((with_reducible refine' st_Packet_sender ?ho_ ?hv_ ?_); (case ho_ => first | assumption | exact upd_same); (case hv_ => exact Nat.le_of_ble_eq_true rfl)) | ((with_reducible refine' st_Packet_target ?ho_ ?hv_ ?_); (case ho_ => first | assumption | exact upd_same); (case hv_ => exact Nat.le_of_ble_eq_true rfl)) | ((with_reducible refine' st_Packet_octets ?ho_ ?hv_ ?_); (case ho_ => first | assumption | exact upd_same); (case hv_ => exact Nat.le_of_ble_eq_true rfl)) | ((with_reducible refine' st_Packet_marked ?ho_ ?hv_ ?_); (case ho_ => first | assumption | exact upd_same); (case hv_ => exact Nat.le_of_ble_eq_true rfl)) | ((with_reducible refine' me_Packet_fork ?ho_ ?_); (case ho_ => first | assumption | exact upd_same)))
local macro_rules | `(tactic| walk_at "use") => `(tactic| first | ((with_reducible refine' fd_Record_tick ?ho_ ?hv_ ?_); (case ho_ => first | assumption | exact upd_same); (case hv_ => exact rfl)) | ((with_reducible refine' fd_Record_number ?ho_ ?hv_ ?_); (case ho_ => first | assumption | exact upd_same); (case hv_ => exact rfl)) | ((with_reducible refine' fd_Record_word ?ho_ ?hv_ ?_); (case ho_ => first | assumption | exact upd_same); (case hv_ => exact rfl)) | ((with_reducible refine' fd_Record_packet ?ho_ ?hv_ ?_); (case ho_ => first | assumption | exact upd_same); (case hv_ => exact rfl)) | ((with_reducible refine' nw_Record_tick ?ho_ ?hv_ ?_); (case ho_ => first | assumption | exact upd_same); (case hv_ => exact rfl)) | ((with_reducible refine' nw_Record_number ?ho_ ?hv_ ?_); (case ho_ => first | assumption | exact upd_same); (case hv_ => exact rfl)) | ((with_reducible refine' nw_Record_word ?ho_ ?hv_ ?_); (case ho_ => first | assumption | exact upd_same); (case hv_ => exact rfl)) | ((with_reducible refine' nw_Record_packet ?ho_ ?hv_ ?_); (case ho_ => first | assumption | exact upd_same); (case hv_ => exact rfl)) | ((with_reducible refine' st_Record_tick ?ho_ ?hv_ ?_); (case ho_ => first | assumption | exact upd_same); (case hv_ => exact Nat.le_of_ble_eq_true rfl)) | ((with_reducible refine' st_Record_number ?ho_ ?hv_ ?_); (case ho_ => first | assumption | exact upd_same); (case hv_ => exact Nat.le_of_ble_eq_true rfl)) | ((with_reducible refine' st_Record_word ?ho_ ?hv_ ?_); (case ho_ => first | assumption | exact upd_same); (case hv_ => exact Nat.le_of_ble_eq_true rfl)) | ((with_reducible refine' st_Record_packet ?ho_ ?hv_ ?_); (case ho_ => first | assumption | exact upd_same); (case hv_ => exact Nat.le_of_ble_eq_true rfl)))
section
variable {P : Program} {w : World} {K : PySem.W.Frag} {mg : Str → Option Value} {base : Heap}
local macro_rules | `(tactic| walk_at "use") => `(tactic| with_reducible first | refine g_dgetI ?_ | refine g_dputI ?_ | refine g_dget1I ?_ | refine g_dget2I ?_ | refine g_dinI ?_ | refine g_dnotinI ?_ | refine g_dnewK ?_)

local macro_rules | `(tactic| walk_at "use") => `(tactic| with_reducible first | refine g_callN ?_ | refine g_makeK ?_ | refine g_gcons ?_ | refine g_gnil ?_ | refine g_rEqS ?_ | refine g_rNeS ?_ | refine g_isiS ?_)
/-! ### what the judge knows -/
def FInv (Rc : Addr → Rw → Prop) (f : Int → Option V) (rows : List Rw) : Prop := ∀ n, (firstR rows n = none ∧ f n = none) ∨ ∃ r p, firstR rows n = some r ∧ f n = some (.ref p) ∧ Rc p r
def GInv (g : Int → Option V) (rows : List Rw) : Prop := ∀ n, g n = some (.int (cpA rows n).1) ∨ (g n = none ∧ (cpA rows n).1 = 0 ∧ firstR rows n = none)
theorem FInv.mono {Rc Rc' : Addr → Rw → Prop} {f : Int → Option V} {rows : List Rw} (h : FInv Rc f rows) (i : ∀ p r, Rc p r → Rc' p r) : FInv Rc' f rows := fun n => (h n).imp id fun ⟨r, p, e1, e2, e3⟩ => ⟨r, p, e1, e2, i _ _ e3⟩
theorem FInv.new {Rc : Addr → Rw → Prop} {f : Int → Option V} {rows : List Rw} {r : Rw} {p : Addr} (h : FInv Rc f rows) (hw : r.word = "sent") (hn : firstR rows r.num = none) (hp : Rc p r) : FInv Rc (fun j => if j = r.num then some (.ref p) else f j) (rows ++ [r]) := by
  intro n
  rw [firstR_snoc]
  by_cases c : n = r.num
  · subst c
    rw [hn]
    refine .inr ⟨r, p, ?_, ?_, hp⟩
    · show (if _ then _ else _) = _
      rw [if_pos ⟨hw, rfl⟩]
    · exact if_pos rfl
  · have e : (if n = r.num then some (V.ref p) else f n) = f n := if_neg c
    show (_ ∧ (if n = r.num then some (V.ref p) else f n) = none) ∨ ∃ r' p', _ ∧ (if n = r.num then some (V.ref p) else f n) = some (.ref p') ∧ Rc p' r'
    rw [e]
    rcases h n with ⟨h1, h2⟩ | ⟨r', p', h1, h2, h3⟩
    · rw [h1]
      refine .inl ⟨?_, h2⟩
      show (if _ then _ else _) = _
      rw [if_neg fun z => c z.2.symm]
    · rw [h1]
      exact .inr ⟨r', p', rfl, h2, h3⟩
theorem FInv.old {Rc : Addr → Rw → Prop} {f : Int → Option V} {rows : List Rw} {r : Rw} (h : FInv Rc f rows) (hw : ¬ r.word = "sent" ∨ firstR rows r.num ≠ none) : FInv Rc f (rows ++ [r]) := by
  intro n
  rw [firstR_snoc]
  rcases h n with ⟨h1, h2⟩ | ⟨r', p', h1, h2, h3⟩
  · rw [h1]
    refine .inl ⟨?_, h2⟩
    show (if _ then _ else _) = _
    rw [if_neg]
    rintro ⟨z1, rfl⟩
    exact hw.elim (fun w => w z1) fun w => w h1
  · rw [h1]
    exact .inr ⟨r', p', rfl, h2, h3⟩
theorem cps_ne {n : Int} {s : Int × Bool} {r : Rw} (h : r.num ≠ n) : cps n s r = s := by
  unfold cps
  rw [if_neg h]
theorem GInv.put {g : Int → Option V} {rows : List Rw} {r : Rw} {v : Int} (h : GInv g rows) (hv : v = (cpA (rows ++ [r]) r.num).1) : GInv (fun j => if j = r.num then some (.int v) else g j) (rows ++ [r]) := by
  intro n
  by_cases c : n = r.num
  · subst c
    refine .inl ?_
    show (if r.num = r.num then some (V.int v) else g r.num) = _
    rw [if_pos rfl, hv]
  · show (if n = r.num then some (V.int v) else g n) = _ ∨ ((if n = r.num then some (V.int v) else g n) = none ∧ _)
    rw [if_neg c, cpA_snoc, cps_ne (Ne.symm c), firstR_snoc]
    rcases h n with h | ⟨h1, h2, h3⟩
    · exact .inl h
    · refine .inr ⟨h1, h2, ?_⟩
      rw [h3]
      show (if _ then _ else _) = _
      rw [if_neg fun z => c z.2.symm]
theorem GInv.keep {g : Int → Option V} {rows : List Rw} {r : Rw} (h : GInv g rows) (hv : (cpA (rows ++ [r]) r.num).1 = (cpA rows r.num).1) (hw : ¬ r.word = "sent" ∨ firstR rows r.num ≠ none) : GInv g (rows ++ [r]) := by
  intro n
  have e : (cpA (rows ++ [r]) n).1 = (cpA rows n).1 := by
    by_cases c : n = r.num
    · subst c; exact hv
    · rw [cpA_snoc, cps_ne (Ne.symm c)]
  rw [e, firstR_snoc]
  rcases h n with h | ⟨h1, h2, h3⟩
  · exact .inl h
  · refine .inr ⟨h1, h2, ?_⟩
    rw [h3]
    show (if _ then _ else _) = _
    rw [if_neg]
    rintro ⟨z1, rfl⟩
    exact hw.elim (fun w => w z1) fun w => w h3
theorem GInv.getD {g : Int → Option V} {rows : List Rw} (h : GInv g rows) (n : Int) : (g n).getD (.int 0) = .int (cpA rows n).1 := by
  rcases h n with h | ⟨h1, h2, _⟩
  · rw [h]; rfl
  · rw [h1, h2]; rfl
def lastT (rows : List Rw) : V := match rows.getLast? with | none => .non | some l => .int l.tick
theorem lastT_snoc {rows : List Rw} {r : Rw} : lastT (rows ++ [r]) = .int r.tick := by
  unfold lastT
  rw [List.getLast?_append]
  rfl
def S3 (J F Cc : Addr) : Addr → Prop := fun x => x = J ∨ x = F ∨ x = Cc
structure JS (C C1 C2 : Addr) (S : Addr → Prop) (H : Hp) (J dx F Cc : Addr) (life : Int) (rows : List Rw) : Prop where
  o : H J = some (.ins C dx (obj ky_PacketJudge [.int life, lastT rows, .int (lastS rows), .ref F, .ref Cc]))
  f : ∃ f, Dk H F f rows.length ∧ FInv (fun p r => RcO C1 C2 S H p r) f rows
  g : ∃ g, Dk H Cc g rows.length ∧ GInv g rows
  nFC : F ≠ Cc
theorem ins_dk {H : Hp} {a d C dx : Addr} {fs : List (Str × V)} {f : Int → Option V} {n : Nat} (h : H a = some (.ins C dx fs)) (k : Dk H d f n) : d ≠ a := by
  obtain ⟨kvs, e, _, _⟩ := k
  intro z
  rw [z, h] at e
  cases e
theorem Dk.but {H H' : Hp} {d p : Addr} {f : Int → Option V} {n : Nat} (h : Dk H d f n) (b : But p H H') (ne : d ≠ p) : Dk H' d f n := h.at fun o e => b _ _ ne e
theorem Dk.le {H : Hp} {d : Addr} {f : Int → Option V} {n m : Nat} (h : Dk H d f n) (l : n ≤ m) : Dk H d f m := by
  obtain ⟨kvs, e, hl, hv⟩ := h
  exact ⟨kvs, e, Nat.le_trans hl l, hv⟩
def sp_PacketJudge_init__ (C : Addr) : Sp := fun vs H Q _ => ∃ (p dx : Addr) (life : Int), vs = [.ref p, .int life] ∧ H p = some (.ins C dx (obj ky_PacketJudge [])) ∧ ∀ F Cc H', H F = none → H Cc = none → F ≠ Cc → But p H H' → H' p = some (.ins C dx (obj ky_PacketJudge [.int life, .non, .int (-1), .ref F, .ref Cc])) → H' F = some (.dK []) → H' Cc = some (.dK []) → Q .non H'
theorem ok_PacketJudge_init__ (T : Txt K mg) : FnOk P w K mg base CX0 1 T.f_PacketJudge_init__ T.d_PacketJudge_init__ ["self", "life"] (sp_PacketJudge_init__ T.C_PacketJudge) := by
  refine T.F_PacketJudge_init__.ok sc_PacketJudge_init__ (fun vs H Q E h => ?_) (fun cdv A outer s H vs Q E hr h => ?_)
  · obtain ⟨p, dx, life, rfl, ho, q⟩ := h
    rfl
  · obtain ⟨p, dx, life, rfl, ho, q⟩ := h
    have hu := hu_of hr
    refine ⟨_, (pss_cons (ps_fld (pv 0) (pv 1) rfl)
        (pss_cons (ps_fld (pv 0) pe_non rfl)
        (pss_cons (ps_fld (pv 0) (pe_un un_neg pe_int) rfl)
        (pss_cons (ps_fld (pv 0) pe_dnewK rfl)
        (pss_one (ps_fld (pv 0) pe_dnewK rfl)))))), ?_⟩
    dsimp only [cxOf, Cx.nox, Cx.wish, L2.start, List.map, List.cons_append, List.nil_append, List.length_cons, List.length_nil, Nat.reduceAdd, Nat.reduceSub, Nat.zero_add, List.replicate_succ, List.replicate_zero]
    walk_at "go"
    simp only [upd_upd, List.nil_append, List.cons_append]
    generalize z1 : upd H p _ = H1
    have b1 : But p H H1 := by rw [← z1]; exact But.refl.upd
    have k1 : H1 p = some (.ins T.C_PacketJudge dx (obj ky_PacketJudge [.int life, .non, .int (-1)])) := (congrFun z1 p).symm.trans upd_same
    have nn : ∀ x, H1 x = none → H x = none := fun x h => by
      rw [← z1] at h
      by_cases z : x = p
      · rw [z, upd_same] at h; cases h
      · rwa [upd_ne z] at h
    clear z1
    intro F hF
    have npF : p ≠ F := ne_of_none k1 hF
    have hF0 := nn _ hF
    generalize z2 : upd H1 F _ = H2
    have s2 : Same H1 H2 := by rw [← z2]; exact same_upd hF
    have k2 : H2 F = some (.dK []) := (congrFun z2 F).symm.trans upd_same
    clear z2
    have kp2 := s2 _ _ k1
    walk_at "go"
    simp only [upd_upd, List.nil_append, List.cons_append]
    generalize z3 : upd H2 p _ = H3
    have b3 : But p H2 H3 := by rw [← z3]; exact But.refl.upd
    have k3 : H3 p = some (.ins T.C_PacketJudge dx (obj ky_PacketJudge [.int life, .non, .int (-1), .ref F])) := (congrFun z3 p).symm.trans upd_same
    have nn3 : ∀ x, H3 x = none → H2 x = none := fun x h => by
      rw [← z3] at h
      by_cases z : x = p
      · rw [z, upd_same] at h; cases h
      · rwa [upd_ne z] at h
    clear z3
    have f3 := b3 _ _ npF.symm k2
    intro Cc hC
    have npC : p ≠ Cc := ne_of_none k3 hC
    have nFC : F ≠ Cc := ne_of_none f3 hC
    have hC0 := nn _ (s2.free (nn3 _ hC))
    generalize z4 : upd H3 Cc _ = H4
    have s4 : Same H3 H4 := by rw [← z4]; exact same_upd hC
    have k4 : H4 Cc = some (.dK []) := (congrFun z4 Cc).symm.trans upd_same
    clear z4
    have kp4 := s4 _ _ k3
    walk_at "go"
    simp only [upd_upd, List.nil_append, List.cons_append]
    refine q F Cc _ hF0 hC0 nFC (((b1.trans (But.of s2)).trans b3).trans (But.of s4)).upd upd_same ?_ ?_
    · rw [upd_ne npF.symm]
      exact s4 _ _ f3
    · rw [upd_ne npC.symm]
      exact k4
theorem cps_snd {s : Int × Bool} {rows : List Rw} {r : Rw} : (cpA (rows ++ [r]) r.num).1 = (if r.word = "copied" ∨ (r.word = "sent" ∧ firstR rows r.num = none) then (cpA rows r.num).1 + 1 else if r.word ∈ (["delivered", "lost", "expired"] : List Str) ∧ (cpA rows r.num).1 > 0 then (cpA rows r.num).1 - 1 else (cpA rows r.num).1) := by
  rw [cpA_snoc]
  unfold cps
  rw [if_pos rfl, seen_eq]
  show (if r.word = "copied" ∨ (r.word = "sent" ∧ (firstR rows r.num).isSome = false) then _ else _) = _
  cases firstR rows r.num with
  | none => simp
  | some f => simp
theorem cp_nn {n : Int} : ∀ (rows : List Rw) (s : Int × Bool), 0 ≤ s.1 → 0 ≤ (rows.foldl (cps n) s).1
  | [], _, h => h
  | r :: rows, s, h => by
    rw [List.foldl_cons]
    refine cp_nn rows _ ?_
    unfold cps
    split
    · dsimp only
      split
      · omega
      · split
        · omega
        · omega
    · exact h
theorem rcInv {C1 C2 : Addr} {S : Addr → Prop} {H H' : Hp} {f : Int → Option V} {rows : List Rw} (h : FInv (fun p r => RcO C1 C2 S H p r) f rows) (b : ButS S H H') : FInv (fun p r => RcO C1 C2 S H' p r) f rows := h.mono fun _ _ o => o.but b
def sp_PacketJudge_learn (C C1 C2 : Addr) : Sp := fun vs H Q _ => ∃ (S : Addr → Prop) (J dx F Cc p : Addr) (life : Int) (rows : List Rw) (r : Rw), vs = [.ref J, .ref p] ∧ JS C C1 C2 S H J dx F Cc life rows ∧ RcO C1 C2 S H p r ∧ (∀ x, S3 J F Cc x → S x) ∧ Wd r ∧ rows.length < 100 ∧ ∀ H', ButS (S3 J F Cc) H H' → JS C C1 C2 S H' J dx F Cc life (rows ++ [r]) → Q .non H'
theorem ok_PacketJudge_learn (T : Txt K mg) : FnOk P w K mg base CX0 1 T.f_PacketJudge_learn T.d_PacketJudge_learn ["self", "record"] (sp_PacketJudge_learn T.C_PacketJudge T.C_Record T.C_Packet) := by
  refine T.F_PacketJudge_learn.ok sc_PacketJudge_learn (fun vs H Q E h => ?_) (fun cdv A outer s H vs Q E hr h => ?_)
  · obtain ⟨S, J, dx, F, Cc, p, life, rows, r, rfl, js, rc, hS, wd, hl, q⟩ := h
    rfl
  · obtain ⟨S, J, dx, F, Cc, p, life, rows, r, rfl, js, rc, hS, wd, hl, q⟩ := h
    have hu := hu_of hr
    refine ⟨_, (pss_cons (ps_set (i := 2) sc_PacketJudge_learn.nd rfl (Or.inl rfl) (pe_fld (pv 1) rfl))
        (pss_cons (ps_fld (pv 0) (pe_fld (pv 1) rfl) rfl)
        (pss_cons (ps_set (i := 3) sc_PacketJudge_learn.nd rfl (Or.inl rfl) (pe_dget2 hu (pe_fld (pv 0) rfl) (pv 2) pe_int ⟨rfl, rfl, rfl, rfl⟩))
        (pss_one (ps_if (pt_cmpR op_eq (pe_fld (pv 1) rfl) pe_str (nomark _)) (pss_cons (ps_fld (pv 0) (pv 2) rfl)
        (pss_one (ps_if (pt_cmp (pc_dnotin hu (pv 2) (pe_fld (pv 0) rfl))) (pss_cons (ps_dput hu (pe_fld (pv 0) rfl) (pv 2) (pv 1) rfl)
        (pss_one (ps_dput hu (pe_fld (pv 0) rfl) (pv 2) (pe_op op_add (pv 3) pe_int) rfl))) pss_nil))) (pss_one (ps_if (pt_cmpR op_eq (pe_fld (pv 1) rfl) pe_str (nomark _)) (pss_one (ps_dput hu (pe_fld (pv 0) rfl) (pv 2) (pe_op op_add (pv 3) pe_int) rfl)) (pss_one (ps_if (pt_cmpR op_ne (pe_fld (pv 1) rfl) pe_str (nomark _)) (pss_one (ps_dput hu (pe_fld (pv 0) rfl) (pv 2) (pe_callB (call_max2 rfl) (by rfl) T.n_max (by decide +kernel) (pa_cons pe_int (pa_cons (pe_op op_sub (pv 3) pe_int) pa_nil))) rfl)) pss_nil))))))))), ?_⟩
    dsimp only [cxOf, Cx.nox, Cx.wish, L2.start, List.map, List.cons_append, List.nil_append, List.length_cons, List.length_nil, Nat.reduceAdd, Nat.reduceSub, Nat.zero_add, List.replicate_succ, List.replicate_zero]
    obtain ⟨jo, ⟨f, df, fi⟩, ⟨g, dg, gi⟩, nFC⟩ := js
    obtain ⟨dxr, qa, nSp, ro, po⟩ := id rc
    have nFJ := ins_dk jo df
    have nCJ := ins_dk jo dg
    have npJ : p ≠ J := fun z => nSp (hS _ (.inl z))
    have hlen : (rows ++ [r]).length = rows.length + 1 := by rw [List.length_append]; rfl
    walk_at "go"
    simp only [List.set_cons_succ, List.set_cons_zero]
    generalize z1 : upd H J _ = H1
    have b1 : But J H H1 := by rw [← z1]; exact But.refl.upd
    have k1 : H1 J = some (.ins T.C_PacketJudge dx (obj ky_PacketJudge [.int life, .int r.tick, .int (lastS rows), .ref F, .ref Cc])) := (congrFun z1 J).symm.trans upd_same
    clear z1
    have dg1 := dg.but b1 nCJ
    have df1 := df.but b1 nFJ
    have ro1 := b1 _ _ npJ ro
    refine ⟨dg1.isD, ?_⟩
    walk_at "go"
    refine ⟨_, dg1.get r.num, ?_⟩
    rw [gi.getD]
    have cp0 : 0 ≤ (cpA rows r.num).1 := cp_nn rows _ (Int.le_refl 0)
    have cs := cps_snd (rows := rows) (r := r) (s := (0, false))
    have B1 : ButS (S3 J F Cc) H H1 := ButS.but (.inl rfl) b1
    walk_at "go"
    refine g_ite (fun c => ?_) (fun c => ?_)
    · walk_at "go"
      simp only [List.set_cons_succ, List.set_cons_zero]
      generalize z2 : upd H1 J _ = H2
      have b2 : But J H1 H2 := by rw [← z2]; exact But.refl.upd
      have k2 : H2 J = some (.ins T.C_PacketJudge dx (obj ky_PacketJudge [.int life, .int r.tick, .int r.num, .ref F, .ref Cc])) := (congrFun z2 J).symm.trans upd_same
      clear z2
      have dg2 := dg1.but b2 nCJ
      have df2 := df1.but b2 nFJ
      have B2 : ButS (S3 J F Cc) H H2 := B1.trans (ButS.but (.inl rfl) b2)
      walk_at "go"
      refine ⟨F, _, rfl, df2.get r.num, ?_⟩
      have nsc : ¬ r.word = "copied" := fun z => absurd (c.symm.trans z) (by decide +kernel)
      rcases fi r.num with ⟨h1, h2⟩ | ⟨r', p', h1, h2, h3⟩
      · rw [h2]
        walk_at "go"
        obtain ⟨H3, dp3, b3, df3⟩ := df2.put (by omega) r.num (.ref p)
        refine ⟨F, H3, rfl, dp3, ?_⟩
        have k3 := b3 _ _ nFJ.symm k2
        have dg3 := dg2.but b3 nFC.symm
        walk_at "go"
        obtain ⟨H4, dp4, b4, dg4⟩ := dg3.put (by omega) r.num (.int ((cpA rows r.num).1 + 1))
        refine ⟨Cc, H4, rfl, dp4, ?_⟩
        walk_at "go"
        have k4 := b4 _ _ nCJ.symm k3
        have df4 := df3.but b4 nFC
        have B4 : ButS (S3 J F Cc) H H4 := (B2.trans (ButS.but (.inr (.inl rfl)) b3)).trans (ButS.but (.inr (.inr rfl)) b4)
        have B4S : ButS S H H4 := B4.mono hS
        refine q H4 B4 ⟨?_, ⟨_, df4.le (by omega), FInv.new (rcInv fi B4S) c h1 (rc.but B4S)⟩, ⟨_, dg4.le (by omega), gi.put ?_⟩, nFC⟩
        · rw [lastT_snoc, lastS_snoc, if_pos c]
          exact k4
        · rw [cs, if_pos (.inr ⟨c, h1⟩)]
      · rw [h2]
        walk_at "go"
        have nn : firstR rows r.num ≠ none := by rw [h1]; simp
        have B2S : ButS S H H2 := B2.mono hS
        refine q H2 B2 ⟨?_, ⟨_, df2.le (by omega), FInv.old (rcInv fi B2S) (.inr nn)⟩, ⟨_, dg2.le (by omega), gi.keep ?_ (.inr nn)⟩, nFC⟩
        · rw [lastT_snoc, lastS_snoc, if_pos c]
          exact k2
        · rw [cs, if_neg (fun z => z.elim nsc fun z => nn z.2), if_neg]
          rintro ⟨z, _⟩
          rw [c] at z
          exact absurd z (by decide +kernel)
    · walk_at "go"
      refine g_ite (fun c2 => ?_) (fun c2 => ?_)
      · walk_at "go"
        obtain ⟨H4, dp4, b4, dg4⟩ := dg1.put (by omega) r.num (.int ((cpA rows r.num).1 + 1))
        refine ⟨Cc, H4, rfl, dp4, ?_⟩
        walk_at "go"
        have k4 := b4 _ _ nCJ.symm k1
        have df4 := df1.but b4 nFC
        have B4 : ButS (S3 J F Cc) H H4 := B1.trans (ButS.but (.inr (.inr rfl)) b4)
        have B4S : ButS S H H4 := B4.mono hS
        refine q H4 B4 ⟨?_, ⟨_, df4.le (by omega), FInv.old (rcInv fi B4S) (.inl c)⟩, ⟨_, dg4.le (by omega), gi.put ?_⟩, nFC⟩
        · rw [lastT_snoc, lastS_snoc, if_neg c]
          exact k4
        · rw [cs, if_pos (.inl c2)]
      · walk_at "go"
        refine g_iteN (fun c3 => ?_) (fun c3 => ?_)
        · walk_at "go"
          obtain ⟨H4, dp4, b4, dg4⟩ := dg1.put (by omega) r.num (.int (if (cpA rows r.num).1 - 1 > 0 then (cpA rows r.num).1 - 1 else 0))
          refine ⟨Cc, H4, rfl, dp4, ?_⟩
          walk_at "go"
          have k4 := b4 _ _ nCJ.symm k1
          have df4 := df1.but b4 nFC
          have B4 : ButS (S3 J F Cc) H H4 := B1.trans (ButS.but (.inr (.inr rfl)) b4)
          have B4S : ButS S H H4 := B4.mono hS
          refine q H4 B4 ⟨?_, ⟨_, df4.le (by omega), FInv.old (rcInv fi B4S) (.inl c)⟩, ⟨_, dg4.le (by omega), gi.put ?_⟩, nFC⟩
          · rw [lastT_snoc, lastS_snoc, if_neg c]
            exact k4
          · have nc : ¬ (r.word = ("copied" : Str) ∨ (r.word = ("sent" : Str) ∧ firstR rows r.num = none)) := fun z => z.elim c2 fun z => c z.1
            rw [cs, if_neg nc]
            have hm : r.word ∈ (["delivered", "lost", "expired"] : List Str) := by
              unfold Wd at wd
              simp only [List.mem_cons, List.not_mem_nil, or_false] at wd ⊢
              rcases wd with z | z | z | z | z | z
              · exact absurd z c
              · exact .inl z
              · exact .inr (.inl z)
              · exact absurd z c2
              · exact absurd z c3
              · exact .inr (.inr z)
            by_cases g0 : (cpA rows r.num).1 > 0
            · have hg : r.word ∈ (["delivered", "lost", "expired"] : List Str) ∧ (cpA rows r.num).1 > 0 := ⟨hm, g0⟩
              rw [if_pos hg]
              split <;> omega
            · have hg : ¬ (r.word ∈ (["delivered", "lost", "expired"] : List Str) ∧ (cpA rows r.num).1 > 0) := fun z => g0 z.2
              rw [if_neg hg]
              split <;> omega
        · walk_at "go"
          have B1S : ButS S H H1 := B1.mono hS
          refine q H1 B1 ⟨?_, ⟨_, df1.le (by omega), FInv.old (rcInv fi B1S) (.inl c)⟩, ⟨_, dg1.le (by omega), gi.keep ?_ (.inl c)⟩, nFC⟩
          · rw [lastT_snoc, lastS_snoc, if_neg c]
            exact k1
          · rw [cs, if_neg (fun z => z.elim c2 fun z => c z.1), if_neg]
            rintro ⟨z, _⟩
            rw [c3] at z
            exact absurd z (by decide +kernel)
theorem appS {H : Hp} {Q : VK} {p : Addr} {xs : List Str} {y : Str} {n : Nat} (h : H p = some (.lst (xs.map V.str))) (l : xs.length ≤ n) (hn : n ≤ 1000) (q : Q .non (upd H p (.lst ((xs ++ [y]).map V.str)))) : rAppend (.ref p) [.str y] H Q := by
  refine g_append h (by rw [List.length_map]; exact szl (by omega)) ?_
  rw [List.map_append] at q
  exact q
def sp_PacketJudge_problems_under_way (C C1 C2 : Addr) : Sp := fun vs H Q _ => ∃ (S : Addr → Prop) (J dx F Cc p : Addr) (life : Int) (rows : List Rw) (r : Rw), vs = [.ref J, .ref p] ∧ JS C C1 C2 S H J dx F Cc life rows ∧ RcO C1 C2 S H p r ∧ ∀ l H', H l = none → Same H H' → H' l = some (.lst ((und rows r life).map V.str)) → Q (.ref l) H'
theorem ok_PacketJudge_problems_under_way (T : Txt K mg) : FnOk P w K mg base CX0 2 T.f_PacketJudge_problems_under_way T.d_PacketJudge_problems_under_way ["self", "record"] (sp_PacketJudge_problems_under_way T.C_PacketJudge T.C_Record T.C_Packet) := by
  refine T.F_PacketJudge_problems_under_way.ok sc_PacketJudge_problems_under_way (fun vs H Q E h => ?_) (fun cdv A outer s H vs Q E hr h => ?_)
  · obtain ⟨S, J, dx, F, Cc, p, life, rows, r, rfl, js, rc, q⟩ := h
    rfl
  · obtain ⟨S, J, dx, F, Cc, p, life, rows, r, rfl, js, rc, q⟩ := h
    have hu := hu_of hr
    refine ⟨_, (pss_cons (ps_set (i := 2) sc_PacketJudge_problems_under_way.nd rfl (Or.inl rfl) (pe_dget1 hu (pe_fld (pv 0) rfl) (pe_fld (pv 1) rfl) ⟨rfl, rfl, rfl, rfl⟩))
        (pss_cons (ps_if (pt_cmpR op_isN (pv 2) pe_non (nomark _)) (pss_one (ps_ret (pe_lst (pa_cons (pe_glob (v := .str (PySem.Str.ofString "the packet is not under way")) (by rfl) T.v_NOT_UNDER_WAY ⟨_, rfl⟩) pa_nil)))) pss_nil)
        (pss_cons (ps_set (i := 3) sc_PacketJudge_problems_under_way.nd rfl (Or.inl rfl) (pe_lst pa_nil))
        (C8.pss_cut (ps_if (pt_cmpR op_eq (pe_dget hu (pe_fld (pv 0) rfl) (pe_fld (pv 1) rfl) (fun _ _ => rfl)) pe_int (nomark _)) (pss_one (ps_expr (pe_bm PySem.F.plainAttrs_list PySem.F.slot_list_append PySem.F.type_list_append mt_append (pv 3) (pa_cons (pe_glob (v := .str (PySem.Str.ofString "the packet is not under way")) (by rfl) T.v_NOT_UNDER_WAY ⟨_, rfl⟩) pa_nil)))) pss_nil)
        (C8.pss_cut (ps_if (pt_not (pt_val (pe_call (ok_is_same T) (hr.mono (by decide)) rfl T.m_is_same T.F_is_same.kp T.b_is_same .nil pass0 (pa_cons (pe_fld (pv 2) rfl) (pa_cons (pe_fld (pv 1) rfl) pa_nil))))) (pss_one (ps_expr (pe_bm PySem.F.plainAttrs_list PySem.F.slot_list_append PySem.F.type_list_append mt_append (pv 3) (pa_cons (pe_glob (v := .str (PySem.Str.ofString "the packet is not the one that was sent")) (by rfl) T.v_OTHER_PACKET ⟨_, rfl⟩) pa_nil)))) pss_nil)
        (C8.pss_cut (ps_if (PW.pt (pw_and (pt_cmpR op_eq (pe_fld (pv 1) rfl) pe_str (nomark _)) (pw_and1 (pt_cmpR op_le (pe_fld (pv 1) rfl) (pe_op op_add (pe_fld (pv 2) rfl) (pe_fld (pv 0) rfl)) (nomark _))))) (pss_one (ps_expr (pe_bm PySem.F.plainAttrs_list PySem.F.slot_list_append PySem.F.type_list_append mt_append (pv 3) (pa_cons (pe_glob (v := .str (PySem.Str.ofString "the packet is too young to expire")) (by rfl) T.v_TOO_YOUNG ⟨_, rfl⟩) pa_nil)))) pss_nil)
        (C8.pss_cut (ps_if (PW.pt (pw_and (pt_cmpR op_ne (pe_fld (pv 1) rfl) pe_str (nomark _)) (pw_and1 (pt_cmpR op_gt (pe_fld (pv 1) rfl) (pe_op op_add (pe_fld (pv 2) rfl) (pe_fld (pv 0) rfl)) (nomark _))))) (pss_one (ps_expr (pe_bm PySem.F.plainAttrs_list PySem.F.slot_list_append PySem.F.type_list_append mt_append (pv 3) (pa_cons (pe_glob (v := .str (PySem.Str.ofString "the packet is too old")) (by rfl) T.v_TOO_OLD ⟨_, rfl⟩) pa_nil)))) pss_nil)
        (pss_one (ps_ret (pv 3)))))))))), ?_⟩
    dsimp only [cxOf, Cx.nox, Cx.wish, L2.start, List.map, List.cons_append, List.nil_append, List.length_cons, List.length_nil, Nat.reduceAdd, Nat.reduceSub, Nat.zero_add, List.replicate_succ, List.replicate_zero]
    obtain ⟨jo, ⟨f, df, fi⟩, ⟨g, dg, gi⟩, nFC⟩ := js
    obtain ⟨dxr, qa, nSp, ro, po⟩ := id rc
    walk_at "go"
    refine ⟨df.isD, ?_⟩
    walk_at "go"
    refine ⟨_, df.get r.num, ?_⟩
    unfold und at q
    rcases fi r.num with ⟨h1, h2⟩ | ⟨f', p', h1, h2, h3⟩
    · rw [h2]
      rw [h1] at q
      show gName 2 V.non _ _ _
      walk_at "go"
      exact ⟨by show 1 ≤ sizeLine; decide, fun l hl => q l _ hl (same_upd hl) upd_same⟩
    · rw [h2]
      rw [h1] at q
      dsimp only at q
      show gName 2 (V.ref p') _ _ _
      walk_at "go"
      refine ⟨by show 0 ≤ sizeLine; decide, fun l hl => ?_⟩
      generalize z1 : upd H l _ = H1
      have s1 : Same H H1 := by rw [← z1]; exact same_upd hl
      have k1 : H1 l = some (.lst (([] : List Str).map V.str)) := (congrFun z1 l).symm.trans upd_same
      clear z1
      have eg : g r.num = some (.int (cpA rows r.num).1) := by
        rcases gi r.num with h | ⟨_, _, h⟩
        · exact h
        · rw [h1] at h; cases h
      have dgz := dg.get r.num
      rw [eg] at dgz
      have jo1 := s1 _ _ jo
      have ro1 := s1 _ _ ro
      have dg1 := dg.same s1
      have dgz1 := dg1.get r.num
      rw [eg] at dgz1
      walk_at "go"
      refine g_cut (fun σ' H' => σ' = [some (.ref J), some (.ref p), some (.ref p'), some (.ref l)] ∧ Same H H' ∧ ∃ xs : List Str, H' l = some (.lst (xs.map V.str)) ∧ xs.length ≤ 1 ∧ xs = (if (cpA rows r.num).1 = 0 then [pNU] else [])) ?_ ?_
      · walk_at "go"
        refine ⟨Cc, _, rfl, dgz1, ?_⟩
        walk_at "go"
        refine g_ite (fun c => ?_) (fun c => ?_)
        · walk_at "go"
          refine ⟨ty_l k1, ?_⟩
          walk_at "go"
          refine appS (n := 0) k1 (Nat.le_refl _) (by decide) ?_
          walk_at "go"
          exact ⟨rfl, (But.of s1).upd.same hl, _, upd_same, by show 1 ≤ 1; decide, by rw [if_pos c]; rfl⟩
        · walk_at "go"
          exact ⟨rfl, s1, [], k1, by decide, by rw [if_neg c]⟩
      clear jo1 ro1 dg1 dgz1 dgz k1 s1
      rintro _ H1 ⟨rfl, s1, xs, k1, l1, e1⟩
      rw [← e1] at q
      have jo1 := s1 _ _ jo
      have ro1 := s1 _ _ ro
      have po1 := po.but (ButS.of s1)
      obtain ⟨dxf, qf, _, fo1, pf1⟩ := h3.but (ButS.of s1)
      walk_at "go"
      refine g_cut (fun σ' H' => σ' = [some (.ref J), some (.ref p), some (.ref p'), some (.ref l)] ∧ Same H H' ∧ ∃ ys : List Str, H' l = some (.lst (ys.map V.str)) ∧ ys.length ≤ 2 ∧ ys = xs ++ (if pOt f' r = true then [pOP] else [])) ?_ ?_
      · walk_at "go"
        refine ⟨S, S, qf, qa, f', r, rfl, pf1, po1, fun H2 s2 => ?_⟩
        have k2 := s2 _ _ k1
        walk_at "go"
        refine g_iteB (fun c => ?_) (fun c => ?_)
        · walk_at "go"
          have c' : pOt f' r = true := by simpa using c
          refine ⟨ty_l k2, ?_⟩
          walk_at "go"
          refine appS (n := 1) k2 l1 (by decide) ?_
          walk_at "go"
          refine ⟨rfl, (But.of (s1.trans s2)).upd.same hl, _, upd_same, ?_, by rw [if_pos c']; rfl⟩
          rw [List.length_append]
          show xs.length + 1 ≤ 2
          omega
        · walk_at "go"
          have c' : ¬ pOt f' r = true := by simpa using c
          exact ⟨rfl, s1.trans s2, xs, k2, by omega, by rw [if_neg c', List.append_nil]⟩
      clear jo1 ro1 po1 fo1 pf1 k1 s1 e1
      rintro _ H1 ⟨rfl, s1, ys, k1, l2, e1⟩
      rw [← e1] at q
      have jo1 := s1 _ _ jo
      have ro1 := s1 _ _ ro
      obtain ⟨dxf, qf, _, fo1, pf1⟩ := h3.but (ButS.of s1)
      walk_at "go"
      refine g_cut (fun σ' H' => σ' = [some (.ref J), some (.ref p), some (.ref p'), some (.ref l)] ∧ Same H H' ∧ ∃ zs : List Str, H' l = some (.lst (zs.map V.str)) ∧ zs.length ≤ 3 ∧ zs = ys ++ (if r.word = "expired" ∧ r.tick ≤ f'.tick + life then [pTY] else [])) ?_ ?_
      · walk_at "go"
        refine g_ite (fun c => ?_) (fun c => ?_)
        · walk_at "go"
          refine g_ite (fun c2 => ?_) (fun c2 => ?_)
          · walk_at "go"
            refine ⟨ty_l k1, ?_⟩
            walk_at "go"
            refine appS (n := 2) k1 l2 (by decide) ?_
            walk_at "go"
            refine ⟨rfl, (But.of s1).upd.same hl, _, upd_same, ?_, by rw [if_pos ⟨c, c2⟩]; rfl⟩
            rw [List.length_append]
            show ys.length + 1 ≤ 3
            omega
          · walk_at "go"
            exact ⟨rfl, s1, ys, k1, by omega, by rw [if_neg fun z => c2 z.2, List.append_nil]⟩
        · walk_at "go"
          exact ⟨rfl, s1, ys, k1, by omega, by rw [if_neg fun z => c z.1, List.append_nil]⟩
      clear jo1 ro1 fo1 pf1 k1 s1 e1
      rintro _ H1 ⟨rfl, s1, zs, k1, l3, e1⟩
      rw [← e1] at q
      have jo1 := s1 _ _ jo
      have ro1 := s1 _ _ ro
      obtain ⟨dxf, qf, _, fo1, pf1⟩ := h3.but (ButS.of s1)
      walk_at "go"
      refine g_cut (fun σ' H' => σ' = [some (.ref J), some (.ref p), some (.ref p'), some (.ref l)] ∧ Same H H' ∧ ∃ ws : List Str, H' l = some (.lst (ws.map V.str)) ∧ ws = zs ++ (if ¬ r.word = "expired" ∧ f'.tick + life < r.tick then [pTO] else [])) ?_ ?_
      · walk_at "go"
        refine g_iteN (fun c => ?_) (fun c => ?_)
        · walk_at "go"
          refine g_ite (fun c2 => ?_) (fun c2 => ?_)
          · walk_at "go"
            refine ⟨ty_l k1, ?_⟩
            walk_at "go"
            refine appS (n := 3) k1 l3 (by decide) ?_
            walk_at "go"
            exact ⟨rfl, (But.of s1).upd.same hl, _, upd_same, by rw [if_pos ⟨c, c2⟩]; rfl⟩
          · walk_at "go"
            exact ⟨rfl, s1, zs, k1, by rw [if_neg fun z => c2 z.2, List.append_nil]⟩
        · walk_at "go"
          exact ⟨rfl, s1, zs, k1, by rw [if_neg fun z => z.1 c, List.append_nil]⟩
      rintro _ H2 ⟨rfl, s2, ws, k2, e2⟩
      rw [← e2] at q
      walk_at "go"
      exact q l H2 hl s2 k2
def sp_PacketJudge_problems_of (C C1 C2 : Addr) : Sp := fun vs H Q _ => ∃ (S : Addr → Prop) (J dx F Cc p : Addr) (life : Int) (rows : List Rw) (r : Rw), vs = [.ref J, .ref p] ∧ JS C C1 C2 S H J dx F Cc life rows ∧ RcO C1 C2 S H p r ∧ (∀ x, S3 J F Cc x → S x) ∧ Wd r ∧ rows.length < 100 ∧ ∀ l H', H l = none → ButS (S3 J F Cc) H H' → JS C C1 C2 S H' J dx F Cc life (rows ++ [r]) → H' l = some (.lst ((prb rows r life).map V.str)) → Q (.ref l) H'
theorem JS.s3 {C C1 C2 : Addr} {S : Addr → Prop} {H : Hp} {J dx F Cc : Addr} {life : Int} {rows : List Rw} (js : JS C C1 C2 S H J dx F Cc life rows) {l : Addr} (hl : H l = none) : ¬ S3 J F Cc l := by
  obtain ⟨jo, ⟨f, df, _⟩, ⟨g, dg, _⟩, _⟩ := js
  rintro (z | z | z)
  · rw [z, jo] at hl; cases hl
  · exact df.none hl z.symm
  · exact dg.none hl z.symm
theorem JS.same {C C1 C2 : Addr} {S : Addr → Prop} {H H' : Hp} {J dx F Cc : Addr} {life : Int} {rows : List Rw} (js : JS C C1 C2 S H J dx F Cc life rows) (s : Same H H') : JS C C1 C2 S H' J dx F Cc life rows := by
  obtain ⟨jo, ⟨f, df, fi⟩, ⟨g, dg, gi⟩, n⟩ := js
  exact ⟨s _ _ jo, ⟨f, df.same s, rcInv fi (ButS.of s)⟩, ⟨g, dg.same s, gi⟩, n⟩
theorem ok_PacketJudge_problems_of (T : Txt K mg) : FnOk P w K mg base CX0 3 T.f_PacketJudge_problems_of T.d_PacketJudge_problems_of ["self", "record"] (sp_PacketJudge_problems_of T.C_PacketJudge T.C_Record T.C_Packet) := by
  refine T.F_PacketJudge_problems_of.ok sc_PacketJudge_problems_of (fun vs H Q E h => ?_) (fun cdv A outer s H vs Q E hr h => ?_)
  · obtain ⟨S, J, dx, F, Cc, p, life, rows, r, rfl, js, rc, hS, wd, hlen, q⟩ := h
    rfl
  · obtain ⟨S, J, dx, F, Cc, p, life, rows, r, rfl, js, rc, hS, wd, hlen, q⟩ := h
    have hu := hu_of hr
    refine ⟨_, (pss_cons (ps_set (i := 2) sc_PacketJudge_problems_of.nd rfl (Or.inl rfl) (pe_lst pa_nil))
        (C8.pss_cut (ps_if (PW.pt (pw_and (pt_cmpR op_notN (pe_fld (pv 0) rfl) pe_non (nomark _)) (pw_and1 (pt_cmpR op_lt (pe_fld (pv 1) rfl) (pe_fld (pv 0) rfl) (nomark _))))) (pss_one (ps_expr (pe_bm PySem.F.plainAttrs_list PySem.F.slot_list_append PySem.F.type_list_append mt_append (pv 2) (pa_cons (pe_glob (v := .str (PySem.Str.ofString "the tick goes back")) (by rfl) T.v_TICK_BACK ⟨_, rfl⟩) pa_nil)))) pss_nil)
        (C8.pss_cut (ps_if (pt_cmpR op_ne (pe_fld (pv 1) rfl) pe_str (nomark _)) (pss_one (ps_expr (pe_bm PySem.F.plainAttrs_list PySem.F.slot_list_extend PySem.F.type_list_extend mt_extend (pv 2) (pa_cons (pe_meth (pv 0) T.k_PacketJudge T.a_PacketJudge_problems_under_way (ok_PacketJudge_problems_under_way T) (hr.mono (by decide)) T.b_PacketJudge_problems_under_way .nil pass0 (pa_cons (pv 1) pa_nil)) pa_nil)))) (pss_one (ps_if (pt_cmpR op_ne (pe_fld (pv 1) rfl) (pe_op op_add (pe_fld (pv 0) rfl) pe_int) (nomark _)) (pss_one (ps_expr (pe_bm PySem.F.plainAttrs_list PySem.F.slot_list_append PySem.F.type_list_append mt_append (pv 2) (pa_cons (pe_glob (v := .str (PySem.Str.ofString "the number is not the next one")) (by rfl) T.v_WRONG_NUMBER ⟨_, rfl⟩) pa_nil)))) pss_nil)))
        (pss_cons (ps_expr (pe_meth (pv 0) T.k_PacketJudge T.a_PacketJudge_learn (ok_PacketJudge_learn T) (hr.mono (by decide)) T.b_PacketJudge_learn .nil pass0 (pa_cons (pv 1) pa_nil)))
        (pss_one (ps_ret (pv 2))))))), ?_⟩
    dsimp only [cxOf, Cx.nox, Cx.wish, L2.start, List.map, List.cons_append, List.nil_append, List.length_cons, List.length_nil, Nat.reduceAdd, Nat.reduceSub, Nat.zero_add, List.replicate_succ, List.replicate_zero]
    obtain ⟨jo, _, _, _⟩ := id js
    obtain ⟨dxr, qa, nSp, ro, po⟩ := id rc
    unfold prb at q
    walk_at "go"
    refine ⟨by show 0 ≤ sizeLine; decide, fun l hl => ?_⟩
    generalize z1 : upd H l _ = H1
    have s1 : Same H H1 := by rw [← z1]; exact same_upd hl
    have k1 : H1 l = some (.lst (([] : List Str).map V.str)) := (congrFun z1 l).symm.trans upd_same
    clear z1
    have jo1 := s1 _ _ jo
    have ro1 := s1 _ _ ro
    walk_at "go"
    refine g_cut (fun σ' H' => σ' = [some (.ref J), some (.ref p), some (.ref l)] ∧ Same H H' ∧ ∃ xs : List Str, H' l = some (.lst (xs.map V.str)) ∧ xs.length ≤ 1 ∧ xs = (if tb rows r then [pTB] else [])) ?_ ?_
    · walk_at "go"
      unfold lastT at jo1
      rcases (show rows.getLast? = none ∨ ∃ g, rows.getLast? = some g by cases rows.getLast? <;> simp) with e | ⟨g, e⟩
      · rw [e] at jo1
        dsimp only at jo1
        have el : lastT rows = .non := by unfold lastT; rw [e]
        rw [el]
        walk_at "go"
        exact ⟨rfl, s1, [], k1, by decide, by rw [if_neg (tb_none e)]⟩
      · rw [e] at jo1
        dsimp only at jo1
        have el : lastT rows = .int g.tick := by unfold lastT; rw [e]
        rw [el]
        walk_at "go"
        refine g_ite (fun c => ?_) (fun c => ?_)
        · walk_at "go"
          refine ⟨ty_l k1, ?_⟩
          walk_at "go"
          refine appS (n := 0) k1 (Nat.le_refl _) (by decide) ?_
          walk_at "go"
          exact ⟨rfl, (But.of s1).upd.same hl, _, upd_same, by show 1 ≤ 1; decide, by rw [if_pos ((tb_some e).mpr c)]; rfl⟩
        · walk_at "go"
          exact ⟨rfl, s1, [], k1, by decide, by rw [if_neg fun z => c ((tb_some e).mp z)]⟩
    clear jo1 ro1 k1 s1
    rintro _ H1 ⟨rfl, s1, xs, k1, l1, e1⟩
    rw [← e1] at q
    have js1 := js.same s1
    have rc1 := rc.but (ButS.of s1)
    have jo1 := s1 _ _ jo
    have ro1 := s1 _ _ ro
    have nl3 : ¬ S3 J F Cc l := js.s3 hl
    walk_at "go"
    refine g_cut (fun σ' H' => σ' = [some (.ref J), some (.ref p), some (.ref l)] ∧ Same H H' ∧ ∃ ys : List Str, H' l = some (.lst (ys.map V.str)) ∧ ys = xs ++ (if r.word = "sent" then (if ¬ r.num = lastS rows + 1 then [pWN] else []) else und rows r life)) ?_ ?_
    · walk_at "go"
      refine g_iteN (fun c => ?_) (fun c => ?_)
      · walk_at "go"
        refine ⟨ty_l k1, ?_⟩
        walk_at "go"
        refine ⟨S, J, dx, F, Cc, p, life, rows, r, rfl, js1, rc1, fun l2 H2 hl2 s2 k2 => ?_⟩
        walk_at "go"
        refine ⟨l, l2, _, _, rfl, rfl, s2 _ _ k1, k2, ?_, ?_⟩
        · rw [List.length_map, List.length_map]
          have := und_len (rows := rows) (r := r) (life := life)
          exact sz (by omega)
        · walk_at "go"
          refine ⟨rfl, (But.of (s1.trans s2)).upd.same hl, _, by rw [upd_same, ← List.map_append], by rw [if_neg c]⟩
      · walk_at "go"
        refine g_iteN (fun c2 => ?_) (fun c2 => ?_)
        · walk_at "go"
          refine ⟨ty_l k1, ?_⟩
          walk_at "go"
          refine appS (n := 1) k1 l1 (by decide) ?_
          walk_at "go"
          exact ⟨rfl, (But.of s1).upd.same hl, _, upd_same, by rw [if_pos c, if_pos c2]; rfl⟩
        · walk_at "go"
          exact ⟨rfl, s1, xs, k1, by rw [if_pos c, if_neg (fun z => z c2), List.append_nil]⟩
    clear js1 rc1 jo1 ro1 k1 s1 e1
    rintro _ H1 ⟨rfl, s1, ys, k1, e1⟩
    rw [← e1] at q
    have jo1 := s1 _ _ jo
    walk_at "go"
    refine ⟨S, J, dx, F, Cc, p, life, rows, r, rfl, js.same s1, rc.but (ButS.of s1), hS, wd, hlen, fun H2 b2 js2 => ?_⟩
    walk_at "go"
    exact q l H2 hl ((ButS.of s1).trans b2) js2 (b2 _ _ nl3 k1)
end
end My
namespace My
open PySem PySem.Spec L2
local macro_rules | `(tactic| walk_at "side") => `(tactic| first | assumption | decide | omega | exact ⟨by decide, by decide⟩ | exact ⟨by decide, by decide, by decide⟩ | decide +kernel | exact cdivW (by decide +kernel) (by decide +kernel) | exact Or.inl ⟨by omega, by omega⟩ | exact Or.inr ⟨by omega, by omega⟩ | (simp only [List.length_map, List.length_cons, List.length_nil, List.length_append]; omega))
local macro_rules | `(tactic| walk_at "fact") => `(tactic| first | assumption | omega | with_reducible rfl)
local macro_rules | `(tactic| walk_at "use") => `(tactic| fail "use")
local macro_rules | `(tactic| walk_at "go1") => `(tactic| with_reducible first | refine g_seq ?_ | refine g_asg ?_ | refine g_ret ?_ | refine g_ifS ?_ | refine g_drop ?_ | refine g_star ?_ | refine g_nx ?_ | refine g_rt ?_ | refine g_bkE ?_ | refine g_ctE ?_ | refine g_next ?_ | refine g_retN ?_ | refine g_brk ?_ | refine g_ct ?_ | refine g_c ?_ | refine g_op ?_ | refine g_un ?_ | refine g_rI0 ?_ | refine g_rU ?_ | refine g_rEqI ?_ | refine g_rNeI ?_ | refine g_isN ?_ | refine g_rIsB ?_ | refine g_rNotB ?_ | refine g_test ?_ | refine g_B ?_ | refine g_bl ?_ | refine g_and ?_ | refine g_or ?_ | refine g_not ?_ | refine g_andV ?_ | refine g_orV ?_ | refine g_notV ?_ | refine g_if ?_ | refine g_chain ?_ | refine g_yes ?_ | refine g_lc ?_ | refine g_revR ?_ | refine g_rng1 ?_ | refine g_iList ?_ | refine g_nil ?_ | refine g_cons ?_ | refine g_tup ?_ | refine g_lst ?_ | refine g_call ?_ | refine g_CB ?_ | refine g_sl ?_ | refine g_noPart ?_ | refine g_part ?_ | refine g_intE ?_ | refine g_ref ?_ | refine g_fld ?_ | refine g_sfld ?_ | refine g_meth ?_ | refine g_make ?_ | refine g_prop ?_  | refine g_ipI ?_ | refine g_int1 ?_ | refine g_int1B ?_ | refine g_one ?_ | refine g_two ?_ | refine g_isiI ?_ | refine g_isiIB ?_ | refine g_isiB ?_ | refine g_BM ?_ | refine g_BM0 ?_ | refine g_sub ?_)
local macro_rules | `(tactic| walk_at "go") => `(tactic| repeat (first | walk_at "go1" | ((with_reducible refine' g_nameE ?sd_ ?_); case sd_ => dsimp only [List.set_cons_succ, List.set_cons_zero]) | ((with_reducible refine' g_var ?sd_ ?_); case sd_ => exact rfl) | ((with_reducible refine' g_aug ?sd_ ?_); case sd_ => exact rfl) | ((with_reducible refine' g_rI ?sd_ ?_); case sd_ => walk_at "side") | ((with_reducible refine' g_dT ?sd_ ?_); case sd_ => walk_at "fact") | ((with_reducible refine' g_dF ?sd_ ?_); case sd_ => walk_at "fact") | ((with_reducible refine' g_nT ?sd_ ?_); case sd_ => walk_at "fact") | ((with_reducible refine' g_nF ?sd_ ?_); case sd_ => walk_at "fact") | (with_reducible refine g_iT rfl ?_) | (with_reducible refine g_iF rfl ?_) | walk_at "use"))
local macro_rules | `(tactic| walk_at "use") => `(tactic| first | ((with_reducible refine' fd_Finding_index ?ho_ ?hv_ ?_); (case ho_ => first | assumption | exact upd_same); (case hv_ => exact rfl)) | ((with_reducible refine' fd_Finding_problem ?ho_ ?hv_ ?_); (case ho_ => first | assumption | exact upd_same); (case hv_ => exact rfl)) | ((with_reducible refine' nw_Finding_index ?ho_ ?hv_ ?_); (case ho_ => first | assumption | exact upd_same); (case hv_ => exact rfl)) | ((with_reducible refine' nw_Finding_problem ?ho_ ?hv_ ?_); (case ho_ => first | assumption | exact upd_same); (case hv_ => exact rfl)) | ((with_reducible refine' st_Finding_index ?ho_ ?hv_ ?_); (case ho_ => first | assumption | exact upd_same); (case hv_ => exact Nat.le_of_ble_eq_true rfl)) | ((with_reducible refine' st_Finding_problem ?ho_ ?hv_ ?_); (case ho_ => first | assumption | exact upd_same); (case hv_ => exact Nat.le_of_ble_eq_true rfl)) | ((with_reducible refine' me_Finding_eq__ ?ho_ ?_); (case ho_ => first | assumption | exact upd_same)))
local macro_rules | `(tactic| walk_at "use") => `(tactic| first | ((with_reducible refine' fd_PacketJudge__life ?ho_ ?hv_ ?_); (case ho_ => first | assumption | exact upd_same); (case hv_ => exact rfl)) | ((with_reducible refine' fd_PacketJudge__tick_before ?ho_ ?hv_ ?_); (case ho_ => first | assumption | exact upd_same); (case hv_ => exact rfl)) | ((with_reducible refine' fd_PacketJudge__last ?ho_ ?hv_ ?_); (case ho_ => first | assumption | exact upd_same); (case hv_ => exact rfl)) | ((with_reducible refine' fd_PacketJudge__first ?ho_ ?hv_ ?_); (case ho_ => first | assumption | exact upd_same); (case hv_ => exact rfl)) | ((with_reducible refine' fd_PacketJudge__copies ?ho_ ?hv_ ?_); (case ho_ => first | assumption | exact upd_same); (case hv_ => exact rfl)) | ((with_reducible refine' nw_PacketJudge__life ?ho_ ?hv_ ?_); (case ho_ => first | assumption | exact upd_same); (case hv_ => exact rfl)) | ((with_reducible refine' nw_PacketJudge__tick_before ?ho_ ?hv_ ?_); (case ho_ => first | assumption | exact upd_same); (case hv_ => exact rfl)) | ((with_reducible refine' nw_PacketJudge__last ?ho_ ?hv_ ?_); (case ho_ => first | assumption | exact upd_same); (case hv_ => exact rfl)) | ((with_reducible refine' nw_PacketJudge__first ?ho_ ?hv_ ?_); (case ho_ => first | assumption | exact upd_same); (case hv_ => exact rfl)) | ((with_reducible refine' nw_PacketJudge__copies ?ho_ ?hv_ ?_); (case ho_ => first | assumption | exact upd_same); (case hv_ => exact rfl)) | ((with_reducible refine' st_PacketJudge__life ?ho_ ?hv_ ?_); (case ho_ => first | assumption | exact upd_same); (case hv_ => exact Nat.le_of_ble_eq_true rfl)) | ((with_reducible refine' st_PacketJudge__tick_before ?ho_ ?hv_ ?_); (case ho_ => first | assumption | exact upd_same); (case hv_ => exact Nat.le_of_ble_eq_true rfl)) | ((with_reducible refine' st_PacketJudge__last ?ho_ ?hv_ ?_); (case ho_ => first | assumption | exact upd_same); (case hv_ => exact Nat.le_of_ble_eq_true rfl)) | ((with_reducible refine' st_PacketJudge__first ?ho_ ?hv_ ?_); (case ho_ => first | assumption | exact upd_same); (case hv_ => exact Nat.le_of_ble_eq_true rfl)) | ((with_reducible refine' st_PacketJudge__copies ?ho_ ?hv_ ?_); (case ho_ => first | assumption | exact upd_same); (case hv_ => exact Nat.le_of_ble_eq_true rfl)) | ((with_reducible refine' me_PacketJudge_problems_of ?ho_ ?_); (case ho_ => first | assumption | exact upd_same)) | ((with_reducible refine' me_PacketJudge_problems_under_way ?ho_ ?_); (case ho_ => first | assumption | exact upd_same)) | ((with_reducible refine' me_PacketJudge_learn ?ho_ ?_); (case ho_ => first | assumption | exact upd_same)))
local macro_rules | `(tactic| walk_at "use") => `(tactic| first | ((with_reducible refine' fd_Packet_sender ?ho_ ?hv_ ?_); (case ho_ => first | assumption | exact upd_same); (case hv_ => exact rfl)) | ((with_reducible refine' fd_Packet_target ?ho_ ?hv_ ?_); (case ho_ => first | assumption | exact upd_same); (case hv_ => exact rfl)) | ((with_reducible refine' fd_Packet_octets ?ho_ ?hv_ ?_); (case ho_ => first | assumption | exact upd_same); (case hv_ => exact rfl)) | ((with_reducible refine' fd_Packet_marked ?ho_ ?hv_ ?_); (case ho_ => first | assumption | exact upd_same); (case hv_ => exact rfl)) | ((with_reducible refine' nw_Packet_sender ?ho_ ?hv_ ?_); (case ho_ => first | assumption | exact upd_same); (case hv_ => exact rfl)) | ((with_reducible refine' nw_Packet_target ?ho_ ?hv_ ?_); (case ho_ => first | assumption | exact upd_same); (case hv_ => exact rfl)) | ((with_reducible refine' nw_Packet_octets ?ho_ ?hv_ ?_); (case ho_ => first | assumption | exact upd_same); (case hv_ => exact rfl)) | ((with_reducible refine' nw_Packet_marked ?ho_ ?hv_ ?_); (case ho_ => first | assumption | exact upd_same); (case hv_ => exact rfl)) | ((with_reducible refine' st_Packet_sender ?ho_ ?hv_ ?_); (case ho_ => first | assumption | exact upd_same); (case hv_ => exact Nat.le_of_ble_eq_true rfl)) | ((with_reducible refine' st_Packet_target ?ho_ ?hv_ ?_); (case ho_ => first | assumption | exact upd_same); (case hv_ => exact Nat.le_of_ble_eq_true rfl)) | ((with_reducible refine' st_Packet_octets ?ho_ ?hv_ ?_); (case ho_ => first | assumption | exact upd_same); (case hv_ => exact Nat.le_of_ble_eq_true rfl)) | ((with_reducible refine' st_Packet_marked ?ho_ ?hv_ ?_); (case ho_ => first | assumption | exact upd_same); (case hv_ => exact Nat.le_of_ble_eq_true rfl)) | ((with_reducible refine' me_Packet_fork ?ho_ ?_); (case ho_ => first | assumption | exact upd_same)))
local macro_rules | `(tactic| walk_at "use") => `(tactic| first | ((with_reducible refine' fd_Record_tick ?ho_ ?hv_ ?_); (case ho_ => first | assumption | exact upd_same); (case hv_ => exact rfl)) | ((with_reducible refine' fd_Record_number ?ho_ ?hv_ ?_); (case ho_ => first | assumption | exact upd_same); (case hv_ => exact rfl)) | ((with_reducible refine' fd_Record_word ?ho_ ?hv_ ?_); (case ho_ => first | assumption | exact upd_same); (case hv_ => exact rfl)) | ((with_reducible refine' fd_Record_packet ?ho_ ?hv_ ?_); (case ho_ => first | assumption | exact upd_same); (case hv_ => exact rfl)) | ((with_reducible refine' nw_Record_tick ?ho_ ?hv_ ?_); (case ho_ => first | assumption | exact upd_same); (case hv_ => exact rfl)) | ((with_reducible refine' nw_Record_number ?ho_ ?hv_ ?_); (case ho_ => first | assumption | exact upd_same); (case hv_ => exact rfl)) | ((with_reducible refine' nw_Record_word ?ho_ ?hv_ ?_); (case ho_ => first | assumption | exact upd_same); (case hv_ => exact rfl)) | ((with_reducible refine' nw_Record_packet ?ho_ ?hv_ ?_); (case ho_ => first | assumption | exact upd_same); (case hv_ => exact rfl)) | ((with_reducible refine' st_Record_tick ?ho_ ?hv_ ?_); (case ho_ => first | assumption | exact upd_same); (case hv_ => exact Nat.le_of_ble_eq_true rfl)) | ((with_reducible refine' st_Record_number ?ho_ ?hv_ ?_); (case ho_ => first | assumption | exact upd_same); (case hv_ => exact Nat.le_of_ble_eq_true rfl)) | ((with_reducible refine' st_Record_word ?ho_ ?hv_ ?_); (case ho_ => first | assumption | exact upd_same); (case hv_ => exact Nat.le_of_ble_eq_true rfl)) | ((with_reducible refine' st_Record_packet ?ho_ ?hv_ ?_); (case ho_ => first | assumption | exact upd_same); (case hv_ => exact Nat.le_of_ble_eq_true rfl)))
section
variable {P : Program} {w : World} {K : PySem.W.Frag} {mg : Str → Option Value} {base : Heap}
local macro_rules | `(tactic| walk_at "use") => `(tactic| with_reducible first | refine g_dgetI ?_ | refine g_dputI ?_ | refine g_dget1I ?_ | refine g_dget2I ?_ | refine g_dinI ?_ | refine g_dnotinI ?_ | refine g_dnewK ?_)

local macro_rules | `(tactic| walk_at "use") => `(tactic| with_reducible first | refine g_callN ?_ | refine g_makeK ?_ | refine g_gcons ?_ | refine g_gnil ?_ | refine g_rEqS ?_ | refine g_rNeS ?_ | refine g_isiS ?_)
theorem g_iEnum {ta : TA} {σ : St} {H : Hp} {R : It → Hp → Prop} (h : ta σ H fun vs H1 => ∃ a xs, vs = [.ref a] ∧ SqL K H1 a xs ∧ R (Ite K a) H1) : iEnum K ta σ H R := h
def FdAll (C : Addr) (H : Hp) (fs : List Addr) (xs : List (Int × Str)) : Prop := fs.length = xs.length ∧ ∀ (j : Nat) (p : Addr) (x : Int × Str), fs[j]? = some p → xs[j]? = some x → FdO C H p x
theorem FdO.but {C l : Addr} {H H' : Hp} {p : Addr} {x : Int × Str} {vs : List V} (h : FdO C H p x) (b : But l H H') (e : H l = some (.lst vs)) : FdO C H' p x := by
  obtain ⟨dx, h⟩ := h
  exact ⟨dx, b _ _ (fun z => by rw [z, e] at h; cases h) h⟩
theorem FdAll.but {C l : Addr} {H H' : Hp} {fs : List Addr} {xs : List (Int × Str)} {vs : List V} (h : FdAll C H fs xs) (b : But l H H') (e : H l = some (.lst vs)) : FdAll C H' fs xs := ⟨h.1, fun j p x e1 e2 => (h.2 j p x e1 e2).but b e⟩
theorem FdAll.at {C : Addr} {H H' : Hp} {fs : List Addr} {xs : List (Int × Str)} (h : FdAll C H fs xs) (s : ∀ p x, FdO C H p x → FdO C H' p x) : FdAll C H' fs xs := ⟨h.1, fun j p x e1 e2 => s _ _ (h.2 j p x e1 e2)⟩
theorem FdAll.app {C : Addr} {H : Hp} {fs gs : List Addr} {xs ys : List (Int × Str)} (h : FdAll C H fs xs) (h' : FdAll C H gs ys) : FdAll C H (fs ++ gs) (xs ++ ys) := by
  refine ⟨by rw [List.length_append, List.length_append, h.1, h'.1], fun j p x e1 e2 => ?_⟩
  by_cases c : j < fs.length
  · rw [List.getElem?_append_left c] at e1
    rw [List.getElem?_append_left (by rw [← h.1]; exact c)] at e2
    exact h.2 j p x e1 e2
  · rw [List.getElem?_append_right (by omega)] at e1
    rw [List.getElem?_append_right (by rw [← h.1]; omega), ← h.1] at e2
    exact h'.2 _ p x e1 e2
theorem FdAll.one {C : Addr} {H : Hp} {p : Addr} {x : Int × Str} (h : FdO C H p x) : FdAll C H [p] [x] := by
  refine ⟨rfl, fun j p' x' e1 e2 => ?_⟩
  cases j with
  | zero => injection e1 with e1; injection e2 with e2; subst e1; subst e2; exact h
  | succ j => cases e1
theorem FdO.s3 {C C0 C1 C2 : Addr} {S : Addr → Prop} {H : Hp} {J dx F Cc p : Addr} {life : Int} {rows : List Rw} {x : Int × Str} (h : FdO C H p x) (js : JS C0 C1 C2 S H J dx F Cc life rows) : ¬ S3 J F Cc p := by
  obtain ⟨jo, ⟨f, df, _⟩, ⟨g, dg, _⟩, _⟩ := js
  obtain ⟨dxp, h⟩ := h
  rintro (z | z | z)
  · rw [z, jo] at h
    have e := congrArg List.length (HO.ins.inj (Option.some.inj h)).2.2
    exact absurd e (by show ¬ (5 = 2); decide)
  · obtain ⟨kvs, e, _⟩ := df
    rw [z, e] at h; cases h
  · obtain ⟨kvs, e, _⟩ := dg
    rw [z, e] at h; cases h
theorem JS.butFl {C C1 C2 : Addr} {S : Addr → Prop} {H H' : Hp} {J dx F Cc Fl : Addr} {life : Int} {rows : List Rw} (js : JS C C1 C2 S H J dx F Cc life rows) (b : But Fl H H') (hS : S Fl) (n : ¬ S3 J F Cc Fl) : JS C C1 C2 S H' J dx F Cc life rows := by
  obtain ⟨jo, ⟨f, df, fi⟩, ⟨g, dg, gi⟩, nn⟩ := js
  exact ⟨b _ _ (fun z => n (.inl z.symm)) jo, ⟨f, df.but b (fun z => n (.inr (.inl z.symm))), rcInv fi (ButS.but hS b)⟩, ⟨g, dg.but b (fun z => n (.inr (.inr z.symm))), gi⟩, nn⟩
theorem allP_succ {rows : List Rw} {life : Int} {i : Nat} {r : Rw} (h : rows[i]? = some r) : allP rows life (i + 1) = allP rows life i ++ (prb (rows.take i) r life).map fun p => ((i : Int), p) := by
  show allP rows life i ++ (match rows[i]? with | none => [] | some r => _) = _
  rw [h]
def sp_judge_packets (C C1 C2 : Addr) : Sp := fun vs H Q _ => ∃ (L : Addr) (life : Int) (as : List Addr) (rows : List Rw), vs = [.ref L, .int life] ∧ H L = some (.lst (as.map V.ref)) ∧ as.length = rows.length ∧ rows.length ≤ 62 ∧ (∀ (j : Nat) (a : Addr) (r : Rw), as[j]? = some a → rows[j]? = some r → RcO C1 C2 (fun _ => False) H a r ∧ Wd r) ∧
  ∀ l fs H', H l = none → Same H H' → H' l = some (.lst (fs.map V.ref)) → FdAll C H' fs (allP rows life rows.length) → Q (.ref l) H'
theorem ok_judge_packets (T : Txt K mg) : FnOk P w K mg base CX0 4 T.f_judge_packets T.d_judge_packets ["records", "life"] (sp_judge_packets T.C_Finding T.C_Record T.C_Packet) := by
  refine T.F_judge_packets.ok sc_judge_packets (fun vs H Q E h => ?_) (fun cdv A outer s H vs Q E hr h => ?_)
  · obtain ⟨L, life, as, rows, rfl, hL, hla, hlr, hrc, q⟩ := h
    rfl
  · obtain ⟨L, life, as, rows, rfl, hL, hla, hlr, hrc, q⟩ := h
    have hu := hu_of hr
    refine ⟨_, (pss_cons (ps_set (i := 2) sc_judge_packets.nd rfl (Or.inl rfl) (pe_make T.mk_PacketJudge (ok_PacketJudge_init__ T) (hr.mono (by decide)) rfl T.c_PacketJudge T.b_PacketJudge_init__ .nil pass0 (pa_cons (pv 1) pa_nil)))
        (pss_cons (ps_set (i := 3) sc_judge_packets.nd rfl (Or.inl rfl) (pe_lst pa_nil))
        (pss_cons (ps_for (passes_of rfl) rfl (pi_enum (by rfl) T.n_enumerate (pa_cons (pv 0) pa_nil)) (pg_tup rfl (pgs_cons (pg_name (i := 4) sc_judge_packets.nd rfl (Or.inr rfl)) (pgs_cons (pg_name (i := 5) sc_judge_packets.nd rfl (Or.inl rfl)) pgs_nil))) (pss_one (ps_expr (pe_bm PySem.F.plainAttrs_list PySem.F.slot_list_extend PySem.F.type_list_extend mt_extend (pv 3) (pa_cons (pe_lc (own := [("problem", 6)]) (g := gName 6) (tt := tYes) rfl sc_judge_packets.nd (pi_list (pe_meth (pv 2) T.k_PacketJudge T.a_PacketJudge_problems_of (ok_PacketJudge_problems_of T) (hr.mono (by decide)) T.b_PacketJudge_problems_of .nil pass0 (pa_cons (pv 5) pa_nil))) (blkOk_by (N := ["records", "life", "judge", "findings", "index", "record", "problem"]) (sc := defScope s_judge_packets) (by decide +kernel)) (fun _ _ _ _ _ => (pg_name (i := 6) sc_judge_packets.nd rfl (Or.inl rfl))) (fun _ _ _ _ _ => pts_nil) (fun _ _ _ _ _ => (pe_make T.mk_Finding (ok_Finding_init__ T) (hr.mono (by decide)) rfl T.c_Finding T.b_Finding_init__ .nil pass0 (pa_cons (pv 4) (pa_cons (pv 6) pa_nil))))) pa_nil)))))
        (pss_one (ps_ret (pv 3)))))), ?_⟩
    dsimp only [cxOf, Cx.nox, Cx.wish, L2.start, List.map, List.cons_append, List.nil_append, List.length_cons, List.length_nil, Nat.reduceAdd, Nat.reduceSub, Nat.zero_add, List.replicate_succ, List.replicate_zero]
    walk_at "go"
    intro J dx nJ ndx nxd
    have b1 : But J H (upd (upd H dx (.own J)) J (.ins T.C_PacketJudge dx [])) := ((But.of (same_upd (o := .own J) ndx))).upd
    refine ⟨J, dx, life, rfl, upd_same, fun F Cc H1 nF nC nFC b2 jo f0 g0 => ⟨rfl, ?_⟩⟩
    have s1 : Same H H1 := (b1.trans b2).same nJ
    have nn0 : ∀ x, (upd (upd H dx (.own J)) J (.ins T.C_PacketJudge dx [])) x = none → H x = none := fun x h => by
      by_cases z : x = J
      · rw [z, upd_same] at h; cases h
      · rw [upd_ne z] at h
        exact (same_upd ndx).free h
    have hF0 := nn0 _ nF
    have hC0 := nn0 _ nC
    clear b1 b2 nF nC nn0
    walk_at "go"
    refine ⟨by show 0 ≤ sizeLine; decide, fun Fl nFl => ?_⟩
    generalize z2 : upd H1 Fl _ = H2
    have s2 : Same H1 H2 := by rw [← z2]; exact same_upd nFl
    have k2 : H2 Fl = some (.lst (([] : List Addr).map V.ref)) := (congrFun z2 Fl).symm.trans upd_same
    clear z2
    have hFl0 : H Fl = none := s1.free nFl
    have s02 := s1.trans s2
    walk_at "go"
    obtain ⟨S, eS⟩ : ∃ S : Addr → Prop, S = fun x => x = J ∨ x = F ∨ x = Cc ∨ x = Fl := ⟨_, rfl⟩
    have hSn : ∀ x, S x → H x = none := by
      subst eS
      rintro x (rfl | rfl | rfl | rfl)
      · exact nJ
      · exact hF0
      · exact hC0
      · exact hFl0
    have hS3 : ∀ x, S3 J F Cc x → S x := by
      subst eS
      rintro x (h | h | h)
      · exact .inl h
      · exact .inr (.inl h)
      · exact .inr (.inr (.inl h))
    have hSF : S Fl := by subst eS; exact .inr (.inr (.inr rfl))
    have nJF : ¬ S3 J F Cc Fl := by
      rintro (z | z | z)
      · rw [z, jo] at nFl; cases nFl
      · rw [z, f0] at nFl; cases nFl
      · rw [z, g0] at nFl; cases nFl
    have hL2 := s02 _ _ hL
    refine g_for ?_
    refine g_iEnum ?_
    walk_at "go"
    refine ⟨L, as.map V.ref, rfl, sl hL2, ?_⟩
    refine for_it (walk_enum (xs := as.map V.ref)) (fun i σ H' => (∃ v4 v5 v6, σ = [some (.ref L), some (.int life), some (.ref J), some (.ref Fl), v4, v5, v6]) ∧ Same H H' ∧ JS T.C_PacketJudge T.C_Record T.C_Packet S H' J dx F Cc life (rows.take i) ∧ ∃ fs, H' Fl = some (.lst (fs.map V.ref)) ∧ FdAll T.C_Finding H' fs (allP rows life i)) ?_ ?_ ?_ ?_
    · refine ⟨⟨_, _, _, rfl⟩, s02, ⟨s2 _ _ jo, ⟨fun _ => none, (Dk.new f0).same s2, fun n => .inl ⟨rfl, rfl⟩⟩, ⟨fun _ => none, (Dk.new g0).same s2, fun n => .inr ⟨rfl, rfl, rfl⟩⟩, nFC⟩, [], k2, rfl, fun j p x e => by cases e⟩
    · rintro i σ' H3 _ ⟨_, s3, _⟩
      exact sl (s3 _ _ hL)
    · rintro i x σ' H3 _ hi ⟨⟨v4, v5, v6, rfl⟩, s3, js, fs, kF, fd⟩ ⟨T0, x1, y1, rfl, nT, rfl, ex, ey⟩
      injection ex with ex
      subst ex
      obtain ⟨a, ha, rfl⟩ : ∃ a, as[i]? = some a ∧ y1 = .ref a := map_get ey
      have hig : i < rows.length := by rw [← hla]; exact (List.getElem?_eq_some_iff.mp ha).1
      have hgi : rows[i]? = some rows[i] := List.getElem?_eq_getElem hig
      generalize rows[i] = r at hgi
      obtain ⟨rc0, wd⟩ := hrc i a r ha hgi
      have rc3 : RcO T.C_Record T.C_Packet S H3 a r := (rc0.set hSn).but (ButS.of s3)
      refine ⟨T0, _, rfl, st upd_same, rfl, ?_⟩
      refine g_gcons ?_
      refine g_nameE rfl ?_
      refine g_gcons ?_
      refine g_nameE rfl ?_
      refine g_gnil ?_
      generalize zT : upd H3 T0 _ = H4
      have s4 : Same H3 H4 := by rw [← zT]; exact same_upd nT
      clear zT
      have js4 := js.same s4
      have kF4 := s4 _ _ kF
      have jo4 := js4.o
      walk_at "go"
      refine ⟨ty_l kF4, ?_⟩
      walk_at "go"
      refine ⟨S, J, dx, F, Cc, a, life, rows.take i, r, rfl, js4, rc3.but (ButS.of s4), hS3, wd, by rw [List.length_take]; omega, fun l H5 hl b5 js5 k5 => ?_⟩
      rw [show rows.take i ++ [r] = rows.take (i + 1) by rw [List.take_add_one, hgi]; rfl] at js5
      have plen := prb_len (rows := rows.take i) (r := r) (life := life)
      walk_at "go"
      refine ⟨⟨_, sl k5⟩, fun D hD => ?_⟩
      refine lc_it walk_list (fun j H' => But D H5 H' ∧ ∃ gs, H' D = some (.lst (gs.map V.ref)) ∧ FdAll T.C_Finding H' gs (((prb (rows.take i) r life).map fun p => ((i : Int), p)).take j)) ?_ (fun j H' _ h => sl (h.1 _ _ (ne_of_none k5 hD) k5)) ?_ ?_
      · exact ⟨But.of (same_upd hD), [], upd_same, rfl, fun j p x e => by cases e⟩
      · rintro j x H6 H7 hj ⟨b6, gs, kD, fg⟩ ⟨rfl, hx⟩
        obtain ⟨pb, hpb, rfl⟩ : ∃ pb, (prb (rows.take i) r life)[j]? = some pb ∧ x = .str pb := map_get hx
        refine ⟨rfl, ?_⟩
        walk_at "go"
        intro y dxy ny ndy nxy
        refine ⟨y, dxy, ((i : Int), pb), rfl, upd_same, ⟨rfl, ?_⟩⟩
        generalize z8 : upd (upd (upd H7 dxy (.own y)) y (.ins T.C_Finding dxy [])) y _ = H8
        have s8 : Same H7 H8 := by
          rw [← z8]
          exact ((But.of (same_upd (o := .own y) ndy))).upd.upd.same ny
        have k8 : FdO T.C_Finding H8 y ((i : Int), pb) := ⟨dxy, (congrFun z8 y).symm.trans upd_same⟩
        clear z8
        have kD8 := s8 _ _ kD
        refine ⟨_, kD8, ?_, (b6.trans (But.of s8)).upd, gs ++ [y], by rw [upd_same, List.map_append]; rfl, ?_⟩
        · rw [List.length_map, fg.1, List.length_take]
          exact szl (by have := Nat.min_le_left j ((prb (rows.take i) r life).map fun p => ((i : Int), p)).length; have := (List.getElem?_eq_some_iff.mp hpb).1; omega)
        · rw [List.take_add_one, List.getElem?_map, hpb]
          exact ((fg.at fun p x ⟨d, h⟩ => ⟨d, s8 _ _ h⟩).app (FdAll.one k8)).but But.refl.upd kD8
      · rintro H6 ⟨b6, gs, kD, fg⟩
        rw [List.length_map, ← List.length_map (f := fun p => ((i : Int), p)), List.take_length] at fg
        have nFD : Fl ≠ D := ne_of_none (b5 _ _ nJF kF4) hD
        have kF6 := b6 _ _ nFD (b5 _ _ nJF kF4)
        have js6 : JS T.C_PacketJudge T.C_Record T.C_Packet S H6 J dx F Cc life (rows.take (i + 1)) := js5.same (b6.same hD)
        have fd6 : FdAll T.C_Finding H6 fs (allP rows life i) := fd.at fun p x h => by
          obtain ⟨d, h4⟩ : FdO T.C_Finding H4 p x := by obtain ⟨d, h⟩ := h; exact ⟨d, s4 _ _ h⟩
          exact ⟨d, b6.same hD _ _ (b5 _ _ (FdO.s3 ⟨d, h4⟩ js4) h4)⟩
        walk_at "go"
        refine ⟨Fl, D, _, _, rfl, rfl, kF6, kD, ?_, ?_⟩
        · rw [List.length_map, List.length_map, fd.1, fg.1, List.length_map]
          have := allP_len (rows := rows) (life := life) i
          exact sz (by omega)
        · walk_at "go"
          have bF : But Fl H6 (upd H6 Fl (.lst (fs.map V.ref ++ gs.map V.ref))) := But.refl.upd
          refine ⟨⟨_, _, _, rfl⟩, ?_, js6.butFl bF hSF nJF, fs ++ gs, by rw [upd_same, List.map_append], ?_⟩
          · have s34 : Same H H4 := s3.trans s4
            have sa : ButS S H H5 := (ButS.of s34).trans (b5.mono hS3)
            have sb : ButS S H H6 := sa.trans (ButS.of (b6.same hD))
            exact (sb.trans (ButS.but hSF bF)).same hSn
          · rw [allP_succ hgi]
            exact (fd6.but bF kF6).app (fg.but bF kF6)
    · rintro σ' H3 ⟨⟨v4, v5, v6, rfl⟩, s3, js, fs, kF, fd⟩
      rw [List.length_map, hla] at fd
      walk_at "go"
      exact q Fl fs H3 hFl0 s3 kF fd
end
end My
namespace My
open PySem PySem.Spec L2
local macro_rules | `(tactic| walk_at "side") => `(tactic| first | assumption | decide | omega | exact ⟨by decide, by decide⟩ | exact ⟨by decide, by decide, by decide⟩ | decide +kernel | exact cdivW (by decide +kernel) (by decide +kernel) | exact Or.inl ⟨by omega, by omega⟩ | exact Or.inr ⟨by omega, by omega⟩ | (simp only [List.length_map, List.length_cons, List.length_nil, List.length_append]; omega))
local macro_rules | `(tactic| walk_at "fact") => `(tactic| first | assumption | omega | with_reducible rfl)
local macro_rules | `(tactic| walk_at "use") => `(tactic| fail "use")
local macro_rules | `(tactic| walk_at "go1") => `(tactic| with_reducible first | refine g_seq ?_ | refine g_asg ?_ | refine g_ret ?_ | refine g_ifS ?_ | refine g_drop ?_ | refine g_star ?_ | refine g_nx ?_ | refine g_rt ?_ | refine g_bkE ?_ | refine g_ctE ?_ | refine g_next ?_ | refine g_retN ?_ | refine g_brk ?_ | refine g_ct ?_ | refine g_c ?_ | refine g_op ?_ | refine g_un ?_ | refine g_rI0 ?_ | refine g_rU ?_ | refine g_rEqI ?_ | refine g_rNeI ?_ | refine g_isN ?_ | refine g_rIsB ?_ | refine g_rNotB ?_ | refine g_test ?_ | refine g_B ?_ | refine g_bl ?_ | refine g_and ?_ | refine g_or ?_ | refine g_not ?_ | refine g_andV ?_ | refine g_orV ?_ | refine g_notV ?_ | refine g_if ?_ | refine g_chain ?_ | refine g_yes ?_ | refine g_lc ?_ | refine g_revR ?_ | refine g_rng1 ?_ | refine g_iList ?_ | refine g_nil ?_ | refine g_cons ?_ | refine g_tup ?_ | refine g_lst ?_ | refine g_call ?_ | refine g_CB ?_ | refine g_sl ?_ | refine g_noPart ?_ | refine g_part ?_ | refine g_intE ?_ | refine g_ref ?_ | refine g_fld ?_ | refine g_sfld ?_ | refine g_meth ?_ | refine g_make ?_ | refine g_prop ?_  | refine g_ipI ?_ | refine g_int1 ?_ | refine g_int1B ?_ | refine g_one ?_ | refine g_two ?_ | refine g_isiI ?_ | refine g_isiIB ?_ | refine g_isiB ?_ | refine g_BM ?_ | refine g_BM0 ?_ | refine g_sub ?_)
local macro_rules | `(tactic| walk_at "go") => `(tactic| repeat (first | walk_at "go1" | ((with_reducible refine' g_nameE ?sd_ ?_); case sd_ => dsimp only [List.set_cons_succ, List.set_cons_zero]) | ((with_reducible refine' g_var ?sd_ ?_); case sd_ => exact rfl) | ((with_reducible refine' g_aug ?sd_ ?_); case sd_ => exact rfl) | ((with_reducible refine' g_rI ?sd_ ?_); case sd_ => walk_at "side") | ((with_reducible refine' g_dT ?sd_ ?_); case sd_ => walk_at "fact") | ((with_reducible refine' g_dF ?sd_ ?_); case sd_ => walk_at "fact") | ((with_reducible refine' g_nT ?sd_ ?_); case sd_ => walk_at "fact") | ((with_reducible refine' g_nF ?sd_ ?_); case sd_ => walk_at "fact") | (with_reducible refine g_iT rfl ?_) | (with_reducible refine g_iF rfl ?_) | walk_at "use"))
local macro_rules | `(tactic| walk_at "use") => `(tactic| first | ((with_reducible refine' fd_Finding_index ?ho_ ?hv_ ?_); (case ho_ => first | assumption | exact upd_same); (case hv_ => exact rfl)) | ((with_reducible refine' fd_Finding_problem ?ho_ ?hv_ ?_); (case ho_ => first | assumption | exact upd_same); (case hv_ => exact rfl)) | ((with_reducible refine' nw_Finding_index ?ho_ ?hv_ ?_); (case ho_ => first | assumption | exact upd_same); (case hv_ => exact rfl)) | ((with_reducible refine' nw_Finding_problem ?ho_ ?hv_ ?_); (case ho_ => first | assumption | exact upd_same); (case hv_ => exact rfl)) | ((with_reducible refine' st_Finding_index ?ho_ ?hv_ ?_); (case ho_ => first | assumption | exact upd_same); (case hv_ => exact Nat.le_of_ble_eq_true rfl)) | ((with_reducible refine' st_Finding_problem ?ho_ ?hv_ ?_); (case ho_ => first | assumption | exact upd_same); (case hv_ => exact Nat.le_of_ble_eq_true rfl)) | ((with_reducible refine' me_Finding_eq__ ?ho_ ?_); (case ho_ => first | assumption | exact upd_same)))
local macro_rules | `(tactic| walk_at "use") => `(tactic| first | ((with_reducible refine' fd_PacketJudge__life ?ho_ ?hv_ ?_); (case ho_ => first | assumption | exact upd_same); (case hv_ => exact rfl)) | ((with_reducible refine' fd_PacketJudge__tick_before ?ho_ ?hv_ ?_); (case ho_ => first | assumption | exact upd_same); (case hv_ => exact rfl)) | ((with_reducible refine' fd_PacketJudge__last ?ho_ ?hv_ ?_); (case ho_ => first | assumption | exact upd_same); (case hv_ => exact rfl)) | ((with_reducible refine' fd_PacketJudge__first ?ho_ ?hv_ ?_); (case ho_ => first | assumption | exact upd_same); (case hv_ => exact rfl)) | ((with_reducible refine' fd_PacketJudge__copies ?ho_ ?hv_ ?_); (case ho_ => first | assumption | exact upd_same); (case hv_ => exact rfl)) | ((with_reducible refine' nw_PacketJudge__life ?ho_ ?hv_ ?_); (case ho_ => first | assumption | exact upd_same); (case hv_ => exact rfl)) | ((with_reducible refine' nw_PacketJudge__tick_before ?ho_ ?hv_ ?_); (case ho_ => first | assumption | exact upd_same); (case hv_ => exact rfl)) | ((with_reducible refine' nw_PacketJudge__last ?ho_ ?hv_ ?_); (case ho_ => first | assumption | exact upd_same); (case hv_ => exact rfl)) | ((with_reducible refine' nw_PacketJudge__first ?ho_ ?hv_ ?_); (case ho_ => first | assumption | exact upd_same); (case hv_ => exact rfl)) | ((with_reducible refine' nw_PacketJudge__copies ?ho_ ?hv_ ?_); (case ho_ => first | assumption | exact upd_same); (case hv_ => exact rfl)) | ((with_reducible refine' st_PacketJudge__life ?ho_ ?hv_ ?_); (case ho_ => first | assumption | exact upd_same); (case hv_ => exact Nat.le_of_ble_eq_true rfl)) | ((with_reducible refine' st_PacketJudge__tick_before ?ho_ ?hv_ ?_); (case ho_ => first | assumption | exact upd_same); (case hv_ => exact Nat.le_of_ble_eq_true rfl)) | ((with_reducible refine' st_PacketJudge__last ?ho_ ?hv_ ?_); (case ho_ => first | assumption | exact upd_same); (case hv_ => exact Nat.le_of_ble_eq_true rfl)) | ((with_reducible refine' st_PacketJudge__first ?ho_ ?hv_ ?_); (case ho_ => first | assumption | exact upd_same); (case hv_ => exact Nat.le_of_ble_eq_true rfl)) | ((with_reducible refine' st_PacketJudge__copies ?ho_ ?hv_ ?_); (case ho_ => first | assumption | exact upd_same); (case hv_ => exact Nat.le_of_ble_eq_true rfl)) | ((with_reducible refine' me_PacketJudge_problems_of ?ho_ ?_); (case ho_ => first | assumption | exact upd_same)) | ((with_reducible refine' me_PacketJudge_problems_under_way ?ho_ ?_); (case ho_ => first | assumption | exact upd_same)) | ((with_reducible refine' me_PacketJudge_learn ?ho_ ?_); (case ho_ => first | assumption | exact upd_same)))
local macro_rules | `(tactic| walk_at "use") => `(tactic| first | ((with_reducible refine' fd_Packet_sender ?ho_ ?hv_ ?_); (case ho_ => first | assumption | exact upd_same); (case hv_ => exact rfl)) | ((with_reducible refine' fd_Packet_target ?ho_ ?hv_ ?_); (case ho_ => first | assumption | exact upd_same); (case hv_ => exact rfl)) | ((with_reducible refine' fd_Packet_octets ?ho_ ?hv_ ?_); (case ho_ => first | assumption | exact upd_same); (case hv_ => exact rfl)) | ((with_reducible refine' fd_Packet_marked ?ho_ ?hv_ ?_); (case ho_ => first | assumption | exact upd_same); (case hv_ => exact rfl)) | ((with_reducible refine' nw_Packet_sender ?ho_ ?hv_ ?_); (case ho_ => first | assumption | exact upd_same); (case hv_ => exact rfl)) | ((with_reducible refine' nw_Packet_target ?ho_ ?hv_ ?_); (case ho_ => first | assumption | exact upd_same); (case hv_ => exact rfl)) | ((with_reducible refine' nw_Packet_octets ?ho_ ?hv_ ?_); (case ho_ => first | assumption | exact upd_same); (case hv_ => exact rfl)) | ((with_reducible refine' nw_Packet_marked ?ho_ ?hv_ ?_); (case ho_ => first | assumption | exact upd_same); (case hv_ => exact rfl)) | ((with_reducible refine' st_Packet_sender ?ho_ ?hv_ ?_); (case ho_ => first | assumption | exact upd_same); (case hv_ => exact Nat.le_of_ble_eq_true rfl)) | ((with_reducible refine' st_Packet_target ?ho_ ?hv_ ?_); (case ho_ => first | assumption | exact upd_same); (case hv_ => exact Nat.le_of_ble_eq_true rfl)) | ((with_reducible refine' st_Packet_octets ?ho_ ?hv_ ?_); (case ho_ => first | assumption | exact upd_same); (case hv_ => exact Nat.le_of_ble_eq_true rfl)) | ((with_reducible refine' st_Packet_marked ?ho_ ?hv_ ?_); (case ho_ => first | assumption | exact upd_same); (case hv_ => exact Nat.le_of_ble_eq_true rfl)) | ((with_reducible refine' me_Packet_fork ?ho_ ?_); (case ho_ => first | assumption | exact upd_same)))
local macro_rules | `(tactic| walk_at "use") => `(tactic| first | ((with_reducible refine' fd_Record_tick ?ho_ ?hv_ ?_); (case ho_ => first | assumption | exact upd_same); (case hv_ => exact rfl)) | ((with_reducible refine' fd_Record_number ?ho_ ?hv_ ?_); (case ho_ => first | assumption | exact upd_same); (case hv_ => exact rfl)) | ((with_reducible refine' fd_Record_word ?ho_ ?hv_ ?_); (case ho_ => first | assumption | exact upd_same); (case hv_ => exact rfl)) | ((with_reducible refine' fd_Record_packet ?ho_ ?hv_ ?_); (case ho_ => first | assumption | exact upd_same); (case hv_ => exact rfl)) | ((with_reducible refine' nw_Record_tick ?ho_ ?hv_ ?_); (case ho_ => first | assumption | exact upd_same); (case hv_ => exact rfl)) | ((with_reducible refine' nw_Record_number ?ho_ ?hv_ ?_); (case ho_ => first | assumption | exact upd_same); (case hv_ => exact rfl)) | ((with_reducible refine' nw_Record_word ?ho_ ?hv_ ?_); (case ho_ => first | assumption | exact upd_same); (case hv_ => exact rfl)) | ((with_reducible refine' nw_Record_packet ?ho_ ?hv_ ?_); (case ho_ => first | assumption | exact upd_same); (case hv_ => exact rfl)) | ((with_reducible refine' st_Record_tick ?ho_ ?hv_ ?_); (case ho_ => first | assumption | exact upd_same); (case hv_ => exact Nat.le_of_ble_eq_true rfl)) | ((with_reducible refine' st_Record_number ?ho_ ?hv_ ?_); (case ho_ => first | assumption | exact upd_same); (case hv_ => exact Nat.le_of_ble_eq_true rfl)) | ((with_reducible refine' st_Record_word ?ho_ ?hv_ ?_); (case ho_ => first | assumption | exact upd_same); (case hv_ => exact Nat.le_of_ble_eq_true rfl)) | ((with_reducible refine' st_Record_packet ?ho_ ?hv_ ?_); (case ho_ => first | assumption | exact upd_same); (case hv_ => exact Nat.le_of_ble_eq_true rfl)))
section
variable {P : Program} {w : World} {K : PySem.W.Frag} {mg : Str → Option Value} {base : Heap}
local macro_rules | `(tactic| walk_at "use") => `(tactic| with_reducible first | refine g_dgetI ?_ | refine g_dputI ?_ | refine g_dget1I ?_ | refine g_dget2I ?_ | refine g_dinI ?_ | refine g_dnotinI ?_ | refine g_dnewK ?_)

local macro_rules | `(tactic| walk_at "use") => `(tactic| with_reducible first | refine g_callN ?_ | refine g_makeK ?_ | refine g_gcons ?_ | refine g_gnil ?_ | refine g_rEqS ?_ | refine g_rNeS ?_ | refine g_isiS ?_)
def sp_l_cell (K : PySem.W.Frag) : Sp := fun vs H Q _ => ∃ (a : Addr) (ns : List Int) (k : Int), vs = [.ref a, .int k] ∧ SqL K H a (ns.map V.int) ∧ 0 ≤ k ∧ Q (.int (cell ns k)) H
theorem u_cell {a : Addr} {ns : List Int} {k : Int} {H Q E} (h : SqL K H a (ns.map V.int)) (h0 : 0 ≤ k) (q : Q (.int (cell ns k)) H) : sp_l_cell K ([.ref a, .int k] ++ []) H Q E := ⟨a, ns, k, rfl, h, h0, q⟩
theorem ok_l_cell (T : Txt K mg) : FnOk P w K mg base CX0 1 T.f_l_cell T.d_l_cell ["script", "k"] (sp_l_cell K) := by
  refine T.F_l_cell.ok sc_l_cell (fun vs H Q E h => ?_) (fun cdv A outer s H vs Q E hr h => ?_)
  · obtain ⟨a, ns, k, rfl, hS, h0, q⟩ := h
    rfl
  · obtain ⟨a, ns, k, rfl, hS, h0, q⟩ := h
    have hu := hu_of hr
    refine ⟨_, (pss_cons (ps_if (pt_cmpR op_lt (pv 1) (pe_callB call_len_seq (by rfl) T.n_len (by decide +kernel) (pa_cons (pv 0) pa_nil)) (nomark _)) (pss_one (ps_ret (pe_ix ix_list (pv 0) (pv 1) (fun _ _ => rfl)))) pss_nil)
        (pss_one (ps_ret pe_int))), ?_⟩
    dsimp only [cxOf, Cx.nox, Cx.wish, L2.start, List.map, List.cons_append, List.nil_append, List.length_cons, List.length_nil, Nat.reduceAdd, Nat.reduceSub, Nat.zero_add, List.replicate_succ, List.replicate_zero]
    walk_at "go"
    refine g_len (.inl hS) ?_
    walk_at "go"
    rw [List.length_map]
    refine g_ite (fun h => ?_) (fun h => ?_)
    · walk_at "go"
      refine g_ixL hS (atI_map h0 h) ?_
      exact q
    · walk_at "go"
      rw [cell_out h] at q
      exact q
local macro_rules | `(tactic| walk_at "use") => `(tactic| with_reducible refine u_cell (by assumption) (by decide) ?_)

def sp_l_is_integer (K : PySem.W.Frag) : Sp := fun vs H Q _ => ∃ (n : Int), vs = [.int n] ∧ Q (.bl true) H
theorem u_isint {n : Int} {H Q E} (q : Q (.bl true) H) : sp_l_is_integer K ([.int n] ++ []) H Q E := ⟨n, rfl, q⟩
theorem ok_l_is_integer (T : Txt K mg) : FnOk P w K mg base CX0 1 T.f_l_is_integer T.d_l_is_integer ["told"] (sp_l_is_integer K) := by
  refine T.F_l_is_integer.ok sc_l_is_integer (fun vs H Q E h => ?_) (fun cdv A outer s H vs Q E hr h => ?_)
  · obtain ⟨n, rfl, q⟩ := h
    rfl
  · obtain ⟨n, rfl, q⟩ := h
    have hu := hu_of hr
    refine ⟨_, (pss_one (ps_ret (pe_and (pe_callB call_isi (by rfl) T.n_isinstance (by decide +kernel) (pa_cons (pv 0) (pa_cons (pe_bltn (v := .ty "int") (by rfl) T.n_int (by decide +kernel) rfl) pa_nil))) (pe_one (pe_not (pe_callB call_isi (by rfl) T.n_isinstance (by decide +kernel) (pa_cons (pv 0) (pa_cons (pe_bltn (v := .ty "bool") (by rfl) T.n_bool (by decide +kernel) rfl) pa_nil)))))))), ?_⟩
    dsimp only [cxOf, Cx.nox, Cx.wish, L2.start, List.map, List.cons_append, List.nil_append, List.length_cons, List.length_nil, Nat.reduceAdd, Nat.reduceSub, Nat.zero_add, List.replicate_succ, List.replicate_zero]
    walk_at "go"
    exact q
local macro_rules | `(tactic| walk_at "use") => `(tactic| with_reducible refine u_isint ?_)

def sp_l_start (K : PySem.W.Frag) : Sp := fun vs H Q _ => ∃ c k : Int, vs = [.int c, .int k] ∧ ∀ p n, H p = none → Q (.ref p) (upd H p (.lst [.int n]))
theorem u_start {c k : Int} {H Q E} (q : ∀ p n, H p = none → Q (.ref p) (upd H p (.lst [.int n]))) : sp_l_start K ([.int c, .int k] ++ []) H Q E := ⟨c, k, rfl, q⟩
theorem one_ok : 1 ≤ sizeLine := by decide
theorem abs_mod {a : Int} : (a % 618970019642690137449562111).natAbs < 2 ^ 89 := by omega
theorem ok_l_start (T : Txt K mg) : FnOk P w K mg base CX0 1 T.f_l_start T.d_l_start ["cell", "k"] (sp_l_start K) := by
  refine T.F_l_start.ok sc_l_start (fun vs H Q E h => ?_) (fun cdv A outer s H vs Q E hr h => ?_)
  · obtain ⟨c, k, rfl, q⟩ := h
    rfl
  · obtain ⟨c, k, rfl, q⟩ := h
    have hu := hu_of hr
    refine ⟨_, (pss_cons (ps_set (i := 2) sc_l_start.nd rfl (Or.inl rfl) pe_int)
        (pss_cons (ps_if (pt_chain op_lt op_lt (pe_un un_neg pe_int) (pv 0) pe_int) (pss_cons (ps_set (i := 3) sc_l_start.nd rfl (Or.inl rfl) (pe_op op_mod (pe_callTy call_int1 (by rfl) T.n_int (by decide +kernel) (pa_cons (pe_op op_add (pe_op op_mul (pv 0) pe_int) (pe_op op_mul (pe_op op_add (pv 1) pe_int) pe_int)) pa_nil)) (pv 2)))
        (pss_one (ps_ret (pe_lst (pa_cons (pe_op op_mod (pe_callTy call_int1 (by rfl) T.n_int (by decide +kernel) (pa_cons (pe_op op_add (pe_op op_add (pe_op op_mulW (pv 3) (pv 3)) (pe_op op_mul pe_int (pv 3))) (pv 1)) pa_nil)) (pv 2)) pa_nil))))) pss_nil)
        (pss_one (ps_ret (pe_lst (pa_cons (pv 0) pa_nil)))))), ?_⟩
    dsimp only [cxOf, Cx.nox, Cx.wish, L2.start, List.map, List.cons_append, List.nil_append, List.length_cons, List.length_nil, Nat.reduceAdd, Nat.reduceSub, Nat.zero_add, List.replicate_succ, List.replicate_zero]
    walk_at "go"
    refine g_ite (fun c1 => ?_) (fun c1 => ?_)
    · walk_at "go"
      refine g_ite (fun c2 => ?_) (fun c2 => ?_)
      · walk_at "go"
        refine g_rI (wide_mul abs_mod abs_mod (by decide) (by decide) (by decide)) ?_
        walk_at "go"
        exact ⟨one_ok, fun p hp => q p _ hp⟩
      · walk_at "go"
        exact ⟨one_ok, fun p hp => q p _ hp⟩
    · walk_at "go"
      exact ⟨one_ok, fun p hp => q p _ hp⟩
theorem lt8000 {m : Int} (h : m < 18446744073709551616) : m < 2 ^ 8000 := Int.lt_trans h (by decide +kernel)
def sp_l_digit (K : PySem.W.Frag) : Sp := fun vs H Q _ => ∃ (p : Addr) (n m : Int), vs = [.ref p, .int m] ∧ H p = some (.lst [.int n]) ∧ 0 < m ∧ m < 18446744073709551616 ∧ Q (.int (n % m)) (upd H p (.lst [.int (n / m)]))
theorem u_digit {p : Addr} {n m : Int} {H Q E} (h : H p = some (.lst [.int n])) (h0 : 0 < m) (h1 : m < 18446744073709551616) (q : Q (.int (n % m)) (upd H p (.lst [.int (n / m)]))) : sp_l_digit K ([.ref p, .int m] ++ []) H Q E := ⟨p, n, m, rfl, h, h0, h1, q⟩
theorem ok_l_digit (T : Txt K mg) : FnOk P w K mg base CX0 1 T.f_l_digit T.d_l_digit ["state", "many"] (sp_l_digit K) := by
  refine T.F_l_digit.ok sc_l_digit (fun vs H Q E h => ?_) (fun cdv A outer s H vs Q E hr h => ?_)
  · obtain ⟨p, n, m, rfl, hp, h0, h1, q⟩ := h
    rfl
  · obtain ⟨p, n, m, rfl, hp, h0, h1, q⟩ := h
    have hu := hu_of hr
    refine ⟨_, (pss_cons (ps_set (i := 2) sc_l_digit.nd rfl (Or.inl rfl) (pe_op op_mod (pe_callTy call_int1 (by rfl) T.n_int (by decide +kernel) (pa_cons (pe_ix ix_list (pv 0) pe_int (fun _ _ => rfl)) pa_nil)) (pv 1)))
        (pss_cons (ps_asg (pe_op op_fdivW (pe_ix ix_list (pv 0) pe_int (fun _ _ => rfl)) (pv 1)) (pg_sub (pv 0) pe_int set_list))
        (pss_one (ps_ret (pv 2))))), ?_⟩
    dsimp only [cxOf, Cx.nox, Cx.wish, L2.start, List.map, List.cons_append, List.nil_append, List.length_cons, List.length_nil, Nat.reduceAdd, Nat.reduceSub, Nat.zero_add, List.replicate_succ, List.replicate_zero]
    walk_at "go"
    refine g_ixL (sl hp) (at_of (j := 0) rfl rfl) ?_
    walk_at "go"
    refine g_ixL (sl hp) (at_of (j := 0) rfl rfl) ?_
    walk_at "go"
    refine g_rI (cdivW h0 (lt8000 h1)) ?_
    walk_at "go"
    refine g_setL (j := 0) hp rfl ?_
    walk_at "go"
    exact q

/-- [_law_digit(state, m) for j in range(cnt)] -/
theorem lc_digs {σ : St} {H1 : Hp} {p : Addr} {n m : Int} {cnt is j : Nat} {D : Addr} {Qd : Hp → Prop} (hD : H1 D = none) (hp : H1 p = some (.lst [.int n])) (h0 : 0 < m) (h1 : m < 18446744073709551616) (hc : cnt ≤ 100000)
    (hσ : ∀ x, ((wipe σ [j]).set j (some x))[is]? = some (some (.ref p)))
    (q : ∀ (H' : Hp) (us : List Int) (n' : Int), But p H1 H' → H' D = some (.lst (us.map V.int)) → H' p = some (.lst [.int n']) → us.length = cnt → (∀ u ∈ us, 0 ≤ u ∧ u < m) → Qd H') :
    ∃ W : Nat → Nat → Hp → Prop, (∃ m, W 0 m (upd H1 D (.lst []))) ∧ ∀ i m0 H, W i m0 H →
      ((Itr 0 cnt).stop i H ∧ Qd H) ∨ ((Itr 0 cnt).go i H ∧ ∃ Nx : Hp → Prop, (∀ H', Nx H' → ∃ m', m' < m0 ∧ W (i + 1) m' H') ∧ ∀ x H', (Itr 0 cnt).yld i H x H' → gName j x (wipe σ [j]) H' fun σ2 H2 => wipe σ2 [j] = wipe σ [j] ∧ tYes σ2 H2 fun b H3 =>
        if b = true then tCall (sp_l_digit K) [] E0 (tCons (tVar is) (tCons (tC (.int m)) tNil)) σ2 H3 fun y H4 => ∃ acc, H4 D = some (.lst acc) ∧ acc.length < sizeLine ∧ Nx (upd H4 D (.lst (acc ++ [y]))) else Nx H3) := by
  have nDp : p ≠ D := ne_of_none hp hD
  refine lc_it walk_range (fun i H => But p H1 H ∧ ∃ (us : List Int) (n' : Int), H D = some (.lst (us.map V.int)) ∧ H p = some (.lst [.int n']) ∧ us.length = i ∧ (∀ u ∈ us, 0 ≤ u ∧ u < m)) ?_ (fun _ _ _ _ => trivial) ?_ ?_
  · refine ⟨But.of (same_upd hD), [], n, upd_same, (same_upd hD) _ _ hp, rfl, fun u z => nomatch z⟩
  · rintro i x H H' hi ⟨bt, us, n', hu, hn, hl, hb⟩ ⟨rfl, rfl⟩
    refine ⟨?_, ?_⟩
    · show ((σ.set j none).set j (some _)).set j none = σ.set j none
      rw [List.set_set, List.set_set]
    refine g_yes ?_
    refine iteT ?_
    refine g_call ?_
    refine g_cons ?_
    refine g_var (hσ _) ?_
    refine g_cons ?_
    refine g_c ?_
    refine g_nil ?_
    refine u_digit hn h0 h1 ?_
    refine ⟨us.map V.int, ?_, ?_, ?_⟩
    · rw [upd_ne (Ne.symm nDp)]
      exact hu
    · rw [List.length_map]
      exact szl (by omega)
    · refine ⟨?_, us ++ [n' % m], n' / m, ?_, ?_, ?_, ?_⟩
      · intro b o nb e
        by_cases z : b = D
        · rw [z, hD] at e; cases e
        · rw [upd_ne z, upd_ne nb]
          exact bt b o nb e
      · rw [upd_same, List.map_append]
        rfl
      · rw [upd_ne nDp, upd_same]
      · rw [List.length_append, hl]
        rfl
      · intro u hu
        rcases List.mem_append.mp hu with z | z
        · exact hb u z
        · rw [List.mem_singleton.mp z]
          exact ⟨Int.emod_nonneg _ (by omega), Int.emod_lt_of_pos _ h0⟩
  · rintro H ⟨bt, us, n', hu, hn, hl, hb⟩
    exact q H us n' bt hu hn hl hb

theorem u_dig {p : Addr} {n m : Int} {H Q E} (h : H p = some (.lst [.int n])) (h0 : 0 < m) (h1 : m < 18446744073709551616) (q : ∀ d n' H', 0 ≤ d → d < m → But p H H' → H' p = some (.lst [.int n']) → Q (.int d) H') : sp_l_digit K ([.ref p, .int m] ++ []) H Q E := u_digit h h0 h1 (q _ _ _ (Int.emod_nonneg _ (by omega)) (Int.emod_lt_of_pos _ h0) But.refl.upd upd_same)
theorem pickN {α : Type} {f : α → V} {d : Int} (xs : List α) (h0 : 0 ≤ d) (h1 : d < (xs.length : Int)) : ∃ x, atI (xs.map f) d = some (f x) ∧ x ∈ xs := by
  have hl : d.toNat < xs.length := by omega
  exact ⟨xs[d.toNat], at_of (j := d.toNat) (by omega) (by rw [List.getElem?_map, List.getElem?_eq_getElem hl]; rfl), List.getElem_mem hl⟩
/-! the law's rows -/
def RwO (S : Addr → Prop) (H : Hp) (t : Addr) (r : Rw) : Prop := ∃ tp tl, ¬ S t ∧ ¬ S tp ∧ ¬ S tl ∧ H t = some (.tup [.int r.tick, .int r.num, .str r.word, .ref tp, .bl r.mkd]) ∧ H tp = some (.tup [.int r.a, .int r.b, .ref tl]) ∧ H tl = some (.lst (r.ds.map V.int))
theorem RwO.but {S : Addr → Prop} {H H' : Hp} {t : Addr} {r : Rw} (h : RwO S H t r) (b : ButS S H H') : RwO S H' t r := by
  obtain ⟨tp, tl, n1, n2, n3, h1, h2, h3⟩ := h
  exact ⟨tp, tl, n1, n2, n3, b _ _ n1 h1, b _ _ n2 h2, b _ _ n3 h3⟩
theorem RwO.same {S : Addr → Prop} {H H' : Hp} {t : Addr} {r : Rw} (h : RwO S H t r) (b : Same H H') : RwO S H' t r := h.but (ButS.of b)
section
variable {S : Addr → Prop} {H : Hp} {Q : VK} {t : Addr} {r : Rw}
theorem rw_0 (h : RwO S H t r) (q : Q (.int r.tick) H) : rIxT K (.ref t) (.int 0) H Q := by
  obtain ⟨tp, tl, _, _, _, h, _, _⟩ := h
  exact g_ixT (st h) (at_of (j := 0) rfl rfl) q
theorem rw_1 (h : RwO S H t r) (q : Q (.int r.num) H) : rIxT K (.ref t) (.int 1) H Q := by
  obtain ⟨tp, tl, _, _, _, h, _, _⟩ := h
  exact g_ixT (st h) (at_of (j := 1) rfl rfl) q
theorem rw_2 (h : RwO S H t r) (q : Q (.str r.word) H) : rIxT K (.ref t) (.int 2) H Q := by
  obtain ⟨tp, tl, _, _, _, h, _, _⟩ := h
  exact g_ixT (st h) (at_of (j := 2) rfl rfl) q
theorem rw_4 (h : RwO S H t r) (q : Q (.bl r.mkd) H) : rIxT K (.ref t) (.int 4) H Q := by
  obtain ⟨tp, tl, _, _, _, h, _, _⟩ := h
  exact g_ixT (st h) (at_of (j := 4) rfl rfl) q
end
local macro_rules | `(tactic| walk_at "use") => `(tactic| first | ((with_reducible refine' rw_0 ?ho_ ?_); (case ho_ => assumption)) | ((with_reducible refine' rw_1 ?ho_ ?_); (case ho_ => assumption)) | ((with_reducible refine' rw_2 ?ho_ ?_); (case ho_ => assumption)) | ((with_reducible refine' rw_4 ?ho_ ?_); (case ho_ => assumption)))
def PM (p m : Addr) : Addr → Prop := fun x => x = p ∨ x = m
def sp_l_row (K : PySem.W.Frag) : Sp := fun vs H Q _ => ∃ (S : Addr → Prop) (c k : Int) (m : Addr) (a b : Int), vs = [.int c, .int k, .ref m] ∧ H m = some (.lst [.int a, .int b]) ∧ (∀ x, S x → H x ≠ none) ∧ ∀ t r H' a' b', H t = none → But m H H' → H' m = some (.lst [.int a', .int b']) → RwO S H' t r → Wd r ∧ r.ds ≠ [] → Q (.ref t) H'
theorem ok_l_row (T : Txt K mg) : FnOk P w K mg base CX0 2 T.f_l_row T.d_l_row ["cell", "k", "marks"] (sp_l_row K) := by
  refine T.F_l_row.ok sc_l_row (fun vs H Q E h => ?_) (fun cdv A outer s H vs Q E hr h => ?_)
  · obtain ⟨S, c, k, m, a, b, rfl, hm, hS, q⟩ := h
    rfl
  · obtain ⟨S, c, k, m, a, b, rfl, hm, hS, q⟩ := h
    have hu := hu_of hr
    refine ⟨_, (pss_cons (ps_set (i := 3) sc_l_row.nd rfl (Or.inl rfl) (pe_call (ok_l_start T) (hr.mono (by decide)) rfl T.m_l_start T.F_l_start.kp T.b_l_start .nil pass0 (pa_cons (pv 0) (pa_cons (pv 1) pa_nil))))
        (pss_cons (ps_set (i := 4) sc_l_row.nd rfl (Or.inl rfl) (pe_ix ix_tup (pe_tup (pa_cons pe_str (pa_cons pe_str (pa_cons pe_str (pa_cons pe_str (pa_cons pe_str (pa_cons pe_str (pa_cons pe_str (pa_cons pe_str (pa_cons pe_str pa_nil)))))))))) (pe_call (ok_l_digit T) (hr.mono (by decide)) rfl T.m_l_digit T.F_l_digit.kp T.b_l_digit .nil pass0 (pa_cons (pv 3) (pa_cons pe_int pa_nil))) (fun _ _ => rfl)))
        (pss_cons (ps_set (i := 5) sc_l_row.nd rfl (Or.inl rfl) (pe_op op_add (pe_ix ix_list (pv 2) pe_int (fun _ _ => rfl)) pe_int))
        (C8.pss_cut (ps_if (PW.pt (pw_or (pt_cmpR op_ne (pv 4) pe_str (nomark _)) (pw_or1 (pt_cmpR op_eq (pe_call (ok_l_digit T) (hr.mono (by decide)) rfl T.m_l_digit T.F_l_digit.kp T.b_l_digit .nil pass0 (pa_cons (pv 3) (pa_cons pe_int pa_nil))) pe_int (nomark _))))) (pss_one (ps_set (i := 5) sc_l_row.nd rfl (Or.inl rfl) (pe_call (ok_l_digit T) (hr.mono (by decide)) rfl T.m_l_digit T.F_l_digit.kp T.b_l_digit .nil pass0 (pa_cons (pv 3) (pa_cons pe_int pa_nil))))) pss_nil)
        (pss_cons (ps_asg (pe_op op_add (pe_ix ix_list (pv 2) pe_int (fun _ _ => rfl)) (pe_ix ix_tup (pe_tup (pa_cons pe_int (pa_cons pe_int (pa_cons pe_int (pa_cons pe_int (pa_cons pe_int (pa_cons pe_int (pa_cons pe_int (pa_cons pe_int pa_nil))))))))) (pe_call (ok_l_digit T) (hr.mono (by decide)) rfl T.m_l_digit T.F_l_digit.kp T.b_l_digit .nil pass0 (pa_cons (pv 3) (pa_cons pe_int pa_nil))) (fun _ _ => rfl))) (pg_sub (pv 2) pe_int set_list))
        (C8.pss_cut (ps_if (pt_cmpR op_eq (pe_call (ok_l_digit T) (hr.mono (by decide)) rfl T.m_l_digit T.F_l_digit.kp T.b_l_digit .nil pass0 (pa_cons (pv 3) (pa_cons pe_int pa_nil))) pe_int (nomark _)) (pss_one (ps_asg (pe_callB (call_max2 rfl) (by rfl) T.n_max (by decide +kernel) (pa_cons pe_int (pa_cons (pe_op op_sub (pe_ix ix_list (pv 2) pe_int (fun _ _ => rfl)) (pe_call (ok_l_digit T) (hr.mono (by decide)) rfl T.m_l_digit T.F_l_digit.kp T.b_l_digit .nil pass0 (pa_cons (pv 3) (pa_cons pe_int pa_nil)))) pa_nil))) (pg_sub (pv 2) pe_int set_list))) pss_nil)
        (C8.pss_cut (ps_if (pt_cmpR op_eq (pv 4) pe_str (nomark _)) (pss_one (ps_asg (pv 5) (pg_sub (pv 2) pe_int set_list))) pss_nil)
        (pss_cons (ps_set (i := 6) sc_l_row.nd rfl (Or.inl rfl) (pe_ix ix_tup (pe_tup (pa_cons pe_int (pa_cons pe_int (pa_cons pe_int (pa_cons pe_int (pa_cons pe_int (pa_cons pe_int (pa_cons pe_int pa_nil)))))))) (pe_call (ok_l_digit T) (hr.mono (by decide)) rfl T.m_l_digit T.F_l_digit.kp T.b_l_digit .nil pass0 (pa_cons (pv 3) (pa_cons pe_int pa_nil))) (fun _ _ => rfl)))
        (pss_cons (ps_set (i := 7) sc_l_row.nd rfl (Or.inl rfl) (pe_ix ix_tup (pe_tup (pa_cons (pe_tup (pa_cons pe_int (pa_cons pe_int (pa_cons (pe_lst (pa_cons pe_int (pa_cons pe_int pa_nil))) pa_nil)))) (pa_cons (pe_tup (pa_cons pe_int (pa_cons pe_int (pa_cons (pe_lst (pa_cons pe_int (pa_cons pe_int pa_nil))) pa_nil)))) (pa_cons (pe_tup (pa_cons pe_int (pa_cons pe_int (pa_cons (pe_lst (pa_cons pe_int (pa_cons pe_int pa_nil))) pa_nil)))) (pa_cons (pe_tup (pa_cons pe_int (pa_cons pe_int (pa_cons (pe_lst (pa_cons pe_int (pa_cons pe_int pa_nil))) pa_nil)))) pa_nil))))) (pv 6) (fun _ _ => rfl)))
        (pss_one (ps_ret (pe_tup (pa_cons (pe_ix ix_list (pv 2) pe_int (fun _ _ => rfl)) (pa_cons (pv 5) (pa_cons (pv 4) (pa_cons (pv 7) (pa_cons (pe_cmpR op_eq (pe_call (ok_l_digit T) (hr.mono (by decide)) rfl T.m_l_digit T.F_l_digit.kp T.b_l_digit .nil pass0 (pa_cons (pv 3) (pa_cons pe_int pa_nil))) pe_int (nomark _)) pa_nil))))))))))))))))), ?_⟩
    dsimp only [cxOf, Cx.nox, Cx.wish, L2.start, List.map, List.cons_append, List.nil_append, List.length_cons, List.length_nil, Nat.reduceAdd, Nat.reduceSub, Nat.zero_add, List.replicate_succ, List.replicate_zero]
    walk_at "go"
    refine u_start fun p n hp => ?_
    have npm : m ≠ p := ne_of_none hm hp
    generalize z1 : upd H p _ = H1
    have s1 : Same H H1 := by rw [← z1]; exact same_upd hp
    have k1 : H1 p = some (.lst [.int n]) := (congrFun z1 p).symm.trans upd_same
    clear z1
    have m1 := s1 _ _ hm
    walk_at "go"
    refine ⟨by show 9 ≤ sizeLine; decide, fun t2 ht2 => ?_⟩
    generalize z2 : upd H1 t2 _ = H2
    have s2 : Same H1 H2 := by rw [← z2]; exact same_upd ht2
    have k2 : H2 t2 = some (.tup ((["sent", "sent", "delivered", "lost", "copied", "marked", "expired", "sent", "expired"] : List Str).map V.str)) := (congrFun z2 t2).symm.trans upd_same
    clear z2
    have nt2 : t2 ≠ p := (ne_of_none k1 ht2).symm
    walk_at "go"
    refine u_dig (s2 _ _ k1) (by omega) (by omega) fun d3 n3 H3 a3 c3 b3 k3 => ?_
    walk_at "go"
    obtain ⟨wd, ew, mw⟩ := pickN (f := V.str) (["sent", "sent", "delivered", "lost", "copied", "marked", "expired", "sent", "expired"] : List Str) a3 c3
    refine g_ixT (st (b3 _ _ nt2 k2)) ew ?_
    have wok : wd ∈ (["sent", "delivered", "lost", "copied", "marked", "expired"] : List Str) := by
      simp only [List.mem_cons, List.not_mem_nil, or_false] at mw ⊢
      rcases mw with z | z | z | z | z | z | z | z | z <;> simp [z]
    have m3 := b3 _ _ npm (s2 _ _ m1)
    have B3 : ButS (PM p m) H H3 := (ButS.of (s1.trans s2)).trans (ButS.but (.inl rfl) b3)
    clear k2 k1 m1 s1 s2 b3 ew mw
    walk_at "go"
    refine g_ixL (sl m3) (at_of (j := 1) rfl rfl) ?_
    walk_at "go"
    refine g_cut (fun σ' H' => (∃ num, σ' = [some (.int c), some (.int k), some (.ref m), some (.ref p), some (.str wd), some (.int num), none, none]) ∧ ButS (PM p m) H H' ∧ H' m = some (.lst [.int a, .int b]) ∧ ∃ n', H' p = some (.lst [.int n'])) ?_ ?_
    · walk_at "go"
      refine g_iteN (fun c1 => ?_) (fun c1 => ?_)
      · walk_at "go"
        refine u_dig k3 (by omega) (by omega) fun d4 n4 H4 a4 c4 b4 k4 => ?_
        walk_at "go"
        exact ⟨⟨_, rfl⟩, B3.trans (ButS.but (.inl rfl) b4), b4 _ _ npm m3, _, k4⟩
      · walk_at "go"
        refine u_dig k3 (by omega) (by omega) fun d4 n4 H4 a4 c4 b4 k4 => ?_
        walk_at "go"
        refine g_ite (fun c2 => ?_) (fun c2 => ?_)
        · walk_at "go"
          refine u_dig k4 (by omega) (by omega) fun d5 n5 H5 a5 c5 b5 k5 => ?_
          walk_at "go"
          exact ⟨⟨_, rfl⟩, (B3.trans (ButS.but (.inl rfl) b4)).trans (ButS.but (.inl rfl) b5), b5 _ _ npm (b4 _ _ npm m3), _, k5⟩
        · walk_at "go"
          exact ⟨⟨_, rfl⟩, B3.trans (ButS.but (.inl rfl) b4), b4 _ _ npm m3, _, k4⟩
    clear B3 m3 k3
    rintro _ H3 ⟨⟨num, rfl⟩, B3, m3, n3, k3⟩
    walk_at "go"
    refine g_ixL (sl m3) (at_of (j := 0) rfl rfl) ?_
    walk_at "go"
    refine ⟨by show 8 ≤ sizeLine; decide, fun t4 ht4 => ?_⟩
    generalize z4 : upd H3 t4 _ = H4
    have s4 : Same H3 H4 := by rw [← z4]; exact same_upd ht4
    have k4 : H4 t4 = some (.tup (([0, 0, 1, 1, 2, 3, 6, 0] : List Int).map V.int)) := (congrFun z4 t4).symm.trans upd_same
    clear z4
    have nt4 : t4 ≠ p := (ne_of_none k3 ht4).symm
    walk_at "go"
    refine u_dig (s4 _ _ k3) (by omega) (by omega) fun d5 n5 H5 a5 c5 b5 k5 => ?_
    walk_at "go"
    obtain ⟨ad, ea, _⟩ := pickN (f := V.int) ([0, 0, 1, 1, 2, 3, 6, 0] : List Int) a5 c5
    refine g_ixT (st (b5 _ _ nt4 k4)) ea ?_
    have m5 := b5 _ _ npm (s4 _ _ m3)
    walk_at "go"
    refine g_setL (j := 0) m5 rfl ?_
    generalize z6 : upd H5 m _ = H6
    have b6 : But m H5 H6 := by rw [← z6]; exact But.refl.upd
    have m6 : H6 m = some (.lst [.int (a + ad), .int b]) := (congrFun z6 m).symm.trans upd_same
    clear z6
    have k6 := b6 _ _ npm.symm k5
    have B6 : ButS (PM p m) H H6 := ((B3.trans (ButS.of s4)).trans (ButS.but (.inl rfl) b5)).trans (ButS.but (.inr rfl) b6)
    clear s4 b5 b6 k4 m3 k3 B3 ea m5 k5
    walk_at "go"
    refine g_cut (fun σ' H' => σ' = [some (.int c), some (.int k), some (.ref m), some (.ref p), some (.str wd), some (.int num), none, none] ∧ ButS (PM p m) H H' ∧ (∃ a', H' m = some (.lst [.int a', .int b])) ∧ ∃ n', H' p = some (.lst [.int n'])) ?_ ?_
    · walk_at "go"
      refine u_dig k6 (by omega) (by omega) fun d7 n7 H7 a7 c7 b7 k7 => ?_
      have m7 := b7 _ _ npm m6
      walk_at "go"
      refine g_ite (fun c1 => ?_) (fun c1 => ?_)
      · walk_at "go"
        refine g_ixL (sl m7) (at_of (j := 0) rfl rfl) ?_
        walk_at "go"
        refine u_dig k7 (by omega) (by omega) fun d8 n8 H8 a8 c8 b8 k8 => ?_
        have m8 := b8 _ _ npm m7
        walk_at "go"
        refine g_setL (j := 0) m8 rfl ?_
        walk_at "go"
        refine ⟨rfl, ((B6.trans (ButS.but (.inl rfl) b7)).trans (ButS.but (.inl rfl) b8)).trans (ButS.but (.inr rfl) But.refl.upd), ⟨_, upd_same⟩, _, by rw [upd_ne npm.symm]; exact k8⟩
      · walk_at "go"
        exact ⟨rfl, B6.trans (ButS.but (.inl rfl) b7), ⟨_, m7⟩, _, k7⟩
    clear B6 m6 k6
    rintro _ H6 ⟨rfl, B6, ⟨a', m6⟩, n6, k6⟩
    walk_at "go"
    refine g_cut (fun σ' H' => σ' = [some (.int c), some (.int k), some (.ref m), some (.ref p), some (.str wd), some (.int num), none, none] ∧ ButS (PM p m) H H' ∧ (∃ b', H' m = some (.lst [.int a', .int b'])) ∧ ∃ n', H' p = some (.lst [.int n'])) ?_ ?_
    · walk_at "go"
      refine g_ite (fun c1 => ?_) (fun c1 => ?_)
      · walk_at "go"
        refine g_setL (j := 1) m6 rfl ?_
        walk_at "go"
        exact ⟨rfl, B6.trans (ButS.but (.inr rfl) But.refl.upd), ⟨_, upd_same⟩, _, by rw [upd_ne npm.symm]; exact k6⟩
      · walk_at "go"
        exact ⟨rfl, B6, ⟨_, m6⟩, _, k6⟩
    clear B6 m6 k6
    rintro _ H6 ⟨rfl, B6, ⟨b', m6⟩, n6, k6⟩
    walk_at "go"
    refine ⟨by show 7 ≤ sizeLine; decide, fun t7 ht7 => ?_⟩
    generalize z7 : upd H6 t7 _ = H7
    have s7 : Same H6 H7 := by rw [← z7]; exact same_upd ht7
    have k7 : H7 t7 = some (.tup (([0, 0, 0, 0, 1, 2, 3] : List Int).map V.int)) := (congrFun z7 t7).symm.trans upd_same
    clear z7
    have nt7 : t7 ≠ p := (ne_of_none k6 ht7).symm
    walk_at "go"
    refine u_dig (s7 _ _ k6) (by omega) (by omega) fun d8 n8 H8 a8 c8 b8 k8 => ?_
    walk_at "go"
    obtain ⟨kd, ek, mk⟩ := pickN (f := V.int) ([0, 0, 0, 0, 1, 2, 3] : List Int) a8 c8
    refine g_ixT (st (b8 _ _ nt7 k7)) ek ?_
    have m8 := b8 _ _ npm (s7 _ _ m6)
    have B8 : ButS (PM p m) H H8 := (B6.trans (ButS.of s7)).trans (ButS.but (.inl rfl) b8)
    clear s7 b8 k7 B6 m6 k6 ek
    have kc : kd = 0 ∨ kd = 1 ∨ kd = 2 ∨ kd = 3 := by
      simp only [List.mem_cons, List.not_mem_nil, or_false] at mk
      omega
    walk_at "go"
    refine ⟨by show 2 ≤ sizeLine; decide, fun l1 hl1 => ?_⟩
    generalize y1 : upd H8 l1 _ = J1
    have r1 : Same H8 J1 := by rw [← y1]; exact same_upd hl1
    have j1 : J1 l1 = some (.lst (([1, 2] : List Int).map V.int)) := (congrFun y1 l1).symm.trans upd_same
    clear y1
    walk_at "go"
    refine ⟨by show 3 ≤ sizeLine; decide, fun q1 hq1 => ?_⟩
    generalize y1 : upd J1 q1 _ = J1'
    have r1' : Same J1 J1' := by rw [← y1]; exact same_upd hq1
    have j1' : J1' q1 = some (.tup [.int 5, .int 6, .ref l1]) := (congrFun y1 q1).symm.trans upd_same
    clear y1
    walk_at "go"
    refine ⟨by show 2 ≤ sizeLine; decide, fun l2 hl2 => ?_⟩
    generalize y1 : upd J1' l2 _ = J2
    have r2 : Same J1' J2 := by rw [← y1]; exact same_upd hl2
    have j2 : J2 l2 = some (.lst (([1, 3] : List Int).map V.int)) := (congrFun y1 l2).symm.trans upd_same
    clear y1
    walk_at "go"
    refine ⟨by show 3 ≤ sizeLine; decide, fun q2 hq2 => ?_⟩
    generalize y1 : upd J2 q2 _ = J2'
    have r2' : Same J2 J2' := by rw [← y1]; exact same_upd hq2
    have j2' : J2' q2 = some (.tup [.int 5, .int 6, .ref l2]) := (congrFun y1 q2).symm.trans upd_same
    clear y1
    walk_at "go"
    refine ⟨by show 2 ≤ sizeLine; decide, fun l3 hl3 => ?_⟩
    generalize y1 : upd J2' l3 _ = J3
    have r3 : Same J2' J3 := by rw [← y1]; exact same_upd hl3
    have j3 : J3 l3 = some (.lst (([1, 2] : List Int).map V.int)) := (congrFun y1 l3).symm.trans upd_same
    clear y1
    walk_at "go"
    refine ⟨by show 3 ≤ sizeLine; decide, fun q3 hq3 => ?_⟩
    generalize y1 : upd J3 q3 _ = J3'
    have r3' : Same J3 J3' := by rw [← y1]; exact same_upd hq3
    have j3' : J3' q3 = some (.tup [.int 5, .int 7, .ref l3]) := (congrFun y1 q3).symm.trans upd_same
    clear y1
    walk_at "go"
    refine ⟨by show 2 ≤ sizeLine; decide, fun l4 hl4 => ?_⟩
    generalize y1 : upd J3' l4 _ = J4
    have r4 : Same J3' J4 := by rw [← y1]; exact same_upd hl4
    have j4 : J4 l4 = some (.lst (([1, 2] : List Int).map V.int)) := (congrFun y1 l4).symm.trans upd_same
    clear y1
    walk_at "go"
    refine ⟨by show 3 ≤ sizeLine; decide, fun q4 hq4 => ?_⟩
    generalize y1 : upd J4 q4 _ = J4'
    have r4' : Same J4 J4' := by rw [← y1]; exact same_upd hq4
    have j4' : J4' q4 = some (.tup [.int 4, .int 6, .ref l4]) := (congrFun y1 q4).symm.trans upd_same
    clear y1
    walk_at "go"
    refine ⟨by show 4 ≤ sizeLine; decide, fun qq hqq => ?_⟩
    generalize y1 : upd J4' qq _ = J5
    have r5 : Same J4' J5 := by rw [← y1]; exact same_upd hqq
    have j5 : J5 qq = some (.tup [.ref q1, .ref q2, .ref q3, .ref q4]) := (congrFun y1 qq).symm.trans upd_same
    clear y1
    have h4 := r4'.trans r5
    have h4p := r4.trans h4
    have h3 := r3'.trans h4p
    have h3p := r3.trans h3
    have h2 := r2'.trans h3p
    have h2p := r2.trans h2
    have h1 := r1'.trans h2p
    have h0 := r1.trans h1
    obtain ⟨qp, lp, pa, pb, ds, eq5, nq, nl, kq, kl, dne⟩ : ∃ (qp lp : Addr) (pa pb : Int) (ds : List Int), atI [V.ref q1, V.ref q2, V.ref q3, V.ref q4] kd = some (.ref qp) ∧ H8 qp = none ∧ H8 lp = none ∧ J5 qp = some (.tup [.int pa, .int pb, .ref lp]) ∧ J5 lp = some (.lst (ds.map V.int)) ∧ ds ≠ [] := by
      rcases kc with rfl | rfl | rfl | rfl
      · exact ⟨q1, l1, 5, 6, [1, 2], at_of (j := 0) rfl rfl, r1.free hq1, hl1, h2p _ _ j1', h1 _ _ j1, by simp⟩
      · exact ⟨q2, l2, 5, 6, [1, 3], at_of (j := 1) rfl rfl, (r1.trans (r1'.trans r2)).free hq2, (r1.trans r1').free hl2, h3p _ _ j2', h2 _ _ j2, by simp⟩
      · exact ⟨q3, l3, 5, 7, [1, 2], at_of (j := 2) rfl rfl, (r1.trans (r1'.trans (r2.trans (r2'.trans r3)))).free hq3, (r1.trans (r1'.trans (r2.trans r2'))).free hl3, h4p _ _ j3', h3 _ _ j3, by simp⟩
      · exact ⟨q4, l4, 4, 6, [1, 2], at_of (j := 3) rfl rfl, (r1.trans (r1'.trans (r2.trans (r2'.trans (r3.trans (r3'.trans r4)))))).free hq4, (r1.trans (r1'.trans (r2.trans (r2'.trans (r3.trans r3'))))).free hl4, r5 _ _ j4', h4 _ _ j4, by simp⟩
    walk_at "go"
    refine g_ixT (st j5) eq5 ?_
    have k9 := h0 _ _ k8
    have m9 := h0 _ _ m8
    have B9 : ButS (PM p m) H J5 := B8.trans (ButS.of h0)
    walk_at "go"
    refine g_ixL (sl m9) (at_of (j := 0) rfl rfl) ?_
    walk_at "go"
    refine u_dig k9 (by omega) (by omega) fun d10 n10 H10 a10 c10 b10 k10 => ?_
    walk_at "go"
    refine ⟨by show 5 ≤ sizeLine; decide, fun t ht => ?_⟩
    have nqp : qp ≠ p := fun z => by rw [z, k8] at nq; cases nq
    have nlp : lp ≠ p := fun z => by rw [z, k8] at nl; cases nl
    have m10 := b10 _ _ npm m9
    have BX : ButS (PM p m) H H10 := B9.trans (ButS.but (.inl rfl) b10)
    have fre : ∀ {x}, H10 x = none → H x = none := fun {x} h => by
      cases e : H x with
      | none => rfl
      | some o =>
        by_cases z : PM p m x
        · rcases z with z | z
          · rw [z, k10] at h; cases h
          · rw [z, m10] at h; cases h
        · rw [BX x o z e] at h; cases h
    have fre8 : ∀ {x}, H8 x = none → H x = none := fun {x} h => by
      cases e : H x with
      | none => rfl
      | some o =>
        by_cases z : PM p m x
        · rcases z with z | z
          · rw [z, k8] at h; cases h
          · rw [z, m8] at h; cases h
        · rw [B8 x o z e] at h; cases h
    have nS : ∀ {x}, H x = none → ¬ S x := fun {x} h z => hS x z h
    have s11 := same_upd (o := .tup [V.int a', V.int num, V.str wd, V.ref qp, V.bl (decide (d10 = 1))]) ht
    refine q t ⟨a', num, wd, pa, pb, ds, decide (d10 = 1)⟩ _ a' b' (fre ht) (fun x o nx h => s11 _ _ (BX x o (fun z => z.elim (fun z => by rw [z, hp] at h; cases h) nx) h)) (s11 _ _ m10) ⟨qp, lp, nS (fre ht), nS (fre8 nq), nS (fre8 nl), upd_same, s11 _ _ (b10 _ _ nqp kq), s11 _ _ (b10 _ _ nlp kl)⟩ ⟨wok, dne⟩
end
end My
namespace My
open PySem PySem.Spec L2
local macro_rules | `(tactic| walk_at "side") => `(tactic| first | assumption | decide | omega | exact ⟨by decide, by decide⟩ | exact ⟨by decide, by decide, by decide⟩ | decide +kernel | exact cdivW (by decide +kernel) (by decide +kernel) | exact Or.inl ⟨by omega, by omega⟩ | exact Or.inr ⟨by omega, by omega⟩ | (simp only [List.length_map, List.length_cons, List.length_nil, List.length_append]; omega))
local macro_rules | `(tactic| walk_at "fact") => `(tactic| first | assumption | omega | with_reducible rfl)
local macro_rules | `(tactic| walk_at "use") => `(tactic| fail "use")
local macro_rules | `(tactic| walk_at "go1") => `(tactic| with_reducible first | refine g_seq ?_ | refine g_asg ?_ | refine g_ret ?_ | refine g_ifS ?_ | refine g_drop ?_ | refine g_star ?_ | refine g_nx ?_ | refine g_rt ?_ | refine g_bkE ?_ | refine g_ctE ?_ | refine g_next ?_ | refine g_retN ?_ | refine g_brk ?_ | refine g_ct ?_ | refine g_c ?_ | refine g_op ?_ | refine g_un ?_ | refine g_rI0 ?_ | refine g_rU ?_ | refine g_rEqI ?_ | refine g_rNeI ?_ | refine g_isN ?_ | refine g_rIsB ?_ | refine g_rNotB ?_ | refine g_test ?_ | refine g_B ?_ | refine g_bl ?_ | refine g_and ?_ | refine g_or ?_ | refine g_not ?_ | refine g_andV ?_ | refine g_orV ?_ | refine g_notV ?_ | refine g_if ?_ | refine g_chain ?_ | refine g_yes ?_ | refine g_lc ?_ | refine g_revR ?_ | refine g_rng1 ?_ | refine g_iList ?_ | refine g_nil ?_ | refine g_cons ?_ | refine g_tup ?_ | refine g_lst ?_ | refine g_call ?_ | refine g_CB ?_ | refine g_sl ?_ | refine g_noPart ?_ | refine g_part ?_ | refine g_intE ?_ | refine g_ref ?_ | refine g_fld ?_ | refine g_sfld ?_ | refine g_meth ?_ | refine g_make ?_ | refine g_prop ?_  | refine g_ipI ?_ | refine g_int1 ?_ | refine g_int1B ?_ | refine g_one ?_ | refine g_two ?_ | refine g_isiI ?_ | refine g_isiIB ?_ | refine g_isiB ?_ | refine g_BM ?_ | refine g_BM0 ?_ | refine g_sub ?_)
local macro_rules | `(tactic| walk_at "go") => `(tactic| repeat (first | walk_at "go1" | ((with_reducible refine' g_nameE ?sd_ ?_); case sd_ => dsimp only [List.set_cons_succ, List.set_cons_zero]) | ((with_reducible refine' g_var ?sd_ ?_); case sd_ => exact rfl) | ((with_reducible refine' g_aug ?sd_ ?_); case sd_ => exact rfl) | ((with_reducible refine' g_rI ?sd_ ?_); case sd_ => walk_at "side") | ((with_reducible refine' g_dT ?sd_ ?_); case sd_ => walk_at "fact") | ((with_reducible refine' g_dF ?sd_ ?_); case sd_ => walk_at "fact") | ((with_reducible refine' g_nT ?sd_ ?_); case sd_ => walk_at "fact") | ((with_reducible refine' g_nF ?sd_ ?_); case sd_ => walk_at "fact") | (with_reducible refine g_iT rfl ?_) | (with_reducible refine g_iF rfl ?_) | walk_at "use"))
local macro_rules | `(tactic| walk_at "use") => `(tactic| first | ((with_reducible refine' fd_Finding_index ?ho_ ?hv_ ?_); (case ho_ => first | assumption | exact upd_same); (case hv_ => exact rfl)) | ((with_reducible refine' fd_Finding_problem ?ho_ ?hv_ ?_); (case ho_ => first | assumption | exact upd_same); (case hv_ => exact rfl)) | ((with_reducible refine' nw_Finding_index ?ho_ ?hv_ ?_); (case ho_ => first | assumption | exact upd_same); (case hv_ => exact rfl)) | ((with_reducible refine' nw_Finding_problem ?ho_ ?hv_ ?_); (case ho_ => first | assumption | exact upd_same); (case hv_ => exact rfl)) | ((with_reducible refine' st_Finding_index ?ho_ ?hv_ ?_); (case ho_ => first | assumption | exact upd_same); (case hv_ => exact Nat.le_of_ble_eq_true rfl)) | ((with_reducible refine' st_Finding_problem ?ho_ ?hv_ ?_); (case ho_ => first | assumption | exact upd_same); (case hv_ => exact Nat.le_of_ble_eq_true rfl)) | ((with_reducible refine' me_Finding_eq__ ?ho_ ?_); (case ho_ => first | assumption | exact upd_same)))
local macro_rules | `(tactic| walk_at "use") => `(tactic| first | ((with_reducible refine' fd_PacketJudge__life ?ho_ ?hv_ ?_); (case ho_ => first | assumption | exact upd_same); (case hv_ => exact rfl)) | ((with_reducible refine' fd_PacketJudge__tick_before ?ho_ ?hv_ ?_); (case ho_ => first | assumption | exact upd_same); (case hv_ => exact rfl)) | ((with_reducible refine' fd_PacketJudge__last ?ho_ ?hv_ ?_); (case ho_ => first | assumption | exact upd_same); (case hv_ => exact rfl)) | ((with_reducible refine' fd_PacketJudge__first ?ho_ ?hv_ ?_); (case ho_ => first | assumption | exact upd_same); (case hv_ => exact rfl)) | ((with_reducible refine' fd_PacketJudge__copies ?ho_ ?hv_ ?_); (case ho_ => first | assumption | exact upd_same); (case hv_ => exact rfl)) | ((with_reducible refine' nw_PacketJudge__life ?ho_ ?hv_ ?_); (case ho_ => first | assumption | exact upd_same); (case hv_ => exact rfl)) | ((with_reducible refine' nw_PacketJudge__tick_before ?ho_ ?hv_ ?_); (case ho_ => first | assumption | exact upd_same); (case hv_ => exact rfl)) | ((with_reducible refine' nw_PacketJudge__last ?ho_ ?hv_ ?_); (case ho_ => first | assumption | exact upd_same); (case hv_ => exact rfl)) | ((with_reducible refine' nw_PacketJudge__first ?ho_ ?hv_ ?_); (case ho_ => first | assumption | exact upd_same); (case hv_ => exact rfl)) | ((with_reducible refine' nw_PacketJudge__copies ?ho_ ?hv_ ?_); (case ho_ => first | assumption | exact upd_same); (case hv_ => exact rfl)) | ((with_reducible refine' st_PacketJudge__life ?ho_ ?hv_ ?_); (case ho_ => first | assumption | exact upd_same); (case hv_ => exact Nat.le_of_ble_eq_true rfl)) | ((with_reducible refine' st_PacketJudge__tick_before ?ho_ ?hv_ ?_); (case ho_ => first | assumption | exact upd_same); (case hv_ => exact Nat.le_of_ble_eq_true rfl)) | ((with_reducible refine' st_PacketJudge__last ?ho_ ?hv_ ?_); (case ho_ => first | assumption | exact upd_same); (case hv_ => exact Nat.le_of_ble_eq_true rfl)) | ((with_reducible refine' st_PacketJudge__first ?ho_ ?hv_ ?_); (case ho_ => first | assumption | exact upd_same); (case hv_ => exact Nat.le_of_ble_eq_true rfl)) | ((with_reducible refine' st_PacketJudge__copies ?ho_ ?hv_ ?_); (case ho_ => first | assumption | exact upd_same); (case hv_ => exact Nat.le_of_ble_eq_true rfl)) | ((with_reducible refine' me_PacketJudge_problems_of ?ho_ ?_); (case ho_ => first | assumption | exact upd_same)) | ((with_reducible refine' me_PacketJudge_problems_under_way ?ho_ ?_); (case ho_ => first | assumption | exact upd_same)) | ((with_reducible refine' me_PacketJudge_learn ?ho_ ?_); (case ho_ => first | assumption | exact upd_same)))
local macro_rules | `(tactic| walk_at "use") => `(tactic| first | ((with_reducible refine' fd_Packet_sender ?ho_ ?hv_ ?_); (case ho_ => first | assumption | exact upd_same); (case hv_ => exact rfl)) | ((with_reducible refine' fd_Packet_target ?ho_ ?hv_ ?_); (case ho_ => first | assumption | exact upd_same); (case hv_ => exact rfl)) | ((with_reducible refine' fd_Packet_octets ?ho_ ?hv_ ?_); (case ho_ => first | assumption | exact upd_same); (case hv_ => exact rfl)) | ((with_reducible refine' fd_Packet_marked ?ho_ ?hv_ ?_); (case ho_ => first | assumption | exact upd_same); (case hv_ => exact rfl)) | ((with_reducible refine' nw_Packet_sender ?ho_ ?hv_ ?_); (case ho_ => first | assumption | exact upd_same); (case hv_ => exact rfl)) | ((with_reducible refine' nw_Packet_target ?ho_ ?hv_ ?_); (case ho_ => first | assumption | exact upd_same); (case hv_ => exact rfl)) | ((with_reducible refine' nw_Packet_octets ?ho_ ?hv_ ?_); (case ho_ => first | assumption | exact upd_same); (case hv_ => exact rfl)) | ((with_reducible refine' nw_Packet_marked ?ho_ ?hv_ ?_); (case ho_ => first | assumption | exact upd_same); (case hv_ => exact rfl)) | ((with_reducible refine' st_Packet_sender ?ho_ ?hv_ ?_); (case ho_ => first | assumption | exact upd_same); (case hv_ => exact Nat.le_of_ble_eq_true rfl)) | ((with_reducible refine' st_Packet_target ?ho_ ?hv_ ?_); (case ho_ => first | assumption | exact upd_same); (case hv_ => exact Nat.le_of_ble_eq_true rfl)) | ((with_reducible refine' st_Packet_octets ?ho_ ?hv_ ?_); (case ho_ => first | assumption | exact upd_same); (case hv_ => exact Nat.le_of_ble_eq_true rfl)) | ((with_reducible refine' st_Packet_marked ?ho_ ?hv_ ?_); (case ho_ => first | assumption | exact upd_same); (case hv_ => exact Nat.le_of_ble_eq_true rfl)) | ((with_reducible refine' me_Packet_fork ?ho_ ?_); (case ho_ => first | assumption | exact upd_same)))
local macro_rules | `(tactic| walk_at "use") => `(tactic| first | ((with_reducible refine' fd_Record_tick ?ho_ ?hv_ ?_); (case ho_ => first | assumption | exact upd_same); (case hv_ => exact rfl)) | ((with_reducible refine' fd_Record_number ?ho_ ?hv_ ?_); (case ho_ => first | assumption | exact upd_same); (case hv_ => exact rfl)) | ((with_reducible refine' fd_Record_word ?ho_ ?hv_ ?_); (case ho_ => first | assumption | exact upd_same); (case hv_ => exact rfl)) | ((with_reducible refine' fd_Record_packet ?ho_ ?hv_ ?_); (case ho_ => first | assumption | exact upd_same); (case hv_ => exact rfl)) | ((with_reducible refine' nw_Record_tick ?ho_ ?hv_ ?_); (case ho_ => first | assumption | exact upd_same); (case hv_ => exact rfl)) | ((with_reducible refine' nw_Record_number ?ho_ ?hv_ ?_); (case ho_ => first | assumption | exact upd_same); (case hv_ => exact rfl)) | ((with_reducible refine' nw_Record_word ?ho_ ?hv_ ?_); (case ho_ => first | assumption | exact upd_same); (case hv_ => exact rfl)) | ((with_reducible refine' nw_Record_packet ?ho_ ?hv_ ?_); (case ho_ => first | assumption | exact upd_same); (case hv_ => exact rfl)) | ((with_reducible refine' st_Record_tick ?ho_ ?hv_ ?_); (case ho_ => first | assumption | exact upd_same); (case hv_ => exact Nat.le_of_ble_eq_true rfl)) | ((with_reducible refine' st_Record_number ?ho_ ?hv_ ?_); (case ho_ => first | assumption | exact upd_same); (case hv_ => exact Nat.le_of_ble_eq_true rfl)) | ((with_reducible refine' st_Record_word ?ho_ ?hv_ ?_); (case ho_ => first | assumption | exact upd_same); (case hv_ => exact Nat.le_of_ble_eq_true rfl)) | ((with_reducible refine' st_Record_packet ?ho_ ?hv_ ?_); (case ho_ => first | assumption | exact upd_same); (case hv_ => exact Nat.le_of_ble_eq_true rfl)))
section
variable {P : Program} {w : World} {K : PySem.W.Frag} {mg : Str → Option Value} {base : Heap}
local macro_rules | `(tactic| walk_at "use") => `(tactic| with_reducible first | refine g_dgetI ?_ | refine g_dputI ?_ | refine g_dget1I ?_ | refine g_dget2I ?_ | refine g_dinI ?_ | refine g_dnotinI ?_ | refine g_dnewK ?_)

local macro_rules | `(tactic| walk_at "use") => `(tactic| with_reducible first | refine g_callN ?_ | refine g_makeK ?_ | refine g_gcons ?_ | refine g_gnil ?_ | refine g_rEqS ?_ | refine g_rNeS ?_ | refine g_isiS ?_)
local macro_rules | `(tactic| walk_at "use") => `(tactic| first | ((with_reducible refine' rw_0 ?ho_ ?_); (case ho_ => assumption)) | ((with_reducible refine' rw_1 ?ho_ ?_); (case ho_ => assumption)) | ((with_reducible refine' rw_2 ?ho_ ?_); (case ho_ => assumption)) | ((with_reducible refine' rw_4 ?ho_ ?_); (case ho_ => assumption)))
def RwL (S : Addr → Prop) (H : Hp) (R : Addr) (ts : List Addr) (rows : List Rw) : Prop := H R = some (.lst (ts.map V.ref)) ∧ ts.length = rows.length ∧ ∀ (j : Nat) (t : Addr) (r : Rw), ts[j]? = some t → rows[j]? = some r → RwO S H t r ∧ (Wd r ∧ r.ds ≠ [])
theorem RwL.same {S : Addr → Prop} {H H' : Hp} {R : Addr} {ts : List Addr} {rows : List Rw} (h : RwL S H R ts rows) (s : Same H H') : RwL S H' R ts rows := ⟨s _ _ h.1, h.2.1, fun j t r e1 e2 => ⟨(h.2.2 j t r e1 e2).1.same s, (h.2.2 j t r e1 e2).2⟩⟩
theorem RwL.get {S : Addr → Prop} {H : Hp} {R : Addr} {ts : List Addr} {rows : List Rw} (h : RwL S H R ts rows) {i : Nat} {x : V} (e : (ts.map V.ref)[i]? = some x) : ∃ t r, x = .ref t ∧ ts[i]? = some t ∧ rows[i]? = some r ∧ RwO S H t r ∧ (Wd r ∧ r.ds ≠ []) := by
  obtain ⟨t, ht, rfl⟩ : ∃ t, ts[i]? = some t ∧ x = .ref t := map_get e
  have hi : i < rows.length := by rw [← h.2.1]; exact (List.getElem?_eq_some_iff.mp ht).1
  have hr : rows[i]? = some rows[i] := List.getElem?_eq_getElem hi
  obtain ⟨o, w⟩ := h.2.2 i t _ ht hr
  exact ⟨t, _, rfl, ht, hr, o, w⟩
theorem take_snoc {rows : List Rw} {i : Nat} {r : Rw} (h : rows[i]? = some r) : rows.take (i + 1) = rows.take i ++ [r] := by
  rw [List.take_add_one, h]
  rfl
theorem first_take {rows : List Rw} {i : Nat} {n : Int} {f : Rw} (h : firstR (rows.take i) n = some f) : firstR rows n = some f := by
  have e : rows = rows.take i ++ rows.drop i := (List.take_append_drop i rows).symm
  unfold firstR at h ⊢
  rw [e, List.find?_append, h]
  rfl
def sp_l_first (K : PySem.W.Frag) : Sp := fun vs H Q _ => ∃ (S : Addr → Prop) (R : Addr) (n : Int) (ts : List Addr) (rows : List Rw), vs = [.ref R, .int n] ∧ RwL S H R ts rows ∧ (firstR rows n = none → Q .non H) ∧ ∀ (t : Addr) (r : Rw) (j : Nat), firstR rows n = some r → ts[j]? = some t → rows[j]? = some r → Q (.ref t) H
theorem ok_l_first (T : Txt K mg) : FnOk P w K mg base CX0 1 T.f_l_first T.d_l_first ["rows", "number"] (sp_l_first K) := by
  refine T.F_l_first.ok sc_l_first (fun vs H Q E h => ?_) (fun cdv A outer s H vs Q E hr h => ?_)
  · obtain ⟨S, R, n, ts, rows, rfl, hR, q1, q2⟩ := h
    rfl
  · obtain ⟨S, R, n, ts, rows, rfl, hR, q1, q2⟩ := h
    have hu := hu_of hr
    refine ⟨_, (pss_cons (ps_for PassesOwn.never rfl (pi_list (pv 0)) (pg_name (i := 2) sc_l_first.nd rfl (Or.inl rfl)) (pss_one (ps_if (PW.pt (pw_and (pt_cmpR op_eq (pe_ix ix_tup (pv 2) pe_int (fun _ _ => rfl)) pe_str (nomark _)) (pw_and1 (pt_cmpR op_eq (pe_ix ix_tup (pv 2) pe_int (fun _ _ => rfl)) (pv 1) (nomark _))))) (pss_one (ps_ret (pv 2))) pss_nil)))
        (pss_one (ps_ret pe_non))), ?_⟩
    dsimp only [cxOf, Cx.nox, Cx.wish, L2.start, List.map, List.cons_append, List.nil_append, List.length_cons, List.length_nil, Nat.reduceAdd, Nat.reduceSub, Nat.zero_add, List.replicate_succ, List.replicate_zero]
    walk_at "go"
    refine for_l (xs := ts.map V.ref) (fun i σ H' => H' = H ∧ (∃ v, σ = [some (.ref R), some (.int n), v]) ∧ firstR (rows.take i) n = none) (sl hR.1) ⟨rfl, ⟨_, rfl⟩, rfl⟩ ?_ ?turn ?done ?ev
    · rintro i σ' H' _ ⟨rfl, _⟩
      exact sl hR.1
    case ev =>
      intro X xx
      walk_at "go"
      exact xx
    case done =>
      rintro σ' H' ⟨rfl, ⟨v, rfl⟩, e⟩
      rw [List.length_map, hR.2.1, List.take_length] at e
      walk_at "go"
      exact q1 e
    case turn =>
      rintro i x σ' H' hx ⟨rfl, ⟨v, rfl⟩, e⟩
      obtain ⟨t, r, rfl, ht, hr, o, wd⟩ := hR.get hx
      have e1 := firstR_snoc (rows := rows.take i) (r := r) (n := n)
      rw [← take_snoc hr, e] at e1
      dsimp only at e1
      walk_at "go"
      refine g_ite (fun c => ?_) (fun c => ?_)
      · walk_at "go"
        refine g_ite (fun c2 => ?_) (fun c2 => ?_)
        · walk_at "go"
          rw [if_pos ⟨c, c2⟩] at e1
          exact q2 t r i (first_take e1) ht hr
        · walk_at "go"
          exact ⟨rfl, ⟨_, rfl⟩, by rw [e1, if_neg fun z => c2 z.2]⟩
      · walk_at "go"
        exact ⟨rfl, ⟨_, rfl⟩, by rw [e1, if_neg fun z => c z.1]⟩
def sp_l_copies (K : PySem.W.Frag) : Sp := fun vs H Q _ => ∃ (S : Addr → Prop) (R : Addr) (n : Int) (ts : List Addr) (rows : List Rw), vs = [.ref R, .int n] ∧ RwL S H R ts rows ∧ ∀ H', Same H H' → Q (.int (cpA rows n).1) H'
theorem ok_l_copies (T : Txt K mg) : FnOk P w K mg base CX0 1 T.f_l_copies T.d_l_copies ["rows", "number"] (sp_l_copies K) := by
  refine T.F_l_copies.ok sc_l_copies (fun vs H Q E h => ?_) (fun cdv A outer s H vs Q E hr h => ?_)
  · obtain ⟨S, R, n, ts, rows, rfl, hR, q⟩ := h
    rfl
  · obtain ⟨S, R, n, ts, rows, rfl, hR, q⟩ := h
    have hu := hu_of hr
    refine ⟨_, (pss_cons (ps_set (i := 2) sc_l_copies.nd rfl (Or.inl rfl) pe_int)
        (pss_cons (ps_set (i := 3) sc_l_copies.nd rfl (Or.inl rfl) pe_bl)
        (pss_cons (ps_for PassesOwn.never rfl (pi_list (pv 0)) (pg_name (i := 4) sc_l_copies.nd rfl (Or.inl rfl)) (pss_one (ps_if (pt_cmpR op_eq (pe_ix ix_tup (pv 4) pe_int (fun _ _ => rfl)) (pv 1) (nomark _)) (C8.pss_cut (ps_if (PW.pt (pw_or (pt_cmpR op_eq (pe_ix ix_tup (pv 4) pe_int (fun _ _ => rfl)) pe_str (nomark _)) (pw_or1 (PW.pt (pw_and (pt_cmpR op_eq (pe_ix ix_tup (pv 4) pe_int (fun _ _ => rfl)) pe_str (nomark _)) (pw_and1 (pt_not (pt_val (pv 3))))))))) (pss_one (ps_aug (i := 2) sc_l_copies.nd rfl (Or.inl rfl) pe_int ip_add)) (pss_one (ps_if (PW.pt (pw_and (pt_cmpR op_in_seq (pe_ix ix_tup (pv 4) pe_int (fun _ _ => rfl)) (pe_tup (pa_cons pe_str (pa_cons pe_str (pa_cons pe_str pa_nil)))) (by with_unfolding_all rfl)) (pw_and1 (pt_cmpR op_gt (pv 2) pe_int (nomark _))))) (pss_one (ps_aug (i := 2) sc_l_copies.nd rfl (Or.inl rfl) pe_int ip_sub)) pss_nil)))
        (pss_one (ps_set (i := 3) sc_l_copies.nd rfl (Or.inl rfl) (pe_or (pv 3) (pe_one (pe_cmpR op_eq (pe_ix ix_tup (pv 4) pe_int (fun _ _ => rfl)) pe_str (nomark _))))))) pss_nil)))
        (pss_one (ps_ret (pv 2)))))), ?_⟩
    dsimp only [cxOf, Cx.nox, Cx.wish, L2.start, List.map, List.cons_append, List.nil_append, List.length_cons, List.length_nil, Nat.reduceAdd, Nat.reduceSub, Nat.zero_add, List.replicate_succ, List.replicate_zero]
    walk_at "go"
    refine for_l (xs := ts.map V.ref) (fun i σ H' => Same H H' ∧ (∃ v, σ = [some (.ref R), some (.int n), some (.int (cpA (rows.take i) n).1), some (.bl (cpA (rows.take i) n).2), v])) (sl hR.1) ⟨Same.refl _, ⟨_, rfl⟩⟩ ?_ ?turn ?done ?ev
    · rintro i σ' H' _ ⟨s1, _⟩
      exact sl (s1 _ _ hR.1)
    case ev =>
      intro X xx
      walk_at "go"
      exact xx
    case done =>
      rintro σ' H' ⟨s1, ⟨v, rfl⟩⟩
      rw [List.length_map, hR.2.1, List.take_length]
      walk_at "go"
      exact q _ s1
    case turn =>
      rintro i x σ' H' hx ⟨s1, ⟨v, rfl⟩⟩
      obtain ⟨t, r, rfl, ht, hr, o, wd⟩ := (hR.same s1).get hx
      have e1 := cpA_snoc (rows := rows.take i) (r := r) (n := n)
      rw [← take_snoc hr] at e1
      rw [e1]
      clear e1
      generalize cpA (rows.take i) n = cs
      obtain ⟨cv, sn⟩ := cs
      unfold cps
      dsimp only
      walk_at "go"
      refine g_ite (fun c => ?_) (fun c => ?_)
      · simp only [if_pos c]
        walk_at "go"
        refine g_cut (fun σ' H2 => Same H H2 ∧ σ' = [some (.ref R), some (.int n), some (.int (if r.word = "copied" ∨ (r.word = "sent" ∧ sn = false) then cv + 1 else if r.word ∈ (["delivered", "lost", "expired"] : List Str) ∧ cv > 0 then cv - 1 else cv)), some (.bl sn), some (.ref t)]) ?_ ?_
        · have nin : ∀ (sn' : Bool), ¬ r.word = "copied" → ¬ (r.word = "sent" ∧ sn' = false) → (if r.word = "copied" ∨ (r.word = "sent" ∧ sn' = false) then cv + 1 else if r.word ∈ (["delivered", "lost", "expired"] : List Str) ∧ cv > 0 then cv - 1 else cv) = (if r.word ∈ (["delivered", "lost", "expired"] : List Str) ∧ cv > 0 then cv - 1 else cv) := fun sn' h1 h2 => if_neg fun z => z.elim h1 h2
          have rest : ∀ (sn' : Bool) (D : Ends) (H0 : Hp), Same H H0 → ¬ r.word = "copied" → ¬ (r.word = "sent" ∧ sn' = false) → (∀ H2, Same H H2 → D.nx [some (.ref R), some (.int n), some (.int (if r.word = "copied" ∨ (r.word = "sent" ∧ sn' = false) then cv + 1 else if r.word ∈ (["delivered", "lost", "expired"] : List Str) ∧ cv > 0 then cv - 1 else cv)), some (.bl sn'), some (.ref t)] H2) → True := fun _ _ _ _ _ _ _ => trivial
          clear rest
          walk_at "go"
          refine g_ite (fun c1 => ?_) (fun c1 => ?_)
          · walk_at "go"
            exact ⟨s1, by rw [if_pos (Or.inl c1)]; rfl⟩
          · walk_at "go"
            refine g_ite (fun c2 => ?_) (fun c2 => ?_)
            · have hno : ¬ r.word ∈ (["delivered", "lost", "expired"] : List Str) := fun z => by
                rw [c2] at z
                exact absurd z (by decide +kernel)
              cases sn
              · walk_at "go"
                exact ⟨s1, by rw [if_pos (Or.inr ⟨c2, rfl⟩)]; rfl⟩
              · walk_at "go"
                refine ⟨by show 3 ≤ sizeLine; decide, fun tz htz => ?_⟩
                refine g_inS (ws := ["delivered", "lost", "expired"]) (st upd_same) ?_
                rw [decide_eq_false hno]
                walk_at "go"
                exact ⟨s1.trans (same_upd htz), by rw [nin true c1 (fun z => nomatch z.2), if_neg fun z => hno z.1]⟩
            · walk_at "go"
              refine ⟨by show 3 ≤ sizeLine; decide, fun tz htz => ?_⟩
              refine g_inS (ws := ["delivered", "lost", "expired"]) (st upd_same) ?_
              walk_at "go"
              refine g_ite (fun c3 => ?_) (fun c3 => ?_)
              · walk_at "go"
                refine g_ite (fun c4 => ?_) (fun c4 => ?_)
                · walk_at "go"
                  exact ⟨s1.trans (same_upd htz), by rw [nin sn c1 (fun z => c2 z.1), if_pos ⟨c3, c4⟩]; rfl⟩
                · walk_at "go"
                  exact ⟨s1.trans (same_upd htz), by rw [nin sn c1 (fun z => c2 z.1), if_neg fun z => c4 z.2]⟩
              · walk_at "go"
                exact ⟨s1.trans (same_upd htz), by rw [nin sn c1 (fun z => c2 z.1), if_neg fun z => c3 z.1]⟩
        · rintro _ H2 ⟨s2, rfl⟩
          have o2 := (hR.same s2).2.2 i t r ht hr
          obtain ⟨o2, _⟩ := o2
          walk_at "go"
          cases sn
          · walk_at "go"
            exact ⟨s2, _, rfl⟩
          · walk_at "go"
            exact ⟨s2, _, rfl⟩
      · simp only [if_neg c]
        walk_at "go"
        exact ⟨s1, _, rfl⟩
def sl1 (rows : List Rw) : List Int := (rows.filter fun r => decide (r.word = ("sent" : Str))).map (·.num)
theorem sl1_snoc {rows : List Rw} {r : Rw} : sl1 (rows ++ [r]) = if r.word = "sent" then sl1 rows ++ [r.num] else sl1 rows := by
  unfold sl1
  rw [List.filter_append, List.map_append]
  by_cases c : r.word = "sent"
  · rw [if_pos c]
    simp [c]
  · rw [if_neg c]
    simp [c]
theorem sl1_len {rows : List Rw} : (sl1 rows).length ≤ rows.length := by
  unfold sl1
  rw [List.length_map]
  exact List.length_filter_le _ _
theorem lastS_acc : ∀ (rows : List Rw) (a : Int), (a :: sl1 rows).getLast? = some (rows.foldl (fun (l : Int) (r : Rw) => if r.word = ("sent" : Str) then r.num else l) a)
  | [], a => rfl
  | r :: rows, a => by
    rw [List.foldl_cons]
    by_cases c : r.word = "sent"
    · rw [if_pos c, ← lastS_acc rows r.num]
      have e : sl1 (r :: rows) = r.num :: sl1 rows := by unfold sl1; rw [List.filter_cons, if_pos (decide_eq_true c)]; rfl
      rw [e, List.getLast?_cons_cons]
    · rw [if_neg c, ← lastS_acc rows a]
      have e : sl1 (r :: rows) = sl1 rows := by unfold sl1; rw [List.filter_cons, if_neg (by rw [decide_eq_false c]; decide)]
      rw [e]
theorem lastS_at {rows : List Rw} : atI (([-1] ++ sl1 rows).map V.int) (-1) = some (.int (lastS rows)) := by
  refine atI_neg1 ?_
  have h := lastS_acc rows (-1)
  rw [List.getLast?_eq_getElem?] at h
  rw [List.length_map, List.getElem?_map]
  show Option.map V.int ((-1 :: sl1 rows)[(-1 :: sl1 rows).length - 1]?) = _
  rw [h]
  rfl
def sp_l_problems (K : PySem.W.Frag) : Sp := fun vs H Q _ => ∃ (S : Addr → Prop) (R t : Addr) (life : Int) (ts : List Addr) (rows : List Rw) (r : Rw), vs = [.ref R, .ref t, .int life] ∧ RwL S H R ts rows ∧ rows.length ≤ 100 ∧ RwO S H t r ∧ ∀ l H', H l = none → Same H H' → H' l = some (.lst ((prb rows r life).map V.str)) → Q (.ref l) H'
theorem ok_l_problems (T : Txt K mg) : FnOk P w K mg base CX0 2 T.f_l_problems T.d_l_problems ["rows", "row", "life"] (sp_l_problems K) := by
  refine T.F_l_problems.ok sc_l_problems (fun vs H Q E h => ?_) (fun cdv A outer s H vs Q E hr h => ?_)
  · obtain ⟨S, R, t, life, ts, rows, r, rfl, hR, hlen, o, q⟩ := h
    rfl
  · obtain ⟨S, R, t, life, ts, rows, r, rfl, hR, hlen, o, q⟩ := h
    have hu := hu_of hr
    refine ⟨_, (pss_cons (ps_set (i := 3) sc_l_problems.nd rfl (Or.inl rfl) (pe_lst pa_nil))
        (C8.pss_cut (ps_if (PW.pt (pw_and (pt_cmpR op_gt (pe_callB call_len_seq (by rfl) T.n_len (by decide +kernel) (pa_cons (pv 0) pa_nil)) pe_int (nomark _)) (pw_and1 (pt_cmpR op_lt (pe_ix ix_tup (pv 1) pe_int (fun _ _ => rfl)) (pe_ix ix_tup (pe_ix ix_list (pv 0) (pe_un un_neg pe_int) (fun _ _ => rfl)) pe_int (fun _ _ => rfl)) (nomark _))))) (pss_one (ps_expr (pe_bm PySem.F.plainAttrs_list PySem.F.slot_list_append PySem.F.type_list_append mt_append (pv 3) (pa_cons pe_str pa_nil)))) pss_nil)
        (pss_cons (ps_if (pt_cmpR op_eq (pe_ix ix_tup (pv 1) pe_int (fun _ _ => rfl)) pe_str (nomark _)) (pss_cons (ps_set (i := 4) sc_l_problems.nd rfl (Or.inl rfl) (pe_op op_cat (pe_lst (pa_cons (pe_un un_neg pe_int) pa_nil)) (pe_lc (own := [("other", 6)]) (g := gName 6) rfl sc_l_problems.nd (pi_list (pv 0)) (blkOk_by (N := ["rows", "row", "life", "due", "sent", "first", "other"]) (sc := defScope s_l_problems) (by decide +kernel)) (fun _ _ _ _ _ => (pg_name (i := 6) sc_l_problems.nd rfl (Or.inl rfl))) (fun _ _ _ _ _ => (pts_one (pt_cmpR op_eq (pe_ix (r := rIxT K) ix_tup (pv 6) pe_int (fun _ _ => rfl)) pe_str (nomark _)))) (fun _ _ _ _ _ => (pe_ix (r := rIxT K) ix_tup (pv 6) pe_int (fun _ _ => rfl))))))
        (pss_cons (ps_if (pt_cmpR op_ne (pe_ix ix_tup (pv 1) pe_int (fun _ _ => rfl)) (pe_op op_add (pe_ix ix_list (pv 4) (pe_un un_neg pe_int) (fun _ _ => rfl)) pe_int) (nomark _)) (pss_one (ps_expr (pe_bm PySem.F.plainAttrs_list PySem.F.slot_list_append PySem.F.type_list_append mt_append (pv 3) (pa_cons pe_str pa_nil)))) pss_nil)
        (pss_one (ps_ret (pv 3))))) pss_nil)
        (pss_cons (ps_set (i := 5) sc_l_problems.nd rfl (Or.inl rfl) (pe_call (ok_l_first T) (hr.mono (by decide)) rfl T.m_l_first T.F_l_first.kp T.b_l_first .nil pass0 (pa_cons (pv 0) (pa_cons (pe_ix ix_tup (pv 1) pe_int (fun _ _ => rfl)) pa_nil))))
        (C8.pss_cut (ps_if (PW.pt (pw_or (pt_cmpR op_isN (pv 5) pe_non (nomark _)) (pw_or1 (pt_cmpR op_eq (pe_call (ok_l_copies T) (hr.mono (by decide)) rfl T.m_l_copies T.F_l_copies.kp T.b_l_copies .nil pass0 (pa_cons (pv 0) (pa_cons (pe_ix ix_tup (pv 1) pe_int (fun _ _ => rfl)) pa_nil))) pe_int (nomark _))))) (pss_one (ps_expr (pe_bm PySem.F.plainAttrs_list PySem.F.slot_list_append PySem.F.type_list_append mt_append (pv 3) (pa_cons pe_str pa_nil)))) pss_nil)
        (pss_cons (ps_if (pt_cmpR op_isN (pv 5) pe_non (nomark _)) (pss_one (ps_ret (pv 3))) pss_nil)
        (C8.pss_cut (ps_if (PW.pt (pw_or (pt_cmpR (op_neD hr.units) (pe_ix ix_tup (pv 5) pe_int (fun _ _ => rfl)) (pe_ix ix_tup (pv 1) pe_int (fun _ _ => rfl)) (nomark _)) (pw_or1 (PW.pt (pw_and (pt_val (pe_ix ix_tup (pv 5) pe_int (fun _ _ => rfl))) (pw_and1 (pt_not (pt_val (pe_ix ix_tup (pv 1) pe_int (fun _ _ => rfl)))))))))) (pss_one (ps_expr (pe_bm PySem.F.plainAttrs_list PySem.F.slot_list_append PySem.F.type_list_append mt_append (pv 3) (pa_cons pe_str pa_nil)))) pss_nil)
        (C8.pss_cut (ps_if (PW.pt (pw_and (pt_cmpR op_eq (pe_ix ix_tup (pv 1) pe_int (fun _ _ => rfl)) pe_str (nomark _)) (pw_and1 (pt_cmpR op_le (pe_ix ix_tup (pv 1) pe_int (fun _ _ => rfl)) (pe_op op_add (pe_ix ix_tup (pv 5) pe_int (fun _ _ => rfl)) (pv 2)) (nomark _))))) (pss_one (ps_expr (pe_bm PySem.F.plainAttrs_list PySem.F.slot_list_append PySem.F.type_list_append mt_append (pv 3) (pa_cons pe_str pa_nil)))) pss_nil)
        (C8.pss_cut (ps_if (PW.pt (pw_and (pt_cmpR op_ne (pe_ix ix_tup (pv 1) pe_int (fun _ _ => rfl)) pe_str (nomark _)) (pw_and1 (pt_cmpR op_gt (pe_ix ix_tup (pv 1) pe_int (fun _ _ => rfl)) (pe_op op_add (pe_ix ix_tup (pv 5) pe_int (fun _ _ => rfl)) (pv 2)) (nomark _))))) (pss_one (ps_expr (pe_bm PySem.F.plainAttrs_list PySem.F.slot_list_append PySem.F.type_list_append mt_append (pv 3) (pa_cons pe_str pa_nil)))) pss_nil)
        (pss_one (ps_ret (pv 3)))))))))))), ?_⟩
    dsimp only [cxOf, Cx.nox, Cx.wish, L2.start, List.map, List.cons_append, List.nil_append, List.length_cons, List.length_nil, Nat.reduceAdd, Nat.reduceSub, Nat.zero_add, List.replicate_succ, List.replicate_zero]
    unfold prb at q
    walk_at "go"
    refine ⟨by show 0 ≤ sizeLine; decide, fun l hl => ?_⟩
    generalize z1 : upd H l _ = H1
    have s1 : Same H H1 := by rw [← z1]; exact same_upd hl
    have k1 : H1 l = some (.lst (([] : List Str).map V.str)) := (congrFun z1 l).symm.trans upd_same
    clear z1
    have R1 := hR.same s1
    have o1 := o.same s1
    walk_at "go"
    refine g_cut (fun σ' H' => σ' = [some (.ref R), some (.ref t), some (.int life), some (.ref l), none, none, none] ∧ Same H H' ∧ ∃ xs : List Str, H' l = some (.lst (xs.map V.str)) ∧ xs.length ≤ 1 ∧ xs = (if tb rows r then [pTB] else [])) ?_ ?_
    · walk_at "go"
      refine g_len (.inl (sl R1.1)) ?_
      walk_at "go"
      rw [List.length_map, R1.2.1]
      refine g_ite (fun c => ?_) (fun c => ?_)
      · walk_at "go"
        have hgl : rows.getLast? = some (rows[rows.length - 1]'(by omega)) := by
          rw [List.getLast?_eq_getElem?, List.getElem?_eq_getElem (by omega)]
        have htl : ts[ts.length - 1]? = some (ts[ts.length - 1]'(by rw [R1.2.1]; omega)) := List.getElem?_eq_getElem (by rw [R1.2.1]; omega)
        have hrl : rows[ts.length - 1]? = some (rows[rows.length - 1]'(by omega)) := by rw [R1.2.1, List.getElem?_eq_getElem (by omega)]
        obtain ⟨ol, _⟩ := R1.2.2 _ _ _ htl hrl
        refine g_ixL (sl R1.1) (atI_neg1 (v := .ref (ts[ts.length - 1]'(by rw [R1.2.1]; omega))) (by rw [List.length_map, List.getElem?_map, htl]; rfl)) ?_
        walk_at "go"
        refine g_ite (fun c2 => ?_) (fun c2 => ?_)
        · walk_at "go"
          refine ⟨ty_l k1, ?_⟩
          walk_at "go"
          refine appS (n := 0) k1 (Nat.le_refl _) (by decide) ?_
          walk_at "go"
          exact ⟨rfl, (But.of s1).upd.same hl, _, upd_same, by show 1 ≤ 1; decide, by rw [if_pos ((tb_some hgl).mpr c2)]; rfl⟩
        · walk_at "go"
          exact ⟨rfl, s1, [], k1, by decide, by rw [if_neg fun z => c2 ((tb_some hgl).mp z)]⟩
      · walk_at "go"
        have hgl : rows.getLast? = none := by
          rw [List.getLast?_eq_none_iff]
          exact List.eq_nil_of_length_eq_zero (by omega)
        exact ⟨rfl, s1, [], k1, by decide, by rw [if_neg (tb_none hgl)]⟩
    clear R1 o1 k1 s1
    rintro _ H1 ⟨rfl, s1, xs, k1, l1, e1⟩
    rw [← e1] at q
    have R1 := hR.same s1
    have o1 := o.same s1
    walk_at "go"
    refine g_ite (fun c => ?_) (fun c => ?_)
    · simp only [if_pos c] at q
      walk_at "go"
      refine ⟨by show 1 ≤ sizeLine; decide, fun p1 hp1 => ?_⟩
      generalize z2 : upd H1 p1 _ = H2
      have s2 : Same H1 H2 := by rw [← z2]; exact same_upd hp1
      have k2 : H2 p1 = some (.lst [.int (-1)]) := (congrFun z2 p1).symm.trans upd_same
      clear z2
      have R2 := R1.same s2
      walk_at "go"
      refine ⟨⟨_, sl R2.1⟩, fun D hD => ?_⟩
      refine lc_it walk_list (fun i H' => Same H2 H' ∧ H' D = some (.lst ((sl1 (rows.take i)).map V.int))) ⟨same_upd hD, upd_same⟩ (fun i H' _ h => sl (h.1 _ _ R2.1)) ?_ ?_
      · rintro i x H3 H4 hi ⟨s3, e3⟩ ⟨rfl, hx⟩
        obtain ⟨t', r', rfl, ht', hr', o', wd'⟩ := (R2.same s3).get hx
        have sn := sl1_snoc (rows := rows.take i) (r := r')
        rw [← take_snoc hr'] at sn
        refine ⟨rfl, ?_⟩
        walk_at "go"
        refine g_ite (fun c' => ?_) (fun c' => ?_)
        · walk_at "go"
          refine ⟨_, e3, ?_, (But.of s3).upd.same hD, ?_⟩
          · rw [List.length_map]
            have := sl1_len (rows := rows.take i)
            rw [List.length_take] at this
            exact szl (by omega)
          · rw [upd_same, sn, if_pos c', List.map_append]
            rfl
        · rw [sn, if_neg c']
          exact ⟨s3, e3⟩
      · rintro H3 ⟨s3, e3⟩
        rw [List.length_map, R2.2.1, List.take_length] at e3
        have k3 := s3 _ _ k2
        walk_at "go"
        refine g_cat k3 e3 ?_ fun p4 hp4 => ?_
        · rw [List.length_map]
          have := sl1_len (rows := rows)
          exact sz (by show 1 + _ ≤ 100000; omega)
        generalize z4 : upd H3 p4 _ = H4
        have s4 : Same H3 H4 := by rw [← z4]; exact same_upd hp4
        have k4 : H4 p4 = some (.lst (([-1] ++ sl1 rows).map V.int)) := (congrFun z4 p4).symm.trans upd_same
        clear z4
        have s14 := (s2.trans s3).trans s4
        have o4 := o1.same s14
        have kl4 := s14 _ _ k1
        walk_at "go"
        refine g_ixL (sl k4) lastS_at ?_
        walk_at "go"
        refine g_iteN (fun c2 => ?_) (fun c2 => ?_)
        · walk_at "go"
          refine ⟨ty_l kl4, ?_⟩
          walk_at "go"
          refine appS (n := 1) kl4 l1 (by decide) ?_
          walk_at "go"
          exact q l _ hl ((But.of (s1.trans s14)).upd.same hl) (by rw [upd_same, if_pos c2]; rfl)
        · walk_at "go"
          exact q l _ hl (s1.trans s14) (by rw [if_neg (fun z => z c2), List.append_nil]; exact kl4)
    · simp only [if_neg c] at q
      walk_at "go"
      unfold und at q
      refine ⟨S, R, r.num, ts, rows, rfl, R1, fun e => ?_, fun t' f jf e et er => ?_⟩
      · rw [e] at q
        dsimp only at q
        walk_at "go"
        refine g_cut (fun σ' H' => σ' = [some (.ref R), some (.ref t), some (.int life), some (.ref l), none, some .non, none] ∧ Same H H' ∧ H' l = some (.lst ((xs ++ [pNU]).map V.str))) ?_ ?_
        · walk_at "go"
          refine ⟨ty_l k1, ?_⟩
          walk_at "go"
          refine appS (n := 1) k1 l1 (by decide) ?_
          walk_at "go"
          exact ⟨rfl, (But.of s1).upd.same hl, upd_same⟩
        · rintro _ H2 ⟨rfl, s2, k2⟩
          walk_at "go"
          exact q l H2 hl s2 k2
      · rw [e] at q
        dsimp only at q
        walk_at "go"
        obtain ⟨of, _⟩ := hR.2.2 jf t' f et er
        refine g_cut (fun σ' H' => σ' = [some (.ref R), some (.ref t), some (.int life), some (.ref l), none, some (.ref t'), none] ∧ Same H H' ∧ ∃ ys : List Str, H' l = some (.lst (ys.map V.str)) ∧ ys.length ≤ 2 ∧ ys = xs ++ (if (cpA rows r.num).1 = 0 then [pNU] else [])) ?_ ?_
        · walk_at "go"
          refine ⟨S, R, r.num, ts, rows, rfl, R1, fun H2 s2 => ?_⟩
          have k2 := s2 _ _ k1
          walk_at "go"
          refine g_ite (fun c2 => ?_) (fun c2 => ?_)
          · walk_at "go"
            refine ⟨ty_l k2, ?_⟩
            walk_at "go"
            refine appS (n := 1) k2 l1 (by decide) ?_
            walk_at "go"
            refine ⟨rfl, (But.of (s1.trans s2)).upd.same hl, _, upd_same, ?_, by rw [if_pos c2]; rfl⟩
            rw [List.length_append]
            show xs.length + 1 ≤ 2
            omega
          · walk_at "go"
            exact ⟨rfl, s1.trans s2, xs, k2, by omega, by rw [if_neg c2, List.append_nil]⟩
        rw [← List.append_assoc, ← List.append_assoc, ← List.append_assoc] at q
        clear R1 o1 k1 s1 e1
        rintro _ H1 ⟨rfl, s1, ys, k1, l2, e1⟩
        rw [← e1] at q
        have o1 := o.same s1
        have of1 := of.same s1
        walk_at "go"
        refine g_cut (fun σ' H' => σ' = [some (.ref R), some (.ref t), some (.int life), some (.ref l), none, some (.ref t'), none] ∧ Same H H' ∧ ∃ zs : List Str, H' l = some (.lst (zs.map V.str)) ∧ zs.length ≤ 3 ∧ zs = ys ++ (if pOt f r = true then [pOP] else [])) ?_ ?_
        · obtain ⟨tp, tl, _, _, _, h1, h2, h3⟩ := id o1
          obtain ⟨tp', tl', _, _, _, h1', h2', h3'⟩ := id of1
          have yes : ∀ D : Ends, pOt f r = true → (∀ H', Same H H' → H' l = some (.lst ((ys ++ [pOP]).map V.str)) → D.nx [some (.ref R), some (.ref t), some (.int life), some (.ref l), none, some (.ref t'), none] H') → rAppend (.ref l) [.str "the packet is not the one that was sent"] H1 fun _ H' => D.nx [some (.ref R), some (.ref t), some (.int life), some (.ref l), none, some (.ref t'), none] H' := fun D _ h => appS (n := 2) k1 l2 (by decide) (h _ ((But.of s1).upd.same hl) upd_same)
          have fin : ∀ H', pOt f r = true → Same H H' → H' l = some (.lst ((ys ++ [pOP]).map V.str)) → ∃ zs : List Str, H' l = some (.lst (zs.map V.str)) ∧ zs.length ≤ 3 ∧ zs = ys ++ (if pOt f r = true then [pOP] else []) := fun H' hp _ h => ⟨_, h, by rw [List.length_append]; show ys.length + 1 ≤ 3; omega, by rw [if_pos hp]⟩
          walk_at "go"
          refine g_ixT (st h1') (at_of (j := 3) rfl rfl) ?_
          walk_at "go"
          refine g_ixT (st h1) (at_of (j := 3) rfl rfl) ?_
          refine ⟨pkD f, pkD r, .tup (st h2') (.cons (.int _) (.cons (.int _) (.cons (dp_ints (sl h3')) .nil))), .tup (st h2) (.cons (.int _) (.cons (.int _) (.cons (dp_ints (sl h3)) .nil))), sh_pk, sh_pk, ?_⟩
          rw [eqv_pk, Bool.not_not]
          cases cp : pkne f r with
          | true =>
            have hp : pOt f r = true := by unfold pOt; rw [cp]; rfl
            walk_at "go"
            refine ⟨ty_l k1, ?_⟩
            walk_at "go"
            refine appS (n := 2) k1 l2 (by decide) ?_
            walk_at "go"
            exact ⟨rfl, (But.of s1).upd.same hl, fin _ hp ((But.of s1).upd.same hl) upd_same⟩
          | false =>
            walk_at "go"
            cases cf : f.mkd with
            | false =>
              have hp : ¬ pOt f r = true := by unfold pOt; rw [cp, cf]; simp
              walk_at "go"
              exact ⟨rfl, s1, ys, k1, by omega, by rw [if_neg hp, List.append_nil]⟩
            | true =>
              walk_at "go"
              cases cr : r.mkd with
              | true =>
                have hp : ¬ pOt f r = true := by unfold pOt; rw [cp, cf, cr]; decide
                walk_at "go"
                exact ⟨rfl, s1, ys, k1, by omega, by rw [if_neg hp, List.append_nil]⟩
              | false =>
                have hp : pOt f r = true := by unfold pOt; rw [cp, cf, cr]; rfl
                walk_at "go"
                refine ⟨ty_l k1, ?_⟩
                walk_at "go"
                refine appS (n := 2) k1 l2 (by decide) ?_
                walk_at "go"
                exact ⟨rfl, (But.of s1).upd.same hl, fin _ hp ((But.of s1).upd.same hl) upd_same⟩
        clear o1 of1 k1 s1 e1
        rintro _ H1 ⟨rfl, s1, zs, k1, l3, e1⟩
        rw [← e1] at q
        have o1 := o.same s1
        have of1 := of.same s1
        walk_at "go"
        refine g_cut (fun σ' H' => σ' = [some (.ref R), some (.ref t), some (.int life), some (.ref l), none, some (.ref t'), none] ∧ Same H H' ∧ ∃ ws : List Str, H' l = some (.lst (ws.map V.str)) ∧ ws.length ≤ 4 ∧ ws = zs ++ (if r.word = "expired" ∧ r.tick ≤ f.tick + life then [pTY] else [])) ?_ ?_
        · walk_at "go"
          refine g_ite (fun c2 => ?_) (fun c2 => ?_)
          · walk_at "go"
            refine g_ite (fun c3 => ?_) (fun c3 => ?_)
            · walk_at "go"
              refine ⟨ty_l k1, ?_⟩
              walk_at "go"
              refine appS (n := 3) k1 l3 (by decide) ?_
              walk_at "go"
              refine ⟨rfl, (But.of s1).upd.same hl, _, upd_same, ?_, by rw [if_pos ⟨c2, c3⟩]; rfl⟩
              rw [List.length_append]
              show zs.length + 1 ≤ 4
              omega
            · walk_at "go"
              exact ⟨rfl, s1, zs, k1, by omega, by rw [if_neg fun z => c3 z.2, List.append_nil]⟩
          · walk_at "go"
            exact ⟨rfl, s1, zs, k1, by omega, by rw [if_neg fun z => c2 z.1, List.append_nil]⟩
        clear o1 of1 k1 s1 e1
        rintro _ H1 ⟨rfl, s1, ws, k1, l4, e1⟩
        rw [← e1] at q
        have o1 := o.same s1
        have of1 := of.same s1
        walk_at "go"
        refine g_cut (fun σ' H' => σ' = [some (.ref R), some (.ref t), some (.int life), some (.ref l), none, some (.ref t'), none] ∧ Same H H' ∧ ∃ vs : List Str, H' l = some (.lst (vs.map V.str)) ∧ vs = ws ++ (if ¬ r.word = "expired" ∧ f.tick + life < r.tick then [pTO] else [])) ?_ ?_
        · walk_at "go"
          refine g_iteN (fun c2 => ?_) (fun c2 => ?_)
          · walk_at "go"
            refine g_ite (fun c3 => ?_) (fun c3 => ?_)
            · walk_at "go"
              refine ⟨ty_l k1, ?_⟩
              walk_at "go"
              refine appS (n := 4) k1 l4 (by decide) ?_
              walk_at "go"
              exact ⟨rfl, (But.of s1).upd.same hl, _, upd_same, by rw [if_pos ⟨c2, c3⟩]; rfl⟩
            · walk_at "go"
              exact ⟨rfl, s1, ws, k1, by rw [if_neg fun z => c3 z.2, List.append_nil]⟩
          · walk_at "go"
            exact ⟨rfl, s1, ws, k1, by rw [if_neg fun z => z.1 c2, List.append_nil]⟩
        rintro _ H2 ⟨rfl, s2, vs, k2, e2⟩
        rw [← e2] at q
        walk_at "go"
        exact q l H2 hl s2 k2
def sp_l_record (C C2 : Addr) : Sp := fun vs H Q _ => ∃ (S : Addr → Prop) (t : Addr) (r : Rw), vs = [.ref t] ∧ RwO S H t r ∧ ∀ p H', H p = none → Same H H' → RcO C C2 (fun _ => False) H' p r → Q (.ref p) H'
theorem ok_l_record (T : Txt K mg) : FnOk P w K mg base CX0 6 T.f_l_record T.d_l_record ["row"] (sp_l_record T.C_Record T.C_Packet) := by
  refine T.F_l_record.ok sc_l_record (fun vs H Q E h => ?_) (fun cdv A outer s H vs Q E hr h => ?_)
  · obtain ⟨S, t, r, rfl, o, q⟩ := h
    rfl
  · obtain ⟨S, t, r, rfl, o, q⟩ := h
    have hu := hu_of hr
    obtain ⟨gk_0, kb_0⟩ := kbt_0 T
    refine ⟨_, (pss_one (ps_ret (pe_make T.mk_Record (ok_Record_init__ T) (hr.mono (by decide)) rfl T.c_Record T.b_Record_init__ .nil pass0 (pa_cons (pe_ix ix_tup (pv 0) pe_int (fun _ _ => rfl)) (pa_cons (pe_ix ix_tup (pv 0) pe_int (fun _ _ => rfl)) (pa_cons (pe_ix ix_tup (pv 0) pe_int (fun _ _ => rfl)) (pa_cons (pe_makeK T.mk_Packet (ok_Packet_init__ T) (hr.mono (by decide)) rfl T.c_Packet kb_0 pass0 (pa_cons (pe_ix ix_tup (pe_ix ix_tup (pv 0) pe_int (fun _ _ => rfl)) pe_int (fun _ _ => rfl)) (pa_cons (pe_ix ix_tup (pe_ix ix_tup (pv 0) pe_int (fun _ _ => rfl)) pe_int (fun _ _ => rfl)) (pa_cons (pe_callTy call_list_of (by rfl) T.n_list (by decide +kernel) (pa_cons (pe_ix ix_tup (pe_ix ix_tup (pv 0) pe_int (fun _ _ => rfl)) pe_int (fun _ _ => rfl)) pa_nil)) pa_nil))) (pk_cons (pe_ix ix_tup (pv 0) pe_int (fun _ _ => rfl)) pk_nil)) pa_nil))))))), ?_⟩
    dsimp only [cxOf, Cx.nox, Cx.wish, L2.start, List.map, List.cons_append, List.nil_append, List.length_cons, List.length_nil, Nat.reduceAdd, Nat.reduceSub, Nat.zero_add, List.replicate_succ, List.replicate_zero]
    obtain ⟨tp, tl, _, _, _, h1, h2, h3⟩ := id o
    walk_at "go"
    refine g_ixT (st h1) (at_of (j := 3) rfl rfl) ?_
    walk_at "go"
    refine g_ixT (st h2) (at_of (j := 0) rfl rfl) ?_
    walk_at "go"
    refine g_ixT (st h1) (at_of (j := 3) rfl rfl) ?_
    walk_at "go"
    refine g_ixT (st h2) (at_of (j := 1) rfl rfl) ?_
    walk_at "go"
    refine g_ixT (st h1) (at_of (j := 3) rfl rfl) ?_
    walk_at "go"
    refine g_ixT (st h2) (at_of (j := 2) rfl rfl) ?_
    walk_at "go"
    refine ⟨tl, _, rfl, .inl (sl h3), fun l1 hl1 => ?_⟩
    generalize z1 : upd H l1 _ = H1
    have s1 : Same H H1 := by rw [← z1]; exact same_upd hl1
    have k1 : H1 l1 = some (.lst (r.ds.map V.int)) := (congrFun z1 l1).symm.trans upd_same
    clear z1
    have o1 := o.same s1
    walk_at "go"
    refine ⟨rfl, rfl, fun x dx nx ndx nxd => ?_⟩
    have b1 : But x H1 (upd (upd H1 dx (.own x)) x (.ins T.C_Packet dx [])) := ((But.of (same_upd (o := .own x) ndx))).upd
    refine ⟨x, dx, l1, r, rfl, upd_same, (b1.same nx) _ _ k1, fun H2 b2 ok => ⟨rfl, ?_⟩⟩
    have s2 : Same H1 H2 := (b1.trans b2).same nx
    walk_at "go"
    intro y dy ny ndy nyd
    have b3 : But y H2 (upd (upd H2 dy (.own y)) y (.ins T.C_Record dy [])) := ((But.of (same_upd (o := .own y) ndy))).upd
    have nxy : x ≠ y := by
      obtain ⟨_, _, _, _, ho, _⟩ := ok
      exact ne_of_none ho ny
    refine ⟨y, dy, x, r, rfl, upd_same, ok.but (ButS.of (b3.same ny)), nxy, fun H3 b4 rc => ⟨rfl, ?_⟩⟩
    exact q y H3 ((s1.trans s2).free ny) ((s1.trans s2).trans ((b3.trans b4).same ny)) rc
end
end My
namespace My
open PySem PySem.Spec L2
local macro_rules | `(tactic| walk_at "side") => `(tactic| first | assumption | decide | omega | exact ⟨by decide, by decide⟩ | exact ⟨by decide, by decide, by decide⟩ | decide +kernel | exact cdivW (by decide +kernel) (by decide +kernel) | exact Or.inl ⟨by omega, by omega⟩ | exact Or.inr ⟨by omega, by omega⟩ | (simp only [List.length_map, List.length_cons, List.length_nil, List.length_append]; omega))
local macro_rules | `(tactic| walk_at "fact") => `(tactic| first | assumption | omega | with_reducible rfl)
local macro_rules | `(tactic| walk_at "use") => `(tactic| fail "use")
local macro_rules | `(tactic| walk_at "go1") => `(tactic| with_reducible first | refine g_seq ?_ | refine g_asg ?_ | refine g_ret ?_ | refine g_ifS ?_ | refine g_drop ?_ | refine g_star ?_ | refine g_nx ?_ | refine g_rt ?_ | refine g_bkE ?_ | refine g_ctE ?_ | refine g_next ?_ | refine g_retN ?_ | refine g_brk ?_ | refine g_ct ?_ | refine g_c ?_ | refine g_op ?_ | refine g_un ?_ | refine g_rI0 ?_ | refine g_rU ?_ | refine g_rEqI ?_ | refine g_rNeI ?_ | refine g_isN ?_ | refine g_rIsB ?_ | refine g_rNotB ?_ | refine g_test ?_ | refine g_B ?_ | refine g_bl ?_ | refine g_and ?_ | refine g_or ?_ | refine g_not ?_ | refine g_andV ?_ | refine g_orV ?_ | refine g_notV ?_ | refine g_if ?_ | refine g_chain ?_ | refine g_yes ?_ | refine g_lc ?_ | refine g_revR ?_ | refine g_rng1 ?_ | refine g_iList ?_ | refine g_nil ?_ | refine g_cons ?_ | refine g_tup ?_ | refine g_lst ?_ | refine g_call ?_ | refine g_CB ?_ | refine g_sl ?_ | refine g_noPart ?_ | refine g_part ?_ | refine g_intE ?_ | refine g_ref ?_ | refine g_fld ?_ | refine g_sfld ?_ | refine g_meth ?_ | refine g_make ?_ | refine g_prop ?_  | refine g_ipI ?_ | refine g_int1 ?_ | refine g_int1B ?_ | refine g_one ?_ | refine g_two ?_ | refine g_isiI ?_ | refine g_isiIB ?_ | refine g_isiB ?_ | refine g_BM ?_ | refine g_BM0 ?_ | refine g_sub ?_)
local macro_rules | `(tactic| walk_at "go") => `(tactic| repeat (first | walk_at "go1" | ((with_reducible refine' g_nameE ?sd_ ?_); case sd_ => dsimp only [List.set_cons_succ, List.set_cons_zero]) | ((with_reducible refine' g_var ?sd_ ?_); case sd_ => exact rfl) | ((with_reducible refine' g_aug ?sd_ ?_); case sd_ => exact rfl) | ((with_reducible refine' g_rI ?sd_ ?_); case sd_ => walk_at "side") | ((with_reducible refine' g_dT ?sd_ ?_); case sd_ => walk_at "fact") | ((with_reducible refine' g_dF ?sd_ ?_); case sd_ => walk_at "fact") | ((with_reducible refine' g_nT ?sd_ ?_); case sd_ => walk_at "fact") | ((with_reducible refine' g_nF ?sd_ ?_); case sd_ => walk_at "fact") | (with_reducible refine g_iT rfl ?_) | (with_reducible refine g_iF rfl ?_) | walk_at "use"))
local macro_rules | `(tactic| walk_at "use") => `(tactic| first | ((with_reducible refine' fd_Finding_index ?ho_ ?hv_ ?_); (case ho_ => first | assumption | exact upd_same); (case hv_ => exact rfl)) | ((with_reducible refine' fd_Finding_problem ?ho_ ?hv_ ?_); (case ho_ => first | assumption | exact upd_same); (case hv_ => exact rfl)) | ((with_reducible refine' nw_Finding_index ?ho_ ?hv_ ?_); (case ho_ => first | assumption | exact upd_same); (case hv_ => exact rfl)) | ((with_reducible refine' nw_Finding_problem ?ho_ ?hv_ ?_); (case ho_ => first | assumption | exact upd_same); (case hv_ => exact rfl)) | ((with_reducible refine' st_Finding_index ?ho_ ?hv_ ?_); (case ho_ => first | assumption | exact upd_same); (case hv_ => exact Nat.le_of_ble_eq_true rfl)) | ((with_reducible refine' st_Finding_problem ?ho_ ?hv_ ?_); (case ho_ => first | assumption | exact upd_same); (case hv_ => exact Nat.le_of_ble_eq_true rfl)) | ((with_reducible refine' me_Finding_eq__ ?ho_ ?_); (case ho_ => first | assumption | exact upd_same)))
local macro_rules | `(tactic| walk_at "use") => `(tactic| first | ((with_reducible refine' fd_PacketJudge__life ?ho_ ?hv_ ?_); (case ho_ => first | assumption | exact upd_same); (case hv_ => exact rfl)) | ((with_reducible refine' fd_PacketJudge__tick_before ?ho_ ?hv_ ?_); (case ho_ => first | assumption | exact upd_same); (case hv_ => exact rfl)) | ((with_reducible refine' fd_PacketJudge__last ?ho_ ?hv_ ?_); (case ho_ => first | assumption | exact upd_same); (case hv_ => exact rfl)) | ((with_reducible refine' fd_PacketJudge__first ?ho_ ?hv_ ?_); (case ho_ => first | assumption | exact upd_same); (case hv_ => exact rfl)) | ((with_reducible refine' fd_PacketJudge__copies ?ho_ ?hv_ ?_); (case ho_ => first | assumption | exact upd_same); (case hv_ => exact rfl)) | ((with_reducible refine' nw_PacketJudge__life ?ho_ ?hv_ ?_); (case ho_ => first | assumption | exact upd_same); (case hv_ => exact rfl)) | ((with_reducible refine' nw_PacketJudge__tick_before ?ho_ ?hv_ ?_); (case ho_ => first | assumption | exact upd_same); (case hv_ => exact rfl)) | ((with_reducible refine' nw_PacketJudge__last ?ho_ ?hv_ ?_); (case ho_ => first | assumption | exact upd_same); (case hv_ => exact rfl)) | ((with_reducible refine' nw_PacketJudge__first ?ho_ ?hv_ ?_); (case ho_ => first | assumption | exact upd_same); (case hv_ => exact rfl)) | ((with_reducible refine' nw_PacketJudge__copies ?ho_ ?hv_ ?_); (case ho_ => first | assumption | exact upd_same); (case hv_ => exact rfl)) | ((with_reducible refine' st_PacketJudge__life ?ho_ ?hv_ ?_); (case ho_ => first | assumption | exact upd_same); (case hv_ => exact Nat.le_of_ble_eq_true rfl)) | ((with_reducible refine' st_PacketJudge__tick_before ?ho_ ?hv_ ?_); (case ho_ => first | assumption | exact upd_same); (case hv_ => exact Nat.le_of_ble_eq_true rfl)) | ((with_reducible refine' st_PacketJudge__last ?ho_ ?hv_ ?_); (case ho_ => first | assumption | exact upd_same); (case hv_ => exact Nat.le_of_ble_eq_true rfl)) | ((with_reducible refine' st_PacketJudge__first ?ho_ ?hv_ ?_); (case ho_ => first | assumption | exact upd_same); (case hv_ => exact Nat.le_of_ble_eq_true rfl)) | ((with_reducible refine' st_PacketJudge__copies ?ho_ ?hv_ ?_); (case ho_ => first | assumption | exact upd_same); (case hv_ => exact Nat.le_of_ble_eq_true rfl)) | ((with_reducible refine' me_PacketJudge_problems_of ?ho_ ?_); (case ho_ => first | assumption | exact upd_same)) | ((with_reducible refine' me_PacketJudge_problems_under_way ?ho_ ?_); (case ho_ => first | assumption | exact upd_same)) | ((with_reducible refine' me_PacketJudge_learn ?ho_ ?_); (case ho_ => first | assumption | exact upd_same)))
local macro_rules | `(tactic| walk_at "use") => `(tactic| first | ((with_reducible refine' fd_Packet_sender ?ho_ ?hv_ ?_); (case ho_ => first | assumption | exact upd_same); (case hv_ => exact rfl)) | ((with_reducible refine' fd_Packet_target ?ho_ ?hv_ ?_); (case ho_ => first | assumption | exact upd_same); (case hv_ => exact rfl)) | ((with_reducible refine' fd_Packet_octets ?ho_ ?hv_ ?_); (case ho_ => first | assumption | exact upd_same); (case hv_ => exact rfl)) | ((with_reducible refine' fd_Packet_marked ?ho_ ?hv_ ?_); (case ho_ => first | assumption | exact upd_same); (case hv_ => exact rfl)) | ((with_reducible refine' nw_Packet_sender ?ho_ ?hv_ ?_); (case ho_ => first | assumption | exact upd_same); (case hv_ => exact rfl)) | ((with_reducible refine' nw_Packet_target ?ho_ ?hv_ ?_); (case ho_ => first | assumption | exact upd_same); (case hv_ => exact rfl)) | ((with_reducible refine' nw_Packet_octets ?ho_ ?hv_ ?_); (case ho_ => first | assumption | exact upd_same); (case hv_ => exact rfl)) | ((with_reducible refine' nw_Packet_marked ?ho_ ?hv_ ?_); (case ho_ => first | assumption | exact upd_same); (case hv_ => exact rfl)) | ((with_reducible refine' st_Packet_sender ?ho_ ?hv_ ?_); (case ho_ => first | assumption | exact upd_same); (case hv_ => exact Nat.le_of_ble_eq_true rfl)) | ((with_reducible refine' st_Packet_target ?ho_ ?hv_ ?_); (case ho_ => first | assumption | exact upd_same); (case hv_ => exact Nat.le_of_ble_eq_true rfl)) | ((with_reducible refine' st_Packet_octets ?ho_ ?hv_ ?_); (case ho_ => first | assumption | exact upd_same); (case hv_ => exact Nat.le_of_ble_eq_true rfl)) | ((with_reducible refine' st_Packet_marked ?ho_ ?hv_ ?_); (case ho_ => first | assumption | exact upd_same); (case hv_ => exact Nat.le_of_ble_eq_true rfl)) | ((with_reducible refine' me_Packet_fork ?ho_ ?_); (case ho_ => first | assumption | exact upd_same)))
local macro_rules | `(tactic| walk_at "use") => `(tactic| first | ((with_reducible refine' fd_Record_tick ?ho_ ?hv_ ?_); (case ho_ => first | assumption | exact upd_same); (case hv_ => exact rfl)) | ((with_reducible refine' fd_Record_number ?ho_ ?hv_ ?_); (case ho_ => first | assumption | exact upd_same); (case hv_ => exact rfl)) | ((with_reducible refine' fd_Record_word ?ho_ ?hv_ ?_); (case ho_ => first | assumption | exact upd_same); (case hv_ => exact rfl)) | ((with_reducible refine' fd_Record_packet ?ho_ ?hv_ ?_); (case ho_ => first | assumption | exact upd_same); (case hv_ => exact rfl)) | ((with_reducible refine' nw_Record_tick ?ho_ ?hv_ ?_); (case ho_ => first | assumption | exact upd_same); (case hv_ => exact rfl)) | ((with_reducible refine' nw_Record_number ?ho_ ?hv_ ?_); (case ho_ => first | assumption | exact upd_same); (case hv_ => exact rfl)) | ((with_reducible refine' nw_Record_word ?ho_ ?hv_ ?_); (case ho_ => first | assumption | exact upd_same); (case hv_ => exact rfl)) | ((with_reducible refine' nw_Record_packet ?ho_ ?hv_ ?_); (case ho_ => first | assumption | exact upd_same); (case hv_ => exact rfl)) | ((with_reducible refine' st_Record_tick ?ho_ ?hv_ ?_); (case ho_ => first | assumption | exact upd_same); (case hv_ => exact Nat.le_of_ble_eq_true rfl)) | ((with_reducible refine' st_Record_number ?ho_ ?hv_ ?_); (case ho_ => first | assumption | exact upd_same); (case hv_ => exact Nat.le_of_ble_eq_true rfl)) | ((with_reducible refine' st_Record_word ?ho_ ?hv_ ?_); (case ho_ => first | assumption | exact upd_same); (case hv_ => exact Nat.le_of_ble_eq_true rfl)) | ((with_reducible refine' st_Record_packet ?ho_ ?hv_ ?_); (case ho_ => first | assumption | exact upd_same); (case hv_ => exact Nat.le_of_ble_eq_true rfl)))
section
variable {P : Program} {w : World} {K : PySem.W.Frag} {mg : Str → Option Value} {base : Heap}
local macro_rules | `(tactic| walk_at "use") => `(tactic| with_reducible first | refine g_dgetI ?_ | refine g_dputI ?_ | refine g_dget1I ?_ | refine g_dget2I ?_ | refine g_dinI ?_ | refine g_dnotinI ?_ | refine g_dnewK ?_)

local macro_rules | `(tactic| walk_at "use") => `(tactic| with_reducible first | refine g_callN ?_ | refine g_makeK ?_ | refine g_gcons ?_ | refine g_gnil ?_ | refine g_rEqS ?_ | refine g_rNeS ?_ | refine g_isiS ?_ | refine u_isint ?_ | refine u_cell (by assumption) (by omega) ?_)
def sp_law (K : PySem.W.Frag) : Sp := fun vs H Q _ => ∃ (a : Addr) (ns : List Int), vs = [.ref a] ∧ SqL K H a (ns.map V.int) ∧ ns.length ≤ 63 ∧ ∀ H', Q (.bl true) H'

theorem allP_pre {rows : List Rw} {r : Rw} {life : Int} : ∀ i, i ≤ rows.length → allP (rows ++ [r]) life i = allP rows life i
  | 0, _ => rfl
  | i + 1, h => by
    have e : rows[i]? = some rows[i] := List.getElem?_eq_getElem (by omega)
    rw [allP_succ e, allP_succ (r := rows[i]) (by rw [List.getElem?_append_left (by omega)]; exact e), allP_pre i (by omega), List.take_append_of_le_length (by omega)]
def DuL (S : Addr → Prop) (H : Hp) (D : Addr) (us : List Addr) (xs : List (Int × Str)) : Prop := H D = some (.lst (us.map V.ref)) ∧ us.length = xs.length ∧ ∀ (j : Nat) (u : Addr) (x : Int × Str), us[j]? = some u → xs[j]? = some x → ¬ S u ∧ H u = some (.tup [.int x.1, .str x.2])
theorem DuL.app {S : Addr → Prop} {H H' : Hp} {D u : Addr} {us : List Addr} {xs : List (Int × Str)} {x : Int × Str} (h : DuL S H D us xs) (b : ButS S H H') (e : H' D = some (.lst ((us ++ [u]).map V.ref))) (n : ¬ S u) (k : H' u = some (.tup [.int x.1, .str x.2])) : DuL S H' D (us ++ [u]) (xs ++ [x]) := by
  refine ⟨e, by rw [List.length_append, List.length_append, h.2.1]; rfl, fun j v y e1 e2 => ?_⟩
  by_cases c : j < us.length
  · rw [List.getElem?_append_left c] at e1
    rw [List.getElem?_append_left (by rw [← h.2.1]; exact c)] at e2
    obtain ⟨n1, k1⟩ := h.2.2 j v y e1 e2
    exact ⟨n1, b _ _ n1 k1⟩
  · have hj : j = us.length := by
      have := (List.getElem?_eq_some_iff.mp e1).1
      rw [List.length_append] at this
      simp at this
      omega
    subst hj
    rw [List.getElem?_concat_length] at e1
    rw [h.2.1, List.getElem?_concat_length] at e2
    injection e1 with e1
    injection e2 with e2
    subst e1
    subst e2
    exact ⟨n, k⟩
theorem DuL.same {S : Addr → Prop} {H H' : Hp} {D : Addr} {us : List Addr} {xs : List (Int × Str)} (h : DuL S H D us xs) (s : Same H H') : DuL S H' D us xs := ⟨s _ _ h.1, h.2.1, fun j u x e1 e2 => ⟨(h.2.2 j u x e1 e2).1, s _ _ (h.2.2 j u x e1 e2).2⟩⟩
theorem DuL.but {S : Addr → Prop} {H H' : Hp} {D : Addr} {us : List Addr} {xs : List (Int × Str)} (h : DuL S H D us xs) (b : ButS S H H') (e : H' D = H D) : DuL S H' D us xs := ⟨e.trans h.1, h.2.1, fun j u x e1 e2 => ⟨(h.2.2 j u x e1 e2).1, b _ _ (h.2.2 j u x e1 e2).1 (h.2.2 j u x e1 e2).2⟩⟩
theorem RwL.but {S : Addr → Prop} {H H' : Hp} {R : Addr} {ts : List Addr} {rows : List Rw} (h : RwL S H R ts rows) (b : ButS S H H') (e : H' R = H R) : RwL S H' R ts rows := ⟨e.trans h.1, h.2.1, fun j t r e1 e2 => ⟨(h.2.2 j t r e1 e2).1.but b, (h.2.2 j t r e1 e2).2⟩⟩
theorem RwL.app {S : Addr → Prop} {H H' : Hp} {R t : Addr} {ts : List Addr} {rows : List Rw} {r : Rw} (h : RwL S H R ts rows) (b : ButS S H H') (e : H' R = some (.lst ((ts ++ [t]).map V.ref))) (o : RwO S H' t r) (wd : Wd r ∧ r.ds ≠ []) : RwL S H' R (ts ++ [t]) (rows ++ [r]) := by
  refine ⟨e, by rw [List.length_append, List.length_append, h.2.1]; rfl, fun j v y e1 e2 => ?_⟩
  by_cases c : j < ts.length
  · rw [List.getElem?_append_left c] at e1
    rw [List.getElem?_append_left (by rw [← h.2.1]; exact c)] at e2
    exact ⟨(h.2.2 j v y e1 e2).1.but b, (h.2.2 j v y e1 e2).2⟩
  · have hj : j = ts.length := by
      have := (List.getElem?_eq_some_iff.mp e1).1
      rw [List.length_append] at this
      simp at this
      omega
    subst hj
    rw [List.getElem?_concat_length] at e1
    rw [h.2.1, List.getElem?_concat_length] at e2
    injection e1 with e1
    injection e2 with e2
    subst e1
    subst e2
    exact ⟨o, wd⟩
theorem refs_ne {as : List Addr} {ds : List Int} (h : ds ≠ []) : as.map V.ref ≠ ds.map V.int := by
  cases ds with
  | nil => exact absurd rfl h
  | cons d ds =>
    cases as with
    | nil => intro z; cases z
    | cons a as => intro z; injection z with z _; cases z
theorem RcO.butD {C C2 D : Addr} {S : Addr → Prop} {H H' : Hp} {p : Addr} {r : Rw} {as : List Addr} (h : RcO C C2 S H p r) (hd : r.ds ≠ []) (b : But D H H') (e : H D = some (.lst (as.map V.ref))) : RcO C C2 S H' p r := by
  obtain ⟨dx, q, n1, h1, dx2, l, n2, n3, h2, h3⟩ := h
  refine ⟨dx, q, n1, b _ _ (fun z => by rw [z, e] at h1; cases h1) h1, dx2, l, n2, n3, b _ _ (fun z => by rw [z, e] at h2; cases h2) h2, b _ _ (fun z => ?_) h3⟩
  rw [z, e] at h3
  injection h3 with h3
  injection h3 with h3
  exact refs_ne hd h3
theorem S_ok : ∀ x ∈ PS, PyData.canLay0 (.str x) = true := by decide +kernel
theorem S_len : ∀ x ∈ PS, x.length ≤ 100 := by decide +kernel
theorem dot_len : (("." : Str)).length = 1 := by decide +kernel
def fdD (x : Int × Str) : PyData := .tuple [.int x.1, .str x.2]
theorem sh_fd {x : Int × Str} (h : x.2 ∈ PS) : SeqAt.shaped (fdD x) = true := sh_of (by
  show (true && (PyData.canLay0 (.str x.2) && true)) = true
  rw [S_ok _ h]
  rfl) (by show max 0 (max 0 0) + 1 ≤ 64; decide)
theorem kbt_1 {K : PySem.W.Frag} {mg : Str → Option Value} (T : Txt K mg) : ∃ g, KBn K T.d_judge_packets ["records", "life"] 1 ["life"] g (fun vs zs => vs ++ ((zs.drop 0).take 1)) :=
  ⟨_, kb_pure (ps := ["records", "life"]) T.F_judge_packets 1 ["life"] (fun vs zs => vs ++ ((zs.drop 0).take 1)) (fun r1 r2 => r1.append ((r2.drop 0).take 1)) (fun kV doc pm an cdv ct us ws l1 l2 => match us, l1, ws, l2 with | [_], _, [_], _ => rfl)⟩
theorem ok_law (T : Txt K mg) : FnOk P w K mg base CX0 7 T.f_law T.d_law ["script"] (sp_law K) := by
  refine T.F_law.ok sc_law (fun vs H Q E h => ?_) (fun cdv A outer s H vs Q E hr h => ?_)
  · obtain ⟨a, ns, rfl, hS0, hl, q⟩ := h
    rfl
  · obtain ⟨a, ns, rfl, hS0, hl, q⟩ := h
    have hu := hu_of hr
    obtain ⟨gk_1, kb_1⟩ := kbt_1 T
    refine ⟨_, (pss_cons (ps_set (i := 1) sc_law.nd rfl (Or.inl rfl) (pe_op op_add pe_int (pe_op op_mod (pe_callTy call_int1 (by rfl) T.n_int (by decide +kernel) (pa_cons (pe_call (ok_l_cell T) (hr.mono (by decide)) rfl T.m_l_cell T.F_l_cell.kp T.b_l_cell .nil pass0 (pa_cons (pv 0) (pa_cons pe_int pa_nil))) pa_nil)) pe_int)))
        (pss_cons (ps_set (i := 2) sc_law.nd rfl (Or.inl rfl) (pe_lst pa_nil))
        (pss_cons (ps_set (i := 3) sc_law.nd rfl (Or.inl rfl) (pe_lst pa_nil))
        (pss_cons (ps_set (i := 4) sc_law.nd rfl (Or.inl rfl) (pe_lst (pa_cons pe_int (pa_cons (pe_un un_neg pe_int) pa_nil))))
        (pss_cons (ps_for PassesOwn.never rfl (pi_range1 (by rfl) T.n_range (pa_cons (pe_callB (call_min2 rfl) (by rfl) T.n_min (by decide +kernel) (pa_cons pe_int (pa_cons (pe_callB (call_max2 rfl) (by rfl) T.n_max (by decide +kernel) (pa_cons pe_int (pa_cons (pe_op op_sub (pe_callB call_len_seq (by rfl) T.n_len (by decide +kernel) (pa_cons (pv 0) pa_nil)) pe_int) pa_nil))) pa_nil))) pa_nil)) (pg_name (i := 5) sc_law.nd rfl (Or.inl rfl)) (pss_cons (ps_set (i := 6) sc_law.nd rfl (Or.inl rfl) (pe_call (ok_l_row T) (hr.mono (by decide)) rfl T.m_l_row T.F_l_row.kp T.b_l_row .nil pass0 (pa_cons (pe_call (ok_l_cell T) (hr.mono (by decide)) rfl T.m_l_cell T.F_l_cell.kp T.b_l_cell .nil pass0 (pa_cons (pv 0) (pa_cons (pe_op op_add pe_int (pv 5)) pa_nil))) (pa_cons (pv 5) (pa_cons (pv 4) pa_nil)))))
        (pss_cons (ps_for PassesOwn.never rfl (pi_list (pe_call (ok_l_problems T) (hr.mono (by decide)) rfl T.m_l_problems T.F_l_problems.kp T.b_l_problems .nil pass0 (pa_cons (pv 2) (pa_cons (pv 6) (pa_cons (pv 1) pa_nil))))) (pg_name (i := 7) sc_law.nd rfl (Or.inl rfl)) (pss_one (ps_expr (pe_bm PySem.F.plainAttrs_list PySem.F.slot_list_append PySem.F.type_list_append mt_append (pv 3) (pa_cons (pe_tup (pa_cons (pv 5) (pa_cons (pv 7) pa_nil))) pa_nil)))))
        (pss_one (ps_expr (pe_bm PySem.F.plainAttrs_list PySem.F.slot_list_append PySem.F.type_list_append mt_append (pv 2) (pa_cons (pv 6) pa_nil)))))))
        (pss_cons (ps_set (i := 8) sc_law.nd rfl (Or.inl rfl) (pe_callN (ok_judge_packets T) (hr.mono (by decide)) rfl T.m_judge_packets T.F_judge_packets.kp kb_1 pass0 (pa_cons (pe_lc (own := [("row", 6)]) (g := gName 6) (tt := tYes) rfl sc_law.nd (pi_list (pv 2)) (blkOk_by (N := ["script", "life", "rows", "due", "marks", "k", "row", "problem", "told"]) (sc := defScope s_law) (by decide +kernel)) (fun _ _ _ _ _ => (pg_name (i := 6) sc_law.nd rfl (Or.inl rfl))) (fun _ _ _ _ _ => pts_nil) (fun _ _ _ _ _ => (pe_call (ok_l_record T) (hr.mono (by decide)) rfl T.m_l_record T.F_l_record.kp T.b_l_record .nil pass0 (pa_cons (pv 6) pa_nil)))) pa_nil) (pk_cons (pv 1) pk_nil)))
        (pss_cons (ps_if (PW.pt (pw_or (pt_not (pt_val (pe_callB call_isi (by rfl) T.n_isinstance (by decide +kernel) (pa_cons (pv 8) (pa_cons (pe_bltn (v := .ty "list") (by rfl) T.n_list (by decide +kernel) rfl) pa_nil))))) (pw_or1 (pt_cmpR op_ne (pe_callB call_len_seq (by rfl) T.n_len (by decide +kernel) (pa_cons (pv 8) pa_nil)) (pe_callB call_len_seq (by rfl) T.n_len (by decide +kernel) (pa_cons (pv 3) pa_nil)) (nomark _))))) (pss_one (ps_ret pe_bl)) pss_nil)
        (pss_cons (ps_for PassesOwn.never rfl (pi_range1 (by rfl) T.n_range (pa_cons (pe_callB call_len_seq (by rfl) T.n_len (by decide +kernel) (pa_cons (pv 3) pa_nil)) pa_nil)) (pg_name (i := 5) sc_law.nd rfl (Or.inl rfl)) (pss_cons (ps_if (PW.pt (pw_or (pt_not (pt_val (pe_callB call_isi (by rfl) T.n_isinstance (by decide +kernel) (pa_cons (pe_ix ix_list (pv 8) (pv 5) (fun _ _ => rfl)) (pa_cons (pe_glob (v := .ref T.C_Finding) (by rfl) T.c_Finding rfl) pa_nil))))) (pw_or1 (pt_not (pt_val (pe_call (ok_l_is_integer T) (hr.mono (by decide)) rfl T.m_l_is_integer T.F_l_is_integer.kp T.b_l_is_integer .nil pass0 (pa_cons (pe_fld (pe_ix ix_list (pv 8) (pv 5) (fun _ _ => rfl)) rfl) pa_nil))))))) (pss_one (ps_ret pe_bl)) pss_nil)
        (pss_cons (ps_if (PW.pt (pw_or (pt_cmpR (op_neD hr.units) (pe_tup (pa_cons (pe_fld (pe_ix ix_list (pv 8) (pv 5) (fun _ _ => rfl)) rfl) (pa_cons (pe_fld (pe_ix ix_list (pv 8) (pv 5) (fun _ _ => rfl)) rfl) pa_nil))) (pe_ix ix_list (pv 3) (pv 5) (fun _ _ => rfl)) (nomark _)) (pw_or1 (pt_not (pt_cmpR (op_eqO (ok_Finding_eq__ T) (hr.mono (by decide)) T.a_Finding_eq__ T.q_Finding T.b_Finding_eq__ pass0) (pe_ix ix_list (pv 8) (pv 5) (fun _ _ => rfl)) (pe_make T.mk_Finding (ok_Finding_init__ T) (hr.mono (by decide)) rfl T.c_Finding T.b_Finding_init__ .nil pass0 (pa_cons (pe_ix ix_tup (pe_ix ix_list (pv 3) (pv 5) (fun _ _ => rfl)) pe_int (fun _ _ => rfl)) (pa_cons (pe_ix ix_tup (pe_ix ix_list (pv 3) (pv 5) (fun _ _ => rfl)) pe_int (fun _ _ => rfl)) pa_nil))) (nomark _)))))) (pss_one (ps_ret pe_bl)) pss_nil)
        (pss_one (ps_if (PW.pt (pw_or (pt_cmpR (op_eqO (ok_Finding_eq__ T) (hr.mono (by decide)) T.a_Finding_eq__ T.q_Finding T.b_Finding_eq__ pass0) (pe_ix ix_list (pv 8) (pv 5) (fun _ _ => rfl)) (pe_make T.mk_Finding (ok_Finding_init__ T) (hr.mono (by decide)) rfl T.c_Finding T.b_Finding_init__ .nil pass0 (pa_cons (pe_op op_add (pe_ix ix_tup (pe_ix ix_list (pv 3) (pv 5) (fun _ _ => rfl)) pe_int (fun _ _ => rfl)) pe_int) (pa_cons (pe_ix ix_tup (pe_ix ix_list (pv 3) (pv 5) (fun _ _ => rfl)) pe_int (fun _ _ => rfl)) pa_nil))) (nomark _)) (pw_or1 (pt_cmpR (op_eqO (ok_Finding_eq__ T) (hr.mono (by decide)) T.a_Finding_eq__ T.q_Finding T.b_Finding_eq__ pass0) (pe_ix ix_list (pv 8) (pv 5) (fun _ _ => rfl)) (pe_make T.mk_Finding (ok_Finding_init__ T) (hr.mono (by decide)) rfl T.c_Finding T.b_Finding_init__ .nil pass0 (pa_cons (pe_ix ix_tup (pe_ix ix_list (pv 3) (pv 5) (fun _ _ => rfl)) pe_int (fun _ _ => rfl)) (pa_cons (pe_op op_addS (pe_ix ix_tup (pe_ix ix_list (pv 3) (pv 5) (fun _ _ => rfl)) pe_int (fun _ _ => rfl)) pe_str) pa_nil))) (nomark _))))) (pss_one (ps_ret pe_bl)) pss_nil)))))
        (pss_one (ps_ret pe_bl)))))))))), ?_⟩
    dsimp only [cxOf, Cx.nox, Cx.wish, L2.start, List.map, List.cons_append, List.nil_append, List.length_cons, List.length_nil, Nat.reduceAdd, Nat.reduceSub, Nat.zero_add, List.replicate_succ, List.replicate_zero]
    obtain ⟨N, eN, hN⟩ : ∃ N : Nat, (if (if (ns.length : Int) - 1 > 8 then (ns.length : Int) - 1 else 8) < 62 then (if (ns.length : Int) - 1 > 8 then (ns.length : Int) - 1 else 8) else 62) = (N : Int) ∧ N ≤ 62 := by
      refine ⟨(if (if (ns.length : Int) - 1 > 8 then (ns.length : Int) - 1 else 8) < 62 then (if (ns.length : Int) - 1 > 8 then (ns.length : Int) - 1 else 8) else 62).toNat, ?_, ?_⟩ <;> (split <;> split <;> omega)
    walk_at "go"
    generalize 1 + cell ns 0 % 5 = life
    refine ⟨by show 0 ≤ sizeLine; decide, fun R hR => ?_⟩
    generalize z1 : upd H R _ = H1
    have s1 : Same H H1 := by rw [← z1]; exact same_upd hR
    have k1 : H1 R = some (.lst (([] : List Addr).map V.ref)) := (congrFun z1 R).symm.trans upd_same
    clear z1
    walk_at "go"
    refine ⟨by show 0 ≤ sizeLine; decide, fun Du hDu => ?_⟩
    generalize z1 : upd H1 Du _ = H2
    have s2 : Same H1 H2 := by rw [← z1]; exact same_upd hDu
    have k2 : H2 Du = some (.lst (([] : List Addr).map V.ref)) := (congrFun z1 Du).symm.trans upd_same
    clear z1
    walk_at "go"
    refine ⟨by show 2 ≤ sizeLine; decide, fun M hM => ?_⟩
    generalize z1 : upd H2 M _ = H3
    have s3 : Same H2 H3 := by rw [← z1]; exact same_upd hM
    have k3 : H3 M = some (.lst [.int 0, .int (-1)]) := (congrFun z1 M).symm.trans upd_same
    clear z1
    have kD3 := s3 _ _ k2
    have kR3 := s3 _ _ (s2 _ _ k1)
    have nRD : R ≠ Du := ne_of_none k1 hDu
    have nRM : R ≠ M := ne_of_none (s2 _ _ k1) hM
    have nDM : Du ≠ M := ne_of_none k2 hM
    obtain ⟨S, eS⟩ : ∃ S : Addr → Prop, S = fun x => x = R ∨ x = Du ∨ x = M := ⟨_, rfl⟩
    have SR : S R := by subst eS; exact .inl rfl
    have SD : S Du := by subst eS; exact .inr (.inl rfl)
    have SM : S M := by subst eS; exact .inr (.inr rfl)
    have hSn : ∀ x, S x → H x = none := by
      subst eS
      rintro x (rfl | rfl | rfl)
      · exact hR
      · exact s1.free hDu
      · exact (s1.trans s2).free hM
    have s03 := (s1.trans s2).trans s3
    walk_at "go"
    refine for_r (n := (N : Int)) N (Int.toNat_natCast _) (by omega) (by omega) (fun i σ H' => (∃ v5 v6 v7 v8, σ = [some (.ref a), some (.int life), some (.ref R), some (.ref Du), some (.ref M), v5, v6, v7, v8]) ∧ Same H H' ∧ (∃ x y, H' M = some (.lst [.int x, .int y])) ∧ ∃ ts rws us, rws.length = i ∧ RwL S H' R ts rws ∧ DuL S H' Du us (allP rws life i)) ?start ?turn ?done ?ev
    case start => exact ⟨⟨_, _, _, _, rfl⟩, s03, ⟨_, _, k3⟩, [], [], [], rfl, ⟨kR3, rfl, fun j t r e => by cases e⟩, ⟨kD3, rfl, fun j t r e => by cases e⟩⟩
    case ev =>
      intro X xx
      have hS3 := s03.seq hS0
      walk_at "go"
      refine g_len (.inl hS3) ?_
      walk_at "go"
      rw [List.length_map, eN]
      exact xx
    case turn =>
      rintro i σ' H4 hi ⟨⟨v5, v6, v7, v8, rfl⟩, s4, ⟨mx, my, k4⟩, ts, rws, us, rfl, rl, dl⟩
      have hS4 := s4.seq hS0
      walk_at "go"
      refine ⟨S, _, _, M, mx, my, rfl, k4, ?_, fun t r H5 mx' my' ht b5 k5 o5 wd5 => ?_⟩
      · subst eS
        rintro x (rfl | rfl | rfl)
        · rw [rl.1]; simp
        · rw [dl.1]; simp
        · rw [k4]; simp
      have rl5 : RwL S H5 R ts rws := rl.but (ButS.but SM b5) ((b5 _ _ nRM rl.1).trans rl.1.symm)
      have dl5 : DuL S H5 Du us (allP rws life rws.length) := dl.but (ButS.but SM b5) ((b5 _ _ nDM dl.1).trans dl.1.symm)
      have s5 : Same H H5 := ((ButS.of s4).trans (ButS.but SM b5)).same hSn
      clear rl dl k4 s4 hS4
      walk_at "go"
      refine g_for ?_
      walk_at "go"
      refine ⟨S, R, t, life, ts, rws, r, rfl, rl5, by omega, o5, fun l H6 hl6 s6 k6 => ?_⟩
      have plen := prb_len (rows := rws) (r := r) (life := life)
      refine ⟨l, rfl, ⟨_, sl k6⟩, ?_⟩
      refine for_list (xs := (prb rws r life).map V.str) (fun j σ H' => (∃ v7, σ = [some (.ref a), some (.int life), some (.ref R), some (.ref Du), some (.ref M), some (.int rws.length), some (.ref t), v7, v8]) ∧ ButS S H6 H' ∧ ¬ S l ∧ H' M = H6 M ∧ H' R = H6 R ∧ ∃ us', DuL S H' Du us' (allP rws life rws.length ++ ((prb rws r life).take j).map fun p => ((rws.length : Int), p))) ?start2 ?inv2 ?turn2 ?done2
      case start2 => 
        refine ⟨⟨_, rfl⟩, ButS.refl, ?_, rfl, rfl, us, ?_⟩
        · intro z
          subst eS
          rcases z with z | z | z
          · rw [z, rl5.1] at hl6; cases hl6
          · rw [z, dl5.1] at hl6; cases hl6
          · rw [z, k5] at hl6; cases hl6
        · rw [List.take_zero, List.map_nil, List.append_nil]
          exact dl5.same s6
      case inv2 =>
        rintro j σ' H' _ ⟨_, b, nl, _⟩
        exact sl (b _ _ nl k6)
      case turn2 =>
        rintro j x σ' H7 hx ⟨⟨v7, rfl⟩, b7, nl, eM, eR, us', dl7⟩
        obtain ⟨pb, hpb, rfl⟩ : ∃ pb, (prb rws r life)[j]? = some pb ∧ x = .str pb := map_get hx
        walk_at "go"
        refine ⟨ty_l dl7.1, ?_⟩
        walk_at "go"
        refine ⟨by show 2 ≤ sizeLine; decide, fun u hu => ?_⟩
        generalize z8 : upd H7 u _ = H8
        have s8 : Same H7 H8 := by rw [← z8]; exact same_upd hu
        have k8 : H8 u = some (.tup [.int rws.length, .str pb]) := (congrFun z8 u).symm.trans upd_same
        clear z8
        have dl8 := dl7.same s8
        have jl := (List.getElem?_eq_some_iff.mp hpb).1
        walk_at "go"
        refine g_append dl8.1 ?_ ?_
        · rw [List.length_map, dl8.2.1, List.length_append, List.length_map, List.length_take]
          have := allP_len (rows := rws) (life := life) rws.length
          exact szl (by omega)
        · have nSu : ¬ S u := fun z => by
            have := hSn _ z
            subst eS
            rcases z with z | z | z
            · rw [z, eR, s6 _ _ rl5.1] at hu; cases hu
            · rw [z, dl7.1] at hu; cases hu
            · rw [z, eM, s6 _ _ k5] at hu; cases hu
          have bD : But Du H8 (upd H8 Du (.lst (us'.map V.ref ++ [V.ref u]))) := But.refl.upd
          have nuD : u ≠ Du := fun z => nSu (z ▸ SD)
          walk_at "go"
          refine ⟨⟨_, rfl⟩, (b7.trans (ButS.of s8)).trans (ButS.but SD bD), nl, ?_, ?_, us' ++ [u], ?_⟩
          · rw [upd_ne nDM.symm, s8 _ _ (eM.trans (s6 _ _ k5)), s6 _ _ k5]
          · rw [upd_ne nRD, s8 _ _ (eR.trans (s6 _ _ rl5.1)), s6 _ _ rl5.1]
          · rw [List.take_add_one, hpb, List.map_append, ← List.append_assoc]
            exact dl8.app (ButS.but SD bD) (by rw [upd_same, List.map_append]; rfl) nSu (by rw [upd_ne nuD]; exact k8)
      case done2 =>
        rintro σ' H7 ⟨⟨v7, rfl⟩, b7, nl, eM, eR, us', dl7⟩
        rw [List.length_map, List.take_length] at dl7
        have rl7 : RwL S H7 R ts rws := (rl5.same s6).but b7 eR
        have o7 : RwO S H7 t r := (o5.same s6).but b7
        walk_at "go"
        refine ⟨ty_l rl7.1, ?_⟩
        walk_at "go"
        refine g_append rl7.1 (by rw [List.length_map, rl7.2.1]; exact szl (by omega)) ?_
        have bR : But R H7 (upd H7 R (.lst (ts.map V.ref ++ [V.ref t]))) := But.refl.upd
        walk_at "go"
        refine ⟨⟨_, _, _, _, rfl⟩, ?_, ⟨mx', my', ?_⟩, ts ++ [t], rws ++ [r], us', by rw [List.length_append]; rfl, ?_, ?_⟩
        · exact (((ButS.of (s5.trans s6)).trans b7).trans (ButS.but SR bR)).same hSn
        · rw [upd_ne nRM.symm, eM]
          exact s6 _ _ k5
        · exact rl7.app (ButS.but SR bR) (by rw [upd_same, List.map_append]; rfl) (o7.but (ButS.but SR bR)) wd5
        · have e : allP (rws ++ [r]) life (rws.length + 1) = allP rws life rws.length ++ (prb rws r life).map fun p => ((rws.length : Int), p) := by
            rw [allP_succ (r := r) List.getElem?_concat_length, allP_pre _ (Nat.le_refl _), List.take_append_of_le_length (Nat.le_refl _), List.take_length]
          rw [e]
          exact dl7.but (ButS.but SR bR) (upd_ne nRD.symm)
    case done =>
      rintro σ' H4 ⟨⟨v5, v6, v7, v8, rfl⟩, s4, _, ts, rws, us, lr, rl, dl⟩
      walk_at "go"
      refine ⟨⟨_, sl rl.1⟩, fun D hD => ?_⟩
      refine lc_it walk_list (fun i H' => Same H4 H' ∧ ∃ as : List Addr, H' D = some (.lst (as.map V.ref)) ∧ as.length = i ∧ ∀ (j : Nat) (p : Addr) (r : Rw), as[j]? = some p → rws[j]? = some r → RcO T.C_Record T.C_Packet (fun _ => False) H' p r) ?_ (fun i H' _ h => sl (h.1 _ _ rl.1)) ?_ ?_
      · exact ⟨same_upd hD, [], upd_same, rfl, fun j p r e => by cases e⟩
      · rintro i x H5 H6 hi ⟨s5, as, eD, la, ha⟩ ⟨rfl, hx⟩
        obtain ⟨t, r, rfl, ht, hr, o, wd⟩ := (rl.same s5).get hx
        refine ⟨rfl, ?_⟩
        walk_at "go"
        refine ⟨S, t, r, rfl, o, fun p H7 np s7 rc => ?_⟩
        have eD7 := s7 _ _ eD
        have hi' := (List.getElem?_eq_some_iff.mp hr).1
        refine ⟨_, eD7, by rw [List.length_map, la]; exact szl (by omega), (But.of (s5.trans s7)).upd.same hD, as ++ [p], by rw [upd_same, List.map_append]; rfl, by rw [List.length_append, la]; rfl, fun j p' r' e1 e2 => ?_⟩
        have dne : r'.ds ≠ [] := by
          have hj : j < rws.length := (List.getElem?_eq_some_iff.mp e2).1
          exact (rl.2.2 j _ r' (List.getElem?_eq_getElem (by rw [rl.2.1]; exact hj)) e2).2.2
        by_cases c : j < as.length
        · rw [List.getElem?_append_left c] at e1
          exact ((ha j p' r' e1 e2).but (ButS.of s7)).butD dne But.refl.upd eD7
        · have hj : j = as.length := by
            have := (List.getElem?_eq_some_iff.mp e1).1
            rw [List.length_append] at this
            simp at this
            omega
          subst hj
          rw [List.getElem?_concat_length] at e1
          injection e1 with e1
          subst e1
          rw [la, hr] at e2
          injection e2 with e2
          subst e2
          exact rc.butD dne But.refl.upd eD7
      · rintro H5 ⟨s5, as, eD, la, ha⟩
        rw [List.length_map, rl.2.1] at la
        have dl5 := dl.same s5
        walk_at "go"
        refine ⟨rfl, rfl, D, life, as, rws, rfl, eD, la, by omega, fun j p r e1 e2 => ⟨ha j p r e1 e2, ?_⟩, fun L fs H6 hL6 s6 kL fd => ?_⟩
        · have hj : j < rws.length := (List.getElem?_eq_some_iff.mp e2).1
          exact (rl.2.2 j _ r (List.getElem?_eq_getElem (by rw [rl.2.1]; exact hj)) e2).2.1
        have dl6 := dl5.same s6
        rw [← lr] at dl6
        have lfu : fs.length = us.length := fd.1.trans dl6.2.1.symm
        walk_at "go"
        refine g_isiL kL ?_
        walk_at "go"
        refine g_len (.inl (sl kL)) ?_
        walk_at "go"
        refine g_len (.inl (sl dl6.1)) ?_
        rw [List.length_map, List.length_map, lfu]
        walk_at "go"
        have lle : us.length ≤ 320 := by
          have := allP_len (rows := rws) (life := life) rws.length
          rw [dl6.2.1]
          omega
        refine for_r (n := (us.length : Int)) us.length (Int.toNat_natCast _) (by omega) (by omega) (fun i σ H' => (∃ v5, σ = [some (.ref a), some (.int life), some (.ref R), some (.ref Du), some (.ref M), v5, v6, v7, some (.ref L)]) ∧ Same H6 H') ?start3 ?turn3 ?done3 ?ev3
        case start3 => exact ⟨⟨_, rfl⟩, Same.refl _⟩
        case ev3 =>
          intro X xx
          walk_at "go"
          refine g_len (.inl (sl dl6.1)) ?_
          rw [List.length_map]
          exact xx
        case done3 =>
          rintro σ' H7 ⟨⟨v5', rfl⟩, s7⟩
          walk_at "go"
          exact q _
        case turn3 =>
          rintro i σ' H7 hi ⟨⟨v5', rfl⟩, s7⟩
          obtain ⟨p, hfi⟩ : ∃ p, fs[i]? = some p := ⟨_, List.getElem?_eq_getElem (by omega)⟩
          obtain ⟨u, hui⟩ : ∃ u, us[i]? = some u := ⟨_, List.getElem?_eq_getElem hi⟩
          obtain ⟨x, hxi⟩ : ∃ x, (allP rws life rws.length)[i]? = some x := ⟨_, List.getElem?_eq_getElem (by rw [← dl6.2.1]; exact hi)⟩
          have mx := allP_mem (List.mem_of_getElem? hxi)
          obtain ⟨dxp, ho6⟩ := fd.2 i _ _ hfi hxi
          obtain ⟨_, hu6⟩ := dl6.2.2 i _ _ hui hxi
          have ix1 : ∀ {H' Q}, Same H6 H' → Q (V.ref p) H' → rIxL K (.ref L) (.int i) H' Q := fun s q => g_ixL (sl (s _ _ kL)) (at_of (j := i) rfl (by rw [List.getElem?_map, hfi]; rfl)) q
          have ix2 : ∀ {H' Q}, Same H6 H' → Q (V.ref u) H' → rIxL K (.ref Du) (.int i) H' Q := fun s q => g_ixL (sl (s _ _ dl6.1)) (at_of (j := i) rfl (by rw [List.getElem?_map, hui]; rfl)) q
          have iu0 : ∀ {H' Q}, Same H6 H' → Q (V.int x.1) H' → rIxT K (.ref u) (.int 0) H' Q := fun s q => g_ixT (st (s _ _ hu6)) (at_of (j := 0) rfl rfl) q
          have iu1 : ∀ {H' Q}, Same H6 H' → Q (V.str x.2) H' → rIxT K (.ref u) (.int 1) H' Q := fun s q => g_ixT (st (s _ _ hu6)) (at_of (j := 1) rfl rfl) q
          have ho7 := s7 _ _ ho6
          walk_at "go"
          refine ix1 s7 ?_
          walk_at "go"
          refine g_isi (.own _) (.base (T.i_Finding ho7)) (if_pos (beq_self_eq_true _)) ?_
          walk_at "go"
          refine ix1 s7 ?_
          walk_at "go"
          refine ix1 s7 ?_
          walk_at "go"
          refine ix1 s7 ?_
          walk_at "go"
          refine ⟨by show 2 ≤ sizeLine; decide, fun t8 ht8 => ?_⟩
          generalize z8 : upd H7 t8 _ = H8
          have s78 : Same H7 H8 := by rw [← z8]; exact same_upd ht8
          have k8 : H8 t8 = some (.tup [.int x.1, .str x.2]) := (congrFun z8 t8).symm.trans upd_same
          clear z8
          have s8 := s7.trans s78
          walk_at "go"
          refine ix2 s8 ?_
          refine ⟨fdD x, fdD x, .tup (st k8) (.cons (.int _) (.cons (.str _) .nil)), .tup (st (s8 _ _ hu6)) (.cons (.int _) (.cons (.str _) .nil)), sh_fd mx, sh_fd mx, ?_⟩
          rw [show PyData.eqv (fdD x) (fdD x) = true by
            show ((x.1 == x.1) && ((x.2 == x.2) && true)) = true
            simp]
          walk_at "go"
          refine ix1 s8 ?_
          walk_at "go"
          refine ix2 s8 ?_
          walk_at "go"
          refine iu0 s8 ?_
          walk_at "go"
          refine ix2 s8 ?_
          walk_at "go"
          refine iu1 s8 ?_
          walk_at "go"
          intro y9 dy9 ny9 ndy9 nyd9
          refine ⟨y9, dy9, x, rfl, upd_same, ⟨rfl, ?_⟩⟩
          generalize z9 : upd (upd (upd H8 dy9 (.own y9)) y9 (.ins T.C_Finding dy9 [])) y9 _ = H9
          have t9 : Same H8 H9 := by
            rw [← z9]
            exact ((But.of (same_upd (o := .own y9) ndy9))).upd.upd.same ny9
          have k9 : H9 y9 = some (.ins T.C_Finding dy9 (obj ky_Finding [.int (x : Int × Str).1, .str (x : Int × Str).2])) := (congrFun z9 y9).symm.trans upd_same
          clear z9
          have s9 := s8.trans t9
          have ho9 := s9 _ _ ho6
          refine ⟨p, dxp, _, rfl, ho9, .inl ⟨y9, dy9, _, rfl, k9⟩, p, y9, x, x, rfl, ⟨dxp, ho9⟩, ⟨dy9, k9⟩, ⟨_, rfl, ?_⟩⟩
          rw [decide_eq_true rfl]
          walk_at "go"
          refine ix1 s9 ?_
          walk_at "go"
          refine ix2 s9 ?_
          walk_at "go"
          refine iu0 s9 ?_
          walk_at "go"
          refine ix2 s9 ?_
          walk_at "go"
          refine iu1 s9 ?_
          walk_at "go"
          intro y10 dy10 ny10 ndy10 nyd10
          refine ⟨y10, dy10, ((x.1 + 1, x.2)), rfl, upd_same, ⟨rfl, ?_⟩⟩
          generalize z10 : upd (upd (upd H9 dy10 (.own y10)) y10 (.ins T.C_Finding dy10 [])) y10 _ = Ha
          have t10 : Same H9 Ha := by
            rw [← z10]
            exact ((But.of (same_upd (o := .own y10) ndy10))).upd.upd.same ny10
          have k10 : Ha y10 = some (.ins T.C_Finding dy10 (obj ky_Finding [.int (((x.1 + 1, x.2)) : Int × Str).1, .str (((x.1 + 1, x.2)) : Int × Str).2])) := (congrFun z10 y10).symm.trans upd_same
          clear z10
          have s10 := s9.trans t10
          have ne10 : ¬ x = (x.1 + 1, x.2) := fun z => by
            have := congrArg Prod.fst z
            dsimp only at this
            omega
          have ho10 := s10 _ _ ho6
          refine ⟨p, dxp, _, rfl, ho10, .inl ⟨y10, dy10, _, rfl, k10⟩, p, y10, x, (x.1 + 1, x.2), rfl, ⟨dxp, ho10⟩, ⟨dy10, k10⟩, ⟨_, rfl, ?_⟩⟩
          rw [decide_eq_false ne10]
          walk_at "go"
          refine ix1 s10 ?_
          walk_at "go"
          refine ix2 s10 ?_
          walk_at "go"
          refine iu0 s10 ?_
          walk_at "go"
          refine ix2 s10 ?_
          walk_at "go"
          refine iu1 s10 ?_
          walk_at "go"
          refine g_addS (by rw [dot_len]; have := S_len _ mx; omega) ?_
          walk_at "go"
          intro y11 dy11 ny11 ndy11 nyd11
          refine ⟨y11, dy11, ((x.1, x.2 ++ ("." : Str))), rfl, upd_same, ⟨rfl, ?_⟩⟩
          generalize z11 : upd (upd (upd Ha dy11 (.own y11)) y11 (.ins T.C_Finding dy11 [])) y11 _ = Hb
          have t11 : Same Ha Hb := by
            rw [← z11]
            exact ((But.of (same_upd (o := .own y11) ndy11))).upd.upd.same ny11
          have k11 : Hb y11 = some (.ins T.C_Finding dy11 (obj ky_Finding [.int (((x.1, x.2 ++ ("." : Str))) : Int × Str).1, .str (((x.1, x.2 ++ ("." : Str))) : Int × Str).2])) := (congrFun z11 y11).symm.trans upd_same
          clear z11
          have s11 := s10.trans t11
          have ne11 : ¬ x = (x.1, x.2 ++ ("." : Str)) := fun z => by
            have := congrArg (fun w : Int × Str => w.2.length) z
            dsimp only at this
            rw [PySem.Str.length_append, dot_len] at this
            omega
          have ho11 := s11 _ _ ho6
          refine ⟨p, dxp, _, rfl, ho11, .inl ⟨y11, dy11, _, rfl, k11⟩, p, y11, x, (x.1, x.2 ++ ("." : Str)), rfl, ⟨dxp, ho11⟩, ⟨dy11, k11⟩, ⟨_, rfl, ?_⟩⟩
          rw [decide_eq_false ne11]
          walk_at "go"
          exact ⟨⟨_, rfl⟩, s11⟩
end
end My
namespace My
open PySem PySem.Spec L2
local macro_rules | `(tactic| walk_at "side") => `(tactic| first | assumption | decide | omega | exact ⟨by decide, by decide⟩ | exact ⟨by decide, by decide, by decide⟩ | decide +kernel | exact cdivW (by decide +kernel) (by decide +kernel) | exact Or.inl ⟨by omega, by omega⟩ | exact Or.inr ⟨by omega, by omega⟩ | (simp only [List.length_map, List.length_cons, List.length_nil, List.length_append]; omega))
local macro_rules | `(tactic| walk_at "fact") => `(tactic| first | assumption | omega | with_reducible rfl)
local macro_rules | `(tactic| walk_at "use") => `(tactic| fail "use")
local macro_rules | `(tactic| walk_at "go1") => `(tactic| with_reducible first | refine g_seq ?_ | refine g_asg ?_ | refine g_ret ?_ | refine g_ifS ?_ | refine g_drop ?_ | refine g_star ?_ | refine g_nx ?_ | refine g_rt ?_ | refine g_bkE ?_ | refine g_ctE ?_ | refine g_next ?_ | refine g_retN ?_ | refine g_brk ?_ | refine g_ct ?_ | refine g_c ?_ | refine g_op ?_ | refine g_un ?_ | refine g_rI0 ?_ | refine g_rU ?_ | refine g_rEqI ?_ | refine g_rNeI ?_ | refine g_isN ?_ | refine g_rIsB ?_ | refine g_rNotB ?_ | refine g_test ?_ | refine g_B ?_ | refine g_bl ?_ | refine g_and ?_ | refine g_or ?_ | refine g_not ?_ | refine g_andV ?_ | refine g_orV ?_ | refine g_notV ?_ | refine g_if ?_ | refine g_chain ?_ | refine g_yes ?_ | refine g_lc ?_ | refine g_revR ?_ | refine g_rng1 ?_ | refine g_iList ?_ | refine g_nil ?_ | refine g_cons ?_ | refine g_tup ?_ | refine g_lst ?_ | refine g_call ?_ | refine g_CB ?_ | refine g_sl ?_ | refine g_noPart ?_ | refine g_part ?_ | refine g_intE ?_ | refine g_ref ?_ | refine g_fld ?_ | refine g_sfld ?_ | refine g_meth ?_ | refine g_make ?_ | refine g_prop ?_  | refine g_ipI ?_ | refine g_int1 ?_ | refine g_int1B ?_ | refine g_one ?_ | refine g_two ?_ | refine g_isiI ?_ | refine g_isiIB ?_ | refine g_isiB ?_ | refine g_BM ?_ | refine g_BM0 ?_ | refine g_sub ?_)
local macro_rules | `(tactic| walk_at "go") => `(tactic| repeat (first | walk_at "go1" | ((with_reducible refine' g_nameE ?sd_ ?_); case sd_ => dsimp only [List.set_cons_succ, List.set_cons_zero]) | ((with_reducible refine' g_var ?sd_ ?_); case sd_ => exact rfl) | ((with_reducible refine' g_aug ?sd_ ?_); case sd_ => exact rfl) | ((with_reducible refine' g_rI ?sd_ ?_); case sd_ => walk_at "side") | ((with_reducible refine' g_dT ?sd_ ?_); case sd_ => walk_at "fact") | ((with_reducible refine' g_dF ?sd_ ?_); case sd_ => walk_at "fact") | ((with_reducible refine' g_nT ?sd_ ?_); case sd_ => walk_at "fact") | ((with_reducible refine' g_nF ?sd_ ?_); case sd_ => walk_at "fact") | (with_reducible refine g_iT rfl ?_) | (with_reducible refine g_iF rfl ?_) | walk_at "use"))
theorem all_mk {l : PySem.W.OpenLaw} {w : World} {K : PySem.W.Frag} {h : Heap} {mg : Str → Option Value} {fa : Addr} (X : K.In h) (G : h.Ns mainGlobals mg) (hfa : mg "law" = some (.ref fa))
    {t_TICK_BACK : Tok} {t_WRONG_NUMBER : Tok} {t_NOT_UNDER_WAY : Tok} {t_OTHER_PACKET : Tok} {t_TOO_YOUNG : Tok} {t_TOO_OLD : Tok} {C_Finding : Addr} {C_PacketJudge : Addr} {C_Packet : Addr} {C_Record : Addr} {f_Finding_init__ : Addr} {od_Finding_init__ an_Finding_init__ : Option Addr} {sl_Finding_init__ : Array (Option Value)} {oc_Finding_init__ kV_Finding_init__ dc_Finding_init__ pm_Finding_init__ cd_Finding_init__ ct_Finding_init__ : Value} {f_Finding_eq__ : Addr} {od_Finding_eq__ an_Finding_eq__ : Option Addr} {sl_Finding_eq__ : Array (Option Value)} {oc_Finding_eq__ kV_Finding_eq__ dc_Finding_eq__ pm_Finding_eq__ cd_Finding_eq__ ct_Finding_eq__ : Value} {f_judge_packets : Addr} {od_judge_packets an_judge_packets : Option Addr} {sl_judge_packets : Array (Option Value)} {oc_judge_packets dc_judge_packets pm_judge_packets cd_judge_packets ct_judge_packets : Value} {kV_judge_packets : Value} {f_PacketJudge_init__ : Addr} {od_PacketJudge_init__ an_PacketJudge_init__ : Option Addr} {sl_PacketJudge_init__ : Array (Option Value)} {oc_PacketJudge_init__ kV_PacketJudge_init__ dc_PacketJudge_init__ pm_PacketJudge_init__ cd_PacketJudge_init__ ct_PacketJudge_init__ : Value} {f_PacketJudge_problems_of : Addr} {od_PacketJudge_problems_of an_PacketJudge_problems_of : Option Addr} {sl_PacketJudge_problems_of : Array (Option Value)} {oc_PacketJudge_problems_of kV_PacketJudge_problems_of dc_PacketJudge_problems_of pm_PacketJudge_problems_of cd_PacketJudge_problems_of ct_PacketJudge_problems_of : Value} {f_PacketJudge_problems_under_way : Addr} {od_PacketJudge_problems_under_way an_PacketJudge_problems_under_way : Option Addr} {sl_PacketJudge_problems_under_way : Array (Option Value)} {oc_PacketJudge_problems_under_way kV_PacketJudge_problems_under_way dc_PacketJudge_problems_under_way pm_PacketJudge_problems_under_way cd_PacketJudge_problems_under_way ct_PacketJudge_problems_under_way : Value} {f_PacketJudge_learn : Addr} {od_PacketJudge_learn an_PacketJudge_learn : Option Addr} {sl_PacketJudge_learn : Array (Option Value)} {oc_PacketJudge_learn kV_PacketJudge_learn dc_PacketJudge_learn pm_PacketJudge_learn cd_PacketJudge_learn ct_PacketJudge_learn : Value} {f_is_same : Addr} {od_is_same an_is_same : Option Addr} {sl_is_same : Array (Option Value)} {oc_is_same kV_is_same dc_is_same pm_is_same cd_is_same ct_is_same : Value} {f_Packet_init__ : Addr} {od_Packet_init__ an_Packet_init__ : Option Addr} {sl_Packet_init__ : Array (Option Value)} {oc_Packet_init__ dc_Packet_init__ pm_Packet_init__ cd_Packet_init__ ct_Packet_init__ : Value} {kd_Packet_init__ : Addr} {f_Packet_fork : Addr} {od_Packet_fork an_Packet_fork : Option Addr} {sl_Packet_fork : Array (Option Value)} {oc_Packet_fork kV_Packet_fork dc_Packet_fork pm_Packet_fork cd_Packet_fork ct_Packet_fork : Value} {f_Record_init__ : Addr} {od_Record_init__ an_Record_init__ : Option Addr} {sl_Record_init__ : Array (Option Value)} {oc_Record_init__ kV_Record_init__ dc_Record_init__ pm_Record_init__ cd_Record_init__ ct_Record_init__ : Value} {f_l_cell : Addr} {od_l_cell an_l_cell : Option Addr} {sl_l_cell : Array (Option Value)} {oc_l_cell kV_l_cell dc_l_cell pm_l_cell cd_l_cell ct_l_cell : Value} {f_l_is_integer : Addr} {od_l_is_integer an_l_is_integer : Option Addr} {sl_l_is_integer : Array (Option Value)} {oc_l_is_integer kV_l_is_integer dc_l_is_integer pm_l_is_integer cd_l_is_integer ct_l_is_integer : Value} {f_l_start : Addr} {od_l_start an_l_start : Option Addr} {sl_l_start : Array (Option Value)} {oc_l_start kV_l_start dc_l_start pm_l_start cd_l_start ct_l_start : Value} {f_l_digit : Addr} {od_l_digit an_l_digit : Option Addr} {sl_l_digit : Array (Option Value)} {oc_l_digit kV_l_digit dc_l_digit pm_l_digit cd_l_digit ct_l_digit : Value} {f_l_row : Addr} {od_l_row an_l_row : Option Addr} {sl_l_row : Array (Option Value)} {oc_l_row kV_l_row dc_l_row pm_l_row cd_l_row ct_l_row : Value} {f_l_first : Addr} {od_l_first an_l_first : Option Addr} {sl_l_first : Array (Option Value)} {oc_l_first kV_l_first dc_l_first pm_l_first cd_l_first ct_l_first : Value} {f_l_copies : Addr} {od_l_copies an_l_copies : Option Addr} {sl_l_copies : Array (Option Value)} {oc_l_copies kV_l_copies dc_l_copies pm_l_copies cd_l_copies ct_l_copies : Value} {f_l_problems : Addr} {od_l_problems an_l_problems : Option Addr} {sl_l_problems : Array (Option Value)} {oc_l_problems kV_l_problems dc_l_problems pm_l_problems cd_l_problems ct_l_problems : Value} {f_l_record : Addr} {od_l_record an_l_record : Option Addr} {sl_l_record : Array (Option Value)} {oc_l_record kV_l_record dc_l_record pm_l_record cd_l_record ct_l_record : Value} {f_law : Addr} {od_law an_law : Option Addr} {sl_law : Array (Option Value)} {oc_law kV_law dc_law pm_law cd_law ct_law : Value}
    (v_TICK_BACK : PySem.W.nsIn K mainGlobals "TICK_BACK" = some (some (.str (PySem.Str.ofString "the tick goes back") t_TICK_BACK)))
    (v_WRONG_NUMBER : PySem.W.nsIn K mainGlobals "WRONG_NUMBER" = some (some (.str (PySem.Str.ofString "the number is not the next one") t_WRONG_NUMBER)))
    (v_NOT_UNDER_WAY : PySem.W.nsIn K mainGlobals "NOT_UNDER_WAY" = some (some (.str (PySem.Str.ofString "the packet is not under way") t_NOT_UNDER_WAY)))
    (v_OTHER_PACKET : PySem.W.nsIn K mainGlobals "OTHER_PACKET" = some (some (.str (PySem.Str.ofString "the packet is not the one that was sent") t_OTHER_PACKET)))
    (v_TOO_YOUNG : PySem.W.nsIn K mainGlobals "TOO_YOUNG" = some (some (.str (PySem.Str.ofString "the packet is too young to expire") t_TOO_YOUNG)))
    (v_TOO_OLD : PySem.W.nsIn K mainGlobals "TOO_OLD" = some (some (.str (PySem.Str.ofString "the packet is too old") t_TOO_OLD)))
    (c_Finding : PySem.W.nsIn K mainGlobals "Finding" = some (some (.ref C_Finding)))
    (pg_Finding : PySem.W.plainGet K C_Finding Str.empty = true)
    (hd_Finding : PySem.W.hasDictIn K C_Finding = true)
    (po_Finding : PySem.W.plainOver K C_Finding = true)
    (sa_Finding : PySem.W.findIn K (.ref C_Finding) "__setattr__" = some (some (.builtin "object.__setattr__")))
    (mk0_Finding : PySem.W.makesIn K C_Finding = true)
    (kc_Finding : PySem.W.keepIn K (.ref C_Finding) = true)
    (ha_Finding : PySem.W.findIn K (.ref C_Finding) "__class__" = some (some (.builtin "object.__class__")))
    (hm_Finding : PySem.W.mroIn K C_Finding (.type "object") = some true)
    (hn_all : PySem.W.specialIn K (.builtin "object.__class__") "__get__" = some (some (.builtin "getset_descriptor.__get__")))
    (ht_all : PySem.W.takesIn K (.builtin "object.__class__") = some true)
    (q_Finding : PySem.W.subIn K (.type "int") (.ref C_Finding) = some false)
    (ic_Finding : PySem.W.isClsIn K C_Finding = true)
    (tc_Finding : PySem.W.typeIn K (.ref C_Finding) = some (.type "type"))
    (n_Finding_index : PySem.W.findIn K (.ref C_Finding) "index" = some none)
    (n_Finding_problem : PySem.W.findIn K (.ref C_Finding) "problem" = some none)
    (c_PacketJudge : PySem.W.nsIn K mainGlobals "PacketJudge" = some (some (.ref C_PacketJudge)))
    (pg_PacketJudge : PySem.W.plainGet K C_PacketJudge Str.empty = true)
    (hd_PacketJudge : PySem.W.hasDictIn K C_PacketJudge = true)
    (po_PacketJudge : PySem.W.plainOver K C_PacketJudge = true)
    (sa_PacketJudge : PySem.W.findIn K (.ref C_PacketJudge) "__setattr__" = some (some (.builtin "object.__setattr__")))
    (mk0_PacketJudge : PySem.W.makesIn K C_PacketJudge = true)
    (kc_PacketJudge : PySem.W.keepIn K (.ref C_PacketJudge) = true)
    (n_PacketJudge__life : PySem.W.findIn K (.ref C_PacketJudge) "_life" = some none)
    (n_PacketJudge__tick_before : PySem.W.findIn K (.ref C_PacketJudge) "_tick_before" = some none)
    (n_PacketJudge__last : PySem.W.findIn K (.ref C_PacketJudge) "_last" = some none)
    (n_PacketJudge__first : PySem.W.findIn K (.ref C_PacketJudge) "_first" = some none)
    (n_PacketJudge__copies : PySem.W.findIn K (.ref C_PacketJudge) "_copies" = some none)
    (c_Packet : PySem.W.nsIn K mainGlobals "Packet" = some (some (.ref C_Packet)))
    (pg_Packet : PySem.W.plainGet K C_Packet Str.empty = true)
    (hd_Packet : PySem.W.hasDictIn K C_Packet = true)
    (po_Packet : PySem.W.plainOver K C_Packet = true)
    (sa_Packet : PySem.W.findIn K (.ref C_Packet) "__setattr__" = some (some (.builtin "object.__setattr__")))
    (mk0_Packet : PySem.W.makesIn K C_Packet = true)
    (kc_Packet : PySem.W.keepIn K (.ref C_Packet) = true)
    (ha_Packet : PySem.W.findIn K (.ref C_Packet) "__class__" = some (some (.builtin "object.__class__")))
    (hm_Packet : PySem.W.mroIn K C_Packet (.type "object") = some true)
    (n_Packet_sender : PySem.W.findIn K (.ref C_Packet) "sender" = some none)
    (n_Packet_target : PySem.W.findIn K (.ref C_Packet) "target" = some none)
    (n_Packet_octets : PySem.W.findIn K (.ref C_Packet) "octets" = some none)
    (n_Packet_marked : PySem.W.findIn K (.ref C_Packet) "marked" = some none)
    (c_Record : PySem.W.nsIn K mainGlobals "Record" = some (some (.ref C_Record)))
    (pg_Record : PySem.W.plainGet K C_Record Str.empty = true)
    (hd_Record : PySem.W.hasDictIn K C_Record = true)
    (po_Record : PySem.W.plainOver K C_Record = true)
    (sa_Record : PySem.W.findIn K (.ref C_Record) "__setattr__" = some (some (.builtin "object.__setattr__")))
    (mk0_Record : PySem.W.makesIn K C_Record = true)
    (kc_Record : PySem.W.keepIn K (.ref C_Record) = true)
    (ha_Record : PySem.W.findIn K (.ref C_Record) "__class__" = some (some (.builtin "object.__class__")))
    (hm_Record : PySem.W.mroIn K C_Record (.type "object") = some true)
    (n_Record_tick : PySem.W.findIn K (.ref C_Record) "tick" = some none)
    (n_Record_number : PySem.W.findIn K (.ref C_Record) "number" = some none)
    (n_Record_word : PySem.W.findIn K (.ref C_Record) "word" = some none)
    (n_Record_packet : PySem.W.findIn K (.ref C_Record) "packet" = some none)
    (a_Finding_init__ : PySem.W.findIn K (.ref C_Finding) "__init__" = some (some (.ref f_Finding_init__)))
    (i_Finding_init__ : PySem.W.isFn K (.ref f_Finding_init__) = true)
    (l_Finding_init__ : K.lookup f_Finding_init__ = some ⟨oc_Finding_init__, od_Finding_init__, .func (PySem.W.fnOf "__init__" "Finding.__init__" (defArgs s_Finding_init__) (defBody s_Finding_init__) (defScope s_Finding_init__) .none kV_Finding_init__ dc_Finding_init__ pm_Finding_init__ an_Finding_init__ cd_Finding_init__ ct_Finding_init__), sl_Finding_init__⟩)
    (cc_Finding_init__ : PySem.W.codeIn K cd_Finding_init__ "Finding.__init__" = true)
    (kk_Finding_init__ : PySem.W.keepIn K (.ref f_Finding_init__) = true)
    (a_Finding_eq__ : PySem.W.findIn K (.ref C_Finding) "__eq__" = some (some (.ref f_Finding_eq__)))
    (i_Finding_eq__ : PySem.W.isFn K (.ref f_Finding_eq__) = true)
    (l_Finding_eq__ : K.lookup f_Finding_eq__ = some ⟨oc_Finding_eq__, od_Finding_eq__, .func (PySem.W.fnOf "__eq__" "Finding.__eq__" (defArgs s_Finding_eq__) (defBody s_Finding_eq__) (defScope s_Finding_eq__) .none kV_Finding_eq__ dc_Finding_eq__ pm_Finding_eq__ an_Finding_eq__ cd_Finding_eq__ ct_Finding_eq__), sl_Finding_eq__⟩)
    (cc_Finding_eq__ : PySem.W.codeIn K cd_Finding_eq__ "Finding.__eq__" = true)
    (kk_Finding_eq__ : PySem.W.keepIn K (.ref f_Finding_eq__) = true)
    (a_judge_packets : PySem.W.nsIn K mainGlobals "judge_packets" = some (some (.ref f_judge_packets)))
    (l_judge_packets : K.lookup f_judge_packets = some ⟨oc_judge_packets, od_judge_packets, .func (PySem.W.fnOf "judge_packets" "judge_packets" (defArgs s_judge_packets) (defBody s_judge_packets) (defScope s_judge_packets) .none kV_judge_packets dc_judge_packets pm_judge_packets an_judge_packets cd_judge_packets ct_judge_packets), sl_judge_packets⟩)
    (cc_judge_packets : PySem.W.codeIn K cd_judge_packets "judge_packets" = true)
    (kk_judge_packets : PySem.W.keepIn K (.ref f_judge_packets) = true)
    (a_PacketJudge_init__ : PySem.W.findIn K (.ref C_PacketJudge) "__init__" = some (some (.ref f_PacketJudge_init__)))
    (i_PacketJudge_init__ : PySem.W.isFn K (.ref f_PacketJudge_init__) = true)
    (l_PacketJudge_init__ : K.lookup f_PacketJudge_init__ = some ⟨oc_PacketJudge_init__, od_PacketJudge_init__, .func (PySem.W.fnOf "__init__" "PacketJudge.__init__" (defArgs s_PacketJudge_init__) (defBody s_PacketJudge_init__) (defScope s_PacketJudge_init__) .none kV_PacketJudge_init__ dc_PacketJudge_init__ pm_PacketJudge_init__ an_PacketJudge_init__ cd_PacketJudge_init__ ct_PacketJudge_init__), sl_PacketJudge_init__⟩)
    (cc_PacketJudge_init__ : PySem.W.codeIn K cd_PacketJudge_init__ "PacketJudge.__init__" = true)
    (kk_PacketJudge_init__ : PySem.W.keepIn K (.ref f_PacketJudge_init__) = true)
    (a_PacketJudge_problems_of : PySem.W.findIn K (.ref C_PacketJudge) "problems_of" = some (some (.ref f_PacketJudge_problems_of)))
    (i_PacketJudge_problems_of : PySem.W.isFn K (.ref f_PacketJudge_problems_of) = true)
    (l_PacketJudge_problems_of : K.lookup f_PacketJudge_problems_of = some ⟨oc_PacketJudge_problems_of, od_PacketJudge_problems_of, .func (PySem.W.fnOf "problems_of" "PacketJudge.problems_of" (defArgs s_PacketJudge_problems_of) (defBody s_PacketJudge_problems_of) (defScope s_PacketJudge_problems_of) .none kV_PacketJudge_problems_of dc_PacketJudge_problems_of pm_PacketJudge_problems_of an_PacketJudge_problems_of cd_PacketJudge_problems_of ct_PacketJudge_problems_of), sl_PacketJudge_problems_of⟩)
    (cc_PacketJudge_problems_of : PySem.W.codeIn K cd_PacketJudge_problems_of "PacketJudge.problems_of" = true)
    (kk_PacketJudge_problems_of : PySem.W.keepIn K (.ref f_PacketJudge_problems_of) = true)
    (a_PacketJudge_problems_under_way : PySem.W.findIn K (.ref C_PacketJudge) "_problems_under_way" = some (some (.ref f_PacketJudge_problems_under_way)))
    (i_PacketJudge_problems_under_way : PySem.W.isFn K (.ref f_PacketJudge_problems_under_way) = true)
    (l_PacketJudge_problems_under_way : K.lookup f_PacketJudge_problems_under_way = some ⟨oc_PacketJudge_problems_under_way, od_PacketJudge_problems_under_way, .func (PySem.W.fnOf "_problems_under_way" "PacketJudge._problems_under_way" (defArgs s_PacketJudge_problems_under_way) (defBody s_PacketJudge_problems_under_way) (defScope s_PacketJudge_problems_under_way) .none kV_PacketJudge_problems_under_way dc_PacketJudge_problems_under_way pm_PacketJudge_problems_under_way an_PacketJudge_problems_under_way cd_PacketJudge_problems_under_way ct_PacketJudge_problems_under_way), sl_PacketJudge_problems_under_way⟩)
    (cc_PacketJudge_problems_under_way : PySem.W.codeIn K cd_PacketJudge_problems_under_way "PacketJudge._problems_under_way" = true)
    (kk_PacketJudge_problems_under_way : PySem.W.keepIn K (.ref f_PacketJudge_problems_under_way) = true)
    (a_PacketJudge_learn : PySem.W.findIn K (.ref C_PacketJudge) "_learn" = some (some (.ref f_PacketJudge_learn)))
    (i_PacketJudge_learn : PySem.W.isFn K (.ref f_PacketJudge_learn) = true)
    (l_PacketJudge_learn : K.lookup f_PacketJudge_learn = some ⟨oc_PacketJudge_learn, od_PacketJudge_learn, .func (PySem.W.fnOf "_learn" "PacketJudge._learn" (defArgs s_PacketJudge_learn) (defBody s_PacketJudge_learn) (defScope s_PacketJudge_learn) .none kV_PacketJudge_learn dc_PacketJudge_learn pm_PacketJudge_learn an_PacketJudge_learn cd_PacketJudge_learn ct_PacketJudge_learn), sl_PacketJudge_learn⟩)
    (cc_PacketJudge_learn : PySem.W.codeIn K cd_PacketJudge_learn "PacketJudge._learn" = true)
    (kk_PacketJudge_learn : PySem.W.keepIn K (.ref f_PacketJudge_learn) = true)
    (a_is_same : PySem.W.nsIn K mainGlobals "_is_same" = some (some (.ref f_is_same)))
    (l_is_same : K.lookup f_is_same = some ⟨oc_is_same, od_is_same, .func (PySem.W.fnOf "_is_same" "_is_same" (defArgs s_is_same) (defBody s_is_same) (defScope s_is_same) .none kV_is_same dc_is_same pm_is_same an_is_same cd_is_same ct_is_same), sl_is_same⟩)
    (cc_is_same : PySem.W.codeIn K cd_is_same "_is_same" = true)
    (kk_is_same : PySem.W.keepIn K (.ref f_is_same) = true)
    (a_Packet_init__ : PySem.W.findIn K (.ref C_Packet) "__init__" = some (some (.ref f_Packet_init__)))
    (i_Packet_init__ : PySem.W.isFn K (.ref f_Packet_init__) = true)
    (l_Packet_init__ : K.lookup f_Packet_init__ = some ⟨oc_Packet_init__, od_Packet_init__, .func (PySem.W.fnOf "__init__" "Packet.__init__" (defArgs s_Packet_init__) (defBody s_Packet_init__) (defScope s_Packet_init__) .none (.ref kd_Packet_init__) dc_Packet_init__ pm_Packet_init__ an_Packet_init__ cd_Packet_init__ ct_Packet_init__), sl_Packet_init__⟩)
    (kw_Packet_init___marked : PySem.W.nsIn K kd_Packet_init__ "marked" = some (some (.bool false)))
    (cc_Packet_init__ : PySem.W.codeIn K cd_Packet_init__ "Packet.__init__" = true)
    (kk_Packet_init__ : PySem.W.keepIn K (.ref f_Packet_init__) = true)
    (a_Packet_fork : PySem.W.findIn K (.ref C_Packet) "fork" = some (some (.ref f_Packet_fork)))
    (i_Packet_fork : PySem.W.isFn K (.ref f_Packet_fork) = true)
    (l_Packet_fork : K.lookup f_Packet_fork = some ⟨oc_Packet_fork, od_Packet_fork, .func (PySem.W.fnOf "fork" "Packet.fork" (defArgs s_Packet_fork) (defBody s_Packet_fork) (defScope s_Packet_fork) .none kV_Packet_fork dc_Packet_fork pm_Packet_fork an_Packet_fork cd_Packet_fork ct_Packet_fork), sl_Packet_fork⟩)
    (cc_Packet_fork : PySem.W.codeIn K cd_Packet_fork "Packet.fork" = true)
    (kk_Packet_fork : PySem.W.keepIn K (.ref f_Packet_fork) = true)
    (a_Record_init__ : PySem.W.findIn K (.ref C_Record) "__init__" = some (some (.ref f_Record_init__)))
    (i_Record_init__ : PySem.W.isFn K (.ref f_Record_init__) = true)
    (l_Record_init__ : K.lookup f_Record_init__ = some ⟨oc_Record_init__, od_Record_init__, .func (PySem.W.fnOf "__init__" "Record.__init__" (defArgs s_Record_init__) (defBody s_Record_init__) (defScope s_Record_init__) .none kV_Record_init__ dc_Record_init__ pm_Record_init__ an_Record_init__ cd_Record_init__ ct_Record_init__), sl_Record_init__⟩)
    (cc_Record_init__ : PySem.W.codeIn K cd_Record_init__ "Record.__init__" = true)
    (kk_Record_init__ : PySem.W.keepIn K (.ref f_Record_init__) = true)
    (a_l_cell : PySem.W.nsIn K mainGlobals "_law_cell" = some (some (.ref f_l_cell)))
    (l_l_cell : K.lookup f_l_cell = some ⟨oc_l_cell, od_l_cell, .func (PySem.W.fnOf "_law_cell" "_law_cell" (defArgs s_l_cell) (defBody s_l_cell) (defScope s_l_cell) .none kV_l_cell dc_l_cell pm_l_cell an_l_cell cd_l_cell ct_l_cell), sl_l_cell⟩)
    (cc_l_cell : PySem.W.codeIn K cd_l_cell "_law_cell" = true)
    (kk_l_cell : PySem.W.keepIn K (.ref f_l_cell) = true)
    (a_l_is_integer : PySem.W.nsIn K mainGlobals "_law_is_integer" = some (some (.ref f_l_is_integer)))
    (l_l_is_integer : K.lookup f_l_is_integer = some ⟨oc_l_is_integer, od_l_is_integer, .func (PySem.W.fnOf "_law_is_integer" "_law_is_integer" (defArgs s_l_is_integer) (defBody s_l_is_integer) (defScope s_l_is_integer) .none kV_l_is_integer dc_l_is_integer pm_l_is_integer an_l_is_integer cd_l_is_integer ct_l_is_integer), sl_l_is_integer⟩)
    (cc_l_is_integer : PySem.W.codeIn K cd_l_is_integer "_law_is_integer" = true)
    (kk_l_is_integer : PySem.W.keepIn K (.ref f_l_is_integer) = true)
    (a_l_start : PySem.W.nsIn K mainGlobals "_law_start" = some (some (.ref f_l_start)))
    (l_l_start : K.lookup f_l_start = some ⟨oc_l_start, od_l_start, .func (PySem.W.fnOf "_law_start" "_law_start" (defArgs s_l_start) (defBody s_l_start) (defScope s_l_start) .none kV_l_start dc_l_start pm_l_start an_l_start cd_l_start ct_l_start), sl_l_start⟩)
    (cc_l_start : PySem.W.codeIn K cd_l_start "_law_start" = true)
    (kk_l_start : PySem.W.keepIn K (.ref f_l_start) = true)
    (a_l_digit : PySem.W.nsIn K mainGlobals "_law_digit" = some (some (.ref f_l_digit)))
    (l_l_digit : K.lookup f_l_digit = some ⟨oc_l_digit, od_l_digit, .func (PySem.W.fnOf "_law_digit" "_law_digit" (defArgs s_l_digit) (defBody s_l_digit) (defScope s_l_digit) .none kV_l_digit dc_l_digit pm_l_digit an_l_digit cd_l_digit ct_l_digit), sl_l_digit⟩)
    (cc_l_digit : PySem.W.codeIn K cd_l_digit "_law_digit" = true)
    (kk_l_digit : PySem.W.keepIn K (.ref f_l_digit) = true)
    (a_l_row : PySem.W.nsIn K mainGlobals "_law_row" = some (some (.ref f_l_row)))
    (l_l_row : K.lookup f_l_row = some ⟨oc_l_row, od_l_row, .func (PySem.W.fnOf "_law_row" "_law_row" (defArgs s_l_row) (defBody s_l_row) (defScope s_l_row) .none kV_l_row dc_l_row pm_l_row an_l_row cd_l_row ct_l_row), sl_l_row⟩)
    (cc_l_row : PySem.W.codeIn K cd_l_row "_law_row" = true)
    (kk_l_row : PySem.W.keepIn K (.ref f_l_row) = true)
    (a_l_first : PySem.W.nsIn K mainGlobals "_law_first" = some (some (.ref f_l_first)))
    (l_l_first : K.lookup f_l_first = some ⟨oc_l_first, od_l_first, .func (PySem.W.fnOf "_law_first" "_law_first" (defArgs s_l_first) (defBody s_l_first) (defScope s_l_first) .none kV_l_first dc_l_first pm_l_first an_l_first cd_l_first ct_l_first), sl_l_first⟩)
    (cc_l_first : PySem.W.codeIn K cd_l_first "_law_first" = true)
    (kk_l_first : PySem.W.keepIn K (.ref f_l_first) = true)
    (a_l_copies : PySem.W.nsIn K mainGlobals "_law_copies" = some (some (.ref f_l_copies)))
    (l_l_copies : K.lookup f_l_copies = some ⟨oc_l_copies, od_l_copies, .func (PySem.W.fnOf "_law_copies" "_law_copies" (defArgs s_l_copies) (defBody s_l_copies) (defScope s_l_copies) .none kV_l_copies dc_l_copies pm_l_copies an_l_copies cd_l_copies ct_l_copies), sl_l_copies⟩)
    (cc_l_copies : PySem.W.codeIn K cd_l_copies "_law_copies" = true)
    (kk_l_copies : PySem.W.keepIn K (.ref f_l_copies) = true)
    (a_l_problems : PySem.W.nsIn K mainGlobals "_law_problems" = some (some (.ref f_l_problems)))
    (l_l_problems : K.lookup f_l_problems = some ⟨oc_l_problems, od_l_problems, .func (PySem.W.fnOf "_law_problems" "_law_problems" (defArgs s_l_problems) (defBody s_l_problems) (defScope s_l_problems) .none kV_l_problems dc_l_problems pm_l_problems an_l_problems cd_l_problems ct_l_problems), sl_l_problems⟩)
    (cc_l_problems : PySem.W.codeIn K cd_l_problems "_law_problems" = true)
    (kk_l_problems : PySem.W.keepIn K (.ref f_l_problems) = true)
    (a_l_record : PySem.W.nsIn K mainGlobals "_law_record" = some (some (.ref f_l_record)))
    (l_l_record : K.lookup f_l_record = some ⟨oc_l_record, od_l_record, .func (PySem.W.fnOf "_law_record" "_law_record" (defArgs s_l_record) (defBody s_l_record) (defScope s_l_record) .none kV_l_record dc_l_record pm_l_record an_l_record cd_l_record ct_l_record), sl_l_record⟩)
    (cc_l_record : PySem.W.codeIn K cd_l_record "_law_record" = true)
    (kk_l_record : PySem.W.keepIn K (.ref f_l_record) = true)
    (a_law : PySem.W.nsIn K mainGlobals "law" = some (some (.ref f_law)))
    (l_law : K.lookup f_law = some ⟨oc_law, od_law, .func (PySem.W.fnOf "law" "law" (defArgs s_law) (defBody s_law) (defScope s_law) .none kV_law dc_law pm_law an_law cd_law ct_law), sl_law⟩)
    (cc_law : PySem.W.codeIn K cd_law "law" = true)
    (kk_law : PySem.W.keepIn K (.ref f_law) = true)
    (z_bool : PySem.W.nsIn K mainGlobals "bool" = some none)
    (z_enumerate : PySem.W.nsIn K mainGlobals "enumerate" = some none)
    (z_int : PySem.W.nsIn K mainGlobals "int" = some none)
    (z_isinstance : PySem.W.nsIn K mainGlobals "isinstance" = some none)
    (z_len : PySem.W.nsIn K mainGlobals "len" = some none)
    (z_list : PySem.W.nsIn K mainGlobals "list" = some none)
    (z_max : PySem.W.nsIn K mainGlobals "max" = some none)
    (z_min : PySem.W.nsIn K mainGlobals "min" = some none)
    (z_range : PySem.W.nsIn K mainGlobals "range" = some none)
    : ∃ fd : FuncData, (∀ (s : Shared) (v : Value), BindsTo s fd ⟨[v], []⟩ [("script", v)]) ∧ ∀ base : Heap, K.In base → base.Ns mainGlobals mg → FnOk l.prog w K mg base CX0 7 fa fd ["script"] (sp_law K) := by
  have e := hfa.symm.trans (PySem.W.mg_of X G a_law)
  have e2 : f_law = fa := by
    injection e with e
    injection e with e
    exact e.symm
  subst e2
  have F_Finding_init__ := fun_mk (st := s_Finding_init__) l_Finding_init__ cc_Finding_init__ kk_Finding_init__
  have b_Finding_init__ := F_Finding_init__.binds (ps := ["self", "index", "problem"]) fun _ _ _ _ _ _ us hl => match us, hl with | [_, _, _], _ => rfl
  have F_Finding_eq__ := fun_mk (st := s_Finding_eq__) l_Finding_eq__ cc_Finding_eq__ kk_Finding_eq__
  have b_Finding_eq__ := F_Finding_eq__.binds (ps := ["self", "other"]) fun _ _ _ _ _ _ us hl => match us, hl with | [_, _], _ => rfl
  have F_judge_packets : FunD K "judge_packets" "judge_packets" (defArgs s_judge_packets) (defBody s_judge_packets) (defScope s_judge_packets) [] [] f_judge_packets _ := ⟨⟨_, _, _, _, _, _, _, _, _, _, rfl, l_judge_packets, cc_judge_packets, .inl ⟨rfl, rfl⟩, .inl rfl⟩, kk_judge_packets⟩
  have F_PacketJudge_init__ := fun_mk (st := s_PacketJudge_init__) l_PacketJudge_init__ cc_PacketJudge_init__ kk_PacketJudge_init__
  have b_PacketJudge_init__ := F_PacketJudge_init__.binds (ps := ["self", "life"]) fun _ _ _ _ _ _ us hl => match us, hl with | [_, _], _ => rfl
  have F_PacketJudge_problems_of := fun_mk (st := s_PacketJudge_problems_of) l_PacketJudge_problems_of cc_PacketJudge_problems_of kk_PacketJudge_problems_of
  have b_PacketJudge_problems_of := F_PacketJudge_problems_of.binds (ps := ["self", "record"]) fun _ _ _ _ _ _ us hl => match us, hl with | [_, _], _ => rfl
  have F_PacketJudge_problems_under_way := fun_mk (st := s_PacketJudge_problems_under_way) l_PacketJudge_problems_under_way cc_PacketJudge_problems_under_way kk_PacketJudge_problems_under_way
  have b_PacketJudge_problems_under_way := F_PacketJudge_problems_under_way.binds (ps := ["self", "record"]) fun _ _ _ _ _ _ us hl => match us, hl with | [_, _], _ => rfl
  have F_PacketJudge_learn := fun_mk (st := s_PacketJudge_learn) l_PacketJudge_learn cc_PacketJudge_learn kk_PacketJudge_learn
  have b_PacketJudge_learn := F_PacketJudge_learn.binds (ps := ["self", "record"]) fun _ _ _ _ _ _ us hl => match us, hl with | [_, _], _ => rfl
  have F_is_same := fun_mk (st := s_is_same) l_is_same cc_is_same kk_is_same
  have b_is_same := F_is_same.binds (ps := ["first", "packet"]) fun _ _ _ _ _ _ us hl => match us, hl with | [_, _], _ => rfl
  have F_Packet_init__ : FunD K "__init__" "Packet.__init__" (defArgs s_Packet_init__) (defBody s_Packet_init__) (defScope s_Packet_init__) [] [("marked", .bl false)] f_Packet_init__ _ := ⟨⟨_, _, _, _, _, _, _, _, _, _, rfl, l_Packet_init__, cc_Packet_init__, .inl ⟨rfl, rfl⟩, .inr ⟨kd_Packet_init__, rfl, fun q hq => by
      simp only [List.mem_cons, List.not_mem_nil, or_false] at hq
      rcases hq with rfl
      · exact ⟨_, kw_Packet_init___marked, by first | exact rfl | exact ⟨_, rfl⟩⟩⟩⟩, kk_Packet_init__⟩
  have F_Packet_fork := fun_mk (st := s_Packet_fork) l_Packet_fork cc_Packet_fork kk_Packet_fork
  have b_Packet_fork := F_Packet_fork.binds (ps := ["self"]) fun _ _ _ _ _ _ us hl => match us, hl with | [_], _ => rfl
  have F_Record_init__ := fun_mk (st := s_Record_init__) l_Record_init__ cc_Record_init__ kk_Record_init__
  have b_Record_init__ := F_Record_init__.binds (ps := ["self", "tick", "number", "word", "packet"]) fun _ _ _ _ _ _ us hl => match us, hl with | [_, _, _, _, _], _ => rfl
  have F_l_cell := fun_mk (st := s_l_cell) l_l_cell cc_l_cell kk_l_cell
  have b_l_cell := F_l_cell.binds (ps := ["script", "k"]) fun _ _ _ _ _ _ us hl => match us, hl with | [_, _], _ => rfl
  have F_l_is_integer := fun_mk (st := s_l_is_integer) l_l_is_integer cc_l_is_integer kk_l_is_integer
  have b_l_is_integer := F_l_is_integer.binds (ps := ["told"]) fun _ _ _ _ _ _ us hl => match us, hl with | [_], _ => rfl
  have F_l_start := fun_mk (st := s_l_start) l_l_start cc_l_start kk_l_start
  have b_l_start := F_l_start.binds (ps := ["cell", "k"]) fun _ _ _ _ _ _ us hl => match us, hl with | [_, _], _ => rfl
  have F_l_digit := fun_mk (st := s_l_digit) l_l_digit cc_l_digit kk_l_digit
  have b_l_digit := F_l_digit.binds (ps := ["state", "many"]) fun _ _ _ _ _ _ us hl => match us, hl with | [_, _], _ => rfl
  have F_l_row := fun_mk (st := s_l_row) l_l_row cc_l_row kk_l_row
  have b_l_row := F_l_row.binds (ps := ["cell", "k", "marks"]) fun _ _ _ _ _ _ us hl => match us, hl with | [_, _, _], _ => rfl
  have F_l_first := fun_mk (st := s_l_first) l_l_first cc_l_first kk_l_first
  have b_l_first := F_l_first.binds (ps := ["rows", "number"]) fun _ _ _ _ _ _ us hl => match us, hl with | [_, _], _ => rfl
  have F_l_copies := fun_mk (st := s_l_copies) l_l_copies cc_l_copies kk_l_copies
  have b_l_copies := F_l_copies.binds (ps := ["rows", "number"]) fun _ _ _ _ _ _ us hl => match us, hl with | [_, _], _ => rfl
  have F_l_problems := fun_mk (st := s_l_problems) l_l_problems cc_l_problems kk_l_problems
  have b_l_problems := F_l_problems.binds (ps := ["rows", "row", "life"]) fun _ _ _ _ _ _ us hl => match us, hl with | [_, _, _], _ => rfl
  have F_l_record := fun_mk (st := s_l_record) l_l_record cc_l_record kk_l_record
  have b_l_record := F_l_record.binds (ps := ["row"]) fun _ _ _ _ _ _ us hl => match us, hl with | [_], _ => rfl
  have F_law := fun_mk (st := s_law) l_law cc_law kk_law
  have b_law := F_law.binds (ps := ["script"]) fun _ _ _ _ _ _ us hl => match us, hl with | [_], _ => rfl
  let T : Txt K mg := { t_TICK_BACK := t_TICK_BACK, t_WRONG_NUMBER := t_WRONG_NUMBER, t_NOT_UNDER_WAY := t_NOT_UNDER_WAY, t_OTHER_PACKET := t_OTHER_PACKET, t_TOO_YOUNG := t_TOO_YOUNG, t_TOO_OLD := t_TOO_OLD, C_Finding := C_Finding, C_PacketJudge := C_PacketJudge, C_Packet := C_Packet, C_Record := C_Record, f_Finding_init__ := f_Finding_init__, d_Finding_init__ := _, f_Finding_eq__ := f_Finding_eq__, d_Finding_eq__ := _, f_judge_packets := f_judge_packets, d_judge_packets := _, f_PacketJudge_init__ := f_PacketJudge_init__, d_PacketJudge_init__ := _, f_PacketJudge_problems_of := f_PacketJudge_problems_of, d_PacketJudge_problems_of := _, f_PacketJudge_problems_under_way := f_PacketJudge_problems_under_way, d_PacketJudge_problems_under_way := _, f_PacketJudge_learn := f_PacketJudge_learn, d_PacketJudge_learn := _, f_is_same := f_is_same, d_is_same := _, f_Packet_init__ := f_Packet_init__, d_Packet_init__ := _, f_Packet_fork := f_Packet_fork, d_Packet_fork := _, f_Record_init__ := f_Record_init__, d_Record_init__ := _, f_l_cell := f_l_cell, d_l_cell := _, f_l_is_integer := f_l_is_integer, d_l_is_integer := _, f_l_start := f_l_start, d_l_start := _, f_l_digit := f_l_digit, d_l_digit := _, f_l_row := f_l_row, d_l_row := _, f_l_first := f_l_first, d_l_first := _, f_l_copies := f_l_copies, d_l_copies := _, f_l_problems := f_l_problems, d_l_problems := _, f_l_record := f_l_record, d_l_record := _, f_law := f_law, d_law := _, v_TICK_BACK := PySem.W.mg_of X G v_TICK_BACK, v_WRONG_NUMBER := PySem.W.mg_of X G v_WRONG_NUMBER, v_NOT_UNDER_WAY := PySem.W.mg_of X G v_NOT_UNDER_WAY, v_OTHER_PACKET := PySem.W.mg_of X G v_OTHER_PACKET, v_TOO_YOUNG := PySem.W.mg_of X G v_TOO_YOUNG, v_TOO_OLD := PySem.W.mg_of X G v_TOO_OLD, c_Finding := PySem.W.mg_of X G c_Finding, k_Finding := ⟨pg_Finding, hd_Finding, po_Finding, sa_Finding⟩, i_Finding := fun e => .ins e ⟨pg_Finding, hd_Finding, po_Finding, sa_Finding⟩ ha_Finding hn_all ht_all hm_Finding, q_Finding := q_Finding, ki_Finding := kit_own ic_Finding tc_Finding q_Finding, n_Finding_index := n_Finding_index, n_Finding_problem := n_Finding_problem, c_PacketJudge := PySem.W.mg_of X G c_PacketJudge, k_PacketJudge := ⟨pg_PacketJudge, hd_PacketJudge, po_PacketJudge, sa_PacketJudge⟩, n_PacketJudge__life := n_PacketJudge__life, n_PacketJudge__tick_before := n_PacketJudge__tick_before, n_PacketJudge__last := n_PacketJudge__last, n_PacketJudge__first := n_PacketJudge__first, n_PacketJudge__copies := n_PacketJudge__copies, c_Packet := PySem.W.mg_of X G c_Packet, k_Packet := ⟨pg_Packet, hd_Packet, po_Packet, sa_Packet⟩, i_Packet := fun e => .ins e ⟨pg_Packet, hd_Packet, po_Packet, sa_Packet⟩ ha_Packet hn_all ht_all hm_Packet, n_Packet_sender := n_Packet_sender, n_Packet_target := n_Packet_target, n_Packet_octets := n_Packet_octets, n_Packet_marked := n_Packet_marked, c_Record := PySem.W.mg_of X G c_Record, k_Record := ⟨pg_Record, hd_Record, po_Record, sa_Record⟩, i_Record := fun e => .ins e ⟨pg_Record, hd_Record, po_Record, sa_Record⟩ ha_Record hn_all ht_all hm_Record, n_Record_tick := n_Record_tick, n_Record_number := n_Record_number, n_Record_word := n_Record_word, n_Record_packet := n_Record_packet, F_Finding_init__ := F_Finding_init__, b_Finding_init__ := b_Finding_init__, mk_Finding := ⟨mk0_Finding, a_Finding_init__, i_Finding_init__, kc_Finding⟩, F_Finding_eq__ := F_Finding_eq__, b_Finding_eq__ := b_Finding_eq__, a_Finding_eq__ := ⟨a_Finding_eq__, i_Finding_eq__, kk_Finding_eq__⟩, F_judge_packets := F_judge_packets, m_judge_packets := PySem.W.mg_of X G a_judge_packets, F_PacketJudge_init__ := F_PacketJudge_init__, b_PacketJudge_init__ := b_PacketJudge_init__, mk_PacketJudge := ⟨mk0_PacketJudge, a_PacketJudge_init__, i_PacketJudge_init__, kc_PacketJudge⟩, F_PacketJudge_problems_of := F_PacketJudge_problems_of, b_PacketJudge_problems_of := b_PacketJudge_problems_of, a_PacketJudge_problems_of := ⟨a_PacketJudge_problems_of, i_PacketJudge_problems_of, kk_PacketJudge_problems_of⟩, F_PacketJudge_problems_under_way := F_PacketJudge_problems_under_way, b_PacketJudge_problems_under_way := b_PacketJudge_problems_under_way, a_PacketJudge_problems_under_way := ⟨a_PacketJudge_problems_under_way, i_PacketJudge_problems_under_way, kk_PacketJudge_problems_under_way⟩, F_PacketJudge_learn := F_PacketJudge_learn, b_PacketJudge_learn := b_PacketJudge_learn, a_PacketJudge_learn := ⟨a_PacketJudge_learn, i_PacketJudge_learn, kk_PacketJudge_learn⟩, F_is_same := F_is_same, b_is_same := b_is_same, m_is_same := PySem.W.mg_of X G a_is_same, F_Packet_init__ := F_Packet_init__, mk_Packet := ⟨mk0_Packet, a_Packet_init__, i_Packet_init__, kc_Packet⟩, F_Packet_fork := F_Packet_fork, b_Packet_fork := b_Packet_fork, a_Packet_fork := ⟨a_Packet_fork, i_Packet_fork, kk_Packet_fork⟩, F_Record_init__ := F_Record_init__, b_Record_init__ := b_Record_init__, mk_Record := ⟨mk0_Record, a_Record_init__, i_Record_init__, kc_Record⟩, F_l_cell := F_l_cell, b_l_cell := b_l_cell, m_l_cell := PySem.W.mg_of X G a_l_cell, F_l_is_integer := F_l_is_integer, b_l_is_integer := b_l_is_integer, m_l_is_integer := PySem.W.mg_of X G a_l_is_integer, F_l_start := F_l_start, b_l_start := b_l_start, m_l_start := PySem.W.mg_of X G a_l_start, F_l_digit := F_l_digit, b_l_digit := b_l_digit, m_l_digit := PySem.W.mg_of X G a_l_digit, F_l_row := F_l_row, b_l_row := b_l_row, m_l_row := PySem.W.mg_of X G a_l_row, F_l_first := F_l_first, b_l_first := b_l_first, m_l_first := PySem.W.mg_of X G a_l_first, F_l_copies := F_l_copies, b_l_copies := b_l_copies, m_l_copies := PySem.W.mg_of X G a_l_copies, F_l_problems := F_l_problems, b_l_problems := b_l_problems, m_l_problems := PySem.W.mg_of X G a_l_problems, F_l_record := F_l_record, b_l_record := b_l_record, m_l_record := PySem.W.mg_of X G a_l_record, F_law := F_law, b_law := b_law, m_law := PySem.W.mg_of X G a_law, n_bool := PySem.W.mg_none_of X G z_bool, n_enumerate := PySem.W.mg_none_of X G z_enumerate, n_int := PySem.W.mg_none_of X G z_int, n_isinstance := PySem.W.mg_none_of X G z_isinstance, n_len := PySem.W.mg_none_of X G z_len, n_list := PySem.W.mg_none_of X G z_list, n_max := PySem.W.mg_none_of X G z_max, n_min := PySem.W.mg_none_of X G z_min, n_range := PySem.W.mg_none_of X G z_range }
  exact ⟨PySem.W.fnOf "law" "law" (defArgs s_law) (defBody s_law) (defScope s_law) .none kV_law dc_law pm_law an_law cd_law ct_law, fun s v => .of_eq rfl, fun base _ _ => ok_law T⟩
theorem walk {l : PySem.W.OpenLaw} {q : Program} {loose : List Str} {XP : (Str → Option Value) → Heap → Prop} {YP : World → Heap → Prop} {d : DefRec} {K : Params → PySem.W.Frag} (hn : l.most = some 63) (hdf : d.params.defaults = [])
    (hY : ∀ (w : World) (h : Heap), YP w h → (K w.params).In h)
    (F : ∀ (w : World) (mg : Str → Option Value) (fa : Addr) (h : Heap), (K w.params).In h → h.Ns mainGlobals mg → mg d.name = some (.ref fa) →
      ∃ fd : FuncData, (∀ (s : Shared) (u : Value), BindsTo s fd ⟨[u], []⟩ [("script", u)]) ∧ ∀ base : Heap, (K w.params).In base → base.Ns mainGlobals mg → FnOk l.prog w (K w.params) mg base CX0 7 fa fd ["script"] (sp_law (K w.params))) :
    PySem.W.WalkO q loose XP YP l.row.toRowW d [] (fun f vs => PySem.call f vs) :=
  L2.walk_of (n := 63) (k := 7) (x := "script") (CX := fun _ => CX0) (sp := fun w => sp_law (K w.params)) hn (by decide) hdf ⟨rfl, by decide, by decide⟩ hY F (fun _ _ a ns hl _ hS => ⟨a, ns, rfl, hS, hl, fun _ => rfl⟩) fun _ _ _ _ _ z => z
end My
open PySem PySem.W PyProof.Rows
set_option maxRecDepth 100000 in
set_option maxHeartbeats 0 in
theorem PySem.Challenge.cw_throughline_k69_findings_in_packets_holds : PySem.Challenge.rw_throughline_k69_findings_in_packets.Holds := by
  w_on; o_law; k_head; (case hw => w_witness2)
  k_fill
  refine My.walk (l := PySem.Challenge.rw_throughline_k69_findings_in_packets) rfl rfl (fun w h Y => PySem.W.kIn_of Y) ?F
  case F =>
    intro w mg fa h KX G hmg
    refine' My.all_mk KX G hmg ?v_TICK_BACK ?v_WRONG_NUMBER ?v_NOT_UNDER_WAY ?v_OTHER_PACKET ?v_TOO_YOUNG ?v_TOO_OLD ?c_Finding ?pg_Finding ?hd_Finding ?po_Finding ?sa_Finding ?mk0_Finding ?kc_Finding ?ha_Finding ?hm_Finding ?hn_all ?ht_all ?q_Finding ?ic_Finding ?tc_Finding ?n_Finding_index ?n_Finding_problem ?c_PacketJudge ?pg_PacketJudge ?hd_PacketJudge ?po_PacketJudge ?sa_PacketJudge ?mk0_PacketJudge ?kc_PacketJudge ?n_PacketJudge__life ?n_PacketJudge__tick_before ?n_PacketJudge__last ?n_PacketJudge__first ?n_PacketJudge__copies ?c_Packet ?pg_Packet ?hd_Packet ?po_Packet ?sa_Packet ?mk0_Packet ?kc_Packet ?ha_Packet ?hm_Packet ?n_Packet_sender ?n_Packet_target ?n_Packet_octets ?n_Packet_marked ?c_Record ?pg_Record ?hd_Record ?po_Record ?sa_Record ?mk0_Record ?kc_Record ?ha_Record ?hm_Record ?n_Record_tick ?n_Record_number ?n_Record_word ?n_Record_packet ?a_Finding_init__ ?i_Finding_init__ ?l_Finding_init__ ?cc_Finding_init__ ?kk_Finding_init__ ?a_Finding_eq__ ?i_Finding_eq__ ?l_Finding_eq__ ?cc_Finding_eq__ ?kk_Finding_eq__ ?a_judge_packets ?l_judge_packets ?cc_judge_packets ?kk_judge_packets ?a_PacketJudge_init__ ?i_PacketJudge_init__ ?l_PacketJudge_init__ ?cc_PacketJudge_init__ ?kk_PacketJudge_init__ ?a_PacketJudge_problems_of ?i_PacketJudge_problems_of ?l_PacketJudge_problems_of ?cc_PacketJudge_problems_of ?kk_PacketJudge_problems_of ?a_PacketJudge_problems_under_way ?i_PacketJudge_problems_under_way ?l_PacketJudge_problems_under_way ?cc_PacketJudge_problems_under_way ?kk_PacketJudge_problems_under_way ?a_PacketJudge_learn ?i_PacketJudge_learn ?l_PacketJudge_learn ?cc_PacketJudge_learn ?kk_PacketJudge_learn ?a_is_same ?l_is_same ?cc_is_same ?kk_is_same ?a_Packet_init__ ?i_Packet_init__ ?l_Packet_init__ ?kw_Packet_init___marked ?cc_Packet_init__ ?kk_Packet_init__ ?a_Packet_fork ?i_Packet_fork ?l_Packet_fork ?cc_Packet_fork ?kk_Packet_fork ?a_Record_init__ ?i_Record_init__ ?l_Record_init__ ?cc_Record_init__ ?kk_Record_init__ ?a_l_cell ?l_l_cell ?cc_l_cell ?kk_l_cell ?a_l_is_integer ?l_l_is_integer ?cc_l_is_integer ?kk_l_is_integer ?a_l_start ?l_l_start ?cc_l_start ?kk_l_start ?a_l_digit ?l_l_digit ?cc_l_digit ?kk_l_digit ?a_l_row ?l_l_row ?cc_l_row ?kk_l_row ?a_l_first ?l_l_first ?cc_l_first ?kk_l_first ?a_l_copies ?l_l_copies ?cc_l_copies ?kk_l_copies ?a_l_problems ?l_l_problems ?cc_l_problems ?kk_l_problems ?a_l_record ?l_l_record ?cc_l_record ?kk_l_record ?a_law ?l_law ?cc_law ?kk_law ?z_bool ?z_enumerate ?z_int ?z_isinstance ?z_len ?z_list ?z_max ?z_min ?z_range
    (case v_TICK_BACK => k_is)
    (case v_WRONG_NUMBER => k_is)
    (case v_NOT_UNDER_WAY => k_is)
    (case v_OTHER_PACKET => k_is)
    (case v_TOO_YOUNG => k_is)
    (case v_TOO_OLD => k_is)
    (case c_Finding => k_is)
    (case pg_Finding => k_is)
    (case hd_Finding => k_is)
    (case po_Finding => k_is)
    (case sa_Finding => k_is)
    (case mk0_Finding => k_is)
    (case kc_Finding => k_is)
    (case ha_Finding => k_is)
    (case hm_Finding => k_is)
    (case hn_all => k_is)
    (case ht_all => k_is)
    (case q_Finding => k_is)
    (case ic_Finding => k_is)
    (case tc_Finding => k_is)
    (case n_Finding_index => k_is)
    (case n_Finding_problem => k_is)
    (case c_PacketJudge => k_is)
    (case pg_PacketJudge => k_is)
    (case hd_PacketJudge => k_is)
    (case po_PacketJudge => k_is)
    (case sa_PacketJudge => k_is)
    (case mk0_PacketJudge => k_is)
    (case kc_PacketJudge => k_is)
    (case n_PacketJudge__life => k_is)
    (case n_PacketJudge__tick_before => k_is)
    (case n_PacketJudge__last => k_is)
    (case n_PacketJudge__first => k_is)
    (case n_PacketJudge__copies => k_is)
    (case c_Packet => k_is)
    (case pg_Packet => k_is)
    (case hd_Packet => k_is)
    (case po_Packet => k_is)
    (case sa_Packet => k_is)
    (case mk0_Packet => k_is)
    (case kc_Packet => k_is)
    (case ha_Packet => k_is)
    (case hm_Packet => k_is)
    (case n_Packet_sender => k_is)
    (case n_Packet_target => k_is)
    (case n_Packet_octets => k_is)
    (case n_Packet_marked => k_is)
    (case c_Record => k_is)
    (case pg_Record => k_is)
    (case hd_Record => k_is)
    (case po_Record => k_is)
    (case sa_Record => k_is)
    (case mk0_Record => k_is)
    (case kc_Record => k_is)
    (case ha_Record => k_is)
    (case hm_Record => k_is)
    (case n_Record_tick => k_is)
    (case n_Record_number => k_is)
    (case n_Record_word => k_is)
    (case n_Record_packet => k_is)
    (case a_Finding_init__ => k_is)
    (case i_Finding_init__ => k_is)
    (case l_Finding_init__ => k_is)
    (case cc_Finding_init__ => k_is)
    (case kk_Finding_init__ => k_is)
    (case a_Finding_eq__ => k_is)
    (case i_Finding_eq__ => k_is)
    (case l_Finding_eq__ => k_is)
    (case cc_Finding_eq__ => k_is)
    (case kk_Finding_eq__ => k_is)
    (case a_judge_packets => k_is)
    (case l_judge_packets => k_is)
    (case cc_judge_packets => k_is)
    (case kk_judge_packets => k_is)
    (case a_PacketJudge_init__ => k_is)
    (case i_PacketJudge_init__ => k_is)
    (case l_PacketJudge_init__ => k_is)
    (case cc_PacketJudge_init__ => k_is)
    (case kk_PacketJudge_init__ => k_is)
    (case a_PacketJudge_problems_of => k_is)
    (case i_PacketJudge_problems_of => k_is)
    (case l_PacketJudge_problems_of => k_is)
    (case cc_PacketJudge_problems_of => k_is)
    (case kk_PacketJudge_problems_of => k_is)
    (case a_PacketJudge_problems_under_way => k_is)
    (case i_PacketJudge_problems_under_way => k_is)
    (case l_PacketJudge_problems_under_way => k_is)
    (case cc_PacketJudge_problems_under_way => k_is)
    (case kk_PacketJudge_problems_under_way => k_is)
    (case a_PacketJudge_learn => k_is)
    (case i_PacketJudge_learn => k_is)
    (case l_PacketJudge_learn => k_is)
    (case cc_PacketJudge_learn => k_is)
    (case kk_PacketJudge_learn => k_is)
    (case a_is_same => k_is)
    (case l_is_same => k_is)
    (case cc_is_same => k_is)
    (case kk_is_same => k_is)
    (case a_Packet_init__ => k_is)
    (case i_Packet_init__ => k_is)
    (case l_Packet_init__ => k_is)
    (case kw_Packet_init___marked => k_is)
    (case cc_Packet_init__ => k_is)
    (case kk_Packet_init__ => k_is)
    (case a_Packet_fork => k_is)
    (case i_Packet_fork => k_is)
    (case l_Packet_fork => k_is)
    (case cc_Packet_fork => k_is)
    (case kk_Packet_fork => k_is)
    (case a_Record_init__ => k_is)
    (case i_Record_init__ => k_is)
    (case l_Record_init__ => k_is)
    (case cc_Record_init__ => k_is)
    (case kk_Record_init__ => k_is)
    (case a_l_cell => k_is)
    (case l_l_cell => k_is)
    (case cc_l_cell => k_is)
    (case kk_l_cell => k_is)
    (case a_l_is_integer => k_is)
    (case l_l_is_integer => k_is)
    (case cc_l_is_integer => k_is)
    (case kk_l_is_integer => k_is)
    (case a_l_start => k_is)
    (case l_l_start => k_is)
    (case cc_l_start => k_is)
    (case kk_l_start => k_is)
    (case a_l_digit => k_is)
    (case l_l_digit => k_is)
    (case cc_l_digit => k_is)
    (case kk_l_digit => k_is)
    (case a_l_row => k_is)
    (case l_l_row => k_is)
    (case cc_l_row => k_is)
    (case kk_l_row => k_is)
    (case a_l_first => k_is)
    (case l_l_first => k_is)
    (case cc_l_first => k_is)
    (case kk_l_first => k_is)
    (case a_l_copies => k_is)
    (case l_l_copies => k_is)
    (case cc_l_copies => k_is)
    (case kk_l_copies => k_is)
    (case a_l_problems => k_is)
    (case l_l_problems => k_is)
    (case cc_l_problems => k_is)
    (case kk_l_problems => k_is)
    (case a_l_record => k_is)
    (case l_l_record => k_is)
    (case cc_l_record => k_is)
    (case kk_l_record => k_is)
    (case a_law => k_is)
    (case l_law => k_is)
    (case cc_law => k_is)
    (case kk_law => k_is)
    (case z_bool => k_is)
    (case z_enumerate => k_is)
    (case z_int => k_is)
    (case z_isinstance => k_is)
    (case z_len => k_is)
    (case z_list => k_is)
    (case z_max => k_is)
    (case z_min => k_is)
    (case z_range => k_is)
#print axioms PySem.Challenge.cw_throughline_k69_findings_in_packets_holds

