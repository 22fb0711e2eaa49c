import PyProof.Rows.All
import Wide.All
import OpenK.AllK
import Wide.FinOn
import HandS.ForMost
import HandS.IsInst
import HandS.Wide
import HandS.Style
import HandS.Conv
import HandS.RevRange
import HandS.Walk
import HandS.Property
import HandS.Star
import HandS.Codes
import HandS.TupAny
import HandS.Iter
import HandS.Dict
import HandS.IterVal
import HandS.IterNext
import HandS.SetKeys
import HandS.OwnIter
import PyProof.DictMoreH
import HandS.Deep
import HandS.WordsDict
import HandS.Comp
import PySem.Challenge.RW_throughline_k62_ledger
set_option Elab.async false
set_option linter.all false
set_option maxRecDepth 100000
set_option maxHeartbeats 4000000
namespace My
open PySem PySem.Spec L2
/-! ### readings, one rule a construct -/
section
variable {K : PySem.W.Frag} {σ : St} {H : Hp} {Q : VK} {v x y z : V} {ta tb te tc : TE} {tt tu : TT} {r : R2} {D : Ends} {ts us : TS} {P : Bool → Hp → Prop} {i j : Int}
theorem g_var {i : Nat} (h : σ[i]? = some (some v)) (q : Q v H) : tVar i σ H Q := ⟨v, h, q⟩
theorem g_c (q : Q v H) : tC v σ H Q := q
theorem g_op (h : ta σ H fun x H1 => tb σ H1 fun y H2 => r x y H2 Q) : tOp r ta tb σ H Q := h
theorem g_un {r : V → Hp → VK → Prop} (h : ta σ H fun x H1 => r x H1 Q) : tUn r ta σ H Q := h
theorem g_rI0 {g : Int → Int → V} (q : Q (g i j) H) : rI0 g (.int i) (.int j) H Q := ⟨i, j, rfl, rfl, q⟩
theorem g_rI {C : Int → Int → Prop} {g : Int → Int → V} (c : C i j) (q : Q (g i j) H) : rI C g (.int i) (.int j) H Q := ⟨i, j, rfl, rfl, c, q⟩
theorem g_rU {g : Int → V} (q : Q (g i) H) : rU g (.int i) H Q := ⟨i, rfl, q⟩
theorem g_rEqI (q : Q (.bl (decide (i = j))) H) : rEq (.int i) (.int j) H Q := ⟨rfl, by rw [dec_int]; exact q⟩
theorem g_rNeI (q : Q (.bl (!decide (i = j))) H) : rNe (.int i) (.int j) H Q := ⟨rfl, by rw [dec_int]; exact q⟩
theorem g_rEq (s : scal x y = true) (q : Q (.bl (decide (x = y))) H) : rEq x y H Q := ⟨s, q⟩
theorem g_rNe (s : scal x y = true) (q : Q (.bl (!decide (x = y))) H) : rNe x y H Q := ⟨s, q⟩
theorem g_isN {A : Prop} (q : A) : V.non = V.non ∧ A := ⟨rfl, q⟩
theorem g_rIsB {a b : Bool} (q : Q (.bl (decide (a = b))) H) : rIsB (.bl a) (.bl b) H Q := ⟨a, b, rfl, rfl, q⟩
theorem g_rNotB {a b : Bool} (q : Q (.bl (!decide (a = b))) H) : rNotB (.bl a) (.bl b) H Q := ⟨a, b, rfl, rfl, q⟩
theorem g_test {t : TE} (h : t σ H fun x H' => ∃ k, x = .bl k ∧ P k H') : tTest t σ H P := h
theorem g_B {t : TE} (h : t σ H fun x H' => ∃ k, x = .bl k ∧ P k H') : tB t σ H P := h
theorem g_bl {b : Bool} {A : Bool → Prop} (q : A b) : ∃ k, V.bl b = .bl k ∧ A k := ⟨b, rfl, q⟩
theorem g_and (h : tt σ H fun c H1 => if c = true then tu σ H1 P else P false H1) : tAnd tt tu σ H P := h
theorem g_or (h : tt σ H fun c H1 => if c = true then P true H1 else tu σ H1 P) : tOr tt tu σ H P := h
theorem g_not (h : tt σ H fun c H1 => P (!c) H1) : tNot tt σ H P := h
theorem g_andV (h : ta σ H fun x H1 => ∃ c, x = .bl c ∧ if c = true then tb σ H1 Q else Q (.bl false) H1) : tAndV ta tb σ H Q := h
theorem g_orV (h : ta σ H fun x H1 => ∃ c, x = .bl c ∧ if c = true then Q (.bl true) H1 else tb σ H1 Q) : tOrV ta tb σ H Q := h
theorem g_notV (h : ta σ H fun x H1 => ∃ c, x = .bl c ∧ Q (.bl (!c)) H1) : tNotV ta σ H Q := h
theorem g_if (h : tt σ H fun c H1 => if c = true then ta σ H1 Q else tb σ H1 Q) : tIf tt ta tb σ H Q := h
theorem g_chain {r' : R2} (h : ta σ H fun x H1 => tb σ H1 fun y H2 => r x y H2 fun z H3 => ∃ k, z = .bl k ∧ (if k = true then tc σ H3 fun w' H4 => r' y w' H4 Q else Q (.bl false) H3)) : tChain r r' ta tb tc σ H Q := h
theorem g_nil {A : List V → Hp → Prop} (q : A [] H) : tNil σ H A := q
theorem g_cons {tr : TA} {A : List V → Hp → Prop} (h : ta σ H fun x H1 => tr σ H1 fun xs H2 => A (x :: xs) H2) : tCons ta tr σ H A := h
theorem g_tup {t : TA} (h : t σ H fun xs H1 => xs.length ≤ sizeLine ∧ ∀ p, H1 p = none → Q (.ref p) (upd H1 p (.tup xs))) : tTup t σ H Q := h
theorem g_lst {t : TA} (h : t σ H fun xs H1 => xs.length ≤ sizeLine ∧ ∀ p, H1 p = none → Q (.ref p) (upd H1 p (.lst xs))) : tLst t σ H Q := h
theorem g_call {sp : Sp} {dvs : List V} {E : XK} {t : TA} (h : t σ H fun vs H1 => sp (vs ++ dvs) H1 Q E) : tCall sp dvs E t σ H Q := h
theorem g_CB {r : List V → Hp → VK → Prop} {t : TA} (h : t σ H fun vs H1 => r vs H1 Q) : tCB r t σ H Q := h
theorem g_sl {r : V → Option Int → Option Int → Hp → VK → Prop} {tl th : TO} (h : te σ H fun x H1 => tl σ H1 fun l H2 => th σ H2 fun u H3 => r x l u H3 Q) : tSl r te tl th σ H Q := h
theorem g_noPart {A : Option Int → Hp → Prop} (q : A none H) : tNoPart σ H A := q
theorem g_part {A : Option Int → Hp → Prop} (h : te σ H fun x H1 => ∃ i, x = .int i ∧ A (some i) H1) : tPart te σ H A := h
theorem g_intE {A : Int → Prop} (q : A i) : ∃ k, V.int i = .int k ∧ A k := ⟨i, rfl, q⟩
theorem g_seq (h : ts { D with nx := us D } σ H) : tSeq ts us D σ H := h
theorem g_next (q : D.nx σ H) : tNext D σ H := q
theorem g_brk (q : D.bk σ H) : tBreak D σ H := q
theorem g_ct (q : D.ct σ H) : tCont D σ H := q
theorem g_asg {g : TG} (h : te σ H fun x H1 => g x σ H1 D.nx) : tAsg te g D σ H := h
theorem g_name {i : Nat} {A : St → Hp → Prop} (q : A (σ.set i (some v)) H) : gName i v σ H A := q
theorem g_aug {i : Nat} {ti : TIp} (h : σ[i]? = some (some x)) (q : te σ H fun y H1 => ti x y H1 fun z H2 => D.nx (σ.set i (some z)) H2) : tAug i te ti D σ H := ⟨x, h, q⟩
theorem g_ipI {f : Int → Int → Int} (q : Q (.int (f i j)) H) : ipI f (.int i) (.int j) H Q := ⟨i, j, rfl, rfl, q⟩
theorem g_drop (h : te σ H fun _ H1 => D.nx σ H1) : tDrop te D σ H := h
theorem g_ret (h : te σ H D.rt) : tRet te D σ H := h
theorem g_retN (q : D.rt .non H) : tRetN D σ H := q
theorem g_ifS (h : tt σ H fun b H1 => if b = true then ts D σ H1 else us D σ H1) : tIfS tt ts us D σ H := h
theorem g_for {wi : TI} {g : TG} {tb : TS} (h : wi σ H fun J H1 => ∃ W : Nat → Nat → St → Hp → Prop, (∃ m, W 0 m σ H1) ∧ ∀ i m σ H, W i m σ H →
    (J.stop i H ∧ D.nx σ H) ∨ (J.go i H ∧ ∃ N : St → Hp → Prop, (∀ σ' H', N σ' H' → ∃ m', m' < m ∧ W (i + 1) m' σ' H') ∧ ∀ x H', J.yld i H x H' → g x σ H' fun σ2 H2 => tb { D with nx := N, ct := N, bk := D.nx } σ2 H2)) : tFor wi g tb D σ H := h
theorem g_iT {c : Bool} {A B : Prop} (e : c = true) (h : A) : if c = true then A else B := by rw [if_pos e]; exact h
theorem g_iF {c : Bool} {A B : Prop} (e : c = false) (h : B) : if c = true then A else B := by rw [e]; exact iteF h
theorem g_ite {p A B : Prop} [Decidable p] (h1 : p → A) (h2 : ¬ p → B) : if decide p = true then A else B := by
  by_cases h : p
  · rw [decide_eq_true h]; exact iteT (h1 h)
  · rw [decide_eq_false h]; exact iteF (h2 h)
theorem g_iteN {p A B : Prop} [Decidable p] (h1 : ¬ p → A) (h2 : p → B) : if (!decide p) = true then A else B := by
  by_cases h : p
  · rw [decide_eq_true h]; exact iteF (h2 h)
  · rw [decide_eq_false h]; exact iteT (h1 h)
theorem g_iteB {b : Bool} {A B : Prop} (h1 : b = true → A) (h2 : b = false → B) : if b = true then A else B := by
  cases b with
  | true => exact iteT (h1 rfl)
  | false => exact iteF (h2 rfl)
theorem g_iteNB {b : Bool} {A B : Prop} (h1 : b = false → A) (h2 : b = true → B) : if (!b) = true then A else B := by
  cases b with
  | true => exact iteF (h2 rfl)
  | false => exact iteT (h1 rfl)
/-! calls of built-ins, by values -/
theorem g_int1 {A : Int → Prop} {B : Bool → Prop} (q : A i) : (∃ i', [V.int i] = [V.int i'] ∧ A i') ∨ ∃ k, [V.int i] = [V.bl k] ∧ B k := .inl ⟨i, rfl, q⟩
theorem g_int1B {b : Bool} {A : Int → Prop} {B : Bool → Prop} (q : B b) : (∃ i', [V.bl b] = [V.int i'] ∧ A i') ∨ ∃ k, [V.bl b] = [V.bl k] ∧ B k := .inr ⟨b, rfl, q⟩
theorem g_one {A : Int → Prop} (q : A i) : ∃ i', [V.int i] = [V.int i'] ∧ A i' := ⟨i, rfl, q⟩
theorem g_two {A : Int → Int → Prop} (q : A i j) : ∃ i' j', [V.int i, V.int j] = [V.int i', V.int j'] ∧ A i' j' := ⟨i, j, rfl, q⟩
theorem g_isi {c : V} {t u : Value} {b : Bool} (hc : ClsV c u) (ht : TyX K H x t) (e : PySem.W.kitOne K t u = some b) (q : Q (.bl b) H) : rIsi K [x, c] H Q := ⟨x, c, t, u, b, rfl, hc, ht, e, q⟩
theorem g_isiI (q : Q (.bl true) H) : rIsi K [.int i, .ty "int"] H Q := g_isi (.ty _) (.base (.int _)) (kit_ty (by decide +kernel)) q
theorem g_isiB {b : Bool} (q : Q (.bl true) H) : rIsi K [.bl b, .ty "bool"] H Q := g_isi (.ty _) (.base (.bl _)) (kit_ty (by decide +kernel)) q
theorem g_isiIB (q : Q (.bl false) H) : rIsi K [.int i, .ty "bool"] H Q := g_isi (.ty _) (.base (.int _)) (kit_ty (by decide +kernel)) q
theorem g_isiL {p : Addr} {xs : List V} (h : H p = some (.lst xs)) (q : Q (.bl true) H) : rIsi K [.ref p, .ty "list"] H Q := g_isi (.ty _) (.base (.lst h)) (kit_ty (by decide +kernel)) q
theorem g_isiU {p : Addr} {xs : List V} (h : H p = some (.tup xs)) (q : Q (.bl true) H) : rIsi K [.ref p, .ty "tuple"] H Q := g_isi (.ty _) (.base (.tup h)) (kit_ty (by decide +kernel)) q
theorem g_ixL {p : Addr} {xs : List V} (h : SqL K H p xs) (e : atI xs i = some v) (q : Q v H) : rIxL K (.ref p) (.int i) H Q := ⟨p, xs, i, v, rfl, rfl, h, e, q⟩
theorem g_ixT {p : Addr} {xs : List V} (h : SqT K H p xs) (e : atI xs i = some v) (q : Q v H) : rIxT K (.ref p) (.int i) H Q := ⟨p, xs, i, v, rfl, rfl, h, e, q⟩
theorem g_append {p : Addr} {xs : List V} (h : H p = some (.lst xs)) (l : xs.length < sizeLine) (q : Q .non (upd H p (.lst (xs ++ [y])))) : rAppend (.ref p) [y] H Q := ⟨p, xs, y, rfl, rfl, h, l, q⟩
theorem g_BM {T : String} {r : V → List V → Hp → VK → Prop} {t : TA} (h : te σ H fun x H1 => tyV K T x H1 ∧ t σ H1 fun xs H2 => r x xs H2 Q) : tBM K T r te t σ H Q := h
theorem g_BM0 {T : String} {r : V → List V → Hp → VK → Prop} (h : te σ H fun x H1 => tyV K T x H1 ∧ r x [] H1 Q) : tBM0 K T r te σ H Q := h
theorem ty_l {p : Addr} {xs : List V} (h : H p = some (.lst xs)) : tyV K "list" (.ref p) H := Or.inl ⟨rfl, _, Or.inl (Or.inl h)⟩
theorem g_setL {p : Addr} {xs : List V} {k : Int} {j : Nat} {A : Hp → Prop} (h : H p = some (.lst xs)) (e : ixN xs.length k = some j) (q : A (upd H p (.lst (xs.set j v)))) : rSetL (.ref p) (.int k) v H A := ⟨p, xs, k, j, rfl, rfl, h, e, q⟩
theorem g_sub {to ti : TE} {t : TSet} {A : St → Hp → Prop} (h : to σ H fun o H1 => ti σ H1 fun i H2 => t o i v H2 fun H3 => A σ H3) : gSub to ti t v σ H A := h
theorem g_len {p : Addr} {xs : List V} {A : Addr → List V → Prop} (h : SqL K H p xs ∨ SqT K H p xs) (q : A p xs) : ∃ p' ys, [V.ref p] = [V.ref p'] ∧ (SqL K H p' ys ∨ SqT K H p' ys) ∧ A p' ys := ⟨p, xs, rfl, h, q⟩
theorem g_slL {p : Addr} {xs : List V} {lo hi : Option Int} (h : SqL K H p xs) (q : ∀ l, H l = none → Q (.ref l) (upd H l (.lst (cutV xs lo hi)))) : rSlL K (.ref p) lo hi H Q := ⟨p, xs, rfl, h, q⟩
theorem g_cat {p q : Addr} {xs ys : List V} (h : H p = some (.lst xs)) (h2 : H q = some (.lst ys)) (l : xs.length + ys.length ≤ sizeLine) (k : ∀ l, H l = none → Q (.ref l) (upd H l (.lst (xs ++ ys)))) : rCat (.ref p) (.ref q) H Q := ⟨p, q, xs, ys, rfl, rfl, h, h2, l, k⟩
end
/-! ### heaps -/
theorem same_upd {H : Hp} {p : Addr} {o : HO} (h : H p = none) : Same H (upd H p o) := fun b x e => by
  rw [upd_ne (ne_of_none e h)]
  exact e
theorem sm {H H' : Hp} {p : Addr} {o : HO} (s : Same H H') (h : H p = some o) : H' p = some o := s p o h
theorem sq_upd {K : PySem.W.Frag} {H : Hp} {p a : Addr} {o : HO} {xs : List V} (n : H p = none) (h : SqL K H a xs) : SqL K (upd H p o) a xs := (same_upd n).seq h
theorem sl {K : PySem.W.Frag} {H : Hp} {a : Addr} {xs : List V} (h : H a = some (.lst xs)) : SqL K H a xs := Or.inl (Or.inl h)
theorem st {K : PySem.W.Frag} {H : Hp} {a : Addr} {xs : List V} (h : H a = some (.tup xs)) : SqT K H a xs := Or.inl (Or.inl h)
theorem Same.sqt {K : PySem.W.Frag} {H H' : Hp} {a : Addr} {xs : List V} (e : Same H H') (h : SqT K H a xs) : SqT K H' a xs := by
  rcases h with (h | ⟨o, h⟩) | h
  · exact .inl (.inl (e _ _ h))
  · exact .inl (.inr ⟨o, e _ _ h⟩)
  · exact .inr h
theorem upd_keep {H : Hp} {p b : Addr} {o o' : HO} (n : H p = none) (h : H b = some o') : upd H p o b = some o' := (same_upd n) b o' h
theorem ne_new {H : Hp} {p b : Addr} {o : HO} (h : H b = some o) (n : H p = none) : b ≠ p := ne_of_none h n
/-- H' is H but at p -/
def But (p : Addr) (H H' : Hp) : Prop := ∀ b o, b ≠ p → H b = some o → H' b = some o
theorem But.refl {p : Addr} {H : Hp} : But p H H := fun _ _ _ h => h
theorem But.of {p : Addr} {H H' : Hp} (s : Same H H') : But p H H' := fun b o _ h => s b o h
theorem But.trans {p : Addr} {H H1 H2 : Hp} (a : But p H H1) (b : But p H1 H2) : But p H H2 := fun c o n h => b c o n (a c o n h)
theorem But.upd {p : Addr} {H H' : Hp} {o : HO} (a : But p H H') : But p H (upd H' p o) := fun b o n h => by rw [upd_ne n]; exact a b o n h
theorem But.same {p : Addr} {H H' : Hp} (a : But p H H') (n : H p = none) : Same H H' := fun b o h => a b o (ne_of_none h n) h
theorem But.tr2 {p : Addr} {H H1 H2 : Hp} (s : Same H H1) (n : H p = none) (a : But p H1 H2) : Same H H2 := fun b o h => a b o (ne_of_none h n) (s b o h)
/-! ### numbers -/
theorem cdivW {a b : Int} (h : 0 < b) (h2 : b < 2 ^ 8000) : CDivW a b := by
  refine ⟨h, ?_⟩
  have e : b.natAbs < 2 ^ 8000 := by
    have : ((b.natAbs : Nat) : Int) < ((2 ^ 8000 : Nat) : Int) := by
      rw [Int.natAbs_of_nonneg (Int.le_of_lt h)]
      exact_mod_cast h2
    exact_mod_cast this
  by_cases z : b.natAbs = 0
  · rw [z]; decide
  · exact Nat.lt_of_lt_of_le (Nat.log2_lt z |>.mpr e) (by decide)
theorem sz {n : Nat} (h : n ≤ 100000) : n ≤ sizeLine := Nat.le_trans h (by decide)
theorem szl {n : Nat} (h : n < 100000) : n < sizeLine := Nat.lt_of_lt_of_le h (by decide)
/-! ### loops -/
theorem for_l {K : PySem.W.Frag} {tl : TE} {g : TG} {tb : TS} {D : Ends} {σ : St} {H : Hp} {a : Addr} {xs : List V} (Pv : Nat → St → Hp → Prop) (hs : SqL K H a xs) (h0 : Pv 0 σ H) (hl : ∀ i σ H, i ≤ xs.length → Pv i σ H → SqL K H a xs)
    (turn : ∀ i x σ H, xs[i]? = some x → Pv i σ H → g x σ H fun σ2 H2 => tb { D with nx := Pv (i + 1), ct := Pv (i + 1), bk := D.nx } σ2 H2) (hd : ∀ σ H, Pv xs.length σ H → D.nx σ H) (e : ∀ R : V → Hp → Prop, R (.ref a) H → tl σ H R) : tFor (iList K tl) g tb D σ H := by
  refine g_for ?_
  refine e _ ⟨a, rfl, ⟨_, hs⟩, ?_⟩
  exact for_list (xs := xs) Pv h0 hl turn hd
theorem for_r {ta : TA} {g : TG} {tb : TS} {D : Ends} {σ : St} {H : Hp} {n : Int} (N : Nat) (en : n.toNat = N) (b1 : -(2 ^ 62) ≤ n) (b2 : n < 2 ^ 62) (Pv : Nat → St → Hp → Prop) (h0 : Pv 0 σ H)
    (turn : ∀ (i : Nat) σ H, i < N → Pv i σ H → g (.int (i : Int)) σ H fun σ2 H2 => tb { D with nx := Pv (i + 1), ct := Pv (i + 1), bk := D.nx } σ2 H2) (hd : ∀ σ H, Pv N σ H → D.nx σ H) (e : ∀ R : List V → Hp → Prop, R [.int n] H → ta σ H R) : tFor (iRng1 ta) g tb D σ H := by
  subst en
  refine g_for ?_
  refine e _ ⟨n, rfl, b1, b2, ?_⟩
  refine for_range (lo := 0) Pv h0 (fun i σ H hi p => ?_) hd
  have z := turn i σ H hi p
  rw [Int.zero_add]
  exact z
theorem g_nx {nx : St → Hp → Prop} {rt : VK} {bk ct : St → Hp → Prop} {σ : St} {H : Hp} (q : nx σ H) : (Ends.mk nx rt bk ct).nx σ H := q
theorem g_bkE {nx : St → Hp → Prop} {rt : VK} {bk ct : St → Hp → Prop} {σ : St} {H : Hp} (q : bk σ H) : (Ends.mk nx rt bk ct).bk σ H := q
theorem g_ctE {nx : St → Hp → Prop} {rt : VK} {bk ct : St → Hp → Prop} {σ : St} {H : Hp} (q : ct σ H) : (Ends.mk nx rt bk ct).ct σ H := q
theorem g_rt {nx : St → Hp → Prop} {rt : VK} {bk ct : St → Hp → Prop} {v : V} {H : Hp} (q : rt v H) : (Ends.mk nx rt bk ct).rt v H := q
/-- a cell of the script -/
def cell (ns : List Int) (k : Int) : Int := ns.getD k.toNat 0
theorem atI_map {ns : List Int} {k : Int} (h0 : 0 ≤ k) (h : k < (ns.length : Int)) : atI (ns.map V.int) k = some (.int (cell ns k)) := by
  have e : k = ((k.toNat : Nat) : Int) := by omega
  have hl : k.toNat < ns.length := by omega
  have e2 : cell ns k = ns[k.toNat] := by
    unfold cell
    rw [List.getD_eq_getElem?_getD, List.getElem?_eq_getElem hl]; rfl
  rw [e2]
  refine at_of e ?_
  rw [List.getElem?_map, List.getElem?_eq_getElem hl]; rfl
theorem cell_out {ns : List Int} {k : Int} (h : ¬ k < (ns.length : Int)) : cell ns k = 0 := by
  unfold cell
  rw [List.getD_eq_getElem?_getD, List.getElem?_eq_none (by omega)]; rfl
theorem atI_some {xs : List V} {i : Int} (h0 : 0 ≤ i) (h : i < (xs.length : Int)) : ∃ v, xs[i.toNat]? = some v ∧ atI xs i = some v := by
  have hl : i.toNat < xs.length := by omega
  exact ⟨xs[i.toNat], List.getElem?_eq_getElem hl, at_of (by omega) (List.getElem?_eq_getElem hl)⟩
theorem atI_ints {xs : List Int} {i : Int} (h0 : 0 ≤ i) (h : i < (xs.length : Int)) : ∃ n, atI (xs.map V.int) i = some (.int n) ∧ xs[i.toNat]? = some n := by
  have hl : i.toNat < xs.length := by omega
  refine ⟨xs[i.toNat], at_of (j := i.toNat) (by omega) ?_, List.getElem?_eq_getElem hl⟩
  rw [List.getElem?_map, List.getElem?_eq_getElem hl]; rfl
theorem g_dT {p A B : Prop} [Decidable p] (h : p) (q : A) : if decide p = true then A else B := by rw [decide_eq_true h]; exact iteT q
theorem g_dF {p A B : Prop} [Decidable p] (h : ¬ p) (q : B) : if decide p = true then A else B := by rw [decide_eq_false h]; exact iteF q
theorem g_nT {p A B : Prop} [Decidable p] (h : ¬ p) (q : A) : if (!decide p) = true then A else B := by rw [decide_eq_false h]; exact iteT q
theorem g_nF {p A B : Prop} [Decidable p] (h : p) (q : B) : if (!decide p) = true then A else B := by rw [decide_eq_true h]; exact iteF q
/-! ### comprehensions: the list ys, value by value -/
theorem g_yes {σ : St} {H : Hp} {P : Bool → Hp → Prop} (q : P true H) : tYes σ H P := q
theorem g_lc {wi : TI} {g : TG} {tt : TT} {te : TE} {vs : List Nat} {σ : St} {H : Hp} {Q : VK} (h : wi σ H fun J H1 => ∀ D, H1 D = none → ∃ W : Nat → Nat → Hp → Prop, (∃ m, W 0 m (upd H1 D (.lst []))) ∧ ∀ i m H, W i m H →
  (J.stop i H ∧ Q (.ref D) H) ∨ (J.go i H ∧ ∃ Nx : Hp → Prop, (∀ H', Nx H' → ∃ m', m' < m ∧ W (i + 1) m' H') ∧ ∀ x H', J.yld i H x H' → g x (wipe σ vs) H' fun σ2 H2 => wipe σ2 vs = wipe σ vs ∧ tt σ2 H2 fun b H3 =>
    if b = true then te σ2 H3 fun y H4 => ∃ acc, H4 D = some (.lst acc) ∧ acc.length < sizeLine ∧ Nx (upd H4 D (.lst (acc ++ [y]))) else Nx H3)) : tLc wi g tt te vs σ H Q := h
theorem g_revR {ta : TE} {σ : St} {H : Hp} {R : It → Hp → Prop} (h : ta σ H fun x H1 => ∃ n : Int, x = .int n ∧ -(2 ^ 62) ≤ (0 : Int) ∧ (0 : Int) < 2 ^ 62 ∧ -(2 ^ 62) ≤ n ∧ n < 2 ^ 62 ∧ R (Itc (0 + (((n - 0).toNat : Nat) : Int) - 1) (-1) (n - 0).toNat) H1) : iRevR (tRg1 ta) σ H R := h
theorem g_rng1 {ta : TA} {σ : St} {H : Hp} {R : It → Hp → Prop} (h : ta σ H fun vs H1 => ∃ j : Int, vs = [.int j] ∧ -(2 ^ 62) ≤ j ∧ j < 2 ^ 62 ∧ R (Itr 0 j.toNat) H1) : iRng1 ta σ H R := h
theorem g_iList {K : PySem.W.Frag} {tl : TE} {σ : St} {H : Hp} {R : It → Hp → Prop} (h : tl σ H fun x H1 => ∃ a, x = .ref a ∧ (∃ xs, SqL K H1 a xs) ∧ R (Itl K a) H1) : iList K tl σ H R := h
def LcP (H1 : Hp) (D : Addr) (ys : List V) (i : Nat) (H : Hp) : Prop := Same H1 H ∧ H D = some (.lst (ys.take i))
theorem lc_vals {J : It} {n : Nat} {G : Hp → Prop} {Y : Nat → Hp → V → Hp → Prop} (w : Walk J n G Y) (ys : List V) {g : TG} {tt : TT} {te : TE} {vs : List Nat} {σ : St} {H1 : Hp} {D : Addr} {Qd : Hp → Prop} (hD : H1 D = none) (hlen : ys.length = n) (hG : ∀ H, Same H1 H → G H)
    (hs : ∀ i x H H', i < n → LcP H1 D ys i H → Y i H x H' → g x (wipe σ vs) H' fun σ2 H2 => wipe σ2 vs = wipe σ vs ∧ tt σ2 H2 fun b H3 =>
      if b = true then te σ2 H3 fun y H4 => ∃ acc, H4 D = some (.lst acc) ∧ acc.length < sizeLine ∧ LcP H1 D ys (i + 1) (upd H4 D (.lst (acc ++ [y]))) else LcP H1 D ys (i + 1) H3)
    (hd : ∀ H, Same H1 H → H D = some (.lst ys) → Qd H) :
    ∃ W : Nat → Nat → Hp → Prop, (∃ m, W 0 m (upd H1 D (.lst []))) ∧ ∀ i m H, W i m H →
      (J.stop i H ∧ Qd H) ∨ (J.go i H ∧ ∃ Nx : Hp → Prop, (∀ H', Nx H' → ∃ m', m' < m ∧ W (i + 1) m' H') ∧ ∀ x H', J.yld i H x H' → g x (wipe σ vs) H' fun σ2 H2 => wipe σ2 vs = wipe σ vs ∧ tt σ2 H2 fun b H3 =>
        if b = true then te σ2 H3 fun y H4 => ∃ acc, H4 D = some (.lst acc) ∧ acc.length < sizeLine ∧ Nx (upd H4 D (.lst (acc ++ [y]))) else Nx H3) := by
  refine lc_it w (LcP H1 D ys) ⟨same_upd hD, by rw [upd_same]; rfl⟩ (fun i H _ p => hG H p.1) hs (fun H p => hd H p.1 ?_)
  have e := p.2
  rw [← hlen, List.take_length] at e
  exact e
theorem lc_next {H1 H4 : Hp} {D : Addr} {ys : List V} {i : Nat} {y : V} (hD : H1 D = none) (p : LcP H1 D ys i H4) (hz : ys.length ≤ 100000) (hy : ys[i]? = some y) :
    ∃ acc, H4 D = some (.lst acc) ∧ acc.length < sizeLine ∧ LcP H1 D ys (i + 1) (upd H4 D (.lst (acc ++ [y]))) := by
  refine ⟨_, p.2, ?_, ?_, ?_⟩
  · rw [List.length_take]
    obtain ⟨h, _⟩ := List.getElem?_eq_some_iff.mp hy
    exact szl (by omega)
  · exact (But.of p.1).upd.same hD
  · rw [upd_same, List.take_add_one, hy]
    rfl
theorem LcP.same {H1 H4 H5 : Hp} {D : Addr} {ys : List V} {i : Nat} (p : LcP H1 D ys i H4) (s : Same H4 H5) : LcP H1 D ys i H5 := ⟨p.1.trans s, s _ _ p.2⟩
theorem map_get {α : Type} {f : α → V} {xs : List α} {i : Nat} {y : V} (h : (xs.map f)[i]? = some y) : ∃ z, xs[i]? = some z ∧ y = f z := by
  rw [List.getElem?_map] at h
  cases e : xs[i]? with
  | none => rw [e] at h; cases h
  | some z => rw [e] at h; exact ⟨z, rfl, (Option.some.inj h).symm⟩
/-! ### == of lists of ints -/
section
variable {K : PySem.W.Frag} {H : Hp} {Q : VK}
theorem dpAll_ints : ∀ {ns : List Int}, DpAll K H (ns.map V.int) (ns.map PyData.int)
  | [] => .nil
  | n :: _ => .cons (.int n) dpAll_ints
theorem lay_ints : ∀ {ns : List Int}, PyData.canLayAll0 (ns.map PyData.int) = true
  | [] => rfl
  | _ :: ns => by
    show (true && PyData.canLayAll0 (ns.map PyData.int)) = true
    rw [lay_ints]; rfl
theorem depth_ints : ∀ {ns : List Int}, PyData.depthAll (ns.map PyData.int) = 0
  | [] => rfl
  | _ :: ns => by
    show max 0 (PyData.depthAll (ns.map PyData.int)) = 0
    rw [depth_ints]; rfl
theorem shaped_ints {ns : List Int} : SeqAt.shaped (.list (ns.map PyData.int)) = true := by
  show (PyData.canLayAll0 (ns.map PyData.int) && decide (PyData.depthAll (ns.map PyData.int) + 1 ≤ 64)) = true
  rw [lay_ints, depth_ints]; rfl
theorem eqvAll_ints : ∀ {ns ms : List Int}, PyData.eqvAll (ns.map PyData.int) (ms.map PyData.int) = decide (ns = ms)
  | [], [] => rfl
  | [], _ :: _ => rfl
  | _ :: _, [] => rfl
  | n :: ns, m :: ms => by
    show ((n == m) && PyData.eqvAll (ns.map PyData.int) (ms.map PyData.int)) = decide (n :: ns = m :: ms)
    rw [eqvAll_ints, Bool.eq_iff_iff]
    simp
theorem dp_ints {a : Addr} {ns : List Int} (h : SqL K H a (ns.map V.int)) : Dp K H (.ref a) (.list (ns.map PyData.int)) := .lst h dpAll_ints
theorem g_eqL {a b : Addr} {ns ms : List Int} (h1 : SqL K H a (ns.map V.int)) (h2 : SqL K H b (ms.map V.int)) (q : Q (.bl (decide (ns = ms))) H) : rEqD K (.ref a) (.ref b) H Q :=
  ⟨_, _, dp_ints h1, dp_ints h2, shaped_ints, shaped_ints, by rw [show PyData.eqv (.list (ns.map PyData.int)) (.list (ms.map PyData.int)) = decide (ns = ms) from eqvAll_ints]; exact q⟩
theorem g_neL {a b : Addr} {ns ms : List Int} (h1 : SqL K H a (ns.map V.int)) (h2 : SqL K H b (ms.map V.int)) (q : Q (.bl (!decide (ns = ms))) H) : rNeD K (.ref a) (.ref b) H Q :=
  ⟨_, _, dp_ints h1, dp_ints h2, shaped_ints, shaped_ints, by rw [show PyData.eqv (.list (ns.map PyData.int)) (.list (ms.map PyData.int)) = decide (ns = ms) from eqvAll_ints]; exact q⟩
theorem g_sum {a : Addr} {ns : List Int} (h : SqL K H a (ns.map V.int)) (q : Q (.int ns.sum) H) : rSum K [.ref a] H Q := ⟨a, ns, rfl, h, q⟩
end
theorem ixN_nat {n : Nat} {k : Int} (h0 : 0 ≤ k) (h : k < (n : Int)) : ixN n k = some k.toNat := by
  unfold ixN
  rw [if_pos h0, if_pos h]
theorem g_ref {a : Addr} {A : Addr → Prop} (q : A a) : ∃ b, V.ref a = .ref b ∧ A b := ⟨a, rfl, q⟩
/-! ### objects: the attributes by their places -/
def obj : List Str → List V → List (Str × V)
  | k :: ks, v :: vs => (k, v) :: obj ks vs
  | _, _ => []
theorem obj_len : ∀ (ks : List Str) (vs : List V), (obj ks vs).length ≤ ks.length
  | [], _ => Nat.zero_le _
  | _ :: _, [] => Nat.zero_le _
  | _ :: ks, _ :: vs => Nat.succ_le_succ (obj_len ks vs)
theorem obj_get : ∀ {ks : List Str} {vs : List V} {i : Nat} {k : Str}, ks.Nodup → ks[i]? = some k → (obj ks vs).lookup k = vs[i]?
  | [], _, _, _, _, h => by cases h
  | k0 :: ks, [], i, k, _, _ => by simp [obj]
  | k0 :: ks, v :: vs, 0, k, _, h => by
    have e : k0 = k := Option.some.inj h
    subst e
    simp [obj]
  | k0 :: ks, v :: vs, i + 1, k, nd, h => by
    have nd' := List.nodup_cons.mp nd
    have hk : k ∈ ks := List.mem_of_getElem? h
    have ne : (k == k0) = false := by
      rw [beq_eq_false_iff_ne]
      intro e
      subst e
      exact nd'.1 hk
    show List.lookup k ((k0, v) :: obj ks vs) = vs[i]?
    rw [List.lookup_cons, ne]
    exact obj_get nd'.2 h
theorem obj_none : ∀ {ks : List Str} {vs : List V} {k : Str}, k ∉ ks → (obj ks vs).lookup k = none
  | [], _, _, _ => rfl
  | _ :: _, [], _, _ => rfl
  | k0 :: ks, v :: vs, k, h => by
    have ne : (k == k0) = false := by
      rw [beq_eq_false_iff_ne]
      intro e
      subst e
      exact h (List.mem_cons_self ..)
    show List.lookup k ((k0, v) :: obj ks vs) = none
    rw [List.lookup_cons, ne]
    exact obj_none fun z => h (List.mem_cons_of_mem _ z)
theorem obj_put : ∀ {ks : List Str} {vs : List V} {i : Nat} {k : Str} {y : V}, ks.Nodup → ks[i]? = some k → i < vs.length → putF k y (obj ks vs) = obj ks (vs.set i y)
  | [], _, _, _, _, _, h, _ => by cases h
  | _ :: _, [], _, _, _, _, _, h => by simp at h
  | k0 :: ks, v :: vs, 0, k, y, _, h, _ => by
    have e : k0 = k := Option.some.inj h
    subst e
    show (if k0 = k0 then _ else _) = _
    rw [if_pos rfl]
    rfl
  | k0 :: ks, v :: vs, i + 1, k, y, nd, h, hl => by
    have nd' := List.nodup_cons.mp nd
    have hk : k ∈ ks := List.mem_of_getElem? h
    have ne : ¬ k0 = k := by
      intro e
      subst e
      exact nd'.1 hk
    show (if k0 = k then _ else (k0, v) :: putF k y (obj ks vs)) = (k0, v) :: obj ks (vs.set i y)
    rw [if_neg ne, obj_put nd'.2 h (by simpa using hl)]
theorem obj_new : ∀ {ks : List Str} {vs : List V} {k : Str} {y : V}, ks.Nodup → ks[vs.length]? = some k → putF k y (obj ks vs) = obj ks (vs ++ [y])
  | [], _, _, _, _, h => by simp at h
  | k0 :: ks, [], k, y, _, h => by
    have e : k0 = k := Option.some.inj h
    subst e
    show [(k0, y)] = obj (k0 :: ks) [y]
    cases ks <;> rfl
  | k0 :: ks, v :: vs, k, y, nd, h => by
    have nd' := List.nodup_cons.mp nd
    have h' : ks[vs.length]? = some k := h
    have hk : k ∈ ks := List.mem_of_getElem? h'
    have ne : ¬ k0 = k := by
      intro e
      subst e
      exact nd'.1 hk
    show (if k0 = k then _ else (k0, v) :: putF k y (obj ks vs)) = (k0, v) :: obj ks (vs ++ [y])
    rw [if_neg ne, obj_new nd'.2 h']
section
variable {K : PySem.W.Frag} {σ : St} {H : Hp} {Q : VK} {v y : V} {ta tv : TE} {D : Ends} {f m : Str} {a C dx : Addr} {ks : List Str} {vs : List V} {i : Nat}
theorem g_fld (h : ta σ H fun x H1 => ∃ a C dx fs v, x = .ref a ∧ H1 a = some (.ins C dx fs) ∧ Cls K C ∧ NoAttr K C f ∧ fs.lookup f = some v ∧ Q v H1) : tFld K ta f σ H Q := h
theorem g_fldE {A : V → Prop} (ho : H a = some (.ins C dx (obj ks vs))) (c : Cls K C) (n : NoAttr K C f) (nd : ks.Nodup) (hk : ks[i]? = some f) (hv : vs[i]? = some v) (q : A v) :
    ∃ a' C' dx' fs v', V.ref a = .ref a' ∧ H a' = some (.ins C' dx' fs) ∧ Cls K C' ∧ NoAttr K C' f ∧ fs.lookup f = some v' ∧ A v' := ⟨a, C, dx, _, v, rfl, ho, c, n, (obj_get nd hk).trans hv, q⟩
theorem g_sfld (h : tv σ H fun y H1 => ta σ H1 fun x H2 => ∃ a C dx fs, x = .ref a ∧ H2 a = some (.ins C dx fs) ∧ Cls K C ∧ NoAttr K C f ∧ fs.length < 1000 ∧ D.nx σ (upd H2 a (.ins C dx (putF f y fs)))) : sFld K ta tv f D σ H := h
theorem g_putE {A : Hp → Prop} (ho : H a = some (.ins C dx (obj ks vs))) (c : Cls K C) (n : NoAttr K C f) (nd : ks.Nodup) (h1 : ks.length < 1000) (hk : ks[i]? = some f) (hv : i < vs.length) (q : A (upd H a (.ins C dx (obj ks (vs.set i y))))) :
    ∃ a' C' dx' fs, V.ref a = .ref a' ∧ H a' = some (.ins C' dx' fs) ∧ Cls K C' ∧ NoAttr K C' f ∧ fs.length < 1000 ∧ A (upd H a' (.ins C' dx' (putF f y fs))) :=
  ⟨a, C, dx, _, rfl, ho, c, n, Nat.lt_of_le_of_lt (obj_len ks vs) h1, by rw [obj_put nd hk hv]; exact q⟩
theorem g_newE {A : Hp → Prop} (ho : H a = some (.ins C dx (obj ks vs))) (c : Cls K C) (n : NoAttr K C f) (nd : ks.Nodup) (h1 : ks.length < 1000) (hk : ks[vs.length]? = some f) (q : A (upd H a (.ins C dx (obj ks (vs ++ [y]))))) :
    ∃ a' C' dx' fs, V.ref a = .ref a' ∧ H a' = some (.ins C' dx' fs) ∧ Cls K C' ∧ NoAttr K C' f ∧ fs.length < 1000 ∧ A (upd H a' (.ins C' dx' (putF f y fs))) :=
  ⟨a, C, dx, _, rfl, ho, c, n, Nat.lt_of_le_of_lt (obj_len ks vs) h1, by rw [obj_new nd hk]; exact q⟩
theorem g_meth {sp : Sp} {dvs : List V} {E : XK} {t : TA} (h : ta σ H fun x H1 => ∃ a dx fs, x = .ref a ∧ H1 a = some (.ins C dx fs) ∧ fs.lookup m = none ∧ t σ H1 fun vs H2 => sp (x :: (vs ++ dvs)) H2 Q E) : tMeth C m sp dvs E ta t σ H Q := h
theorem g_methE {A : Prop} (ho : H a = some (.ins C dx (obj ks vs))) (no : m ∉ ks) (q : A) : ∃ a' dx' fs, V.ref a = .ref a' ∧ H a' = some (.ins C dx' fs) ∧ fs.lookup m = none ∧ A := ⟨a, dx, _, rfl, ho, obj_none no, q⟩
theorem g_make {sp : Sp} {dvs : List V} {E : XK} {t : TA} (h : t σ H fun vs H1 => ∀ x dx, H1 x = none → H1 dx = none → dx ≠ x → sp (.ref x :: (vs ++ dvs)) (upd (upd H1 dx (.own x)) x (.ins C dx [])) (fun v H2 => v = .non ∧ Q (.ref x) H2) E) : tMake C sp dvs E t σ H Q := h
theorem g_prop {sp : Sp} {dvs : List V} {E : XK} (h : ta σ H fun x H1 => ∃ a dx fs, x = .ref a ∧ H1 a = some (.ins C dx fs) ∧ sp (.ref a :: dvs) H1 Q E) : tProp C sp dvs E ta σ H Q := h
theorem g_propE {A : Addr → Prop} (ho : H a = some (.ins C dx (obj ks vs))) (q : A a) : ∃ a' dx' fs, V.ref a = .ref a' ∧ H a' = some (.ins C dx' fs) ∧ A a' := ⟨a, dx, _, rfl, ho, q⟩
theorem g_absE {A : Int → Prop} {n : Int} (q : A n) : ∃ i, [V.int n] = [V.int i] ∧ A i := ⟨n, rfl, q⟩
end
/-- a slice of ints -/
theorem cut_ints (ns : List Int) (lo hi : Option Int) : ∃ ms : List Int, cutV (ns.map V.int) lo hi = ms.map V.int ∧ ms.length ≤ ns.length := by
  unfold cutV
  refine ⟨(ns.drop (HT.sIx (ns.map V.int).length 0 lo)).take (HT.sIx (ns.map V.int).length (ns.map V.int).length hi - HT.sIx (ns.map V.int).length 0 lo), ?_, ?_⟩
  · rw [List.map_take, List.map_drop]
  · rw [List.length_take, List.length_drop]
    omega
theorem g_nameE {i : Nat} {v : V} {σ σ' : St} {H : Hp} {A : St → Hp → Prop} (e : σ.set i (some v) = σ') (q : A σ' H) : gName i v σ H A := by
  subst e
  exact q
theorem but_sq {K : PySem.W.Frag} {p : Addr} {H H' : Hp} {a : Addr} {xs : List V} (e : But p H H') (n : a ≠ p) (h : SqL K H a xs) : SqL K H' a xs := by
  rcases h with (h | ⟨o, h⟩) | h
  · exact .inl (.inl (e _ _ n h))
  · exact .inl (.inr ⟨o, e _ _ n h⟩)
  · exact .inr h
theorem g_star {K : PySem.W.Frag} {te : TE} {t : TA} {σ : St} {H : Hp} {Q : List V → Hp → Prop} (h : te σ H fun x H1 => ∃ p xs, x = V.ref p ∧ (SqT K H1 p xs ∨ SqL K H1 p xs) ∧ t σ H1 fun ys H2 => Q (xs ++ ys) H2) : StX.tStar K te t σ H Q := h
theorem g_while {c : TT} {tb : TS} {D : Ends} {σ : St} {H : Hp} (W : Nat → St → Hp → Prop) (h0 : ∃ m, W m σ H) (h : ∀ m σ H, W m σ H → c σ H fun b H1 => if b = true then ∃ N : St → Hp → Prop, (∀ σ' H', N σ' H' → ∃ m', m' < m ∧ W m' σ' H') ∧ tb { D with nx := N, ct := N, bk := D.nx } σ H1 else D.nx σ H1) : tWhile c tb D σ H := ⟨W, h0, h⟩
theorem g_cut {t u : TS} {D : Ends} {σ : St} {H : Hp} (Mid : St → Hp → Prop) (h1 : t { D with nx := Mid } σ H) (h2 : ∀ σ' H', Mid σ' H' → u D σ' H') : C8.tCut t u D σ H := ⟨Mid, h1, h2⟩
theorem g_min {K : PySem.W.Frag} {a : Addr} {ns : List Int} {H : Hp} {Q : VK} (h : SqL K H a (ns.map V.int)) (h0 : 0 < ns.length) (q : ∀ m, m ∈ ns → (∀ y, y ∈ ns → m ≤ y) → Q (.int m) H) : rMin K [.ref a] H Q := ⟨a, ns, rfl, h, h0, q⟩
theorem g_max {K : PySem.W.Frag} {a : Addr} {ns : List Int} {H : Hp} {Q : VK} (h : SqL K H a (ns.map V.int)) (h0 : 0 < ns.length) (q : ∀ m, m ∈ ns → (∀ y, y ∈ ns → y ≤ m) → Q (.int m) H) : rMax K [.ref a] H Q := ⟨a, ns, rfl, h, h0, q⟩
theorem atI_nat' {xs : List V} {i : Int} {j : Nat} {v : V} (e : i = (j : Int)) (h : xs[j]? = some v) : atI xs i = some v := at_of e h
theorem ixN_last {n : Nat} (h : 0 < n) : ixN n (-1) = some (n - 1) := by
  unfold ixN
  rw [if_neg (by decide), if_pos (by omega)]
  congr 1
  omega
theorem atI_neg1 {xs : List V} {v : V} (h : xs[xs.length - 1]? = some v) : atI xs (-1) = some v := by
  obtain ⟨hl, _⟩ := List.getElem?_eq_some_iff.mp h
  unfold atI
  rw [ixN_last (by omega)]
  exact h
theorem snoc_of {α : Type} {xs : List α} (h : 0 < xs.length) : ∃ a x, xs = a ++ [x] :=
  ⟨xs.dropLast, xs.getLast (List.ne_nil_of_length_pos h), (List.dropLast_concat_getLast _).symm⟩
theorem set_last {α : Type} {a : List α} {x y : α} : (a ++ [x]).set a.length y = a ++ [y] := by
  rw [List.set_append_right _ _ (Nat.le_refl _), Nat.sub_self]
  rfl
end My
namespace My
open PySem PySem.Spec L2
local macro_rules | `(tactic| walk_at "side") => `(tactic| first | assumption | decide | omega | exact ⟨by decide, by decide⟩ | exact ⟨by decide, by decide, by decide⟩ | decide +kernel | exact cdivW (by decide +kernel) (by decide +kernel) | exact Or.inl ⟨by omega, by omega⟩ | exact Or.inr ⟨by omega, by omega⟩ | (simp only [List.length_map, List.length_cons, List.length_nil, List.length_append]; omega))
local macro_rules | `(tactic| walk_at "fact") => `(tactic| first | assumption | omega | with_reducible rfl)
local macro_rules | `(tactic| walk_at "use") => `(tactic| fail "use")
local macro_rules | `(tactic| walk_at "go1") => `(tactic| with_reducible first | refine g_seq ?_ | refine g_asg ?_ | refine g_ret ?_ | refine g_ifS ?_ | refine g_drop ?_ | refine g_star ?_ | refine g_nx ?_ | refine g_rt ?_ | refine g_bkE ?_ | refine g_ctE ?_ | refine g_next ?_ | refine g_retN ?_ | refine g_brk ?_ | refine g_ct ?_ | refine g_c ?_ | refine g_op ?_ | refine g_un ?_ | refine g_rI0 ?_ | refine g_rU ?_ | refine g_rEqI ?_ | refine g_rNeI ?_ | refine g_isN ?_ | refine g_rIsB ?_ | refine g_rNotB ?_ | refine g_test ?_ | refine g_B ?_ | refine g_bl ?_ | refine g_and ?_ | refine g_or ?_ | refine g_not ?_ | refine g_andV ?_ | refine g_orV ?_ | refine g_notV ?_ | refine g_if ?_ | refine g_chain ?_ | refine g_yes ?_ | refine g_lc ?_ | refine g_revR ?_ | refine g_rng1 ?_ | refine g_iList ?_ | refine g_nil ?_ | refine g_cons ?_ | refine g_tup ?_ | refine g_lst ?_ | refine g_call ?_ | refine g_CB ?_ | refine g_sl ?_ | refine g_noPart ?_ | refine g_part ?_ | refine g_intE ?_ | refine g_ref ?_ | refine g_fld ?_ | refine g_sfld ?_ | refine g_meth ?_ | refine g_make ?_ | refine g_prop ?_  | refine g_ipI ?_ | refine g_int1 ?_ | refine g_int1B ?_ | refine g_one ?_ | refine g_two ?_ | refine g_isiI ?_ | refine g_isiIB ?_ | refine g_isiB ?_ | refine g_BM ?_ | refine g_BM0 ?_ | refine g_sub ?_)
local macro_rules | `(tactic| walk_at "go") => `(tactic| repeat (first | walk_at "go1" | ((with_reducible refine' g_nameE ?sd_ ?_); case sd_ => dsimp only [List.set_cons_succ, List.set_cons_zero]) | ((with_reducible refine' g_var ?sd_ ?_); case sd_ => exact rfl) | ((with_reducible refine' g_aug ?sd_ ?_); case sd_ => exact rfl) | ((with_reducible refine' g_rI ?sd_ ?_); case sd_ => walk_at "side") | ((with_reducible refine' g_dT ?sd_ ?_); case sd_ => walk_at "fact") | ((with_reducible refine' g_dF ?sd_ ?_); case sd_ => walk_at "fact") | ((with_reducible refine' g_nT ?sd_ ?_); case sd_ => walk_at "fact") | ((with_reducible refine' g_nF ?sd_ ?_); case sd_ => walk_at "fact") | (with_reducible refine g_iT rfl ?_) | (with_reducible refine g_iF rfl ?_) | walk_at "use"))
local macro_rules | `(tactic| walk_at "nw") => `(tactic| (generalize zq : upd _ _ _ = Hq; have sq : Same _ Hq := (by rw [← zq]; exact same_upd (by assumption)); have kq := (congrFun zq _).symm.trans upd_same; clear zq))
local macro_rules | `(tactic| walk_at "bt") => `(tactic| (generalize zq : upd _ _ _ = Hq; have bq : But _ _ Hq := (by rw [← zq]; exact But.refl.upd); have kq := (congrFun zq _).symm.trans upd_same; clear zq))
def topS (i : Nat) : Stmt := PySem.Challenge.pw_throughline_k62_ledger.main.body.getD i (.Pass ⟨0, 0, 0, 0⟩)
abbrev s_Ledger_init__ : Stmt := inClass (topS 2) 0
abbrev s_Ledger_note_write : Stmt := inClass (topS 2) 1
abbrev s_Ledger_note_read : Stmt := inClass (topS 2) 2
abbrev s_Ledger_note_finish : Stmt := inClass (topS 2) 3
abbrev s_Ledger_written : Stmt := inClass (topS 2) 4
abbrev s_Ledger_was_read : Stmt := inClass (topS 2) 5
abbrev s_Ledger_has_finished : Stmt := inClass (topS 2) 6
abbrev s_Ledger_iter__ : Stmt := inClass (topS 2) 8
abbrev s_l_cell : Stmt := topS 4
abbrev s_l_is_integer : Stmt := topS 5
abbrev s_l_start : Stmt := topS 6
abbrev s_l_digit : Stmt := topS 7
abbrev s_l_octets : Stmt := topS 8
abbrev s_l_holds : Stmt := topS 9
abbrev s_l_keys : Stmt := topS 10
abbrev s_l_same_keys : Stmt := topS 11
abbrev s_law : Stmt := topS 12
theorem sc_Ledger_init__ : FnScope ["self"] ["self"] (defScope s_Ledger_init__) := ⟨rfl, rfl, rfl, by decide +kernel, rfl, by decide +kernel, by decide +kernel⟩
theorem sc_Ledger_note_write : FnScope ["self", "host", "socket", "octets"] ["self", "host", "socket", "octets"] (defScope s_Ledger_note_write) := ⟨rfl, rfl, rfl, by decide +kernel, rfl, by decide +kernel, by decide +kernel⟩
theorem sc_Ledger_note_read : FnScope ["self", "host", "socket", "octets"] ["self", "host", "socket", "octets"] (defScope s_Ledger_note_read) := ⟨rfl, rfl, rfl, by decide +kernel, rfl, by decide +kernel, by decide +kernel⟩
theorem sc_Ledger_note_finish : FnScope ["self", "host", "socket"] ["self", "host", "socket"] (defScope s_Ledger_note_finish) := ⟨rfl, rfl, rfl, by decide +kernel, rfl, by decide +kernel, by decide +kernel⟩
theorem sc_Ledger_written : FnScope ["self", "host", "socket"] ["self", "host", "socket"] (defScope s_Ledger_written) := ⟨rfl, rfl, rfl, by decide +kernel, rfl, by decide +kernel, by decide +kernel⟩
theorem sc_Ledger_was_read : FnScope ["self", "host", "socket"] ["self", "host", "socket"] (defScope s_Ledger_was_read) := ⟨rfl, rfl, rfl, by decide +kernel, rfl, by decide +kernel, by decide +kernel⟩
theorem sc_Ledger_has_finished : FnScope ["self", "host", "socket"] ["self", "host", "socket"] (defScope s_Ledger_has_finished) := ⟨rfl, rfl, rfl, by decide +kernel, rfl, by decide +kernel, by decide +kernel⟩
theorem sc_Ledger_iter__ : FnScope ["self"] ["self"] (defScope s_Ledger_iter__) := ⟨rfl, rfl, rfl, by decide +kernel, rfl, by decide +kernel, by decide +kernel⟩
theorem sc_l_cell : FnScope ["script", "k"] ["script", "k"] (defScope s_l_cell) := ⟨rfl, rfl, rfl, by decide +kernel, rfl, by decide +kernel, by decide +kernel⟩
theorem sc_l_is_integer : FnScope ["told"] ["told"] (defScope s_l_is_integer) := ⟨rfl, rfl, rfl, by decide +kernel, rfl, by decide +kernel, by decide +kernel⟩
theorem sc_l_start : FnScope ["cell", "k", "prime", "mixed"] ["cell", "k"] (defScope s_l_start) := ⟨rfl, rfl, rfl, by decide +kernel, rfl, by decide +kernel, by decide +kernel⟩
theorem sc_l_digit : FnScope ["state", "many", "digit"] ["state", "many"] (defScope s_l_digit) := ⟨rfl, rfl, rfl, by decide +kernel, rfl, by decide +kernel, by decide +kernel⟩
theorem sc_l_octets : FnScope ["told", "octet"] ["told"] (defScope s_l_octets) := ⟨rfl, rfl, rfl, by decide +kernel, rfl, by decide +kernel, by decide +kernel⟩
theorem sc_l_holds : FnScope ["ledger", "host", "socket", "rows", "written", "given", "ended", "row", "told", "far", "done"] ["ledger", "host", "socket", "rows"] (defScope s_l_holds) := ⟨rfl, rfl, rfl, by decide +kernel, rfl, by decide +kernel, by decide +kernel⟩
theorem sc_l_keys : FnScope ["rows", "keys", "row"] ["rows"] (defScope s_l_keys) := ⟨rfl, rfl, rfl, by decide +kernel, rfl, by decide +kernel, by decide +kernel⟩
theorem sc_l_same_keys : FnScope ["ledger", "rows", "told", "key"] ["ledger", "rows"] (defScope s_l_same_keys) := ⟨rfl, rfl, rfl, by decide +kernel, rfl, by decide +kernel, by decide +kernel⟩
theorem sc_law : FnScope ["script", "first", "most", "ledger", "rows", "k", "state", "host", "socket", "kind", "octets", "given", "row", "j"] ["script"] (defScope s_law) := ⟨rfl, rfl, rfl, by decide +kernel, rfl, by decide +kernel, by decide +kernel⟩
structure Txt (K : PySem.W.Frag) (mg : Str → Option Value) where
  C_Ledger : Addr
  f_Ledger_init__ : Addr
  d_Ledger_init__ : FuncData
  f_Ledger_note_write : Addr
  d_Ledger_note_write : FuncData
  f_Ledger_note_read : Addr
  d_Ledger_note_read : FuncData
  f_Ledger_note_finish : Addr
  d_Ledger_note_finish : FuncData
  f_Ledger_written : Addr
  d_Ledger_written : FuncData
  f_Ledger_was_read : Addr
  d_Ledger_was_read : FuncData
  f_Ledger_has_finished : Addr
  d_Ledger_has_finished : FuncData
  f_Ledger_iter__ : Addr
  d_Ledger_iter__ : FuncData
  f_l_cell : Addr
  d_l_cell : FuncData
  f_l_is_integer : Addr
  d_l_is_integer : FuncData
  f_l_start : Addr
  d_l_start : FuncData
  f_l_digit : Addr
  d_l_digit : FuncData
  f_l_octets : Addr
  d_l_octets : FuncData
  f_l_holds : Addr
  d_l_holds : FuncData
  f_l_keys : Addr
  d_l_keys : FuncData
  f_l_same_keys : Addr
  d_l_same_keys : FuncData
  f_law : Addr
  d_law : FuncData
  c_Ledger : mg "Ledger" = some (.ref C_Ledger)
  k_Ledger : Cls K C_Ledger
  n_Ledger__noted : NoAttr K C_Ledger "_noted"
  n_Ledger__written : NoAttr K C_Ledger "_written"
  n_Ledger__was_read : NoAttr K C_Ledger "_was_read"
  n_Ledger__finished : NoAttr K C_Ledger "_finished"
  F_Ledger_init__ : Fun K "__init__" "Ledger.__init__" s_Ledger_init__ f_Ledger_init__ d_Ledger_init__
  b_Ledger_init__ : Binds K d_Ledger_init__ ["self"] []
  mk_Ledger : Mk K C_Ledger f_Ledger_init__
  F_Ledger_note_write : Fun K "note_write" "Ledger.note_write" s_Ledger_note_write f_Ledger_note_write d_Ledger_note_write
  b_Ledger_note_write : Binds K d_Ledger_note_write ["self", "host", "socket", "octets"] []
  a_Ledger_note_write : Meth K C_Ledger "note_write" f_Ledger_note_write
  F_Ledger_note_read : Fun K "note_read" "Ledger.note_read" s_Ledger_note_read f_Ledger_note_read d_Ledger_note_read
  b_Ledger_note_read : Binds K d_Ledger_note_read ["self", "host", "socket", "octets"] []
  a_Ledger_note_read : Meth K C_Ledger "note_read" f_Ledger_note_read
  F_Ledger_note_finish : Fun K "note_finish" "Ledger.note_finish" s_Ledger_note_finish f_Ledger_note_finish d_Ledger_note_finish
  b_Ledger_note_finish : Binds K d_Ledger_note_finish ["self", "host", "socket"] []
  a_Ledger_note_finish : Meth K C_Ledger "note_finish" f_Ledger_note_finish
  F_Ledger_written : Fun K "written" "Ledger.written" s_Ledger_written f_Ledger_written d_Ledger_written
  b_Ledger_written : Binds K d_Ledger_written ["self", "host", "socket"] []
  a_Ledger_written : Meth K C_Ledger "written" f_Ledger_written
  F_Ledger_was_read : Fun K "was_read" "Ledger.was_read" s_Ledger_was_read f_Ledger_was_read d_Ledger_was_read
  b_Ledger_was_read : Binds K d_Ledger_was_read ["self", "host", "socket"] []
  a_Ledger_was_read : Meth K C_Ledger "was_read" f_Ledger_was_read
  F_Ledger_has_finished : Fun K "has_finished" "Ledger.has_finished" s_Ledger_has_finished f_Ledger_has_finished d_Ledger_has_finished
  b_Ledger_has_finished : Binds K d_Ledger_has_finished ["self", "host", "socket"] []
  a_Ledger_has_finished : Meth K C_Ledger "has_finished" f_Ledger_has_finished
  F_Ledger_iter__ : Fun K "__iter__" "Ledger.__iter__" s_Ledger_iter__ f_Ledger_iter__ d_Ledger_iter__
  b_Ledger_iter__ : Binds K d_Ledger_iter__ ["self"] []
  a_Ledger_iter__ : Meth K C_Ledger "__iter__" f_Ledger_iter__
  F_l_cell : Fun K "_law_cell" "_law_cell" s_l_cell f_l_cell d_l_cell
  b_l_cell : Binds K d_l_cell ["script", "k"] []
  m_l_cell : mg "_law_cell" = some (.ref f_l_cell)
  F_l_is_integer : Fun K "_law_is_integer" "_law_is_integer" s_l_is_integer f_l_is_integer d_l_is_integer
  b_l_is_integer : Binds K d_l_is_integer ["told"] []
  m_l_is_integer : mg "_law_is_integer" = some (.ref f_l_is_integer)
  F_l_start : Fun K "_law_start" "_law_start" s_l_start f_l_start d_l_start
  b_l_start : Binds K d_l_start ["cell", "k"] []
  m_l_start : mg "_law_start" = some (.ref f_l_start)
  F_l_digit : Fun K "_law_digit" "_law_digit" s_l_digit f_l_digit d_l_digit
  b_l_digit : Binds K d_l_digit ["state", "many"] []
  m_l_digit : mg "_law_digit" = some (.ref f_l_digit)
  F_l_octets : Fun K "_law_octets" "_law_octets" s_l_octets f_l_octets d_l_octets
  b_l_octets : Binds K d_l_octets ["told"] []
  m_l_octets : mg "_law_octets" = some (.ref f_l_octets)
  F_l_holds : Fun K "_law_holds" "_law_holds" s_l_holds f_l_holds d_l_holds
  b_l_holds : Binds K d_l_holds ["ledger", "host", "socket", "rows"] []
  m_l_holds : mg "_law_holds" = some (.ref f_l_holds)
  F_l_keys : Fun K "_law_keys" "_law_keys" s_l_keys f_l_keys d_l_keys
  b_l_keys : Binds K d_l_keys ["rows"] []
  m_l_keys : mg "_law_keys" = some (.ref f_l_keys)
  F_l_same_keys : Fun K "_law_same_keys" "_law_same_keys" s_l_same_keys f_l_same_keys d_l_same_keys
  b_l_same_keys : Binds K d_l_same_keys ["ledger", "rows"] []
  m_l_same_keys : mg "_law_same_keys" = some (.ref f_l_same_keys)
  F_law : Fun K "law" "law" s_law f_law d_law
  b_law : Binds K d_law ["script"] []
  m_law : mg "law" = some (.ref f_law)
  n_bool : mg "bool" = none
  n_int : mg "int" = none
  n_isinstance : mg "isinstance" = none
  n_iter : mg "iter" = none
  n_len : mg "len" = none
  n_list : mg "list" = none
  n_max : mg "max" = none
  n_min : mg "min" = none
  n_range : mg "range" = none
  n_tuple : mg "tuple" = none
def ky_Ledger : List Str := ["_noted", "_written", "_was_read", "_finished"]
theorem nd_Ledger : ky_Ledger.Nodup := by decide +kernel
section
variable {K : PySem.W.Frag} {mg : Str → Option Value} {T : Txt K mg} {H : Hp} {a dx : Addr} {vs : List V} {v y : V}
theorem fd_Ledger__noted {A : V → Prop} (ho : H a = some (.ins T.C_Ledger dx (obj ky_Ledger vs))) (hv : vs[0]? = some v) (q : A v) : ∃ a' C' dx' fs v', V.ref a = .ref a' ∧ H a' = some (.ins C' dx' fs) ∧ Cls K C' ∧ NoAttr K C' "_noted" ∧ fs.lookup ("_noted" : Str) = some v' ∧ A v' := g_fldE ho T.k_Ledger T.n_Ledger__noted nd_Ledger rfl hv q
theorem st_Ledger__noted {A : Hp → Prop} (ho : H a = some (.ins T.C_Ledger dx (obj ky_Ledger vs))) (hv : 0 < vs.length) (q : A (upd H a (.ins T.C_Ledger dx (obj ky_Ledger (vs.set 0 y))))) : ∃ a' C' dx' fs, V.ref a = .ref a' ∧ H a' = some (.ins C' dx' fs) ∧ Cls K C' ∧ NoAttr K C' "_noted" ∧ fs.length < 1000 ∧ A (upd H a' (.ins C' dx' (putF "_noted" y fs))) := g_putE ho T.k_Ledger T.n_Ledger__noted nd_Ledger (by decide) rfl hv q
theorem nw_Ledger__noted {A : Hp → Prop} (ho : H a = some (.ins T.C_Ledger dx (obj ky_Ledger vs))) (hv : vs.length = 0) (q : A (upd H a (.ins T.C_Ledger dx (obj ky_Ledger (vs ++ [y]))))) : ∃ a' C' dx' fs, V.ref a = .ref a' ∧ H a' = some (.ins C' dx' fs) ∧ Cls K C' ∧ NoAttr K C' "_noted" ∧ fs.length < 1000 ∧ A (upd H a' (.ins C' dx' (putF "_noted" y fs))) := g_newE ho T.k_Ledger T.n_Ledger__noted nd_Ledger (by decide) (by rw [hv]; rfl) q
theorem fd_Ledger__written {A : V → Prop} (ho : H a = some (.ins T.C_Ledger dx (obj ky_Ledger vs))) (hv : vs[1]? = some v) (q : A v) : ∃ a' C' dx' fs v', V.ref a = .ref a' ∧ H a' = some (.ins C' dx' fs) ∧ Cls K C' ∧ NoAttr K C' "_written" ∧ fs.lookup ("_written" : Str) = some v' ∧ A v' := g_fldE ho T.k_Ledger T.n_Ledger__written nd_Ledger rfl hv q
theorem st_Ledger__written {A : Hp → Prop} (ho : H a = some (.ins T.C_Ledger dx (obj ky_Ledger vs))) (hv : 1 < vs.length) (q : A (upd H a (.ins T.C_Ledger dx (obj ky_Ledger (vs.set 1 y))))) : ∃ a' C' dx' fs, V.ref a = .ref a' ∧ H a' = some (.ins C' dx' fs) ∧ Cls K C' ∧ NoAttr K C' "_written" ∧ fs.length < 1000 ∧ A (upd H a' (.ins C' dx' (putF "_written" y fs))) := g_putE ho T.k_Ledger T.n_Ledger__written nd_Ledger (by decide) rfl hv q
theorem nw_Ledger__written {A : Hp → Prop} (ho : H a = some (.ins T.C_Ledger dx (obj ky_Ledger vs))) (hv : vs.length = 1) (q : A (upd H a (.ins T.C_Ledger dx (obj ky_Ledger (vs ++ [y]))))) : ∃ a' C' dx' fs, V.ref a = .ref a' ∧ H a' = some (.ins C' dx' fs) ∧ Cls K C' ∧ NoAttr K C' "_written" ∧ fs.length < 1000 ∧ A (upd H a' (.ins C' dx' (putF "_written" y fs))) := g_newE ho T.k_Ledger T.n_Ledger__written nd_Ledger (by decide) (by rw [hv]; rfl) q
theorem fd_Ledger__was_read {A : V → Prop} (ho : H a = some (.ins T.C_Ledger dx (obj ky_Ledger vs))) (hv : vs[2]? = some v) (q : A v) : ∃ a' C' dx' fs v', V.ref a = .ref a' ∧ H a' = some (.ins C' dx' fs) ∧ Cls K C' ∧ NoAttr K C' "_was_read" ∧ fs.lookup ("_was_read" : Str) = some v' ∧ A v' := g_fldE ho T.k_Ledger T.n_Ledger__was_read nd_Ledger rfl hv q
theorem st_Ledger__was_read {A : Hp → Prop} (ho : H a = some (.ins T.C_Ledger dx (obj ky_Ledger vs))) (hv : 2 < vs.length) (q : A (upd H a (.ins T.C_Ledger dx (obj ky_Ledger (vs.set 2 y))))) : ∃ a' C' dx' fs, V.ref a = .ref a' ∧ H a' = some (.ins C' dx' fs) ∧ Cls K C' ∧ NoAttr K C' "_was_read" ∧ fs.length < 1000 ∧ A (upd H a' (.ins C' dx' (putF "_was_read" y fs))) := g_putE ho T.k_Ledger T.n_Ledger__was_read nd_Ledger (by decide) rfl hv q
theorem nw_Ledger__was_read {A : Hp → Prop} (ho : H a = some (.ins T.C_Ledger dx (obj ky_Ledger vs))) (hv : vs.length = 2) (q : A (upd H a (.ins T.C_Ledger dx (obj ky_Ledger (vs ++ [y]))))) : ∃ a' C' dx' fs, V.ref a = .ref a' ∧ H a' = some (.ins C' dx' fs) ∧ Cls K C' ∧ NoAttr K C' "_was_read" ∧ fs.length < 1000 ∧ A (upd H a' (.ins C' dx' (putF "_was_read" y fs))) := g_newE ho T.k_Ledger T.n_Ledger__was_read nd_Ledger (by decide) (by rw [hv]; rfl) q
theorem fd_Ledger__finished {A : V → Prop} (ho : H a = some (.ins T.C_Ledger dx (obj ky_Ledger vs))) (hv : vs[3]? = some v) (q : A v) : ∃ a' C' dx' fs v', V.ref a = .ref a' ∧ H a' = some (.ins C' dx' fs) ∧ Cls K C' ∧ NoAttr K C' "_finished" ∧ fs.lookup ("_finished" : Str) = some v' ∧ A v' := g_fldE ho T.k_Ledger T.n_Ledger__finished nd_Ledger rfl hv q
theorem st_Ledger__finished {A : Hp → Prop} (ho : H a = some (.ins T.C_Ledger dx (obj ky_Ledger vs))) (hv : 3 < vs.length) (q : A (upd H a (.ins T.C_Ledger dx (obj ky_Ledger (vs.set 3 y))))) : ∃ a' C' dx' fs, V.ref a = .ref a' ∧ H a' = some (.ins C' dx' fs) ∧ Cls K C' ∧ NoAttr K C' "_finished" ∧ fs.length < 1000 ∧ A (upd H a' (.ins C' dx' (putF "_finished" y fs))) := g_putE ho T.k_Ledger T.n_Ledger__finished nd_Ledger (by decide) rfl hv q
theorem nw_Ledger__finished {A : Hp → Prop} (ho : H a = some (.ins T.C_Ledger dx (obj ky_Ledger vs))) (hv : vs.length = 3) (q : A (upd H a (.ins T.C_Ledger dx (obj ky_Ledger (vs ++ [y]))))) : ∃ a' C' dx' fs, V.ref a = .ref a' ∧ H a' = some (.ins C' dx' fs) ∧ Cls K C' ∧ NoAttr K C' "_finished" ∧ fs.length < 1000 ∧ A (upd H a' (.ins C' dx' (putF "_finished" y fs))) := g_newE ho T.k_Ledger T.n_Ledger__finished nd_Ledger (by decide) (by rw [hv]; rfl) q
theorem me_Ledger_note_write {A : Prop} (ho : H a = some (.ins T.C_Ledger dx (obj ky_Ledger vs))) (q : A) : ∃ a' dx' fs, V.ref a = .ref a' ∧ H a' = some (.ins T.C_Ledger dx' fs) ∧ fs.lookup ("note_write" : Str) = none ∧ A := g_methE ho (by decide +kernel) q
theorem me_Ledger_note_read {A : Prop} (ho : H a = some (.ins T.C_Ledger dx (obj ky_Ledger vs))) (q : A) : ∃ a' dx' fs, V.ref a = .ref a' ∧ H a' = some (.ins T.C_Ledger dx' fs) ∧ fs.lookup ("note_read" : Str) = none ∧ A := g_methE ho (by decide +kernel) q
theorem me_Ledger_note_finish {A : Prop} (ho : H a = some (.ins T.C_Ledger dx (obj ky_Ledger vs))) (q : A) : ∃ a' dx' fs, V.ref a = .ref a' ∧ H a' = some (.ins T.C_Ledger dx' fs) ∧ fs.lookup ("note_finish" : Str) = none ∧ A := g_methE ho (by decide +kernel) q
theorem me_Ledger_written {A : Prop} (ho : H a = some (.ins T.C_Ledger dx (obj ky_Ledger vs))) (q : A) : ∃ a' dx' fs, V.ref a = .ref a' ∧ H a' = some (.ins T.C_Ledger dx' fs) ∧ fs.lookup ("written" : Str) = none ∧ A := g_methE ho (by decide +kernel) q
theorem me_Ledger_was_read {A : Prop} (ho : H a = some (.ins T.C_Ledger dx (obj ky_Ledger vs))) (q : A) : ∃ a' dx' fs, V.ref a = .ref a' ∧ H a' = some (.ins T.C_Ledger dx' fs) ∧ fs.lookup ("was_read" : Str) = none ∧ A := g_methE ho (by decide +kernel) q
theorem me_Ledger_has_finished {A : Prop} (ho : H a = some (.ins T.C_Ledger dx (obj ky_Ledger vs))) (q : A) : ∃ a' dx' fs, V.ref a = .ref a' ∧ H a' = some (.ins T.C_Ledger dx' fs) ∧ fs.lookup ("has_finished" : Str) = none ∧ A := g_methE ho (by decide +kernel) q
theorem me_Ledger_iter__ {A : Prop} (ho : H a = some (.ins T.C_Ledger dx (obj ky_Ledger vs))) (q : A) : ∃ a' dx' fs, V.ref a = .ref a' ∧ H a' = some (.ins T.C_Ledger dx' fs) ∧ fs.lookup ("__iter__" : Str) = none ∧ A := g_methE ho (by decide +kernel) q
end
local macro_rules | `(tactic| walk_at "use") => `(tactic| first | ((with_reducible refine' fd_Ledger__noted ?ho_ ?hv_ ?_); (case ho_ => first | assumption | exact upd_same); (case hv_ => exact rfl)) | ((with_reducible refine' fd_Ledger__written ?ho_ ?hv_ ?_); (case ho_ => first | assumption | exact upd_same); (case hv_ => exact rfl)) | ((with_reducible refine' fd_Ledger__was_read ?ho_ ?hv_ ?_); (case ho_ => first | assumption | exact upd_same); (case hv_ => exact rfl)) | ((with_reducible refine' fd_Ledger__finished ?ho_ ?hv_ ?_); (case ho_ => first | assumption | exact upd_same); (case hv_ => exact rfl)) | ((with_reducible refine' nw_Ledger__noted ?ho_ ?hv_ ?_); (case ho_ => first | assumption | exact upd_same); (case hv_ => exact rfl)) | ((with_reducible refine' nw_Ledger__written ?ho_ ?hv_ ?_); (case ho_ => first | assumption | exact upd_same); (case hv_ => exact rfl)) | ((with_reducible refine' nw_Ledger__was_read ?ho_ ?hv_ ?_); (case ho_ => first | assumption | exact upd_same); (case hv_ => exact rfl)) | ((with_reducible refine' nw_Ledger__finished ?ho_ ?hv_ ?_); (case ho_ => first | assumption | exact upd_same); (case hv_ => exact rfl)) | ((with_reducible refine' st_Ledger__noted ?ho_ ?hv_ ?_); (case ho_ => first | assumption | exact upd_same); (case hv_ => exact Nat.le_of_ble_eq_true rfl)) | ((with_reducible refine' st_Ledger__written ?ho_ ?hv_ ?_); (case ho_ => first | assumption | exact upd_same); (case hv_ => exact Nat.le_of_ble_eq_true rfl)) | ((with_reducible refine' st_Ledger__was_read ?ho_ ?hv_ ?_); (case ho_ => first | assumption | exact upd_same); (case hv_ => exact Nat.le_of_ble_eq_true rfl)) | ((with_reducible refine' st_Ledger__finished ?ho_ ?hv_ ?_); (case ho_ => first | assumption | exact upd_same); (case hv_ => exact Nat.le_of_ble_eq_true rfl)) | ((with_reducible refine' me_Ledger_note_write ?ho_ ?_); (case ho_ => first | assumption | exact upd_same)) | ((with_reducible refine' me_Ledger_note_read ?ho_ ?_); (case ho_ => first | assumption | exact upd_same)) | ((with_reducible refine' me_Ledger_note_finish ?ho_ ?_); (case ho_ => first | assumption | exact upd_same)) | ((with_reducible refine' me_Ledger_written ?ho_ ?_); (case ho_ => first | assumption | exact upd_same)) | ((with_reducible refine' me_Ledger_was_read ?ho_ ?_); (case ho_ => first | assumption | exact upd_same)) | ((with_reducible refine' me_Ledger_has_finished ?ho_ ?_); (case ho_ => first | assumption | exact upd_same)) | ((with_reducible refine' me_Ledger_iter__ ?ho_ ?_); (case ho_ => first | assumption | exact upd_same)))
end My
namespace My
open PySem PySem.Spec L2
local macro_rules | `(tactic| walk_at "side") => `(tactic| first | assumption | decide | omega | exact ⟨by decide, by decide⟩ | exact ⟨by decide, by decide, by decide⟩ | decide +kernel | exact cdivW (by decide +kernel) (by decide +kernel) | exact Or.inl ⟨by omega, by omega⟩ | exact Or.inr ⟨by omega, by omega⟩ | (simp only [List.length_map, List.length_cons, List.length_nil, List.length_append]; omega))
local macro_rules | `(tactic| walk_at "fact") => `(tactic| first | assumption | omega | with_reducible rfl)
local macro_rules | `(tactic| walk_at "use") => `(tactic| fail "use")
local macro_rules | `(tactic| walk_at "go1") => `(tactic| with_reducible first | refine g_seq ?_ | refine g_asg ?_ | refine g_ret ?_ | refine g_ifS ?_ | refine g_drop ?_ | refine g_star ?_ | refine g_nx ?_ | refine g_rt ?_ | refine g_bkE ?_ | refine g_ctE ?_ | refine g_next ?_ | refine g_retN ?_ | refine g_brk ?_ | refine g_ct ?_ | refine g_c ?_ | refine g_op ?_ | refine g_un ?_ | refine g_rI0 ?_ | refine g_rU ?_ | refine g_rEqI ?_ | refine g_rNeI ?_ | refine g_isN ?_ | refine g_rIsB ?_ | refine g_rNotB ?_ | refine g_test ?_ | refine g_B ?_ | refine g_bl ?_ | refine g_and ?_ | refine g_or ?_ | refine g_not ?_ | refine g_andV ?_ | refine g_orV ?_ | refine g_notV ?_ | refine g_if ?_ | refine g_chain ?_ | refine g_yes ?_ | refine g_lc ?_ | refine g_revR ?_ | refine g_rng1 ?_ | refine g_iList ?_ | refine g_nil ?_ | refine g_cons ?_ | refine g_tup ?_ | refine g_lst ?_ | refine g_call ?_ | refine g_CB ?_ | refine g_sl ?_ | refine g_noPart ?_ | refine g_part ?_ | refine g_intE ?_ | refine g_ref ?_ | refine g_fld ?_ | refine g_sfld ?_ | refine g_meth ?_ | refine g_make ?_ | refine g_prop ?_  | refine g_ipI ?_ | refine g_int1 ?_ | refine g_int1B ?_ | refine g_one ?_ | refine g_two ?_ | refine g_isiI ?_ | refine g_isiIB ?_ | refine g_isiB ?_ | refine g_BM ?_ | refine g_BM0 ?_ | refine g_sub ?_)
local macro_rules | `(tactic| walk_at "go") => `(tactic| repeat (first | walk_at "go1" | ((with_reducible refine' g_nameE ?sd_ ?_); case sd_ => dsimp only [List.set_cons_succ, List.set_cons_zero]) | ((with_reducible refine' g_var ?sd_ ?_); case sd_ => exact rfl) | ((with_reducible refine' g_aug ?sd_ ?_); case sd_ => exact rfl) | ((with_reducible refine' g_rI ?sd_ ?_); case sd_ => walk_at "side") | ((with_reducible refine' g_dT ?sd_ ?_); case sd_ => walk_at "fact") | ((with_reducible refine' g_dF ?sd_ ?_); case sd_ => walk_at "fact") | ((with_reducible refine' g_nT ?sd_ ?_); case sd_ => walk_at "fact") | ((with_reducible refine' g_nF ?sd_ ?_); case sd_ => walk_at "fact") | (with_reducible refine g_iT rfl ?_) | (with_reducible refine g_iF rfl ?_) | walk_at "use"))
local macro_rules | `(tactic| walk_at "nw") => `(tactic| (generalize zq : upd _ _ _ = Hq; have sq : Same _ Hq := (by rw [← zq]; exact same_upd (by assumption)); have kq := (congrFun zq _).symm.trans upd_same; clear zq))
local macro_rules | `(tactic| walk_at "bt") => `(tactic| (generalize zq : upd _ _ _ = Hq; have bq : But _ _ Hq := (by rw [← zq]; exact But.refl.upd); have kq := (congrFun zq _).symm.trans upd_same; clear zq))
section
variable {P : Program} {w : World} {K : PySem.W.Frag} {mg : Str → Option Value} {base : Heap}
/-! ### walks over an object of an own class, and x in such an object -/
section
open PyProof.Rows
variable {P : Program} {w : World} {K : PySem.W.Frag} {mg : Str → Option Value} {base : Heap}
/-- a def's promise that knows how many objects there were at the call -/
structure FnN (P : Program) (w : World) (K : PySem.W.Frag) (mg : Str → Option Value) (base : Heap) (k : Nat) (f : Addr) (fd : FuncData) (ps : List Str) (sp : Nat → Sp) : Prop where
  len : ∀ n vs H Q E, sp n vs H Q E → vs.length = ps.length
  run : ∀ (A : Around) (outer : List Env) (s : Shared) (H : Hp) (g : Args) (us : List Value) (vs : List V) (Q : VK) (E : XK), Room k A → Env0 P w K mg base A outer s H → BindsTo s fd g (ps.zip us) → Vals vs us →
    sp s.heap.objs.size vs H Q E → codeAny (model P w) A (.call (.ref f) g) (CR CX0 outer P w H s Q E) s
theorem fnN_of {k : Nat} {f : Addr} {fd : FuncData} {x qual : Str} {st : Stmt} {N ps : List Str} {sp : Nat → Sp} (F : Fun K x qual st f fd) (S : FnScope N ps (defScope st)) (hlen : ∀ n vs H Q E, sp n vs H Q E → vs.length = ps.length)
    (hb : ∀ (cdv : Value) (A : Around) (outer : List Env) (s : Shared) (H : Hp) (vs : List V) (Q : VK) (E : XK), Room k (A.deeper (envOfC qual (defScope st) s.heap.objs.size f cdv)) → sp s.heap.objs.size vs H Q E →
      ∃ t, PSs ((cxOf CX0 P w K mg base N qual (defScope st) f cdv A outer s H E).nox) (defBody st) t ∧ t { nx := fun _ H' => Q .non H', rt := Q } (start N vs) H) :
    FnN P w K mg base (k + 1) f fd ps sp := by
  obtain ⟨oc, od, kV, doc, pm, an, cdv, ct, osl, e1, lkp, code⟩ := F.ex
  subst e1
  constructor
  · exact hlen
  intro A outer s H g us vs Q E room env bnd rel hsp
  have len1 : vs.length = ps.length := hlen _ _ _ _ _ hsp
  have kIn : K.In s.heap := env.mod.kin.keeps (fun b o z => (env.bs b o z).1)
  have noLim : s.heap.NoLimit := env.mod.nolimit.keeps (fun b o z => (env.bs b o z).1)
  refine codeAny_call_function room.depth (kIn _ _ lkp) rfl S.co S.gen rfl (PySem.W.codeRec_of kIn code) (bnd _ _ _ _ ?_)
  have kinds : ∀ y ∈ ps.zip us, (defScope st).names.lookup y.1 = some .local ∨ ((defScope st).names.lookup y.1 = some .cell ∧ ((cellsFrom (s.heap.objs.size + 1) (defScope st).names []).lookup y.1).isSome = true) := by
    intro y hy
    obtain ⟨n, v⟩ := y
    cases S.par n (List.of_mem_zip hy).1 with
    | inl z => exact Or.inl z
    | inr z => exact Or.inr ⟨z, PySem.W.cellsFrom_some _ _ _ (Or.inl z)⟩
  refine wpAny_newFunctionEnv_cells S.kind kinds (fun env2 e2 s2 call => ?_)
  subst e2
  refine ⟨noLim.keeps call.toInCall.keep, codeAny_func ?_⟩
  obtain ⟨t, ht0, hq⟩ := hb cdv A outer s H vs Q E (room.deeper _) hsp
  have ht := ht0.nox
  have J0 := inv_start (CX := CX0) (E := E) S room.hd env len1 rel call
  have last : ∀ {σ' : L2.St} {H' : Hp} {v : V} {u : Value} {s' : Shared}, Inv (cxOf CX0 P w K mg base N qual (defScope st) f cdv A outer s H E) [] σ' H' s' → RelV v u → Q v H' → CE outer P w H s Q u s' := by
    intro σ' H' v u s' J rv q
    exact ⟨v, H', J.os, J.bare, J.base, J.hok, rv, q⟩
  refine wpAny_mono (ht.run [] s2 (start N vs) H _ J0 hq) (fun fl s' out => ?_) (fun _ _ z => z)
  cases fl with
  | next =>
    obtain ⟨σ', H', J, q⟩ := out
    exact last (v := .non) (u := .none) J rfl q
  | ret u =>
    obtain ⟨v, σ', H', J, rv, q⟩ := out
    exact last J rv q
  | cont =>
    obtain ⟨_, _, _, q⟩ := out
    exact q.elim
  | brk =>
    obtain ⟨_, _, _, q⟩ := out
    exact q.elim
variable {X : Cx} {tg e : Expr} {te : TE} {C fi : Addr} {fd : FuncData} {ps : List Str} {k : Nat}
/-- the reading: what __iter__ promises (n: how many objects there were), of a list's iterator -/
def iOwnL (K : PySem.W.Frag) (C : Addr) (sp : Nat → Sp) (te : TE) : TI := fun σ H R => te σ H fun x H1 => ∃ a dx fs, x = .ref a ∧ H1 a = some (.ins C dx fs) ∧ ∀ n, sp n [.ref a] H1 (fun v H2 => ∃ it l, v = .ref it ∧ n ≤ it ∧ H2 it = some (ItO l it 0) ∧ R (Itl K l) (ItX.dropH H2 it)) E0
theorem pi_ownL {sp : Nat → Sp} (he : PE X e te) (hm : Meth X.K C "__iter__" fi) (F : FnN X.prog X.w X.K X.mg X.base k fi fd ps sp) (hr : Room k X.A) (hb : Binds X.K fd ps []) : PI X tg e (iOwnL X.K C sp te) := by
  obtain ⟨hit, hfn, _⟩ := hm
  constructor
  intro pins s σ H R I h
  refine thn (he.run pins s σ H _ I h) fun v s1 ⟨x, H1, I1, r1, a, dx, fs, ex, ha, hsp⟩ => ?_
  subst ex
  cases r1
  obtain ⟨mA, J, _⟩ := ins_get I1.hok ha
  obtain ⟨od, J, _⟩ := J.look
  obtain ⟨m, hF⟩ := I1.fr
  have hs := hsp s1.heap.objs.size
  have hl := F.len _ _ _ _ _ hs
  refine PySem.W.owit_iter hF I1.ok.mod.kin J hit hfn ?_
  have bnd : BindsTo s1 fd ⟨[.ref a], []⟩ (ps.zip [.ref a]) := by
    have z := hb s1 [.ref a] I1.kIn (by simpa using hl)
    simpa using z
  refine wpAny_call (codeAny_mono (F.run X.A X.stack s1 H1 ⟨[.ref a], []⟩ [.ref a] [.ref a] _ E0 hr I1.env0 bnd (.cons rfl .nil) hs) fun r s' hq => ?_)
  match r, hq with
  | .error _, hq => exact False.elim hq
  | .ok .next, hq => exact False.elim hq
  | .ok .brk, hq => exact False.elim hq
  | .ok .cont, hq => exact False.elim hq
  | .ok (.ret u), hq =>
    obtain ⟨v, H2, I2, rv, it, l, ev, hsz, eit, q⟩ := I1.after hq
    subst ev
    cases rv
    have eo := itO_get I2 eit
    have ext := eit
    unfold ItO at ext
    unfold PySem.W.OwitIt
    refine wpAny_specialOf (name := Str.ofString "__next__") (T := "list_iterator") ⟨_, eo, rfl⟩ PySem.slot_listiter_next.lookup ?_
    refine ⟨it, [it], _, _, ItX.dropH H2 it, rfl, ItX.inv_drop I2 ext, turn_list l it, ⟨_, eo, rfl, rfl⟩, fun b hb => ?_, q⟩
    have eb : b = it := by simpa using hb
    rw [eb]
    exact ItX.inv_fp I2 eit (Nat.le_trans I1.sz hsz)
theorem g_iOwnL {K : PySem.W.Frag} {C : Addr} {sp : Nat → Sp} {te : TE} {σ : L2.St} {H : Hp} {R : It → Hp → Prop} (h : te σ H fun x H1 => ∃ a dx fs, x = .ref a ∧ H1 a = some (.ins C dx fs) ∧ ∀ n, sp n [.ref a] H1 (fun v H2 => ∃ it l, v = .ref it ∧ n ≤ it ∧ H2 it = some (ItO l it 0) ∧ R (Itl K l) (ItX.dropH H2 it)) E0) : iOwnL K C sp te σ H R := h
/-! x in o -/
def rInO (C : Addr) (sp : Sp) (E : XK) : R2 := fun x y H Q => ∃ a dx fs, y = .ref a ∧ H a = some (.ins C dx fs) ∧ sp [y, x] H (fun v H' => ∃ b, v = .bl b ∧ Q (.bl b) H') E
theorem op_inO {CX : CXT} {f : Addr} {sp : Sp} {E : XK} (F : FnOk X.prog X.w X.K X.mg X.base CX k f fd ps sp) (hr : Room k X.A) (hm : Meth X.K C "__contains__" f) (hb : Binds X.K fd ps []) (hx : Passes CX X E) : OpR X (compareOp .In) (rInO C sp E) := by
  obtain ⟨hco, hfn, _⟩ := hm
  intro pins s σ H x y v u Q I rx ry hq
  obtain ⟨a, dx, fs, ey, ha, hsp⟩ := hq
  subst ey
  cases ry
  obtain ⟨mA, J, _⟩ := ins_get I.hok ha
  obtain ⟨od, J, _⟩ := J.look
  obtain ⟨m, hF⟩ := I.fr
  have kIn := I.kIn
  have hl := F.len _ _ _ _ hsp
  have bnd : BindsTo s fd ⟨[.ref a, v], []⟩ (ps.zip [.ref a, v]) := by
    have z := hb s [.ref a, v] kIn (by simpa using hl)
    simpa using z
  have main : wpAny (model X.prog X.w) X.A (call (.ref f) [.ref a, v]) (fun r s' => ∃ b H', r = .bool b ∧ Inv X pins σ H' s' ∧ Q (.bl b) H') X.xe s := by
    refine wpAny_call (codeAny_mono (F.run X.A X.stack s H ⟨[.ref a, v], []⟩ [.ref a, v] [.ref a, x] _ E hr I.env0 bnd (.cons rfl (.cons rx .nil)) hsp) fun r s' hq => ?_)
    match r, hq with
    | .error _, hq => exact hx pins σ H s _ s' I hq
    | .ok .next, hq => exact False.elim hq
    | .ok .brk, hq => exact False.elim hq
    | .ok .cont, hq => exact False.elim hq
    | .ok (.ret z), hq =>
      obtain ⟨c, H', I', rc, b, ec, q⟩ := I.after hq
      subst ec
      cases rc
      exact ⟨b, H', rfl, I', q⟩
  show wpAny _ _ (contains (.ref a) v >>= fun b => pure (Value.bool b)) _ _ s
  refine wpAny_bind ?_
  unfold contains
  refine wpAny_holding ?_
  have hns : stdlibNamesSay? (.ref a) v = none := rfl
  rw [hns]
  refine wpAny_bind (wpAny_bind (J.type.here ((PySem.W.looks_findIn kIn hco).here ?_)))
  rw [if_neg (show ¬ ((some (Value.ref f) == some Value.none) = true) from Bool.false_ne_true)]
  refine wpAny_bind ?_
  unfold callSpecialUnlessNone?
  refine wpAny_bind (wpAny_bind (J.type.here ((PySem.W.looks_findIn kIn hco).here ?_)))
  refine wpAny_holding ?_
  refine wpAny_bind ((PySem.W.bind_fn kIn _ (beq_iff_eq.mp hfn)).here ?_)
  dsimp only
  rw [if_neg (show ¬ ((Value.ref f == Value.none) = true) from Bool.false_ne_true)]
  refine wpAny_bind (wpAny_mono main (fun r s' ⟨b, H', er, I', q⟩ => ?_) fun _ _ z => z)
  subst er
  refine wpAny_pure ?_
  exact wpAny_truthy_bool (wpAny_pure ⟨.bl b, H', I', rfl, q⟩)
end

/-! ### an own class whose __iter__ gives iter(a dict with tuples as keys), walked -/
def KtB (it d : Addr) (n ep : Nat) : Obj := { cls := .type "dict_keyiterator", data := .fields #[.ref d, .int 0 0, .int n 0, .int ep 0] }
def KtO (it d : Addr) (n ep : Nat) : HO := .ext fun h => h.get? it = some (KtB it d n ep)
def rIterKT (n : Nat) : List V → Hp → VK → Prop := fun xs H Q => ∃ (d : Addr) (o : Obj) (kvs : List (List Key × V)), xs = [.ref d] ∧ H d = some (.frz o (.dT kvs)) ∧ ∀ it ep, H it = Option.none → n ≤ it → (∃ es, o.data = .dict es ep) → Q (.ref it) (upd H it (KtO it d kvs.length ep))
section
open PyProof.Rows
variable {X : Cx}
theorem call_iterKT : CallR X (.builtin "iter") (rIterKT X.s_0.heap.objs.size) := by
  intro pins s σ H xs us Q I r h
  obtain ⟨d, o, kvs, rfl, hd, q⟩ := h
  obtain ⟨u, rfl, ru⟩ := vals1 r
  cases ru
  obtain ⟨hs, hgd, hx, es, ep, hdt, hsz, ent⟩ := I.frzT hd
  refine Calls.call_function_entry (by decide +kernel) (by decide +kernel) PySem.W.kdk_entry_iter (PySem.W.kdk_args_iter _) ?_
  unfold Builtin.«iter»
  refine wpAny_bind (m := someArgs "iter" 1 2 _) (wpAny_of_eq (a := [Value.ref d]) (by first | rfl | kernel_rfl!) ?_)
  show wpAny _ _ (pyIter (.ref d) >>= _) _ _ _
  refine wpAny_bind (iter_keys hs hgd hx hdt ?_)
  refine wpAny_pure ⟨_, rfl, ?_⟩
  have e : (s.heap.push (KtB s.heap.objs.size d kvs.length ep)).get? s.heap.objs.size = some (KtB s.heap.objs.size d kvs.length ep) := Heap.get?_push_size _ rfl
  rw [hsz]
  exact ⟨.ref s.heap.objs.size, _, I.laid (t' := s.toks) (o := KtO s.heap.objs.size d kvs.length ep) (fun b u e => Heap.get?_push_of_some _ e) (Nat.le_refl _) ⟨e, ⟨_, e⟩, fun h1 h2 q k => k _ q⟩, rfl, q _ ep (I.hok.fresh (Nat.le_refl _)) I.sz ⟨es, hdt⟩⟩
end
section
open PyProof.Rows
variable {P : Program} {w : World} {K : PySem.W.Frag} {mg : Str → Option Value} {base : Heap} {X : Cx} {tg e : Expr} {te : TE} {C fi : Addr} {fd : FuncData} {ps : List Str} {k : Nat}
def iOwnKT (C : Addr) (sp : Nat → Sp) (te : TE) : TI := fun σ H R => te σ H fun x H1 => ∃ a dx fs, x = .ref a ∧ H1 a = some (.ins C dx fs) ∧ ∀ n, sp n [.ref a] H1 (fun v H2 => ∃ it d o kvs ep es, v = .ref it ∧ n ≤ it ∧ H2 it = some (KtO it d kvs.length ep) ∧ H2 d = some (.frz o (.dT kvs)) ∧ o.data = .dict es ep ∧ R (Itkt d o kvs) (ItX.dropH H2 it)) E0
theorem pi_ownKT {sp : Nat → Sp} (he : PE X e te) (hm : Meth X.K C "__iter__" fi) (F : FnN X.prog X.w X.K X.mg X.base k fi fd ps sp) (hr : Room k X.A) (hb : Binds X.K fd ps []) : PI X tg e (iOwnKT C sp te) := by
  obtain ⟨hit, hfn, _⟩ := hm
  constructor
  intro pins s σ H R I h
  refine thn (he.run pins s σ H _ I h) fun v s1 ⟨x, H1, I1, r1, a, dx, fs, ex, ha, hsp⟩ => ?_
  subst ex
  cases r1
  obtain ⟨mA, J, _⟩ := ins_get I1.hok ha
  obtain ⟨od, J, _⟩ := J.look
  obtain ⟨m, hF⟩ := I1.fr
  have hs := hsp s1.heap.objs.size
  have hl := F.len _ _ _ _ _ hs
  refine PySem.W.owit_iter hF I1.ok.mod.kin J hit hfn ?_
  have bnd : BindsTo s1 fd ⟨[.ref a], []⟩ (ps.zip [.ref a]) := by
    have z := hb s1 [.ref a] I1.kIn (by simpa using hl)
    simpa using z
  refine wpAny_call (codeAny_mono (F.run X.A X.stack s1 H1 ⟨[.ref a], []⟩ [.ref a] [.ref a] _ E0 hr I1.env0 bnd (.cons rfl .nil) hs) fun r s' hq => ?_)
  match r, hq with
  | .error _, hq => exact False.elim hq
  | .ok .next, hq => exact False.elim hq
  | .ok .brk, hq => exact False.elim hq
  | .ok .cont, hq => exact False.elim hq
  | .ok (.ret u), hq =>
    obtain ⟨v, H2, I2, rv, it, d, o, kvs, ep, es, ev, hsz, eit, hd, hdt, q⟩ := I1.after hq
    subst ev
    cases rv
    have eo : s'.heap.get? it = some (KtB it d kvs.length ep) := (I2.hok it _ eit).1
    have ext := eit
    unfold KtO at ext
    unfold PySem.W.OwitIt
    refine wpAny_specialOf (name := Str.ofString "__next__") (T := "dict_keyiterator") ⟨_, eo, rfl⟩ PySem.F.slot_dict_keyiterator_next.lookup ?_
    refine ⟨it, [it], _, _, ItX.dropH H2 it, rfl, ItX.inv_drop I2 ext, turn_keysT it hdt, ⟨_, eo, rfl, rfl⟩, fun b hb => ?_, q⟩
    have eb : b = it := by simpa using hb
    rw [eb]
    exact ItX.inv_fp I2 eit (Nat.le_trans I1.sz hsz)
end
theorem g_iOwnKT {C : Addr} {sp : Nat → Sp} {te : TE} {σ : L2.St} {H : Hp} {R : It → Hp → Prop} (h : te σ H fun x H1 => ∃ a dx fs, x = .ref a ∧ H1 a = some (.ins C dx fs) ∧ ∀ n, sp n [.ref a] H1 (fun v H2 => ∃ it d o kvs ep es, v = .ref it ∧ n ≤ it ∧ H2 it = some (KtO it d kvs.length ep) ∧ H2 d = some (.frz o (.dT kvs)) ∧ o.data = .dict es ep ∧ R (Itkt d o kvs) (ItX.dropH H2 it)) E0) : iOwnKT C sp te σ H R := h

/-! ### d.setdefault(y, z) of a dict with tuples as keys -/
section
open PyProof.Rows
variable {X : Cx} {pins : List (Addr × Obj)} {σ : L2.St} {H : Hp} {s : Shared} {a b : Addr} {r : Value} {d : V} {k : List Key} {E : Value → Shared → Prop}
theorem d_setdT {kvs : List (List Key × V)} {Q : Value → Shared → Prop} (hu : X.A.units + 1 < cLine) (I : Inv X pins σ H s) (e : H a = some (.dT kvs)) (eb : H b = some (.tup (k.map kV))) (rd : RelV d r) (hl : kvs.length < sizeLine)
    (h1 : ∀ v, valV kvs k = some v → ∀ (w' : Value) (s' : Shared), Inv X pins σ H s' → RelV v w' → Q w' s') (h2 : valV kvs k = Option.none → ∀ (w' : Value) (s' : Shared), Inv X pins σ (upd H a (.dT (putK kvs k d))) s' → RelV d w' → Q w' s') :
    wpAny (model X.prog X.w) X.A (call (.builtin "dict.setdefault") [.ref a, .ref b, r]) Q E s := by
  obtain ⟨z, hd, xs, rel, dd⟩ := dt_of I.hok e
  have hz : xs.length ≤ sizeLine := by rw [← Paired.length rel]; exact z
  have rv := rel.val k
  refine call_setdefault_heap (hsz := hz) (tupleKind_room_in1 hu) (key_of I.hok eb) hd dd (fun p hp => ?_) (fun hn h' dd' hs => ?_)
  · rw [hp] at rv
    cases ev : valV kvs k with
    | none =>
      rw [ev] at rv
      exact (show False from rv).elim
    | some v0 =>
      rw [ev] at rv
      exact h1 v0 ev _ _ (I.tok _) rv
  · rw [hn] at rv
    cases ev : valV kvs k with
    | some v0 =>
      rw [ev] at rv
      exact (show False from rv).elim
    | none =>
      have hl2 : (putK kvs k d).length ≤ sizeLine := by have := length_putK kvs k d; omega
      obtain ⟨q, es, ep, hq, g2, g3, g4, _, g5⟩ := dd'
      refine h2 ev _ _ (d_write I (by rw [e]; exact True.intro) hs ⟨q, hq⟩ ⟨hl2, hd, _, (rel.put k eb rd).keeps fun c ys ec => ?_, q, es, ep, hq, g2, g3, g4, g5⟩) rd
      rw [upd_ne (ne_of ec e (fun z => nomatch z))]
      exact ec
def tDSetdT (td ty tx : TE) : TE := fun σ H Q => td σ H fun x H1 => ∃ a, x = .ref a ∧ IsD H1 a ∧ ty σ H1 fun y H2 => tx σ H2 fun z H3 => ∃ (kvs : List (List Key × V)) (k : List Key) (b : Addr), H3 a = some (.dT kvs) ∧ y = .ref b ∧ H3 b = some (.tup (k.map kV)) ∧ kvs.length < sizeLine ∧
  (∀ v, valV kvs k = some v → Q v H3) ∧ (valV kvs k = Option.none → Q z (upd H3 a (.dT (putK kvs k z))))
variable {o e f : Expr} {td ty tx : TE} {apos cpos : Pos}
theorem pe_dsetdT (hu : X.A.units + 1 < cLine) (ho : PE X o td) (he : PE X e ty) (hf : PE X f tx) (m : M2 X o "setdefault" apos e f cpos) : PE X (.Call (.Attribute o "setdefault" apos) [e, f] [] cpos) (tDSetdT td ty tx) := by
  refine ⟨fun pins s σ H Q I h => ?_⟩
  refine wpAny_Call_method m.base m.few m.line PySem.F.plainAttrs_dict PySem.F.slot_dict_setdefault PySem.F.type_dict_setdefault (thn (ho.run pins s σ H _ I h) fun u s1 ⟨x, H1, I1, rx, a, ex, d, q1⟩ => ?_)
  subst ex
  obtain rfl : u = Value.ref a := rx
  obtain ⟨t1, t2, _⟩ := isD_at I1 d
  refine ⟨t1, t2, ?_⟩
  rw [m.trees]
  refine Calls.callWith_builtin rfl (Calls.evalArgs_plain (Calls.spliced_cons (thn (he.run pins s1 σ H1 _ I1 q1) fun iv s2 ⟨y, H2, I2, ry, q2⟩ =>
    Calls.spliced_cons (thn (hf.run pins s2 σ H2 _ I2 q2) fun fv s3 ⟨z, H3, I3, rz, kvs, k, b, ea, ey, eb, hl, q3, q4⟩ => Calls.spliced_nil ?_))))
  subst ey
  obtain rfl : iv = Value.ref b := ry
  exact d_setdT hu I3 ea eb rz hl (fun v hv w' s4 I4 rw' => ⟨v, _, I4, rw', q3 v hv⟩) fun hn w' s4 I4 rw' => ⟨z, _, I4, rw', q4 hn⟩
end

/-! ### lists of pairs in the heap -/
def tupP (p : Int × Int) : HO := .tup [.int p.1, .int p.2]
def Prs (H : Hp) (vs : List V) (ps : List (Int × Int)) : Prop := vs.length = ps.length ∧ ∀ (i : Nat) p, ps[i]? = some p → ∃ t, vs[i]? = some (V.ref t) ∧ H t = some (tupP p)
theorem Prs.nil {H : Hp} : Prs H [] [] := ⟨rfl, fun i p h => by simp at h⟩
theorem Prs.same {H H' : Hp} {vs : List V} {ps : List (Int × Int)} (h : Prs H vs ps) (s : Same H H') : Prs H' vs ps := ⟨h.1, fun i p e => by
  obtain ⟨t, h1, h2⟩ := h.2 i p e
  exact ⟨t, h1, s _ _ h2⟩⟩
theorem Prs.but {H H' : Hp} {vs : List V} {ps : List (Int × Int)} {a : Addr} {xs : List V} (h : Prs H vs ps) (s : But a H H') (e : H a = some (.lst xs)) : Prs H' vs ps := ⟨h.1, fun i p e2 => by
  obtain ⟨t, h1, h2⟩ := h.2 i p e2
  exact ⟨t, h1, s _ _ (fun z => by rw [z, e] at h2; cases h2) h2⟩⟩
theorem Prs.butD {H H' : Hp} {vs : List V} {ps : List (Int × Int)} {a : Addr} {kvs : List (Key × V)} (h : Prs H vs ps) (s : But a H H') (e : H a = some (.dK kvs)) : Prs H' vs ps := ⟨h.1, fun i p e2 => by
  obtain ⟨t, h1, h2⟩ := h.2 i p e2
  exact ⟨t, h1, s _ _ (fun z => by rw [z, e] at h2; cases h2) h2⟩⟩
theorem Prs.drop {H : Hp} {vs : List V} {ps : List (Int × Int)} (h : Prs H vs ps) (k : Nat) : Prs H (vs.drop k) (ps.drop k) := ⟨by rw [List.length_drop, List.length_drop, h.1], fun i p e => by
  rw [List.getElem?_drop] at e ⊢
  exact h.2 _ p e⟩
theorem Prs.take {H : Hp} {vs : List V} {ps : List (Int × Int)} (h : Prs H vs ps) (k : Nat) : Prs H (vs.take k) (ps.take k) := ⟨by rw [List.length_take, List.length_take, h.1], fun i p e => by
  rw [List.getElem?_take] at e ⊢
  split at e
  · rw [if_pos (by assumption)]
    exact h.2 _ p e
  · cases e⟩
theorem Prs.app {H : Hp} {vs us : List V} {ps qs : List (Int × Int)} (h : Prs H vs ps) (h' : Prs H us qs) : Prs H (vs ++ us) (ps ++ qs) := ⟨by rw [List.length_append, List.length_append, h.1, h'.1], fun i p e => by
  by_cases hi : i < ps.length
  · rw [List.getElem?_append_left hi] at e
    rw [List.getElem?_append_left (by rw [h.1]; exact hi)]
    exact h.2 i p e
  · rw [List.getElem?_append_right (by omega)] at e
    rw [List.getElem?_append_right (by rw [h.1]; omega), h.1]
    exact h'.2 _ p e⟩
theorem Prs.one {H : Hp} {t : Addr} {p : Int × Int} (h : H t = some (tupP p)) : Prs H [V.ref t] [p] := ⟨rfl, fun i q e => by
  match i, e with
  | 0, e => exact ⟨t, rfl, by rw [← Option.some.inj e]; exact h⟩⟩
theorem Prs.cons {H : Hp} {t : Addr} {p : Int × Int} {vs : List V} {ps : List (Int × Int)} (h : H t = some (tupP p)) (h' : Prs H vs ps) : Prs H (V.ref t :: vs) (p :: ps) := (Prs.one h).app h'
theorem Prs.set {H : Hp} {t : Addr} {p : Int × Int} {vs : List V} {ps : List (Int × Int)} (h' : Prs H vs ps) (j : Nat) (h : H t = some (tupP p)) : Prs H (vs.set j (V.ref t)) (ps.set j p) := ⟨by rw [List.length_set, List.length_set, h'.1], fun i q e => by
  by_cases hij : j = i
  · subst hij
    have hl : j < ps.length := by
      obtain ⟨z, _⟩ := List.getElem?_eq_some_iff.mp e
      rw [List.length_set] at z
      exact z
    rw [List.getElem?_set_self hl] at e
    rw [List.getElem?_set_self (by rw [h'.1]; exact hl)]
    exact ⟨t, rfl, by rw [← Option.some.inj e]; exact h⟩
  · rw [List.getElem?_set_ne hij] at e ⊢
    exact h'.2 i q e⟩
theorem cut_nat {xs : List V} {a b : Nat} (hab : a ≤ b) (hb : b ≤ xs.length) : cutV xs (some (a : Int)) (some (b : Int)) = (xs.drop a).take (b - a) := by
  unfold cutV
  rw [HT.sIx_nat, HT.sIx_nat, Nat.min_eq_left (a := a) (by omega), Nat.min_eq_left hb]
theorem cut_to {xs : List V} {b : Nat} (hb : b ≤ xs.length) : cutV xs none (some (b : Int)) = xs.take b := by
  unfold cutV
  rw [HT.sIx_none, HT.sIx_nat, Nat.min_eq_left hb, List.drop_zero, Nat.sub_zero]
theorem cut_from {xs : List V} {a : Nat} (ha : a ≤ xs.length) : cutV xs (some (a : Int)) none = xs.drop a := by
  unfold cutV
  rw [HT.sIx_nat, HT.sIx_none, Nat.min_eq_left ha]
  exact List.take_of_length_le (by rw [List.length_drop]; omega)
/-! == of lists of pairs -/
section
variable {K : PySem.W.Frag} {H : Hp}
def datP (p : Int × Int) : PyData := .tuple [.int p.1, .int p.2]
theorem dp_pair {t : Addr} {p : Int × Int} (h : H t = some (tupP p)) : Dp K H (.ref t) (datP p) := .tup (st h) (.cons (.int _) (.cons (.int _) .nil))
theorem dpAll_pairs : ∀ {vs : List V} {ps : List (Int × Int)}, Prs H vs ps → DpAll K H vs (ps.map datP)
  | [], [], _ => .nil
  | [], _ :: _, h => by have := h.1; simp at this
  | _ :: _, [], h => by have := h.1; simp at this
  | v :: vs, p :: ps, h => by
    obtain ⟨t, h1, h2⟩ := h.2 0 p rfl
    have e : v = V.ref t := Option.some.inj h1
    subst e
    exact .cons (dp_pair h2) (dpAll_pairs (h.drop 1))
theorem lay_pairs : ∀ {ps : List (Int × Int)}, PyData.canLayAll0 (ps.map datP) = true
  | [] => rfl
  | p :: ps => by
    show ((true && (true && true)) && PyData.canLayAll0 (ps.map datP)) = true
    rw [lay_pairs]; rfl
theorem depth_pairs : ∀ {ps : List (Int × Int)}, PyData.depthAll (ps.map datP) ≤ 1
  | [] => by show 0 ≤ 1; decide
  | p :: ps => by
    show max (max 0 (max 0 0) + 1) (PyData.depthAll (ps.map datP)) ≤ 1
    have := depth_pairs (ps := ps)
    omega
theorem shaped_pairs {ps : List (Int × Int)} : SeqAt.shaped (.list (ps.map datP)) = true := by
  show (PyData.canLayAll0 (ps.map datP) && decide (PyData.depthAll (ps.map datP) + 1 ≤ 64)) = true
  have := depth_pairs (ps := ps)
  rw [lay_pairs, decide_eq_true (by omega)]; rfl
theorem eqv_pair {p q : Int × Int} : PyData.eqv (datP p) (datP q) = decide (p = q) := by
  show ((p.1 == q.1) && ((p.2 == q.2) && true)) = decide (p = q)
  rw [Bool.eq_iff_iff]
  simp [Prod.ext_iff]
theorem eqvAll_pairs : ∀ {ps qs : List (Int × Int)}, PyData.eqvAll (ps.map datP) (qs.map datP) = decide (ps = qs)
  | [], [] => rfl
  | [], _ :: _ => rfl
  | _ :: _, [] => rfl
  | p :: ps, q :: qs => by
    show (PyData.eqv (datP p) (datP q) && PyData.eqvAll (ps.map datP) (qs.map datP)) = decide (p :: ps = q :: qs)
    rw [eqvAll_pairs, eqv_pair, Bool.eq_iff_iff]
    simp
theorem g_nePL {Q : VK} {a b : Addr} {vs us : List V} {ps qs : List (Int × Int)} (h1 : SqL K H a vs) (p1 : Prs H vs ps) (h2 : SqL K H b us) (p2 : Prs H us qs) (q : Q (.bl (!decide (ps = qs))) H) : rNeD K (.ref a) (.ref b) H Q :=
  ⟨.list (ps.map datP), .list (qs.map datP), .lst h1 (dpAll_pairs p1), .lst h2 (dpAll_pairs p2), shaped_pairs, shaped_pairs, by rw [show PyData.eqv (.list (ps.map datP)) (.list (qs.map datP)) = decide (ps = qs) from eqvAll_pairs]; exact q⟩
theorem g_eqPL {Q : VK} {a b : Addr} {vs us : List V} {ps qs : List (Int × Int)} (h1 : SqL K H a vs) (p1 : Prs H vs ps) (h2 : SqL K H b us) (p2 : Prs H us qs) (q : Q (.bl (decide (ps = qs))) H) : rEqD K (.ref a) (.ref b) H Q :=
  ⟨.list (ps.map datP), .list (qs.map datP), .lst h1 (dpAll_pairs p1), .lst h2 (dpAll_pairs p2), shaped_pairs, shaped_pairs, by rw [show PyData.eqv (.list (ps.map datP)) (.list (qs.map datP)) = decide (ps = qs) from eqvAll_pairs]; exact q⟩
theorem g_neP {Q : VK} {a b : Addr} {p r : Int × Int} (h1 : H a = some (tupP p)) (h2 : H b = some (tupP r)) (q : Q (.bl (!decide (p = r))) H) : rNeD K (.ref a) (.ref b) H Q :=
  ⟨datP p, datP r, dp_pair h1, dp_pair h2, rfl, rfl, by rw [eqv_pair]; exact q⟩
end

theorem but_or {K : PySem.W.Frag} {p : Addr} {H H' : Hp} {a : Addr} {xs : List V} (e : But p H H') (n : a ≠ p) (h : SqL K H a xs ∨ SqT K H a xs) : SqL K H' a xs ∨ SqT K H' a xs := by
  rcases h with h | h
  · exact .inl (but_sq e n h)
  · refine .inr ?_
    rcases h with h | h
    · rcases h with h | h
      · exact .inl (.inl (e _ _ n h))
      · obtain ⟨o, h⟩ := h
        exact .inl (.inr ⟨o, e _ _ n h⟩)
    · exact .inr h
theorem But.free {p r : Addr} {H H' : Hp} (b : But p H H') (n : r ≠ p) (h : H' r = none) : H r = none := by
  cases e : H r with
  | none => rfl
  | some o =>
    have z := b r o n e
    rw [h] at z
    cases z
theorem upd_upd {H : Hp} {p : Addr} {o o' : HO} : upd (upd H p o) p o' = upd H p o' := by
  funext b
  by_cases e : b = p
  · rw [e, upd_same, upd_same]
  · rw [upd_ne e, upd_ne e, upd_ne e]

/-! ### dicts with pairs of ints as keys; the ledger -/
abbrev Kk (p : Int × Int) : List Key := [.inl p.1, .inl p.2]
theorem kk_inj {p q : Int × Int} (h : Kk p = Kk q) : p = q := by
  obtain ⟨a, b⟩ := p
  obtain ⟨c, d⟩ := q
  injection h with h1 h2
  injection h2 with h2 _
  exact Prod.ext (Sum.inl.inj h1) (Sum.inl.inj h2)
def tru (ks : List (Int × Int)) : List (List Key × V) := ks.map fun p => (Kk p, V.bl true)
def adr (es : List ((Int × Int) × Addr)) : List (List Key × V) := es.map fun e => (Kk e.1, V.ref e.2)
theorem val_tru (p : Int × Int) : ∀ ks : List (Int × Int), valV (tru ks) (Kk p) = if p ∈ ks then some (.bl true) else none
  | [] => by rw [if_neg (by simp)]; rfl
  | q :: ks => by
    by_cases e : q = p
    · subst e
      rw [if_pos List.mem_cons_self]
      exact valV_pos rfl
    · rw [show tru (q :: ks) = (Kk q, V.bl true) :: tru ks from rfl, valV_neg (fun z => e (kk_inj z)), val_tru p ks]
      by_cases m : p ∈ ks
      · rw [if_pos m, if_pos (List.mem_cons_of_mem _ m)]
      · rw [if_neg m, if_neg (fun z => (List.mem_cons.mp z).elim (fun w => e w.symm) m)]
theorem put_tru (p : Int × Int) (ks : List (Int × Int)) : putK (tru ks) (Kk p) (.bl true) = tru (if p ∈ ks then ks else ks ++ [p]) := by
  by_cases m : p ∈ ks
  · rw [if_pos m]
    unfold putK
    rw [valV_any, val_tru, if_pos m, if_pos (by rfl)]
    unfold tru
    rw [List.map_map]
    refine List.map_congr_left fun q _ => ?_
    show (if Kk q = Kk p then (Kk q, V.bl true) else (Kk q, V.bl true)) = _
    exact ite_self _
  · rw [if_neg m, putK_new _ (by rw [val_tru, if_neg m])]
    unfold tru
    rw [List.map_append]
    rfl
theorem adr_or (p : Int × Int) : ∀ es : List ((Int × Int) × Addr), (∃ b, (p, b) ∈ es ∧ valV (adr es) (Kk p) = some (.ref b)) ∨ ((∀ e ∈ es, e.1 ≠ p) ∧ valV (adr es) (Kk p) = none)
  | [] => .inr ⟨fun e z => (nomatch z), rfl⟩
  | q :: es => by
    by_cases e : q.1 = p
    · subst e
      exact .inl ⟨q.2, List.mem_cons_self, valV_pos rfl⟩
    · have v : valV (adr (q :: es)) (Kk p) = valV (adr es) (Kk p) := valV_neg (fun z => e (kk_inj z))
      rcases adr_or p es with ⟨b, h1, h2⟩ | ⟨h1, h2⟩
      · exact .inl ⟨b, List.mem_cons_of_mem _ h1, v.trans h2⟩
      · exact .inr ⟨fun x hx => (List.mem_cons.mp hx).elim (fun w => by rw [w]; exact e) (h1 x), v.trans h2⟩
theorem put_adr {p : Int × Int} {es : List ((Int × Int) × Addr)} {b : Addr} (h : valV (adr es) (Kk p) = none) : putK (adr es) (Kk p) (.ref b) = adr (es ++ [(p, b)]) := by
  rw [putK_new _ h]
  unfold adr
  rw [List.map_append]
  rfl
theorem adr_len (es : List ((Int × Int) × Addr)) : (adr es).length = es.length := List.length_map ..
theorem tru_len (es : List (Int × Int)) : (tru es).length = es.length := List.length_map ..
structure R4 where
  h : Int
  s : Int
  k : Int
  o : List Int
def R4.p (r : R4) : Int × Int := (r.h, r.s)
def octs (k : Int) (rows : List R4) (p : Int × Int) : List Int := rows.flatMap fun r => if r.p = p ∧ r.k = k then r.o else []
def ends (rows : List R4) (p : Int × Int) : Bool := rows.any fun r => decide (r.p = p) && decide (r.k = 2)
def keysOf (rows : List R4) : List (Int × Int) := rows.foldl (fun acc r => if r.p ∈ acc then acc else acc ++ [r.p]) []
theorem octs_snoc (k : Int) (rows : List R4) (r : R4) (p : Int × Int) : octs k (rows ++ [r]) p = octs k rows p ++ (if r.p = p ∧ r.k = k then r.o else []) := by
  unfold octs
  rw [List.flatMap_append]
  simp
theorem ends_snoc (rows : List R4) (r : R4) (p : Int × Int) : ends (rows ++ [r]) p = (ends rows p || (decide (r.p = p) && decide (r.k = 2))) := by
  unfold ends
  rw [List.any_append]
  simp
theorem keys_snoc (rows : List R4) (r : R4) : keysOf (rows ++ [r]) = if r.p ∈ keysOf rows then keysOf rows else keysOf rows ++ [r.p] := by
  unfold keysOf
  rw [List.foldl_append]
  rfl
theorem keys_len' : ∀ (rows : List R4) (acc : List (Int × Int)), (rows.foldl (fun acc r => if r.p ∈ acc then acc else acc ++ [r.p]) acc).length ≤ acc.length + rows.length
  | [], acc => by show acc.length ≤ acc.length + 0; omega
  | r :: rows, acc => by
    show (rows.foldl _ (if r.p ∈ acc then acc else acc ++ [r.p])).length ≤ _
    have h := keys_len' rows (if r.p ∈ acc then acc else acc ++ [r.p])
    have h2 : (if r.p ∈ acc then acc else acc ++ [r.p]).length ≤ acc.length + 1 := by
      by_cases c : r.p ∈ acc
      · rw [if_pos c]; omega
      · rw [if_neg c, List.length_append]; show acc.length + 1 ≤ _; omega
    rw [List.length_cons]
    omega
theorem keys_len (rows : List R4) : (keysOf rows).length ≤ rows.length := by
  have := keys_len' rows []
  rw [List.length_nil] at this
  unfold keysOf
  omega
theorem octs_len (k : Int) (p : Int × Int) : ∀ (rows : List R4), (∀ r ∈ rows, r.o.length ≤ 4) → (octs k rows p).length ≤ 4 * rows.length
  | [], _ => by show 0 ≤ _; omega
  | r :: rows, h => by
    have h1 := octs_len k p rows fun x hx => h x (List.mem_cons_of_mem _ hx)
    have h2 := h r List.mem_cons_self
    have e : octs k (r :: rows) p = (if r.p = p ∧ r.k = k then r.o else []) ++ octs k rows p := rfl
    rw [e, List.length_append, List.length_cons]
    by_cases c : r.p = p ∧ r.k = k
    · rw [if_pos c]; omega
    · rw [if_neg c]; show 0 + _ ≤ _; omega
structure Ent (H : Hp) (d : Addr) (es : List ((Int × Int) × Addr)) (f : Int × Int → List Int) : Prop where
  dic : H d = some (.dT (adr es))
  val : ∀ e ∈ es, H e.2 = some (.lst ((f e.1).map V.int))
  non : ∀ p, (∀ e ∈ es, e.1 ≠ p) → f p = []
  uni : ∀ e ∈ es, ∀ e' ∈ es, (e.1 = e'.1 ∨ e.2 = e'.2) → e = e'
theorem Ent.keep {H H' : Hp} {d : Addr} {es : List ((Int × Int) × Addr)} {f : Int × Int → List Int} (h : Ent H d es f) (h1 : H' d = H d) (h2 : ∀ e ∈ es, H' e.2 = H e.2) : Ent H' d es f :=
  ⟨h1.trans h.dic, fun e he => (h2 e he).trans (h.val e he), h.non, h.uni⟩
theorem Ent.same {H H' : Hp} {d : Addr} {es : List ((Int × Int) × Addr)} {f : Int × Int → List Int} (h : Ent H d es f) (s : Same H H') : Ent H' d es f :=
  ⟨s _ _ h.dic, fun e he => s _ _ (h.val e he), h.non, h.uni⟩
theorem Ent.congr {H : Hp} {d : Addr} {es : List ((Int × Int) × Addr)} {f g : Int × Int → List Int} (h : Ent H d es f) (e : ∀ p, f p = g p) : Ent H d es g := by
  rw [← funext e]
  exact h
theorem Ent.ext {H H' : Hp} {d b : Addr} {es : List ((Int × Int) × Addr)} {f : Int × Int → List Int} {p : Int × Int} {o : List Int} (h : Ent H d es f) (hb : (p, b) ∈ es) (h1 : H' d = H d) (h2 : ∀ e ∈ es, e.2 ≠ b → H' e.2 = H e.2)
    (h3 : H' b = some (.lst ((f p ++ o).map V.int))) : Ent H' d es (fun q => if q = p then f q ++ o else f q) := by
  refine ⟨h1.trans h.dic, fun e he => ?_, fun q hq => ?_, h.uni⟩
  · by_cases c : e.2 = b
    · have z := h.uni e he _ hb (.inr c)
      subst z
      show H' b = _
      rw [if_pos rfl]
      exact h3
    · have n : e.1 ≠ p := fun w => c (by rw [h.uni e he _ hb (.inl w)])
      rw [if_neg n, h2 e he c]
      exact h.val e he
  · have n : q ≠ p := fun w => hq _ hb w.symm
    rw [if_neg n]
    exact h.non q hq
theorem Ent.new {H H' : Hp} {d b : Addr} {es : List ((Int × Int) × Addr)} {f : Int × Int → List Int} {p : Int × Int} {o : List Int} (h : Ent H d es f) (hp : ∀ e ∈ es, e.1 ≠ p) (hb : H b = none) (h1 : H' d = some (.dT (adr (es ++ [(p, b)])))) (h2 : ∀ e ∈ es, H' e.2 = H e.2)
    (h3 : H' b = some (.lst (o.map V.int))) : Ent H' d (es ++ [(p, b)]) (fun q => if q = p then f q ++ o else f q) := by
  have f0 := h.non p hp
  have nb : ∀ e ∈ es, e.2 ≠ b := fun e he => ne_of_none (h.val e he) hb
  refine ⟨h1, fun e he => ?_, fun q hq => ?_, fun e he e' he' c => ?_⟩
  · rcases List.mem_append.mp he with m | m
    · rw [if_neg (hp e m), h2 e m]
      exact h.val e m
    · rw [List.mem_singleton.mp m, if_pos rfl, f0]
      exact h3
  · have n : q ≠ p := fun w => hq _ (List.mem_append.mpr (.inr (List.mem_singleton.mpr rfl))) w.symm
    rw [if_neg n]
    exact h.non q fun e he => hq e (List.mem_append.mpr (.inl he))
  · rcases List.mem_append.mp he with m | m <;> rcases List.mem_append.mp he' with m' | m'
    · exact h.uni e m e' m' c
    · rw [List.mem_singleton.mp m'] at c
      rcases c with c | c
      · exact absurd c (hp e m)
      · exact absurd c (nb e m)
    · rw [List.mem_singleton.mp m] at c
      rcases c with c | c
      · exact absurd c.symm (hp e' m')
      · exact absurd c.symm (nb e' m')
    · rw [List.mem_singleton.mp m, List.mem_singleton.mp m']
structure La where
  a : Addr
  nd : Addr
  wd : Addr
  rd : Addr
  fd : Addr
  ws : List ((Int × Int) × Addr)
  rs : List ((Int × Int) × Addr)
  fs : List (Int × Int)
def La.fp (L : La) : List Addr := [L.nd, L.wd, L.rd, L.fd] ++ (L.ws.map (·.2) ++ L.rs.map (·.2))
structure Led (C : Addr) (H : Hp) (L : La) (rows : List R4) : Prop where
  o : ∃ dx, H L.a = some (.ins C dx (obj ky_Ledger [.ref L.nd, .ref L.wd, .ref L.rd, .ref L.fd]))
  n : H L.nd = some (.dT (tru (keysOf rows)))
  w : Ent H L.wd L.ws (octs 0 rows)
  r : Ent H L.rd L.rs (octs 1 rows)
  f : H L.fd = some (.dT (tru L.fs))
  fm : ∀ p, p ∈ L.fs ↔ ends rows p = true
  lw : L.ws.length ≤ rows.length
  lr : L.rs.length ≤ rows.length
  lf : L.fs.length ≤ rows.length
  nw : L.nd ≠ L.wd
  nr : L.nd ≠ L.rd
  nf : L.nd ≠ L.fd
  wr : L.wd ≠ L.rd
  wf : L.wd ≠ L.fd
  rf : L.rd ≠ L.fd
  dis : ∀ e ∈ L.ws, ∀ e' ∈ L.rs, e.2 ≠ e'.2
  o4 : ∀ r ∈ rows, r.o.length ≤ 4
  ln : rows.length ≤ 1000
theorem Led.same {C : Addr} {H H' : Hp} {L : La} {rows : List R4} (h : Led C H L rows) (s : Same H H') : Led C H' L rows :=
  ⟨let ⟨dx, e⟩ := h.o; ⟨dx, s _ _ e⟩, s _ _ h.n, h.w.same s, h.r.same s, s _ _ h.f, h.fm, h.lw, h.lr, h.lf, h.nw, h.nr, h.nf, h.wr, h.wf, h.rf, h.dis, h.o4, h.ln⟩
/-- what a note changes -/
structure Step (H : Hp) (L : La) (H' : Hp) (L' : La) : Prop where
  a : L'.a = L.a
  fr : ∀ b u, H b = some u → b ∉ L.fp → H' b = some u
  fp : ∀ b ∈ L'.fp, b ∈ L.fp ∨ H b = none
theorem fp_nd {L : La} : L.nd ∈ L.fp := List.mem_append.mpr (.inl (by simp))
theorem fp_wd {L : La} : L.wd ∈ L.fp := List.mem_append.mpr (.inl (by simp))
theorem fp_rd {L : La} : L.rd ∈ L.fp := List.mem_append.mpr (.inl (by simp))
theorem fp_fd {L : La} : L.fd ∈ L.fp := List.mem_append.mpr (.inl (by simp))
theorem fp_ws {L : La} {e : (Int × Int) × Addr} (h : e ∈ L.ws) : e.2 ∈ L.fp := List.mem_append.mpr (.inr (List.mem_append.mpr (.inl (List.mem_map.mpr ⟨e, h, rfl⟩))))
theorem fp_rs {L : La} {e : (Int × Int) × Addr} (h : e ∈ L.rs) : e.2 ∈ L.fp := List.mem_append.mpr (.inr (List.mem_append.mpr (.inr (List.mem_map.mpr ⟨e, h, rfl⟩))))
theorem fp_or {L : La} {b : Addr} (h : b ∈ L.fp) : b = L.nd ∨ b = L.wd ∨ b = L.rd ∨ b = L.fd ∨ (∃ e ∈ L.ws, b = e.2) ∨ ∃ e ∈ L.rs, b = e.2 := by
  rcases List.mem_append.mp h with m | m
  · simp only [List.mem_cons, List.not_mem_nil, or_false] at m
    rcases m with m | m | m | m
    · exact .inl m
    · exact .inr (.inl m)
    · exact .inr (.inr (.inl m))
    · exact .inr (.inr (.inr (.inl m)))
  · rcases List.mem_append.mp m with m | m
    · obtain ⟨e, he, rfl⟩ := List.mem_map.mp m
      exact .inr (.inr (.inr (.inr (.inl ⟨e, he, rfl⟩))))
    · obtain ⟨e, he, rfl⟩ := List.mem_map.mp m
      exact .inr (.inr (.inr (.inr (.inr ⟨e, he, rfl⟩))))
theorem ne_lst_dT {H : Hp} {b d : Addr} {xs : List V} {kvs : List (List Key × V)} (h1 : H b = some (.lst xs)) (h2 : H d = some (.dT kvs)) : b ≠ d := fun z => by rw [z, h2] at h1; cases h1
theorem ne_ins_dT {H : Hp} {b d C dx : Addr} {xs : List (Str × V)} {kvs : List (List Key × V)} (h1 : H b = some (.ins C dx xs)) (h2 : H d = some (.dT kvs)) : b ≠ d := fun z => by rw [z, h2] at h1; cases h1
theorem ne_ins_lst {H : Hp} {b d C dx : Addr} {xs : List (Str × V)} {ys : List V} (h1 : H b = some (.ins C dx xs)) (h2 : H d = some (.lst ys)) : b ≠ d := fun z => by rw [z, h2] at h1; cases h1
/-- a write, at the end: the noted pairs and the row's own list are new -/
theorem Led.write {C : Addr} {H H' : Hp} {L : La} {rows : List R4} {p : Int × Int} {o : List Int} {ws : List ((Int × Int) × Addr)} {b : Addr} (h : Led C H L rows) (h4 : o.length ≤ 4) (hl : rows.length < 1000)
    (hn : H' L.nd = some (.dT (tru (if p ∈ keysOf rows then keysOf rows else keysOf rows ++ [p]))))
    (fr : ∀ c u, H c = some u → c ≠ L.nd → c ≠ L.wd → c ≠ b → H' c = some u)
    (hw : (ws = L.ws ∧ (p, b) ∈ L.ws ∧ H' L.wd = H L.wd ∧ H' b = some (.lst ((octs 0 rows p ++ o).map V.int))) ∨
      ((∀ e ∈ L.ws, e.1 ≠ p) ∧ ws = L.ws ++ [(p, b)] ∧ H b = none ∧ H' L.wd = some (.dT (adr (L.ws ++ [(p, b)]))) ∧ H' b = some (.lst (o.map V.int)))) :
    Led C H' { L with ws := ws } (rows ++ [⟨p.1, p.2, 0, o⟩]) ∧ Step H L H' { L with ws := ws } := by
  obtain ⟨dx, ho⟩ := h.o
  -- b is no object of the others
  have bw : ∀ u, H b = some u → ∃ xs, u = .lst xs ∧ (p, b) ∈ L.ws := by
    intro u hu
    rcases hw with ⟨_, m, _⟩ | ⟨_, _, z, _⟩
    · have k := h.w.val _ m
      rw [show ((p, b) : (Int × Int) × Addr).2 = b from rfl, hu] at k
      exact ⟨_, Option.some.inj k, m⟩
    · rw [z] at hu; cases hu
  have nba : L.a ≠ b := fun z => by
    obtain ⟨xs, e, _⟩ := bw _ (z ▸ ho)
    cases e
  have nbd : ∀ d kvs, H d = some (.dT kvs) → d ≠ b := fun d kvs e z => by
    obtain ⟨xs, e2, _⟩ := bw _ (z ▸ e)
    cases e2
  have nbr : ∀ e ∈ L.rs, e.2 ≠ b := fun e he z => by
    obtain ⟨xs, _, m⟩ := bw _ (z ▸ h.r.val e he)
    exact h.dis _ m e he z.symm
  have kr : ∀ e ∈ L.rs, H' e.2 = H e.2 := fun e he => by
    have k := h.r.val e he
    rw [k]
    exact fr _ _ k (ne_lst_dT k h.n) (ne_lst_dT k h.w.dic) (nbr e he)
  have krd : H' L.rd = H L.rd := by
    rw [h.r.dic]
    exact fr _ _ h.r.dic h.nr.symm h.wr.symm (nbd _ _ h.r.dic)
  have kw : ∀ e ∈ L.ws, e.2 ≠ b → H' e.2 = H e.2 := fun e he n => by
    have k := h.w.val e he
    rw [k]
    exact fr _ _ k (ne_lst_dT k h.n) (ne_lst_dT k h.w.dic) n
  have fe : ∀ q, (if q = p then octs 0 rows q ++ o else octs 0 rows q) = octs 0 (rows ++ [⟨p.1, p.2, 0, o⟩]) q := fun q => by
    rw [octs_snoc]
    by_cases c : q = p
    · subst c
      rw [if_pos rfl, if_pos ⟨rfl, rfl⟩]
    · rw [if_neg c, if_neg (fun z => c z.1.symm), List.append_nil]
  refine ⟨⟨⟨dx, fr _ _ ho (ne_ins_dT ho h.n) (ne_ins_dT ho h.w.dic) nba⟩, ?_, ?_, ?_, fr _ _ h.f h.nf.symm h.wf.symm (nbd _ _ h.f), ?_, ?_, ?_, ?_, h.nw, h.nr, h.nf, h.wr, h.wf, h.rf, ?_, ?_, ?_⟩, rfl, ?_, ?_⟩
  · rw [keys_snoc]
    exact hn
  · rcases hw with ⟨e, m, h1, h2⟩ | ⟨m, e, h0, h1, h2⟩
    · subst e
      exact (h.w.ext m h1 kw h2).congr fe
    · subst e
      exact (h.w.new m h0 h1 (fun e he => kw e he (ne_of_none (h.w.val e he) h0)) h2).congr fe
  · refine (h.r.keep krd kr).congr fun q => ?_
    rw [octs_snoc, if_neg (fun z => absurd (show (0 : Int) = 1 from z.2) (by decide)), List.append_nil]
  · intro q
    rw [ends_snoc, show (decide ((⟨p.1, p.2, 0, o⟩ : R4).k = 2)) = false from rfl, Bool.and_false, Bool.or_false]
    exact h.fm q
  · have := h.lw
    rw [List.length_append]
    rcases hw with ⟨e, _⟩ | ⟨_, e, _⟩
    · subst e
      show L.ws.length ≤ _ + 1
      omega
    · subst e
      show (L.ws ++ [(p, b)]).length ≤ _ + 1
      rw [List.length_append]
      show _ + 1 ≤ _
      omega
  · have := h.lr
    rw [List.length_append]
    exact Nat.le_trans this (Nat.le_add_right _ _)
  · have := h.lf
    rw [List.length_append]
    exact Nat.le_trans this (Nat.le_add_right _ _)
  · intro e he e' he'
    rcases hw with ⟨z, _⟩ | ⟨_, z, h0, _⟩
    · subst z
      exact h.dis e he e' he'
    · subst z
      rcases List.mem_append.mp he with m | m
      · exact h.dis e m e' he'
      · rw [List.mem_singleton.mp m]
        exact (nbr e' he').symm
  · intro r hr
    rcases List.mem_append.mp hr with m | m
    · exact h.o4 r m
    · rw [List.mem_singleton.mp m]
      exact h4
  · rw [List.length_append]
    show _ + 1 ≤ 1000
    omega
  · intro c u hc nc
    refine fr c u hc (fun z => nc (z ▸ fp_nd)) (fun z => nc (z ▸ fp_wd)) fun z => ?_
    obtain ⟨xs, _, m⟩ := bw _ (z ▸ hc)
    exact nc (z ▸ fp_ws m)
  · intro c hc
    rcases fp_or hc with z | z | z | z | ⟨e, he, z⟩ | ⟨e, he, z⟩
    · exact .inl (z ▸ fp_nd)
    · exact .inl (z ▸ fp_wd)
    · exact .inl (z ▸ fp_rd)
    · exact .inl (z ▸ fp_fd)
    · rcases hw with ⟨y, _⟩ | ⟨_, y, h0, _⟩
      · subst y
        exact .inl (z ▸ fp_ws he)
      · subst y
        rcases List.mem_append.mp he with m | m
        · exact .inl (z ▸ fp_ws m)
        · rw [z, List.mem_singleton.mp m]
          exact .inr h0
    · exact .inl (z ▸ fp_rs he)
/-- a read, at the end: the noted pairs and the row's own list are new -/
theorem Led.read {C : Addr} {H H' : Hp} {L : La} {rows : List R4} {p : Int × Int} {o : List Int} {rs : List ((Int × Int) × Addr)} {b : Addr} (h : Led C H L rows) (h4 : o.length ≤ 4) (hl : rows.length < 1000)
    (hn : H' L.nd = some (.dT (tru (if p ∈ keysOf rows then keysOf rows else keysOf rows ++ [p]))))
    (fr : ∀ c u, H c = some u → c ≠ L.nd → c ≠ L.rd → c ≠ b → H' c = some u)
    (hw : (rs = L.rs ∧ (p, b) ∈ L.rs ∧ H' L.rd = H L.rd ∧ H' b = some (.lst ((octs 1 rows p ++ o).map V.int))) ∨
      ((∀ e ∈ L.rs, e.1 ≠ p) ∧ rs = L.rs ++ [(p, b)] ∧ H b = none ∧ H' L.rd = some (.dT (adr (L.rs ++ [(p, b)]))) ∧ H' b = some (.lst (o.map V.int)))) :
    Led C H' { L with rs := rs } (rows ++ [⟨p.1, p.2, 1, o⟩]) ∧ Step H L H' { L with rs := rs } := by
  obtain ⟨dx, ho⟩ := h.o
  -- b is no object of the others
  have bw : ∀ u, H b = some u → ∃ xs, u = .lst xs ∧ (p, b) ∈ L.rs := by
    intro u hu
    rcases hw with ⟨_, m, _⟩ | ⟨_, _, z, _⟩
    · have k := h.r.val _ m
      rw [show ((p, b) : (Int × Int) × Addr).2 = b from rfl, hu] at k
      exact ⟨_, Option.some.inj k, m⟩
    · rw [z] at hu; cases hu
  have nba : L.a ≠ b := fun z => by
    obtain ⟨xs, e, _⟩ := bw _ (z ▸ ho)
    cases e
  have nbd : ∀ d kvs, H d = some (.dT kvs) → d ≠ b := fun d kvs e z => by
    obtain ⟨xs, e2, _⟩ := bw _ (z ▸ e)
    cases e2
  have nbr : ∀ e ∈ L.ws, e.2 ≠ b := fun e he z => by
    obtain ⟨xs, _, m⟩ := bw _ (z ▸ h.w.val e he)
    exact h.dis e he _ m z
  have kr : ∀ e ∈ L.ws, H' e.2 = H e.2 := fun e he => by
    have k := h.w.val e he
    rw [k]
    exact fr _ _ k (ne_lst_dT k h.n) (ne_lst_dT k h.r.dic) (nbr e he)
  have krd : H' L.wd = H L.wd := by
    rw [h.w.dic]
    exact fr _ _ h.w.dic h.nw.symm h.wr (nbd _ _ h.w.dic)
  have kw : ∀ e ∈ L.rs, e.2 ≠ b → H' e.2 = H e.2 := fun e he n => by
    have k := h.r.val e he
    rw [k]
    exact fr _ _ k (ne_lst_dT k h.n) (ne_lst_dT k h.r.dic) n
  have fe : ∀ q, (if q = p then octs 1 rows q ++ o else octs 1 rows q) = octs 1 (rows ++ [⟨p.1, p.2, 1, o⟩]) q := fun q => by
    rw [octs_snoc]
    by_cases c : q = p
    · subst c
      rw [if_pos rfl, if_pos ⟨rfl, rfl⟩]
    · rw [if_neg c, if_neg (fun z => c z.1.symm), List.append_nil]
  refine ⟨⟨⟨dx, fr _ _ ho (ne_ins_dT ho h.n) (ne_ins_dT ho h.r.dic) nba⟩, ?_, ?_, ?_, fr _ _ h.f h.nf.symm h.rf.symm (nbd _ _ h.f), ?_, ?_, ?_, ?_, h.nw, h.nr, h.nf, h.wr, h.wf, h.rf, ?_, ?_, ?_⟩, rfl, ?_, ?_⟩
  · rw [keys_snoc]
    exact hn
  · refine (h.w.keep krd kr).congr fun q => ?_
    rw [octs_snoc, if_neg (fun z => absurd (show (1 : Int) = 0 from z.2) (by decide)), List.append_nil]
  · rcases hw with ⟨e, m, h1, h2⟩ | ⟨m, e, h0, h1, h2⟩
    · subst e
      exact (h.r.ext m h1 kw h2).congr fe
    · subst e
      exact (h.r.new m h0 h1 (fun e he => kw e he (ne_of_none (h.r.val e he) h0)) h2).congr fe
  · intro q
    rw [ends_snoc, show (decide ((⟨p.1, p.2, 1, o⟩ : R4).k = 2)) = false from rfl, Bool.and_false, Bool.or_false]
    exact h.fm q
  · have := h.lw
    rw [List.length_append]
    exact Nat.le_trans this (Nat.le_add_right _ _)
  · have := h.lr
    rw [List.length_append]
    rcases hw with ⟨e, _⟩ | ⟨_, e, _⟩
    · subst e
      show L.rs.length ≤ _ + 1
      omega
    · subst e
      show (L.rs ++ [(p, b)]).length ≤ _ + 1
      rw [List.length_append]
      show _ + 1 ≤ _
      omega
  · have := h.lf
    rw [List.length_append]
    exact Nat.le_trans this (Nat.le_add_right _ _)
  · intro e' he' e he
    rcases hw with ⟨z, _⟩ | ⟨_, z, h0, _⟩
    · subst z
      exact h.dis e' he' e he
    · subst z
      rcases List.mem_append.mp he with m | m
      · exact h.dis e' he' e m
      · rw [List.mem_singleton.mp m]
        exact nbr e' he'
  · intro r hr
    rcases List.mem_append.mp hr with m | m
    · exact h.o4 r m
    · rw [List.mem_singleton.mp m]
      exact h4
  · rw [List.length_append]
    show _ + 1 ≤ 1000
    omega
  · intro c u hc nc
    refine fr c u hc (fun z => nc (z ▸ fp_nd)) (fun z => nc (z ▸ fp_rd)) fun z => ?_
    obtain ⟨xs, _, m⟩ := bw _ (z ▸ hc)
    exact nc (z ▸ fp_rs m)
  · intro c hc
    rcases fp_or hc with z | z | z | z | ⟨e, he, z⟩ | ⟨e, he, z⟩
    · exact .inl (z ▸ fp_nd)
    · exact .inl (z ▸ fp_wd)
    · exact .inl (z ▸ fp_rd)
    · exact .inl (z ▸ fp_fd)
    · exact .inl (z ▸ fp_ws he)
    · rcases hw with ⟨y, _⟩ | ⟨_, y, h0, _⟩
      · subst y
        exact .inl (z ▸ fp_rs he)
      · subst y
        rcases List.mem_append.mp he with m | m
        · exact .inl (z ▸ fp_rs m)
        · rw [z, List.mem_singleton.mp m]
          exact .inr h0
/-- a finish -/
theorem Led.fin {C : Addr} {H H' : Hp} {L : La} {rows : List R4} {p : Int × Int} {o : List Int} (h : Led C H L rows) (h4 : o.length ≤ 4) (hl : rows.length < 1000)
    (hn : H' L.nd = some (.dT (tru (if p ∈ keysOf rows then keysOf rows else keysOf rows ++ [p]))))
    (fr : ∀ c u, H c = some u → c ≠ L.nd → c ≠ L.fd → H' c = some u)
    (hf : H' L.fd = some (.dT (tru (if p ∈ L.fs then L.fs else L.fs ++ [p])))) :
    Led C H' { L with fs := if p ∈ L.fs then L.fs else L.fs ++ [p] } (rows ++ [⟨p.1, p.2, 2, o⟩]) ∧ Step H L H' { L with fs := if p ∈ L.fs then L.fs else L.fs ++ [p] } := by
  obtain ⟨dx, ho⟩ := h.o
  have kr : ∀ e ∈ L.rs, H' e.2 = H e.2 := fun e he => by
    have k := h.r.val e he
    rw [k]
    exact fr _ _ k (ne_lst_dT k h.n) (ne_lst_dT k h.f)
  have kw : ∀ e ∈ L.ws, H' e.2 = H e.2 := fun e he => by
    have k := h.w.val e he
    rw [k]
    exact fr _ _ k (ne_lst_dT k h.n) (ne_lst_dT k h.f)
  refine ⟨⟨⟨dx, fr _ _ ho (ne_ins_dT ho h.n) (ne_ins_dT ho h.f)⟩, ?_, ?_, ?_, hf, ?_, ?_, ?_, ?_, h.nw, h.nr, h.nf, h.wr, h.wf, h.rf, h.dis, ?_, ?_⟩, rfl, ?_, fun b hb => .inl hb⟩
  · rw [keys_snoc]
    exact hn
  · refine (h.w.keep (by rw [h.w.dic]; exact fr _ _ h.w.dic h.nw.symm h.wf) kw).congr fun q => ?_
    rw [octs_snoc, if_neg (fun z => absurd (show (2 : Int) = 0 from z.2) (by decide)), List.append_nil]
  · refine (h.r.keep (by rw [h.r.dic]; exact fr _ _ h.r.dic h.nr.symm h.rf) kr).congr fun q => ?_
    rw [octs_snoc, if_neg (fun z => absurd (show (2 : Int) = 1 from z.2) (by decide)), List.append_nil]
  · intro q
    rw [ends_snoc, Bool.or_eq_true, ← h.fm q]
    show q ∈ (if p ∈ L.fs then L.fs else L.fs ++ [p]) ↔ _ ∨ (decide (p = q) && true) = true
    rw [Bool.and_true, decide_eq_true_iff]
    by_cases c : p ∈ L.fs
    · rw [if_pos c]
      exact ⟨.inl, fun z => z.elim id fun w => w ▸ c⟩
    · rw [if_neg c, List.mem_append, List.mem_singleton]
      exact ⟨fun z => z.elim .inl fun w => .inr w.symm, fun z => z.elim .inl fun w => .inr w.symm⟩
  · have := h.lw
    rw [List.length_append]
    exact Nat.le_trans this (Nat.le_add_right _ _)
  · have := h.lr
    rw [List.length_append]
    exact Nat.le_trans this (Nat.le_add_right _ _)
  · have := h.lf
    rw [List.length_append]
    show (if p ∈ L.fs then L.fs else L.fs ++ [p]).length ≤ _ + 1
    by_cases c : p ∈ L.fs
    · rw [if_pos c]; omega
    · rw [if_neg c, List.length_append]; show _ + 1 ≤ _; omega
  · intro r hr
    rcases List.mem_append.mp hr with m | m
    · exact h.o4 r m
    · rw [List.mem_singleton.mp m]
      exact h4
  · rw [List.length_append]
    show _ + 1 ≤ 1000
    omega
  · intro c u hc nc
    exact fr c u hc (fun z => nc (z ▸ fp_nd)) (fun z => nc (z ▸ fp_fd))

end
end My
namespace My
open PySem PySem.Spec L2
local macro_rules | `(tactic| walk_at "side") => `(tactic| first | assumption | decide | omega | exact ⟨by decide, by decide⟩ | exact ⟨by decide, by decide, by decide⟩ | decide +kernel | exact cdivW (by decide +kernel) (by decide +kernel) | exact Or.inl ⟨by omega, by omega⟩ | exact Or.inr ⟨by omega, by omega⟩ | (simp only [List.length_map, List.length_cons, List.length_nil, List.length_append]; omega))
local macro_rules | `(tactic| walk_at "fact") => `(tactic| first | assumption | omega | with_reducible rfl)
local macro_rules | `(tactic| walk_at "use") => `(tactic| fail "use")
local macro_rules | `(tactic| walk_at "go1") => `(tactic| with_reducible first | refine g_seq ?_ | refine g_asg ?_ | refine g_ret ?_ | refine g_ifS ?_ | refine g_drop ?_ | refine g_star ?_ | refine g_nx ?_ | refine g_rt ?_ | refine g_bkE ?_ | refine g_ctE ?_ | refine g_next ?_ | refine g_retN ?_ | refine g_brk ?_ | refine g_ct ?_ | refine g_c ?_ | refine g_op ?_ | refine g_un ?_ | refine g_rI0 ?_ | refine g_rU ?_ | refine g_rEqI ?_ | refine g_rNeI ?_ | refine g_isN ?_ | refine g_rIsB ?_ | refine g_rNotB ?_ | refine g_test ?_ | refine g_B ?_ | refine g_bl ?_ | refine g_and ?_ | refine g_or ?_ | refine g_not ?_ | refine g_andV ?_ | refine g_orV ?_ | refine g_notV ?_ | refine g_if ?_ | refine g_chain ?_ | refine g_yes ?_ | refine g_lc ?_ | refine g_revR ?_ | refine g_rng1 ?_ | refine g_iList ?_ | refine g_nil ?_ | refine g_cons ?_ | refine g_tup ?_ | refine g_lst ?_ | refine g_call ?_ | refine g_CB ?_ | refine g_sl ?_ | refine g_noPart ?_ | refine g_part ?_ | refine g_intE ?_ | refine g_ref ?_ | refine g_fld ?_ | refine g_sfld ?_ | refine g_meth ?_ | refine g_make ?_ | refine g_prop ?_  | refine g_ipI ?_ | refine g_int1 ?_ | refine g_int1B ?_ | refine g_one ?_ | refine g_two ?_ | refine g_isiI ?_ | refine g_isiIB ?_ | refine g_isiB ?_ | refine g_BM ?_ | refine g_BM0 ?_ | refine g_sub ?_)
local macro_rules | `(tactic| walk_at "go") => `(tactic| repeat (first | walk_at "go1" | ((with_reducible refine' g_nameE ?sd_ ?_); case sd_ => dsimp only [List.set_cons_succ, List.set_cons_zero]) | ((with_reducible refine' g_var ?sd_ ?_); case sd_ => exact rfl) | ((with_reducible refine' g_aug ?sd_ ?_); case sd_ => exact rfl) | ((with_reducible refine' g_rI ?sd_ ?_); case sd_ => walk_at "side") | ((with_reducible refine' g_dT ?sd_ ?_); case sd_ => walk_at "fact") | ((with_reducible refine' g_dF ?sd_ ?_); case sd_ => walk_at "fact") | ((with_reducible refine' g_nT ?sd_ ?_); case sd_ => walk_at "fact") | ((with_reducible refine' g_nF ?sd_ ?_); case sd_ => walk_at "fact") | (with_reducible refine g_iT rfl ?_) | (with_reducible refine g_iF rfl ?_) | walk_at "use"))
local macro_rules | `(tactic| walk_at "nw") => `(tactic| (generalize zq : upd _ _ _ = Hq; have sq : Same _ Hq := (by rw [← zq]; exact same_upd (by assumption)); have kq := (congrFun zq _).symm.trans upd_same; clear zq))
local macro_rules | `(tactic| walk_at "bt") => `(tactic| (generalize zq : upd _ _ _ = Hq; have bq : But _ _ Hq := (by rw [← zq]; exact But.refl.upd); have kq := (congrFun zq _).symm.trans upd_same; clear zq))
local macro_rules | `(tactic| walk_at "use") => `(tactic| first | ((with_reducible refine' fd_Ledger__noted ?ho_ ?hv_ ?_); (case ho_ => first | assumption | exact upd_same); (case hv_ => exact rfl)) | ((with_reducible refine' fd_Ledger__written ?ho_ ?hv_ ?_); (case ho_ => first | assumption | exact upd_same); (case hv_ => exact rfl)) | ((with_reducible refine' fd_Ledger__was_read ?ho_ ?hv_ ?_); (case ho_ => first | assumption | exact upd_same); (case hv_ => exact rfl)) | ((with_reducible refine' fd_Ledger__finished ?ho_ ?hv_ ?_); (case ho_ => first | assumption | exact upd_same); (case hv_ => exact rfl)) | ((with_reducible refine' nw_Ledger__noted ?ho_ ?hv_ ?_); (case ho_ => first | assumption | exact upd_same); (case hv_ => exact rfl)) | ((with_reducible refine' nw_Ledger__written ?ho_ ?hv_ ?_); (case ho_ => first | assumption | exact upd_same); (case hv_ => exact rfl)) | ((with_reducible refine' nw_Ledger__was_read ?ho_ ?hv_ ?_); (case ho_ => first | assumption | exact upd_same); (case hv_ => exact rfl)) | ((with_reducible refine' nw_Ledger__finished ?ho_ ?hv_ ?_); (case ho_ => first | assumption | exact upd_same); (case hv_ => exact rfl)) | ((with_reducible refine' st_Ledger__noted ?ho_ ?hv_ ?_); (case ho_ => first | assumption | exact upd_same); (case hv_ => exact Nat.le_of_ble_eq_true rfl)) | ((with_reducible refine' st_Ledger__written ?ho_ ?hv_ ?_); (case ho_ => first | assumption | exact upd_same); (case hv_ => exact Nat.le_of_ble_eq_true rfl)) | ((with_reducible refine' st_Ledger__was_read ?ho_ ?hv_ ?_); (case ho_ => first | assumption | exact upd_same); (case hv_ => exact Nat.le_of_ble_eq_true rfl)) | ((with_reducible refine' st_Ledger__finished ?ho_ ?hv_ ?_); (case ho_ => first | assumption | exact upd_same); (case hv_ => exact Nat.le_of_ble_eq_true rfl)) | ((with_reducible refine' me_Ledger_note_write ?ho_ ?_); (case ho_ => first | assumption | exact upd_same)) | ((with_reducible refine' me_Ledger_note_read ?ho_ ?_); (case ho_ => first | assumption | exact upd_same)) | ((with_reducible refine' me_Ledger_note_finish ?ho_ ?_); (case ho_ => first | assumption | exact upd_same)) | ((with_reducible refine' me_Ledger_written ?ho_ ?_); (case ho_ => first | assumption | exact upd_same)) | ((with_reducible refine' me_Ledger_was_read ?ho_ ?_); (case ho_ => first | assumption | exact upd_same)) | ((with_reducible refine' me_Ledger_has_finished ?ho_ ?_); (case ho_ => first | assumption | exact upd_same)) | ((with_reducible refine' me_Ledger_iter__ ?ho_ ?_); (case ho_ => first | assumption | exact upd_same)))
section
variable {P : Program} {w : World} {K : PySem.W.Frag} {mg : Str → Option Value} {base : Heap}
theorem g_dputL {td ty tv : TE} {D : Ends} {σ : St} {H : Hp} (h : tv σ H fun v H1 => td σ H1 fun x H2 => ty σ H2 fun y H3 => ∃ a H4, x = .ref a ∧ DPut H3 a y v H4 ∧ D.nx σ H4) : sDPut td ty tv D σ H := h
theorem g_dget2L {td ty tx : TE} {σ : St} {H : Hp} {Q : VK} (h : td σ H fun x H1 => ∃ a, x = .ref a ∧ IsD H1 a ∧ ty σ H1 fun y H2 => tx σ H2 fun z H3 => ∃ o, DGet H3 a y o ∧ Q (o.getD z) H3) : tDGet2 td ty tx σ H Q := h
theorem g_dinL {td ty : TE} {σ : St} {H : Hp} {Q : VK} (h : ty σ H fun y H1 => td σ H1 fun x H2 => ∃ a o, x = .ref a ∧ DGet H2 a y o ∧ Q (.bl o.isSome) H2) : tDIn ty td σ H Q := h
theorem g_dsetL {td ty tx : TE} {σ : St} {H : Hp} {Q : VK} (h : td σ H fun x H1 => ∃ a, x = .ref a ∧ IsD H1 a ∧ ty σ H1 fun y H2 => tx σ H2 fun z H3 => ∃ (kvs : List (List Key × V)) (k : List Key) (b : Addr), H3 a = some (.dT kvs) ∧ y = .ref b ∧ H3 b = some (.tup (k.map kV)) ∧ kvs.length < sizeLine ∧
  (∀ v, valV kvs k = some v → Q v H3) ∧ (valV kvs k = Option.none → Q z (upd H3 a (.dT (putK kvs k z))))) : tDSetdT td ty tx σ H Q := h
theorem g_dnewT {σ : St} {H : Hp} {Q : VK} (h : ∀ p, H p = none → Q (.ref p) (upd H p (.dT []))) : tDNewT σ H Q := h
local macro_rules | `(tactic| walk_at "use") => `(tactic| with_reducible first | refine g_dputL ?_ | refine g_dget2L ?_ | refine g_dinL ?_ | refine g_dsetL ?_ | refine g_dnewT ?_)
def sp_Ledger_init__ (C : Addr) : Sp := fun vs H Q _ => ∃ (p dx : Addr), vs = [.ref p] ∧ H p = some (.ins C dx (obj ky_Ledger [])) ∧ ∀ H' (L : La), L.a = p → Led C H' L [] → But p H H' → (∀ b ∈ L.fp, H b = none) → Q .non H'
theorem ok_Ledger_init__ (T : Txt K mg) : FnOk P w K mg base CX0 1 T.f_Ledger_init__ T.d_Ledger_init__ ["self"] (sp_Ledger_init__ T.C_Ledger) := by
  refine T.F_Ledger_init__.ok sc_Ledger_init__ (fun vs H Q E h => ?_) (fun cdv A outer s H vs Q E hr h => ?_)
  · obtain ⟨p, dx, rfl, ho, q⟩ := h
    rfl
  · obtain ⟨p, dx, rfl, ho, q⟩ := h
    have hu := hu_of hr
    refine ⟨_, (pss_cons (ps_fld (pv 0) (pe_dnewT) rfl)
        (pss_cons (ps_fld (pv 0) (pe_dnewT) rfl)
        (pss_cons (ps_fld (pv 0) (pe_dnewT) rfl)
        (pss_one (ps_fld (pv 0) (pe_dnewT) rfl))))), ?_⟩
    dsimp only [cxOf, Cx.nox, Cx.wish, L2.start, List.map, List.cons_append, List.nil_append, List.length_cons, List.length_nil, Nat.reduceAdd, Nat.reduceSub, Nat.zero_add, List.replicate_succ, List.replicate_zero]
    walk_at "go"
    intro nd n1
    walk_at "nw"
    rename_i H1 s1 k1
    have ho1 := s1 _ _ ho
    walk_at "go"
    intro wd n2
    generalize z1 : upd H1 p _ = H2 at n2 ⊢
    have b2 : But p H1 H2 := by rw [← z1]; exact But.refl.upd
    have ho2 : H2 p = some (.ins T.C_Ledger dx (obj ky_Ledger [.ref nd])) := (congrFun z1 p).symm.trans upd_same
    clear z1
    have npd : nd ≠ p := (ne_of_none ho n1).symm
    have k2 := b2 _ _ npd k1
    walk_at "nw"
    rename_i H3 s3 k3
    have ho3 := s3 _ _ ho2
    have npw : wd ≠ p := (ne_of_none ho2 n2).symm
    have ndw : nd ≠ wd := ne_of_none k2 n2
    walk_at "go"
    intro rd n4
    generalize z1 : upd H3 p _ = H4 at n4 ⊢
    have b4 : But p H3 H4 := by rw [← z1]; exact But.refl.upd
    have ho4 : H4 p = some (.ins T.C_Ledger dx (obj ky_Ledger [.ref nd, .ref wd])) := (congrFun z1 p).symm.trans upd_same
    clear z1
    have k4 := b4 _ _ npd (s3 _ _ k2)
    have m4 := b4 _ _ npw k3
    have npr : rd ≠ p := (ne_of_none ho4 n4).symm
    have ndr : nd ≠ rd := ne_of_none k4 n4
    have nwr : wd ≠ rd := ne_of_none m4 n4
    walk_at "nw"
    rename_i H5 s5 k5
    have ho5 := s5 _ _ ho4
    walk_at "go"
    intro fd n6
    generalize z1 : upd H5 p _ = H6 at n6 ⊢
    have b6 : But p H5 H6 := by rw [← z1]; exact But.refl.upd
    have ho6 : H6 p = some (.ins T.C_Ledger dx (obj ky_Ledger [.ref nd, .ref wd, .ref rd])) := (congrFun z1 p).symm.trans upd_same
    clear z1
    have k6 := b6 _ _ npd (s5 _ _ k4)
    have m6 := b6 _ _ npw (s5 _ _ m4)
    have r6 := b6 _ _ npr k5
    have npf : fd ≠ p := (ne_of_none ho6 n6).symm
    have ndf : nd ≠ fd := ne_of_none k6 n6
    have nwf : wd ≠ fd := ne_of_none m6 n6
    have nrf : rd ≠ fd := ne_of_none r6 n6
    walk_at "nw"
    rename_i H7 s7 k7
    have ho7 := s7 _ _ ho6
    walk_at "go"
    generalize z1 : upd H7 p _ = H8
    have b8 : But p H7 H8 := by rw [← z1]; exact But.refl.upd
    have ho8 : H8 p = some (.ins T.C_Ledger dx (obj ky_Ledger [.ref nd, .ref wd, .ref rd, .ref fd])) := (congrFun z1 p).symm.trans upd_same
    clear z1
    have B2 : But p H H2 := (But.of s1).trans b2
    have B4 : But p H H4 := (B2.trans (But.of s3)).trans b4
    have B6 : But p H H6 := (B4.trans (But.of s5)).trans b6
    refine q H8 ⟨p, nd, wd, rd, fd, [], [], []⟩ rfl ⟨⟨dx, ho8⟩, b8 _ _ npd (s7 _ _ k6), ⟨b8 _ _ npw (s7 _ _ m6), fun e z => (nomatch z), fun _ _ => rfl, fun e z => (nomatch z)⟩, ⟨b8 _ _ npr (s7 _ _ r6), fun e z => (nomatch z), fun _ _ => rfl, fun e z => (nomatch z)⟩, b8 _ _ npf k7, fun q => ⟨fun z => (nomatch z), fun z => (nomatch z)⟩, Nat.le_refl _, Nat.le_refl _, Nat.le_refl _, ndw, ndr, ndf, nwr, nwf, nrf, fun e z => (nomatch z), fun r z => (nomatch z), Nat.zero_le _⟩ ((B6.trans (But.of s7)).trans b8) ?_
    intro b hb
    rcases fp_or hb with rfl | rfl | rfl | rfl | ⟨e, he, _⟩ | ⟨e, he, _⟩
    · exact n1
    · exact But.free B2 npw n2
    · exact But.free B4 npr n4
    · exact But.free B6 npf n6
    · exact nomatch he
    · exact nomatch he
def sp_note_write (C : Addr) : Sp := fun vs H Q _ => ∃ (L : La) (rows : List R4) (h s : Int) (ob : Addr) (o : List Int), vs = [.ref L.a, .int h, .int s, .ref ob] ∧ Led C H L rows ∧ rows.length < 1000 ∧ o.length ≤ 4 ∧ H ob = some (.lst (o.map V.int)) ∧
  ∀ H' L', Led C H' L' (rows ++ [⟨h, s, 0, o⟩]) → Step H L H' L' → Q .non H'
theorem ok_Ledger_note_write (T : Txt K mg) : FnOk P w K mg base CX0 1 T.f_Ledger_note_write T.d_Ledger_note_write ["self", "host", "socket", "octets"] (sp_note_write T.C_Ledger) := by
  refine T.F_Ledger_note_write.ok sc_Ledger_note_write (fun vs H Q E h => ?_) (fun cdv A outer s H vs Q E hr h => ?_)
  · obtain ⟨L, rows, h, s, ob, o, rfl, hL, hln0, h4, hob, q⟩ := h
    rfl
  · obtain ⟨L, rows, h, s, ob, o, rfl, hL, hln0, h4, hob, q⟩ := h
    have hu := hu_of hr
    refine ⟨_, (pss_cons (ps_dput hu (pe_fld (pv 0) rfl) (pe_tup (pa_cons (pv 1) (pa_cons (pv 2) pa_nil))) pe_bl rfl)
        (pss_one (ps_expr (pe_bm PySem.F.plainAttrs_list PySem.F.slot_list_extend PySem.F.type_list_extend mt_extend (pe_dsetdT hu (pe_fld (pv 0) rfl) (pe_tup (pa_cons (pv 1) (pa_cons (pv 2) pa_nil))) (pe_lst pa_nil) ⟨rfl, rfl, rfl, rfl⟩) (pa_cons (pe_callTy call_list_of (by rfl) T.n_list (by decide +kernel) (pa_cons (pv 3) pa_nil)) pa_nil))))), ?_⟩
    dsimp only [cxOf, Cx.nox, Cx.wish, L2.start, List.map, List.cons_append, List.nil_append, List.length_cons, List.length_nil, Nat.reduceAdd, Nat.reduceSub, Nat.zero_add, List.replicate_succ, List.replicate_zero]
    obtain ⟨dx, ho⟩ := hL.o
    walk_at "go"
    refine ⟨by show 2 ≤ sizeLine; decide, fun p1 n1 => ?_⟩
    walk_at "nw"
    rename_i H1 s1 k1
    have h1 := hL.same s1
    refine ⟨L.nd, _, rfl, DPut.t (k := Kk (h, s)) h1.n k1 (szl (by rw [tru_len]; have := keys_len rows; omega)), ?_⟩
    rw [put_tru]
    walk_at "bt"
    rename_i H2 b2 k2
    obtain ⟨dx1, ho1⟩ := h1.o
    have ho2 := b2 _ _ (ne_ins_dT ho1 h1.n) ho1
    walk_at "go"
    refine ⟨.inr ⟨_, .inl (b2 _ _ h1.nw.symm h1.w.dic)⟩, ?_⟩
    walk_at "go"
    refine ⟨by show 2 ≤ sizeLine; decide, fun p3 n3 => ?_⟩
    walk_at "nw"
    rename_i H3 s3 k3
    walk_at "go"
    refine ⟨by decide, fun p4 n4 => ?_⟩
    walk_at "nw"
    rename_i H4 s4 k4
    have hw4 : H4 L.wd = some (.dT (adr L.ws)) := s4 _ _ (s3 _ _ (b2 _ _ h1.nw.symm h1.w.dic))
    have B3 : But L.nd H H3 := ((But.of s1).trans b2).trans (But.of s3)
    have B4 : But L.nd H H4 := B3.trans (But.of s4)
    have np4 : p4 ≠ L.nd := (ne_of_none (s3 _ _ k2) n4).symm
    have f4 : H p4 = none := But.free B3 np4 n4
    have hn4 := s4 _ _ (s3 _ _ k2)
    have hob4 := B4 _ _ (ne_lst_dT hob hL.n) hob
    have hln : (octs 0 rows (h, s)).length ≤ 4000 := by have := octs_len 0 (h, s) rows hL.o4; omega
    refine ⟨adr L.ws, Kk (h, s), p3, hw4, rfl, s4 _ _ k3, szl (by rw [adr_len]; have := hL.lw; omega), ?_, ?_⟩
    · intro v hv
      rcases adr_or (h, s) L.ws with ⟨b, hb, e⟩ | ⟨_, e⟩
      · rw [e] at hv
        cases hv
        have hb0 : H b = some (.lst ((octs 0 rows (h, s)).map V.int)) := hL.w.val _ hb
        have hb4 := B4 _ _ (ne_lst_dT hb0 hL.n) hb0
        refine ⟨ty_l hb4, ?_⟩
        walk_at "go"
        refine ⟨ob, _, rfl, .inl (sl hob4), fun l nl => ?_⟩
        walk_at "nw"
        rename_i H5 s5 k5
        walk_at "go"
        refine ⟨b, l, _, _, rfl, rfl, s5 _ _ hb4, k5, by rw [List.length_map, List.length_map]; exact sz (by omega), ?_⟩
        rw [← List.map_append]
        walk_at "bt"
        rename_i H6 b6 k6
        walk_at "go"
        have nbn := ne_lst_dT hb0 hL.n
        obtain ⟨g1, g2⟩ := hL.write (H' := H6) (p := (h, s)) (ws := L.ws) (b := b) h4 hln0 (b6 _ _ nbn.symm (s5 _ _ hn4)) (fun c u hc c1 c2 c3 => b6 _ _ c3 (s5 _ _ (B4 _ _ c1 hc)))
          (.inl ⟨rfl, hb, (b6 _ _ (ne_lst_dT hb0 hL.w.dic).symm (s5 _ _ hw4)).trans hL.w.dic.symm, k6⟩)
        exact q _ _ g1 g2
      · rw [e] at hv
        cases hv
    · intro hv
      rw [put_adr hv]
      have hno : ∀ e ∈ L.ws, e.1 ≠ (h, s) := by
        rcases adr_or (h, s) L.ws with ⟨b, hb, e⟩ | ⟨e, _⟩
        · rw [e] at hv
          cases hv
        · exact e
      generalize z1 : upd H4 L.wd _ = H5
      have b5 : But L.wd H4 H5 := by rw [← z1]; exact But.refl.upd
      have k5 := (congrFun z1 L.wd).symm.trans upd_same
      clear z1
      have nw4 : p4 ≠ L.wd := (ne_of_none (s3 _ _ (b2 _ _ h1.nw.symm h1.w.dic)) n4).symm
      have hp5 := b5 _ _ nw4 k4
      refine ⟨ty_l hp5, ?_⟩
      walk_at "go"
      refine ⟨ob, _, rfl, .inl (sl (b5 _ _ (ne_lst_dT hob hL.w.dic) hob4)), fun l nl => ?_⟩
      walk_at "nw"
      rename_i H6 s6 k6
      walk_at "go"
      refine ⟨p4, l, _, _, rfl, rfl, s6 _ _ hp5, k6, by rw [List.length_map]; exact sz (by show 0 + _ ≤ _; omega), ?_⟩
      rw [List.nil_append]
      walk_at "bt"
      rename_i H7 b7 k7
      walk_at "go"
      obtain ⟨g1, g2⟩ := hL.write (H' := H7) (p := (h, s)) (ws := L.ws ++ [((h, s), p4)]) (b := p4) h4 hln0 (b7 _ _ np4.symm (s6 _ _ (b5 _ _ hL.nw hn4))) (fun c u hc c1 c2 c3 => b7 _ _ c3 (s6 _ _ (b5 _ _ c2 (B4 _ _ c1 hc))))
        (.inr ⟨hno, rfl, f4, b7 _ _ nw4.symm (s6 _ _ k5), k7⟩)
      exact q _ _ g1 g2
def sp_note_read (C : Addr) : Sp := fun vs H Q _ => ∃ (L : La) (rows : List R4) (h s : Int) (ob : Addr) (o : List Int), vs = [.ref L.a, .int h, .int s, .ref ob] ∧ Led C H L rows ∧ rows.length < 1000 ∧ o.length ≤ 4 ∧ H ob = some (.lst (o.map V.int)) ∧
  ∀ H' L', Led C H' L' (rows ++ [⟨h, s, 1, o⟩]) → Step H L H' L' → Q .non H'
theorem ok_Ledger_note_read (T : Txt K mg) : FnOk P w K mg base CX0 1 T.f_Ledger_note_read T.d_Ledger_note_read ["self", "host", "socket", "octets"] (sp_note_read T.C_Ledger) := by
  refine T.F_Ledger_note_read.ok sc_Ledger_note_read (fun vs H Q E h => ?_) (fun cdv A outer s H vs Q E hr h => ?_)
  · obtain ⟨L, rows, h, s, ob, o, rfl, hL, hln0, h4, hob, q⟩ := h
    rfl
  · obtain ⟨L, rows, h, s, ob, o, rfl, hL, hln0, h4, hob, q⟩ := h
    have hu := hu_of hr
    refine ⟨_, (pss_cons (ps_dput hu (pe_fld (pv 0) rfl) (pe_tup (pa_cons (pv 1) (pa_cons (pv 2) pa_nil))) pe_bl rfl)
        (pss_one (ps_expr (pe_bm PySem.F.plainAttrs_list PySem.F.slot_list_extend PySem.F.type_list_extend mt_extend (pe_dsetdT hu (pe_fld (pv 0) rfl) (pe_tup (pa_cons (pv 1) (pa_cons (pv 2) pa_nil))) (pe_lst pa_nil) ⟨rfl, rfl, rfl, rfl⟩) (pa_cons (pe_callTy call_list_of (by rfl) T.n_list (by decide +kernel) (pa_cons (pv 3) pa_nil)) pa_nil))))), ?_⟩
    dsimp only [cxOf, Cx.nox, Cx.wish, L2.start, List.map, List.cons_append, List.nil_append, List.length_cons, List.length_nil, Nat.reduceAdd, Nat.reduceSub, Nat.zero_add, List.replicate_succ, List.replicate_zero]
    obtain ⟨dx, ho⟩ := hL.o
    walk_at "go"
    refine ⟨by show 2 ≤ sizeLine; decide, fun p1 n1 => ?_⟩
    walk_at "nw"
    rename_i H1 s1 k1
    have h1 := hL.same s1
    refine ⟨L.nd, _, rfl, DPut.t (k := Kk (h, s)) h1.n k1 (szl (by rw [tru_len]; have := keys_len rows; omega)), ?_⟩
    rw [put_tru]
    walk_at "bt"
    rename_i H2 b2 k2
    obtain ⟨dx1, ho1⟩ := h1.o
    have ho2 := b2 _ _ (ne_ins_dT ho1 h1.n) ho1
    walk_at "go"
    refine ⟨.inr ⟨_, .inl (b2 _ _ h1.nr.symm h1.r.dic)⟩, ?_⟩
    walk_at "go"
    refine ⟨by show 2 ≤ sizeLine; decide, fun p3 n3 => ?_⟩
    walk_at "nw"
    rename_i H3 s3 k3
    walk_at "go"
    refine ⟨by decide, fun p4 n4 => ?_⟩
    walk_at "nw"
    rename_i H4 s4 k4
    have hw4 : H4 L.rd = some (.dT (adr L.rs)) := s4 _ _ (s3 _ _ (b2 _ _ h1.nr.symm h1.r.dic))
    have B3 : But L.nd H H3 := ((But.of s1).trans b2).trans (But.of s3)
    have B4 : But L.nd H H4 := B3.trans (But.of s4)
    have np4 : p4 ≠ L.nd := (ne_of_none (s3 _ _ k2) n4).symm
    have f4 : H p4 = none := But.free B3 np4 n4
    have hn4 := s4 _ _ (s3 _ _ k2)
    have hob4 := B4 _ _ (ne_lst_dT hob hL.n) hob
    have hln : (octs 1 rows (h, s)).length ≤ 4000 := by have := octs_len 1 (h, s) rows hL.o4; omega
    refine ⟨adr L.rs, Kk (h, s), p3, hw4, rfl, s4 _ _ k3, szl (by rw [adr_len]; have := hL.lr; omega), ?_, ?_⟩
    · intro v hv
      rcases adr_or (h, s) L.rs with ⟨b, hb, e⟩ | ⟨_, e⟩
      · rw [e] at hv
        cases hv
        have hb0 : H b = some (.lst ((octs 1 rows (h, s)).map V.int)) := hL.r.val _ hb
        have hb4 := B4 _ _ (ne_lst_dT hb0 hL.n) hb0
        refine ⟨ty_l hb4, ?_⟩
        walk_at "go"
        refine ⟨ob, _, rfl, .inl (sl hob4), fun l nl => ?_⟩
        walk_at "nw"
        rename_i H5 s5 k5
        walk_at "go"
        refine ⟨b, l, _, _, rfl, rfl, s5 _ _ hb4, k5, by rw [List.length_map, List.length_map]; exact sz (by omega), ?_⟩
        rw [← List.map_append]
        walk_at "bt"
        rename_i H6 b6 k6
        walk_at "go"
        have nbn := ne_lst_dT hb0 hL.n
        obtain ⟨g1, g2⟩ := hL.read (H' := H6) (p := (h, s)) (rs := L.rs) (b := b) h4 hln0 (b6 _ _ nbn.symm (s5 _ _ hn4)) (fun c u hc c1 c2 c3 => b6 _ _ c3 (s5 _ _ (B4 _ _ c1 hc)))
          (.inl ⟨rfl, hb, (b6 _ _ (ne_lst_dT hb0 hL.r.dic).symm (s5 _ _ hw4)).trans hL.r.dic.symm, k6⟩)
        exact q _ _ g1 g2
      · rw [e] at hv
        cases hv
    · intro hv
      rw [put_adr hv]
      have hno : ∀ e ∈ L.rs, e.1 ≠ (h, s) := by
        rcases adr_or (h, s) L.rs with ⟨b, hb, e⟩ | ⟨e, _⟩
        · rw [e] at hv
          cases hv
        · exact e
      generalize z1 : upd H4 L.rd _ = H5
      have b5 : But L.rd H4 H5 := by rw [← z1]; exact But.refl.upd
      have k5 := (congrFun z1 L.rd).symm.trans upd_same
      clear z1
      have nw4 : p4 ≠ L.rd := (ne_of_none (s3 _ _ (b2 _ _ h1.nr.symm h1.r.dic)) n4).symm
      have hp5 := b5 _ _ nw4 k4
      refine ⟨ty_l hp5, ?_⟩
      walk_at "go"
      refine ⟨ob, _, rfl, .inl (sl (b5 _ _ (ne_lst_dT hob hL.r.dic) hob4)), fun l nl => ?_⟩
      walk_at "nw"
      rename_i H6 s6 k6
      walk_at "go"
      refine ⟨p4, l, _, _, rfl, rfl, s6 _ _ hp5, k6, by rw [List.length_map]; exact sz (by show 0 + _ ≤ _; omega), ?_⟩
      rw [List.nil_append]
      walk_at "bt"
      rename_i H7 b7 k7
      walk_at "go"
      obtain ⟨g1, g2⟩ := hL.read (H' := H7) (p := (h, s)) (rs := L.rs ++ [((h, s), p4)]) (b := p4) h4 hln0 (b7 _ _ np4.symm (s6 _ _ (b5 _ _ hL.nr hn4))) (fun c u hc c1 c2 c3 => b7 _ _ c3 (s6 _ _ (b5 _ _ c2 (B4 _ _ c1 hc))))
        (.inr ⟨hno, rfl, f4, b7 _ _ nw4.symm (s6 _ _ k5), k7⟩)
      exact q _ _ g1 g2
def sp_note_finish (C : Addr) : Sp := fun vs H Q _ => ∃ (L : La) (rows : List R4) (h s : Int) (o : List Int), vs = [.ref L.a, .int h, .int s] ∧ Led C H L rows ∧ rows.length < 1000 ∧ o.length ≤ 4 ∧
  ∀ H' L', Led C H' L' (rows ++ [⟨h, s, 2, o⟩]) → Step H L H' L' → Q .non H'
theorem ok_Ledger_note_finish (T : Txt K mg) : FnOk P w K mg base CX0 1 T.f_Ledger_note_finish T.d_Ledger_note_finish ["self", "host", "socket"] (sp_note_finish T.C_Ledger) := by
  refine T.F_Ledger_note_finish.ok sc_Ledger_note_finish (fun vs H Q E h => ?_) (fun cdv A outer s H vs Q E hr h => ?_)
  · obtain ⟨L, rows, h, s, o, rfl, hL, hln0, h4, q⟩ := h
    rfl
  · obtain ⟨L, rows, h, s, o, rfl, hL, hln0, h4, q⟩ := h
    have hu := hu_of hr
    refine ⟨_, (pss_cons (ps_dput hu (pe_fld (pv 0) rfl) (pe_tup (pa_cons (pv 1) (pa_cons (pv 2) pa_nil))) pe_bl rfl)
        (pss_one (ps_dput hu (pe_fld (pv 0) rfl) (pe_tup (pa_cons (pv 1) (pa_cons (pv 2) pa_nil))) pe_bl rfl))), ?_⟩
    dsimp only [cxOf, Cx.nox, Cx.wish, L2.start, List.map, List.cons_append, List.nil_append, List.length_cons, List.length_nil, Nat.reduceAdd, Nat.reduceSub, Nat.zero_add, List.replicate_succ, List.replicate_zero]
    obtain ⟨dx, ho⟩ := hL.o
    walk_at "go"
    refine ⟨by show 2 ≤ sizeLine; decide, fun p1 n1 => ?_⟩
    walk_at "nw"
    rename_i H1 s1 k1
    have h1 := hL.same s1
    refine ⟨L.nd, _, rfl, DPut.t (k := Kk (h, s)) h1.n k1 (szl (by rw [tru_len]; have := keys_len rows; omega)), ?_⟩
    rw [put_tru]
    walk_at "bt"
    rename_i H2 b2 k2
    obtain ⟨dx1, ho1⟩ := h1.o
    have ho2 := b2 _ _ (ne_ins_dT ho1 h1.n) ho1
    walk_at "go"
    refine ⟨by show 2 ≤ sizeLine; decide, fun p3 n3 => ?_⟩
    walk_at "nw"
    rename_i H3 s3 k3
    have hf3 := s3 _ _ (b2 _ _ h1.nf.symm h1.f)
    have B3 : But L.nd H H3 := ((But.of s1).trans b2).trans (But.of s3)
    refine ⟨L.fd, _, rfl, DPut.t (k := Kk (h, s)) hf3 k3 (szl (by rw [tru_len]; have := hL.lf; omega)), ?_⟩
    rw [put_tru]
    walk_at "bt"
    rename_i H4 b4 k4
    walk_at "go"
    obtain ⟨g1, g2⟩ := hL.fin (H' := H4) (p := (h, s)) h4 hln0 (b4 _ _ h1.nf (s3 _ _ k2)) (fun c u hc c1 c2 => b4 _ _ c2 (B3 _ _ c1 hc)) k4
    exact q _ _ g1 g2
def sp_written (C : Addr) : Sp := fun vs H Q _ => ∃ (L : La) (rows : List R4) (h s : Int), vs = [.ref L.a, .int h, .int s] ∧ Led C H L rows ∧ ∀ H' l, H l = none → Same H H' → H' l = some (.lst ((octs 0 rows (h, s)).map V.int)) → Q (.ref l) H'
theorem ok_Ledger_written (T : Txt K mg) : FnOk P w K mg base CX0 1 T.f_Ledger_written T.d_Ledger_written ["self", "host", "socket"] (sp_written T.C_Ledger) := by
  refine T.F_Ledger_written.ok sc_Ledger_written (fun vs H Q E h => ?_) (fun cdv A outer s H vs Q E hr h => ?_)
  · obtain ⟨L, rows, h, s, rfl, hL, q⟩ := h
    rfl
  · obtain ⟨L, rows, h, s, rfl, hL, q⟩ := h
    have hu := hu_of hr
    refine ⟨_, (pss_one (ps_ret (pe_callTy call_list_of (by rfl) T.n_list (by decide +kernel) (pa_cons (pe_dget2 hu (pe_fld (pv 0) rfl) (pe_tup (pa_cons (pv 1) (pa_cons (pv 2) pa_nil))) (pe_tup pa_nil) ⟨rfl, rfl, rfl, rfl⟩) pa_nil)))), ?_⟩
    dsimp only [cxOf, Cx.nox, Cx.wish, L2.start, List.map, List.cons_append, List.nil_append, List.length_cons, List.length_nil, Nat.reduceAdd, Nat.reduceSub, Nat.zero_add, List.replicate_succ, List.replicate_zero]
    obtain ⟨dx, ho⟩ := hL.o
    walk_at "go"
    refine ⟨.inr ⟨_, .inl hL.w.dic⟩, ?_⟩
    walk_at "go"
    refine ⟨by show 2 ≤ sizeLine; decide, fun p3 n3 => ?_⟩
    walk_at "nw"
    rename_i H3 s3 k3
    walk_at "go"
    refine ⟨by decide, fun p4 n4 => ?_⟩
    walk_at "nw"
    rename_i H4 s4 k4
    have s04 := s3.trans s4
    refine ⟨_, DGet.t (k := Kk (h, s)) (s04 _ _ hL.w.dic) (s4 _ _ k3), ?_⟩
    walk_at "go"
    rcases adr_or (h, s) L.ws with ⟨b, hb, e⟩ | ⟨hno, e⟩
    · rw [e]
      refine ⟨b, _, rfl, .inl (sl (s04 _ _ (hL.w.val _ hb))), fun l nl => ?_⟩
      exact q _ l (s04.free nl) (s04.trans (same_upd nl)) upd_same
    · rw [e]
      refine ⟨p4, [], rfl, .inr (st k4), fun l nl => ?_⟩
      refine q _ l (s04.free nl) (s04.trans (same_upd nl)) ?_
      rw [hL.w.non _ hno]
      exact upd_same
def sp_was_read (C : Addr) : Sp := fun vs H Q _ => ∃ (L : La) (rows : List R4) (h s : Int), vs = [.ref L.a, .int h, .int s] ∧ Led C H L rows ∧ ∀ H' l, H l = none → Same H H' → H' l = some (.lst ((octs 1 rows (h, s)).map V.int)) → Q (.ref l) H'
theorem ok_Ledger_was_read (T : Txt K mg) : FnOk P w K mg base CX0 1 T.f_Ledger_was_read T.d_Ledger_was_read ["self", "host", "socket"] (sp_was_read T.C_Ledger) := by
  refine T.F_Ledger_was_read.ok sc_Ledger_was_read (fun vs H Q E h => ?_) (fun cdv A outer s H vs Q E hr h => ?_)
  · obtain ⟨L, rows, h, s, rfl, hL, q⟩ := h
    rfl
  · obtain ⟨L, rows, h, s, rfl, hL, q⟩ := h
    have hu := hu_of hr
    refine ⟨_, (pss_one (ps_ret (pe_callTy call_list_of (by rfl) T.n_list (by decide +kernel) (pa_cons (pe_dget2 hu (pe_fld (pv 0) rfl) (pe_tup (pa_cons (pv 1) (pa_cons (pv 2) pa_nil))) (pe_tup pa_nil) ⟨rfl, rfl, rfl, rfl⟩) pa_nil)))), ?_⟩
    dsimp only [cxOf, Cx.nox, Cx.wish, L2.start, List.map, List.cons_append, List.nil_append, List.length_cons, List.length_nil, Nat.reduceAdd, Nat.reduceSub, Nat.zero_add, List.replicate_succ, List.replicate_zero]
    obtain ⟨dx, ho⟩ := hL.o
    walk_at "go"
    refine ⟨.inr ⟨_, .inl hL.r.dic⟩, ?_⟩
    walk_at "go"
    refine ⟨by show 2 ≤ sizeLine; decide, fun p3 n3 => ?_⟩
    walk_at "nw"
    rename_i H3 s3 k3
    walk_at "go"
    refine ⟨by decide, fun p4 n4 => ?_⟩
    walk_at "nw"
    rename_i H4 s4 k4
    have s04 := s3.trans s4
    refine ⟨_, DGet.t (k := Kk (h, s)) (s04 _ _ hL.r.dic) (s4 _ _ k3), ?_⟩
    walk_at "go"
    rcases adr_or (h, s) L.rs with ⟨b, hb, e⟩ | ⟨hno, e⟩
    · rw [e]
      refine ⟨b, _, rfl, .inl (sl (s04 _ _ (hL.r.val _ hb))), fun l nl => ?_⟩
      exact q _ l (s04.free nl) (s04.trans (same_upd nl)) upd_same
    · rw [e]
      refine ⟨p4, [], rfl, .inr (st k4), fun l nl => ?_⟩
      refine q _ l (s04.free nl) (s04.trans (same_upd nl)) ?_
      rw [hL.r.non _ hno]
      exact upd_same
def sp_has_finished (C : Addr) : Sp := fun vs H Q _ => ∃ (L : La) (rows : List R4) (h s : Int), vs = [.ref L.a, .int h, .int s] ∧ Led C H L rows ∧ ∀ H', Same H H' → Q (.bl (ends rows (h, s))) H'
theorem ok_Ledger_has_finished (T : Txt K mg) : FnOk P w K mg base CX0 1 T.f_Ledger_has_finished T.d_Ledger_has_finished ["self", "host", "socket"] (sp_has_finished T.C_Ledger) := by
  refine T.F_Ledger_has_finished.ok sc_Ledger_has_finished (fun vs H Q E h => ?_) (fun cdv A outer s H vs Q E hr h => ?_)
  · obtain ⟨L, rows, h, s, rfl, hL, q⟩ := h
    rfl
  · obtain ⟨L, rows, h, s, rfl, hL, q⟩ := h
    have hu := hu_of hr
    refine ⟨_, (pss_one (ps_ret (pe_cmp (pc_din hu (pe_tup (pa_cons (pv 1) (pa_cons (pv 2) pa_nil))) (pe_fld (pv 0) rfl))))), ?_⟩
    dsimp only [cxOf, Cx.nox, Cx.wish, L2.start, List.map, List.cons_append, List.nil_append, List.length_cons, List.length_nil, Nat.reduceAdd, Nat.reduceSub, Nat.zero_add, List.replicate_succ, List.replicate_zero]
    obtain ⟨dx, ho⟩ := hL.o
    walk_at "go"
    refine ⟨by show 2 ≤ sizeLine; decide, fun p3 n3 => ?_⟩
    walk_at "nw"
    rename_i H3 s3 k3
    have ho3 := s3 _ _ ho
    walk_at "go"
    refine ⟨L.fd, _, rfl, DGet.t (k := Kk (h, s)) (s3 _ _ hL.f) k3, ?_⟩
    walk_at "go"
    have e : (valV (tru L.fs) (Kk (h, s))).isSome = ends rows (h, s) := by
      rw [val_tru, Bool.eq_iff_iff, ← hL.fm]
      by_cases c : (h, s) ∈ L.fs
      · rw [if_pos c]; exact ⟨fun _ => c, fun _ => rfl⟩
      · rw [if_neg c]; exact ⟨fun z => (nomatch z), fun z => absurd z c⟩
    rw [e]
    exact q _ s3
def sp_Ledger_iter__ (C : Addr) : Nat → Sp := fun n vs H Q _ => ∃ (p dx nd wd rd fd : Addr) (oo : Obj) (kvs : List (List Key × V)), vs = [.ref p] ∧ H p = some (.ins C dx (obj ky_Ledger [.ref nd, .ref wd, .ref rd, .ref fd])) ∧ H nd = some (.frz oo (.dT kvs)) ∧
  ∀ it ep es, H it = none → n ≤ it → oo.data = .dict es ep → Q (.ref it) (upd H it (KtO it nd kvs.length ep))
theorem okN_Ledger_iter__ (T : Txt K mg) : FnN P w K mg base 1 T.f_Ledger_iter__ T.d_Ledger_iter__ ["self"] (sp_Ledger_iter__ T.C_Ledger) := by
  refine fnN_of T.F_Ledger_iter__ sc_Ledger_iter__ (fun n vs H Q E h => ?_) (fun cdv A outer s H vs Q E hr h => ?_)
  · obtain ⟨p, dx, nd, wd, rd, fd, oo, kvs, rfl, ho, hn, q⟩ := h
    rfl
  · obtain ⟨p, dx, nd, wd, rd, fd, oo, kvs, rfl, ho, hn, q⟩ := h
    have hu := hu_of hr
    refine ⟨_, (pss_one (ps_ret (pe_callB call_iterKT (by rfl) T.n_iter (by decide +kernel) (pa_cons (pe_fld (pv 0) rfl) pa_nil)))), ?_⟩
    dsimp only [cxOf, Cx.nox, Cx.wish, L2.start, List.map, List.cons_append, List.nil_append, List.length_cons, List.length_nil, Nat.reduceAdd, Nat.reduceSub, Nat.zero_add, List.replicate_succ, List.replicate_zero]
    walk_at "go"
    refine ⟨nd, oo, kvs, rfl, hn, fun it ep h1 h2 ⟨es, h3⟩ => ?_⟩
    exact q it ep es h1 h2 h3

end
end My
namespace My
open PySem PySem.Spec L2
local macro_rules | `(tactic| walk_at "side") => `(tactic| first | assumption | decide | omega | exact ⟨by decide, by decide⟩ | exact ⟨by decide, by decide, by decide⟩ | decide +kernel | exact cdivW (by decide +kernel) (by decide +kernel) | exact Or.inl ⟨by omega, by omega⟩ | exact Or.inr ⟨by omega, by omega⟩ | (simp only [List.length_map, List.length_cons, List.length_nil, List.length_append]; omega))
local macro_rules | `(tactic| walk_at "fact") => `(tactic| first | assumption | omega | with_reducible rfl)
local macro_rules | `(tactic| walk_at "use") => `(tactic| fail "use")
local macro_rules | `(tactic| walk_at "go1") => `(tactic| with_reducible first | refine g_seq ?_ | refine g_asg ?_ | refine g_ret ?_ | refine g_ifS ?_ | refine g_drop ?_ | refine g_star ?_ | refine g_nx ?_ | refine g_rt ?_ | refine g_bkE ?_ | refine g_ctE ?_ | refine g_next ?_ | refine g_retN ?_ | refine g_brk ?_ | refine g_ct ?_ | refine g_c ?_ | refine g_op ?_ | refine g_un ?_ | refine g_rI0 ?_ | refine g_rU ?_ | refine g_rEqI ?_ | refine g_rNeI ?_ | refine g_isN ?_ | refine g_rIsB ?_ | refine g_rNotB ?_ | refine g_test ?_ | refine g_B ?_ | refine g_bl ?_ | refine g_and ?_ | refine g_or ?_ | refine g_not ?_ | refine g_andV ?_ | refine g_orV ?_ | refine g_notV ?_ | refine g_if ?_ | refine g_chain ?_ | refine g_yes ?_ | refine g_lc ?_ | refine g_revR ?_ | refine g_rng1 ?_ | refine g_iList ?_ | refine g_nil ?_ | refine g_cons ?_ | refine g_tup ?_ | refine g_lst ?_ | refine g_call ?_ | refine g_CB ?_ | refine g_sl ?_ | refine g_noPart ?_ | refine g_part ?_ | refine g_intE ?_ | refine g_ref ?_ | refine g_fld ?_ | refine g_sfld ?_ | refine g_meth ?_ | refine g_make ?_ | refine g_prop ?_  | refine g_ipI ?_ | refine g_int1 ?_ | refine g_int1B ?_ | refine g_one ?_ | refine g_two ?_ | refine g_isiI ?_ | refine g_isiIB ?_ | refine g_isiB ?_ | refine g_BM ?_ | refine g_BM0 ?_ | refine g_sub ?_)
local macro_rules | `(tactic| walk_at "go") => `(tactic| repeat (first | walk_at "go1" | ((with_reducible refine' g_nameE ?sd_ ?_); case sd_ => dsimp only [List.set_cons_succ, List.set_cons_zero]) | ((with_reducible refine' g_var ?sd_ ?_); case sd_ => exact rfl) | ((with_reducible refine' g_aug ?sd_ ?_); case sd_ => exact rfl) | ((with_reducible refine' g_rI ?sd_ ?_); case sd_ => walk_at "side") | ((with_reducible refine' g_dT ?sd_ ?_); case sd_ => walk_at "fact") | ((with_reducible refine' g_dF ?sd_ ?_); case sd_ => walk_at "fact") | ((with_reducible refine' g_nT ?sd_ ?_); case sd_ => walk_at "fact") | ((with_reducible refine' g_nF ?sd_ ?_); case sd_ => walk_at "fact") | (with_reducible refine g_iT rfl ?_) | (with_reducible refine g_iF rfl ?_) | walk_at "use"))
local macro_rules | `(tactic| walk_at "nw") => `(tactic| (generalize zq : upd _ _ _ = Hq; have sq : Same _ Hq := (by rw [← zq]; exact same_upd (by assumption)); have kq := (congrFun zq _).symm.trans upd_same; clear zq))
local macro_rules | `(tactic| walk_at "bt") => `(tactic| (generalize zq : upd _ _ _ = Hq; have bq : But _ _ Hq := (by rw [← zq]; exact But.refl.upd); have kq := (congrFun zq _).symm.trans upd_same; clear zq))
local macro_rules | `(tactic| walk_at "use") => `(tactic| first | ((with_reducible refine' fd_Ledger__noted ?ho_ ?hv_ ?_); (case ho_ => first | assumption | exact upd_same); (case hv_ => exact rfl)) | ((with_reducible refine' fd_Ledger__written ?ho_ ?hv_ ?_); (case ho_ => first | assumption | exact upd_same); (case hv_ => exact rfl)) | ((with_reducible refine' fd_Ledger__was_read ?ho_ ?hv_ ?_); (case ho_ => first | assumption | exact upd_same); (case hv_ => exact rfl)) | ((with_reducible refine' fd_Ledger__finished ?ho_ ?hv_ ?_); (case ho_ => first | assumption | exact upd_same); (case hv_ => exact rfl)) | ((with_reducible refine' nw_Ledger__noted ?ho_ ?hv_ ?_); (case ho_ => first | assumption | exact upd_same); (case hv_ => exact rfl)) | ((with_reducible refine' nw_Ledger__written ?ho_ ?hv_ ?_); (case ho_ => first | assumption | exact upd_same); (case hv_ => exact rfl)) | ((with_reducible refine' nw_Ledger__was_read ?ho_ ?hv_ ?_); (case ho_ => first | assumption | exact upd_same); (case hv_ => exact rfl)) | ((with_reducible refine' nw_Ledger__finished ?ho_ ?hv_ ?_); (case ho_ => first | assumption | exact upd_same); (case hv_ => exact rfl)) | ((with_reducible refine' st_Ledger__noted ?ho_ ?hv_ ?_); (case ho_ => first | assumption | exact upd_same); (case hv_ => exact Nat.le_of_ble_eq_true rfl)) | ((with_reducible refine' st_Ledger__written ?ho_ ?hv_ ?_); (case ho_ => first | assumption | exact upd_same); (case hv_ => exact Nat.le_of_ble_eq_true rfl)) | ((with_reducible refine' st_Ledger__was_read ?ho_ ?hv_ ?_); (case ho_ => first | assumption | exact upd_same); (case hv_ => exact Nat.le_of_ble_eq_true rfl)) | ((with_reducible refine' st_Ledger__finished ?ho_ ?hv_ ?_); (case ho_ => first | assumption | exact upd_same); (case hv_ => exact Nat.le_of_ble_eq_true rfl)) | ((with_reducible refine' me_Ledger_note_write ?ho_ ?_); (case ho_ => first | assumption | exact upd_same)) | ((with_reducible refine' me_Ledger_note_read ?ho_ ?_); (case ho_ => first | assumption | exact upd_same)) | ((with_reducible refine' me_Ledger_note_finish ?ho_ ?_); (case ho_ => first | assumption | exact upd_same)) | ((with_reducible refine' me_Ledger_written ?ho_ ?_); (case ho_ => first | assumption | exact upd_same)) | ((with_reducible refine' me_Ledger_was_read ?ho_ ?_); (case ho_ => first | assumption | exact upd_same)) | ((with_reducible refine' me_Ledger_has_finished ?ho_ ?_); (case ho_ => first | assumption | exact upd_same)) | ((with_reducible refine' me_Ledger_iter__ ?ho_ ?_); (case ho_ => first | assumption | exact upd_same)))
section
variable {P : Program} {w : World} {K : PySem.W.Frag} {mg : Str → Option Value} {base : Heap}
def sp_l_is_integer (K : PySem.W.Frag) : Sp := fun vs H Q _ => ∃ (n : Int), vs = [.int n] ∧ Q (.bl true) H
theorem u_isint {n : Int} {H Q E} (q : Q (.bl true) H) : sp_l_is_integer K ([.int n] ++ []) H Q E := ⟨n, rfl, q⟩
theorem ok_l_is_integer (T : Txt K mg) : FnOk P w K mg base CX0 1 T.f_l_is_integer T.d_l_is_integer ["told"] (sp_l_is_integer K) := by
  refine T.F_l_is_integer.ok sc_l_is_integer (fun vs H Q E h => ?_) (fun cdv A outer s H vs Q E hr h => ?_)
  · obtain ⟨n, rfl, q⟩ := h
    rfl
  · obtain ⟨n, rfl, q⟩ := h
    have hu := hu_of hr
    refine ⟨_, (pss_one (ps_ret (pe_and (pe_callB call_isi (by rfl) T.n_isinstance (by decide +kernel) (pa_cons (pv 0) (pa_cons (pe_bltn (v := .ty "int") (by rfl) T.n_int (by decide +kernel) rfl) pa_nil))) (pe_one (pe_not (pe_callB call_isi (by rfl) T.n_isinstance (by decide +kernel) (pa_cons (pv 0) (pa_cons (pe_bltn (v := .ty "bool") (by rfl) T.n_bool (by decide +kernel) rfl) pa_nil)))))))), ?_⟩
    dsimp only [cxOf, Cx.nox, Cx.wish, L2.start, List.map, List.cons_append, List.nil_append, List.length_cons, List.length_nil, Nat.reduceAdd, Nat.reduceSub, Nat.zero_add, List.replicate_succ, List.replicate_zero]
    walk_at "go"
    exact q
local macro_rules | `(tactic| walk_at "use") => `(tactic| with_reducible refine u_isint ?_)

def sp_l_cell (K : PySem.W.Frag) : Sp := fun vs H Q _ => ∃ (a : Addr) (ns : List Int) (k : Int), vs = [.ref a, .int k] ∧ SqL K H a (ns.map V.int) ∧ 0 ≤ k ∧ Q (.int (cell ns k)) H
theorem u_cell {a : Addr} {ns : List Int} {k : Int} {H Q E} (h : SqL K H a (ns.map V.int)) (h0 : 0 ≤ k) (q : Q (.int (cell ns k)) H) : sp_l_cell K ([.ref a, .int k] ++ []) H Q E := ⟨a, ns, k, rfl, h, h0, q⟩
theorem ok_l_cell (T : Txt K mg) : FnOk P w K mg base CX0 1 T.f_l_cell T.d_l_cell ["script", "k"] (sp_l_cell K) := by
  refine T.F_l_cell.ok sc_l_cell (fun vs H Q E h => ?_) (fun cdv A outer s H vs Q E hr h => ?_)
  · obtain ⟨a, ns, k, rfl, hS, h0, q⟩ := h
    rfl
  · obtain ⟨a, ns, k, rfl, hS, h0, q⟩ := h
    have hu := hu_of hr
    refine ⟨_, (pss_cons (ps_if (pt_cmpR op_lt (pv 1) (pe_callB call_len_seq (by rfl) T.n_len (by decide +kernel) (pa_cons (pv 0) pa_nil)) (nomark _)) (pss_one (ps_ret (pe_ix ix_list (pv 0) (pv 1) (fun _ _ => rfl)))) pss_nil)
        (pss_one (ps_ret pe_int))), ?_⟩
    dsimp only [cxOf, Cx.nox, Cx.wish, L2.start, List.map, List.cons_append, List.nil_append, List.length_cons, List.length_nil, Nat.reduceAdd, Nat.reduceSub, Nat.zero_add, List.replicate_succ, List.replicate_zero]
    walk_at "go"
    refine g_len (.inl hS) ?_
    walk_at "go"
    rw [List.length_map]
    refine g_ite (fun h => ?_) (fun h => ?_)
    · walk_at "go"
      refine g_ixL hS (atI_map h0 h) ?_
      exact q
    · walk_at "go"
      rw [cell_out h] at q
      exact q
local macro_rules | `(tactic| walk_at "use") => `(tactic| with_reducible refine u_cell (by assumption) (by decide) ?_)

def sp_l_start (K : PySem.W.Frag) : Sp := fun vs H Q _ => ∃ c k : Int, vs = [.int c, .int k] ∧ ∀ p n, H p = none → Q (.ref p) (upd H p (.lst [.int n]))
theorem u_start {c k : Int} {H Q E} (q : ∀ p n, H p = none → Q (.ref p) (upd H p (.lst [.int n]))) : sp_l_start K ([.int c, .int k] ++ []) H Q E := ⟨c, k, rfl, q⟩
theorem one_ok : 1 ≤ sizeLine := by decide
theorem abs_mod {a : Int} : (a % 618970019642690137449562111).natAbs < 2 ^ 89 := by omega
theorem ok_l_start (T : Txt K mg) : FnOk P w K mg base CX0 1 T.f_l_start T.d_l_start ["cell", "k"] (sp_l_start K) := by
  refine T.F_l_start.ok sc_l_start (fun vs H Q E h => ?_) (fun cdv A outer s H vs Q E hr h => ?_)
  · obtain ⟨c, k, rfl, q⟩ := h
    rfl
  · obtain ⟨c, k, rfl, q⟩ := h
    have hu := hu_of hr
    refine ⟨_, (pss_cons (ps_set (i := 2) sc_l_start.nd rfl (Or.inl rfl) pe_int)
        (pss_cons (ps_if (pt_chain op_lt op_lt (pe_un un_neg pe_int) (pv 0) pe_int) (pss_cons (ps_set (i := 3) sc_l_start.nd rfl (Or.inl rfl) (pe_op op_mod (pe_callTy call_int1 (by rfl) T.n_int (by decide +kernel) (pa_cons (pe_op op_add (pe_op op_mul (pv 0) pe_int) (pe_op op_mul (pe_op op_add (pv 1) pe_int) pe_int)) pa_nil)) (pv 2)))
        (pss_one (ps_ret (pe_lst (pa_cons (pe_op op_mod (pe_callTy call_int1 (by rfl) T.n_int (by decide +kernel) (pa_cons (pe_op op_add (pe_op op_add (pe_op op_mulW (pv 3) (pv 3)) (pe_op op_mul pe_int (pv 3))) (pv 1)) pa_nil)) (pv 2)) pa_nil))))) pss_nil)
        (pss_one (ps_ret (pe_lst (pa_cons (pv 0) pa_nil)))))), ?_⟩
    dsimp only [cxOf, Cx.nox, Cx.wish, L2.start, List.map, List.cons_append, List.nil_append, List.length_cons, List.length_nil, Nat.reduceAdd, Nat.reduceSub, Nat.zero_add, List.replicate_succ, List.replicate_zero]
    walk_at "go"
    refine g_ite (fun c1 => ?_) (fun c1 => ?_)
    · walk_at "go"
      refine g_ite (fun c2 => ?_) (fun c2 => ?_)
      · walk_at "go"
        refine g_rI (wide_mul abs_mod abs_mod (by decide) (by decide) (by decide)) ?_
        walk_at "go"
        exact ⟨one_ok, fun p hp => q p _ hp⟩
      · walk_at "go"
        exact ⟨one_ok, fun p hp => q p _ hp⟩
    · walk_at "go"
      exact ⟨one_ok, fun p hp => q p _ hp⟩
theorem lt8000 {m : Int} (h : m < 18446744073709551616) : m < 2 ^ 8000 := Int.lt_trans h (by decide +kernel)
def sp_l_digit (K : PySem.W.Frag) : Sp := fun vs H Q _ => ∃ (p : Addr) (n m : Int), vs = [.ref p, .int m] ∧ H p = some (.lst [.int n]) ∧ 0 < m ∧ m < 18446744073709551616 ∧ Q (.int (n % m)) (upd H p (.lst [.int (n / m)]))
theorem u_digit {p : Addr} {n m : Int} {H Q E} (h : H p = some (.lst [.int n])) (h0 : 0 < m) (h1 : m < 18446744073709551616) (q : Q (.int (n % m)) (upd H p (.lst [.int (n / m)]))) : sp_l_digit K ([.ref p, .int m] ++ []) H Q E := ⟨p, n, m, rfl, h, h0, h1, q⟩
theorem ok_l_digit (T : Txt K mg) : FnOk P w K mg base CX0 1 T.f_l_digit T.d_l_digit ["state", "many"] (sp_l_digit K) := by
  refine T.F_l_digit.ok sc_l_digit (fun vs H Q E h => ?_) (fun cdv A outer s H vs Q E hr h => ?_)
  · obtain ⟨p, n, m, rfl, hp, h0, h1, q⟩ := h
    rfl
  · obtain ⟨p, n, m, rfl, hp, h0, h1, q⟩ := h
    have hu := hu_of hr
    refine ⟨_, (pss_cons (ps_set (i := 2) sc_l_digit.nd rfl (Or.inl rfl) (pe_op op_mod (pe_callTy call_int1 (by rfl) T.n_int (by decide +kernel) (pa_cons (pe_ix ix_list (pv 0) pe_int (fun _ _ => rfl)) pa_nil)) (pv 1)))
        (pss_cons (ps_asg (pe_op op_fdivW (pe_ix ix_list (pv 0) pe_int (fun _ _ => rfl)) (pv 1)) (pg_sub (pv 0) pe_int set_list))
        (pss_one (ps_ret (pv 2))))), ?_⟩
    dsimp only [cxOf, Cx.nox, Cx.wish, L2.start, List.map, List.cons_append, List.nil_append, List.length_cons, List.length_nil, Nat.reduceAdd, Nat.reduceSub, Nat.zero_add, List.replicate_succ, List.replicate_zero]
    walk_at "go"
    refine g_ixL (sl hp) (at_of (j := 0) rfl rfl) ?_
    walk_at "go"
    refine g_ixL (sl hp) (at_of (j := 0) rfl rfl) ?_
    walk_at "go"
    refine g_rI (cdivW h0 (lt8000 h1)) ?_
    walk_at "go"
    refine g_setL (j := 0) hp rfl ?_
    walk_at "go"
    exact q

/-- [_law_digit(state, m) for j in range(cnt)] -/
theorem lc_digs {σ : St} {H1 : Hp} {p : Addr} {n m : Int} {cnt is j : Nat} {D : Addr} {Qd : Hp → Prop} (hD : H1 D = none) (hp : H1 p = some (.lst [.int n])) (h0 : 0 < m) (h1 : m < 18446744073709551616) (hc : cnt ≤ 100000)
    (hσ : ∀ x, ((wipe σ [j]).set j (some x))[is]? = some (some (.ref p)))
    (q : ∀ (H' : Hp) (us : List Int) (n' : Int), But p H1 H' → H' D = some (.lst (us.map V.int)) → H' p = some (.lst [.int n']) → us.length = cnt → (∀ u ∈ us, 0 ≤ u ∧ u < m) → Qd H') :
    ∃ W : Nat → Nat → Hp → Prop, (∃ m, W 0 m (upd H1 D (.lst []))) ∧ ∀ i m0 H, W i m0 H →
      ((Itr 0 cnt).stop i H ∧ Qd H) ∨ ((Itr 0 cnt).go i H ∧ ∃ Nx : Hp → Prop, (∀ H', Nx H' → ∃ m', m' < m0 ∧ W (i + 1) m' H') ∧ ∀ x H', (Itr 0 cnt).yld i H x H' → gName j x (wipe σ [j]) H' fun σ2 H2 => wipe σ2 [j] = wipe σ [j] ∧ tYes σ2 H2 fun b H3 =>
        if b = true then tCall (sp_l_digit K) [] E0 (tCons (tVar is) (tCons (tC (.int m)) tNil)) σ2 H3 fun y H4 => ∃ acc, H4 D = some (.lst acc) ∧ acc.length < sizeLine ∧ Nx (upd H4 D (.lst (acc ++ [y]))) else Nx H3) := by
  have nDp : p ≠ D := ne_of_none hp hD
  refine lc_it walk_range (fun i H => But p H1 H ∧ ∃ (us : List Int) (n' : Int), H D = some (.lst (us.map V.int)) ∧ H p = some (.lst [.int n']) ∧ us.length = i ∧ (∀ u ∈ us, 0 ≤ u ∧ u < m)) ?_ (fun _ _ _ _ => trivial) ?_ ?_
  · refine ⟨But.of (same_upd hD), [], n, upd_same, (same_upd hD) _ _ hp, rfl, fun u z => nomatch z⟩
  · rintro i x H H' hi ⟨bt, us, n', hu, hn, hl, hb⟩ ⟨rfl, rfl⟩
    refine ⟨?_, ?_⟩
    · show ((σ.set j none).set j (some _)).set j none = σ.set j none
      rw [List.set_set, List.set_set]
    refine g_yes ?_
    refine iteT ?_
    refine g_call ?_
    refine g_cons ?_
    refine g_var (hσ _) ?_
    refine g_cons ?_
    refine g_c ?_
    refine g_nil ?_
    refine u_digit hn h0 h1 ?_
    refine ⟨us.map V.int, ?_, ?_, ?_⟩
    · rw [upd_ne (Ne.symm nDp)]
      exact hu
    · rw [List.length_map]
      exact szl (by omega)
    · refine ⟨?_, us ++ [n' % m], n' / m, ?_, ?_, ?_, ?_⟩
      · intro b o nb e
        by_cases z : b = D
        · rw [z, hD] at e; cases e
        · rw [upd_ne z, upd_ne nb]
          exact bt b o nb e
      · rw [upd_same, List.map_append]
        rfl
      · rw [upd_ne nDp, upd_same]
      · rw [List.length_append, hl]
        rfl
      · intro u hu
        rcases List.mem_append.mp hu with z | z
        · exact hb u z
        · rw [List.mem_singleton.mp z]
          exact ⟨Int.emod_nonneg _ (by omega), Int.emod_lt_of_pos _ h0⟩
  · rintro H ⟨bt, us, n', hu, hn, hl, hb⟩
    exact q H us n' bt hu hn hl hb

theorem g_nR {A B : Prop} {xs : List Int} (q : B) : if (!decide (xs = xs)) = true then A else B := g_nF rfl q
theorem drop_upd {H : Hp} {it : Addr} {o : HO} (h : H it = none) : ItX.dropH (upd H it o) it = H := by
  funext b
  by_cases c : b = it
  · subst c
    rw [h]
    exact if_pos rfl
  · rw [ItX.dropH_ne c, upd_ne c]
theorem units65 {k : Nat} {A : Around} (r : Room k A) : A.units + 65 < cLine := by have := r.un; omega
theorem g_lock {t : TS} {D : Ends} {σ : St} {H : Hp} {d : Addr} {u : HO} (e : H d = some u) (m : Mut (some u)) (h : ∀ od, t ⟨fun σ' H' => H' d = some (.frz od u) ∧ D.nx σ' (upd H' d u), fun v H' => H' d = some (.frz od u) ∧ D.rt v (upd H' d u), fun σ' H' => H' d = some (.frz od u) ∧ D.bk σ' (upd H' d u), fun σ' H' => H' d = some (.frz od u) ∧ D.ct σ' (upd H' d u)⟩ σ (upd H d (.frz od u))) : tLock t D σ H := ⟨d, u, e, m, h⟩
theorem u_written {C : Addr} {L : La} {rows : List R4} {h s : Int} {H Q E} (hL : Led C H L rows) (q : ∀ H' l, H l = none → Same H H' → H' l = some (.lst ((octs 0 rows (h, s)).map V.int)) → Q (.ref l) H') : sp_written C ([.ref L.a, .int h, .int s] ++ []) H Q E := ⟨L, rows, h, s, rfl, hL, q⟩
theorem u_was_read {C : Addr} {L : La} {rows : List R4} {h s : Int} {H Q E} (hL : Led C H L rows) (q : ∀ H' l, H l = none → Same H H' → H' l = some (.lst ((octs 1 rows (h, s)).map V.int)) → Q (.ref l) H') : sp_was_read C ([.ref L.a, .int h, .int s] ++ []) H Q E := ⟨L, rows, h, s, rfl, hL, q⟩
theorem u_hasfin {C : Addr} {L : La} {rows : List R4} {h s : Int} {H Q E} (hL : Led C H L rows) (q : ∀ H', Same H H' → Q (.bl (ends rows (h, s))) H') : sp_has_finished C ([.ref L.a, .int h, .int s] ++ []) H Q E := ⟨L, rows, h, s, rfl, hL, q⟩
structure RowO (H : Hp) (L : La) (rw : Addr) (v : V) (r : R4) : Prop where
  ex : ∃ t o, v = .ref t ∧ H t = some (.tup [.int r.h, .int r.s, .int r.k, .ref o]) ∧ H o = some (.lst (r.o.map V.int)) ∧ t ∉ L.fp ∧ o ∉ L.fp ∧ o ≠ rw
  k : r.k = 0 ∨ r.k = 1 ∨ r.k = 2
def Rws (H : Hp) (L : La) (rw : Addr) (vs : List V) (rows : List R4) : Prop := vs.length = rows.length ∧ ∀ (i : Nat) r, rows[i]? = some r → ∃ v, vs[i]? = some v ∧ RowO H L rw v r
theorem RowO.same {H H' : Hp} {L : La} {rw : Addr} {v : V} {r : R4} (h : RowO H L rw v r) (s : Same H H') : RowO H' L rw v r := by
  obtain ⟨⟨t, o, e, h1, h2, h3, h4, h5⟩, k⟩ := h
  exact ⟨⟨t, o, e, s _ _ h1, s _ _ h2, h3, h4, h5⟩, k⟩
theorem Rws.same {H H' : Hp} {L : La} {rw : Addr} {vs : List V} {rows : List R4} (h : Rws H L rw vs rows) (s : Same H H') : Rws H' L rw vs rows := ⟨h.1, fun i r e => by
  obtain ⟨v, e1, e2⟩ := h.2 i r e
  exact ⟨v, e1, e2.same s⟩⟩
theorem RowO.step {H H' : Hp} {L L' : La} {rw : Addr} {v : V} {r : R4} (h : RowO H L rw v r) (s : Step H L H' L') : RowO H' L' rw v r := by
  obtain ⟨⟨t, o, e, h1, h2, h3, h4, h5⟩, k⟩ := h
  refine ⟨⟨t, o, e, s.fr _ _ h1 h3, s.fr _ _ h2 h4, fun z => ?_, fun z => ?_, h5⟩, k⟩
  · rcases s.fp _ z with y | y
    · exact h3 y
    · rw [h1] at y; cases y
  · rcases s.fp _ z with y | y
    · exact h4 y
    · rw [h2] at y; cases y
theorem Rws.step {H H' : Hp} {L L' : La} {rw : Addr} {vs : List V} {rows : List R4} (h : Rws H L rw vs rows) (s : Step H L H' L') : Rws H' L' rw vs rows := ⟨h.1, fun i r e => by
  obtain ⟨v, e1, e2⟩ := h.2 i r e
  exact ⟨v, e1, e2.step s⟩⟩
theorem Rws.snoc {H : Hp} {L : La} {rw : Addr} {vs : List V} {rows : List R4} {v : V} {r : R4} (h : Rws H L rw vs rows) (h' : RowO H L rw v r) : Rws H L rw (vs ++ [v]) (rows ++ [r]) := by
  refine ⟨by rw [List.length_append, List.length_append, h.1]; rfl, fun i x e => ?_⟩
  by_cases c : i < rows.length
  · rw [List.getElem?_append_left c] at e
    obtain ⟨y, e1, e2⟩ := h.2 i x e
    exact ⟨y, by rw [List.getElem?_append_left (by rw [h.1]; exact c)]; exact e1, e2⟩
  · have e3 : i = rows.length := by
      obtain ⟨hl, _⟩ := List.getElem?_eq_some_iff.mp e
      rw [List.length_append] at hl
      have : [r].length = 1 := rfl
      omega
    subst e3
    rw [List.getElem?_append_right (Nat.le_refl _), Nat.sub_self] at e
    have e4 : r = x := Option.some.inj e
    subst e4
    exact ⟨v, by rw [← h.1, List.getElem?_append_right (Nat.le_refl _), Nat.sub_self]; rfl, h'⟩
theorem RowO.but {H H' : Hp} {L : La} {rw : Addr} {xs : List V} {v : V} {r : R4} (h : RowO H L rw v r) (b : But rw H H') (e : H rw = some (.lst xs)) : RowO H' L rw v r := by
  obtain ⟨⟨t, o, e0, h1, h2, h3, h4, h5⟩, k⟩ := h
  exact ⟨⟨t, o, e0, b _ _ (fun z => by rw [z, e] at h1; cases h1) h1, b _ _ h5 h2, h3, h4, h5⟩, k⟩
theorem Rws.but {H H' : Hp} {L : La} {rw : Addr} {xs vs : List V} {rows : List R4} (h : Rws H L rw vs rows) (b : But rw H H') (e : H rw = some (.lst xs)) : Rws H' L rw vs rows := ⟨h.1, fun i r e0 => by
  obtain ⟨v, e1, e2⟩ := h.2 i r e0
  exact ⟨v, e1, e2.but b e⟩⟩
/-- another list is changed -/
theorem Led.but {C : Addr} {H H' : Hp} {L : La} {rows : List R4} {x : Addr} {xs : List V} (h : Led C H L rows) (b : But x H H') (e : H x = some (.lst xs)) (n : x ∉ L.fp) : Led C H' L rows := by
  have k : ∀ c ∈ L.fp, H' c = H c := fun c hc => by
    obtain ⟨u, hu⟩ : ∃ u, H c = some u := by
      rcases fp_or hc with z | z | z | z | ⟨e, he, z⟩ | ⟨e, he, z⟩
      · exact ⟨_, z ▸ h.n⟩
      · exact ⟨_, z ▸ h.w.dic⟩
      · exact ⟨_, z ▸ h.r.dic⟩
      · exact ⟨_, z ▸ h.f⟩
      · exact ⟨_, z ▸ h.w.val e he⟩
      · exact ⟨_, z ▸ h.r.val e he⟩
    rw [hu]
    exact b _ _ (fun z => n (z ▸ hc)) hu
  exact ⟨let ⟨dx, ho⟩ := h.o; ⟨dx, b _ _ (ne_ins_lst ho e) ho⟩, (k _ fp_nd).trans h.n, h.w.keep (k _ fp_wd) (fun e he => k _ (fp_ws he)), h.r.keep (k _ fp_rd) (fun e he => k _ (fp_rs he)), (k _ fp_fd).trans h.f, h.fm, h.lw, h.lr, h.lf, h.nw, h.nr, h.nf, h.wr, h.wf, h.rf, h.dis, h.o4, h.ln⟩
theorem Led.fpn {C : Addr} {H : Hp} {L : La} {rows : List R4} (h : Led C H L rows) {b : Addr} (hb : b ∈ L.fp) : H b ≠ none := by
  rcases fp_or hb with rfl | rfl | rfl | rfl | ⟨e, he, rfl⟩ | ⟨e, he, rfl⟩
  · rw [h.n]; exact fun z => nomatch z
  · rw [h.w.dic]; exact fun z => nomatch z
  · rw [h.r.dic]; exact fun z => nomatch z
  · rw [h.f]; exact fun z => nomatch z
  · rw [h.w.val e he]; exact fun z => nomatch z
  · rw [h.r.val e he]; exact fun z => nomatch z
def sp_l_octets (K : PySem.W.Frag) : Sp := fun vs H Q _ => ∃ (p : Addr) (ns : List Int), vs = [.ref p] ∧ H p = some (.lst (ns.map V.int)) ∧ ∀ H' l, H l = none → Same H H' → H' l = some (.lst (ns.map V.int)) → Q (.ref l) H'
theorem u_octets {p : Addr} {ns : List Int} {H Q E} (h : H p = some (.lst (ns.map V.int))) (q : ∀ H' l, H l = none → Same H H' → H' l = some (.lst (ns.map V.int)) → Q (.ref l) H') : sp_l_octets K ([.ref p] ++ []) H Q E := ⟨p, ns, rfl, h, q⟩
theorem ok_l_octets (T : Txt K mg) : FnOk P w K mg base CX0 2 T.f_l_octets T.d_l_octets ["told"] (sp_l_octets K) := by
  refine T.F_l_octets.ok sc_l_octets (fun vs H Q E h => ?_) (fun cdv A outer s H vs Q E hr h => ?_)
  · obtain ⟨p, ns, rfl, h, q⟩ := h
    rfl
  · obtain ⟨p, ns, rfl, h, q⟩ := h
    have hu := hu_of hr
    refine ⟨_, (pss_cons (ps_if (pt_not (pt_val (pe_callB call_isi (by rfl) T.n_isinstance (by decide +kernel) (pa_cons (pv 0) (pa_cons (pe_bltn (v := .ty "list") (by rfl) T.n_list (by decide +kernel) rfl) pa_nil))))) (pss_one (ps_ret pe_non)) pss_nil)
        (pss_cons (ps_for PassesOwn.never rfl (pi_list (pv 0)) (pg_name (i := 1) sc_l_octets.nd rfl (Or.inl rfl)) (pss_one (ps_if (pt_not (pt_val (pe_call (ok_l_is_integer T) (hr.mono (by decide)) rfl T.m_l_is_integer T.F_l_is_integer.kp T.b_l_is_integer .nil pass0 (pa_cons (pv 1) pa_nil)))) (pss_one (ps_ret pe_non)) pss_nil)))
        (pss_one (ps_ret (pe_callTy call_list_of (by rfl) T.n_list (by decide +kernel) (pa_cons (pv 0) pa_nil)))))), ?_⟩
    dsimp only [cxOf, Cx.nox, Cx.wish, L2.start, List.map, List.cons_append, List.nil_append, List.length_cons, List.length_nil, Nat.reduceAdd, Nat.reduceSub, Nat.zero_add, List.replicate_succ, List.replicate_zero]
    walk_at "go"
    refine g_isiL h ?_
    walk_at "go"
    refine for_l (xs := ns.map V.int) (fun i σ H' => H' = H ∧ ∃ v, σ = [some (.ref p), v]) (sl h) ⟨rfl, none, rfl⟩ (fun i σ H' _ ⟨e, _⟩ => by rw [e]; exact sl h) ?turn ?done ?ev
    case ev =>
      intro R r
      walk_at "go"
      exact r
    case done =>
      rintro σ H' ⟨rfl, v, rfl⟩
      walk_at "go"
      refine ⟨p, _, rfl, .inl (sl h), fun l nl => ?_⟩
      exact q _ l nl (same_upd nl) upd_same
    case turn =>
      rintro i x σ H' hx ⟨rfl, v, rfl⟩
      rw [List.getElem?_map] at hx
      obtain ⟨n, e, rfl⟩ := Option.map_eq_some_iff.mp hx
      walk_at "go"
      exact ⟨rfl, _, rfl⟩
theorem ty_lq {p : Addr} {xs : List V} {H : Hp} (h : SqL K H p xs) : tyV K "list" (.ref p) H := Or.inl ⟨rfl, _, h⟩
theorem g_notinP {Q : VK} {a b : Addr} {vs : List V} {p : Int × Int} {ps : List (Int × Int)} {H : Hp} (h1 : H a = some (tupP p)) (h2 : SqL K H b vs) (p2 : Prs H vs ps) (q : Q (.bl (!decide (p ∈ ps))) H) : rNotInD K (.ref a) (.ref b) H Q := by
  refine ⟨datP p, ps.map datP, dp_pair h1, .lst h2 (dpAll_pairs p2), rfl, shaped_pairs, ?_⟩
  have e : ((ps.map datP).any fun z => PyData.eqv z (datP p)) = decide (p ∈ ps) := by
    rw [List.any_map, Bool.eq_iff_iff, List.any_eq_true, decide_eq_true_iff]
    constructor
    · rintro ⟨x, hx, h⟩
      have h3 : PyData.eqv (datP x) (datP p) = true := h
      rw [eqv_pair, decide_eq_true_iff] at h3
      exact h3 ▸ hx
    · intro h
      exact ⟨p, h, show PyData.eqv (datP p) (datP p) = true by rw [eqv_pair, decide_eq_true_iff]⟩
  rw [e]
  exact q
theorem keys_take {rows : List R4} {i : Nat} {r : R4} (h : rows[i]? = some r) : rows.take (i + 1) = rows.take i ++ [r] := by
  obtain ⟨hl, e⟩ := List.getElem?_eq_some_iff.mp h
  rw [List.take_succ, h]
  rfl
def sp_l_keys (K : PySem.W.Frag) : Sp := fun vs H Q _ => ∃ (L : La) (rw : Addr) (us : List V) (rows : List R4), vs = [.ref rw] ∧ SqL K H rw us ∧ Rws H L rw us rows ∧ rows.length ≤ 1000 ∧ ∀ H' l ws, H l = none → Same H H' → H' l = some (.lst ws) → Prs H' ws (keysOf rows) → Q (.ref l) H'
theorem u_keys {L : La} {rw : Addr} {us : List V} {rows : List R4} {H Q E} (h : SqL K H rw us) (h2 : Rws H L rw us rows) (h3 : rows.length ≤ 1000) (q : ∀ H' l ws, H l = none → Same H H' → H' l = some (.lst ws) → Prs H' ws (keysOf rows) → Q (.ref l) H') : sp_l_keys K ([.ref rw] ++ []) H Q E := ⟨L, rw, us, rows, rfl, h, h2, h3, q⟩
theorem ok_l_keys (T : Txt K mg) : FnOk P w K mg base CX0 1 T.f_l_keys T.d_l_keys ["rows"] (sp_l_keys K) := by
  refine T.F_l_keys.ok sc_l_keys (fun vs H Q E h => ?_) (fun cdv A outer s H vs Q E hr h => ?_)
  · obtain ⟨L, rw, us, rows, rfl, h, hR, hln, q⟩ := h
    rfl
  · obtain ⟨L, rw, us, rows, rfl, h, hR, hln, q⟩ := h
    have hu := hu_of hr
    refine ⟨_, (pss_cons (ps_set (i := 1) sc_l_keys.nd rfl (Or.inl rfl) (pe_lst pa_nil))
        (pss_cons (ps_for PassesOwn.never rfl (pi_list (pv 0)) (pg_name (i := 2) sc_l_keys.nd rfl (Or.inl rfl)) (pss_one (ps_if (pt_cmpR (op_notInD (units65 hr)) (pe_tup (pa_cons (pe_ix ix_tup (pv 2) pe_int (fun _ _ => rfl)) (pa_cons (pe_ix ix_tup (pv 2) pe_int (fun _ _ => rfl)) pa_nil))) (pv 1) (by with_unfolding_all rfl)) (pss_one (ps_expr (pe_bm PySem.F.plainAttrs_list PySem.F.slot_list_append PySem.F.type_list_append mt_append (pv 1) (pa_cons (pe_tup (pa_cons (pe_ix ix_tup (pv 2) pe_int (fun _ _ => rfl)) (pa_cons (pe_ix ix_tup (pv 2) pe_int (fun _ _ => rfl)) pa_nil))) pa_nil)))) pss_nil)))
        (pss_one (ps_ret (pv 1))))), ?_⟩
    dsimp only [cxOf, Cx.nox, Cx.wish, L2.start, List.map, List.cons_append, List.nil_append, List.length_cons, List.length_nil, Nat.reduceAdd, Nat.reduceSub, Nat.zero_add, List.replicate_succ, List.replicate_zero]
    walk_at "go"
    refine ⟨by decide, fun p1 n1 => ?_⟩
    walk_at "nw"
    rename_i H1 s1 k1
    walk_at "go"
    have hl0 := hR.1
    refine for_l (xs := us) (fun i σ H' => ∃ v ws, σ = [some (.ref rw), some (.ref p1), v] ∧ But p1 H1 H' ∧ H' p1 = some (.lst ws) ∧ Prs H' ws (keysOf (rows.take i))) (s1.seq h) ⟨none, [], rfl, But.refl, k1, Prs.nil⟩ (fun i σ H' _ ⟨v, ws, e, b, _⟩ => ((But.of s1 (p := p1)).trans b |>.same n1).seq h) ?turn ?done ?ev
    case ev =>
      intro R r
      walk_at "go"
      exact r
    case done =>
      rintro σ H' ⟨v, ws, rfl, b, e, hP⟩
      walk_at "go"
      rw [hl0, List.take_length] at hP
      exact q _ p1 ws n1 (((But.of s1).trans b).same n1) e hP
    case turn =>
      rintro i x σ H' hx ⟨v, ws, rfl, b, e, hP⟩
      have s01 : Same H H' := ((But.of s1).trans b).same n1
      have hi : i < rows.length := by rw [← hl0]; exact (List.getElem?_eq_some_iff.mp hx).1
      obtain ⟨y, ey, hro⟩ := hR.2 i _ (List.getElem?_eq_getElem hi)
      rw [hx] at ey
      cases ey
      obtain ⟨⟨t, o, rfl, ht0, ho0, _⟩, _⟩ := hro
      have ht := s01 _ _ ht0
      have etake := keys_take (List.getElem?_eq_getElem hi)
      generalize rows[i] = r at *
      have hlk : (keysOf (rows.take i)).length ≤ 1000 := Nat.le_trans (keys_len _) (by rw [List.length_take]; omega)
      have npt : t ≠ p1 := fun z => by rw [z, e] at ht; cases ht
      walk_at "go"
      refine g_ixT (st ht) (at_of (j := 0) rfl rfl) ?_
      walk_at "go"
      refine g_ixT (st ht) (at_of (j := 1) rfl rfl) ?_
      walk_at "go"
      refine ⟨by show 2 ≤ sizeLine; decide, fun p3 n3 => ?_⟩
      walk_at "nw"
      rename_i H3 s3 k3
      walk_at "go"
      refine g_notinP (p := r.p) k3 (sl (s3 _ _ e)) (hP.same s3) ?_
      walk_at "go"
      rw [etake, keys_snoc]
      refine g_iteN (fun c => ?_) (fun c => ?_)
      · walk_at "go"
        refine ⟨ty_l (s3 _ _ e), ?_⟩
        walk_at "go"
        refine g_ixT (st (s3 _ _ ht)) (at_of (j := 0) rfl rfl) ?_
        walk_at "go"
        refine g_ixT (st (s3 _ _ ht)) (at_of (j := 1) rfl rfl) ?_
        walk_at "go"
        refine ⟨by show 2 ≤ sizeLine; decide, fun p4 n4 => ?_⟩
        walk_at "nw"
        rename_i H4 s4 k4
        walk_at "go"
        refine g_append (s4 _ _ (s3 _ _ e)) (szl (by rw [hP.1]; omega)) ?_
        walk_at "bt"
        rename_i H5 b5 k5
        walk_at "go"
        have np4 : p4 ≠ p1 := fun z => by rw [z, s4 _ _ (s3 _ _ e)] at k4; cases k4
        rw [if_neg c]
        refine ⟨_, _, rfl, ((b.trans (But.of s3)).trans (But.of s4)).trans b5, k5, ?_⟩
        exact ((((hP.same s3).same s4).but b5 (s4 _ _ (s3 _ _ e))).app (Prs.one (b5 _ _ np4 k4)))
      · walk_at "go"
        rw [if_pos c]
        exact ⟨_, _, rfl, b.trans (But.of s3), s3 _ _ e, hP.same s3⟩
def sp_l_same_keys (K : PySem.W.Frag) (C : Addr) : Sp := fun vs H Q _ => ∃ (L : La) (rw : Addr) (us : List V) (rows : List R4), vs = [.ref L.a, .ref rw] ∧ Led C H L rows ∧ SqL K H rw us ∧ Rws H L rw us rows ∧ ∀ H', Same H H' → Q (.bl true) H'
theorem u_samek {C : Addr} {L : La} {rw : Addr} {us : List V} {rows : List R4} {H Q E} (hL : Led C H L rows) (h : SqL K H rw us) (h2 : Rws H L rw us rows) (q : ∀ H', Same H H' → Q (.bl true) H') : sp_l_same_keys K C ([.ref L.a, .ref rw] ++ []) H Q E := ⟨L, rw, us, rows, rfl, hL, h, h2, q⟩
theorem ok_l_same_keys (T : Txt K mg) : FnOk P w K mg base CX0 2 T.f_l_same_keys T.d_l_same_keys ["ledger", "rows"] (sp_l_same_keys K T.C_Ledger) := by
  refine T.F_l_same_keys.ok sc_l_same_keys (fun vs H Q E h => ?_) (fun cdv A outer s H vs Q E hr h => ?_)
  · obtain ⟨L, rw, us, rows, rfl, hL, h, hR, q⟩ := h
    rfl
  · obtain ⟨L, rw, us, rows, rfl, hL, h, hR, q⟩ := h
    have hu := hu_of hr
    refine ⟨_, (pss_cons (ps_lock (ps_setLc (i := 2) (own := [("key", 3)]) (g := gName 3) (tt := tYes) rfl sc_l_same_keys.nd rfl rfl (sw_true rfl rfl rfl (by decide +kernel)) (pi_ownKT (pv 0) T.a_Ledger_iter__ (okN_Ledger_iter__ T) (hr.mono (by decide)) T.b_Ledger_iter__) (blkOk_by (N := ["ledger", "rows", "told", "key"]) (sc := defScope s_l_same_keys) (by decide +kernel)) (fun _ _ _ _ _ => (pg_name (i := 3) sc_l_same_keys.nd rfl (Or.inl rfl))) (fun _ _ _ _ _ => pts_nil) (fun _ _ _ _ _ => (pv 3))))
        (pss_cons (ps_for PassesOwn.never rfl (pi_list (pv 2)) (pg_name (i := 3) sc_l_same_keys.nd rfl (Or.inl rfl)) (pss_one (ps_if (pt_not (pt_val (pe_callB call_isi (by rfl) T.n_isinstance (by decide +kernel) (pa_cons (pv 3) (pa_cons (pe_bltn (v := .ty "tuple") (by rfl) T.n_tuple (by decide +kernel) rfl) pa_nil))))) (pss_one (ps_ret pe_bl)) pss_nil)))
        (pss_one (ps_ret (pe_cmpR (op_eqD hr.units) (pv 2) (pe_call (ok_l_keys T) (hr.mono (by decide)) rfl T.m_l_keys T.F_l_keys.kp T.b_l_keys .nil pass0 (pa_cons (pv 1) pa_nil)) (nomark _)))))), ?_⟩
    dsimp only [cxOf, Cx.nox, Cx.wish, L2.start, List.map, List.cons_append, List.nil_append, List.length_cons, List.length_nil, Nat.reduceAdd, Nat.reduceSub, Nat.zero_add, List.replicate_succ, List.replicate_zero]
    obtain ⟨dx, ho⟩ := hL.o
    walk_at "go"
    refine g_lock hL.n trivial fun od => ?_
    walk_at "go"
    generalize zF : upd H L.nd _ = HF
    have bF : But L.nd H HF := by rw [← zF]; exact But.refl.upd
    have kF := (congrFun zF L.nd).symm.trans upd_same
    clear zF
    have hoF := bF _ _ (ne_ins_dT ho hL.n) ho
    have hkl := Nat.le_trans (keys_len rows) hL.ln
    refine g_iOwnKT ?_
    walk_at "go"
    refine ⟨L.a, dx, _, rfl, hoF, fun n => ⟨L.a, dx, L.nd, L.wd, L.rd, L.fd, od, _, rfl, hoF, kF, fun it ep es n1 n2 hd => ⟨it, L.nd, od, _, ep, es, rfl, n2, upd_same, by rw [upd_ne (ne_of_none kF n1)]; exact kF, hd, ?_⟩⟩⟩
    rw [drop_upd n1]
    intro D hD
    have ndD : L.nd ≠ D := ne_of_none kF hD
    refine lc_it walk_keysT (fun i H' => ∃ ws, H' D = some (.lst ws) ∧ But D HF H' ∧ Prs H' ws ((keysOf rows).take i)) ⟨[], upd_same, But.refl.upd, Prs.nil⟩ (fun i H' _ ⟨ws, _, b, _⟩ => b _ _ ndD kF) ?turn ?done
    case turn =>
      rintro i x H1 H2 hi ⟨ws, e, b, hP⟩ ⟨rfl, k, v, q0, hk, rfl, hq0⟩
      refine ⟨rfl, ?_⟩
      walk_at "go"
      rw [tru_len] at hi
      have hkk : k = Kk ((keysOf rows)[i]) := by
        unfold tru at hk
        rw [List.getElem?_map, List.getElem?_eq_getElem hi] at hk
        cases hk
        rfl
      subst hkk
      refine ⟨ws, e, szl (by rw [hP.1, List.length_take]; omega), ws ++ [V.ref q0], upd_same, b.upd, ?_⟩
      have nq : q0 ≠ D := fun z => by rw [z, e] at hq0; cases hq0
      rw [List.take_succ, List.getElem?_eq_getElem hi]
      exact (hP.but (But.refl (p := D)).upd e).app (Prs.one ((But.refl (p := D)).upd _ _ nq hq0))
    case done =>
      rintro H3 ⟨ws, e, b, hP⟩
      rw [tru_len, List.take_length] at hP
      walk_at "go"
      refine ⟨b _ _ ndD kF, ?_⟩
      generalize z4 : upd H3 L.nd _ = H4
      have b4 : But L.nd H3 H4 := by rw [← z4]; exact But.refl.upd
      have k4 := (congrFun z4 L.nd).symm.trans upd_same
      clear z4
      have hDn : H D = none := But.free bF ndD.symm hD
      have s04 : Same H H4 := by
        intro c u hc
        by_cases z : c = L.nd
        · subst z
          rw [hL.n] at hc
          cases hc
          exact k4
        · exact b4 _ _ z (b _ _ (ne_of_none hc hDn) (bF _ _ z hc))
      have e4 := b4 _ _ ndD.symm e
      have hP4 : Prs H4 ws (keysOf rows) := ⟨hP.1, fun i p ep => by
        obtain ⟨t, e1, e2⟩ := hP.2 i p ep
        exact ⟨t, e1, b4 _ _ (fun z => by rw [z, b _ _ ndD kF] at e2; cases e2) e2⟩⟩
      walk_at "go"
      refine for_l (xs := ws) (fun i σ H' => H' = H4 ∧ ∃ v, σ = [some (.ref L.a), some (.ref rw), some (.ref D), v]) (sl e4) ⟨rfl, none, rfl⟩ (fun i σ H' _ ⟨e, _⟩ => by rw [e]; exact sl e4) ?turn2 ?done2 ?ev2
      case ev2 =>
        intro R r
        walk_at "go"
        exact r
      case done2 =>
        rintro σ H' ⟨rfl, v, rfl⟩
        walk_at "go"
        refine u_keys (s04.seq h) (hR.same s04) hL.ln fun H5 l ws5 nl s5 k5 hP5 => ?_
        walk_at "go"
        refine g_eqPL (sl (s5 _ _ e4)) (hP4.same s5) (sl k5) hP5 ?_
        rw [decide_eq_true rfl]
        exact q _ (s04.trans s5)
      case turn2 =>
        rintro i x σ H' hx ⟨rfl, v, rfl⟩
        have hi : i < (keysOf rows).length := by rw [← hP4.1]; exact (List.getElem?_eq_some_iff.mp hx).1
        obtain ⟨t, e1, e2⟩ := hP4.2 i _ (List.getElem?_eq_getElem hi)
        rw [hx] at e1
        cases e1
        walk_at "go"
        refine g_isiU e2 ?_
        walk_at "go"
        exact ⟨rfl, _, rfl⟩
def sp_l_holds (K : PySem.W.Frag) (C : Addr) : Sp := fun vs H Q _ => ∃ (L : La) (rw : Addr) (us : List V) (rows : List R4) (h s : Int), vs = [.ref L.a, .int h, .int s, .ref rw] ∧ Led C H L rows ∧ SqL K H rw us ∧ Rws H L rw us rows ∧ ∀ H', Same H H' → Q (.bl true) H'
theorem u_holds {C : Addr} {L : La} {rw : Addr} {us : List V} {rows : List R4} {h s : Int} {H Q E} (hL : Led C H L rows) (h1 : SqL K H rw us) (h2 : Rws H L rw us rows) (q : ∀ H', Same H H' → Q (.bl true) H') : sp_l_holds K C ([.ref L.a, .int h, .int s, .ref rw] ++ []) H Q E := ⟨L, rw, us, rows, h, s, rfl, hL, h1, h2, q⟩
theorem ok_l_holds (T : Txt K mg) : FnOk P w K mg base CX0 3 T.f_l_holds T.d_l_holds ["ledger", "host", "socket", "rows"] (sp_l_holds K T.C_Ledger) := by
  refine T.F_l_holds.ok sc_l_holds (fun vs H Q E h => ?_) (fun cdv A outer s H vs Q E hr h => ?_)
  · obtain ⟨L, rw, us, rows, h, s, rfl, hL, hS, hR, q⟩ := h
    rfl
  · obtain ⟨L, rw, us, rows, h, s, rfl, hL, hS, hR, q⟩ := h
    have hu := hu_of hr
    refine ⟨_, (pss_cons (ps_set (i := 4) sc_l_holds.nd rfl (Or.inl rfl) (pe_lst pa_nil))
        (pss_cons (ps_set (i := 5) sc_l_holds.nd rfl (Or.inl rfl) (pe_lst pa_nil))
        (pss_cons (ps_set (i := 6) sc_l_holds.nd rfl (Or.inl rfl) pe_bl)
        (pss_cons (ps_for PassesOwn.never rfl (pi_list (pv 3)) (pg_name (i := 7) sc_l_holds.nd rfl (Or.inl rfl)) (pss_one (ps_if (PW.pt (pw_and (pt_cmpR op_eq (pe_ix ix_tup (pv 7) pe_int (fun _ _ => rfl)) (pv 1) (nomark _)) (pw_and1 (pt_cmpR op_eq (pe_ix ix_tup (pv 7) pe_int (fun _ _ => rfl)) (pv 2) (nomark _))))) (pss_one (ps_if (pt_cmpR op_eq (pe_ix ix_tup (pv 7) pe_int (fun _ _ => rfl)) pe_int (nomark _)) (pss_one (ps_set (i := 4) sc_l_holds.nd rfl (Or.inl rfl) (pe_op op_cat (pv 4) (pe_ix ix_tup (pv 7) pe_int (fun _ _ => rfl))))) (pss_one (ps_if (pt_cmpR op_eq (pe_ix ix_tup (pv 7) pe_int (fun _ _ => rfl)) pe_int (nomark _)) (pss_one (ps_set (i := 5) sc_l_holds.nd rfl (Or.inl rfl) (pe_op op_cat (pv 5) (pe_ix ix_tup (pv 7) pe_int (fun _ _ => rfl))))) (pss_one (ps_set (i := 6) sc_l_holds.nd rfl (Or.inl rfl) pe_bl)))))) pss_nil)))
        (pss_cons (ps_set (i := 8) sc_l_holds.nd rfl (Or.inl rfl) (pe_meth (pv 0) T.k_Ledger T.a_Ledger_written (ok_Ledger_written T) (hr.mono (by decide)) T.b_Ledger_written .nil pass0 (pa_cons (pv 1) (pa_cons (pv 2) pa_nil))))
        (pss_cons (ps_if (PW.pt (pw_or (pt_cmpR (op_neD hr.units) (pe_call (ok_l_octets T) (hr.mono (by decide)) rfl T.m_l_octets T.F_l_octets.kp T.b_l_octets .nil pass0 (pa_cons (pv 8) pa_nil)) (pv 4) (nomark _)) (pw_or1 (pt_cmpR (op_neD hr.units) (pe_call (ok_l_octets T) (hr.mono (by decide)) rfl T.m_l_octets T.F_l_octets.kp T.b_l_octets .nil pass0 (pa_cons (pe_meth (pv 0) T.k_Ledger T.a_Ledger_was_read (ok_Ledger_was_read T) (hr.mono (by decide)) T.b_Ledger_was_read .nil pass0 (pa_cons (pv 1) (pa_cons (pv 2) pa_nil))) pa_nil)) (pv 5) (nomark _))))) (pss_one (ps_ret pe_bl)) pss_nil)
        (pss_cons (ps_expr (pe_bm PySem.F.plainAttrs_list PySem.F.slot_list_append PySem.F.type_list_append mt_append (pv 8) (pa_cons pe_int pa_nil)))
        (pss_cons (ps_set (i := 9) sc_l_holds.nd rfl (Or.inl rfl) (pe_meth (pv 0) T.k_Ledger T.a_Ledger_was_read (ok_Ledger_was_read T) (hr.mono (by decide)) T.b_Ledger_was_read .nil pass0 (pa_cons (pv 1) (pa_cons (pv 2) pa_nil))))
        (pss_cons (ps_expr (pe_bm PySem.F.plainAttrs_list PySem.F.slot_list_append PySem.F.type_list_append mt_append (pv 9) (pa_cons pe_int pa_nil)))
        (pss_cons (ps_if (PW.pt (pw_or (pt_cmpR (op_neD hr.units) (pe_call (ok_l_octets T) (hr.mono (by decide)) rfl T.m_l_octets T.F_l_octets.kp T.b_l_octets .nil pass0 (pa_cons (pe_meth (pv 0) T.k_Ledger T.a_Ledger_written (ok_Ledger_written T) (hr.mono (by decide)) T.b_Ledger_written .nil pass0 (pa_cons (pv 1) (pa_cons (pv 2) pa_nil))) pa_nil)) (pv 4) (nomark _)) (pw_or1 (pt_cmpR (op_neD hr.units) (pe_call (ok_l_octets T) (hr.mono (by decide)) rfl T.m_l_octets T.F_l_octets.kp T.b_l_octets .nil pass0 (pa_cons (pe_meth (pv 0) T.k_Ledger T.a_Ledger_was_read (ok_Ledger_was_read T) (hr.mono (by decide)) T.b_Ledger_was_read .nil pass0 (pa_cons (pv 1) (pa_cons (pv 2) pa_nil))) pa_nil)) (pv 5) (nomark _))))) (pss_one (ps_ret pe_bl)) pss_nil)
        (pss_cons (ps_set (i := 10) sc_l_holds.nd rfl (Or.inl rfl) (pe_meth (pv 0) T.k_Ledger T.a_Ledger_has_finished (ok_Ledger_has_finished T) (hr.mono (by decide)) T.b_Ledger_has_finished .nil pass0 (pa_cons (pv 1) (pa_cons (pv 2) pa_nil))))
        (pss_one (ps_ret (pe_and (pe_callB call_isi (by rfl) T.n_isinstance (by decide +kernel) (pa_cons (pv 10) (pa_cons (pe_bltn (v := .ty "bool") (by rfl) T.n_bool (by decide +kernel) rfl) pa_nil))) (pe_one (pe_cmpR op_eq (pv 10) (pv 6) (nomark _))))))))))))))))), ?_⟩
    dsimp only [cxOf, Cx.nox, Cx.wish, L2.start, List.map, List.cons_append, List.nil_append, List.length_cons, List.length_nil, Nat.reduceAdd, Nat.reduceSub, Nat.zero_add, List.replicate_succ, List.replicate_zero]
    obtain ⟨dx, ho⟩ := hL.o
    walk_at "go"
    refine ⟨by decide, fun pw nw => ?_⟩
    walk_at "nw"
    rename_i H1 s1 k1
    walk_at "go"
    refine ⟨by decide, fun pg ng => ?_⟩
    walk_at "nw"
    rename_i H2 s2 k2
    walk_at "go"
    have s02 := s1.trans s2
    have hl0 := hR.1
    have hln := hL.ln
    have hol : ∀ k i, (octs k (rows.take i) (h, s)).length ≤ 4000 := fun k i => by
      have := octs_len k (h, s) (rows.take i) fun r hr => hL.o4 r (List.mem_of_mem_take hr)
      rw [List.length_take] at this
      omega
    refine for_l (xs := us) (fun i σ H' => ∃ (qw qg : Addr) (v : Option V), σ = [some (.ref L.a), some (.int h), some (.int s), some (.ref rw), some (.ref qw), some (.ref qg), some (.bl (ends (rows.take i) (h, s))), v, none, none, none] ∧ Same H2 H' ∧
      H' qw = some (.lst ((octs 0 (rows.take i) (h, s)).map V.int)) ∧ H' qg = some (.lst ((octs 1 (rows.take i) (h, s)).map V.int))) (s02.seq hS) ⟨pw, pg, none, rfl, fun b o e => e, s2 _ _ k1, k2⟩ (fun i σ H' _ ⟨qw, qg, v, _, b, _⟩ => (s02.trans b).seq hS) ?turn ?done ?ev
    case ev =>
      intro R r
      walk_at "go"
      exact r
    case done =>
      rintro σ H3 ⟨qw, qg, v, rfl, s3, e1, e2⟩
      rw [hl0, List.take_length] at e1 e2
      rw [hl0, List.take_length]
      have s03 := s02.trans s3
      have hL3 := hL.same s03
      have ho3 := s03 _ _ ho
      walk_at "go"
      refine u_written hL3 fun H4 l nl s4 k4 => ?_
      walk_at "go"
      refine u_octets k4 fun H5 l5 nl5 s5 k5 => ?_
      walk_at "go"
      refine g_neL (sl k5) (sl (s5 _ _ (s4 _ _ e1))) ?_
      walk_at "go"
      refine ⟨L.a, dx, _, rfl, s5 _ _ (s4 _ _ ho3), rfl, ?_⟩
      walk_at "go"
      refine u_was_read (hL3.same (s4.trans s5)) fun H6 l6 nl6 s6 k6 => ?_
      walk_at "go"
      refine u_octets k6 fun H7 l7 nl7 s7 k7 => ?_
      have s47 := (s4.trans s5).trans (s6.trans s7)
      walk_at "go"
      refine g_neL (sl k7) (sl (s47 _ _ e2)) ?_
      walk_at "go"
      have kl7 := (s5.trans (s6.trans s7)) _ _ k4
      have ho7 := s47 _ _ ho3
      have ol0 := hol 0 rows.length
      have ol1 := hol 1 rows.length
      rw [List.take_length] at ol0 ol1
      walk_at "go"
      refine ⟨ty_l kl7, ?_⟩
      walk_at "go"
      refine g_append kl7 (by rw [List.length_map]; exact szl (by omega)) ?_
      generalize z8 : upd H7 l _ = H8
      have b8 : But l H7 H8 := by rw [← z8]; exact But.refl.upd
      clear z8
      -- the ledger's own parts are as before: l is new
      have s38 : Same H3 H8 := fun b o e => b8 _ _ (ne_of_none e nl) (s47 _ _ e)
      have ho8 := s38 _ _ ho3
      have hL8 := hL3.same s38
      walk_at "go"
      refine u_was_read hL8 fun H9 l9 nl9 s9 k9 => ?_
      walk_at "go"
      refine ⟨ty_l k9, ?_⟩
      walk_at "go"
      refine g_append k9 (by rw [List.length_map]; exact szl (by omega)) ?_
      generalize z10 : upd H9 l9 _ = H10
      have s810 : Same H8 H10 := by rw [← z10]; exact fun b o e => (But.refl (p := l9) (H := H9)).upd b o (ne_of_none e nl9) (s9 _ _ e)
      clear z10
      have s310 := s38.trans s810
      have ho10 := s310 _ _ ho3
      have hL10 := hL3.same s310
      walk_at "go"
      refine u_written hL10 fun H11 l11 nl11 s11 k11 => ?_
      walk_at "go"
      refine u_octets k11 fun H12 l12 nl12 s12 k12 => ?_
      have s312 := s310.trans (s11.trans s12)
      walk_at "go"
      refine g_neL (sl k12) (sl (s312 _ _ e1)) ?_
      walk_at "go"
      have ho12 := s312 _ _ ho3
      walk_at "go"
      refine u_was_read (hL3.same s312) fun H13 l13 nl13 s13 k13 => ?_
      walk_at "go"
      refine u_octets k13 fun H14 l14 nl14 s14 k14 => ?_
      have s314 := s312.trans (s13.trans s14)
      walk_at "go"
      refine g_neL (sl k14) (sl (s314 _ _ e2)) ?_
      walk_at "go"
      have ho14 := s314 _ _ ho3
      walk_at "go"
      refine u_hasfin (hL3.same s314) fun H15 s15 => ?_
      walk_at "go"
      refine g_rEq rfl ?_
      rw [decide_eq_true rfl]
      exact q _ (s03.trans (s314.trans s15))
    case turn =>
      rintro i x σ H3 hx ⟨qw, qg, v, rfl, s3, e1, e2⟩
      have s03 := s02.trans s3
      have hi : i < rows.length := by rw [← hl0]; exact (List.getElem?_eq_some_iff.mp hx).1
      obtain ⟨y, ey, hro⟩ := hR.2 i _ (List.getElem?_eq_getElem hi)
      rw [hx] at ey
      cases ey
      obtain ⟨⟨t, o, rfl, ht0, hoo0, _⟩, hk⟩ := hro
      have ht := s03 _ _ ht0
      have hoo := s03 _ _ hoo0
      have etake := keys_take (List.getElem?_eq_getElem hi)
      have h4 := hL.o4 _ (List.getElem_mem hi)
      generalize rows[i] = r at *
      have l0 := hol 0 i
      have l1 := hol 1 i
      rw [etake, octs_snoc, octs_snoc, ends_snoc]
      generalize octs 0 (rows.take i) (h, s) = xs at *
      generalize octs 1 (rows.take i) (h, s) = ys at *
      generalize ends (rows.take i) (h, s) = b at *
      walk_at "go"
      refine g_ixT (st ht) (at_of (j := 0) rfl rfl) ?_
      walk_at "go"
      refine g_ite (fun c1 => ?_) (fun c1 => ?_)
      · walk_at "go"
        refine g_ixT (st ht) (at_of (j := 1) rfl rfl) ?_
        walk_at "go"
        refine g_ite (fun c2 => ?_) (fun c2 => ?_)
        · have hp : r.p = (h, s) := by unfold R4.p; rw [c1, c2]
          walk_at "go"
          refine g_ixT (st ht) (at_of (j := 2) rfl rfl) ?_
          walk_at "go"
          refine g_ite (fun c3 => ?_) (fun c3 => ?_)
          · walk_at "go"
            refine g_ixT (st ht) (at_of (j := 3) rfl rfl) ?_
            walk_at "go"
            refine g_cat e1 hoo (by rw [List.length_map, List.length_map]; exact sz (by omega)) fun l nl => ?_
            walk_at "go"
            rw [← List.map_append]
            refine ⟨l, qg, some (.ref t), ?_, s3.trans (same_upd nl), ?_, ?_⟩
            · rw [show (decide (r.k = 2)) = false from decide_eq_false (by omega), Bool.and_false, Bool.or_false]
            · rw [if_pos ⟨hp, c3⟩]
              exact upd_same
            · rw [if_neg (fun z => absurd (c3.symm.trans z.2) (by decide)), List.append_nil]
              exact (same_upd nl) _ _ e2
          · walk_at "go"
            refine g_ixT (st ht) (at_of (j := 2) rfl rfl) ?_
            walk_at "go"
            refine g_ite (fun c4 => ?_) (fun c4 => ?_)
            · walk_at "go"
              refine g_ixT (st ht) (at_of (j := 3) rfl rfl) ?_
              walk_at "go"
              refine g_cat e2 hoo (by rw [List.length_map, List.length_map]; exact sz (by omega)) fun l nl => ?_
              walk_at "go"
              rw [← List.map_append]
              refine ⟨qw, l, some (.ref t), ?_, s3.trans (same_upd nl), ?_, ?_⟩
              · rw [show (decide (r.k = 2)) = false from decide_eq_false (by omega), Bool.and_false, Bool.or_false]
              · rw [if_neg (fun z => c3 z.2), List.append_nil]
                exact (same_upd nl) _ _ e1
              · rw [if_pos ⟨hp, c4⟩]
                exact upd_same
            · have c5 : r.k = 2 := by omega
              walk_at "go"
              refine ⟨qw, qg, some (.ref t), ?_, s3, ?_, ?_⟩
              · rw [decide_eq_true c5, decide_eq_true hp, Bool.and_true, Bool.or_true]
              · rw [if_neg (fun z => c3 z.2), List.append_nil]
                exact e1
              · rw [if_neg (fun z => c4 z.2), List.append_nil]
                exact e2
        · have hp : ¬ r.p = (h, s) := fun z => c2 (congrArg Prod.snd z)
          walk_at "go"
          refine ⟨qw, qg, some (.ref t), ?_, s3, ?_, ?_⟩
          · rw [decide_eq_false hp, Bool.false_and, Bool.or_false]
          · rw [if_neg (fun z => hp z.1), List.append_nil]
            exact e1
          · rw [if_neg (fun z => hp z.1), List.append_nil]
            exact e2
      · have hp : ¬ r.p = (h, s) := fun z => c1 (congrArg Prod.fst z)
        walk_at "go"
        refine ⟨qw, qg, some (.ref t), ?_, s3, ?_, ?_⟩
        · rw [decide_eq_false hp, Bool.false_and, Bool.or_false]
        · rw [if_neg (fun z => hp z.1), List.append_nil]
          exact e1
        · rw [if_neg (fun z => hp z.1), List.append_nil]
          exact e2

end
end My
namespace My
open PySem PySem.Spec L2
local macro_rules | `(tactic| walk_at "side") => `(tactic| first | assumption | decide | omega | exact ⟨by decide, by decide⟩ | exact ⟨by decide, by decide, by decide⟩ | decide +kernel | exact cdivW (by decide +kernel) (by decide +kernel) | exact Or.inl ⟨by omega, by omega⟩ | exact Or.inr ⟨by omega, by omega⟩ | (simp only [List.length_map, List.length_cons, List.length_nil, List.length_append]; omega))
local macro_rules | `(tactic| walk_at "fact") => `(tactic| first | assumption | omega | with_reducible rfl)
local macro_rules | `(tactic| walk_at "use") => `(tactic| fail "use")
local macro_rules | `(tactic| walk_at "go1") => `(tactic| with_reducible first | refine g_seq ?_ | refine g_asg ?_ | refine g_ret ?_ | refine g_ifS ?_ | refine g_drop ?_ | refine g_star ?_ | refine g_nx ?_ | refine g_rt ?_ | refine g_bkE ?_ | refine g_ctE ?_ | refine g_next ?_ | refine g_retN ?_ | refine g_brk ?_ | refine g_ct ?_ | refine g_c ?_ | refine g_op ?_ | refine g_un ?_ | refine g_rI0 ?_ | refine g_rU ?_ | refine g_rEqI ?_ | refine g_rNeI ?_ | refine g_isN ?_ | refine g_rIsB ?_ | refine g_rNotB ?_ | refine g_test ?_ | refine g_B ?_ | refine g_bl ?_ | refine g_and ?_ | refine g_or ?_ | refine g_not ?_ | refine g_andV ?_ | refine g_orV ?_ | refine g_notV ?_ | refine g_if ?_ | refine g_chain ?_ | refine g_yes ?_ | refine g_lc ?_ | refine g_revR ?_ | refine g_rng1 ?_ | refine g_iList ?_ | refine g_nil ?_ | refine g_cons ?_ | refine g_tup ?_ | refine g_lst ?_ | refine g_call ?_ | refine g_CB ?_ | refine g_sl ?_ | refine g_noPart ?_ | refine g_part ?_ | refine g_intE ?_ | refine g_ref ?_ | refine g_fld ?_ | refine g_sfld ?_ | refine g_meth ?_ | refine g_make ?_ | refine g_prop ?_  | refine g_ipI ?_ | refine g_int1 ?_ | refine g_int1B ?_ | refine g_one ?_ | refine g_two ?_ | refine g_isiI ?_ | refine g_isiIB ?_ | refine g_isiB ?_ | refine g_BM ?_ | refine g_BM0 ?_ | refine g_sub ?_)
local macro_rules | `(tactic| walk_at "go") => `(tactic| repeat (first | walk_at "go1" | ((with_reducible refine' g_nameE ?sd_ ?_); case sd_ => dsimp only [List.set_cons_succ, List.set_cons_zero]) | ((with_reducible refine' g_var ?sd_ ?_); case sd_ => exact rfl) | ((with_reducible refine' g_aug ?sd_ ?_); case sd_ => exact rfl) | ((with_reducible refine' g_rI ?sd_ ?_); case sd_ => walk_at "side") | ((with_reducible refine' g_dT ?sd_ ?_); case sd_ => walk_at "fact") | ((with_reducible refine' g_dF ?sd_ ?_); case sd_ => walk_at "fact") | ((with_reducible refine' g_nT ?sd_ ?_); case sd_ => walk_at "fact") | ((with_reducible refine' g_nF ?sd_ ?_); case sd_ => walk_at "fact") | (with_reducible refine g_iT rfl ?_) | (with_reducible refine g_iF rfl ?_) | walk_at "use"))
local macro_rules | `(tactic| walk_at "nw") => `(tactic| (generalize zq : upd _ _ _ = Hq; have sq : Same _ Hq := (by rw [← zq]; exact same_upd (by assumption)); have kq := (congrFun zq _).symm.trans upd_same; clear zq))
local macro_rules | `(tactic| walk_at "bt") => `(tactic| (generalize zq : upd _ _ _ = Hq; have bq : But _ _ Hq := (by rw [← zq]; exact But.refl.upd); have kq := (congrFun zq _).symm.trans upd_same; clear zq))
local macro_rules | `(tactic| walk_at "use") => `(tactic| first | ((with_reducible refine' fd_Ledger__noted ?ho_ ?hv_ ?_); (case ho_ => first | assumption | exact upd_same); (case hv_ => exact rfl)) | ((with_reducible refine' fd_Ledger__written ?ho_ ?hv_ ?_); (case ho_ => first | assumption | exact upd_same); (case hv_ => exact rfl)) | ((with_reducible refine' fd_Ledger__was_read ?ho_ ?hv_ ?_); (case ho_ => first | assumption | exact upd_same); (case hv_ => exact rfl)) | ((with_reducible refine' fd_Ledger__finished ?ho_ ?hv_ ?_); (case ho_ => first | assumption | exact upd_same); (case hv_ => exact rfl)) | ((with_reducible refine' nw_Ledger__noted ?ho_ ?hv_ ?_); (case ho_ => first | assumption | exact upd_same); (case hv_ => exact rfl)) | ((with_reducible refine' nw_Ledger__written ?ho_ ?hv_ ?_); (case ho_ => first | assumption | exact upd_same); (case hv_ => exact rfl)) | ((with_reducible refine' nw_Ledger__was_read ?ho_ ?hv_ ?_); (case ho_ => first | assumption | exact upd_same); (case hv_ => exact rfl)) | ((with_reducible refine' nw_Ledger__finished ?ho_ ?hv_ ?_); (case ho_ => first | assumption | exact upd_same); (case hv_ => exact rfl)) | ((with_reducible refine' st_Ledger__noted ?ho_ ?hv_ ?_); (case ho_ => first | assumption | exact upd_same); (case hv_ => exact Nat.le_of_ble_eq_true rfl)) | ((with_reducible refine' st_Ledger__written ?ho_ ?hv_ ?_); (case ho_ => first | assumption | exact upd_same); (case hv_ => exact Nat.le_of_ble_eq_true rfl)) | ((with_reducible refine' st_Ledger__was_read ?ho_ ?hv_ ?_); (case ho_ => first | assumption | exact upd_same); (case hv_ => exact Nat.le_of_ble_eq_true rfl)) | ((with_reducible refine' st_Ledger__finished ?ho_ ?hv_ ?_); (case ho_ => first | assumption | exact upd_same); (case hv_ => exact Nat.le_of_ble_eq_true rfl)) | ((with_reducible refine' me_Ledger_note_write ?ho_ ?_); (case ho_ => first | assumption | exact upd_same)) | ((with_reducible refine' me_Ledger_note_read ?ho_ ?_); (case ho_ => first | assumption | exact upd_same)) | ((with_reducible refine' me_Ledger_note_finish ?ho_ ?_); (case ho_ => first | assumption | exact upd_same)) | ((with_reducible refine' me_Ledger_written ?ho_ ?_); (case ho_ => first | assumption | exact upd_same)) | ((with_reducible refine' me_Ledger_was_read ?ho_ ?_); (case ho_ => first | assumption | exact upd_same)) | ((with_reducible refine' me_Ledger_has_finished ?ho_ ?_); (case ho_ => first | assumption | exact upd_same)) | ((with_reducible refine' me_Ledger_iter__ ?ho_ ?_); (case ho_ => first | assumption | exact upd_same)))
section
variable {P : Program} {w : World} {K : PySem.W.Frag} {mg : Str → Option Value} {base : Heap}
local macro_rules | `(tactic| walk_at "use") => `(tactic| with_reducible first | refine u_cell (by assumption) (by omega) ?_ | refine g_dputL ?_)
theorem v_holds {C : Addr} {L : La} {rw la : Addr} {us : List V} {rows : List R4} {h s : Int} {H Q E} (e : L.a = la) (hL : Led C H L rows) (h1 : SqL K H rw us) (h2 : Rws H L rw us rows) (q : ∀ H', Same H H' → Q (.bl true) H') : sp_l_holds K C ([.ref la, .int h, .int s, .ref rw] ++ []) H Q E := by
  subst e
  exact u_holds hL h1 h2 q
theorem v_samek {C : Addr} {L : La} {rw la : Addr} {us : List V} {rows : List R4} {H Q E} (e : L.a = la) (hL : Led C H L rows) (h : SqL K H rw us) (h2 : Rws H L rw us rows) (q : ∀ H', Same H H' → Q (.bl true) H') : sp_l_same_keys K C ([.ref la, .ref rw] ++ []) H Q E := by
  subst e
  exact u_samek hL h h2 q
/-- the script is kept -/
def Scr (K : PySem.W.Frag) (H : Hp) (L : La) (rw a : Addr) (xs : List V) : Prop := (∀ H', SqL K H' a xs) ∨ (∃ u, H a = some u) ∧ SqL K H a xs ∧ a ∉ L.fp ∧ a ≠ rw
theorem Scr.sq {H : Hp} {L : La} {rw a : Addr} {xs : List V} (h : Scr K H L rw a xs) : SqL K H a xs := h.elim (fun z => z H) fun z => z.2.1
theorem sq_or {H : Hp} {a : Addr} {xs : List V} (h : SqL K H a xs) : (∀ H', SqL K H' a xs) ∨ (∃ u, H a = some u) ∧ SqL K H a xs := by
  rcases id h with (e | ⟨o, e⟩) | e
  · exact .inr ⟨⟨_, e⟩, h⟩
  · exact .inr ⟨⟨_, e⟩, h⟩
  · exact .inl fun H' => .inr e
theorem sq_fr {H H' : Hp} {a : Addr} {xs : List V} (h : SqL K H a xs) (s : ∀ u, H a = some u → H' a = some u) : SqL K H' a xs := by
  rcases h with (e | ⟨o, e⟩) | e
  · exact .inl (.inl (s _ e))
  · exact .inl (.inr ⟨o, s _ e⟩)
  · exact .inr e
theorem Scr.same {H H' : Hp} {L : La} {rw a : Addr} {xs : List V} (h : Scr K H L rw a xs) (s : Same H H') : Scr K H' L rw a xs := by
  rcases h with h | ⟨⟨u, h1⟩, h2, h3, h4⟩
  · exact .inl h
  · exact .inr ⟨⟨u, s _ _ h1⟩, sq_fr h2 (s a), h3, h4⟩
theorem Scr.step {H H' : Hp} {L L' : La} {rw a : Addr} {xs : List V} (h : Scr K H L rw a xs) (s : Step H L H' L') : Scr K H' L' rw a xs := by
  rcases h with h | ⟨⟨u, h1⟩, h2, h3, h4⟩
  · exact .inl h
  · refine .inr ⟨⟨u, s.fr _ _ h1 h3⟩, sq_fr h2 (fun v hv => s.fr _ _ hv h3), fun z => ?_, h4⟩
    rcases s.fp _ z with y | y
    · exact h3 y
    · rw [h1] at y; cases y
theorem Scr.but {H H' : Hp} {L : La} {rw a : Addr} {xs : List V} (h : Scr K H L rw a xs) (b : But rw H H') : Scr K H' L rw a xs := by
  rcases h with h | ⟨⟨u, h1⟩, h2, h3, h4⟩
  · exact .inl h
  · exact .inr ⟨⟨u, b _ _ h4 h1⟩, sq_fr h2 (fun v hv => b _ _ h4 hv), h3, h4⟩
structure LI (K : PySem.W.Frag) (C : Addr) (H : Hp) (L : La) (rw a : Addr) (us : List V) (rows : List R4) (xs : List V) : Prop where
  led : Led C H L rows
  r : H rw = some (.lst us)
  rs : Rws H L rw us rows
  nr : rw ∉ L.fp
  sc : Scr K H L rw a xs
theorem LI.same {C : Addr} {H H' : Hp} {L : La} {rw a : Addr} {us : List V} {rows : List R4} {xs : List V} (h : LI K C H L rw a us rows xs) (s : Same H H') : LI K C H' L rw a us rows xs := ⟨h.led.same s, s _ _ h.r, h.rs.same s, h.nr, h.sc.same s⟩
/-- a turn: a note, a list changed that the note was given, a row more -/
theorem LI.turn {C : Addr} {H H5 H6 H7 H8 H9 : Hp} {L L' : La} {rw a gl D t : Addr} {us gs : List V} {rows : List R4} {xs : List V} {r : R4} (h : LI K C H L rw a us rows xs) (s5 : Same H H5) (hD : H D = none) (hg : H gl = none) (nDg : D ≠ gl)
    (kD : H5 D = some (.lst (r.o.map V.int))) (kg : H5 gl = some (.lst gs)) (st : Step H5 L H6 L') (l6 : Led C H6 L' (rows ++ [r])) (b7 : But gl H6 H7) (s8 : Same H7 H8) (n8 : H7 t = none) (k8 : H8 t = some (.tup [.int r.h, .int r.s, .int r.k, .ref D]))
    (b9 : But rw H8 H9) (k9 : H9 rw = some (.lst (us ++ [.ref t]))) (kk : r.k = 0 ∨ r.k = 1 ∨ r.k = 2) : LI K C H9 L' rw a (us ++ [.ref t]) (rows ++ [r]) xs := by
  have notin : ∀ b, H b = none → b ∉ L.fp := fun b e z => h.led.fpn z e
  have nin : ∀ b u, H5 b = some u → H b = none → b ∉ L'.fp := fun b u e e0 z => by
    rcases st.fp _ z with y | y
    · exact notin b e0 y
    · rw [e] at y; cases y
  have ngl : gl ∉ L'.fp := nin gl _ kg hg
  have g6 := st.fr _ _ kg (notin gl hg)
  have s07 : Step H L H7 L' := by
    refine ⟨st.a, fun b u e nb => ?_, fun b hb => ?_⟩
    · exact b7 _ _ (ne_of_none e hg) (st.fr _ _ (s5 _ _ e) nb)
    · rcases st.fp b hb with y | y
      · exact .inl y
      · exact .inr (Same.free s5 y)
  have l7 : Led C H7 L' (rows ++ [r]) := l6.but b7 g6 ngl
  have r7 := s07.fr _ _ h.r h.nr
  have nr' : rw ∉ L'.fp := fun z => by
    rcases s07.fp _ z with y | y
    · exact h.nr y
    · rw [h.r] at y; cases y
  have r8 := s8 _ _ r7
  have D7 : H7 D = some (.lst (r.o.map V.int)) := b7 _ _ nDg (st.fr _ _ kD (notin D hD))
  have nDr : D ≠ rw := (ne_of_none h.r hD).symm
  refine ⟨(l7.same s8).but b9 r8 nr', k9, (((h.rs.step s07).same s8).but b9 r8).snoc ⟨⟨t, D, rfl, ?_, ?_, ?_, ?_, nDr⟩, kk⟩, nr', ((h.sc.step s07).same s8).but b9⟩
  · exact b9 _ _ (fun z => by rw [z, r8] at k8; cases k8) k8
  · exact b9 _ _ nDr (s8 _ _ D7)
  · exact fun z => l7.fpn z n8
  · exact nin D _ kD hD
def sp_law (K : PySem.W.Frag) : Sp := fun vs H Q _ => ∃ (a : Addr) (ns : List Int), vs = [.ref a] ∧ SqL K H a (ns.map V.int) ∧ ns.length ≤ 63 ∧ ∀ H', Q (.bl true) H'
theorem ok_law (T : Txt K mg) : FnOk P w K mg base CX0 4 T.f_law T.d_law ["script"] (sp_law K) := by
  refine T.F_law.ok sc_law (fun vs H Q E h => ?_) (fun cdv A outer s H vs Q E hr h => ?_)
  · obtain ⟨a, ns, rfl, hS, hlen, q⟩ := h
    rfl
  · obtain ⟨a, ns, rfl, hS, hlen, q⟩ := h
    have hu := hu_of hr
    refine ⟨_, (pss_cons (ps_set (i := 1) sc_law.nd rfl (Or.inl rfl) (pe_callTy call_int1 (by rfl) T.n_int (by decide +kernel) (pa_cons (pe_call (ok_l_cell T) (hr.mono (by decide)) rfl T.m_l_cell T.F_l_cell.kp T.b_l_cell .nil pass0 (pa_cons (pv 0) (pa_cons pe_int pa_nil))) pa_nil)))
        (pss_cons (ps_set (i := 2) sc_law.nd rfl (Or.inl rfl) pe_int)
        (C8.pss_cut (ps_if (pt_cmpR op_eq (pe_op op_mod (pe_callTy call_int1 (by rfl) T.n_int (by decide +kernel) (pa_cons (pv 1) pa_nil)) pe_int) pe_int (nomark _)) (pss_one (ps_set (i := 2) sc_law.nd rfl (Or.inl rfl) (pe_op op_add pe_int (pe_op op_mod (pe_callTy call_int1 (by rfl) T.n_int (by decide +kernel) (pa_cons (pe_op op_fdiv (pv 1) pe_int) pa_nil)) pe_int)))) pss_nil)
        (pss_cons (ps_set (i := 3) sc_law.nd rfl (Or.inl rfl) (pe_make0 T.mk_Ledger (ok_Ledger_init__ T) (hr.mono (by decide)) rfl T.c_Ledger T.b_Ledger_init__ .nil pass0))
        (pss_cons (ps_set (i := 4) sc_law.nd rfl (Or.inl rfl) (pe_lst pa_nil))
        (pss_cons (ps_for PassesOwn.never rfl (pi_range1 (by rfl) T.n_range (pa_cons (pe_callB (call_min2 rfl) (by rfl) T.n_min (by decide +kernel) (pa_cons pe_int (pa_cons (pe_callB (call_max2 rfl) (by rfl) T.n_max (by decide +kernel) (pa_cons pe_int (pa_cons (pe_op op_sub (pe_callB call_len_seq (by rfl) T.n_len (by decide +kernel) (pa_cons (pv 0) pa_nil)) pe_int) pa_nil))) pa_nil))) pa_nil)) (pg_name (i := 5) sc_law.nd rfl (Or.inl rfl)) (pss_cons (ps_set (i := 6) sc_law.nd rfl (Or.inr rfl) (pe_call (ok_l_start T) (hr.mono (by decide)) rfl T.m_l_start T.F_l_start.kp T.b_l_start .nil pass0 (pa_cons (pe_call (ok_l_cell T) (hr.mono (by decide)) rfl T.m_l_cell T.F_l_cell.kp T.b_l_cell .nil pass0 (pa_cons (pv 0) (pa_cons (pe_op op_add pe_int (pv 5)) pa_nil))) (pa_cons (pv 5) pa_nil))))
        (pss_cons (ps_set (i := 7) sc_law.nd rfl (Or.inl rfl) (pe_call (ok_l_digit T) (hr.mono (by decide)) rfl T.m_l_digit T.F_l_digit.kp T.b_l_digit .nil pass0 (pa_cons (pv 6) (pa_cons pe_int pa_nil))))
        (pss_cons (ps_set (i := 8) sc_law.nd rfl (Or.inl rfl) (pe_op op_add pe_int (pe_call (ok_l_digit T) (hr.mono (by decide)) rfl T.m_l_digit T.F_l_digit.kp T.b_l_digit .nil pass0 (pa_cons (pv 6) (pa_cons (pv 2) pa_nil)))))
        (pss_cons (ps_set (i := 9) sc_law.nd rfl (Or.inl rfl) (pe_op op_mod (pe_callTy call_int1 (by rfl) T.n_int (by decide +kernel) (pa_cons (pe_call (ok_l_digit T) (hr.mono (by decide)) rfl T.m_l_digit T.F_l_digit.kp T.b_l_digit .nil pass0 (pa_cons (pv 6) (pa_cons pe_int pa_nil))) pa_nil)) pe_int))
        (pss_cons (ps_setLc (i := 10) (own := [("j", 13)]) (g := gName 13) (tt := tYes) rfl sc_law.nd rfl rfl (sw_true rfl rfl rfl (by decide +kernel)) (pi_range1 (by rfl) T.n_range (pa_cons (pe_call (ok_l_digit T) (hr.mono (by decide)) rfl T.m_l_digit T.F_l_digit.kp T.b_l_digit .nil pass0 (pa_cons (pv 6) (pa_cons pe_int pa_nil))) pa_nil)) (blkOk_by (N := ["script", "first", "most", "ledger", "rows", "k", "state", "host", "socket", "kind", "octets", "given", "row", "j"]) (sc := defScope s_law) (by decide +kernel)) (fun _ _ _ _ _ => (pg_name (i := 13) sc_law.nd rfl (Or.inl rfl))) (fun _ _ _ _ _ => pts_nil) (fun _ _ _ _ _ => (pe_call (ok_l_digit T) (hr.mono (by decide)) rfl T.m_l_digit T.F_l_digit.kp T.b_l_digit .nil pass0 (pa_cons (pv 6) (pa_cons pe_int pa_nil)))))
        (pss_cons (ps_set (i := 11) sc_law.nd rfl (Or.inl rfl) (pe_callTy call_list_of (by rfl) T.n_list (by decide +kernel) (pa_cons (pv 10) pa_nil)))
        (C8.pss_cut (ps_if (pt_cmpR op_eq (pv 9) pe_int (nomark _)) (pss_one (ps_expr (pe_meth (pv 3) T.k_Ledger T.a_Ledger_note_write (ok_Ledger_note_write T) (hr.mono (by decide)) T.b_Ledger_note_write .nil pass0 (pa_cons (pv 7) (pa_cons (pv 8) (pa_cons (pv 11) pa_nil)))))) (pss_one (ps_if (pt_cmpR op_eq (pv 9) pe_int (nomark _)) (pss_one (ps_expr (pe_meth (pv 3) T.k_Ledger T.a_Ledger_note_read (ok_Ledger_note_read T) (hr.mono (by decide)) T.b_Ledger_note_read .nil pass0 (pa_cons (pv 7) (pa_cons (pv 8) (pa_cons (pv 11) pa_nil)))))) (pss_one (ps_expr (pe_meth (pv 3) T.k_Ledger T.a_Ledger_note_finish (ok_Ledger_note_finish T) (hr.mono (by decide)) T.b_Ledger_note_finish .nil pass0 (pa_cons (pv 7) (pa_cons (pv 8) pa_nil))))))))
        (pss_cons (ps_expr (pe_bm PySem.F.plainAttrs_list PySem.F.slot_list_append PySem.F.type_list_append mt_append (pv 11) (pa_cons pe_int pa_nil)))
        (pss_cons (ps_expr (pe_bm PySem.F.plainAttrs_list PySem.F.slot_list_append PySem.F.type_list_append mt_append (pv 4) (pa_cons (pe_tup (pa_cons (pv 7) (pa_cons (pv 8) (pa_cons (pv 9) (pa_cons (pv 10) pa_nil))))) pa_nil)))
        (pss_cons (ps_if (PW.pt (pw_or (pt_not (pt_val (pe_call (ok_l_holds T) (hr.mono (by decide)) rfl T.m_l_holds T.F_l_holds.kp T.b_l_holds .nil pass0 (pa_cons (pv 3) (pa_cons (pv 7) (pa_cons (pv 8) (pa_cons (pv 4) pa_nil))))))) (pw_or1 (pt_not (pt_val (pe_call (ok_l_same_keys T) (hr.mono (by decide)) rfl T.m_l_same_keys T.F_l_same_keys.kp T.b_l_same_keys .nil pass0 (pa_cons (pv 3) (pa_cons (pv 4) pa_nil)))))))) (pss_one (ps_ret pe_bl)) pss_nil)
        (pss_one (ps_if (PW.pt (pw_or (pt_not (pt_val (pe_call (ok_l_holds T) (hr.mono (by decide)) rfl T.m_l_holds T.F_l_holds.kp T.b_l_holds .nil pass0 (pa_cons (pv 3) (pa_cons (pe_op op_sub pe_int (pv 7)) (pa_cons (pv 8) (pa_cons (pv 4) pa_nil))))))) (pw_or1 (pt_not (pt_val (pe_call (ok_l_same_keys T) (hr.mono (by decide)) rfl T.m_l_same_keys T.F_l_same_keys.kp T.b_l_same_keys .nil pass0 (pa_cons (pv 3) (pa_cons (pv 4) pa_nil)))))))) (pss_one (ps_ret pe_bl)) pss_nil)))))))))))))
        (pss_cons (ps_for PassesOwn.never rfl (pi_list (pv 4)) (pg_name (i := 12) sc_law.nd rfl (Or.inl rfl)) (pss_one (ps_if (pt_not (pt_val (pe_call (ok_l_holds T) (hr.mono (by decide)) rfl T.m_l_holds T.F_l_holds.kp T.b_l_holds .nil pass0 (pa_cons (pv 3) (pa_cons (pe_ix ix_tup (pv 12) pe_int (fun _ _ => rfl)) (pa_cons (pe_ix ix_tup (pv 12) pe_int (fun _ _ => rfl)) (pa_cons (pv 4) pa_nil))))))) (pss_one (ps_ret pe_bl)) pss_nil)))
        (pss_one (ps_ret pe_bl))))))))), ?_⟩
    dsimp only [cxOf, Cx.nox, Cx.wish, L2.start, List.map, List.cons_append, List.nil_append, List.length_cons, List.length_nil, Nat.reduceAdd, Nat.reduceSub, Nat.zero_add, List.replicate_succ, List.replicate_zero]
    walk_at "go"
    refine g_cut (fun σ' H' => H' = H ∧ ∃ m : Int, σ' = [some (.ref a), some (.int (cell ns 0)), some (.int m), none, none, none, none, none, none, none, none, none, none, none] ∧ 1 ≤ m ∧ m ≤ 4294967295) ?_ ?_
    · walk_at "go"
      refine g_ite (fun c => ?_) (fun c => ?_)
      · walk_at "go"
        exact ⟨rfl, _, rfl, by omega, by omega⟩
      · walk_at "go"
        exact ⟨rfl, _, rfl, by omega, by omega⟩
    rintro σ' _ ⟨rfl, m, rfl, m0, m1⟩
    walk_at "go"
    rename_i H0
    rintro p0 dx0 n0 nd0 npd
    generalize z1 : upd (upd H0 dx0 _) p0 _ = H1
    have s1 : Same H0 H1 := by rw [← z1]; exact (same_upd nd0).trans (same_upd (by rw [upd_ne (fun z => npd z.symm)]; exact n0))
    have k1 : H1 p0 = some (.ins T.C_Ledger dx0 (obj ky_Ledger [])) := (congrFun z1 p0).symm.trans upd_same
    clear z1
    refine ⟨p0, dx0, rfl, k1, fun H2 L eL l2 b2 hfp => ⟨rfl, ?_⟩⟩
    have s2 : Same H0 H2 := fun b o e => b2 _ _ (ne_of_none e n0) (s1 _ _ e)
    walk_at "go"
    refine ⟨by decide, fun rw nrw => ?_⟩
    walk_at "nw"
    rename_i H3 s3 k3
    walk_at "go"
    have s03 := s2.trans s3
    have hS3 := s03.seq hS
    have hsc : Scr K H3 L rw a (ns.map V.int) := by
      rcases sq_or hS with z | ⟨⟨u, hu⟩, z⟩
      · exact .inl z
      · refine .inr ⟨⟨u, s03 _ _ hu⟩, s03.seq hS, fun hb => ?_, ne_of_none (s2 _ _ hu) nrw⟩
        have := hfp a hb
        rw [s1 _ _ hu] at this
        cases this
    have nrf : rw ∉ L.fp := fun z => l2.fpn z nrw
    have I0 : LI K T.C_Ledger H3 L rw a [] [] (ns.map V.int) := ⟨l2.same s3, k3, ⟨rfl, fun i r e => by simp at e⟩, nrf, hsc⟩
    clear k3
    obtain ⟨n, en, hn0, hn1⟩ : ∃ n : Int, n = (if (if (ns.length : Int) - 1 > 5 then (ns.length : Int) - 1 else 5) < 62 then (if (ns.length : Int) - 1 > 5 then (ns.length : Int) - 1 else 5) else 62) ∧ 0 ≤ n ∧ n ≤ 62 := ⟨_, rfl, by split <;> (try split) <;> omega, by split <;> (try split) <;> omega⟩
    refine for_r (n := n) n.toNat rfl (by omega) (by omega) (fun i σ H' => ∃ (L' : La) (us : List V) (rows : List R4) (v5 v6 v7 v8 v9 v10 v11 : Option V), σ = [some (.ref a), some (.int (cell ns 0)), some (.int m), some (.ref p0), some (.ref rw), v5, v6, v7, v8, v9, v10, v11, none, none] ∧
      L'.a = p0 ∧ rows.length = i ∧ LI K T.C_Ledger H' L' rw a us rows (ns.map V.int)) ⟨L, [], [], none, none, none, none, none, none, none, rfl, eL, rfl, I0⟩ ?turn ?done ?ev
    case ev =>
      intro R r
      walk_at "go"
      refine g_len (.inl hS3) ?_
      walk_at "go"
      rw [List.length_map, ← en]
      exact r
    case done =>
      rintro σ H4 ⟨L', us, rows, v5, v6, v7, v8, v9, v10, v11, rfl, e, hl, h⟩
      walk_at "go"
      have hl0 := h.rs.1
      refine for_l (xs := us) (fun i σ H' => Same H4 H' ∧ ∃ v12, σ = [some (.ref a), some (.int (cell ns 0)), some (.int m), some (.ref p0), some (.ref rw), v5, v6, v7, v8, v9, v10, v11, v12, none]) (sl h.r) ⟨fun b o e => e, none, rfl⟩ (fun i σ H' _ ⟨e, _⟩ => sl (e _ _ h.r)) ?turn2 ?done2 ?ev2
      case ev2 =>
        intro R r
        walk_at "go"
        exact r
      case done2 =>
        rintro σ H' ⟨_, v12, rfl⟩
        walk_at "go"
        exact q _
      case turn2 =>
        rintro j x σ H' hx ⟨s4, v12, rfl⟩
        have hj : j < rows.length := by rw [← hl0]; exact (List.getElem?_eq_some_iff.mp hx).1
        obtain ⟨y, ey, hro⟩ := h.rs.2 j _ (List.getElem?_eq_getElem hj)
        rw [hx] at ey
        cases ey
        obtain ⟨⟨t, o, rfl, ht0, _⟩, _⟩ := hro
        have ht := s4 _ _ ht0
        walk_at "go"
        refine g_ixT (st ht) (at_of (j := 0) rfl rfl) ?_
        walk_at "go"
        refine g_ixT (st ht) (at_of (j := 1) rfl rfl) ?_
        walk_at "go"
        refine v_holds e (h.led.same s4) (sl (s4 _ _ h.r)) (h.rs.same s4) fun H5 s5 => ?_
        walk_at "go"
        exact ⟨s4.trans s5, _, rfl⟩
    case turn =>
      rintro i σ H4 hi ⟨L', us, rows, v5, v6, v7, v8, v9, v10, v11, rfl, e, hl, h⟩
      have hS4 := h.sc.sq
      walk_at "go"
      refine u_start fun p n0 np => ?_
      walk_at "nw"
      rename_i H5 s5 k5
      walk_at "go"
      refine u_digit k5 (by decide) (by decide) ?_
      walk_at "go"
      walk_at "bt"
      rename_i H6 b6 k6
      refine u_digit k6 (by omega) (by omega) ?_
      walk_at "bt"
      rename_i H7 b7 k7
      walk_at "go"
      refine u_digit k7 (by decide) (by decide) ?_
      walk_at "bt"
      rename_i H8 b8 k8
      walk_at "go"
      refine u_digit k8 (by decide) (by decide) ?_
      walk_at "bt"
      rename_i H9 b9 k9
      generalize n0 / 8 / m / 5 = n1 at k8 k9 ⊢
      have d0 : 0 ≤ n1 % 5 := Int.emod_nonneg _ (by decide)
      have d1 : n1 % 5 < 5 := Int.emod_lt_of_pos _ (by decide)
      have B9 : But p H4 H9 := ((((But.of s5).trans b6).trans b7).trans b8).trans b9
      walk_at "go"
      refine ⟨by omega, by omega, fun D hD => ?_⟩
      refine lc_digs hD k9 (by decide) (by decide) (by omega) (fun x => rfl) fun H10 os n10 b10 e10 k10 l10 r10 => ?_
      have nDp : D ≠ p := fun z => by rw [z, k9] at hD; cases hD
      have s10 : Same H4 H10 := (B9.trans b10).same np
      have hD4 : H4 D = none := But.free B9 nDp hD
      walk_at "go"
      refine ⟨D, _, rfl, .inl (sl e10), fun gl ng => ?_⟩
      walk_at "nw"
      rename_i H11 s11 k11
      have s11' := s10.trans s11
      have hg4 : H4 gl = none := Same.free s10 ng
      have nDg : D ≠ gl := ne_of_none e10 ng
      have e11 := s11 _ _ e10
      have hh := h.led.same s11'
      generalize n0 % 8 = hst
      generalize 1 + n0 / 8 % m = sck
      have kk0 := Int.emod_nonneg (n0 / 8 / m % 5) (show (3 : Int) ≠ 0 by decide)
      have kk1 := Int.emod_lt_of_pos (n0 / 8 / m % 5) (show (0 : Int) < 3 by decide)
      generalize n0 / 8 / m % 5 % 3 = knd at kk0 kk1 ⊢
      have lo : os.length ≤ 4 := by omega
      obtain ⟨dx, ho⟩ := hh.o
      rw [e] at ho
      walk_at "go"
      refine g_cut (fun σ' H' => σ' = [some (.ref a), some (.int (cell ns 0)), some (.int m), some (.ref p0), some (.ref rw), some (.int (i : Int)), some (.ref p), some (.int hst), some (.int sck), some (.int knd), some (.ref D), some (.ref gl), none, none] ∧
        ∃ L6, Led T.C_Ledger H' L6 (rows ++ [⟨hst, sck, knd, os⟩]) ∧ Step H11 L' H' L6) ?_ ?_
      · walk_at "go"
        refine g_ite (fun c => ?_) (fun c => ?_)
        · subst c
          walk_at "go"
          refine ⟨L', rows, hst, sck, gl, os, by rw [e]; rfl, hh, by omega, lo, k11, fun H' L6 g1 g2 => ?_⟩
          walk_at "go"
          exact ⟨rfl, L6, g1, g2⟩
        · walk_at "go"
          refine g_ite (fun c2 => ?_) (fun c2 => ?_)
          · subst c2
            walk_at "go"
            refine ⟨L', rows, hst, sck, gl, os, by rw [e]; rfl, hh, by omega, lo, k11, fun H' L6 g1 g2 => ?_⟩
            walk_at "go"
            exact ⟨rfl, L6, g1, g2⟩
          · have c3 : knd = 2 := by omega
            subst c3
            walk_at "go"
            refine ⟨L', rows, hst, sck, os, by rw [e]; rfl, hh, by omega, lo, fun H' L6 g1 g2 => ?_⟩
            walk_at "go"
            exact ⟨rfl, L6, g1, g2⟩
      rintro σ' H12 ⟨rfl, L6, l6, st⟩
      have g12 := st.fr _ _ k11 (fun z => h.led.fpn z hg4)
      walk_at "go"
      refine ⟨ty_l g12, ?_⟩
      walk_at "go"
      refine g_append g12 (by rw [List.length_map]; exact szl (by omega)) ?_
      walk_at "bt"
      rename_i H13 b13 k13
      have hr11 := s11' _ _ h.r
      have hr12 := st.fr _ _ hr11 h.nr
      have hr13 := b13 _ _ (ne_of_none h.r hg4) hr12
      walk_at "go"
      refine ⟨ty_l hr13, ?_⟩
      walk_at "go"
      refine ⟨by show 4 ≤ sizeLine; decide, fun t nt => ?_⟩
      walk_at "nw"
      rename_i H14 s14 k14
      walk_at "go"
      refine g_append (s14 _ _ hr13) (szl (by rw [h.rs.1]; omega)) ?_
      walk_at "bt"
      rename_i H15 b15 k15
      have J := h.turn (r := ⟨hst, sck, knd, os⟩) s11' hD4 hg4 nDg e11 k11 st l6 b13 s14 nt k14 b15 k15 (by show knd = 0 ∨ knd = 1 ∨ knd = 2; omega)
      have ee : L6.a = p0 := st.a.trans e
      walk_at "go"
      refine v_holds ee J.led (sl J.r) J.rs fun H16 s16 => ?_
      walk_at "go"
      have J1 := J.same s16
      obtain ⟨dx1, ho1⟩ := J1.led.o
      refine v_samek ee J1.led (sl J1.r) J1.rs fun H17 s17 => ?_
      have J2 := J1.same s17
      walk_at "go"
      refine v_holds ee J2.led (sl J2.r) J2.rs fun H18 s18 => ?_
      have J3 := J2.same s18
      walk_at "go"
      refine v_samek ee J3.led (sl J3.r) J3.rs fun H19 s19 => ?_
      have J4 := J3.same s19
      walk_at "go"
      exact ⟨L6, _, _, _, _, _, _, _, _, _, rfl, ee, by rw [List.length_append, hl]; rfl, J4⟩

end
end My
namespace My
open PySem PySem.Spec L2
local macro_rules | `(tactic| walk_at "side") => `(tactic| first | assumption | decide | omega | exact ⟨by decide, by decide⟩ | exact ⟨by decide, by decide, by decide⟩ | decide +kernel | exact cdivW (by decide +kernel) (by decide +kernel) | exact Or.inl ⟨by omega, by omega⟩ | exact Or.inr ⟨by omega, by omega⟩ | (simp only [List.length_map, List.length_cons, List.length_nil, List.length_append]; omega))
local macro_rules | `(tactic| walk_at "fact") => `(tactic| first | assumption | omega | with_reducible rfl)
local macro_rules | `(tactic| walk_at "use") => `(tactic| fail "use")
local macro_rules | `(tactic| walk_at "go1") => `(tactic| with_reducible first | refine g_seq ?_ | refine g_asg ?_ | refine g_ret ?_ | refine g_ifS ?_ | refine g_drop ?_ | refine g_star ?_ | refine g_nx ?_ | refine g_rt ?_ | refine g_bkE ?_ | refine g_ctE ?_ | refine g_next ?_ | refine g_retN ?_ | refine g_brk ?_ | refine g_ct ?_ | refine g_c ?_ | refine g_op ?_ | refine g_un ?_ | refine g_rI0 ?_ | refine g_rU ?_ | refine g_rEqI ?_ | refine g_rNeI ?_ | refine g_isN ?_ | refine g_rIsB ?_ | refine g_rNotB ?_ | refine g_test ?_ | refine g_B ?_ | refine g_bl ?_ | refine g_and ?_ | refine g_or ?_ | refine g_not ?_ | refine g_andV ?_ | refine g_orV ?_ | refine g_notV ?_ | refine g_if ?_ | refine g_chain ?_ | refine g_yes ?_ | refine g_lc ?_ | refine g_revR ?_ | refine g_rng1 ?_ | refine g_iList ?_ | refine g_nil ?_ | refine g_cons ?_ | refine g_tup ?_ | refine g_lst ?_ | refine g_call ?_ | refine g_CB ?_ | refine g_sl ?_ | refine g_noPart ?_ | refine g_part ?_ | refine g_intE ?_ | refine g_ref ?_ | refine g_fld ?_ | refine g_sfld ?_ | refine g_meth ?_ | refine g_make ?_ | refine g_prop ?_  | refine g_ipI ?_ | refine g_int1 ?_ | refine g_int1B ?_ | refine g_one ?_ | refine g_two ?_ | refine g_isiI ?_ | refine g_isiIB ?_ | refine g_isiB ?_ | refine g_BM ?_ | refine g_BM0 ?_ | refine g_sub ?_)
local macro_rules | `(tactic| walk_at "go") => `(tactic| repeat (first | walk_at "go1" | ((with_reducible refine' g_nameE ?sd_ ?_); case sd_ => dsimp only [List.set_cons_succ, List.set_cons_zero]) | ((with_reducible refine' g_var ?sd_ ?_); case sd_ => exact rfl) | ((with_reducible refine' g_aug ?sd_ ?_); case sd_ => exact rfl) | ((with_reducible refine' g_rI ?sd_ ?_); case sd_ => walk_at "side") | ((with_reducible refine' g_dT ?sd_ ?_); case sd_ => walk_at "fact") | ((with_reducible refine' g_dF ?sd_ ?_); case sd_ => walk_at "fact") | ((with_reducible refine' g_nT ?sd_ ?_); case sd_ => walk_at "fact") | ((with_reducible refine' g_nF ?sd_ ?_); case sd_ => walk_at "fact") | (with_reducible refine g_iT rfl ?_) | (with_reducible refine g_iF rfl ?_) | walk_at "use"))
local macro_rules | `(tactic| walk_at "nw") => `(tactic| (generalize zq : upd _ _ _ = Hq; have sq : Same _ Hq := (by rw [← zq]; exact same_upd (by assumption)); have kq := (congrFun zq _).symm.trans upd_same; clear zq))
local macro_rules | `(tactic| walk_at "bt") => `(tactic| (generalize zq : upd _ _ _ = Hq; have bq : But _ _ Hq := (by rw [← zq]; exact But.refl.upd); have kq := (congrFun zq _).symm.trans upd_same; clear zq))
theorem all_mk {l : PySem.W.OpenLaw} {w : World} {K : PySem.W.Frag} {h : Heap} {mg : Str → Option Value} {fa : Addr} (X : K.In h) (G : h.Ns mainGlobals mg) (hfa : mg "law" = some (.ref fa))
    {C_Ledger : Addr} {f_Ledger_init__ : Addr} {od_Ledger_init__ an_Ledger_init__ : Option Addr} {sl_Ledger_init__ : Array (Option Value)} {oc_Ledger_init__ kV_Ledger_init__ dc_Ledger_init__ pm_Ledger_init__ cd_Ledger_init__ ct_Ledger_init__ : Value} {f_Ledger_note_write : Addr} {od_Ledger_note_write an_Ledger_note_write : Option Addr} {sl_Ledger_note_write : Array (Option Value)} {oc_Ledger_note_write kV_Ledger_note_write dc_Ledger_note_write pm_Ledger_note_write cd_Ledger_note_write ct_Ledger_note_write : Value} {f_Ledger_note_read : Addr} {od_Ledger_note_read an_Ledger_note_read : Option Addr} {sl_Ledger_note_read : Array (Option Value)} {oc_Ledger_note_read kV_Ledger_note_read dc_Ledger_note_read pm_Ledger_note_read cd_Ledger_note_read ct_Ledger_note_read : Value} {f_Ledger_note_finish : Addr} {od_Ledger_note_finish an_Ledger_note_finish : Option Addr} {sl_Ledger_note_finish : Array (Option Value)} {oc_Ledger_note_finish kV_Ledger_note_finish dc_Ledger_note_finish pm_Ledger_note_finish cd_Ledger_note_finish ct_Ledger_note_finish : Value} {f_Ledger_written : Addr} {od_Ledger_written an_Ledger_written : Option Addr} {sl_Ledger_written : Array (Option Value)} {oc_Ledger_written kV_Ledger_written dc_Ledger_written pm_Ledger_written cd_Ledger_written ct_Ledger_written : Value} {f_Ledger_was_read : Addr} {od_Ledger_was_read an_Ledger_was_read : Option Addr} {sl_Ledger_was_read : Array (Option Value)} {oc_Ledger_was_read kV_Ledger_was_read dc_Ledger_was_read pm_Ledger_was_read cd_Ledger_was_read ct_Ledger_was_read : Value} {f_Ledger_has_finished : Addr} {od_Ledger_has_finished an_Ledger_has_finished : Option Addr} {sl_Ledger_has_finished : Array (Option Value)} {oc_Ledger_has_finished kV_Ledger_has_finished dc_Ledger_has_finished pm_Ledger_has_finished cd_Ledger_has_finished ct_Ledger_has_finished : Value} {f_Ledger_iter__ : Addr} {od_Ledger_iter__ an_Ledger_iter__ : Option Addr} {sl_Ledger_iter__ : Array (Option Value)} {oc_Ledger_iter__ kV_Ledger_iter__ dc_Ledger_iter__ pm_Ledger_iter__ cd_Ledger_iter__ ct_Ledger_iter__ : Value} {f_l_cell : Addr} {od_l_cell an_l_cell : Option Addr} {sl_l_cell : Array (Option Value)} {oc_l_cell kV_l_cell dc_l_cell pm_l_cell cd_l_cell ct_l_cell : Value} {f_l_is_integer : Addr} {od_l_is_integer an_l_is_integer : Option Addr} {sl_l_is_integer : Array (Option Value)} {oc_l_is_integer kV_l_is_integer dc_l_is_integer pm_l_is_integer cd_l_is_integer ct_l_is_integer : Value} {f_l_start : Addr} {od_l_start an_l_start : Option Addr} {sl_l_start : Array (Option Value)} {oc_l_start kV_l_start dc_l_start pm_l_start cd_l_start ct_l_start : Value} {f_l_digit : Addr} {od_l_digit an_l_digit : Option Addr} {sl_l_digit : Array (Option Value)} {oc_l_digit kV_l_digit dc_l_digit pm_l_digit cd_l_digit ct_l_digit : Value} {f_l_octets : Addr} {od_l_octets an_l_octets : Option Addr} {sl_l_octets : Array (Option Value)} {oc_l_octets kV_l_octets dc_l_octets pm_l_octets cd_l_octets ct_l_octets : Value} {f_l_holds : Addr} {od_l_holds an_l_holds : Option Addr} {sl_l_holds : Array (Option Value)} {oc_l_holds kV_l_holds dc_l_holds pm_l_holds cd_l_holds ct_l_holds : Value} {f_l_keys : Addr} {od_l_keys an_l_keys : Option Addr} {sl_l_keys : Array (Option Value)} {oc_l_keys kV_l_keys dc_l_keys pm_l_keys cd_l_keys ct_l_keys : Value} {f_l_same_keys : Addr} {od_l_same_keys an_l_same_keys : Option Addr} {sl_l_same_keys : Array (Option Value)} {oc_l_same_keys kV_l_same_keys dc_l_same_keys pm_l_same_keys cd_l_same_keys ct_l_same_keys : Value} {f_law : Addr} {od_law an_law : Option Addr} {sl_law : Array (Option Value)} {oc_law kV_law dc_law pm_law cd_law ct_law : Value}
    (c_Ledger : PySem.W.nsIn K mainGlobals "Ledger" = some (some (.ref C_Ledger)))
    (pg_Ledger : PySem.W.plainGet K C_Ledger Str.empty = true)
    (hd_Ledger : PySem.W.hasDictIn K C_Ledger = true)
    (po_Ledger : PySem.W.plainOver K C_Ledger = true)
    (sa_Ledger : PySem.W.findIn K (.ref C_Ledger) "__setattr__" = some (some (.builtin "object.__setattr__")))
    (mk0_Ledger : PySem.W.makesIn K C_Ledger = true)
    (kc_Ledger : PySem.W.keepIn K (.ref C_Ledger) = true)
    (n_Ledger__noted : PySem.W.findIn K (.ref C_Ledger) "_noted" = some none)
    (n_Ledger__written : PySem.W.findIn K (.ref C_Ledger) "_written" = some none)
    (n_Ledger__was_read : PySem.W.findIn K (.ref C_Ledger) "_was_read" = some none)
    (n_Ledger__finished : PySem.W.findIn K (.ref C_Ledger) "_finished" = some none)
    (a_Ledger_init__ : PySem.W.findIn K (.ref C_Ledger) "__init__" = some (some (.ref f_Ledger_init__)))
    (i_Ledger_init__ : PySem.W.isFn K (.ref f_Ledger_init__) = true)
    (l_Ledger_init__ : K.lookup f_Ledger_init__ = some ⟨oc_Ledger_init__, od_Ledger_init__, .func (PySem.W.fnOf "__init__" "Ledger.__init__" (defArgs s_Ledger_init__) (defBody s_Ledger_init__) (defScope s_Ledger_init__) .none kV_Ledger_init__ dc_Ledger_init__ pm_Ledger_init__ an_Ledger_init__ cd_Ledger_init__ ct_Ledger_init__), sl_Ledger_init__⟩)
    (cc_Ledger_init__ : PySem.W.codeIn K cd_Ledger_init__ "Ledger.__init__" = true)
    (kk_Ledger_init__ : PySem.W.keepIn K (.ref f_Ledger_init__) = true)
    (a_Ledger_note_write : PySem.W.findIn K (.ref C_Ledger) "note_write" = some (some (.ref f_Ledger_note_write)))
    (i_Ledger_note_write : PySem.W.isFn K (.ref f_Ledger_note_write) = true)
    (l_Ledger_note_write : K.lookup f_Ledger_note_write = some ⟨oc_Ledger_note_write, od_Ledger_note_write, .func (PySem.W.fnOf "note_write" "Ledger.note_write" (defArgs s_Ledger_note_write) (defBody s_Ledger_note_write) (defScope s_Ledger_note_write) .none kV_Ledger_note_write dc_Ledger_note_write pm_Ledger_note_write an_Ledger_note_write cd_Ledger_note_write ct_Ledger_note_write), sl_Ledger_note_write⟩)
    (cc_Ledger_note_write : PySem.W.codeIn K cd_Ledger_note_write "Ledger.note_write" = true)
    (kk_Ledger_note_write : PySem.W.keepIn K (.ref f_Ledger_note_write) = true)
    (a_Ledger_note_read : PySem.W.findIn K (.ref C_Ledger) "note_read" = some (some (.ref f_Ledger_note_read)))
    (i_Ledger_note_read : PySem.W.isFn K (.ref f_Ledger_note_read) = true)
    (l_Ledger_note_read : K.lookup f_Ledger_note_read = some ⟨oc_Ledger_note_read, od_Ledger_note_read, .func (PySem.W.fnOf "note_read" "Ledger.note_read" (defArgs s_Ledger_note_read) (defBody s_Ledger_note_read) (defScope s_Ledger_note_read) .none kV_Ledger_note_read dc_Ledger_note_read pm_Ledger_note_read an_Ledger_note_read cd_Ledger_note_read ct_Ledger_note_read), sl_Ledger_note_read⟩)
    (cc_Ledger_note_read : PySem.W.codeIn K cd_Ledger_note_read "Ledger.note_read" = true)
    (kk_Ledger_note_read : PySem.W.keepIn K (.ref f_Ledger_note_read) = true)
    (a_Ledger_note_finish : PySem.W.findIn K (.ref C_Ledger) "note_finish" = some (some (.ref f_Ledger_note_finish)))
    (i_Ledger_note_finish : PySem.W.isFn K (.ref f_Ledger_note_finish) = true)
    (l_Ledger_note_finish : K.lookup f_Ledger_note_finish = some ⟨oc_Ledger_note_finish, od_Ledger_note_finish, .func (PySem.W.fnOf "note_finish" "Ledger.note_finish" (defArgs s_Ledger_note_finish) (defBody s_Ledger_note_finish) (defScope s_Ledger_note_finish) .none kV_Ledger_note_finish dc_Ledger_note_finish pm_Ledger_note_finish an_Ledger_note_finish cd_Ledger_note_finish ct_Ledger_note_finish), sl_Ledger_note_finish⟩)
    (cc_Ledger_note_finish : PySem.W.codeIn K cd_Ledger_note_finish "Ledger.note_finish" = true)
    (kk_Ledger_note_finish : PySem.W.keepIn K (.ref f_Ledger_note_finish) = true)
    (a_Ledger_written : PySem.W.findIn K (.ref C_Ledger) "written" = some (some (.ref f_Ledger_written)))
    (i_Ledger_written : PySem.W.isFn K (.ref f_Ledger_written) = true)
    (l_Ledger_written : K.lookup f_Ledger_written = some ⟨oc_Ledger_written, od_Ledger_written, .func (PySem.W.fnOf "written" "Ledger.written" (defArgs s_Ledger_written) (defBody s_Ledger_written) (defScope s_Ledger_written) .none kV_Ledger_written dc_Ledger_written pm_Ledger_written an_Ledger_written cd_Ledger_written ct_Ledger_written), sl_Ledger_written⟩)
    (cc_Ledger_written : PySem.W.codeIn K cd_Ledger_written "Ledger.written" = true)
    (kk_Ledger_written : PySem.W.keepIn K (.ref f_Ledger_written) = true)
    (a_Ledger_was_read : PySem.W.findIn K (.ref C_Ledger) "was_read" = some (some (.ref f_Ledger_was_read)))
    (i_Ledger_was_read : PySem.W.isFn K (.ref f_Ledger_was_read) = true)
    (l_Ledger_was_read : K.lookup f_Ledger_was_read = some ⟨oc_Ledger_was_read, od_Ledger_was_read, .func (PySem.W.fnOf "was_read" "Ledger.was_read" (defArgs s_Ledger_was_read) (defBody s_Ledger_was_read) (defScope s_Ledger_was_read) .none kV_Ledger_was_read dc_Ledger_was_read pm_Ledger_was_read an_Ledger_was_read cd_Ledger_was_read ct_Ledger_was_read), sl_Ledger_was_read⟩)
    (cc_Ledger_was_read : PySem.W.codeIn K cd_Ledger_was_read "Ledger.was_read" = true)
    (kk_Ledger_was_read : PySem.W.keepIn K (.ref f_Ledger_was_read) = true)
    (a_Ledger_has_finished : PySem.W.findIn K (.ref C_Ledger) "has_finished" = some (some (.ref f_Ledger_has_finished)))
    (i_Ledger_has_finished : PySem.W.isFn K (.ref f_Ledger_has_finished) = true)
    (l_Ledger_has_finished : K.lookup f_Ledger_has_finished = some ⟨oc_Ledger_has_finished, od_Ledger_has_finished, .func (PySem.W.fnOf "has_finished" "Ledger.has_finished" (defArgs s_Ledger_has_finished) (defBody s_Ledger_has_finished) (defScope s_Ledger_has_finished) .none kV_Ledger_has_finished dc_Ledger_has_finished pm_Ledger_has_finished an_Ledger_has_finished cd_Ledger_has_finished ct_Ledger_has_finished), sl_Ledger_has_finished⟩)
    (cc_Ledger_has_finished : PySem.W.codeIn K cd_Ledger_has_finished "Ledger.has_finished" = true)
    (kk_Ledger_has_finished : PySem.W.keepIn K (.ref f_Ledger_has_finished) = true)
    (a_Ledger_iter__ : PySem.W.findIn K (.ref C_Ledger) "__iter__" = some (some (.ref f_Ledger_iter__)))
    (i_Ledger_iter__ : PySem.W.isFn K (.ref f_Ledger_iter__) = true)
    (l_Ledger_iter__ : K.lookup f_Ledger_iter__ = some ⟨oc_Ledger_iter__, od_Ledger_iter__, .func (PySem.W.fnOf "__iter__" "Ledger.__iter__" (defArgs s_Ledger_iter__) (defBody s_Ledger_iter__) (defScope s_Ledger_iter__) .none kV_Ledger_iter__ dc_Ledger_iter__ pm_Ledger_iter__ an_Ledger_iter__ cd_Ledger_iter__ ct_Ledger_iter__), sl_Ledger_iter__⟩)
    (cc_Ledger_iter__ : PySem.W.codeIn K cd_Ledger_iter__ "Ledger.__iter__" = true)
    (kk_Ledger_iter__ : PySem.W.keepIn K (.ref f_Ledger_iter__) = true)
    (a_l_cell : PySem.W.nsIn K mainGlobals "_law_cell" = some (some (.ref f_l_cell)))
    (l_l_cell : K.lookup f_l_cell = some ⟨oc_l_cell, od_l_cell, .func (PySem.W.fnOf "_law_cell" "_law_cell" (defArgs s_l_cell) (defBody s_l_cell) (defScope s_l_cell) .none kV_l_cell dc_l_cell pm_l_cell an_l_cell cd_l_cell ct_l_cell), sl_l_cell⟩)
    (cc_l_cell : PySem.W.codeIn K cd_l_cell "_law_cell" = true)
    (kk_l_cell : PySem.W.keepIn K (.ref f_l_cell) = true)
    (a_l_is_integer : PySem.W.nsIn K mainGlobals "_law_is_integer" = some (some (.ref f_l_is_integer)))
    (l_l_is_integer : K.lookup f_l_is_integer = some ⟨oc_l_is_integer, od_l_is_integer, .func (PySem.W.fnOf "_law_is_integer" "_law_is_integer" (defArgs s_l_is_integer) (defBody s_l_is_integer) (defScope s_l_is_integer) .none kV_l_is_integer dc_l_is_integer pm_l_is_integer an_l_is_integer cd_l_is_integer ct_l_is_integer), sl_l_is_integer⟩)
    (cc_l_is_integer : PySem.W.codeIn K cd_l_is_integer "_law_is_integer" = true)
    (kk_l_is_integer : PySem.W.keepIn K (.ref f_l_is_integer) = true)
    (a_l_start : PySem.W.nsIn K mainGlobals "_law_start" = some (some (.ref f_l_start)))
    (l_l_start : K.lookup f_l_start = some ⟨oc_l_start, od_l_start, .func (PySem.W.fnOf "_law_start" "_law_start" (defArgs s_l_start) (defBody s_l_start) (defScope s_l_start) .none kV_l_start dc_l_start pm_l_start an_l_start cd_l_start ct_l_start), sl_l_start⟩)
    (cc_l_start : PySem.W.codeIn K cd_l_start "_law_start" = true)
    (kk_l_start : PySem.W.keepIn K (.ref f_l_start) = true)
    (a_l_digit : PySem.W.nsIn K mainGlobals "_law_digit" = some (some (.ref f_l_digit)))
    (l_l_digit : K.lookup f_l_digit = some ⟨oc_l_digit, od_l_digit, .func (PySem.W.fnOf "_law_digit" "_law_digit" (defArgs s_l_digit) (defBody s_l_digit) (defScope s_l_digit) .none kV_l_digit dc_l_digit pm_l_digit an_l_digit cd_l_digit ct_l_digit), sl_l_digit⟩)
    (cc_l_digit : PySem.W.codeIn K cd_l_digit "_law_digit" = true)
    (kk_l_digit : PySem.W.keepIn K (.ref f_l_digit) = true)
    (a_l_octets : PySem.W.nsIn K mainGlobals "_law_octets" = some (some (.ref f_l_octets)))
    (l_l_octets : K.lookup f_l_octets = some ⟨oc_l_octets, od_l_octets, .func (PySem.W.fnOf "_law_octets" "_law_octets" (defArgs s_l_octets) (defBody s_l_octets) (defScope s_l_octets) .none kV_l_octets dc_l_octets pm_l_octets an_l_octets cd_l_octets ct_l_octets), sl_l_octets⟩)
    (cc_l_octets : PySem.W.codeIn K cd_l_octets "_law_octets" = true)
    (kk_l_octets : PySem.W.keepIn K (.ref f_l_octets) = true)
    (a_l_holds : PySem.W.nsIn K mainGlobals "_law_holds" = some (some (.ref f_l_holds)))
    (l_l_holds : K.lookup f_l_holds = some ⟨oc_l_holds, od_l_holds, .func (PySem.W.fnOf "_law_holds" "_law_holds" (defArgs s_l_holds) (defBody s_l_holds) (defScope s_l_holds) .none kV_l_holds dc_l_holds pm_l_holds an_l_holds cd_l_holds ct_l_holds), sl_l_holds⟩)
    (cc_l_holds : PySem.W.codeIn K cd_l_holds "_law_holds" = true)
    (kk_l_holds : PySem.W.keepIn K (.ref f_l_holds) = true)
    (a_l_keys : PySem.W.nsIn K mainGlobals "_law_keys" = some (some (.ref f_l_keys)))
    (l_l_keys : K.lookup f_l_keys = some ⟨oc_l_keys, od_l_keys, .func (PySem.W.fnOf "_law_keys" "_law_keys" (defArgs s_l_keys) (defBody s_l_keys) (defScope s_l_keys) .none kV_l_keys dc_l_keys pm_l_keys an_l_keys cd_l_keys ct_l_keys), sl_l_keys⟩)
    (cc_l_keys : PySem.W.codeIn K cd_l_keys "_law_keys" = true)
    (kk_l_keys : PySem.W.keepIn K (.ref f_l_keys) = true)
    (a_l_same_keys : PySem.W.nsIn K mainGlobals "_law_same_keys" = some (some (.ref f_l_same_keys)))
    (l_l_same_keys : K.lookup f_l_same_keys = some ⟨oc_l_same_keys, od_l_same_keys, .func (PySem.W.fnOf "_law_same_keys" "_law_same_keys" (defArgs s_l_same_keys) (defBody s_l_same_keys) (defScope s_l_same_keys) .none kV_l_same_keys dc_l_same_keys pm_l_same_keys an_l_same_keys cd_l_same_keys ct_l_same_keys), sl_l_same_keys⟩)
    (cc_l_same_keys : PySem.W.codeIn K cd_l_same_keys "_law_same_keys" = true)
    (kk_l_same_keys : PySem.W.keepIn K (.ref f_l_same_keys) = true)
    (a_law : PySem.W.nsIn K mainGlobals "law" = some (some (.ref f_law)))
    (l_law : K.lookup f_law = some ⟨oc_law, od_law, .func (PySem.W.fnOf "law" "law" (defArgs s_law) (defBody s_law) (defScope s_law) .none kV_law dc_law pm_law an_law cd_law ct_law), sl_law⟩)
    (cc_law : PySem.W.codeIn K cd_law "law" = true)
    (kk_law : PySem.W.keepIn K (.ref f_law) = true)
    (z_bool : PySem.W.nsIn K mainGlobals "bool" = some none)
    (z_int : PySem.W.nsIn K mainGlobals "int" = some none)
    (z_isinstance : PySem.W.nsIn K mainGlobals "isinstance" = some none)
    (z_iter : PySem.W.nsIn K mainGlobals "iter" = some none)
    (z_len : PySem.W.nsIn K mainGlobals "len" = some none)
    (z_list : PySem.W.nsIn K mainGlobals "list" = some none)
    (z_max : PySem.W.nsIn K mainGlobals "max" = some none)
    (z_min : PySem.W.nsIn K mainGlobals "min" = some none)
    (z_range : PySem.W.nsIn K mainGlobals "range" = some none)
    (z_tuple : PySem.W.nsIn K mainGlobals "tuple" = some none)
    : ∃ fd : FuncData, (∀ (s : Shared) (v : Value), BindsTo s fd ⟨[v], []⟩ [("script", v)]) ∧ ∀ base : Heap, K.In base → base.Ns mainGlobals mg → FnOk l.prog w K mg base CX0 4 fa fd ["script"] (sp_law K) := by
  have e := hfa.symm.trans (PySem.W.mg_of X G a_law)
  have e2 : f_law = fa := by
    injection e with e
    injection e with e
    exact e.symm
  subst e2
  have F_Ledger_init__ := fun_mk (st := s_Ledger_init__) l_Ledger_init__ cc_Ledger_init__ kk_Ledger_init__
  have b_Ledger_init__ := F_Ledger_init__.binds (ps := ["self"]) fun _ _ _ _ _ _ us hl => match us, hl with | [_], _ => rfl
  have F_Ledger_note_write := fun_mk (st := s_Ledger_note_write) l_Ledger_note_write cc_Ledger_note_write kk_Ledger_note_write
  have b_Ledger_note_write := F_Ledger_note_write.binds (ps := ["self", "host", "socket", "octets"]) fun _ _ _ _ _ _ us hl => match us, hl with | [_, _, _, _], _ => rfl
  have F_Ledger_note_read := fun_mk (st := s_Ledger_note_read) l_Ledger_note_read cc_Ledger_note_read kk_Ledger_note_read
  have b_Ledger_note_read := F_Ledger_note_read.binds (ps := ["self", "host", "socket", "octets"]) fun _ _ _ _ _ _ us hl => match us, hl with | [_, _, _, _], _ => rfl
  have F_Ledger_note_finish := fun_mk (st := s_Ledger_note_finish) l_Ledger_note_finish cc_Ledger_note_finish kk_Ledger_note_finish
  have b_Ledger_note_finish := F_Ledger_note_finish.binds (ps := ["self", "host", "socket"]) fun _ _ _ _ _ _ us hl => match us, hl with | [_, _, _], _ => rfl
  have F_Ledger_written := fun_mk (st := s_Ledger_written) l_Ledger_written cc_Ledger_written kk_Ledger_written
  have b_Ledger_written := F_Ledger_written.binds (ps := ["self", "host", "socket"]) fun _ _ _ _ _ _ us hl => match us, hl with | [_, _, _], _ => rfl
  have F_Ledger_was_read := fun_mk (st := s_Ledger_was_read) l_Ledger_was_read cc_Ledger_was_read kk_Ledger_was_read
  have b_Ledger_was_read := F_Ledger_was_read.binds (ps := ["self", "host", "socket"]) fun _ _ _ _ _ _ us hl => match us, hl with | [_, _, _], _ => rfl
  have F_Ledger_has_finished := fun_mk (st := s_Ledger_has_finished) l_Ledger_has_finished cc_Ledger_has_finished kk_Ledger_has_finished
  have b_Ledger_has_finished := F_Ledger_has_finished.binds (ps := ["self", "host", "socket"]) fun _ _ _ _ _ _ us hl => match us, hl with | [_, _, _], _ => rfl
  have F_Ledger_iter__ := fun_mk (st := s_Ledger_iter__) l_Ledger_iter__ cc_Ledger_iter__ kk_Ledger_iter__
  have b_Ledger_iter__ := F_Ledger_iter__.binds (ps := ["self"]) fun _ _ _ _ _ _ us hl => match us, hl with | [_], _ => rfl
  have F_l_cell := fun_mk (st := s_l_cell) l_l_cell cc_l_cell kk_l_cell
  have b_l_cell := F_l_cell.binds (ps := ["script", "k"]) fun _ _ _ _ _ _ us hl => match us, hl with | [_, _], _ => rfl
  have F_l_is_integer := fun_mk (st := s_l_is_integer) l_l_is_integer cc_l_is_integer kk_l_is_integer
  have b_l_is_integer := F_l_is_integer.binds (ps := ["told"]) fun _ _ _ _ _ _ us hl => match us, hl with | [_], _ => rfl
  have F_l_start := fun_mk (st := s_l_start) l_l_start cc_l_start kk_l_start
  have b_l_start := F_l_start.binds (ps := ["cell", "k"]) fun _ _ _ _ _ _ us hl => match us, hl with | [_, _], _ => rfl
  have F_l_digit := fun_mk (st := s_l_digit) l_l_digit cc_l_digit kk_l_digit
  have b_l_digit := F_l_digit.binds (ps := ["state", "many"]) fun _ _ _ _ _ _ us hl => match us, hl with | [_, _], _ => rfl
  have F_l_octets := fun_mk (st := s_l_octets) l_l_octets cc_l_octets kk_l_octets
  have b_l_octets := F_l_octets.binds (ps := ["told"]) fun _ _ _ _ _ _ us hl => match us, hl with | [_], _ => rfl
  have F_l_holds := fun_mk (st := s_l_holds) l_l_holds cc_l_holds kk_l_holds
  have b_l_holds := F_l_holds.binds (ps := ["ledger", "host", "socket", "rows"]) fun _ _ _ _ _ _ us hl => match us, hl with | [_, _, _, _], _ => rfl
  have F_l_keys := fun_mk (st := s_l_keys) l_l_keys cc_l_keys kk_l_keys
  have b_l_keys := F_l_keys.binds (ps := ["rows"]) fun _ _ _ _ _ _ us hl => match us, hl with | [_], _ => rfl
  have F_l_same_keys := fun_mk (st := s_l_same_keys) l_l_same_keys cc_l_same_keys kk_l_same_keys
  have b_l_same_keys := F_l_same_keys.binds (ps := ["ledger", "rows"]) fun _ _ _ _ _ _ us hl => match us, hl with | [_, _], _ => rfl
  have F_law := fun_mk (st := s_law) l_law cc_law kk_law
  have b_law := F_law.binds (ps := ["script"]) fun _ _ _ _ _ _ us hl => match us, hl with | [_], _ => rfl
  let T : Txt K mg := { C_Ledger := C_Ledger, f_Ledger_init__ := f_Ledger_init__, d_Ledger_init__ := _, f_Ledger_note_write := f_Ledger_note_write, d_Ledger_note_write := _, f_Ledger_note_read := f_Ledger_note_read, d_Ledger_note_read := _, f_Ledger_note_finish := f_Ledger_note_finish, d_Ledger_note_finish := _, f_Ledger_written := f_Ledger_written, d_Ledger_written := _, f_Ledger_was_read := f_Ledger_was_read, d_Ledger_was_read := _, f_Ledger_has_finished := f_Ledger_has_finished, d_Ledger_has_finished := _, f_Ledger_iter__ := f_Ledger_iter__, d_Ledger_iter__ := _, f_l_cell := f_l_cell, d_l_cell := _, f_l_is_integer := f_l_is_integer, d_l_is_integer := _, f_l_start := f_l_start, d_l_start := _, f_l_digit := f_l_digit, d_l_digit := _, f_l_octets := f_l_octets, d_l_octets := _, f_l_holds := f_l_holds, d_l_holds := _, f_l_keys := f_l_keys, d_l_keys := _, f_l_same_keys := f_l_same_keys, d_l_same_keys := _, f_law := f_law, d_law := _, c_Ledger := PySem.W.mg_of X G c_Ledger, k_Ledger := ⟨pg_Ledger, hd_Ledger, po_Ledger, sa_Ledger⟩, n_Ledger__noted := n_Ledger__noted, n_Ledger__written := n_Ledger__written, n_Ledger__was_read := n_Ledger__was_read, n_Ledger__finished := n_Ledger__finished, F_Ledger_init__ := F_Ledger_init__, b_Ledger_init__ := b_Ledger_init__, mk_Ledger := ⟨mk0_Ledger, a_Ledger_init__, i_Ledger_init__, kc_Ledger⟩, F_Ledger_note_write := F_Ledger_note_write, b_Ledger_note_write := b_Ledger_note_write, a_Ledger_note_write := ⟨a_Ledger_note_write, i_Ledger_note_write, kk_Ledger_note_write⟩, F_Ledger_note_read := F_Ledger_note_read, b_Ledger_note_read := b_Ledger_note_read, a_Ledger_note_read := ⟨a_Ledger_note_read, i_Ledger_note_read, kk_Ledger_note_read⟩, F_Ledger_note_finish := F_Ledger_note_finish, b_Ledger_note_finish := b_Ledger_note_finish, a_Ledger_note_finish := ⟨a_Ledger_note_finish, i_Ledger_note_finish, kk_Ledger_note_finish⟩, F_Ledger_written := F_Ledger_written, b_Ledger_written := b_Ledger_written, a_Ledger_written := ⟨a_Ledger_written, i_Ledger_written, kk_Ledger_written⟩, F_Ledger_was_read := F_Ledger_was_read, b_Ledger_was_read := b_Ledger_was_read, a_Ledger_was_read := ⟨a_Ledger_was_read, i_Ledger_was_read, kk_Ledger_was_read⟩, F_Ledger_has_finished := F_Ledger_has_finished, b_Ledger_has_finished := b_Ledger_has_finished, a_Ledger_has_finished := ⟨a_Ledger_has_finished, i_Ledger_has_finished, kk_Ledger_has_finished⟩, F_Ledger_iter__ := F_Ledger_iter__, b_Ledger_iter__ := b_Ledger_iter__, a_Ledger_iter__ := ⟨a_Ledger_iter__, i_Ledger_iter__, kk_Ledger_iter__⟩, F_l_cell := F_l_cell, b_l_cell := b_l_cell, m_l_cell := PySem.W.mg_of X G a_l_cell, F_l_is_integer := F_l_is_integer, b_l_is_integer := b_l_is_integer, m_l_is_integer := PySem.W.mg_of X G a_l_is_integer, F_l_start := F_l_start, b_l_start := b_l_start, m_l_start := PySem.W.mg_of X G a_l_start, F_l_digit := F_l_digit, b_l_digit := b_l_digit, m_l_digit := PySem.W.mg_of X G a_l_digit, F_l_octets := F_l_octets, b_l_octets := b_l_octets, m_l_octets := PySem.W.mg_of X G a_l_octets, F_l_holds := F_l_holds, b_l_holds := b_l_holds, m_l_holds := PySem.W.mg_of X G a_l_holds, F_l_keys := F_l_keys, b_l_keys := b_l_keys, m_l_keys := PySem.W.mg_of X G a_l_keys, F_l_same_keys := F_l_same_keys, b_l_same_keys := b_l_same_keys, m_l_same_keys := PySem.W.mg_of X G a_l_same_keys, F_law := F_law, b_law := b_law, m_law := PySem.W.mg_of X G a_law, n_bool := PySem.W.mg_none_of X G z_bool, n_int := PySem.W.mg_none_of X G z_int, n_isinstance := PySem.W.mg_none_of X G z_isinstance, n_iter := PySem.W.mg_none_of X G z_iter, n_len := PySem.W.mg_none_of X G z_len, n_list := PySem.W.mg_none_of X G z_list, n_max := PySem.W.mg_none_of X G z_max, n_min := PySem.W.mg_none_of X G z_min, n_range := PySem.W.mg_none_of X G z_range, n_tuple := PySem.W.mg_none_of X G z_tuple }
  exact ⟨PySem.W.fnOf "law" "law" (defArgs s_law) (defBody s_law) (defScope s_law) .none kV_law dc_law pm_law an_law cd_law ct_law, fun s v => .of_eq rfl, fun base _ _ => ok_law T⟩
theorem walk {l : PySem.W.OpenLaw} {q : Program} {loose : List Str} {XP : (Str → Option Value) → Heap → Prop} {YP : World → Heap → Prop} {d : DefRec} {K : Params → PySem.W.Frag} (hn : l.most = some 63) (hdf : d.params.defaults = [])
    (hY : ∀ (w : World) (h : Heap), YP w h → (K w.params).In h)
    (F : ∀ (w : World) (mg : Str → Option Value) (fa : Addr) (h : Heap), (K w.params).In h → h.Ns mainGlobals mg → mg d.name = some (.ref fa) →
      ∃ fd : FuncData, (∀ (s : Shared) (u : Value), BindsTo s fd ⟨[u], []⟩ [("script", u)]) ∧ ∀ base : Heap, (K w.params).In base → base.Ns mainGlobals mg → FnOk l.prog w (K w.params) mg base CX0 4 fa fd ["script"] (sp_law (K w.params))) :
    PySem.W.WalkO q loose XP YP l.row.toRowW d [] (fun f vs => PySem.call f vs) :=
  L2.walk_of (n := 63) (k := 4) (x := "script") (CX := fun _ => CX0) (sp := fun w => sp_law (K w.params)) hn (by decide) hdf ⟨rfl, by decide, by decide⟩ hY F (fun _ _ a ns hl _ hS => ⟨a, ns, rfl, hS, hl, fun _ => rfl⟩) fun _ _ _ _ _ z => z
end My
open PySem PySem.W PyProof.Rows
set_option maxRecDepth 100000 in
set_option maxHeartbeats 0 in
theorem PySem.Challenge.cw_throughline_k62_ledger_holds : PySem.Challenge.rw_throughline_k62_ledger.Holds := by
  w_on; o_law; k_head; (case hw => w_witness2)
  k_fill
  refine My.walk (l := PySem.Challenge.rw_throughline_k62_ledger) rfl rfl (fun w h Y => PySem.W.kIn_of Y) ?F
  case F =>
    intro w mg fa h KX G hmg
    refine' My.all_mk KX G hmg ?c_Ledger ?pg_Ledger ?hd_Ledger ?po_Ledger ?sa_Ledger ?mk0_Ledger ?kc_Ledger ?n_Ledger__noted ?n_Ledger__written ?n_Ledger__was_read ?n_Ledger__finished ?a_Ledger_init__ ?i_Ledger_init__ ?l_Ledger_init__ ?cc_Ledger_init__ ?kk_Ledger_init__ ?a_Ledger_note_write ?i_Ledger_note_write ?l_Ledger_note_write ?cc_Ledger_note_write ?kk_Ledger_note_write ?a_Ledger_note_read ?i_Ledger_note_read ?l_Ledger_note_read ?cc_Ledger_note_read ?kk_Ledger_note_read ?a_Ledger_note_finish ?i_Ledger_note_finish ?l_Ledger_note_finish ?cc_Ledger_note_finish ?kk_Ledger_note_finish ?a_Ledger_written ?i_Ledger_written ?l_Ledger_written ?cc_Ledger_written ?kk_Ledger_written ?a_Ledger_was_read ?i_Ledger_was_read ?l_Ledger_was_read ?cc_Ledger_was_read ?kk_Ledger_was_read ?a_Ledger_has_finished ?i_Ledger_has_finished ?l_Ledger_has_finished ?cc_Ledger_has_finished ?kk_Ledger_has_finished ?a_Ledger_iter__ ?i_Ledger_iter__ ?l_Ledger_iter__ ?cc_Ledger_iter__ ?kk_Ledger_iter__ ?a_l_cell ?l_l_cell ?cc_l_cell ?kk_l_cell ?a_l_is_integer ?l_l_is_integer ?cc_l_is_integer ?kk_l_is_integer ?a_l_start ?l_l_start ?cc_l_start ?kk_l_start ?a_l_digit ?l_l_digit ?cc_l_digit ?kk_l_digit ?a_l_octets ?l_l_octets ?cc_l_octets ?kk_l_octets ?a_l_holds ?l_l_holds ?cc_l_holds ?kk_l_holds ?a_l_keys ?l_l_keys ?cc_l_keys ?kk_l_keys ?a_l_same_keys ?l_l_same_keys ?cc_l_same_keys ?kk_l_same_keys ?a_law ?l_law ?cc_law ?kk_law ?z_bool ?z_int ?z_isinstance ?z_iter ?z_len ?z_list ?z_max ?z_min ?z_range ?z_tuple
    (case c_Ledger => k_is)
    (case pg_Ledger => k_is)
    (case hd_Ledger => k_is)
    (case po_Ledger => k_is)
    (case sa_Ledger => k_is)
    (case mk0_Ledger => k_is)
    (case kc_Ledger => k_is)
    (case n_Ledger__noted => k_is)
    (case n_Ledger__written => k_is)
    (case n_Ledger__was_read => k_is)
    (case n_Ledger__finished => k_is)
    (case a_Ledger_init__ => k_is)
    (case i_Ledger_init__ => k_is)
    (case l_Ledger_init__ => k_is)
    (case cc_Ledger_init__ => k_is)
    (case kk_Ledger_init__ => k_is)
    (case a_Ledger_note_write => k_is)
    (case i_Ledger_note_write => k_is)
    (case l_Ledger_note_write => k_is)
    (case cc_Ledger_note_write => k_is)
    (case kk_Ledger_note_write => k_is)
    (case a_Ledger_note_read => k_is)
    (case i_Ledger_note_read => k_is)
    (case l_Ledger_note_read => k_is)
    (case cc_Ledger_note_read => k_is)
    (case kk_Ledger_note_read => k_is)
    (case a_Ledger_note_finish => k_is)
    (case i_Ledger_note_finish => k_is)
    (case l_Ledger_note_finish => k_is)
    (case cc_Ledger_note_finish => k_is)
    (case kk_Ledger_note_finish => k_is)
    (case a_Ledger_written => k_is)
    (case i_Ledger_written => k_is)
    (case l_Ledger_written => k_is)
    (case cc_Ledger_written => k_is)
    (case kk_Ledger_written => k_is)
    (case a_Ledger_was_read => k_is)
    (case i_Ledger_was_read => k_is)
    (case l_Ledger_was_read => k_is)
    (case cc_Ledger_was_read => k_is)
    (case kk_Ledger_was_read => k_is)
    (case a_Ledger_has_finished => k_is)
    (case i_Ledger_has_finished => k_is)
    (case l_Ledger_has_finished => k_is)
    (case cc_Ledger_has_finished => k_is)
    (case kk_Ledger_has_finished => k_is)
    (case a_Ledger_iter__ => k_is)
    (case i_Ledger_iter__ => k_is)
    (case l_Ledger_iter__ => k_is)
    (case cc_Ledger_iter__ => k_is)
    (case kk_Ledger_iter__ => k_is)
    (case a_l_cell => k_is)
    (case l_l_cell => k_is)
    (case cc_l_cell => k_is)
    (case kk_l_cell => k_is)
    (case a_l_is_integer => k_is)
    (case l_l_is_integer => k_is)
    (case cc_l_is_integer => k_is)
    (case kk_l_is_integer => k_is)
    (case a_l_start => k_is)
    (case l_l_start => k_is)
    (case cc_l_start => k_is)
    (case kk_l_start => k_is)
    (case a_l_digit => k_is)
    (case l_l_digit => k_is)
    (case cc_l_digit => k_is)
    (case kk_l_digit => k_is)
    (case a_l_octets => k_is)
    (case l_l_octets => k_is)
    (case cc_l_octets => k_is)
    (case kk_l_octets => k_is)
    (case a_l_holds => k_is)
    (case l_l_holds => k_is)
    (case cc_l_holds => k_is)
    (case kk_l_holds => k_is)
    (case a_l_keys => k_is)
    (case l_l_keys => k_is)
    (case cc_l_keys => k_is)
    (case kk_l_keys => k_is)
    (case a_l_same_keys => k_is)
    (case l_l_same_keys => k_is)
    (case cc_l_same_keys => k_is)
    (case kk_l_same_keys => k_is)
    (case a_law => k_is)
    (case l_law => k_is)
    (case cc_law => k_is)
    (case kk_law => k_is)
    (case z_bool => k_is)
    (case z_int => k_is)
    (case z_isinstance => k_is)
    (case z_iter => k_is)
    (case z_len => k_is)
    (case z_list => k_is)
    (case z_max => k_is)
    (case z_min => k_is)
    (case z_range => k_is)
    (case z_tuple => k_is)
#print axioms PySem.Challenge.cw_throughline_k62_ledger_holds

