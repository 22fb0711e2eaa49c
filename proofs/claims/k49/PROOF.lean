import PyProof.Rows.All
import Wide.All
import OpenK.AllK
import Wide.FinOn
import HandS.ForMost
import HandS.IsInst
import HandS.Wide
import HandS.Style
import HandS.Conv
import HandS.RevRange
import HandS.Walk
import HandS.Property
import HandS.Star
import HandS.Codes
import HandS.TupAny
import HandS.WideBits
import HandS.ForExc
import HandS.Small
import HandS.RaiseMore
import HandS.FStr
import HandS.ExcIs
import HandS.WrittenGet
import HandS.More
import HandS.Flow
import PySem.Challenge.RW_throughline_k49_frames
set_option Elab.async false
set_option linter.all false
set_option maxRecDepth 100000
set_option maxHeartbeats 4000000
namespace My
open PySem PySem.Spec L2
/-! ### readings, one rule a construct -/
section
variable {K : PySem.W.Frag} {σ : St} {H : Hp} {Q : VK} {v x y z : V} {ta tb te tc : TE} {tt tu : TT} {r : R2} {D : Ends} {ts us : TS} {P : Bool → Hp → Prop} {i j : Int}
theorem g_var {i : Nat} (h : σ[i]? = some (some v)) (q : Q v H) : tVar i σ H Q := ⟨v, h, q⟩
theorem g_c (q : Q v H) : tC v σ H Q := q
theorem g_op (h : ta σ H fun x H1 => tb σ H1 fun y H2 => r x y H2 Q) : tOp r ta tb σ H Q := h
theorem g_un {r : V → Hp → VK → Prop} (h : ta σ H fun x H1 => r x H1 Q) : tUn r ta σ H Q := h
theorem g_rI0 {g : Int → Int → V} (q : Q (g i j) H) : rI0 g (.int i) (.int j) H Q := ⟨i, j, rfl, rfl, q⟩
theorem g_rI {C : Int → Int → Prop} {g : Int → Int → V} (c : C i j) (q : Q (g i j) H) : rI C g (.int i) (.int j) H Q := ⟨i, j, rfl, rfl, c, q⟩
theorem g_rU {g : Int → V} (q : Q (g i) H) : rU g (.int i) H Q := ⟨i, rfl, q⟩
theorem g_rEqI (q : Q (.bl (decide (i = j))) H) : rEq (.int i) (.int j) H Q := ⟨rfl, by rw [dec_int]; exact q⟩
theorem g_rNeI (q : Q (.bl (!decide (i = j))) H) : rNe (.int i) (.int j) H Q := ⟨rfl, by rw [dec_int]; exact q⟩
theorem g_rEq (s : scal x y = true) (q : Q (.bl (decide (x = y))) H) : rEq x y H Q := ⟨s, q⟩
theorem g_rNe (s : scal x y = true) (q : Q (.bl (!decide (x = y))) H) : rNe x y H Q := ⟨s, q⟩
theorem g_isN {A : Prop} (q : A) : V.non = V.non ∧ A := ⟨rfl, q⟩
theorem g_rIsB {a b : Bool} (q : Q (.bl (decide (a = b))) H) : rIsB (.bl a) (.bl b) H Q := ⟨a, b, rfl, rfl, q⟩
theorem g_rNotB {a b : Bool} (q : Q (.bl (!decide (a = b))) H) : rNotB (.bl a) (.bl b) H Q := ⟨a, b, rfl, rfl, q⟩
theorem g_test {t : TE} (h : t σ H fun x H' => ∃ k, x = .bl k ∧ P k H') : tTest t σ H P := h
theorem g_B {t : TE} (h : t σ H fun x H' => ∃ k, x = .bl k ∧ P k H') : tB t σ H P := h
theorem g_bl {b : Bool} {A : Bool → Prop} (q : A b) : ∃ k, V.bl b = .bl k ∧ A k := ⟨b, rfl, q⟩
theorem g_and (h : tt σ H fun c H1 => if c = true then tu σ H1 P else P false H1) : tAnd tt tu σ H P := h
theorem g_or (h : tt σ H fun c H1 => if c = true then P true H1 else tu σ H1 P) : tOr tt tu σ H P := h
theorem g_not (h : tt σ H fun c H1 => P (!c) H1) : tNot tt σ H P := h
theorem g_andV (h : ta σ H fun x H1 => ∃ c, x = .bl c ∧ if c = true then tb σ H1 Q else Q (.bl false) H1) : tAndV ta tb σ H Q := h
theorem g_orV (h : ta σ H fun x H1 => ∃ c, x = .bl c ∧ if c = true then Q (.bl true) H1 else tb σ H1 Q) : tOrV ta tb σ H Q := h
theorem g_notV (h : ta σ H fun x H1 => ∃ c, x = .bl c ∧ Q (.bl (!c)) H1) : tNotV ta σ H Q := h
theorem g_if (h : tt σ H fun c H1 => if c = true then ta σ H1 Q else tb σ H1 Q) : tIf tt ta tb σ H Q := h
theorem g_chain {r' : R2} (h : ta σ H fun x H1 => tb σ H1 fun y H2 => r x y H2 fun z H3 => ∃ k, z = .bl k ∧ (if k = true then tc σ H3 fun w' H4 => r' y w' H4 Q else Q (.bl false) H3)) : tChain r r' ta tb tc σ H Q := h
theorem g_nil {A : List V → Hp → Prop} (q : A [] H) : tNil σ H A := q
theorem g_cons {tr : TA} {A : List V → Hp → Prop} (h : ta σ H fun x H1 => tr σ H1 fun xs H2 => A (x :: xs) H2) : tCons ta tr σ H A := h
theorem g_tup {t : TA} (h : t σ H fun xs H1 => xs.length ≤ sizeLine ∧ ∀ p, H1 p = none → Q (.ref p) (upd H1 p (.tup xs))) : tTup t σ H Q := h
theorem g_lst {t : TA} (h : t σ H fun xs H1 => xs.length ≤ sizeLine ∧ ∀ p, H1 p = none → Q (.ref p) (upd H1 p (.lst xs))) : tLst t σ H Q := h
theorem g_call {sp : Sp} {dvs : List V} {E : XK} {t : TA} (h : t σ H fun vs H1 => sp (vs ++ dvs) H1 Q E) : tCall sp dvs E t σ H Q := h
theorem g_CB {r : List V → Hp → VK → Prop} {t : TA} (h : t σ H fun vs H1 => r vs H1 Q) : tCB r t σ H Q := h
theorem g_sl {r : V → Option Int → Option Int → Hp → VK → Prop} {tl th : TO} (h : te σ H fun x H1 => tl σ H1 fun l H2 => th σ H2 fun u H3 => r x l u H3 Q) : tSl r te tl th σ H Q := h
theorem g_noPart {A : Option Int → Hp → Prop} (q : A none H) : tNoPart σ H A := q
theorem g_part {A : Option Int → Hp → Prop} (h : te σ H fun x H1 => ∃ i, x = .int i ∧ A (some i) H1) : tPart te σ H A := h
theorem g_intE {A : Int → Prop} (q : A i) : ∃ k, V.int i = .int k ∧ A k := ⟨i, rfl, q⟩
theorem g_seq (h : ts { D with nx := us D } σ H) : tSeq ts us D σ H := h
theorem g_next (q : D.nx σ H) : tNext D σ H := q
theorem g_brk (q : D.bk σ H) : tBreak D σ H := q
theorem g_ct (q : D.ct σ H) : tCont D σ H := q
theorem g_asg {g : TG} (h : te σ H fun x H1 => g x σ H1 D.nx) : tAsg te g D σ H := h
theorem g_name {i : Nat} {A : St → Hp → Prop} (q : A (σ.set i (some v)) H) : gName i v σ H A := q
theorem g_aug {i : Nat} {ti : TIp} (h : σ[i]? = some (some x)) (q : te σ H fun y H1 => ti x y H1 fun z H2 => D.nx (σ.set i (some z)) H2) : tAug i te ti D σ H := ⟨x, h, q⟩
theorem g_ipI {f : Int → Int → Int} (q : Q (.int (f i j)) H) : ipI f (.int i) (.int j) H Q := ⟨i, j, rfl, rfl, q⟩
theorem g_drop (h : te σ H fun _ H1 => D.nx σ H1) : tDrop te D σ H := h
theorem g_ret (h : te σ H D.rt) : tRet te D σ H := h
theorem g_retN (q : D.rt .non H) : tRetN D σ H := q
theorem g_ifS (h : tt σ H fun b H1 => if b = true then ts D σ H1 else us D σ H1) : tIfS tt ts us D σ H := h
theorem g_for {wi : TI} {g : TG} {tb : TS} (h : wi σ H fun J H1 => ∃ W : Nat → Nat → St → Hp → Prop, (∃ m, W 0 m σ H1) ∧ ∀ i m σ H, W i m σ H →
    (J.stop i H ∧ D.nx σ H) ∨ (J.go i H ∧ ∃ N : St → Hp → Prop, (∀ σ' H', N σ' H' → ∃ m', m' < m ∧ W (i + 1) m' σ' H') ∧ ∀ x H', J.yld i H x H' → g x σ H' fun σ2 H2 => tb { D with nx := N, ct := N, bk := D.nx } σ2 H2)) : tFor wi g tb D σ H := h
theorem g_iT {c : Bool} {A B : Prop} (e : c = true) (h : A) : if c = true then A else B := by rw [if_pos e]; exact h
theorem g_iF {c : Bool} {A B : Prop} (e : c = false) (h : B) : if c = true then A else B := by rw [e]; exact iteF h
theorem g_ite {p A B : Prop} [Decidable p] (h1 : p → A) (h2 : ¬ p → B) : if decide p = true then A else B := by
  by_cases h : p
  · rw [decide_eq_true h]; exact iteT (h1 h)
  · rw [decide_eq_false h]; exact iteF (h2 h)
theorem g_iteN {p A B : Prop} [Decidable p] (h1 : ¬ p → A) (h2 : p → B) : if (!decide p) = true then A else B := by
  by_cases h : p
  · rw [decide_eq_true h]; exact iteF (h2 h)
  · rw [decide_eq_false h]; exact iteT (h1 h)
theorem g_iteB {b : Bool} {A B : Prop} (h1 : b = true → A) (h2 : b = false → B) : if b = true then A else B := by
  cases b with
  | true => exact iteT (h1 rfl)
  | false => exact iteF (h2 rfl)
theorem g_iteNB {b : Bool} {A B : Prop} (h1 : b = false → A) (h2 : b = true → B) : if (!b) = true then A else B := by
  cases b with
  | true => exact iteF (h2 rfl)
  | false => exact iteT (h1 rfl)
/-! calls of built-ins, by values -/
theorem g_int1 {A : Int → Prop} {B : Bool → Prop} (q : A i) : (∃ i', [V.int i] = [V.int i'] ∧ A i') ∨ ∃ k, [V.int i] = [V.bl k] ∧ B k := .inl ⟨i, rfl, q⟩
theorem g_int1B {b : Bool} {A : Int → Prop} {B : Bool → Prop} (q : B b) : (∃ i', [V.bl b] = [V.int i'] ∧ A i') ∨ ∃ k, [V.bl b] = [V.bl k] ∧ B k := .inr ⟨b, rfl, q⟩
theorem g_one {A : Int → Prop} (q : A i) : ∃ i', [V.int i] = [V.int i'] ∧ A i' := ⟨i, rfl, q⟩
theorem g_two {A : Int → Int → Prop} (q : A i j) : ∃ i' j', [V.int i, V.int j] = [V.int i', V.int j'] ∧ A i' j' := ⟨i, j, rfl, q⟩
theorem g_isi {c : V} {t u : Value} {b : Bool} (hc : ClsV c u) (ht : TyX K H x t) (e : PySem.W.kitOne K t u = some b) (q : Q (.bl b) H) : rIsi K [x, c] H Q := ⟨x, c, t, u, b, rfl, hc, ht, e, q⟩
theorem g_isiI (q : Q (.bl true) H) : rIsi K [.int i, .ty "int"] H Q := g_isi (.ty _) (.base (.int _)) (kit_ty (by decide +kernel)) q
theorem g_isiB {b : Bool} (q : Q (.bl true) H) : rIsi K [.bl b, .ty "bool"] H Q := g_isi (.ty _) (.base (.bl _)) (kit_ty (by decide +kernel)) q
theorem g_isiIB (q : Q (.bl false) H) : rIsi K [.int i, .ty "bool"] H Q := g_isi (.ty _) (.base (.int _)) (kit_ty (by decide +kernel)) q
theorem g_isiL {p : Addr} {xs : List V} (h : H p = some (.lst xs)) (q : Q (.bl true) H) : rIsi K [.ref p, .ty "list"] H Q := g_isi (.ty _) (.base (.lst h)) (kit_ty (by decide +kernel)) q
theorem g_isiU {p : Addr} {xs : List V} (h : H p = some (.tup xs)) (q : Q (.bl true) H) : rIsi K [.ref p, .ty "tuple"] H Q := g_isi (.ty _) (.base (.tup h)) (kit_ty (by decide +kernel)) q
theorem g_ixL {p : Addr} {xs : List V} (h : SqL K H p xs) (e : atI xs i = some v) (q : Q v H) : rIxL K (.ref p) (.int i) H Q := ⟨p, xs, i, v, rfl, rfl, h, e, q⟩
theorem g_ixT {p : Addr} {xs : List V} (h : SqT K H p xs) (e : atI xs i = some v) (q : Q v H) : rIxT K (.ref p) (.int i) H Q := ⟨p, xs, i, v, rfl, rfl, h, e, q⟩
theorem g_append {p : Addr} {xs : List V} (h : H p = some (.lst xs)) (l : xs.length < sizeLine) (q : Q .non (upd H p (.lst (xs ++ [y])))) : rAppend (.ref p) [y] H Q := ⟨p, xs, y, rfl, rfl, h, l, q⟩
theorem g_BM {T : String} {r : V → List V → Hp → VK → Prop} {t : TA} (h : te σ H fun x H1 => tyV K T x H1 ∧ t σ H1 fun xs H2 => r x xs H2 Q) : tBM K T r te t σ H Q := h
theorem g_BM0 {T : String} {r : V → List V → Hp → VK → Prop} (h : te σ H fun x H1 => tyV K T x H1 ∧ r x [] H1 Q) : tBM0 K T r te σ H Q := h
theorem ty_l {p : Addr} {xs : List V} (h : H p = some (.lst xs)) : tyV K "list" (.ref p) H := Or.inl ⟨rfl, _, Or.inl (Or.inl h)⟩
theorem g_setL {p : Addr} {xs : List V} {k : Int} {j : Nat} {A : Hp → Prop} (h : H p = some (.lst xs)) (e : ixN xs.length k = some j) (q : A (upd H p (.lst (xs.set j v)))) : rSetL (.ref p) (.int k) v H A := ⟨p, xs, k, j, rfl, rfl, h, e, q⟩
theorem g_sub {to ti : TE} {t : TSet} {A : St → Hp → Prop} (h : to σ H fun o H1 => ti σ H1 fun i H2 => t o i v H2 fun H3 => A σ H3) : gSub to ti t v σ H A := h
theorem g_len {p : Addr} {xs : List V} {A : Addr → List V → Prop} (h : SqL K H p xs ∨ SqT K H p xs) (q : A p xs) : ∃ p' ys, [V.ref p] = [V.ref p'] ∧ (SqL K H p' ys ∨ SqT K H p' ys) ∧ A p' ys := ⟨p, xs, rfl, h, q⟩
theorem g_slL {p : Addr} {xs : List V} {lo hi : Option Int} (h : SqL K H p xs) (q : ∀ l, H l = none → Q (.ref l) (upd H l (.lst (cutV xs lo hi)))) : rSlL K (.ref p) lo hi H Q := ⟨p, xs, rfl, h, q⟩
theorem g_cat {p q : Addr} {xs ys : List V} (h : H p = some (.lst xs)) (h2 : H q = some (.lst ys)) (l : xs.length + ys.length ≤ sizeLine) (k : ∀ l, H l = none → Q (.ref l) (upd H l (.lst (xs ++ ys)))) : rCat (.ref p) (.ref q) H Q := ⟨p, q, xs, ys, rfl, rfl, h, h2, l, k⟩
end
/-! ### heaps -/
theorem same_upd {H : Hp} {p : Addr} {o : HO} (h : H p = none) : Same H (upd H p o) := fun b x e => by
  rw [upd_ne (ne_of_none e h)]
  exact e
theorem sm {H H' : Hp} {p : Addr} {o : HO} (s : Same H H') (h : H p = some o) : H' p = some o := s p o h
theorem sq_upd {K : PySem.W.Frag} {H : Hp} {p a : Addr} {o : HO} {xs : List V} (n : H p = none) (h : SqL K H a xs) : SqL K (upd H p o) a xs := (same_upd n).seq h
theorem sl {K : PySem.W.Frag} {H : Hp} {a : Addr} {xs : List V} (h : H a = some (.lst xs)) : SqL K H a xs := Or.inl (Or.inl h)
theorem st {K : PySem.W.Frag} {H : Hp} {a : Addr} {xs : List V} (h : H a = some (.tup xs)) : SqT K H a xs := Or.inl (Or.inl h)
theorem Same.sqt {K : PySem.W.Frag} {H H' : Hp} {a : Addr} {xs : List V} (e : Same H H') (h : SqT K H a xs) : SqT K H' a xs := by
  rcases h with (h | ⟨o, h⟩) | h
  · exact .inl (.inl (e _ _ h))
  · exact .inl (.inr ⟨o, e _ _ h⟩)
  · exact .inr h
theorem upd_keep {H : Hp} {p b : Addr} {o o' : HO} (n : H p = none) (h : H b = some o') : upd H p o b = some o' := (same_upd n) b o' h
theorem ne_new {H : Hp} {p b : Addr} {o : HO} (h : H b = some o) (n : H p = none) : b ≠ p := ne_of_none h n
/-- H' is H but at p -/
def But (p : Addr) (H H' : Hp) : Prop := ∀ b o, b ≠ p → H b = some o → H' b = some o
theorem But.refl {p : Addr} {H : Hp} : But p H H := fun _ _ _ h => h
theorem But.of {p : Addr} {H H' : Hp} (s : Same H H') : But p H H' := fun b o _ h => s b o h
theorem But.trans {p : Addr} {H H1 H2 : Hp} (a : But p H H1) (b : But p H1 H2) : But p H H2 := fun c o n h => b c o n (a c o n h)
theorem But.upd {p : Addr} {H H' : Hp} {o : HO} (a : But p H H') : But p H (upd H' p o) := fun b o n h => by rw [upd_ne n]; exact a b o n h
theorem But.same {p : Addr} {H H' : Hp} (a : But p H H') (n : H p = none) : Same H H' := fun b o h => a b o (ne_of_none h n) h
theorem But.tr2 {p : Addr} {H H1 H2 : Hp} (s : Same H H1) (n : H p = none) (a : But p H1 H2) : Same H H2 := fun b o h => a b o (ne_of_none h n) (s b o h)
/-! ### numbers -/
theorem cdivW {a b : Int} (h : 0 < b) (h2 : b < 2 ^ 8000) : CDivW a b := by
  refine ⟨h, ?_⟩
  have e : b.natAbs < 2 ^ 8000 := by
    have : ((b.natAbs : Nat) : Int) < ((2 ^ 8000 : Nat) : Int) := by
      rw [Int.natAbs_of_nonneg (Int.le_of_lt h)]
      exact_mod_cast h2
    exact_mod_cast this
  by_cases z : b.natAbs = 0
  · rw [z]; decide
  · exact Nat.lt_of_lt_of_le (Nat.log2_lt z |>.mpr e) (by decide)
theorem sz {n : Nat} (h : n ≤ 100000) : n ≤ sizeLine := Nat.le_trans h (by decide)
theorem szl {n : Nat} (h : n < 100000) : n < sizeLine := Nat.lt_of_lt_of_le h (by decide)
/-! ### loops -/
theorem for_l {K : PySem.W.Frag} {tl : TE} {g : TG} {tb : TS} {D : Ends} {σ : St} {H : Hp} {a : Addr} {xs : List V} (Pv : Nat → St → Hp → Prop) (hs : SqL K H a xs) (h0 : Pv 0 σ H) (hl : ∀ i σ H, i ≤ xs.length → Pv i σ H → SqL K H a xs)
    (turn : ∀ i x σ H, xs[i]? = some x → Pv i σ H → g x σ H fun σ2 H2 => tb { D with nx := Pv (i + 1), ct := Pv (i + 1), bk := D.nx } σ2 H2) (hd : ∀ σ H, Pv xs.length σ H → D.nx σ H) (e : ∀ R : V → Hp → Prop, R (.ref a) H → tl σ H R) : tFor (iList K tl) g tb D σ H := by
  refine g_for ?_
  refine e _ ⟨a, rfl, ⟨_, hs⟩, ?_⟩
  exact for_list (xs := xs) Pv h0 hl turn hd
theorem for_r {ta : TA} {g : TG} {tb : TS} {D : Ends} {σ : St} {H : Hp} {n : Int} (N : Nat) (en : n.toNat = N) (b1 : -(2 ^ 62) ≤ n) (b2 : n < 2 ^ 62) (Pv : Nat → St → Hp → Prop) (h0 : Pv 0 σ H)
    (turn : ∀ (i : Nat) σ H, i < N → Pv i σ H → g (.int (i : Int)) σ H fun σ2 H2 => tb { D with nx := Pv (i + 1), ct := Pv (i + 1), bk := D.nx } σ2 H2) (hd : ∀ σ H, Pv N σ H → D.nx σ H) (e : ∀ R : List V → Hp → Prop, R [.int n] H → ta σ H R) : tFor (iRng1 ta) g tb D σ H := by
  subst en
  refine g_for ?_
  refine e _ ⟨n, rfl, b1, b2, ?_⟩
  refine for_range (lo := 0) Pv h0 (fun i σ H hi p => ?_) hd
  have z := turn i σ H hi p
  rw [Int.zero_add]
  exact z
theorem g_nx {nx : St → Hp → Prop} {rt : VK} {bk ct : St → Hp → Prop} {σ : St} {H : Hp} (q : nx σ H) : (Ends.mk nx rt bk ct).nx σ H := q
theorem g_bkE {nx : St → Hp → Prop} {rt : VK} {bk ct : St → Hp → Prop} {σ : St} {H : Hp} (q : bk σ H) : (Ends.mk nx rt bk ct).bk σ H := q
theorem g_ctE {nx : St → Hp → Prop} {rt : VK} {bk ct : St → Hp → Prop} {σ : St} {H : Hp} (q : ct σ H) : (Ends.mk nx rt bk ct).ct σ H := q
theorem g_rt {nx : St → Hp → Prop} {rt : VK} {bk ct : St → Hp → Prop} {v : V} {H : Hp} (q : rt v H) : (Ends.mk nx rt bk ct).rt v H := q
/-- a cell of the script -/
def cell (ns : List Int) (k : Int) : Int := ns.getD k.toNat 0
theorem atI_map {ns : List Int} {k : Int} (h0 : 0 ≤ k) (h : k < (ns.length : Int)) : atI (ns.map V.int) k = some (.int (cell ns k)) := by
  have e : k = ((k.toNat : Nat) : Int) := by omega
  have hl : k.toNat < ns.length := by omega
  have e2 : cell ns k = ns[k.toNat] := by
    unfold cell
    rw [List.getD_eq_getElem?_getD, List.getElem?_eq_getElem hl]; rfl
  rw [e2]
  refine at_of e ?_
  rw [List.getElem?_map, List.getElem?_eq_getElem hl]; rfl
theorem cell_out {ns : List Int} {k : Int} (h : ¬ k < (ns.length : Int)) : cell ns k = 0 := by
  unfold cell
  rw [List.getD_eq_getElem?_getD, List.getElem?_eq_none (by omega)]; rfl
theorem atI_some {xs : List V} {i : Int} (h0 : 0 ≤ i) (h : i < (xs.length : Int)) : ∃ v, xs[i.toNat]? = some v ∧ atI xs i = some v := by
  have hl : i.toNat < xs.length := by omega
  exact ⟨xs[i.toNat], List.getElem?_eq_getElem hl, at_of (by omega) (List.getElem?_eq_getElem hl)⟩
theorem atI_ints {xs : List Int} {i : Int} (h0 : 0 ≤ i) (h : i < (xs.length : Int)) : ∃ n, atI (xs.map V.int) i = some (.int n) ∧ xs[i.toNat]? = some n := by
  have hl : i.toNat < xs.length := by omega
  refine ⟨xs[i.toNat], at_of (j := i.toNat) (by omega) ?_, List.getElem?_eq_getElem hl⟩
  rw [List.getElem?_map, List.getElem?_eq_getElem hl]; rfl
theorem g_dT {p A B : Prop} [Decidable p] (h : p) (q : A) : if decide p = true then A else B := by rw [decide_eq_true h]; exact iteT q
theorem g_dF {p A B : Prop} [Decidable p] (h : ¬ p) (q : B) : if decide p = true then A else B := by rw [decide_eq_false h]; exact iteF q
theorem g_nT {p A B : Prop} [Decidable p] (h : ¬ p) (q : A) : if (!decide p) = true then A else B := by rw [decide_eq_false h]; exact iteT q
theorem g_nF {p A B : Prop} [Decidable p] (h : p) (q : B) : if (!decide p) = true then A else B := by rw [decide_eq_true h]; exact iteF q
/-! ### comprehensions: the list ys, value by value -/
theorem g_yes {σ : St} {H : Hp} {P : Bool → Hp → Prop} (q : P true H) : tYes σ H P := q
theorem g_lc {wi : TI} {g : TG} {tt : TT} {te : TE} {vs : List Nat} {σ : St} {H : Hp} {Q : VK} (h : wi σ H fun J H1 => ∀ D, H1 D = none → ∃ W : Nat → Nat → Hp → Prop, (∃ m, W 0 m (upd H1 D (.lst []))) ∧ ∀ i m H, W i m H →
  (J.stop i H ∧ Q (.ref D) H) ∨ (J.go i H ∧ ∃ Nx : Hp → Prop, (∀ H', Nx H' → ∃ m', m' < m ∧ W (i + 1) m' H') ∧ ∀ x H', J.yld i H x H' → g x (wipe σ vs) H' fun σ2 H2 => wipe σ2 vs = wipe σ vs ∧ tt σ2 H2 fun b H3 =>
    if b = true then te σ2 H3 fun y H4 => ∃ acc, H4 D = some (.lst acc) ∧ acc.length < sizeLine ∧ Nx (upd H4 D (.lst (acc ++ [y]))) else Nx H3)) : tLc wi g tt te vs σ H Q := h
theorem g_revR {ta : TE} {σ : St} {H : Hp} {R : It → Hp → Prop} (h : ta σ H fun x H1 => ∃ n : Int, x = .int n ∧ -(2 ^ 62) ≤ (0 : Int) ∧ (0 : Int) < 2 ^ 62 ∧ -(2 ^ 62) ≤ n ∧ n < 2 ^ 62 ∧ R (Itc (0 + (((n - 0).toNat : Nat) : Int) - 1) (-1) (n - 0).toNat) H1) : iRevR (tRg1 ta) σ H R := h
theorem g_rng1 {ta : TA} {σ : St} {H : Hp} {R : It → Hp → Prop} (h : ta σ H fun vs H1 => ∃ j : Int, vs = [.int j] ∧ -(2 ^ 62) ≤ j ∧ j < 2 ^ 62 ∧ R (Itr 0 j.toNat) H1) : iRng1 ta σ H R := h
theorem g_iList {K : PySem.W.Frag} {tl : TE} {σ : St} {H : Hp} {R : It → Hp → Prop} (h : tl σ H fun x H1 => ∃ a, x = .ref a ∧ (∃ xs, SqL K H1 a xs) ∧ R (Itl K a) H1) : iList K tl σ H R := h
def LcP (H1 : Hp) (D : Addr) (ys : List V) (i : Nat) (H : Hp) : Prop := Same H1 H ∧ H D = some (.lst (ys.take i))
theorem lc_vals {J : It} {n : Nat} {G : Hp → Prop} {Y : Nat → Hp → V → Hp → Prop} (w : Walk J n G Y) (ys : List V) {g : TG} {tt : TT} {te : TE} {vs : List Nat} {σ : St} {H1 : Hp} {D : Addr} {Qd : Hp → Prop} (hD : H1 D = none) (hlen : ys.length = n) (hG : ∀ H, Same H1 H → G H)
    (hs : ∀ i x H H', i < n → LcP H1 D ys i H → Y i H x H' → g x (wipe σ vs) H' fun σ2 H2 => wipe σ2 vs = wipe σ vs ∧ tt σ2 H2 fun b H3 =>
      if b = true then te σ2 H3 fun y H4 => ∃ acc, H4 D = some (.lst acc) ∧ acc.length < sizeLine ∧ LcP H1 D ys (i + 1) (upd H4 D (.lst (acc ++ [y]))) else LcP H1 D ys (i + 1) H3)
    (hd : ∀ H, Same H1 H → H D = some (.lst ys) → Qd H) :
    ∃ W : Nat → Nat → Hp → Prop, (∃ m, W 0 m (upd H1 D (.lst []))) ∧ ∀ i m H, W i m H →
      (J.stop i H ∧ Qd H) ∨ (J.go i H ∧ ∃ Nx : Hp → Prop, (∀ H', Nx H' → ∃ m', m' < m ∧ W (i + 1) m' H') ∧ ∀ x H', J.yld i H x H' → g x (wipe σ vs) H' fun σ2 H2 => wipe σ2 vs = wipe σ vs ∧ tt σ2 H2 fun b H3 =>
        if b = true then te σ2 H3 fun y H4 => ∃ acc, H4 D = some (.lst acc) ∧ acc.length < sizeLine ∧ Nx (upd H4 D (.lst (acc ++ [y]))) else Nx H3) := by
  refine lc_it w (LcP H1 D ys) ⟨same_upd hD, by rw [upd_same]; rfl⟩ (fun i H _ p => hG H p.1) hs (fun H p => hd H p.1 ?_)
  have e := p.2
  rw [← hlen, List.take_length] at e
  exact e
theorem lc_next {H1 H4 : Hp} {D : Addr} {ys : List V} {i : Nat} {y : V} (hD : H1 D = none) (p : LcP H1 D ys i H4) (hz : ys.length ≤ 100000) (hy : ys[i]? = some y) :
    ∃ acc, H4 D = some (.lst acc) ∧ acc.length < sizeLine ∧ LcP H1 D ys (i + 1) (upd H4 D (.lst (acc ++ [y]))) := by
  refine ⟨_, p.2, ?_, ?_, ?_⟩
  · rw [List.length_take]
    obtain ⟨h, _⟩ := List.getElem?_eq_some_iff.mp hy
    exact szl (by omega)
  · exact (But.of p.1).upd.same hD
  · rw [upd_same, List.take_add_one, hy]
    rfl
theorem LcP.same {H1 H4 H5 : Hp} {D : Addr} {ys : List V} {i : Nat} (p : LcP H1 D ys i H4) (s : Same H4 H5) : LcP H1 D ys i H5 := ⟨p.1.trans s, s _ _ p.2⟩
theorem map_get {α : Type} {f : α → V} {xs : List α} {i : Nat} {y : V} (h : (xs.map f)[i]? = some y) : ∃ z, xs[i]? = some z ∧ y = f z := by
  rw [List.getElem?_map] at h
  cases e : xs[i]? with
  | none => rw [e] at h; cases h
  | some z => rw [e] at h; exact ⟨z, rfl, (Option.some.inj h).symm⟩
/-! ### == of lists of ints -/
section
variable {K : PySem.W.Frag} {H : Hp} {Q : VK}
theorem dpAll_ints : ∀ {ns : List Int}, DpAll K H (ns.map V.int) (ns.map PyData.int)
  | [] => .nil
  | n :: _ => .cons (.int n) dpAll_ints
theorem lay_ints : ∀ {ns : List Int}, PyData.canLayAll0 (ns.map PyData.int) = true
  | [] => rfl
  | _ :: ns => by
    show (true && PyData.canLayAll0 (ns.map PyData.int)) = true
    rw [lay_ints]; rfl
theorem depth_ints : ∀ {ns : List Int}, PyData.depthAll (ns.map PyData.int) = 0
  | [] => rfl
  | _ :: ns => by
    show max 0 (PyData.depthAll (ns.map PyData.int)) = 0
    rw [depth_ints]; rfl
theorem shaped_ints {ns : List Int} : SeqAt.shaped (.list (ns.map PyData.int)) = true := by
  show (PyData.canLayAll0 (ns.map PyData.int) && decide (PyData.depthAll (ns.map PyData.int) + 1 ≤ 64)) = true
  rw [lay_ints, depth_ints]; rfl
theorem eqvAll_ints : ∀ {ns ms : List Int}, PyData.eqvAll (ns.map PyData.int) (ms.map PyData.int) = decide (ns = ms)
  | [], [] => rfl
  | [], _ :: _ => rfl
  | _ :: _, [] => rfl
  | n :: ns, m :: ms => by
    show ((n == m) && PyData.eqvAll (ns.map PyData.int) (ms.map PyData.int)) = decide (n :: ns = m :: ms)
    rw [eqvAll_ints, Bool.eq_iff_iff]
    simp
theorem dp_ints {a : Addr} {ns : List Int} (h : SqL K H a (ns.map V.int)) : Dp K H (.ref a) (.list (ns.map PyData.int)) := .lst h dpAll_ints
theorem g_eqL {a b : Addr} {ns ms : List Int} (h1 : SqL K H a (ns.map V.int)) (h2 : SqL K H b (ms.map V.int)) (q : Q (.bl (decide (ns = ms))) H) : rEqD K (.ref a) (.ref b) H Q :=
  ⟨_, _, dp_ints h1, dp_ints h2, shaped_ints, shaped_ints, by rw [show PyData.eqv (.list (ns.map PyData.int)) (.list (ms.map PyData.int)) = decide (ns = ms) from eqvAll_ints]; exact q⟩
theorem g_neL {a b : Addr} {ns ms : List Int} (h1 : SqL K H a (ns.map V.int)) (h2 : SqL K H b (ms.map V.int)) (q : Q (.bl (!decide (ns = ms))) H) : rNeD K (.ref a) (.ref b) H Q :=
  ⟨_, _, dp_ints h1, dp_ints h2, shaped_ints, shaped_ints, by rw [show PyData.eqv (.list (ns.map PyData.int)) (.list (ms.map PyData.int)) = decide (ns = ms) from eqvAll_ints]; exact q⟩
theorem g_sum {a : Addr} {ns : List Int} (h : SqL K H a (ns.map V.int)) (q : Q (.int ns.sum) H) : rSum K [.ref a] H Q := ⟨a, ns, rfl, h, q⟩
end
theorem ixN_nat {n : Nat} {k : Int} (h0 : 0 ≤ k) (h : k < (n : Int)) : ixN n k = some k.toNat := by
  unfold ixN
  rw [if_pos h0, if_pos h]
theorem g_ref {a : Addr} {A : Addr → Prop} (q : A a) : ∃ b, V.ref a = .ref b ∧ A b := ⟨a, rfl, q⟩
/-! ### objects: the attributes by their places -/
def obj : List Str → List V → List (Str × V)
  | k :: ks, v :: vs => (k, v) :: obj ks vs
  | _, _ => []
theorem obj_len : ∀ (ks : List Str) (vs : List V), (obj ks vs).length ≤ ks.length
  | [], _ => Nat.zero_le _
  | _ :: _, [] => Nat.zero_le _
  | _ :: ks, _ :: vs => Nat.succ_le_succ (obj_len ks vs)
theorem obj_get : ∀ {ks : List Str} {vs : List V} {i : Nat} {k : Str}, ks.Nodup → ks[i]? = some k → (obj ks vs).lookup k = vs[i]?
  | [], _, _, _, _, h => by cases h
  | k0 :: ks, [], i, k, _, _ => by simp [obj]
  | k0 :: ks, v :: vs, 0, k, _, h => by
    have e : k0 = k := Option.some.inj h
    subst e
    simp [obj]
  | k0 :: ks, v :: vs, i + 1, k, nd, h => by
    have nd' := List.nodup_cons.mp nd
    have hk : k ∈ ks := List.mem_of_getElem? h
    have ne : (k == k0) = false := by
      rw [beq_eq_false_iff_ne]
      intro e
      subst e
      exact nd'.1 hk
    show List.lookup k ((k0, v) :: obj ks vs) = vs[i]?
    rw [List.lookup_cons, ne]
    exact obj_get nd'.2 h
theorem obj_none : ∀ {ks : List Str} {vs : List V} {k : Str}, k ∉ ks → (obj ks vs).lookup k = none
  | [], _, _, _ => rfl
  | _ :: _, [], _, _ => rfl
  | k0 :: ks, v :: vs, k, h => by
    have ne : (k == k0) = false := by
      rw [beq_eq_false_iff_ne]
      intro e
      subst e
      exact h (List.mem_cons_self ..)
    show List.lookup k ((k0, v) :: obj ks vs) = none
    rw [List.lookup_cons, ne]
    exact obj_none fun z => h (List.mem_cons_of_mem _ z)
theorem obj_put : ∀ {ks : List Str} {vs : List V} {i : Nat} {k : Str} {y : V}, ks.Nodup → ks[i]? = some k → i < vs.length → putF k y (obj ks vs) = obj ks (vs.set i y)
  | [], _, _, _, _, _, h, _ => by cases h
  | _ :: _, [], _, _, _, _, _, h => by simp at h
  | k0 :: ks, v :: vs, 0, k, y, _, h, _ => by
    have e : k0 = k := Option.some.inj h
    subst e
    show (if k0 = k0 then _ else _) = _
    rw [if_pos rfl]
    rfl
  | k0 :: ks, v :: vs, i + 1, k, y, nd, h, hl => by
    have nd' := List.nodup_cons.mp nd
    have hk : k ∈ ks := List.mem_of_getElem? h
    have ne : ¬ k0 = k := by
      intro e
      subst e
      exact nd'.1 hk
    show (if k0 = k then _ else (k0, v) :: putF k y (obj ks vs)) = (k0, v) :: obj ks (vs.set i y)
    rw [if_neg ne, obj_put nd'.2 h (by simpa using hl)]
theorem obj_new : ∀ {ks : List Str} {vs : List V} {k : Str} {y : V}, ks.Nodup → ks[vs.length]? = some k → putF k y (obj ks vs) = obj ks (vs ++ [y])
  | [], _, _, _, _, h => by simp at h
  | k0 :: ks, [], k, y, _, h => by
    have e : k0 = k := Option.some.inj h
    subst e
    show [(k0, y)] = obj (k0 :: ks) [y]
    cases ks <;> rfl
  | k0 :: ks, v :: vs, k, y, nd, h => by
    have nd' := List.nodup_cons.mp nd
    have h' : ks[vs.length]? = some k := h
    have hk : k ∈ ks := List.mem_of_getElem? h'
    have ne : ¬ k0 = k := by
      intro e
      subst e
      exact nd'.1 hk
    show (if k0 = k then _ else (k0, v) :: putF k y (obj ks vs)) = (k0, v) :: obj ks (vs ++ [y])
    rw [if_neg ne, obj_new nd'.2 h']
section
variable {K : PySem.W.Frag} {σ : St} {H : Hp} {Q : VK} {v y : V} {ta tv : TE} {D : Ends} {f m : Str} {a C dx : Addr} {ks : List Str} {vs : List V} {i : Nat}
theorem g_fld (h : ta σ H fun x H1 => ∃ a C dx fs v, x = .ref a ∧ H1 a = some (.ins C dx fs) ∧ Cls K C ∧ NoAttr K C f ∧ fs.lookup f = some v ∧ Q v H1) : tFld K ta f σ H Q := h
theorem g_fldE {A : V → Prop} (ho : H a = some (.ins C dx (obj ks vs))) (c : Cls K C) (n : NoAttr K C f) (nd : ks.Nodup) (hk : ks[i]? = some f) (hv : vs[i]? = some v) (q : A v) :
    ∃ a' C' dx' fs v', V.ref a = .ref a' ∧ H a' = some (.ins C' dx' fs) ∧ Cls K C' ∧ NoAttr K C' f ∧ fs.lookup f = some v' ∧ A v' := ⟨a, C, dx, _, v, rfl, ho, c, n, (obj_get nd hk).trans hv, q⟩
theorem g_sfld (h : tv σ H fun y H1 => ta σ H1 fun x H2 => ∃ a C dx fs, x = .ref a ∧ H2 a = some (.ins C dx fs) ∧ Cls K C ∧ NoAttr K C f ∧ fs.length < 1000 ∧ D.nx σ (upd H2 a (.ins C dx (putF f y fs)))) : sFld K ta tv f D σ H := h
theorem g_putE {A : Hp → Prop} (ho : H a = some (.ins C dx (obj ks vs))) (c : Cls K C) (n : NoAttr K C f) (nd : ks.Nodup) (h1 : ks.length < 1000) (hk : ks[i]? = some f) (hv : i < vs.length) (q : A (upd H a (.ins C dx (obj ks (vs.set i y))))) :
    ∃ a' C' dx' fs, V.ref a = .ref a' ∧ H a' = some (.ins C' dx' fs) ∧ Cls K C' ∧ NoAttr K C' f ∧ fs.length < 1000 ∧ A (upd H a' (.ins C' dx' (putF f y fs))) :=
  ⟨a, C, dx, _, rfl, ho, c, n, Nat.lt_of_le_of_lt (obj_len ks vs) h1, by rw [obj_put nd hk hv]; exact q⟩
theorem g_newE {A : Hp → Prop} (ho : H a = some (.ins C dx (obj ks vs))) (c : Cls K C) (n : NoAttr K C f) (nd : ks.Nodup) (h1 : ks.length < 1000) (hk : ks[vs.length]? = some f) (q : A (upd H a (.ins C dx (obj ks (vs ++ [y]))))) :
    ∃ a' C' dx' fs, V.ref a = .ref a' ∧ H a' = some (.ins C' dx' fs) ∧ Cls K C' ∧ NoAttr K C' f ∧ fs.length < 1000 ∧ A (upd H a' (.ins C' dx' (putF f y fs))) :=
  ⟨a, C, dx, _, rfl, ho, c, n, Nat.lt_of_le_of_lt (obj_len ks vs) h1, by rw [obj_new nd hk]; exact q⟩
theorem g_meth {sp : Sp} {dvs : List V} {E : XK} {t : TA} (h : ta σ H fun x H1 => ∃ a dx fs, x = .ref a ∧ H1 a = some (.ins C dx fs) ∧ fs.lookup m = none ∧ t σ H1 fun vs H2 => sp (x :: (vs ++ dvs)) H2 Q E) : tMeth C m sp dvs E ta t σ H Q := h
theorem g_methE {A : Prop} (ho : H a = some (.ins C dx (obj ks vs))) (no : m ∉ ks) (q : A) : ∃ a' dx' fs, V.ref a = .ref a' ∧ H a' = some (.ins C dx' fs) ∧ fs.lookup m = none ∧ A := ⟨a, dx, _, rfl, ho, obj_none no, q⟩
theorem g_make {sp : Sp} {dvs : List V} {E : XK} {t : TA} (h : t σ H fun vs H1 => ∀ x dx, H1 x = none → H1 dx = none → dx ≠ x → sp (.ref x :: (vs ++ dvs)) (upd (upd H1 dx (.own x)) x (.ins C dx [])) (fun v H2 => v = .non ∧ Q (.ref x) H2) E) : tMake C sp dvs E t σ H Q := h
theorem g_prop {sp : Sp} {dvs : List V} {E : XK} (h : ta σ H fun x H1 => ∃ a dx fs, x = .ref a ∧ H1 a = some (.ins C dx fs) ∧ sp (.ref a :: dvs) H1 Q E) : tProp C sp dvs E ta σ H Q := h
theorem g_propE {A : Addr → Prop} (ho : H a = some (.ins C dx (obj ks vs))) (q : A a) : ∃ a' dx' fs, V.ref a = .ref a' ∧ H a' = some (.ins C dx' fs) ∧ A a' := ⟨a, dx, _, rfl, ho, q⟩
theorem g_absE {A : Int → Prop} {n : Int} (q : A n) : ∃ i, [V.int n] = [V.int i] ∧ A i := ⟨n, rfl, q⟩
end
/-- a slice of ints -/
theorem cut_ints (ns : List Int) (lo hi : Option Int) : ∃ ms : List Int, cutV (ns.map V.int) lo hi = ms.map V.int ∧ ms.length ≤ ns.length := by
  unfold cutV
  refine ⟨(ns.drop (HT.sIx (ns.map V.int).length 0 lo)).take (HT.sIx (ns.map V.int).length (ns.map V.int).length hi - HT.sIx (ns.map V.int).length 0 lo), ?_, ?_⟩
  · rw [List.map_take, List.map_drop]
  · rw [List.length_take, List.length_drop]
    omega
theorem g_nameE {i : Nat} {v : V} {σ σ' : St} {H : Hp} {A : St → Hp → Prop} (e : σ.set i (some v) = σ') (q : A σ' H) : gName i v σ H A := by
  subst e
  exact q
theorem but_sq {K : PySem.W.Frag} {p : Addr} {H H' : Hp} {a : Addr} {xs : List V} (e : But p H H') (n : a ≠ p) (h : SqL K H a xs) : SqL K H' a xs := by
  rcases h with (h | ⟨o, h⟩) | h
  · exact .inl (.inl (e _ _ n h))
  · exact .inl (.inr ⟨o, e _ _ n h⟩)
  · exact .inr h
theorem g_star {K : PySem.W.Frag} {te : TE} {t : TA} {σ : St} {H : Hp} {Q : List V → Hp → Prop} (h : te σ H fun x H1 => ∃ p xs, x = V.ref p ∧ (SqT K H1 p xs ∨ SqL K H1 p xs) ∧ t σ H1 fun ys H2 => Q (xs ++ ys) H2) : StX.tStar K te t σ H Q := h
theorem g_while {c : TT} {tb : TS} {D : Ends} {σ : St} {H : Hp} (W : Nat → St → Hp → Prop) (h0 : ∃ m, W m σ H) (h : ∀ m σ H, W m σ H → c σ H fun b H1 => if b = true then ∃ N : St → Hp → Prop, (∀ σ' H', N σ' H' → ∃ m', m' < m ∧ W m' σ' H') ∧ tb { D with nx := N, ct := N, bk := D.nx } σ H1 else D.nx σ H1) : tWhile c tb D σ H := ⟨W, h0, h⟩
theorem g_cut {t u : TS} {D : Ends} {σ : St} {H : Hp} (Mid : St → Hp → Prop) (h1 : t { D with nx := Mid } σ H) (h2 : ∀ σ' H', Mid σ' H' → u D σ' H') : C8.tCut t u D σ H := ⟨Mid, h1, h2⟩
theorem g_min {K : PySem.W.Frag} {a : Addr} {ns : List Int} {H : Hp} {Q : VK} (h : SqL K H a (ns.map V.int)) (h0 : 0 < ns.length) (q : ∀ m, m ∈ ns → (∀ y, y ∈ ns → m ≤ y) → Q (.int m) H) : rMin K [.ref a] H Q := ⟨a, ns, rfl, h, h0, q⟩
theorem g_max {K : PySem.W.Frag} {a : Addr} {ns : List Int} {H : Hp} {Q : VK} (h : SqL K H a (ns.map V.int)) (h0 : 0 < ns.length) (q : ∀ m, m ∈ ns → (∀ y, y ∈ ns → y ≤ m) → Q (.int m) H) : rMax K [.ref a] H Q := ⟨a, ns, rfl, h, h0, q⟩
theorem atI_nat' {xs : List V} {i : Int} {j : Nat} {v : V} (e : i = (j : Int)) (h : xs[j]? = some v) : atI xs i = some v := at_of e h
theorem ixN_last {n : Nat} (h : 0 < n) : ixN n (-1) = some (n - 1) := by
  unfold ixN
  rw [if_neg (by decide), if_pos (by omega)]
  congr 1
  omega
theorem atI_neg1 {xs : List V} {v : V} (h : xs[xs.length - 1]? = some v) : atI xs (-1) = some v := by
  obtain ⟨hl, _⟩ := List.getElem?_eq_some_iff.mp h
  unfold atI
  rw [ixN_last (by omega)]
  exact h
theorem snoc_of {α : Type} {xs : List α} (h : 0 < xs.length) : ∃ a x, xs = a ++ [x] :=
  ⟨xs.dropLast, xs.getLast (List.ne_nil_of_length_pos h), (List.dropLast_concat_getLast _).symm⟩
theorem set_last {α : Type} {a : List α} {x y : α} : (a ++ [x]).set a.length y = a ++ [y] := by
  rw [List.set_append_right _ _ (Nat.le_refl _), Nat.sub_self]
  rfl
end My
namespace My
open PySem PySem.Spec L2
local macro_rules | `(tactic| walk_at "side") => `(tactic| first | assumption | decide | omega | exact ⟨by decide, by decide⟩ | exact ⟨by decide, by decide, by decide⟩ | decide +kernel | exact cdivW (by decide +kernel) (by decide +kernel) | exact Or.inl ⟨by omega, by omega⟩ | exact Or.inr ⟨by omega, by omega⟩ | (simp only [List.length_map, List.length_cons, List.length_nil, List.length_append]; omega))
local macro_rules | `(tactic| walk_at "fact") => `(tactic| first | assumption | omega | with_reducible rfl)
local macro_rules | `(tactic| walk_at "use") => `(tactic| fail "use")
local macro_rules | `(tactic| walk_at "go1") => `(tactic| with_reducible first | refine g_seq ?_ | refine g_asg ?_ | refine g_ret ?_ | refine g_ifS ?_ | refine g_drop ?_ | refine g_star ?_ | refine g_nx ?_ | refine g_rt ?_ | refine g_bkE ?_ | refine g_ctE ?_ | refine g_next ?_ | refine g_retN ?_ | refine g_brk ?_ | refine g_ct ?_ | refine g_c ?_ | refine g_op ?_ | refine g_un ?_ | refine g_rI0 ?_ | refine g_rU ?_ | refine g_rEqI ?_ | refine g_rNeI ?_ | refine g_isN ?_ | refine g_rIsB ?_ | refine g_rNotB ?_ | refine g_test ?_ | refine g_B ?_ | refine g_bl ?_ | refine g_and ?_ | refine g_or ?_ | refine g_not ?_ | refine g_andV ?_ | refine g_orV ?_ | refine g_notV ?_ | refine g_if ?_ | refine g_chain ?_ | refine g_yes ?_ | refine g_lc ?_ | refine g_revR ?_ | refine g_rng1 ?_ | refine g_iList ?_ | refine g_nil ?_ | refine g_cons ?_ | refine g_tup ?_ | refine g_lst ?_ | refine g_call ?_ | refine g_CB ?_ | refine g_sl ?_ | refine g_noPart ?_ | refine g_part ?_ | refine g_intE ?_ | refine g_ref ?_ | refine g_fld ?_ | refine g_sfld ?_ | refine g_meth ?_ | refine g_make ?_ | refine g_prop ?_  | refine g_ipI ?_ | refine g_int1 ?_ | refine g_int1B ?_ | refine g_one ?_ | refine g_two ?_ | refine g_isiI ?_ | refine g_isiIB ?_ | refine g_isiB ?_ | refine g_BM ?_ | refine g_BM0 ?_ | refine g_sub ?_)
local macro_rules | `(tactic| walk_at "go") => `(tactic| repeat (first | walk_at "go1" | ((with_reducible refine' g_nameE ?sd_ ?_); case sd_ => dsimp only [List.set_cons_succ, List.set_cons_zero]) | ((with_reducible refine' g_var ?sd_ ?_); case sd_ => exact rfl) | ((with_reducible refine' g_aug ?sd_ ?_); case sd_ => exact rfl) | ((with_reducible refine' g_rI ?sd_ ?_); case sd_ => walk_at "side") | ((with_reducible refine' g_dT ?sd_ ?_); case sd_ => walk_at "fact") | ((with_reducible refine' g_dF ?sd_ ?_); case sd_ => walk_at "fact") | ((with_reducible refine' g_nT ?sd_ ?_); case sd_ => walk_at "fact") | ((with_reducible refine' g_nF ?sd_ ?_); case sd_ => walk_at "fact") | (with_reducible refine g_iT rfl ?_) | (with_reducible refine g_iF rfl ?_) | walk_at "use"))
def topS (i : Nat) : Stmt := PySem.Challenge.pw_throughline_k49_frames.main.body.getD i (.Pass ⟨0, 0, 0, 0⟩)
abbrev s_write_number : Stmt := topS 5
abbrev s_read_number : Stmt := topS 6
abbrev s_write_frame : Stmt := topS 12
abbrev s_first_frame : Stmt := topS 13
abbrev s_frame_at : Stmt := topS 14
abbrev s_l_cell : Stmt := topS 16
abbrev s_l_is_integer : Stmt := topS 17
abbrev s_l_start : Stmt := topS 18
abbrev s_l_digit : Stmt := topS 19
abbrev s_l_frame : Stmt := topS 20
abbrev s_l_octets : Stmt := topS 21
abbrev s_l_copy : Stmt := topS 22
abbrev s_l_same_octets : Stmt := topS 23
abbrev s_l_read : Stmt := topS 24
abbrev s_l_same : Stmt := topS 25
abbrev s_l_holds : Stmt := topS 26
abbrev s_law : Stmt := topS 27
theorem sc_write_number : FnScope ["number", "size", "place"] ["number", "size"] (defScope s_write_number) := ⟨rfl, rfl, rfl, by decide +kernel, rfl, by decide +kernel, by decide +kernel⟩
theorem sc_read_number : FnScope ["octets", "number", "octet"] ["octets"] (defScope s_read_number) := ⟨rfl, rfl, rfl, by decide +kernel, rfl, by decide +kernel, by decide +kernel⟩
theorem sc_write_frame : FnScope ["frame", "octets"] ["frame"] (defScope s_write_frame) := ⟨rfl, rfl, rfl, by decide +kernel, rfl, by decide +kernel, by decide +kernel⟩
theorem sc_first_frame : FnScope ["octets"] ["octets"] (defScope s_first_frame) := ⟨rfl, rfl, rfl, by decide +kernel, rfl, by decide +kernel, by decide +kernel⟩
theorem sc_frame_at : FnScope ["octets", "at", "word", "channel", "number", "stop"] ["octets", "at"] (defScope s_frame_at) := ⟨rfl, rfl, rfl, by decide +kernel, rfl, by decide +kernel, by decide +kernel⟩
theorem sc_l_cell : FnScope ["script", "k"] ["script", "k"] (defScope s_l_cell) := ⟨rfl, rfl, rfl, by decide +kernel, rfl, by decide +kernel, by decide +kernel⟩
theorem sc_l_is_integer : FnScope ["told"] ["told"] (defScope s_l_is_integer) := ⟨rfl, rfl, rfl, by decide +kernel, rfl, by decide +kernel, by decide +kernel⟩
theorem sc_l_start : FnScope ["cell", "k", "prime", "mixed"] ["cell", "k"] (defScope s_l_start) := ⟨rfl, rfl, rfl, by decide +kernel, rfl, by decide +kernel, by decide +kernel⟩
theorem sc_l_digit : FnScope ["state", "many", "digit"] ["state", "many"] (defScope s_l_digit) := ⟨rfl, rfl, rfl, by decide +kernel, rfl, by decide +kernel, by decide +kernel⟩
theorem sc_l_frame : FnScope ["state", "many", "word", "channel", "size", "base", "k"] ["state", "many"] (defScope s_l_frame) := ⟨rfl, rfl, rfl, by decide +kernel, rfl, by decide +kernel, by decide +kernel⟩
theorem sc_l_octets : FnScope ["frame", "kind", "octets"] ["frame"] (defScope s_l_octets) := ⟨rfl, rfl, rfl, by decide +kernel, rfl, by decide +kernel, by decide +kernel⟩
theorem sc_l_copy : FnScope ["frame", "item"] ["frame"] (defScope s_l_copy) := ⟨rfl, rfl, rfl, by decide +kernel, rfl, by decide +kernel, by decide +kernel⟩
theorem sc_l_same_octets : FnScope ["told", "due", "k"] ["told", "due"] (defScope s_l_same_octets) := ⟨rfl, rfl, rfl, by decide +kernel, rfl, by decide +kernel, by decide +kernel⟩
theorem sc_l_read : FnScope ["octets", "given", "told", "e"] ["octets"] (defScope s_l_read) := ⟨rfl, rfl, rfl, by decide +kernel, rfl, by decide +kernel, by decide +kernel⟩
theorem sc_l_same : FnScope ["told", "frame", "size"] ["told", "frame", "size"] (defScope s_l_same) := ⟨rfl, rfl, rfl, by decide +kernel, rfl, by decide +kernel, by decide +kernel⟩
theorem sc_l_holds : FnScope ["frame", "state", "due", "given", "behind", "k", "bad"] ["frame", "state"] (defScope s_l_holds) := ⟨rfl, rfl, rfl, by decide +kernel, rfl, by decide +kernel, by decide +kernel⟩
theorem sc_law : FnScope ["script", "many", "k", "state"] ["script"] (defScope s_law) := ⟨rfl, rfl, rfl, by decide +kernel, rfl, by decide +kernel, by decide +kernel⟩
/-! ### a written dict with ints as keys -/
structure KDictI (K : PySem.W.Frag) (d : Addr) (es : Array DictEntry) (n : Nat) : Prop where
  at_ : K.lookup d = some ⟨.type "dict", none, .dict es n, #[]⟩
  lit : ∀ e ∈ es.toList, ∃ (i : Int) (t : Tok), e.key = .int i t ∧ e.hash = hashInt i
  low : (d == sysModules) = false
def fI (es : Array DictEntry) (k : Int) : Option Value := findBy Value.isInt es k
theorem KDictI.mapOf {K : PySem.W.Frag} {d : Addr} {es : Array DictEntry} {n : Nat} {h : Heap} {prog : Program} {w : World} (D : KDictI K d es n) (X : K.In h) : h.MapOf (intKind prog w) d (fI es) :=
  ⟨_, es, n, X _ _ D.at_, ⟨rfl, rfl, rfl⟩, rfl, (fun e he => by
    obtain ⟨i, t, e1, e2⟩ := D.lit e (Array.mem_toList_iff.mpr he)
    exact ⟨i, by rw [e1]; exact intKind_is prog w i t, e2⟩), fun _ => rfl⟩
def rInI (es : Array DictEntry) (d : Addr) : R2 := fun x y H Q => ∃ k : Int, x = .int k ∧ y = .ref d ∧ Q (.bl (fI es k).isSome) H
def rNotInI (es : Array DictEntry) (d : Addr) : R2 := fun x y H Q => ∃ k : Int, x = .int k ∧ y = .ref d ∧ Q (.bl (!(fI es k).isSome)) H
def rIxI (es : Array DictEntry) (d : Addr) : R2 := fun x y H Q => ∃ (k : Int) (u : Value) (v : V), x = .ref d ∧ y = .int k ∧ fI es k = some u ∧ RelV v u ∧ Q v H
section
variable {X : Cx} {d : Addr} {es : Array DictEntry} {n : Nat}
theorem op_inI (D : KDictI X.K d es n) : OpR X (compareOp .In) (rInI es d) := by
  intro pins s σ H x y v u Q I rx ry h
  obtain ⟨k, rfl, rfl, q⟩ := h
  obtain ⟨t, rfl⟩ := rx
  cases ry
  exact wpAny_in_of (intKind_is X.prog X.w k t) D.low (D.mapOf I.kIn) ⟨.bl (fI es k).isSome, H, I.tok _, rfl, q⟩
theorem op_notInI (D : KDictI X.K d es n) : OpR X (compareOp .NotIn) (rNotInI es d) := by
  intro pins s σ H x y v u Q I rx ry h
  obtain ⟨k, rfl, rfl, q⟩ := h
  obtain ⟨t, rfl⟩ := rx
  cases ry
  exact wpAny_notIn_of (intKind_is X.prog X.w k t) D.low (D.mapOf I.kIn) ⟨.bl (!(fI es k).isSome), H, I.tok _, rfl, q⟩
theorem ix_dI (D : KDictI X.K d es n) : IxR X (rIxI es d) := by
  intro value slice pins s σ H x y v u Q I rx ry h hs
  obtain ⟨k, u0, v0, rfl, rfl, e, r, q⟩ := h
  cases rx
  obtain ⟨t, rfl⟩ := ry
  have hm := D.mapOf (prog := X.prog) (w := X.w) I.kIn
  exact PyProof.Rows.tail_any hm.typeIs slot_dict_getitem.lookup (wpAny_getItem_of (intKind_is X.prog X.w k t) hm e ⟨v0, H, I.tok _, r, q⟩) hs
end
theorem g_inI {es : Array DictEntry} {d : Addr} {k : Int} {H : Hp} {Q : VK} (q : Q (.bl (fI es k).isSome) H) : rInI es d (.int k) (.ref d) H Q := ⟨k, rfl, rfl, q⟩
theorem g_notInI {es : Array DictEntry} {d : Addr} {k : Int} {H : Hp} {Q : VK} (q : Q (.bl (!(fI es k).isSome)) H) : rNotInI es d (.int k) (.ref d) H Q := ⟨k, rfl, rfl, q⟩
theorem g_ixI {es : Array DictEntry} {d : Addr} {k : Int} {u : Value} {v : V} {H : Hp} {Q : VK} (e : fI es k = some u) (r : RelV v u) (q : Q v H) : rIxI es d (.ref d) (.int k) H Q := ⟨k, u, v, rfl, rfl, e, r, q⟩
theorem fI_entry {es : Array DictEntry} {k : Int} {u : Value} (e : (es.toList.find? (fun e => Value.isInt k e.key)).map (·.val) = some u) : fI es k = some u := by
  unfold fI findBy
  obtain ⟨l⟩ := es
  rw [List.find?_toArray]
  exact e
def keyI (e : DictEntry) : Option Int := match e.key with | .int i _ => some i | _ => none
theorem fI_out {es : Array DictEntry} {k : Int} {ks : List Int} (e : es.toList.map keyI = ks.map some) (h : k ∉ ks) : fI es k = none := by
  unfold fI findBy
  obtain ⟨l⟩ := es
  rw [List.find?_toArray]
  have : ∀ {l : List DictEntry} {ks : List Int}, l.map keyI = ks.map some → k ∉ ks → l.find? (fun e => Value.isInt k e.key) = none := by
    intro l
    induction l with
    | nil => intro ks _ _; rfl
    | cons a l ih =>
      intro ks e h
      cases ks with
      | nil => cases e
      | cons i ks =>
        simp only [List.map_cons, List.cons.injEq] at e
        obtain ⟨e1, e2⟩ := e
        have h1 := ih e2 fun z => h (List.mem_cons_of_mem _ z)
        unfold keyI at e1
        obtain ⟨hs, key, val⟩ := a
        dsimp only at e1
        cases key with
        | int j t =>
          injection e1 with e1
          subst e1
          have ne : Value.isInt k (.int j t) = false := by
            show (j == k) = false
            rw [beq_eq_false_iff_ne]
            intro z
            exact h (z ▸ List.mem_cons_self ..)
          rw [List.find?_cons]
          show (match Value.isInt k (.int j t) with | true => _ | false => _) = none
          rw [ne]
          exact h1
        | _ => cases e1
  rw [this e h]
  rfl

structure Txt (w : World) (K : PySem.W.Frag) (mg : Str → Option Value) where
  t_KINDS : Addr
  de_KINDS : Array DictEntry
  dn_KINDS : Nat
  t_HEAD : Tok
  t_LONG_HEAD : Tok
  t_WORDS : Addr
  de_WORDS : Array DictEntry
  dn_WORDS : Nat
  C_ThroughlineError : Addr
  C_InvalidAmount : Addr
  C_InvalidFrame : Addr
  f_write_number : Addr
  d_write_number : FuncData
  f_read_number : Addr
  d_read_number : FuncData
  f_write_frame : Addr
  d_write_frame : FuncData
  f_first_frame : Addr
  d_first_frame : FuncData
  f_frame_at : Addr
  d_frame_at : FuncData
  f_l_cell : Addr
  d_l_cell : FuncData
  f_l_is_integer : Addr
  d_l_is_integer : FuncData
  f_l_start : Addr
  d_l_start : FuncData
  f_l_digit : Addr
  d_l_digit : FuncData
  f_l_frame : Addr
  d_l_frame : FuncData
  f_l_octets : Addr
  d_l_octets : FuncData
  f_l_copy : Addr
  d_l_copy : FuncData
  f_l_same_octets : Addr
  d_l_same_octets : FuncData
  f_l_read : Addr
  d_l_read : FuncData
  f_l_same : Addr
  d_l_same : FuncData
  f_l_holds : Addr
  d_l_holds : FuncData
  f_law : Addr
  d_law : FuncData
  v_KINDS : mg "KINDS" = some (.ref t_KINDS)
  kd_KINDS : KDict K w t_KINDS de_KINDS dn_KINDS
  ik_KINDS_open : ∃ u, PySem.W.nsIn K t_KINDS (PySem.Str.ofString "open") = some (some u) ∧ RelV (.int 1) u
  ik_KINDS_octets : ∃ u, PySem.W.nsIn K t_KINDS (PySem.Str.ofString "octets") = some (some u) ∧ RelV (.int 2) u
  ik_KINDS_permit : ∃ u, PySem.W.nsIn K t_KINDS (PySem.Str.ofString "permit") = some (some u) ∧ RelV (.int 3) u
  ik_KINDS_end : ∃ u, PySem.W.nsIn K t_KINDS (PySem.Str.ofString "end") = some (some u) ∧ RelV (.int 4) u
  ik_KINDS_reset : ∃ u, PySem.W.nsIn K t_KINDS (PySem.Str.ofString "reset") = some (some u) ∧ RelV (.int 5) u
  nk_KINDS : ∀ z : Str, z ∉ ([PySem.Str.ofString "open", PySem.Str.ofString "octets", PySem.Str.ofString "permit", PySem.Str.ofString "end", PySem.Str.ofString "reset"] : List Str) → PySem.W.nsIn K t_KINDS z = some none
  v_HEAD : mg "HEAD" = some (.int 3 t_HEAD)
  v_LONG_HEAD : mg "LONG_HEAD" = some (.int 5 t_LONG_HEAD)
  v_WORDS : mg "WORDS" = some (.ref t_WORDS)
  kd_WORDS : KDictI K t_WORDS de_WORDS dn_WORDS
  ik_WORDS_1 : ∃ u, fI de_WORDS 1 = some u ∧ RelV (.str (PySem.Str.ofString "open")) u
  ik_WORDS_2 : ∃ u, fI de_WORDS 2 = some u ∧ RelV (.str (PySem.Str.ofString "octets")) u
  ik_WORDS_3 : ∃ u, fI de_WORDS 3 = some u ∧ RelV (.str (PySem.Str.ofString "permit")) u
  ik_WORDS_4 : ∃ u, fI de_WORDS 4 = some u ∧ RelV (.str (PySem.Str.ofString "end")) u
  ik_WORDS_5 : ∃ u, fI de_WORDS 5 = some u ∧ RelV (.str (PySem.Str.ofString "reset")) u
  nk_WORDS : ∀ z : Int, z ∉ ([1, 2, 3, 4, 5] : List Int) → fI de_WORDS z = none
  c_ThroughlineError : mg "ThroughlineError" = some (.ref C_ThroughlineError)
  c_InvalidAmount : mg "InvalidAmount" = some (.ref C_InvalidAmount)
  c_InvalidFrame : mg "InvalidFrame" = some (.ref C_InvalidFrame)
  xP_InvalidFrame : PySem.W.excIn K C_InvalidFrame [.type "ValueError", .type "Exception", .type "BaseException", .type "object"] "ValueError.__new__" = true
  ke_InvalidFrame : PySem.W.keepIn K (.ref C_InvalidFrame) = true
  be_InvalidFrame : PySem.W.subIn K (.ref C_InvalidFrame) (.type "BaseException") = some true
  te_InvalidFrame : PySem.W.typeIn K (.ref C_InvalidFrame) = some (.type "type")
  xc_InvalidFrame : ExcC K C_InvalidFrame
  em_InvalidFrame_InvalidFrame : PySem.W.exmOne K (.ref C_InvalidFrame) (.ref C_InvalidFrame) = some true
  ko_InvalidFrame_ThroughlineError : PySem.W.kitOne K (.ref C_InvalidFrame) (.ref C_ThroughlineError) = some true
  ko_InvalidFrame_InvalidAmount : PySem.W.kitOne K (.ref C_InvalidFrame) (.ref C_InvalidAmount) = some false
  F_write_number : Fun K "write_number" "write_number" s_write_number f_write_number d_write_number
  b_write_number : Binds K d_write_number ["number", "size"] []
  m_write_number : mg "write_number" = some (.ref f_write_number)
  F_read_number : Fun K "read_number" "read_number" s_read_number f_read_number d_read_number
  b_read_number : Binds K d_read_number ["octets"] []
  m_read_number : mg "read_number" = some (.ref f_read_number)
  F_write_frame : Fun K "write_frame" "write_frame" s_write_frame f_write_frame d_write_frame
  b_write_frame : Binds K d_write_frame ["frame"] []
  m_write_frame : mg "write_frame" = some (.ref f_write_frame)
  F_first_frame : Fun K "first_frame" "first_frame" s_first_frame f_first_frame d_first_frame
  b_first_frame : Binds K d_first_frame ["octets"] []
  m_first_frame : mg "first_frame" = some (.ref f_first_frame)
  F_frame_at : Fun K "frame_at" "frame_at" s_frame_at f_frame_at d_frame_at
  b_frame_at : Binds K d_frame_at ["octets", "at"] []
  m_frame_at : mg "frame_at" = some (.ref f_frame_at)
  F_l_cell : Fun K "_law_cell" "_law_cell" s_l_cell f_l_cell d_l_cell
  b_l_cell : Binds K d_l_cell ["script", "k"] []
  m_l_cell : mg "_law_cell" = some (.ref f_l_cell)
  F_l_is_integer : Fun K "_law_is_integer" "_law_is_integer" s_l_is_integer f_l_is_integer d_l_is_integer
  b_l_is_integer : Binds K d_l_is_integer ["told"] []
  m_l_is_integer : mg "_law_is_integer" = some (.ref f_l_is_integer)
  F_l_start : Fun K "_law_start" "_law_start" s_l_start f_l_start d_l_start
  b_l_start : Binds K d_l_start ["cell", "k"] []
  m_l_start : mg "_law_start" = some (.ref f_l_start)
  F_l_digit : Fun K "_law_digit" "_law_digit" s_l_digit f_l_digit d_l_digit
  b_l_digit : Binds K d_l_digit ["state", "many"] []
  m_l_digit : mg "_law_digit" = some (.ref f_l_digit)
  F_l_frame : Fun K "_law_frame" "_law_frame" s_l_frame f_l_frame d_l_frame
  b_l_frame : Binds K d_l_frame ["state", "many"] []
  m_l_frame : mg "_law_frame" = some (.ref f_l_frame)
  F_l_octets : Fun K "_law_octets" "_law_octets" s_l_octets f_l_octets d_l_octets
  b_l_octets : Binds K d_l_octets ["frame"] []
  m_l_octets : mg "_law_octets" = some (.ref f_l_octets)
  F_l_copy : Fun K "_law_copy" "_law_copy" s_l_copy f_l_copy d_l_copy
  b_l_copy : Binds K d_l_copy ["frame"] []
  m_l_copy : mg "_law_copy" = some (.ref f_l_copy)
  F_l_same_octets : Fun K "_law_same_octets" "_law_same_octets" s_l_same_octets f_l_same_octets d_l_same_octets
  b_l_same_octets : Binds K d_l_same_octets ["told", "due"] []
  m_l_same_octets : mg "_law_same_octets" = some (.ref f_l_same_octets)
  F_l_read : Fun K "_law_read" "_law_read" s_l_read f_l_read d_l_read
  b_l_read : Binds K d_l_read ["octets"] []
  m_l_read : mg "_law_read" = some (.ref f_l_read)
  F_l_same : Fun K "_law_same" "_law_same" s_l_same f_l_same d_l_same
  b_l_same : Binds K d_l_same ["told", "frame", "size"] []
  m_l_same : mg "_law_same" = some (.ref f_l_same)
  F_l_holds : Fun K "_law_holds" "_law_holds" s_l_holds f_l_holds d_l_holds
  b_l_holds : Binds K d_l_holds ["frame", "state"] []
  m_l_holds : mg "_law_holds" = some (.ref f_l_holds)
  F_law : Fun K "law" "law" s_law f_law d_law
  b_law : Binds K d_law ["script"] []
  m_law : mg "law" = some (.ref f_law)
  n_bool : mg "bool" = none
  n_int : mg "int" = none
  n_isinstance : mg "isinstance" = none
  n_len : mg "len" = none
  n_list : mg "list" = none
  n_max : mg "max" = none
  n_min : mg "min" = none
  n_range : mg "range" = none
  n_reversed : mg "reversed" = none
  n_tuple : mg "tuple" = none


end My
namespace My
open PySem PySem.Spec L2
local macro_rules | `(tactic| walk_at "side") => `(tactic| first | assumption | decide | omega | exact ⟨by decide, by decide⟩ | exact ⟨by decide, by decide, by decide⟩ | decide +kernel | exact cdivW (by decide +kernel) (by decide +kernel) | exact Or.inl ⟨by omega, by omega⟩ | exact Or.inr ⟨by omega, by omega⟩ | (simp only [List.length_map, List.length_cons, List.length_nil, List.length_append]; omega))
local macro_rules | `(tactic| walk_at "fact") => `(tactic| first | assumption | omega | with_reducible rfl)
local macro_rules | `(tactic| walk_at "use") => `(tactic| fail "use")
local macro_rules | `(tactic| walk_at "go1") => `(tactic| with_reducible first | refine g_seq ?_ | refine g_asg ?_ | refine g_ret ?_ | refine g_ifS ?_ | refine g_drop ?_ | refine g_star ?_ | refine g_nx ?_ | refine g_rt ?_ | refine g_bkE ?_ | refine g_ctE ?_ | refine g_next ?_ | refine g_retN ?_ | refine g_brk ?_ | refine g_ct ?_ | refine g_c ?_ | refine g_op ?_ | refine g_un ?_ | refine g_rI0 ?_ | refine g_rU ?_ | refine g_rEqI ?_ | refine g_rNeI ?_ | refine g_isN ?_ | refine g_rIsB ?_ | refine g_rNotB ?_ | refine g_test ?_ | refine g_B ?_ | refine g_bl ?_ | refine g_and ?_ | refine g_or ?_ | refine g_not ?_ | refine g_andV ?_ | refine g_orV ?_ | refine g_notV ?_ | refine g_if ?_ | refine g_chain ?_ | refine g_yes ?_ | refine g_lc ?_ | refine g_revR ?_ | refine g_rng1 ?_ | refine g_iList ?_ | refine g_nil ?_ | refine g_cons ?_ | refine g_tup ?_ | refine g_lst ?_ | refine g_call ?_ | refine g_CB ?_ | refine g_sl ?_ | refine g_noPart ?_ | refine g_part ?_ | refine g_intE ?_ | refine g_ref ?_ | refine g_fld ?_ | refine g_sfld ?_ | refine g_meth ?_ | refine g_make ?_ | refine g_prop ?_  | refine g_ipI ?_ | refine g_int1 ?_ | refine g_int1B ?_ | refine g_one ?_ | refine g_two ?_ | refine g_isiI ?_ | refine g_isiIB ?_ | refine g_isiB ?_ | refine g_BM ?_ | refine g_BM0 ?_ | refine g_sub ?_)
local macro_rules | `(tactic| walk_at "go") => `(tactic| repeat (first | walk_at "go1" | ((with_reducible refine' g_nameE ?sd_ ?_); case sd_ => dsimp only [List.set_cons_succ, List.set_cons_zero]) | ((with_reducible refine' g_var ?sd_ ?_); case sd_ => exact rfl) | ((with_reducible refine' g_aug ?sd_ ?_); case sd_ => exact rfl) | ((with_reducible refine' g_rI ?sd_ ?_); case sd_ => walk_at "side") | ((with_reducible refine' g_dT ?sd_ ?_); case sd_ => walk_at "fact") | ((with_reducible refine' g_dF ?sd_ ?_); case sd_ => walk_at "fact") | ((with_reducible refine' g_nT ?sd_ ?_); case sd_ => walk_at "fact") | ((with_reducible refine' g_nF ?sd_ ?_); case sd_ => walk_at "fact") | (with_reducible refine g_iT rfl ?_) | (with_reducible refine g_iF rfl ?_) | walk_at "use"))
section
variable {P : Program} {w : World} {K : PySem.W.Frag} {mg : Str → Option Value} {base : Heap}
/-! ### exceptions -/
section
variable {X : Cx} {K : PySem.W.Frag} {σ : St} {H : Hp} {Q : VK} {W : WX} {D : Ends} {C : Addr} {ta : TE} {t : St → Hp → XK → Prop}
def tRaise (t : St → Hp → XK → Prop) (W : WX) : TS := fun _ σ H => t σ H fun cls d H' => W cls d σ H'
theorem ps_rs {e : Expr} {pos : Pos} (hc : X.calm = true) (tk : Takes X W) (he : PMk X e t) : PS X (.Raise (some e) none pos) (tRaise t W) := ps_raise hc tk he
def tMk0 (C : Addr) : St → Hp → XK → Prop := fun _ H Q => Q (.ref C) none H
def tMk1 (C : Addr) (ta : TE) : St → Hp → XK → Prop := fun σ H Q => ta σ H fun _ H1 => Q (.ref C) none H1
theorem pmk_0 {x m : Str} {j : Nat} {p p2 pos : Pos} {bmB : List Value} {B newId initId : String} (F : ExcBaseFacts B newId initId bmB) (q : PySem.W.excIn X.K C bmB newId = true) (gC : X.mg x = some (.ref C)) (kC : PySem.W.keepIn X.K (.ref C) = true) (r : Raises X (.ref C)) (hg : Gl X x)
    (hdb : (x == ("__debug__" : Str)) = false := by decide) : PMk X (.Call (.Name x p) [.Constant (.str m) j p2] [] pos) (tMk0 C) := pmk_own F q gC kC r hg hdb
theorem pmk_1 {x : Str} {e : Expr} {p pos : Pos} {bmB : List Value} {B newId initId : String} (F : ExcBaseFacts B newId initId bmB) (q : PySem.W.excIn X.K C bmB newId = true) (gC : X.mg x = some (.ref C)) (kC : PySem.W.keepIn X.K (.ref C) = true) (r : Raises X (.ref C)) (hg : Gl X x)
    (he : PE X e ta) (hs : starEach [e] X.env = (false, eval e X.env) :: starEach [] X.env := by rfl) (hdb : (x == ("__debug__" : Str)) = false := by decide) : PMk X (.Call (.Name x p) [e] [] pos) (tMk1 C ta) := SkE.pmk_own1 F q gC kC r hg he hs hdb
theorem g_rs0 (q : W (.ref C) none σ H) : tRaise (tMk0 C) W D σ H := q
theorem g_rs1 (h : ta σ H fun _ H1 => W (.ref C) none σ H1) : tRaise (tMk1 C ta) W D σ H := h
def tTryA (K : PySem.W.Frag) (c : Value) (i : Nat) (tb : WX → TS) (ts : Addr → Value → Option Addr → TS) (Wout : WX) : TS := fun D σ H => tb (wAs K c i ts Wout D) D σ H
def tTryO (K : PySem.W.Frag) (c : Value) (tb : WX → TS) (ts : Addr → Value → Option Addr → TS) (Wout : WX) : TS := fun D σ H => tb (wOnly K c ts Wout D) D σ H
theorem ps_tryA {x n : Str} {c : Value} {i : Nat} {body suite : List Stmt} {b₀ : Stmt} {np pos pos' : Pos} {tb : WX → TS} {ts : Addr → Value → Option Addr → TS} {Wout : WX} (hs : X.stack = X.env :: X.outer) (hf : X.env.frame = some X.env.locals) (hN : X.N.Nodup) (hi : X.N[i]? = some n) (hln : X.env.kindOf n = some .local) (hc : Names X x c) (tk : Takes X Wout)
    (hb : ∀ (W : WX) (pn : List (Addr × Obj)) (xe : Value → Shared → Prop), Takes (X.tr pn xe) W → PassesOwn (model X.prog X.w) X.A X.env xe → PSs (X.tr pn xe) body (tb W))
    (hsu : ∀ (a : Addr) (oe : Obj) (cls : Value) (d : Option Addr) (pn : List (Addr × Obj)), Zc cls d oe → (∃ vs, oe.data = .fields vs) → PSs (X.suite a ((a, oe) :: pn)) (b₀ :: suite) (ts a cls d)) :
    PS X (.Try body [.ExceptHandler (some (.Name x np)) (some n) (b₀ :: suite) pos'] [] [] pos) (tTryA X.K c i tb ts Wout) := ps_try_as hs hf hN hi hln hc tk hb hsu
theorem ps_tryO {x : Str} {c : Value} {body suite : List Stmt} {b₀ : Stmt} {np pos pos' : Pos} {tb : WX → TS} {ts : Addr → Value → Option Addr → TS} {Wout : WX} (hs : X.stack = X.env :: X.outer) (hf : X.env.frame = some X.env.locals) (hc : Names X x c) (tk : Takes X Wout)
    (hb : ∀ (W : WX) (pn : List (Addr × Obj)) (xe : Value → Shared → Prop), Takes (X.tr pn xe) W → PassesOwn (model X.prog X.w) X.A X.env xe → PSs (X.tr pn xe) body (tb W))
    (hsu : ∀ (a : Addr) (oe : Obj) (cls : Value) (d : Option Addr) (pn : List (Addr × Obj)), Zc cls d oe → (∃ vs, oe.data = .fields vs) → PSs (X.suite a ((a, oe) :: pn)) (b₀ :: suite) (ts a cls d)) :
    PS X (.Try body [.ExceptHandler (some (.Name x np)) none (b₀ :: suite) pos'] [] [] pos) (tTryO X.K c tb ts Wout) := ps_try_only hs hf hc tk hb hsu
variable {c cls : Value} {d : Option Addr} {i : Nat} {tb : WX → TS} {ts : Addr → Value → Option Addr → TS} {Wout : WX}
theorem g_tryA (h : tb (wAs K c i ts Wout D) D σ H) : tTryA K c i tb ts Wout D σ H := h
theorem g_tryO (h : tb (wOnly K c ts Wout D) D σ H) : tTryO K c tb ts Wout D σ H := h
theorem g_caught (e : PySem.W.exmOne K cls c = some true) (h : ∀ a, H a = none → ts a cls d { nx := fun σ' H' => D.nx (σ'.set i none) H', rt := D.rt, bk := fun σ' H' => D.bk (σ'.set i none) H', ct := fun σ' H' => D.ct (σ'.set i none) H' } (σ.set i (some (.ref a))) H) :
    wAs K c i ts Wout D cls d σ H := ⟨true, e, fun _ => h, fun z => nomatch z⟩
theorem g_caughtO (e : PySem.W.exmOne K cls c = some true) (h : ∀ a, H a = none → ts a cls d D σ H) : wOnly K c ts Wout D cls d σ H := ⟨true, e, fun _ => h, fun z => nomatch z⟩
theorem g_callS {sp : Sp} {E : St → XK} {t : TA} (h : t σ H fun vs H1 => sp vs H1 Q (E σ)) : tCallS sp E t σ H Q := h
/-- isinstance(e, c), e the exception that the suite holds, of a class known later -/
def rIsE2 (K : PySem.W.Frag) (a : Addr) (cls : Value) (d : Option Addr) : List V → Hp → VK → Prop := fun xs H Q => ∃ (D : Addr) (c : V) (cv : Value) (b : Bool), cls = .ref D ∧ d = none ∧ ExcC K D ∧ xs = [.ref a, c] ∧ (∀ u, RelV c u → u = cv) ∧ PySem.W.kitOne K (.ref D) cv = some b ∧ Q (.bl b) H
theorem call_isE2 {a : Addr} {oe : Obj} {pn : List (Addr × Obj)} (hz : Zc cls d oe) (hf : ∃ vs, oe.data = .fields vs) : CallR (X.suite a ((a, oe) :: pn)) (.builtin "isinstance") (rIsE2 X.K a cls d) := by
  intro pins s σ H xs us Q I r h
  obtain ⟨D, c, cv, b, rfl, rfl, C, e1, hcv, e, q⟩ := h
  exact call_isE C hz hf pins s σ H xs us Q I r ⟨c, cv, b, e1, hcv, e, q⟩
theorem g_isER {R B a : Addr} {b : Bool} (C : ExcC K R) (e : PySem.W.kitOne K (.ref R) (.ref B) = some b) (q : Q (.bl b) H) : rIsE2 K a (.ref R) none [.ref a, .ref B] H Q := ⟨R, _, _, b, rfl, rfl, C, rfl, fun u r => by cases r; rfl, e, q⟩
theorem g_isET {R a : Addr} {T : String} {b : Bool} (C : ExcC K R) (e : PySem.W.kitOne K (.ref R) (.type T) = some b) (q : Q (.bl b) H) : rIsE2 K a (.ref R) none [.ref a, .ty T] H Q := ⟨R, _, _, b, rfl, rfl, C, rfl, fun u r => by cases r; rfl, e, q⟩
/-! f-strings -/
def tJoined (ts : List TE) : TE := fun σ H Q => tJs ts Str.empty σ H fun out H1 => Q (.str out) H1
theorem pe_joinedJ {v1 v2 : Expr} {rest : List Expr} {ts : List TE} {pos : Pos} (h : PJ X (v1 :: v2 :: rest) ts) : PE X (.JoinedStr (v1 :: v2 :: rest) pos) (tJoined ts) := pe_joined h
theorem g_joined {ts : List TE} (h : tJs ts Str.empty σ H fun out H1 => Q (.str out) H1) : tJoined ts σ H Q := h
theorem g_jsnil {acc : Str} {A : Str → Hp → Prop} (q : A acc H) : tJs [] acc σ H A := q
theorem g_jscons {acc : Str} {A : Str → Hp → Prop} {t : TE} {ts : List TE} (h : t σ H fun x H1 => ∃ y : Str, x = .str y ∧ (acc ++ y).length ≤ sizeLine ∧ tJs ts (acc ++ y) σ H1 A) : tJs (t :: ts) acc σ H A := h
theorem g_jsE {acc y : Str} {A : Str → Prop} (h1 : (acc ++ y).length ≤ sizeLine) (q : A y) : ∃ y' : Str, V.str y = .str y' ∧ (acc ++ y').length ≤ sizeLine ∧ A y' := ⟨y, rfl, h1, q⟩
def rAddS : R2 := fun x y H Q => ∃ i j : Str, x = .str i ∧ y = .str j ∧ i.length + j.length ≤ sizeLine ∧ Q (.str (i ++ j)) H
theorem op_addS : OpR X (binaryOp .Add) rAddS := op_add_str
theorem g_addS {y z : Str} (h : y.length + z.length ≤ 16777216) (q : Q (.str (y ++ z)) H) : rAddS (.str y) (.str z) H Q := ⟨y, z, rfl, rfl, by rw [sizeLine_eq]; exact h, q⟩
theorem g_slS {y : Str} {lo hi : Option Int} (h : y.length ≤ 16777216) (q : Q (.str (cutS y lo hi)) H) : rSlS (.str y) lo hi H Q := ⟨y, rfl, by rw [sizeLine_eq]; exact h, q⟩
theorem g_m0 {r : V → List V → Hp → VK → Prop} {to : TE} (h : to σ H fun x H1 => (∃ a, x = V.str a) ∧ r x [] H1 Q) : tM0 r to σ H Q := h
theorem g_fmtS {y : Str} {A : Str → Prop} {B : Int → Prop} (h : y.length ≤ sizeLine) (q : A y) : (∃ y' : Str, V.str y = .str y' ∧ y'.length ≤ sizeLine ∧ A y') ∨ ∃ i : Int, V.str y = .int i ∧ i.natAbs.log2 < 1920 ∧ B i := .inl ⟨y, rfl, h, q⟩
theorem g_fmtI {j : Int} {A : Str → Prop} {B : Int → Prop} (h : j.natAbs.log2 < 1920) (q : B j) : (∃ y' : Str, V.int j = .str y' ∧ y'.length ≤ sizeLine ∧ A y') ∨ ∃ i : Int, V.int j = .int i ∧ i.natAbs.log2 < 1920 ∧ B i := .inr ⟨j, rfl, h, q⟩
theorem g_fmt (h : ta σ H fun x H1 => (∃ y : Str, x = .str y ∧ y.length ≤ sizeLine ∧ Q (.str y) H1) ∨ ∃ i : Int, x = .int i ∧ i.natAbs.log2 < 1920 ∧ Q (.str (toString i)) H1) : tFmt ta σ H Q := h
end
theorem kit_refT {K : PySem.W.Frag} {t : Value} {C : Addr} (a : PySem.W.isClsIn K C = true) (b : PySem.W.typeIn K (.ref C) = some (.type "type")) (c : PySem.W.subIn K t (.ref C) = some true) : PySem.W.kitOne K t (.ref C) = some true := by
  unfold PySem.W.isClsIn at a
  unfold PySem.W.kitOne
  by_cases z : (t == Value.ref C) = true
  · rw [if_pos z]
  · rw [if_neg z]
    show (if ((PySem.W.clsIn K C).isSome && PySem.W.typeIn K (.ref C) == some (.type "type")) = true then PySem.W.subIn K t (.ref C) else none) = some true
    rw [a, b, if_pos (by rw [Bool.true_and]; exact beq_self_eq_true _)]
    exact c
theorem kit_refF {K : PySem.W.Frag} {R C : Addr} (a : PySem.W.isClsIn K C = true) (b : PySem.W.typeIn K (.ref C) = some (.type "type")) (c : PySem.W.subIn K (.ref R) (.ref C) = some false) (r : PySem.W.subIn K (.ref R) (.ref R) = some true) : PySem.W.kitOne K (.ref R) (.ref C) = some false := by
  unfold PySem.W.isClsIn at a
  unfold PySem.W.kitOne
  by_cases z : (Value.ref R == Value.ref C) = true
  · have e : Value.ref R = Value.ref C := beq_iff_eq.mp z
    injection e with e
    subst e
    rw [c] at r
    cases r
  · rw [if_neg z]
    show (if ((PySem.W.clsIn K C).isSome && PySem.W.typeIn K (.ref C) == some (.type "type")) = true then PySem.W.subIn K (.ref R) (.ref C) else none) = some false
    rw [a, b, if_pos (by rw [Bool.true_and]; exact beq_self_eq_true _)]
    exact c
theorem kit_tyT {K : PySem.W.Frag} {R : Addr} {T : String} {b : Bool} (a : PySem.W.kitMeta T = true) (c : PySem.W.subIn K (.ref R) (.type T) = some b) : PySem.W.kitOne K (.ref R) (.type T) = some b := by
  unfold PySem.W.kitOne
  rw [if_neg (by show ¬ (Value.ref R == Value.type T) = true; exact fun h => by cases (beq_iff_eq.mp h))]
  show (if PySem.W.kitMeta T = true then PySem.W.subIn K (.ref R) (.type T) else none) = some b
  rw [if_pos a]
  exact c
/-! a written dict with texts as keys -/
theorem ns_entry {K : PySem.W.Frag} {a : Addr} {c : Value} {d : Option Addr} {es : Array DictEntry} {n : Nat} {sl : Array (Option Value)} {x : Str} {u : Value} (h : K.lookup a = some ⟨c, d, .dict es n, sl⟩) (e : (es.toList.find? (·.key.isStr x)).map (·.val) = some u) : PySem.W.nsIn K a x = some (some u) := by
  unfold PySem.W.nsIn
  rw [h]
  dsimp only
  cases q : es.toList.find? (·.key.isStr x) with
  | none => rw [q] at e; cases e
  | some z => rw [q] at e; injection e with e; rw [← e]
theorem fit2 {a b : Str} (h : a.length + b.length ≤ 16777216) : (a ++ b).length ≤ sizeLine := by
  rw [PySem.Str.length_append, sizeLine_eq]
  exact h
theorem log_lt {n : Nat} (h : n < 2 ^ 64) : n.log2 < 1920 := by
  by_cases z : n = 0
  · subst z; decide
  · exact Nat.lt_trans (Nat.log2_lt z |>.mpr h) (by decide)
theorem itext {i : Int} (h : i.natAbs < 2 ^ 64) : (Str.ofString (toString i)).length ≤ 1921 := PyProof.Rows.int_text_len_1921 (log_lt h)
def keyS (e : DictEntry) : Option Str := match e.key with | .str s _ => some s | _ => none
theorem find_keys : ∀ {l : List DictEntry} {ks : List Str} {z : Str}, l.map keyS = ks.map some → z ∉ ks → l.find? (·.key.isStr z) = none ∧ l.any (·.refKey) = false
  | [], _, _, _, _ => ⟨rfl, rfl⟩
  | e :: l, [], _, h, _ => by cases h
  | e :: l, k :: ks, z, h, hz => by
    simp only [List.map_cons, List.cons.injEq] at h
    obtain ⟨i1, i2⟩ := find_keys (l := l) (ks := ks) (z := z) h.2 fun m => hz (List.mem_cons_of_mem _ m)
    have h1 := h.1
    unfold keyS at h1
    obtain ⟨hs, key, val⟩ := e
    dsimp only at h1 ⊢
    cases key with
    | str s t =>
      injection h1 with h1
      subst h1
      have ne : (s == z) = false := by
        rw [beq_eq_false_iff_ne]
        intro e
        exact hz (e ▸ List.mem_cons_self ..)
      refine ⟨?_, ?_⟩
      · rw [List.find?_cons]
        show (match (s == z) with | true => _ | false => _) = none
        rw [ne]
        exact i1
      · rw [List.any_cons, i2, Bool.or_false]
        rfl
    | _ => cases h1
theorem ns_out {K : PySem.W.Frag} {a : Addr} {c : Value} {d : Option Addr} {es : Array DictEntry} {n : Nat} {sl : Array (Option Value)} {z : Str} {ks : List Str} (h : K.lookup a = some ⟨c, d, .dict es n, sl⟩) (e : es.toList.map keyS = ks.map some) (hz : z ∉ ks) : PySem.W.nsIn K a z = some none := by
  obtain ⟨i1, i2⟩ := find_keys e hz
  unfold PySem.W.nsIn
  rw [h]
  dsimp only
  rw [i1]
  dsimp only
  rw [i2]
  rfl
section
variable {K : PySem.W.Frag} {H : Hp} {Q : VK}
def rInK (K : PySem.W.Frag) (d : Addr) : R2 := fun x y H Q => ∃ (z : Str) (r : Option Value), x = .str z ∧ y = .ref d ∧ PySem.W.nsIn K d z = some r ∧ Q (.bl r.isSome) H
def rNotInK (K : PySem.W.Frag) (d : Addr) : R2 := fun x y H Q => ∃ (z : Str) (r : Option Value), x = .str z ∧ y = .ref d ∧ PySem.W.nsIn K d z = some r ∧ Q (.bl (!r.isSome)) H
theorem op_inK {X : Cx} {d : Addr} {es : Array DictEntry} {n : Nat} (D : KDict X.K X.w d es n) : OpR X (compareOp .In) (rInK X.K d) := op_in_kd D
theorem op_notInK {X : Cx} {d : Addr} {es : Array DictEntry} {n : Nat} (D : KDict X.K X.w d es n) : OpR X (compareOp .NotIn) (rNotInK X.K d) := op_notIn_kd D
theorem g_inK {d : Addr} {z : Str} {u : Value} (e : PySem.W.nsIn K d z = some (some u)) (q : Q (.bl true) H) : rInK K d (.str z) (.ref d) H Q := ⟨z, _, rfl, rfl, e, q⟩
theorem g_inKn {d : Addr} {z : Str} (e : PySem.W.nsIn K d z = some none) (q : Q (.bl false) H) : rInK K d (.str z) (.ref d) H Q := ⟨z, _, rfl, rfl, e, q⟩
theorem g_notInK {d : Addr} {z : Str} {u : Value} (e : PySem.W.nsIn K d z = some (some u)) (q : Q (.bl false) H) : rNotInK K d (.str z) (.ref d) H Q := ⟨z, _, rfl, rfl, e, q⟩
theorem g_notInKn {d : Addr} {z : Str} (e : PySem.W.nsIn K d z = some none) (q : Q (.bl true) H) : rNotInK K d (.str z) (.ref d) H Q := ⟨z, _, rfl, rfl, e, q⟩
theorem g_ixK {w : World} {d : Addr} {z : Str} {u : Value} {v : V} {es : Array DictEntry} {n : Nat} (D : KDict K w d es n) (e : PySem.W.nsIn K d z = some (some u)) (r : RelV v u) (q : Q v H) : rIxD K w (.ref d) (.str z) H Q := ⟨d, z, v, rfl, rfl, ⟨es, n, u, D.at_, D.lit, e, r⟩, q⟩
end
local macro_rules | `(tactic| walk_at "use") => `(tactic| with_reducible first | refine g_rs0 ?_ | refine g_rs1 ?_ | refine g_tryA ?_ | refine g_tryO ?_ | refine g_callS ?_ | refine g_joined ?_ | refine g_jsnil ?_ | refine g_jscons ?_ | refine g_fmt ?_)
local macro_rules | `(tactic| walk_at "fit") => `(tactic| (refine fit2 ?_; (try simp only [PySem.Str.length_append]); omega))
local macro_rules | `(tactic| walk_at "use") => `(tactic| first | ((with_reducible refine' g_addS ?sd_ ?_); case sd_ => (first | omega | (simp only [PySem.Str.length_append]; omega))) | ((with_reducible refine' g_slS ?sd_ ?_); case sd_ => omega) | (with_reducible refine g_m0 ?_))


section
variable {K : PySem.W.Frag} {H : Hp} {Q : VK}
theorem dec_str {s t : Str} : decide (V.str s = V.str t) = decide (s = t) := decide_eq_decide.mpr ⟨V.str.inj, congrArg _⟩
theorem g_rEqS {s t : Str} (q : Q (.bl (decide (s = t))) H) : rEq (.str s) (.str t) H Q := g_rEq rfl (by rw [dec_str]; exact q)
theorem g_rNeS {s t : Str} (q : Q (.bl (!decide (s = t))) H) : rNe (.str s) (.str t) H Q := g_rNe rfl (by rw [dec_str]; exact q)
theorem inV_str {s : Str} : ∀ {ws : List Str}, inV (.str s) (ws.map V.str) = decide (s ∈ ws)
  | [] => (decide_eq_false (by simp)).symm
  | t :: ws => by
    show ((t == s) || inV (.str s) (ws.map V.str)) = _
    rw [inV_str, Bool.eq_iff_iff]
    simp only [Bool.or_eq_true, beq_iff_eq, decide_eq_true_eq, List.mem_cons]
    exact ⟨fun h => h.imp Eq.symm id, fun h => h.imp Eq.symm id⟩
theorem flat_strs : ∀ {ws : List Str}, (ws.map V.str).all flatV = true
  | [] => rfl
  | _ :: ws => flat_strs (ws := ws)
theorem g_inS {p : Addr} {ws : List Str} {s : Str} (h : SqT K H p (ws.map V.str)) (q : Q (.bl (decide (s ∈ ws))) H) : rIn K false (.str s) (.ref p) H Q :=
  ⟨p, _, rfl, .inr h, rfl, flat_strs, by rw [if_neg (by decide), inV_str]; exact q⟩
theorem g_isiS {s : Str} (q : Q (.bl true) H) : rIsi K [.str s, .ty "str"] H Q := g_isi (.ty _) (.base (.str _)) (kit_ty (by decide +kernel)) q
end
local macro_rules | `(tactic| walk_at "use") => `(tactic| with_reducible first | refine g_rEqS ?_ | refine g_rNeS ?_ | refine g_isiS ?_)

def dg (n : Int) : Nat → List Int
  | 0 => []
  | k + 1 => (n / 256 ^ k % 256) :: dg n k
theorem dg_len (n : Int) : ∀ k, (dg n k).length = k
  | 0 => rfl
  | k + 1 => congrArg Nat.succ (dg_len n k)
theorem dg_get (n : Int) : ∀ k i, i < k → (dg n k)[i]? = some (n / 256 ^ (k - 1 - i) % 256)
  | 0, _, h => by omega
  | k + 1, 0, _ => rfl
  | k + 1, i + 1, h => by
    show (dg n k)[i]? = _
    rw [dg_get n k i (by omega)]
    rw [show k + 1 - 1 - (i + 1) = k - 1 - i by omega]
theorem pw8 {n pl : Int} {m : Nat} (e : 8 * pl = ((8 * m : Nat) : Int)) : n / 2 ^ (8 * pl).toNat = n / 256 ^ m := by
  rw [e, Int.toNat_natCast, Int.pow_mul]
  rfl
def sp_write_number (K : PySem.W.Frag) : Sp := fun vs H Q _ => ∃ (n k : Int), vs = [.int n, .int k] ∧ (0 ≤ k ∧ k ≤ 1000) ∧ ∀ p H', H p = none → Same H H' → H' p = some (.lst ((dg n k.toNat).map V.int)) → Q (.ref p) H'
theorem u_write {n k : Int} {H Q E} (h : 0 ≤ k ∧ k ≤ 1000) (q : ∀ p H', H p = none → Same H H' → H' p = some (.lst ((dg n k.toNat).map V.int)) → Q (.ref p) H') : sp_write_number K ([.int n, .int k] ++ []) H Q E := ⟨n, k, rfl, h, q⟩
theorem ok_write_number (T : Txt w K mg) : FnOk P w K mg base CX0 1 T.f_write_number T.d_write_number ["number", "size"] (sp_write_number K) := by
  refine T.F_write_number.ok sc_write_number (fun vs H Q E h => ?_) (fun cdv A outer s H vs Q E hr h => ?_)
  · obtain ⟨n, k, rfl, h0, q⟩ := h
    rfl
  · obtain ⟨n, k, rfl, h0, q⟩ := h
    have hu := hu_of hr
    refine ⟨_, (pss_one (ps_ret (pe_lc (own := [("place", 2)]) (g := gName 2) (tt := tYes) rfl sc_write_number.nd (pi_revR (by rfl) T.n_reversed (prg_1 (by rfl) T.n_range (pv 1))) (blkOk_by (N := ["number", "size", "place"]) (sc := defScope s_write_number) (by decide +kernel)) (fun _ _ _ _ _ => (pg_name (i := 2) sc_write_number.nd rfl (Or.inl rfl))) (fun _ _ _ _ _ => pts_nil) (fun _ _ _ _ _ => (pe_op op_andM (pe_op op_shr (pv 0) (pe_op op_mul pe_int (pv 2))) pe_int))))), ?_⟩
    dsimp only [cxOf, Cx.nox, Cx.wish, L2.start, List.map, List.cons_append, List.nil_append, List.length_cons, List.length_nil, Nat.reduceAdd, Nat.reduceSub, Nat.zero_add, List.replicate_succ, List.replicate_zero]
    walk_at "go"
    refine ⟨by decide, by decide, by omega, by omega, fun D hD => ?_⟩
    refine lc_vals walk_rangeC ((dg n k.toNat).map V.int) hD (by rw [List.length_map, dg_len, Int.sub_zero]) (fun _ _ => trivial) ?_ (fun H' s e => q D H' hD s e)
    rintro i x H1 H2 hi p ⟨rfl, rfl⟩
    refine ⟨rfl, ?_⟩
    walk_at "go"
    refine ⟨_, 8, rfl, rfl, ?_⟩
    refine lc_next hD p (by rw [List.length_map, dg_len]; omega) ?_
    rw [List.getElem?_map, dg_get n _ i (by omega)]
    show some (V.int _) = some (V.int _)
    rw [pw8 (m := k.toNat - 1 - i) (by omega)]
    rfl
local macro_rules | `(tactic| walk_at "use") => `(tactic| with_reducible refine u_write (by omega) ?_)

def vl (ns : List Int) : Int := ns.foldl (fun v x => 256 * v + x) 0
theorem vl_take {ns : List Int} {i : Nat} {x : Int} (h : ns[i]? = some x) : vl (ns.take (i + 1)) = 256 * vl (ns.take i) + x := by
  unfold vl
  rw [List.take_add_one, h, List.foldl_append]
  rfl
def sp_read_number (K : PySem.W.Frag) : Sp := fun vs H Q _ => ∃ (a : Addr) (ns : List Int), vs = [.ref a] ∧ SqL K H a (ns.map V.int) ∧ Q (.int (vl ns)) H
theorem u_read {a : Addr} {ns : List Int} {H Q E} (h : SqL K H a (ns.map V.int)) (q : Q (.int (vl ns)) H) : sp_read_number K ([.ref a] ++ []) H Q E := ⟨a, ns, rfl, h, q⟩
theorem ok_read_number (T : Txt w K mg) : FnOk P w K mg base CX0 1 T.f_read_number T.d_read_number ["octets"] (sp_read_number K) := by
  refine T.F_read_number.ok sc_read_number (fun vs H Q E h => ?_) (fun cdv A outer s H vs Q E hr h => ?_)
  · obtain ⟨a, ns, rfl, h, q⟩ := h
    rfl
  · obtain ⟨a, ns, rfl, h, q⟩ := h
    have hu := hu_of hr
    refine ⟨_, (pss_cons (ps_set (i := 1) sc_read_number.nd rfl (Or.inl rfl) pe_int)
        (pss_cons (ps_for PassesOwn.never rfl (pi_list (pv 0)) (pg_name (i := 2) sc_read_number.nd rfl (Or.inl rfl)) (pss_one (ps_set (i := 1) sc_read_number.nd rfl (Or.inl rfl) (pe_op op_add (pe_op op_mul pe_int (pv 1)) (pv 2)))))
        (pss_one (ps_ret (pv 1))))), ?_⟩
    dsimp only [cxOf, Cx.nox, Cx.wish, L2.start, List.map, List.cons_append, List.nil_append, List.length_cons, List.length_nil, Nat.reduceAdd, Nat.reduceSub, Nat.zero_add, List.replicate_succ, List.replicate_zero]
    walk_at "go"
    refine for_l (xs := ns.map V.int) (fun i σ H' => H' = H ∧ ∃ v, σ = [some (.ref a), some (.int (vl (ns.take i))), v]) h ⟨rfl, none, rfl⟩ (fun i σ H' _ ⟨e, _⟩ => by rw [e]; exact h) ?turn ?done ?ev
    case ev =>
      intro R r
      walk_at "go"
      exact r
    case done =>
      rintro σ H' ⟨rfl, v, rfl⟩
      rw [List.length_map, List.take_length]
      walk_at "go"
      exact q
    case turn =>
      rintro i x σ H' hx ⟨rfl, v, rfl⟩
      obtain ⟨z, hz, rfl⟩ := map_get hx
      walk_at "go"
      refine ⟨rfl, some (.int z), ?_⟩
      rw [vl_take hz]

def sp_l_is_integer (K : PySem.W.Frag) : Sp := fun vs H Q _ => ∃ (n : Int), vs = [.int n] ∧ Q (.bl true) H
theorem u_isint {n : Int} {H Q E} (q : Q (.bl true) H) : sp_l_is_integer K ([.int n] ++ []) H Q E := ⟨n, rfl, q⟩
theorem ok_l_is_integer (T : Txt w K mg) : FnOk P w K mg base CX0 1 T.f_l_is_integer T.d_l_is_integer ["told"] (sp_l_is_integer K) := by
  refine T.F_l_is_integer.ok sc_l_is_integer (fun vs H Q E h => ?_) (fun cdv A outer s H vs Q E hr h => ?_)
  · obtain ⟨n, rfl, q⟩ := h
    rfl
  · obtain ⟨n, rfl, q⟩ := h
    have hu := hu_of hr
    refine ⟨_, (pss_one (ps_ret (pe_and (pe_callB call_isi (by rfl) T.n_isinstance (by decide +kernel) (pa_cons (pv 0) (pa_cons (pe_bltn (v := .ty "int") (by rfl) T.n_int (by decide +kernel) rfl) pa_nil))) (pe_one (pe_not (pe_callB call_isi (by rfl) T.n_isinstance (by decide +kernel) (pa_cons (pv 0) (pa_cons (pe_bltn (v := .ty "bool") (by rfl) T.n_bool (by decide +kernel) rfl) pa_nil)))))))), ?_⟩
    dsimp only [cxOf, Cx.nox, Cx.wish, L2.start, List.map, List.cons_append, List.nil_append, List.length_cons, List.length_nil, Nat.reduceAdd, Nat.reduceSub, Nat.zero_add, List.replicate_succ, List.replicate_zero]
    walk_at "go"
    exact q
local macro_rules | `(tactic| walk_at "use") => `(tactic| with_reducible refine u_isint ?_)

def sp_l_cell (K : PySem.W.Frag) : Sp := fun vs H Q _ => ∃ (a : Addr) (ns : List Int) (k : Int), vs = [.ref a, .int k] ∧ SqL K H a (ns.map V.int) ∧ 0 ≤ k ∧ Q (.int (cell ns k)) H
theorem u_cell {a : Addr} {ns : List Int} {k : Int} {H Q E} (h : SqL K H a (ns.map V.int)) (h0 : 0 ≤ k) (q : Q (.int (cell ns k)) H) : sp_l_cell K ([.ref a, .int k] ++ []) H Q E := ⟨a, ns, k, rfl, h, h0, q⟩
theorem ok_l_cell (T : Txt w K mg) : FnOk P w K mg base CX0 1 T.f_l_cell T.d_l_cell ["script", "k"] (sp_l_cell K) := by
  refine T.F_l_cell.ok sc_l_cell (fun vs H Q E h => ?_) (fun cdv A outer s H vs Q E hr h => ?_)
  · obtain ⟨a, ns, k, rfl, hS, h0, q⟩ := h
    rfl
  · obtain ⟨a, ns, k, rfl, hS, h0, q⟩ := h
    have hu := hu_of hr
    refine ⟨_, (pss_cons (ps_if (pt_cmpR op_lt (pv 1) (pe_callB call_len_seq (by rfl) T.n_len (by decide +kernel) (pa_cons (pv 0) pa_nil)) (nomark _)) (pss_one (ps_ret (pe_ix ix_list (pv 0) (pv 1) (fun _ _ => rfl)))) pss_nil)
        (pss_one (ps_ret pe_int))), ?_⟩
    dsimp only [cxOf, Cx.nox, Cx.wish, L2.start, List.map, List.cons_append, List.nil_append, List.length_cons, List.length_nil, Nat.reduceAdd, Nat.reduceSub, Nat.zero_add, List.replicate_succ, List.replicate_zero]
    walk_at "go"
    refine g_len (.inl hS) ?_
    walk_at "go"
    rw [List.length_map]
    refine g_ite (fun h => ?_) (fun h => ?_)
    · walk_at "go"
      refine g_ixL hS (atI_map h0 h) ?_
      exact q
    · walk_at "go"
      rw [cell_out h] at q
      exact q
local macro_rules | `(tactic| walk_at "use") => `(tactic| with_reducible refine u_cell (by assumption) (by decide) ?_)

def sp_l_start (K : PySem.W.Frag) : Sp := fun vs H Q _ => ∃ c k : Int, vs = [.int c, .int k] ∧ ∀ p n, H p = none → Q (.ref p) (upd H p (.lst [.int n]))
theorem u_start {c k : Int} {H Q E} (q : ∀ p n, H p = none → Q (.ref p) (upd H p (.lst [.int n]))) : sp_l_start K ([.int c, .int k] ++ []) H Q E := ⟨c, k, rfl, q⟩
theorem one_ok : 1 ≤ sizeLine := by decide
theorem abs_mod {a : Int} : (a % 618970019642690137449562111).natAbs < 2 ^ 89 := by omega
theorem ok_l_start (T : Txt w K mg) : FnOk P w K mg base CX0 1 T.f_l_start T.d_l_start ["cell", "k"] (sp_l_start K) := by
  refine T.F_l_start.ok sc_l_start (fun vs H Q E h => ?_) (fun cdv A outer s H vs Q E hr h => ?_)
  · obtain ⟨c, k, rfl, q⟩ := h
    rfl
  · obtain ⟨c, k, rfl, q⟩ := h
    have hu := hu_of hr
    refine ⟨_, (pss_cons (ps_set (i := 2) sc_l_start.nd rfl (Or.inl rfl) pe_int)
        (pss_cons (ps_if (pt_chain op_lt op_lt (pe_un un_neg pe_int) (pv 0) pe_int) (pss_cons (ps_set (i := 3) sc_l_start.nd rfl (Or.inl rfl) (pe_op op_mod (pe_callTy call_int1 (by rfl) T.n_int (by decide +kernel) (pa_cons (pe_op op_add (pe_op op_mul (pv 0) pe_int) (pe_op op_mul (pe_op op_add (pv 1) pe_int) pe_int)) pa_nil)) (pv 2)))
        (pss_one (ps_ret (pe_lst (pa_cons (pe_op op_mod (pe_callTy call_int1 (by rfl) T.n_int (by decide +kernel) (pa_cons (pe_op op_add (pe_op op_add (pe_op op_mulW (pv 3) (pv 3)) (pe_op op_mul pe_int (pv 3))) (pv 1)) pa_nil)) (pv 2)) pa_nil))))) pss_nil)
        (pss_one (ps_ret (pe_lst (pa_cons (pv 0) pa_nil)))))), ?_⟩
    dsimp only [cxOf, Cx.nox, Cx.wish, L2.start, List.map, List.cons_append, List.nil_append, List.length_cons, List.length_nil, Nat.reduceAdd, Nat.reduceSub, Nat.zero_add, List.replicate_succ, List.replicate_zero]
    walk_at "go"
    refine g_ite (fun c1 => ?_) (fun c1 => ?_)
    · walk_at "go"
      refine g_ite (fun c2 => ?_) (fun c2 => ?_)
      · walk_at "go"
        refine g_rI (wide_mul abs_mod abs_mod (by decide) (by decide) (by decide)) ?_
        walk_at "go"
        exact ⟨one_ok, fun p hp => q p _ hp⟩
      · walk_at "go"
        exact ⟨one_ok, fun p hp => q p _ hp⟩
    · walk_at "go"
      exact ⟨one_ok, fun p hp => q p _ hp⟩
theorem lt8000 {m : Int} (h : m < 18446744073709551616) : m < 2 ^ 8000 := Int.lt_trans h (by decide +kernel)
def sp_l_digit (K : PySem.W.Frag) : Sp := fun vs H Q _ => ∃ (p : Addr) (n m : Int), vs = [.ref p, .int m] ∧ H p = some (.lst [.int n]) ∧ 0 < m ∧ m < 18446744073709551616 ∧ Q (.int (n % m)) (upd H p (.lst [.int (n / m)]))
theorem u_digit {p : Addr} {n m : Int} {H Q E} (h : H p = some (.lst [.int n])) (h0 : 0 < m) (h1 : m < 18446744073709551616) (q : Q (.int (n % m)) (upd H p (.lst [.int (n / m)]))) : sp_l_digit K ([.ref p, .int m] ++ []) H Q E := ⟨p, n, m, rfl, h, h0, h1, q⟩
theorem ok_l_digit (T : Txt w K mg) : FnOk P w K mg base CX0 1 T.f_l_digit T.d_l_digit ["state", "many"] (sp_l_digit K) := by
  refine T.F_l_digit.ok sc_l_digit (fun vs H Q E h => ?_) (fun cdv A outer s H vs Q E hr h => ?_)
  · obtain ⟨p, n, m, rfl, hp, h0, h1, q⟩ := h
    rfl
  · obtain ⟨p, n, m, rfl, hp, h0, h1, q⟩ := h
    have hu := hu_of hr
    refine ⟨_, (pss_cons (ps_set (i := 2) sc_l_digit.nd rfl (Or.inl rfl) (pe_op op_mod (pe_callTy call_int1 (by rfl) T.n_int (by decide +kernel) (pa_cons (pe_ix ix_list (pv 0) pe_int (fun _ _ => rfl)) pa_nil)) (pv 1)))
        (pss_cons (ps_asg (pe_op op_fdivW (pe_ix ix_list (pv 0) pe_int (fun _ _ => rfl)) (pv 1)) (pg_sub (pv 0) pe_int set_list))
        (pss_one (ps_ret (pv 2))))), ?_⟩
    dsimp only [cxOf, Cx.nox, Cx.wish, L2.start, List.map, List.cons_append, List.nil_append, List.length_cons, List.length_nil, Nat.reduceAdd, Nat.reduceSub, Nat.zero_add, List.replicate_succ, List.replicate_zero]
    walk_at "go"
    refine g_ixL (sl hp) (at_of (j := 0) rfl rfl) ?_
    walk_at "go"
    refine g_ixL (sl hp) (at_of (j := 0) rfl rfl) ?_
    walk_at "go"
    refine g_rI (cdivW h0 (lt8000 h1)) ?_
    walk_at "go"
    refine g_setL (j := 0) hp rfl ?_
    walk_at "go"
    exact q

/-- [_law_digit(state, m) for j in range(cnt)] -/
theorem lc_digs {σ : St} {H1 : Hp} {p : Addr} {n m : Int} {cnt is j : Nat} {D : Addr} {Qd : Hp → Prop} (hD : H1 D = none) (hp : H1 p = some (.lst [.int n])) (h0 : 0 < m) (h1 : m < 18446744073709551616) (hc : cnt ≤ 100000)
    (hσ : ∀ x, ((wipe σ [j]).set j (some x))[is]? = some (some (.ref p)))
    (q : ∀ (H' : Hp) (us : List Int) (n' : Int), But p H1 H' → H' D = some (.lst (us.map V.int)) → H' p = some (.lst [.int n']) → us.length = cnt → (∀ u ∈ us, 0 ≤ u ∧ u < m) → Qd H') :
    ∃ W : Nat → Nat → Hp → Prop, (∃ m, W 0 m (upd H1 D (.lst []))) ∧ ∀ i m0 H, W i m0 H →
      ((Itr 0 cnt).stop i H ∧ Qd H) ∨ ((Itr 0 cnt).go i H ∧ ∃ Nx : Hp → Prop, (∀ H', Nx H' → ∃ m', m' < m0 ∧ W (i + 1) m' H') ∧ ∀ x H', (Itr 0 cnt).yld i H x H' → gName j x (wipe σ [j]) H' fun σ2 H2 => wipe σ2 [j] = wipe σ [j] ∧ tYes σ2 H2 fun b H3 =>
        if b = true then tCall (sp_l_digit K) [] E0 (tCons (tVar is) (tCons (tC (.int m)) tNil)) σ2 H3 fun y H4 => ∃ acc, H4 D = some (.lst acc) ∧ acc.length < sizeLine ∧ Nx (upd H4 D (.lst (acc ++ [y]))) else Nx H3) := by
  have nDp : p ≠ D := ne_of_none hp hD
  refine lc_it walk_range (fun i H => But p H1 H ∧ ∃ (us : List Int) (n' : Int), H D = some (.lst (us.map V.int)) ∧ H p = some (.lst [.int n']) ∧ us.length = i ∧ (∀ u ∈ us, 0 ≤ u ∧ u < m)) ?_ (fun _ _ _ _ => trivial) ?_ ?_
  · refine ⟨But.of (same_upd hD), [], n, upd_same, (same_upd hD) _ _ hp, rfl, fun u z => nomatch z⟩
  · rintro i x H H' hi ⟨bt, us, n', hu, hn, hl, hb⟩ ⟨rfl, rfl⟩
    refine ⟨?_, ?_⟩
    · show ((σ.set j none).set j (some _)).set j none = σ.set j none
      rw [List.set_set, List.set_set]
    refine g_yes ?_
    refine iteT ?_
    refine g_call ?_
    refine g_cons ?_
    refine g_var (hσ _) ?_
    refine g_cons ?_
    refine g_c ?_
    refine g_nil ?_
    refine u_digit hn h0 h1 ?_
    refine ⟨us.map V.int, ?_, ?_, ?_⟩
    · rw [upd_ne (Ne.symm nDp)]
      exact hu
    · rw [List.length_map]
      exact szl (by omega)
    · refine ⟨?_, us ++ [n' % m], n' / m, ?_, ?_, ?_, ?_⟩
      · intro b o nb e
        by_cases z : b = D
        · rw [z, hD] at e; cases e
        · rw [upd_ne z, upd_ne nb]
          exact bt b o nb e
      · rw [upd_same, List.map_append]
        rfl
      · rw [upd_ne nDp, upd_same]
      · rw [List.length_append, hl]
        rfl
      · intro u hu
        rcases List.mem_append.mp hu with z | z
        · exact hb u z
        · rw [List.mem_singleton.mp z]
          exact ⟨Int.emod_nonneg _ (by omega), Int.emod_lt_of_pos _ h0⟩
  · rintro H ⟨bt, us, n', hu, hn, hl, hb⟩
    exact q H us n' bt hu hn hl hb

theorem dg2 {n : Int} : dg n 2 = [n / 256 % 256, n % 256] := by
  show [n / 256 ^ 1 % 256, n / 256 ^ 0 % 256] = _
  rw [Int.pow_one, Int.pow_zero, Int.ediv_one]
theorem vl_two {a b : Int} : vl [a, b] = 256 * a + b := by
  show 256 * (256 * 0 + a) + b = _
  omega
theorem vl_dg {n : Int} (h : 0 ≤ n ∧ n < 65536) : vl [n / 256 % 256, n % 256] = n := by
  rw [vl_two]
  omega
def seg (xs : List Int) (a b : Nat) : List Int := (xs.take b).drop a
theorem cutV_seg {bs : List Int} {a b : Nat} (h : a ≤ b) (hb : b ≤ bs.length) : cutV (bs.map V.int) (some (a : Int)) (some (b : Int)) = (seg bs a b).map V.int := by
  unfold cutV seg
  rw [HT.sIx_nat, HT.sIx_nat, List.length_map, Nat.min_eq_left (by omega), Nat.min_eq_left (by omega), List.map_drop, List.map_take, List.drop_take]
inductive Fr where
  | op (c : Int)
  | oc (c : Int) (os : List Int)
  | pm (c n : Int)
  | en (c : Int)
  | rs (c n : Int)
def FrO (H : Hp) (t : Addr) : Fr → Prop
  | .op c => H t = some (.tup [.str "open", .int c])
  | .oc c os => ∃ l, H t = some (.tup [.str "octets", .int c, .ref l]) ∧ H l = some (.lst (os.map V.int))
  | .pm c n => H t = some (.tup [.str "permit", .int c, .int n])
  | .en c => H t = some (.tup [.str "end", .int c])
  | .rs c n => H t = some (.tup [.str "reset", .int c, .int n])
theorem FrO.same {H H' : Hp} {t : Addr} {f : Fr} (h : FrO H t f) (s : Same H H') : FrO H' t f := by
  cases f with
  | oc c os =>
    obtain ⟨l, h1, h2⟩ := h
    exact ⟨l, s _ _ h1, s _ _ h2⟩
  | _ => exact s _ _ h
def W16 (n : Int) : Prop := 0 ≤ n ∧ n < 65536
def FOk : Fr → Prop
  | .op c => W16 c
  | .oc c os => W16 c ∧ os.length ≤ 700
  | .pm c n => W16 c ∧ W16 n
  | .en c => W16 c
  | .rs c n => W16 c ∧ W16 n
def enc : Fr → List Int
  | .op c => [1, c / 256 % 256, c % 256]
  | .oc c os => [2, c / 256 % 256, c % 256, (os.length : Int) / 256 % 256, (os.length : Int) % 256] ++ os
  | .pm c n => [3, c / 256 % 256, c % 256, n / 256 % 256, n % 256]
  | .en c => [4, c / 256 % 256, c % 256]
  | .rs c n => [5, c / 256 % 256, c % 256, n / 256 % 256, n % 256]
theorem enc_len {f : Fr} (h : FOk f) : 3 ≤ (enc f).length ∧ (enc f).length ≤ 705 := by
  cases f with
  | oc c os =>
    show 3 ≤ os.length + 5 ∧ os.length + 5 ≤ 705
    have := h.2
    omega
  | _ => first | exact ⟨by show 3 ≤ 3; decide, by show 3 ≤ 705; decide⟩ | exact ⟨by show 3 ≤ 5; decide, by show 5 ≤ 705; decide⟩
def sp_write_frame (K : PySem.W.Frag) : Sp := fun vs H Q _ => ∃ (t : Addr) (f : Fr), vs = [.ref t] ∧ FrO H t f ∧ FOk f ∧ ∀ p H', H p = none → Same H H' → H' p = some (.lst ((enc f).map V.int)) → Q (.ref p) H'
theorem u_wf {t : Addr} {f : Fr} {H Q E} (h : FrO H t f) (ok : FOk f) (q : ∀ p H', H p = none → Same H H' → H' p = some (.lst ((enc f).map V.int)) → Q (.ref p) H') : sp_write_frame K ([.ref t] ++ []) H Q E := ⟨t, f, rfl, h, ok, q⟩
theorem ok_write_frame (T : Txt w K mg) : FnOk P w K mg base CX0 2 T.f_write_frame T.d_write_frame ["frame"] (sp_write_frame K) := by
  refine T.F_write_frame.ok sc_write_frame (fun vs H Q E h => ?_) (fun cdv A outer s H vs Q E hr h => ?_)
  · obtain ⟨t, f, rfl, hf, ok, q⟩ := h
    rfl
  · obtain ⟨t, f, rfl, hf, ok, q⟩ := h
    have hu := hu_of hr
    refine ⟨_, (pss_cons (ps_set (i := 1) sc_write_frame.nd rfl (Or.inl rfl) (pe_lst (pa_cons (pe_ix ix_kdict (pe_glob (v := .ref T.t_KINDS) (by rfl) T.v_KINDS rfl) (pe_ix ix_tup (pv 0) pe_int (fun _ _ => rfl)) (fun _ _ => rfl)) (StX.pa_star (pe_call (ok_write_number T) (hr.mono (by decide)) rfl T.m_write_number T.F_write_number.kp T.b_write_number .nil pass0 (pa_cons (pe_ix ix_tup (pv 0) pe_int (fun _ _ => rfl)) (pa_cons pe_int pa_nil))) pa_nil))))
        (pss_cons (ps_if (pt_cmpR op_eq (pe_ix ix_tup (pv 0) pe_int (fun _ _ => rfl)) pe_str (nomark _)) (pss_one (ps_ret (pe_lst (StX.pa_star (pv 1) (StX.pa_star (pe_call (ok_write_number T) (hr.mono (by decide)) rfl T.m_write_number T.F_write_number.kp T.b_write_number .nil pass0 (pa_cons (pe_callB call_len_seq (by rfl) T.n_len (by decide +kernel) (pa_cons (pe_ix ix_tup (pv 0) pe_int (fun _ _ => rfl)) pa_nil)) (pa_cons pe_int pa_nil))) (StX.pa_star (pe_ix ix_tup (pv 0) pe_int (fun _ _ => rfl)) pa_nil)))))) pss_nil)
        (pss_cons (ps_if (pt_cmpR op_in_seq (pe_ix ix_tup (pv 0) pe_int (fun _ _ => rfl)) (pe_tup (pa_cons pe_str (pa_cons pe_str pa_nil))) (by with_unfolding_all rfl)) (pss_one (ps_ret (pe_lst (StX.pa_star (pv 1) (StX.pa_star (pe_call (ok_write_number T) (hr.mono (by decide)) rfl T.m_write_number T.F_write_number.kp T.b_write_number .nil pass0 (pa_cons (pe_ix ix_tup (pv 0) pe_int (fun _ _ => rfl)) (pa_cons pe_int pa_nil))) pa_nil))))) pss_nil)
        (pss_one (ps_ret (pv 1)))))), ?_⟩
    dsimp only [cxOf, Cx.nox, Cx.wish, L2.start, List.map, List.cons_append, List.nil_append, List.length_cons, List.length_nil, Nat.reduceAdd, Nat.reduceSub, Nat.zero_add, List.replicate_succ, List.replicate_zero]
    cases f with
    | op c =>
      obtain ⟨u, hu1, ru⟩ := T.ik_KINDS_open
      have hf' : H t = some (.tup [.str "open", .int c]) := hf
      walk_at "go"
      refine g_ixT (st hf') (at_of (j := 0) rfl rfl) ?_
      walk_at "go"
      refine g_ixK T.kd_KINDS hu1 ru ?_
      walk_at "go"
      refine g_ixT (st hf') (at_of (j := 1) rfl rfl) ?_
      walk_at "go"
      intro p1 H1 hp1 s1 e1
      rw [show Int.toNat 2 = 2 from rfl, dg2] at e1
      refine ⟨p1, _, rfl, .inr (sl e1), ?_⟩
      walk_at "go"
      refine ⟨by show 3 ≤ sizeLine; decide, fun p2 hp2 => ?_⟩
      generalize z2 : upd H1 p2 _ = H2
      have s2 : Same H1 H2 := by rw [← z2]; exact same_upd hp2
      have k2 : H2 p2 = some (.lst ([1, c / 256 % 256, c % 256].map V.int)) := (congrFun z2 p2).symm.trans upd_same
      clear z2
      have n2 : H p2 = none := s1.free hp2
      have s12 := s1.trans s2
      have hf2 := s12 _ _ hf'
      walk_at "go"
      refine g_ixT (st hf2) (at_of (j := 0) rfl rfl) ?_
      walk_at "go"
      refine g_ixT (st hf2) (at_of (j := 0) rfl rfl) ?_
      walk_at "go"
      refine ⟨by show 2 ≤ sizeLine; decide, fun p3 hp3 => ?_⟩
      generalize z3 : upd H2 p3 _ = H3
      have s3 : Same H2 H3 := by rw [← z3]; exact same_upd hp3
      have k3 : H3 p3 = some (.tup ((["permit", "reset"] : List Str).map V.str)) := (congrFun z3 p3).symm.trans upd_same
      clear z3
      have s13 := s12.trans s3
      refine g_inS (ws := ["permit", "reset"]) (st k3) ?_
      walk_at "go"
      exact q p2 _ n2 s13 (s3 _ _ k2)
    | oc c os =>
      obtain ⟨u, hu1, ru⟩ := T.ik_KINDS_octets
      obtain ⟨l, hf', hl⟩ := hf
      obtain ⟨okc, ok1⟩ := ok
      walk_at "go"
      refine g_ixT (st hf') (at_of (j := 0) rfl rfl) ?_
      walk_at "go"
      refine g_ixK T.kd_KINDS hu1 ru ?_
      walk_at "go"
      refine g_ixT (st hf') (at_of (j := 1) rfl rfl) ?_
      walk_at "go"
      intro p1 H1 hp1 s1 e1
      rw [show Int.toNat 2 = 2 from rfl, dg2] at e1
      refine ⟨p1, _, rfl, .inr (sl e1), ?_⟩
      walk_at "go"
      refine ⟨by show 3 ≤ sizeLine; decide, fun p2 hp2 => ?_⟩
      generalize z2 : upd H1 p2 _ = H2
      have s2 : Same H1 H2 := by rw [← z2]; exact same_upd hp2
      have k2 : H2 p2 = some (.lst ([2, c / 256 % 256, c % 256].map V.int)) := (congrFun z2 p2).symm.trans upd_same
      clear z2
      have n2 : H p2 = none := s1.free hp2
      have s12 := s1.trans s2
      have hf2 := s12 _ _ hf'
      walk_at "go"
      refine g_ixT (st hf2) (at_of (j := 0) rfl rfl) ?_
      walk_at "go"
      refine ⟨p2, _, rfl, .inr (sl k2), ?_⟩
      walk_at "go"
      refine g_ixT (st hf2) (at_of (j := 2) rfl rfl) ?_
      walk_at "go"
      refine g_len (.inl (sl (s12 _ _ hl))) ?_
      walk_at "go"
      rw [List.length_map]
      intro p4 H4 hp4 s4 e4
      rw [show Int.toNat 2 = 2 from rfl, dg2] at e4
      have s14 := s12.trans s4
      refine ⟨p4, _, rfl, .inr (sl e4), ?_⟩
      walk_at "go"
      refine g_ixT (st (s4 _ _ hf2)) (at_of (j := 2) rfl rfl) ?_
      refine ⟨l, _, rfl, .inr (sl (s14 _ _ hl)), ?_⟩
      walk_at "go"
      refine ⟨?_, fun p5 hp5 => ?_⟩
      · simp only [List.length_append, List.length_map, List.length_cons, List.length_nil]
        exact sz (by omega)
      · refine q p5 _ (s14.free hp5) (s14.trans (same_upd hp5)) ?_
        rw [upd_same, List.append_nil]
        rfl
    | pm c n =>
      obtain ⟨u, hu1, ru⟩ := T.ik_KINDS_permit
      have hf' : H t = some (.tup [.str "permit", .int c, .int n]) := hf
      walk_at "go"
      refine g_ixT (st hf') (at_of (j := 0) rfl rfl) ?_
      walk_at "go"
      refine g_ixK T.kd_KINDS hu1 ru ?_
      walk_at "go"
      refine g_ixT (st hf') (at_of (j := 1) rfl rfl) ?_
      walk_at "go"
      intro p1 H1 hp1 s1 e1
      rw [show Int.toNat 2 = 2 from rfl, dg2] at e1
      refine ⟨p1, _, rfl, .inr (sl e1), ?_⟩
      walk_at "go"
      refine ⟨by show 3 ≤ sizeLine; decide, fun p2 hp2 => ?_⟩
      generalize z2 : upd H1 p2 _ = H2
      have s2 : Same H1 H2 := by rw [← z2]; exact same_upd hp2
      have k2 : H2 p2 = some (.lst ([3, c / 256 % 256, c % 256].map V.int)) := (congrFun z2 p2).symm.trans upd_same
      clear z2
      have n2 : H p2 = none := s1.free hp2
      have s12 := s1.trans s2
      have hf2 := s12 _ _ hf'
      walk_at "go"
      refine g_ixT (st hf2) (at_of (j := 0) rfl rfl) ?_
      walk_at "go"
      refine g_ixT (st hf2) (at_of (j := 0) rfl rfl) ?_
      walk_at "go"
      refine ⟨by show 2 ≤ sizeLine; decide, fun p3 hp3 => ?_⟩
      generalize z3 : upd H2 p3 _ = H3
      have s3 : Same H2 H3 := by rw [← z3]; exact same_upd hp3
      have k3 : H3 p3 = some (.tup ((["permit", "reset"] : List Str).map V.str)) := (congrFun z3 p3).symm.trans upd_same
      clear z3
      have s13 := s12.trans s3
      refine g_inS (ws := ["permit", "reset"]) (st k3) ?_
      walk_at "go"
      refine ⟨p2, _, rfl, .inr (sl (s3 _ _ k2)), ?_⟩
      walk_at "go"
      refine g_ixT (st (s3 _ _ hf2)) (at_of (j := 2) rfl rfl) ?_
      walk_at "go"
      intro p4 H4 hp4 s4 e4
      rw [show Int.toNat 2 = 2 from rfl, dg2] at e4
      refine ⟨p4, _, rfl, .inr (sl e4), ?_⟩
      walk_at "go"
      refine ⟨by show 5 ≤ sizeLine; decide, fun p5 hp5 => ?_⟩
      exact q p5 _ ((s13.trans s4).free hp5) ((s13.trans s4).trans (same_upd hp5)) upd_same
    | en c =>
      obtain ⟨u, hu1, ru⟩ := T.ik_KINDS_end
      have hf' : H t = some (.tup [.str "end", .int c]) := hf
      walk_at "go"
      refine g_ixT (st hf') (at_of (j := 0) rfl rfl) ?_
      walk_at "go"
      refine g_ixK T.kd_KINDS hu1 ru ?_
      walk_at "go"
      refine g_ixT (st hf') (at_of (j := 1) rfl rfl) ?_
      walk_at "go"
      intro p1 H1 hp1 s1 e1
      rw [show Int.toNat 2 = 2 from rfl, dg2] at e1
      refine ⟨p1, _, rfl, .inr (sl e1), ?_⟩
      walk_at "go"
      refine ⟨by show 3 ≤ sizeLine; decide, fun p2 hp2 => ?_⟩
      generalize z2 : upd H1 p2 _ = H2
      have s2 : Same H1 H2 := by rw [← z2]; exact same_upd hp2
      have k2 : H2 p2 = some (.lst ([4, c / 256 % 256, c % 256].map V.int)) := (congrFun z2 p2).symm.trans upd_same
      clear z2
      have n2 : H p2 = none := s1.free hp2
      have s12 := s1.trans s2
      have hf2 := s12 _ _ hf'
      walk_at "go"
      refine g_ixT (st hf2) (at_of (j := 0) rfl rfl) ?_
      walk_at "go"
      refine g_ixT (st hf2) (at_of (j := 0) rfl rfl) ?_
      walk_at "go"
      refine ⟨by show 2 ≤ sizeLine; decide, fun p3 hp3 => ?_⟩
      generalize z3 : upd H2 p3 _ = H3
      have s3 : Same H2 H3 := by rw [← z3]; exact same_upd hp3
      have k3 : H3 p3 = some (.tup ((["permit", "reset"] : List Str).map V.str)) := (congrFun z3 p3).symm.trans upd_same
      clear z3
      have s13 := s12.trans s3
      refine g_inS (ws := ["permit", "reset"]) (st k3) ?_
      walk_at "go"
      exact q p2 _ n2 s13 (s3 _ _ k2)
    | rs c n =>
      obtain ⟨u, hu1, ru⟩ := T.ik_KINDS_reset
      have hf' : H t = some (.tup [.str "reset", .int c, .int n]) := hf
      walk_at "go"
      refine g_ixT (st hf') (at_of (j := 0) rfl rfl) ?_
      walk_at "go"
      refine g_ixK T.kd_KINDS hu1 ru ?_
      walk_at "go"
      refine g_ixT (st hf') (at_of (j := 1) rfl rfl) ?_
      walk_at "go"
      intro p1 H1 hp1 s1 e1
      rw [show Int.toNat 2 = 2 from rfl, dg2] at e1
      refine ⟨p1, _, rfl, .inr (sl e1), ?_⟩
      walk_at "go"
      refine ⟨by show 3 ≤ sizeLine; decide, fun p2 hp2 => ?_⟩
      generalize z2 : upd H1 p2 _ = H2
      have s2 : Same H1 H2 := by rw [← z2]; exact same_upd hp2
      have k2 : H2 p2 = some (.lst ([5, c / 256 % 256, c % 256].map V.int)) := (congrFun z2 p2).symm.trans upd_same
      clear z2
      have n2 : H p2 = none := s1.free hp2
      have s12 := s1.trans s2
      have hf2 := s12 _ _ hf'
      walk_at "go"
      refine g_ixT (st hf2) (at_of (j := 0) rfl rfl) ?_
      walk_at "go"
      refine g_ixT (st hf2) (at_of (j := 0) rfl rfl) ?_
      walk_at "go"
      refine ⟨by show 2 ≤ sizeLine; decide, fun p3 hp3 => ?_⟩
      generalize z3 : upd H2 p3 _ = H3
      have s3 : Same H2 H3 := by rw [← z3]; exact same_upd hp3
      have k3 : H3 p3 = some (.tup ((["permit", "reset"] : List Str).map V.str)) := (congrFun z3 p3).symm.trans upd_same
      clear z3
      have s13 := s12.trans s3
      refine g_inS (ws := ["permit", "reset"]) (st k3) ?_
      walk_at "go"
      refine ⟨p2, _, rfl, .inr (sl (s3 _ _ k2)), ?_⟩
      walk_at "go"
      refine g_ixT (st (s3 _ _ hf2)) (at_of (j := 2) rfl rfl) ?_
      walk_at "go"
      intro p4 H4 hp4 s4 e4
      rw [show Int.toNat 2 = 2 from rfl, dg2] at e4
      refine ⟨p4, _, rfl, .inr (sl e4), ?_⟩
      walk_at "go"
      refine ⟨by show 5 ≤ sizeLine; decide, fun p5 hp5 => ?_⟩
      exact q p5 _ ((s13.trans s4).free hp5) ((s13.trans s4).trans (same_upd hp5)) upd_same
def tlF : Fr → List Int
  | .op _ => []
  | .oc _ os => [(os.length : Int) / 256 % 256, (os.length : Int) % 256] ++ os
  | .pm _ n => [n / 256 % 256, n % 256]
  | .en _ => []
  | .rs _ n => [n / 256 % 256, n % 256]
def kdF : Fr → Int
  | .op _ => 1
  | .oc _ _ => 2
  | .pm _ _ => 3
  | .en _ => 4
  | .rs _ _ => 5
def chF : Fr → Int
  | .op c => c
  | .oc c _ => c
  | .pm c _ => c
  | .en c => c
  | .rs c _ => c
theorem enc_eq : ∀ {f : Fr}, enc f = kdF f :: chF f / 256 % 256 :: chF f % 256 :: tlF f
  | .op _ => rfl
  | .oc _ _ => rfl
  | .pm _ _ => rfl
  | .en _ => rfl
  | .rs _ _ => rfl
theorem seg_os {kd c : Int} {os r : List Int} : seg (kd :: c / 256 % 256 :: c % 256 :: (tlF (.oc c os) ++ r)) 5 (5 + os.length) = os := by
  unfold seg
  rw [List.drop_take]
  show ((os ++ r).take (5 + os.length - 5)) = os
  rw [show 5 + os.length - 5 = os.length by omega, List.take_left]
def octs (ns : List Int) : Prop := ∀ x ∈ ns, 0 ≤ x ∧ x < 256
def sp_frame_at (K : PySem.W.Frag) (C : Addr) : Sp := fun vs H Q E => ∃ (a : Addr) (bs : List Int), vs = [.ref a, .int 0] ∧ SqL K H a (bs.map V.int) ∧
  ((bs.length < 3 ∧ Q .non H) ∨ (∃ b r, bs = b :: r ∧ 2 ≤ r.length ∧ 0 ≤ b ∧ b < 256 ∧ b ∉ ([1, 2, 3, 4, 5] : List Int) ∧ ∀ H', Same H H' → E (.ref C) none H') ∨
   ∃ f, FOk f ∧ ∃ rest, bs = kdF f :: chF f / 256 % 256 :: chF f % 256 :: rest ∧
    ((∃ j, j < (tlF f).length ∧ rest = (tlF f).take j ∧ ∀ H', Same H H' → Q .non H') ∨
     (∃ r, rest = tlF f ++ r ∧ ∀ (t u : Addr) H', H t = none → Same H H' → H' t = some (.tup [.ref u, .int ((enc f).length : Nat)]) → FrO H' u f → Q (.ref t) H')))
theorem ok_frame_at (T : Txt w K mg) : FnOk P w K mg base (L2.CX P w) 2 T.f_frame_at T.d_frame_at ["octets", "at"] (sp_frame_at K T.C_InvalidFrame) := by
  refine T.F_frame_at.okX sc_frame_at (fun vs H Q E h => ?_) (fun cdv A outer s H vs Q E hr h => ?_)
  · obtain ⟨a, bs, rfl, hS, q⟩ := h
    rfl
  · obtain ⟨a, bs, rfl, hS, q⟩ := h
    have hu := hu_of hr
    refine ⟨_, (pss_cons (ps_if (pt_cmpR op_lt (pe_callB call_len_seq (by rfl) T.n_len (by decide +kernel) (pa_cons (pv 0) pa_nil)) (pe_op op_add (pv 1) (pe_glob (v := .int 3) (by rfl) T.v_HEAD ⟨_, rfl⟩)) (nomark _)) (pss_one (ps_ret pe_non)) pss_nil)
        (pss_cons (ps_if (pt_cmpR (op_notInI T.kd_WORDS) (pe_ix ix_list (pv 0) (pv 1) (fun _ _ => rfl)) (pe_glob (v := .ref T.t_WORDS) (by rfl) T.v_WORDS rfl) (by with_unfolding_all rfl)) (pss_one (ps_rs rfl (takes_of rfl rfl rfl rfl) (pmk_1 PySem.F.excBase_ValueError T.xP_InvalidFrame T.c_InvalidFrame T.ke_InvalidFrame (raises_own T.be_InvalidFrame T.te_InvalidFrame) rfl (pe_joinedJ (.cons pe_str (.cons (pe_fmt (pe_ix ix_list (pv 0) (pv 1) (fun _ _ => rfl))) .nil)))))) pss_nil)
        (pss_cons (ps_set (i := 2) sc_frame_at.nd rfl (Or.inl rfl) (pe_ix (ix_dI T.kd_WORDS) (pe_glob (v := .ref T.t_WORDS) (by rfl) T.v_WORDS rfl) (pe_ix ix_list (pv 0) (pv 1) (fun _ _ => rfl)) (fun _ _ => rfl)))
        (pss_cons (ps_set (i := 3) sc_frame_at.nd rfl (Or.inl rfl) (pe_call (ok_read_number T) (hr.mono (by decide)) rfl T.m_read_number T.F_read_number.kp T.b_read_number .nil pass0 (pa_cons (pe_slice sl_list (pv 0) (po_some (pe_op op_add (pv 1) pe_int)) (po_some (pe_op op_add (pv 1) (pe_glob (v := .int 3) (by rfl) T.v_HEAD ⟨_, rfl⟩)))) pa_nil)))
        (pss_cons (ps_if (pt_cmpR op_in_seq (pv 2) (pe_tup (pa_cons pe_str (pa_cons pe_str pa_nil))) (by with_unfolding_all rfl)) (pss_one (ps_ret (pe_tup (pa_cons (pe_tup (pa_cons (pv 2) (pa_cons (pv 3) pa_nil))) (pa_cons (pe_glob (v := .int 3) (by rfl) T.v_HEAD ⟨_, rfl⟩) pa_nil))))) pss_nil)
        (pss_cons (ps_if (pt_cmpR op_lt (pe_callB call_len_seq (by rfl) T.n_len (by decide +kernel) (pa_cons (pv 0) pa_nil)) (pe_op op_add (pv 1) (pe_glob (v := .int 5) (by rfl) T.v_LONG_HEAD ⟨_, rfl⟩)) (nomark _)) (pss_one (ps_ret pe_non)) pss_nil)
        (pss_cons (ps_set (i := 4) sc_frame_at.nd rfl (Or.inl rfl) (pe_call (ok_read_number T) (hr.mono (by decide)) rfl T.m_read_number T.F_read_number.kp T.b_read_number .nil pass0 (pa_cons (pe_slice sl_list (pv 0) (po_some (pe_op op_add (pv 1) (pe_glob (v := .int 3) (by rfl) T.v_HEAD ⟨_, rfl⟩))) (po_some (pe_op op_add (pv 1) (pe_glob (v := .int 5) (by rfl) T.v_LONG_HEAD ⟨_, rfl⟩)))) pa_nil)))
        (pss_cons (ps_if (pt_cmpR op_ne (pv 2) pe_str (nomark _)) (pss_one (ps_ret (pe_tup (pa_cons (pe_tup (pa_cons (pv 2) (pa_cons (pv 3) (pa_cons (pv 4) pa_nil)))) (pa_cons (pe_glob (v := .int 5) (by rfl) T.v_LONG_HEAD ⟨_, rfl⟩) pa_nil))))) pss_nil)
        (pss_cons (ps_set (i := 5) sc_frame_at.nd rfl (Or.inl rfl) (pe_op op_add (pe_op op_add (pv 1) (pe_glob (v := .int 5) (by rfl) T.v_LONG_HEAD ⟨_, rfl⟩)) (pv 4)))
        (pss_cons (ps_if (pt_cmpR op_lt (pe_callB call_len_seq (by rfl) T.n_len (by decide +kernel) (pa_cons (pv 0) pa_nil)) (pv 5) (nomark _)) (pss_one (ps_ret pe_non)) pss_nil)
        (pss_one (ps_ret (pe_tup (pa_cons (pe_tup (pa_cons (pv 2) (pa_cons (pv 3) (pa_cons (pe_slice sl_list (pv 0) (po_some (pe_op op_add (pv 1) (pe_glob (v := .int 5) (by rfl) T.v_LONG_HEAD ⟨_, rfl⟩))) (po_some (pv 5))) pa_nil)))) (pa_cons (pe_op op_add (pe_glob (v := .int 5) (by rfl) T.v_LONG_HEAD ⟨_, rfl⟩) (pv 4)) pa_nil))))))))))))))), ?_⟩
    dsimp only [cxOf, Cx.nox, Cx.wish, L2.start, List.map, List.cons_append, List.nil_append, List.length_cons, List.length_nil, Nat.reduceAdd, Nat.reduceSub, Nat.zero_add, List.replicate_succ, List.replicate_zero]
    walk_at "go"
    refine g_len (.inl hS) ?_
    walk_at "go"
    rw [List.length_map]
    rcases q with ⟨h, q⟩ | ⟨b, r, rfl, hl, hb0, hb1, hb2, q⟩ | ⟨f, ok, hb⟩
    · refine g_dT (by omega) ?_
      walk_at "go"
      exact q
    · refine g_dF (by rw [List.length_cons]; omega) ?_
      walk_at "go"
      refine g_ixL hS (at_of (j := 0) rfl rfl) ?_
      walk_at "go"
      refine g_notInI ?_
      rw [T.nk_WORDS b hb2]
      walk_at "go"
      have e0 : Str.empty.length = 0 := by decide
      have e1 : (Str.ofString "no frame is of kind ").length = 20 := by decide +kernel
      have e3 := itext (i := b) (by omega)
      refine g_jsE (by walk_at "fit") ?_
      walk_at "go"
      refine g_ixL hS (at_of (j := 0) rfl rfl) ?_
      refine g_fmtI (log_lt (by omega)) ?_
      refine g_jsE (by walk_at "fit") ?_
      walk_at "go"
      exact q _ (fun _ _ z => z)
    refine g_dF (by
      obtain ⟨rest, rfl, _⟩ := hb
      simp only [List.length_cons]
      omega) ?_
    walk_at "go"
    cases f with
    | op c =>
      obtain ⟨rest, rfl, ho⟩ := hb
      dsimp only [kdF, chF] at hS
      have okc : W16 c := ok
      refine g_ixL hS (at_of (j := 0) rfl rfl) ?_
      walk_at "go"
      rcases ho with ⟨j, hj, _⟩ | ⟨r, rfl, q⟩
      · exact absurd hj (Nat.not_lt_zero _)
      obtain ⟨u, hu1, ru⟩ := T.ik_WORDS_1
      refine g_notInI ?_
      rw [hu1]
      walk_at "go"
      refine g_ixL hS (at_of (j := 0) rfl rfl) ?_
      refine g_ixI hu1 ru ?_
      walk_at "go"
      refine g_slL hS fun l1 hl1 => ?_
      rw [show ((0 : Int) + 1) = ((1 : Nat) : Int) from rfl, show ((0 : Int) + 3) = ((3 : Nat) : Int) from rfl, cutV_seg (by decide) (by simp only [List.length_cons]; omega)]
      rw [show seg (1 :: c / 256 % 256 :: c % 256 :: _) 1 3 = [c / 256 % 256, c % 256] from rfl]
      walk_at "go"
      refine u_read (sl upd_same) ?_
      rw [vl_dg okc]
      generalize zz1 : upd H l1 _ = H1
      have s1 : Same H H1 := by rw [← zz1]; exact same_upd hl1
      clear zz1
      have hS1 := s1.seq hS
      walk_at "go"
      refine ⟨by show 2 ≤ sizeLine; decide, fun p3 hp3 => ?_⟩
      generalize z3 : upd H1 p3 _ = H3
      have s3 : Same H1 H3 := by rw [← z3]; exact same_upd hp3
      have k3 : H3 p3 = some (.tup ((["open", "end"] : List Str).map V.str)) := (congrFun z3 p3).symm.trans upd_same
      clear z3
      have s13 := s1.trans s3
      have hS3 := s13.seq hS
      refine g_inS (ws := ["open", "end"]) (st k3) ?_
      walk_at "go"
      refine ⟨by show 2 ≤ sizeLine; decide, fun p4 hp4 => ?_⟩
      walk_at "go"
      refine ⟨by show 2 ≤ sizeLine; decide, fun p5 hp5 => ?_⟩
      exact q p5 p4 _ (s13.free ((same_upd hp4).free hp5)) ((s13.trans (same_upd hp4)).trans (same_upd hp5)) upd_same ((same_upd hp5) _ _ upd_same)
    | oc c os =>
      obtain ⟨rest, rfl, ho⟩ := hb
      dsimp only [kdF, chF] at hS
      obtain ⟨okc, ok1⟩ := ok
      refine g_ixL hS (at_of (j := 0) rfl rfl) ?_
      walk_at "go"
      obtain ⟨u, hu1, ru⟩ := T.ik_WORDS_2
      refine g_notInI ?_
      rw [hu1]
      walk_at "go"
      refine g_ixL hS (at_of (j := 0) rfl rfl) ?_
      refine g_ixI hu1 ru ?_
      walk_at "go"
      refine g_slL hS fun l1 hl1 => ?_
      rw [show ((0 : Int) + 1) = ((1 : Nat) : Int) from rfl, show ((0 : Int) + 3) = ((3 : Nat) : Int) from rfl, cutV_seg (by decide) (by simp only [List.length_cons]; omega)]
      rw [show seg (2 :: c / 256 % 256 :: c % 256 :: _) 1 3 = [c / 256 % 256, c % 256] from rfl]
      walk_at "go"
      refine u_read (sl upd_same) ?_
      rw [vl_dg okc]
      generalize zz1 : upd H l1 _ = H1
      have s1 : Same H H1 := by rw [← zz1]; exact same_upd hl1
      clear zz1
      have hS1 := s1.seq hS
      walk_at "go"
      refine ⟨by show 2 ≤ sizeLine; decide, fun p3 hp3 => ?_⟩
      generalize z3 : upd H1 p3 _ = H3
      have s3 : Same H1 H3 := by rw [← z3]; exact same_upd hp3
      have k3 : H3 p3 = some (.tup ((["open", "end"] : List Str).map V.str)) := (congrFun z3 p3).symm.trans upd_same
      clear z3
      have s13 := s1.trans s3
      have hS3 := s13.seq hS
      refine g_inS (ws := ["open", "end"]) (st k3) ?_
      walk_at "go"
      refine g_len (.inl hS3) ?_
      walk_at "go"
      rw [List.length_map]
      have okn : W16 (os.length : Int) := ⟨by omega, by omega⟩
      have tll : (tlF (.oc c os)).length = os.length + 2 := rfl
      by_cases h5 : rest.length < 2
      · refine g_dT (by simp only [List.length_cons]; omega) ?_
        rcases ho with ⟨j, hj, rfl, q⟩ | ⟨r, rfl, q⟩
        · walk_at "go"
          exact q _ s13
        · rw [List.length_append, tll] at h5
          omega
      refine g_dF (by simp only [List.length_cons]; omega) ?_
      obtain ⟨rest2, hr2⟩ : ∃ rest2, rest = (os.length : Int) / 256 % 256 :: (os.length : Int) % 256 :: rest2 := by
        rcases ho with ⟨j, hj, rfl, q⟩ | ⟨r, rfl, q⟩
        · rw [List.length_take] at h5
          obtain ⟨i, rfl⟩ : ∃ i, j = i + 2 := ⟨j - 2, by omega⟩
          exact ⟨os.take i, rfl⟩
        · exact ⟨os ++ r, rfl⟩
      have hl2 : rest.length = rest2.length + 2 := by rw [hr2]; rfl
      walk_at "go"
      refine g_slL hS3 fun l4 hl4 => ?_
      rw [show ((0 : Int) + 3) = ((3 : Nat) : Int) from rfl, show ((0 : Int) + 5) = ((5 : Nat) : Int) from rfl, cutV_seg (by decide) (by simp only [List.length_cons]; omega)]
      rw [show seg (2 :: c / 256 % 256 :: c % 256 :: rest) 3 5 = [(os.length : Int) / 256 % 256, (os.length : Int) % 256] by rw [hr2]; rfl]
      walk_at "go"
      refine u_read (sl upd_same) ?_
      rw [vl_dg okn]
      generalize zz4 : upd H3 l4 _ = H4
      have s4 : Same H3 H4 := by rw [← zz4]; exact same_upd hl4
      clear zz4
      have s14 := s13.trans s4
      have hS4 := s14.seq hS
      walk_at "go"
      refine g_len (.inl hS4) ?_
      walk_at "go"
      rw [List.length_map]
      rcases ho with ⟨j, hj, rfl, q⟩ | ⟨r, rfl, q⟩
      · refine g_dT (by simp only [List.length_cons, List.length_take] at hj ⊢; omega) ?_
        walk_at "go"
        exact q _ s14
      refine g_dF (by simp only [List.length_cons, List.length_append]; omega) ?_
      walk_at "go"
      refine g_slL hS4 fun l6 hl6 => ?_
      rw [show ((0 : Int) + 5) = ((5 : Nat) : Int) from rfl, show ((5 : Nat) : Int) + (os.length : Int) = ((5 + os.length : Nat) : Int) by omega, cutV_seg (by omega) (by simp only [List.length_cons, List.length_append]; omega)]
      rw [show seg (2 :: c / 256 % 256 :: c % 256 :: (tlF (.oc c os) ++ r)) 5 (5 + os.length) = os from seg_os]
      generalize zz6 : upd H4 l6 _ = H6
      have s6 : Same H4 H6 := by rw [← zz6]; exact same_upd hl6
      have k6 : H6 l6 = some (.lst (os.map V.int)) := (congrFun zz6 l6).symm.trans upd_same
      clear zz6
      have s16 := s14.trans s6
      walk_at "go"
      refine ⟨by show 3 ≤ sizeLine; decide, fun p4 hp4 => ?_⟩
      walk_at "go"
      refine ⟨by show 2 ≤ sizeLine; decide, fun p5 hp5 => ?_⟩
      have e5 : (5 : Int) + (os.length : Int) = ((enc (.oc c os)).length : Int) := by
        show _ = ((os.length + 5 : Nat) : Int)
        omega
      rw [e5]
      exact q p5 p4 _ (s16.free ((same_upd hp4).free hp5)) ((s16.trans (same_upd hp4)).trans (same_upd hp5)) upd_same ⟨l6, (same_upd hp5) _ _ upd_same, (same_upd hp5) _ _ ((same_upd hp4) _ _ k6)⟩
    | pm c n =>
      obtain ⟨rest, rfl, ho⟩ := hb
      dsimp only [kdF, chF] at hS
      obtain ⟨okc, okn⟩ := ok
      refine g_ixL hS (at_of (j := 0) rfl rfl) ?_
      walk_at "go"
      obtain ⟨u, hu1, ru⟩ := T.ik_WORDS_3
      refine g_notInI ?_
      rw [hu1]
      walk_at "go"
      refine g_ixL hS (at_of (j := 0) rfl rfl) ?_
      refine g_ixI hu1 ru ?_
      walk_at "go"
      refine g_slL hS fun l1 hl1 => ?_
      rw [show ((0 : Int) + 1) = ((1 : Nat) : Int) from rfl, show ((0 : Int) + 3) = ((3 : Nat) : Int) from rfl, cutV_seg (by decide) (by simp only [List.length_cons]; omega)]
      rw [show seg (3 :: c / 256 % 256 :: c % 256 :: _) 1 3 = [c / 256 % 256, c % 256] from rfl]
      walk_at "go"
      refine u_read (sl upd_same) ?_
      rw [vl_dg okc]
      generalize zz1 : upd H l1 _ = H1
      have s1 : Same H H1 := by rw [← zz1]; exact same_upd hl1
      clear zz1
      have hS1 := s1.seq hS
      walk_at "go"
      refine ⟨by show 2 ≤ sizeLine; decide, fun p3 hp3 => ?_⟩
      generalize z3 : upd H1 p3 _ = H3
      have s3 : Same H1 H3 := by rw [← z3]; exact same_upd hp3
      have k3 : H3 p3 = some (.tup ((["open", "end"] : List Str).map V.str)) := (congrFun z3 p3).symm.trans upd_same
      clear z3
      have s13 := s1.trans s3
      have hS3 := s13.seq hS
      refine g_inS (ws := ["open", "end"]) (st k3) ?_
      walk_at "go"
      refine g_len (.inl hS3) ?_
      walk_at "go"
      rw [List.length_map]
      rcases ho with ⟨j, hj, rfl, q⟩ | ⟨r, rfl, q⟩
      · refine g_dT (by simp only [List.length_cons, List.length_take, tlF, List.length_nil] at hj ⊢; omega) ?_
        walk_at "go"
        exact q _ s13
      refine g_dF (by simp only [List.length_cons, List.length_append, tlF]; omega) ?_
      walk_at "go"
      refine g_slL hS3 fun l4 hl4 => ?_
      rw [show ((0 : Int) + 3) = ((3 : Nat) : Int) from rfl, show ((0 : Int) + 5) = ((5 : Nat) : Int) from rfl, cutV_seg (by decide) (by simp only [List.length_cons, List.length_append, tlF]; omega)]
      rw [show seg (3 :: c / 256 % 256 :: c % 256 :: _) 3 5 = [n / 256 % 256, n % 256] from rfl]
      walk_at "go"
      refine u_read (sl upd_same) ?_
      rw [vl_dg okn]
      generalize zz4 : upd H3 l4 _ = H4
      have s4 : Same H3 H4 := by rw [← zz4]; exact same_upd hl4
      clear zz4
      walk_at "go"
      refine ⟨by show 3 ≤ sizeLine; decide, fun p4 hp4 => ?_⟩
      walk_at "go"
      refine ⟨by show 2 ≤ sizeLine; decide, fun p5 hp5 => ?_⟩
      have s14 := s13.trans s4
      exact q p5 p4 _ (s14.free ((same_upd hp4).free hp5)) ((s14.trans (same_upd hp4)).trans (same_upd hp5)) upd_same ((same_upd hp5) _ _ upd_same)
    | en c =>
      obtain ⟨rest, rfl, ho⟩ := hb
      dsimp only [kdF, chF] at hS
      have okc : W16 c := ok
      refine g_ixL hS (at_of (j := 0) rfl rfl) ?_
      walk_at "go"
      rcases ho with ⟨j, hj, _⟩ | ⟨r, rfl, q⟩
      · exact absurd hj (Nat.not_lt_zero _)
      obtain ⟨u, hu1, ru⟩ := T.ik_WORDS_4
      refine g_notInI ?_
      rw [hu1]
      walk_at "go"
      refine g_ixL hS (at_of (j := 0) rfl rfl) ?_
      refine g_ixI hu1 ru ?_
      walk_at "go"
      refine g_slL hS fun l1 hl1 => ?_
      rw [show ((0 : Int) + 1) = ((1 : Nat) : Int) from rfl, show ((0 : Int) + 3) = ((3 : Nat) : Int) from rfl, cutV_seg (by decide) (by simp only [List.length_cons]; omega)]
      rw [show seg (4 :: c / 256 % 256 :: c % 256 :: _) 1 3 = [c / 256 % 256, c % 256] from rfl]
      walk_at "go"
      refine u_read (sl upd_same) ?_
      rw [vl_dg okc]
      generalize zz1 : upd H l1 _ = H1
      have s1 : Same H H1 := by rw [← zz1]; exact same_upd hl1
      clear zz1
      have hS1 := s1.seq hS
      walk_at "go"
      refine ⟨by show 2 ≤ sizeLine; decide, fun p3 hp3 => ?_⟩
      generalize z3 : upd H1 p3 _ = H3
      have s3 : Same H1 H3 := by rw [← z3]; exact same_upd hp3
      have k3 : H3 p3 = some (.tup ((["open", "end"] : List Str).map V.str)) := (congrFun z3 p3).symm.trans upd_same
      clear z3
      have s13 := s1.trans s3
      have hS3 := s13.seq hS
      refine g_inS (ws := ["open", "end"]) (st k3) ?_
      walk_at "go"
      refine ⟨by show 2 ≤ sizeLine; decide, fun p4 hp4 => ?_⟩
      walk_at "go"
      refine ⟨by show 2 ≤ sizeLine; decide, fun p5 hp5 => ?_⟩
      exact q p5 p4 _ (s13.free ((same_upd hp4).free hp5)) ((s13.trans (same_upd hp4)).trans (same_upd hp5)) upd_same ((same_upd hp5) _ _ upd_same)
    | rs c n =>
      obtain ⟨rest, rfl, ho⟩ := hb
      dsimp only [kdF, chF] at hS
      obtain ⟨okc, okn⟩ := ok
      refine g_ixL hS (at_of (j := 0) rfl rfl) ?_
      walk_at "go"
      obtain ⟨u, hu1, ru⟩ := T.ik_WORDS_5
      refine g_notInI ?_
      rw [hu1]
      walk_at "go"
      refine g_ixL hS (at_of (j := 0) rfl rfl) ?_
      refine g_ixI hu1 ru ?_
      walk_at "go"
      refine g_slL hS fun l1 hl1 => ?_
      rw [show ((0 : Int) + 1) = ((1 : Nat) : Int) from rfl, show ((0 : Int) + 3) = ((3 : Nat) : Int) from rfl, cutV_seg (by decide) (by simp only [List.length_cons]; omega)]
      rw [show seg (5 :: c / 256 % 256 :: c % 256 :: _) 1 3 = [c / 256 % 256, c % 256] from rfl]
      walk_at "go"
      refine u_read (sl upd_same) ?_
      rw [vl_dg okc]
      generalize zz1 : upd H l1 _ = H1
      have s1 : Same H H1 := by rw [← zz1]; exact same_upd hl1
      clear zz1
      have hS1 := s1.seq hS
      walk_at "go"
      refine ⟨by show 2 ≤ sizeLine; decide, fun p3 hp3 => ?_⟩
      generalize z3 : upd H1 p3 _ = H3
      have s3 : Same H1 H3 := by rw [← z3]; exact same_upd hp3
      have k3 : H3 p3 = some (.tup ((["open", "end"] : List Str).map V.str)) := (congrFun z3 p3).symm.trans upd_same
      clear z3
      have s13 := s1.trans s3
      have hS3 := s13.seq hS
      refine g_inS (ws := ["open", "end"]) (st k3) ?_
      walk_at "go"
      refine g_len (.inl hS3) ?_
      walk_at "go"
      rw [List.length_map]
      rcases ho with ⟨j, hj, rfl, q⟩ | ⟨r, rfl, q⟩
      · refine g_dT (by simp only [List.length_cons, List.length_take, tlF, List.length_nil] at hj ⊢; omega) ?_
        walk_at "go"
        exact q _ s13
      refine g_dF (by simp only [List.length_cons, List.length_append, tlF]; omega) ?_
      walk_at "go"
      refine g_slL hS3 fun l4 hl4 => ?_
      rw [show ((0 : Int) + 3) = ((3 : Nat) : Int) from rfl, show ((0 : Int) + 5) = ((5 : Nat) : Int) from rfl, cutV_seg (by decide) (by simp only [List.length_cons, List.length_append, tlF]; omega)]
      rw [show seg (5 :: c / 256 % 256 :: c % 256 :: _) 3 5 = [n / 256 % 256, n % 256] from rfl]
      walk_at "go"
      refine u_read (sl upd_same) ?_
      rw [vl_dg okn]
      generalize zz4 : upd H3 l4 _ = H4
      have s4 : Same H3 H4 := by rw [← zz4]; exact same_upd hl4
      clear zz4
      walk_at "go"
      refine ⟨by show 3 ≤ sizeLine; decide, fun p4 hp4 => ?_⟩
      walk_at "go"
      refine ⟨by show 2 ≤ sizeLine; decide, fun p5 hp5 => ?_⟩
      have s14 := s13.trans s4
      exact q p5 p4 _ (s14.free ((same_upd hp4).free hp5)) ((s14.trans (same_upd hp4)).trans (same_upd hp5)) upd_same ((same_upd hp5) _ _ upd_same)
def sp_first_frame (K : PySem.W.Frag) (C : Addr) : Sp := fun vs H Q E => ∃ a, vs = [.ref a] ∧ sp_frame_at K C [.ref a, .int 0] H Q E
theorem ok_first_frame (T : Txt w K mg) : FnOk P w K mg base (L2.CX P w) 3 T.f_first_frame T.d_first_frame ["octets"] (sp_first_frame K T.C_InvalidFrame) := by
  refine T.F_first_frame.okX sc_first_frame (fun vs H Q E h => ?_) (fun cdv A outer s H vs Q E hr h => ?_)
  · obtain ⟨a, rfl, q⟩ := h
    rfl
  · obtain ⟨a, rfl, q⟩ := h
    have hu := hu_of hr
    refine ⟨_, (pss_one (ps_ret (pe_call (ok_frame_at T) (hr.mono (by decide)) rfl T.m_frame_at T.F_frame_at.kp T.b_frame_at .nil (passes_call (takes_of rfl rfl rfl rfl) (fun _ _ _ _ h => h)) (pa_cons (pv 0) (pa_cons pe_int pa_nil))))), ?_⟩
    dsimp only [cxOf, Cx.nox, Cx.wish, L2.start, List.map, List.cons_append, List.nil_append, List.length_cons, List.length_nil, Nat.reduceAdd, Nat.reduceSub, Nat.zero_add, List.replicate_succ, List.replicate_zero]
    walk_at "go"
    exact q
end
end My
namespace My
open PySem PySem.Spec L2
local macro_rules | `(tactic| walk_at "side") => `(tactic| first | assumption | decide | omega | exact ⟨by decide, by decide⟩ | exact ⟨by decide, by decide, by decide⟩ | decide +kernel | exact cdivW (by decide +kernel) (by decide +kernel) | exact Or.inl ⟨by omega, by omega⟩ | exact Or.inr ⟨by omega, by omega⟩ | (simp only [List.length_map, List.length_cons, List.length_nil, List.length_append]; omega))
local macro_rules | `(tactic| walk_at "fact") => `(tactic| first | assumption | omega | with_reducible rfl)
local macro_rules | `(tactic| walk_at "use") => `(tactic| fail "use")
local macro_rules | `(tactic| walk_at "go1") => `(tactic| with_reducible first | refine g_seq ?_ | refine g_asg ?_ | refine g_ret ?_ | refine g_ifS ?_ | refine g_drop ?_ | refine g_star ?_ | refine g_nx ?_ | refine g_rt ?_ | refine g_bkE ?_ | refine g_ctE ?_ | refine g_next ?_ | refine g_retN ?_ | refine g_brk ?_ | refine g_ct ?_ | refine g_c ?_ | refine g_op ?_ | refine g_un ?_ | refine g_rI0 ?_ | refine g_rU ?_ | refine g_rEqI ?_ | refine g_rNeI ?_ | refine g_isN ?_ | refine g_rIsB ?_ | refine g_rNotB ?_ | refine g_test ?_ | refine g_B ?_ | refine g_bl ?_ | refine g_and ?_ | refine g_or ?_ | refine g_not ?_ | refine g_andV ?_ | refine g_orV ?_ | refine g_notV ?_ | refine g_if ?_ | refine g_chain ?_ | refine g_yes ?_ | refine g_lc ?_ | refine g_revR ?_ | refine g_rng1 ?_ | refine g_iList ?_ | refine g_nil ?_ | refine g_cons ?_ | refine g_tup ?_ | refine g_lst ?_ | refine g_call ?_ | refine g_CB ?_ | refine g_sl ?_ | refine g_noPart ?_ | refine g_part ?_ | refine g_intE ?_ | refine g_ref ?_ | refine g_fld ?_ | refine g_sfld ?_ | refine g_meth ?_ | refine g_make ?_ | refine g_prop ?_  | refine g_ipI ?_ | refine g_int1 ?_ | refine g_int1B ?_ | refine g_one ?_ | refine g_two ?_ | refine g_isiI ?_ | refine g_isiIB ?_ | refine g_isiB ?_ | refine g_BM ?_ | refine g_BM0 ?_ | refine g_sub ?_)
local macro_rules | `(tactic| walk_at "go") => `(tactic| repeat (first | walk_at "go1" | ((with_reducible refine' g_nameE ?sd_ ?_); case sd_ => dsimp only [List.set_cons_succ, List.set_cons_zero]) | ((with_reducible refine' g_var ?sd_ ?_); case sd_ => exact rfl) | ((with_reducible refine' g_aug ?sd_ ?_); case sd_ => exact rfl) | ((with_reducible refine' g_rI ?sd_ ?_); case sd_ => walk_at "side") | ((with_reducible refine' g_dT ?sd_ ?_); case sd_ => walk_at "fact") | ((with_reducible refine' g_dF ?sd_ ?_); case sd_ => walk_at "fact") | ((with_reducible refine' g_nT ?sd_ ?_); case sd_ => walk_at "fact") | ((with_reducible refine' g_nF ?sd_ ?_); case sd_ => walk_at "fact") | (with_reducible refine g_iT rfl ?_) | (with_reducible refine g_iF rfl ?_) | walk_at "use"))
section
variable {P : Program} {w : World} {K : PySem.W.Frag} {mg : Str → Option Value} {base : Heap}
local macro_rules | `(tactic| walk_at "use") => `(tactic| with_reducible first | refine g_rs0 ?_ | refine g_rs1 ?_ | refine g_tryA ?_ | refine g_tryO ?_ | refine g_callS ?_ | refine g_joined ?_ | refine g_jsnil ?_ | refine g_jscons ?_ | refine g_fmt ?_)
local macro_rules | `(tactic| walk_at "fit") => `(tactic| (refine fit2 ?_; (try simp only [PySem.Str.length_append]); omega))
local macro_rules | `(tactic| walk_at "use") => `(tactic| first | ((with_reducible refine' g_addS ?sd_ ?_); case sd_ => (first | omega | (simp only [PySem.Str.length_append]; omega))) | ((with_reducible refine' g_slS ?sd_ ?_); case sd_ => omega) | (with_reducible refine g_m0 ?_))

local macro_rules | `(tactic| walk_at "use") => `(tactic| with_reducible first | refine u_isint ?_ | refine g_rEqS ?_ | refine g_rNeS ?_)
theorem fr_but {p r : Addr} {H H' : Hp} {o : HO} (b : But p H H') (hp : H' p = some o) (h : H' r = none) : H r = none := by
  have n : r ≠ p := fun z => by rw [z, hp] at h; cases h
  cases e : H r with
  | none => rfl
  | some o =>
    have z := b r o n e
    rw [h] at z
    cases z
theorem u_dig {p : Addr} {n m : Int} {H Q E} (h : H p = some (.lst [.int n])) (h0 : 0 < m) (h1 : m < 18446744073709551616) (q : ∀ H', But p H H' → H' p = some (.lst [.int (n / m)]) → Q (.int (n % m)) H') : sp_l_digit K ([.ref p, .int m] ++ []) H Q E := u_digit h h0 h1 (q _ But.refl.upd upd_same)
/-- a frame that changes at p leave alone -/
def FrK (p : Addr) (H : Hp) (t : Addr) (f : Fr) : Prop := ∀ H', But p H H' → FrO H' t f
theorem FrK.o {p : Addr} {H : Hp} {t : Addr} {f : Fr} (h : FrK p H t f) : FrO H t f := h _ But.refl
theorem FrK.but {p : Addr} {H H' : Hp} {t : Addr} {f : Fr} (h : FrK p H t f) (b : But p H H') : FrK p H' t f := fun H2 b2 => h H2 (b.trans b2)
theorem w16 {n : Int} : W16 (n % 65536) := ⟨by omega, by omega⟩
def osl (base : Int) (c : Nat) : List Int := (List.range c).map fun i : Nat => (base + 7 * (0 + (i : Int)) + (0 + (i : Int)) / 5) % 256
theorem osl_len {b : Int} {c : Nat} : (osl b c).length = c := by unfold osl; rw [List.length_map, List.length_range]
def sp_l_frame (K : PySem.W.Frag) : Sp := fun vs H Q _ => ∃ (p : Addr) (n m : Int), vs = [.ref p, .int m] ∧ H p = some (.lst [.int n]) ∧ 0 < m ∧ m ≤ 701 ∧ ∀ (t : Addr) (f : Fr) (n' : Int) (H' : Hp), But p H H' → FrK p H' t f → FOk f → H' p = some (.lst [.int n']) → Q (.ref t) H'
theorem u_frame {p : Addr} {n m : Int} {H Q E} (h : H p = some (.lst [.int n])) (h0 : 0 < m) (h1 : m ≤ 701) (q : ∀ (t : Addr) (f : Fr) (n' : Int) (H' : Hp), But p H H' → FrK p H' t f → FOk f → H' p = some (.lst [.int n']) → Q (.ref t) H') : sp_l_frame K ([.ref p, .int m] ++ []) H Q E := ⟨p, n, m, rfl, h, h0, h1, q⟩
theorem ok_l_frame (T : Txt w K mg) : FnOk P w K mg base CX0 2 T.f_l_frame T.d_l_frame ["state", "many"] (sp_l_frame K) := by
  refine T.F_l_frame.ok sc_l_frame (fun vs H Q E h => ?_) (fun cdv A outer s H vs Q E hr h => ?_)
  · obtain ⟨p, n, m, rfl, hp, m0, m1, q⟩ := h
    rfl
  · obtain ⟨p, n, m, rfl, hp, m0, m1, q⟩ := h
    have hu := hu_of hr
    refine ⟨_, (pss_cons (ps_set (i := 2) sc_l_frame.nd rfl (Or.inl rfl) (pe_ix ix_tup (pe_tup (pa_cons pe_str (pa_cons pe_str (pa_cons pe_str (pa_cons pe_str (pa_cons pe_str pa_nil)))))) (pe_call (ok_l_digit T) (hr.mono (by decide)) rfl T.m_l_digit T.F_l_digit.kp T.b_l_digit .nil pass0 (pa_cons (pv 0) (pa_cons pe_int pa_nil))) (fun _ _ => rfl)))
        (pss_cons (ps_set (i := 3) sc_l_frame.nd rfl (Or.inl rfl) (pe_call (ok_l_digit T) (hr.mono (by decide)) rfl T.m_l_digit T.F_l_digit.kp T.b_l_digit .nil pass0 (pa_cons (pv 0) (pa_cons pe_int pa_nil))))
        (pss_cons (ps_if (pt_cmpR op_eq (pv 2) pe_str (nomark _)) (pss_cons (ps_set (i := 4) sc_l_frame.nd rfl (Or.inl rfl) (pe_call (ok_l_digit T) (hr.mono (by decide)) rfl T.m_l_digit T.F_l_digit.kp T.b_l_digit .nil pass0 (pa_cons (pv 0) (pa_cons (pv 1) pa_nil))))
        (pss_cons (ps_set (i := 5) sc_l_frame.nd rfl (Or.inr rfl) (pe_call (ok_l_digit T) (hr.mono (by decide)) rfl T.m_l_digit T.F_l_digit.kp T.b_l_digit .nil pass0 (pa_cons (pv 0) (pa_cons pe_int pa_nil))))
        (pss_one (ps_ret (pe_tup (pa_cons (pv 2) (pa_cons (pv 3) (pa_cons (pe_lc (own := [("k", 6)]) (g := gName 6) (tt := tYes) rfl sc_l_frame.nd (pi_range1 (by rfl) T.n_range (pa_cons (pv 4) pa_nil)) (blkOk_by (N := ["state", "many", "word", "channel", "size", "base", "k"]) (sc := defScope s_l_frame) (by decide +kernel)) (fun _ _ _ _ _ => (pg_name (i := 6) sc_l_frame.nd rfl (Or.inl rfl))) (fun _ _ _ _ _ => pts_nil) (fun _ _ _ _ _ => (pe_op op_mod (pe_callTy call_int1 (by rfl) T.n_int (by decide +kernel) (pa_cons (pe_op op_add (pe_op op_add (pv 5) (pe_op op_mul pe_int (pv 6))) (pe_op op_fdiv (pv 6) pe_int)) pa_nil)) pe_int))) pa_nil)))))))) pss_nil)
        (pss_cons (ps_if (pt_cmpR op_in_seq (pv 2) (pe_tup (pa_cons pe_str (pa_cons pe_str pa_nil))) (by with_unfolding_all rfl)) (pss_one (ps_ret (pe_tup (pa_cons (pv 2) (pa_cons (pv 3) (pa_cons (pe_call (ok_l_digit T) (hr.mono (by decide)) rfl T.m_l_digit T.F_l_digit.kp T.b_l_digit .nil pass0 (pa_cons (pv 0) (pa_cons pe_int pa_nil))) pa_nil)))))) pss_nil)
        (pss_one (ps_ret (pe_tup (pa_cons (pv 2) (pa_cons (pv 3) pa_nil))))))))), ?_⟩
    dsimp only [cxOf, Cx.nox, Cx.wish, L2.start, List.map, List.cons_append, List.nil_append, List.length_cons, List.length_nil, Nat.reduceAdd, Nat.reduceSub, Nat.zero_add, List.replicate_succ, List.replicate_zero]
    walk_at "go"
    refine ⟨by show 5 ≤ sizeLine; decide, fun p1 hp1 => ?_⟩
    generalize z1 : upd H p1 _ = H1
    have s1 : Same H H1 := by rw [← z1]; exact same_upd hp1
    have k1 : H1 p1 = some (.tup ((["open", "octets", "permit", "end", "reset"] : List Str).map V.str)) := (congrFun z1 p1).symm.trans upd_same
    clear z1
    have n1 : p1 ≠ p := fun z => by rw [z, hp] at hp1; cases hp1
    walk_at "go"
    refine u_dig (s1 _ _ hp) (by decide) (by decide) fun H2 b2 k2 => ?_
    have k12 := b2 _ _ n1 k1
    have b02 : But p H H2 := (But.of s1).trans b2
    walk_at "go"
    have d0 : 0 ≤ n % 5 := Int.emod_nonneg _ (by decide)
    have d1 : n % 5 < 5 := Int.emod_lt_of_pos _ (by decide)
    generalize n % 5 = d at d0 d1
    generalize n / 5 = n2 at k2
    obtain rfl | rfl | rfl | rfl | rfl : d = 0 ∨ d = 1 ∨ d = 2 ∨ d = 3 ∨ d = 4 := by omega
    · refine g_ixT (st k12) (at_of (j := 0) rfl rfl) ?_
      walk_at "go"
      refine u_dig k2 (by decide) (by decide) fun H3 b3 k3 => ?_
      have b03 := b02.trans b3
      walk_at "go"
      refine ⟨by show 2 ≤ sizeLine; decide, fun p4 hp4 => ?_⟩
      generalize z4 : upd H3 p4 _ = H4
      have s4 : Same H3 H4 := by rw [← z4]; exact same_upd hp4
      have k4 : H4 p4 = some (.tup ((["permit", "reset"] : List Str).map V.str)) := (congrFun z4 p4).symm.trans upd_same
      clear z4
      refine g_inS (ws := ["permit", "reset"]) (st k4) ?_
      walk_at "go"
      have b04 := b03.trans (But.of s4)
      have k34 := s4 _ _ k3
      refine ⟨by show 2 ≤ sizeLine; decide, fun t ht => ?_⟩
      have ntp : t ≠ p := fun z => by rw [z, k34] at ht; cases ht
      exact q t (.op (n2 % 65536)) _ _ (b04.trans (But.of (same_upd ht))) (fun H' b' => b' _ _ ntp upd_same) w16 ((same_upd ht) _ _ k34)
    · refine g_ixT (st k12) (at_of (j := 1) rfl rfl) ?_
      walk_at "go"
      refine u_dig k2 (by decide) (by decide) fun H3 b3 k3 => ?_
      have b03 := b02.trans b3
      walk_at "go"
      refine u_dig k3 m0 (by omega) fun H4 b4 k4 => ?_
      walk_at "go"
      refine u_dig k4 (by decide) (by decide) fun H5 b5 k5 => ?_
      have b05 := (b03.trans b4).trans b5
      have e0 : 0 ≤ n2 / 65536 % m := Int.emod_nonneg _ (by omega)
      have e1 : n2 / 65536 % m < m := Int.emod_lt_of_pos _ m0
      generalize n2 / 65536 % m = z at e0 e1
      generalize n2 / 65536 / m % 256 = bb
      generalize n2 / 65536 / m / 256 = n5 at k5
      walk_at "go"
      refine ⟨by omega, by omega, fun D hD => ?_⟩
      have nDp : D ≠ p := fun e => by rw [e, k5] at hD; cases hD
      refine lc_vals walk_range ((osl bb z.toNat).map V.int) hD (by rw [List.length_map, osl_len]) (fun _ _ => trivial) ?turn0 ?done0
      case turn0 =>
        rintro i x H6 H7 hi6 p6 ⟨rfl, rfl⟩
        refine ⟨rfl, ?_⟩
        walk_at "go"
        refine lc_next hD p6 (by rw [List.length_map, osl_len]; omega) ?_
        unfold osl
        rw [List.getElem?_map, List.getElem?_map, List.getElem?_range (show i < z.toNat from hi6)]
        rfl
      case done0 =>
      intro H6 s6 e6
      have k6 := s6 _ _ k5
      walk_at "go"
      refine ⟨by show 3 ≤ sizeLine; decide, fun t ht => ?_⟩
      have ntp : t ≠ p := fun z => by rw [z, k6] at ht; cases ht
      exact q t (.oc (n2 % 65536) (osl bb z.toNat)) _ _ ((b05.trans (But.of s6)).trans (But.of (same_upd ht))) (fun H' b' => ⟨D, b' _ _ ntp upd_same, b' _ _ nDp ((same_upd ht) _ _ e6)⟩) ⟨w16, by rw [osl_len]; omega⟩ ((same_upd ht) _ _ k6)
    · refine g_ixT (st k12) (at_of (j := 2) rfl rfl) ?_
      walk_at "go"
      refine u_dig k2 (by decide) (by decide) fun H3 b3 k3 => ?_
      have b03 := b02.trans b3
      walk_at "go"
      refine ⟨by show 2 ≤ sizeLine; decide, fun p4 hp4 => ?_⟩
      generalize z4 : upd H3 p4 _ = H4
      have s4 : Same H3 H4 := by rw [← z4]; exact same_upd hp4
      have k4 : H4 p4 = some (.tup ((["permit", "reset"] : List Str).map V.str)) := (congrFun z4 p4).symm.trans upd_same
      clear z4
      refine g_inS (ws := ["permit", "reset"]) (st k4) ?_
      walk_at "go"
      have b04 := b03.trans (But.of s4)
      have k34 := s4 _ _ k3
      refine u_dig k34 (by decide) (by decide) fun H5 b5 k5 => ?_
      walk_at "go"
      refine ⟨by show 3 ≤ sizeLine; decide, fun t ht => ?_⟩
      have ntp : t ≠ p := fun z => by rw [z, k5] at ht; cases ht
      exact q t (.pm (n2 % 65536) (n2 / 65536 % 65536)) _ _ ((b04.trans b5).trans (But.of (same_upd ht))) (fun H' b' => b' _ _ ntp upd_same) ⟨w16, w16⟩ ((same_upd ht) _ _ k5)
    · refine g_ixT (st k12) (at_of (j := 3) rfl rfl) ?_
      walk_at "go"
      refine u_dig k2 (by decide) (by decide) fun H3 b3 k3 => ?_
      have b03 := b02.trans b3
      walk_at "go"
      refine ⟨by show 2 ≤ sizeLine; decide, fun p4 hp4 => ?_⟩
      generalize z4 : upd H3 p4 _ = H4
      have s4 : Same H3 H4 := by rw [← z4]; exact same_upd hp4
      have k4 : H4 p4 = some (.tup ((["permit", "reset"] : List Str).map V.str)) := (congrFun z4 p4).symm.trans upd_same
      clear z4
      refine g_inS (ws := ["permit", "reset"]) (st k4) ?_
      walk_at "go"
      have b04 := b03.trans (But.of s4)
      have k34 := s4 _ _ k3
      refine ⟨by show 2 ≤ sizeLine; decide, fun t ht => ?_⟩
      have ntp : t ≠ p := fun z => by rw [z, k34] at ht; cases ht
      exact q t (.en (n2 % 65536)) _ _ (b04.trans (But.of (same_upd ht))) (fun H' b' => b' _ _ ntp upd_same) w16 ((same_upd ht) _ _ k34)
    · refine g_ixT (st k12) (at_of (j := 4) rfl rfl) ?_
      walk_at "go"
      refine u_dig k2 (by decide) (by decide) fun H3 b3 k3 => ?_
      have b03 := b02.trans b3
      walk_at "go"
      refine ⟨by show 2 ≤ sizeLine; decide, fun p4 hp4 => ?_⟩
      generalize z4 : upd H3 p4 _ = H4
      have s4 : Same H3 H4 := by rw [← z4]; exact same_upd hp4
      have k4 : H4 p4 = some (.tup ((["permit", "reset"] : List Str).map V.str)) := (congrFun z4 p4).symm.trans upd_same
      clear z4
      refine g_inS (ws := ["permit", "reset"]) (st k4) ?_
      walk_at "go"
      have b04 := b03.trans (But.of s4)
      have k34 := s4 _ _ k3
      refine u_dig k34 (by decide) (by decide) fun H5 b5 k5 => ?_
      walk_at "go"
      refine ⟨by show 3 ≤ sizeLine; decide, fun t ht => ?_⟩
      have ntp : t ≠ p := fun z => by rw [z, k5] at ht; cases ht
      exact q t (.rs (n2 % 65536) (n2 / 65536 % 65536)) _ _ ((b04.trans b5).trans (But.of (same_upd ht))) (fun H' b' => b' _ _ ntp upd_same) ⟨w16, w16⟩ ((same_upd ht) _ _ k5)
end
end My
namespace My
open PySem PySem.Spec L2
local macro_rules | `(tactic| walk_at "side") => `(tactic| first | assumption | decide | omega | exact ⟨by decide, by decide⟩ | exact ⟨by decide, by decide, by decide⟩ | decide +kernel | exact cdivW (by decide +kernel) (by decide +kernel) | exact Or.inl ⟨by omega, by omega⟩ | exact Or.inr ⟨by omega, by omega⟩ | (simp only [List.length_map, List.length_cons, List.length_nil, List.length_append]; omega))
local macro_rules | `(tactic| walk_at "fact") => `(tactic| first | assumption | omega | with_reducible rfl)
local macro_rules | `(tactic| walk_at "use") => `(tactic| fail "use")
local macro_rules | `(tactic| walk_at "go1") => `(tactic| with_reducible first | refine g_seq ?_ | refine g_asg ?_ | refine g_ret ?_ | refine g_ifS ?_ | refine g_drop ?_ | refine g_star ?_ | refine g_nx ?_ | refine g_rt ?_ | refine g_bkE ?_ | refine g_ctE ?_ | refine g_next ?_ | refine g_retN ?_ | refine g_brk ?_ | refine g_ct ?_ | refine g_c ?_ | refine g_op ?_ | refine g_un ?_ | refine g_rI0 ?_ | refine g_rU ?_ | refine g_rEqI ?_ | refine g_rNeI ?_ | refine g_isN ?_ | refine g_rIsB ?_ | refine g_rNotB ?_ | refine g_test ?_ | refine g_B ?_ | refine g_bl ?_ | refine g_and ?_ | refine g_or ?_ | refine g_not ?_ | refine g_andV ?_ | refine g_orV ?_ | refine g_notV ?_ | refine g_if ?_ | refine g_chain ?_ | refine g_yes ?_ | refine g_lc ?_ | refine g_revR ?_ | refine g_rng1 ?_ | refine g_iList ?_ | refine g_nil ?_ | refine g_cons ?_ | refine g_tup ?_ | refine g_lst ?_ | refine g_call ?_ | refine g_CB ?_ | refine g_sl ?_ | refine g_noPart ?_ | refine g_part ?_ | refine g_intE ?_ | refine g_ref ?_ | refine g_fld ?_ | refine g_sfld ?_ | refine g_meth ?_ | refine g_make ?_ | refine g_prop ?_  | refine g_ipI ?_ | refine g_int1 ?_ | refine g_int1B ?_ | refine g_one ?_ | refine g_two ?_ | refine g_isiI ?_ | refine g_isiIB ?_ | refine g_isiB ?_ | refine g_BM ?_ | refine g_BM0 ?_ | refine g_sub ?_)
local macro_rules | `(tactic| walk_at "go") => `(tactic| repeat (first | walk_at "go1" | ((with_reducible refine' g_nameE ?sd_ ?_); case sd_ => dsimp only [List.set_cons_succ, List.set_cons_zero]) | ((with_reducible refine' g_var ?sd_ ?_); case sd_ => exact rfl) | ((with_reducible refine' g_aug ?sd_ ?_); case sd_ => exact rfl) | ((with_reducible refine' g_rI ?sd_ ?_); case sd_ => walk_at "side") | ((with_reducible refine' g_dT ?sd_ ?_); case sd_ => walk_at "fact") | ((with_reducible refine' g_dF ?sd_ ?_); case sd_ => walk_at "fact") | ((with_reducible refine' g_nT ?sd_ ?_); case sd_ => walk_at "fact") | ((with_reducible refine' g_nF ?sd_ ?_); case sd_ => walk_at "fact") | (with_reducible refine g_iT rfl ?_) | (with_reducible refine g_iF rfl ?_) | walk_at "use"))

section
variable {P : Program} {w : World} {K : PySem.W.Frag} {mg : Str → Option Value} {base : Heap}
local macro_rules | `(tactic| walk_at "use") => `(tactic| with_reducible first | refine g_rs0 ?_ | refine g_rs1 ?_ | refine g_tryA ?_ | refine g_tryO ?_ | refine g_callS ?_ | refine g_joined ?_ | refine g_jsnil ?_ | refine g_jscons ?_ | refine g_fmt ?_)
local macro_rules | `(tactic| walk_at "fit") => `(tactic| (refine fit2 ?_; (try simp only [PySem.Str.length_append]); omega))
local macro_rules | `(tactic| walk_at "use") => `(tactic| first | ((with_reducible refine' g_addS ?sd_ ?_); case sd_ => (first | omega | (simp only [PySem.Str.length_append]; omega))) | ((with_reducible refine' g_slS ?sd_ ?_); case sd_ => omega) | (with_reducible refine g_m0 ?_))

theorem g_disp {trs : List (TE × TE)} {σ : St} {H : Hp} {Q : VK} (h : ∀ p, H p = none → tPairs trs σ (upd H p (.dK [])) fun ps H2 => H2 p = some (.dK []) ∧ ∃ kvs : List (Key × V), ps = kvs.map (fun kv => (kV kv.1, kv.2)) ∧ kvs.length ≤ 15 ∧ Q (.ref p) (upd H2 p (.dK (mergeK [] kvs)))) : tDisp trs σ H Q := h
theorem g_pcons {tk tv : TE} {r : List (TE × TE)} {σ : St} {H : Hp} {Q : List (V × V) → Hp → Prop} (h : tk σ H fun x H1 => tv σ H1 fun y H2 => tPairs r σ H2 fun ps H3 => Q ((x, y) :: ps) H3) : tPairs ((tk, tv) :: r) σ H Q := h
theorem g_pnil {σ : St} {H : Hp} {Q : List (V × V) → Hp → Prop} (q : Q [] H) : tPairs [] σ H Q := q
local macro_rules | `(tactic| walk_at "use") => `(tactic| with_reducible first | refine g_disp ?_ | refine g_pcons ?_ | refine g_pnil ?_)
local macro_rules | `(tactic| walk_at "use") => `(tactic| with_reducible refine u_cell (by assumption) (by omega) ?_)

local macro_rules | `(tactic| walk_at "use") => `(tactic| with_reducible first | refine u_isint ?_ | refine g_rEqS ?_ | refine g_rNeS ?_)
theorem g_dgetT {td ty : TE} {σ : St} {H : Hp} {Q : VK} (h : td σ H fun x H1 => ty σ H1 fun y H2 => ∃ a v, x = .ref a ∧ DGet H2 a y (some v) ∧ Q v H2) : tDGet td ty σ H Q := h
theorem g_dgetV {H : Hp} {a : Addr} {kvs : List (Key × V)} {k : Str} {v : V} {A : V → Prop} (ho : H a = some (.dK kvs)) (hv : valV kvs (.inr k) = some v) (q : A v) : ∃ a' v', V.ref a = .ref a' ∧ DGet H a' (.str k) (some v') ∧ A v' := by
  have z := DGet.k (k := .inr k) ho
  rw [hv] at z
  exact ⟨a, v, rfl, z, q⟩
local macro_rules | `(tactic| walk_at "use") => `(tactic| with_reducible first | refine g_dgetT ?_)
def kindsD : List (Key × V) := [(.inr "open", .int 1), (.inr "octets", .int 2), (.inr "permit", .int 3), (.inr "end", .int 4), (.inr "reset", .int 5)]
theorem mk_kinds : mergeK [] kindsD = kindsD := by decide +kernel
theorem hi16 {c : Int} (h : W16 c) : c / 256 % 256 = c / 256 := by
  unfold W16 at h
  omega
def sp_l_octets (K : PySem.W.Frag) : Sp := fun vs H Q _ => ∃ (t : Addr) (f : Fr), vs = [.ref t] ∧ FrO H t f ∧ FOk f ∧ ∀ p H', H p = none → Same H H' → H' p = some (.lst ((enc f).map V.int)) → Q (.ref p) H'
theorem u_loct {t : Addr} {f : Fr} {H Q E} (h : FrO H t f) (ok : FOk f) (q : ∀ p H', H p = none → Same H H' → H' p = some (.lst ((enc f).map V.int)) → Q (.ref p) H') : sp_l_octets K ([.ref t] ++ []) H Q E := ⟨t, f, rfl, h, ok, q⟩
theorem ok_l_octets (T : Txt w K mg) : FnOk P w K mg base CX0 1 T.f_l_octets T.d_l_octets ["frame"] (sp_l_octets K) := by
  refine T.F_l_octets.ok sc_l_octets (fun vs H Q E h => ?_) (fun cdv A outer s H vs Q E hr h => ?_)
  · obtain ⟨t, f, rfl, hf, ok, q⟩ := h
    rfl
  · obtain ⟨t, f, rfl, hf, ok, q⟩ := h
    have hu := hu_of hr
    refine ⟨_, (pss_cons (ps_set (i := 1) sc_l_octets.nd rfl (Or.inl rfl) (pe_dget hu (pe_disp (pps_cons pe_str pe_int (pps_cons pe_str pe_int (pps_cons pe_str pe_int (pps_cons pe_str pe_int (pps_cons pe_str pe_int pps_nil))))) (by rfl) (by rfl) (fun z => by cases z) (by decide)) (pe_ix ix_tup (pv 0) pe_int (fun _ _ => rfl)) (fun _ _ => rfl)))
        (pss_cons (ps_set (i := 2) sc_l_octets.nd rfl (Or.inl rfl) (pe_lst (pa_cons (pv 1) (pa_cons (pe_op op_fdiv (pe_ix ix_tup (pv 0) pe_int (fun _ _ => rfl)) pe_int) (pa_cons (pe_op op_mod (pe_callTy call_int1 (by rfl) T.n_int (by decide +kernel) (pa_cons (pe_ix ix_tup (pv 0) pe_int (fun _ _ => rfl)) pa_nil)) pe_int) pa_nil)))))
        (pss_cons (ps_if (pt_cmpR op_eq (pe_ix ix_tup (pv 0) pe_int (fun _ _ => rfl)) pe_str (nomark _)) (pss_one (ps_ret (pe_op op_cat (pe_op op_cat (pv 2) (pe_lst (pa_cons (pe_op op_fdiv (pe_callB call_len_seq (by rfl) T.n_len (by decide +kernel) (pa_cons (pe_ix ix_tup (pv 0) pe_int (fun _ _ => rfl)) pa_nil)) pe_int) (pa_cons (pe_op op_mod (pe_callTy call_int1 (by rfl) T.n_int (by decide +kernel) (pa_cons (pe_callB call_len_seq (by rfl) T.n_len (by decide +kernel) (pa_cons (pe_ix ix_tup (pv 0) pe_int (fun _ _ => rfl)) pa_nil)) pa_nil)) pe_int) pa_nil)))) (pe_ix ix_tup (pv 0) pe_int (fun _ _ => rfl))))) pss_nil)
        (pss_cons (ps_if (pt_cmpR op_gt (pe_callB call_len_seq (by rfl) T.n_len (by decide +kernel) (pa_cons (pv 0) pa_nil)) pe_int (nomark _)) (pss_one (ps_ret (pe_op op_cat (pv 2) (pe_lst (pa_cons (pe_op op_fdiv (pe_ix ix_tup (pv 0) pe_int (fun _ _ => rfl)) pe_int) (pa_cons (pe_op op_mod (pe_callTy call_int1 (by rfl) T.n_int (by decide +kernel) (pa_cons (pe_ix ix_tup (pv 0) pe_int (fun _ _ => rfl)) pa_nil)) pe_int) pa_nil)))))) pss_nil)
        (pss_one (ps_ret (pv 2))))))), ?_⟩
    dsimp only [cxOf, Cx.nox, Cx.wish, L2.start, List.map, List.cons_append, List.nil_append, List.length_cons, List.length_nil, Nat.reduceAdd, Nat.reduceSub, Nat.zero_add, List.replicate_succ, List.replicate_zero]
    walk_at "go"
    intro p1 hp1
    walk_at "go"
    refine ⟨upd_same, kindsD, rfl, by decide, ?_⟩
    rw [mk_kinds, upd_upd]
    generalize z1 : upd H p1 _ = H1
    have s1 : Same H H1 := by rw [← z1]; exact same_upd hp1
    have k1 : H1 p1 = some (.dK kindsD) := (congrFun z1 p1).symm.trans upd_same
    clear z1
    have hf1 := hf.same s1
    walk_at "go"
    cases f with
    | op c =>
      have ht : H1 t = some (.tup [.str "open", .int c]) := hf1
      refine g_ixT (st ht) (at_of (j := 0) rfl rfl) ?_
      refine g_dgetV (v := .int 1) k1 (by decide +kernel) ?_
      walk_at "go"
      refine g_ixT (st ht) (at_of (j := 1) rfl rfl) ?_
      walk_at "go"
      refine g_ixT (st ht) (at_of (j := 1) rfl rfl) ?_
      walk_at "go"
      refine ⟨by show 3 ≤ sizeLine; decide, fun p2 hp2 => ?_⟩
      generalize z2 : upd H1 p2 _ = H2
      have s2 : Same H1 H2 := by rw [← z2]; exact same_upd hp2
      have k2 : H2 p2 = some (.lst ([1, c / 256, c % 256].map V.int)) := (congrFun z2 p2).symm.trans upd_same
      clear z2
      have s12 := s1.trans s2
      have ht2 := s2 _ _ ht
      walk_at "go"
      refine g_ixT (st ht2) (at_of (j := 0) rfl rfl) ?_
      walk_at "go"
      refine g_len (.inr (st ht2)) ?_
      walk_at "go"
      refine q p2 _ (s1.free hp2) s12 ?_
      have okc : W16 c := ok
      show _ = some (HO.lst ([1, c / 256 % 256, c % 256].map V.int))
      rw [hi16 okc]
      exact k2
    | oc c os =>
      obtain ⟨l, ht, hl⟩ := hf1
      refine g_ixT (st ht) (at_of (j := 0) rfl rfl) ?_
      refine g_dgetV (v := .int 2) k1 (by decide +kernel) ?_
      walk_at "go"
      refine g_ixT (st ht) (at_of (j := 1) rfl rfl) ?_
      walk_at "go"
      refine g_ixT (st ht) (at_of (j := 1) rfl rfl) ?_
      walk_at "go"
      refine ⟨by show 3 ≤ sizeLine; decide, fun p2 hp2 => ?_⟩
      generalize z2 : upd H1 p2 _ = H2
      have s2 : Same H1 H2 := by rw [← z2]; exact same_upd hp2
      have k2 : H2 p2 = some (.lst ([2, c / 256, c % 256].map V.int)) := (congrFun z2 p2).symm.trans upd_same
      clear z2
      have s12 := s1.trans s2
      have ht2 := s2 _ _ ht
      walk_at "go"
      refine g_ixT (st ht2) (at_of (j := 0) rfl rfl) ?_
      walk_at "go"
      have hl2 := s2 _ _ hl
      refine g_ixT (st ht2) (at_of (j := 2) rfl rfl) ?_
      refine g_len (.inl (sl hl2)) ?_
      walk_at "go"
      refine g_ixT (st ht2) (at_of (j := 2) rfl rfl) ?_
      refine g_len (.inl (sl hl2)) ?_
      walk_at "go"
      rw [List.length_map]
      refine ⟨by show 2 ≤ sizeLine; decide, fun p3 hp3 => ?_⟩
      have s3 : Same H2 (upd H2 p3 (.lst [.int ((os.length : Int) / 256), .int ((os.length : Int) % 256)])) := same_upd hp3
      refine g_cat (s3 _ _ k2) upd_same (by show 5 ≤ sizeLine; decide) fun p4 hp4 => ?_
      have s4 := same_upd (o := .lst ([2, c / 256, c % 256].map V.int ++ [.int ((os.length : Int) / 256), .int ((os.length : Int) % 256)])) hp4
      walk_at "go"
      refine g_ixT (st (s4 _ _ (s3 _ _ ht2))) (at_of (j := 2) rfl rfl) ?_
      have okl := ok.2
      refine g_cat upd_same (s4 _ _ (s3 _ _ hl2)) (by simp only [List.length_append, List.length_map, List.length_cons, List.length_nil]; exact sz (by omega)) fun p5 hp5 => ?_
      refine q p5 _ ((s12.trans s3).free (s4.free hp5)) (((s12.trans s3).trans s4).trans (same_upd hp5)) ?_
      show _ = some (HO.lst (([2, c / 256 % 256, c % 256, (os.length : Int) / 256 % 256, (os.length : Int) % 256] ++ os).map V.int))
      rw [hi16 ok.1, hi16 (c := (os.length : Int)) ⟨by omega, by omega⟩, List.map_append]
      exact upd_same
    | pm c n =>
      have ht : H1 t = some (.tup [.str "permit", .int c, .int n]) := hf1
      refine g_ixT (st ht) (at_of (j := 0) rfl rfl) ?_
      refine g_dgetV (v := .int 3) k1 (by decide +kernel) ?_
      walk_at "go"
      refine g_ixT (st ht) (at_of (j := 1) rfl rfl) ?_
      walk_at "go"
      refine g_ixT (st ht) (at_of (j := 1) rfl rfl) ?_
      walk_at "go"
      refine ⟨by show 3 ≤ sizeLine; decide, fun p2 hp2 => ?_⟩
      generalize z2 : upd H1 p2 _ = H2
      have s2 : Same H1 H2 := by rw [← z2]; exact same_upd hp2
      have k2 : H2 p2 = some (.lst ([3, c / 256, c % 256].map V.int)) := (congrFun z2 p2).symm.trans upd_same
      clear z2
      have s12 := s1.trans s2
      have ht2 := s2 _ _ ht
      walk_at "go"
      refine g_ixT (st ht2) (at_of (j := 0) rfl rfl) ?_
      walk_at "go"
      refine g_len (.inr (st ht2)) ?_
      walk_at "go"
      refine g_ixT (st ht2) (at_of (j := 2) rfl rfl) ?_
      walk_at "go"
      refine g_ixT (st ht2) (at_of (j := 2) rfl rfl) ?_
      walk_at "go"
      refine ⟨by show 2 ≤ sizeLine; decide, fun p3 hp3 => ?_⟩
      have s3 : Same H2 (upd H2 p3 (.lst [.int (n / 256), .int (n % 256)])) := same_upd hp3
      refine g_cat (s3 _ _ k2) upd_same (by show 5 ≤ sizeLine; decide) fun p4 hp4 => ?_
      refine q p4 _ ((s12.trans s3).free hp4) ((s12.trans s3).trans (same_upd hp4)) ?_
      show _ = some (HO.lst ([3, c / 256 % 256, c % 256, n / 256 % 256, n % 256].map V.int))
      rw [hi16 ok.1, hi16 ok.2]
      exact upd_same
    | en c =>
      have ht : H1 t = some (.tup [.str "end", .int c]) := hf1
      refine g_ixT (st ht) (at_of (j := 0) rfl rfl) ?_
      refine g_dgetV (v := .int 4) k1 (by decide +kernel) ?_
      walk_at "go"
      refine g_ixT (st ht) (at_of (j := 1) rfl rfl) ?_
      walk_at "go"
      refine g_ixT (st ht) (at_of (j := 1) rfl rfl) ?_
      walk_at "go"
      refine ⟨by show 3 ≤ sizeLine; decide, fun p2 hp2 => ?_⟩
      generalize z2 : upd H1 p2 _ = H2
      have s2 : Same H1 H2 := by rw [← z2]; exact same_upd hp2
      have k2 : H2 p2 = some (.lst ([4, c / 256, c % 256].map V.int)) := (congrFun z2 p2).symm.trans upd_same
      clear z2
      have s12 := s1.trans s2
      have ht2 := s2 _ _ ht
      walk_at "go"
      refine g_ixT (st ht2) (at_of (j := 0) rfl rfl) ?_
      walk_at "go"
      refine g_len (.inr (st ht2)) ?_
      walk_at "go"
      refine q p2 _ (s1.free hp2) s12 ?_
      have okc : W16 c := ok
      show _ = some (HO.lst ([4, c / 256 % 256, c % 256].map V.int))
      rw [hi16 okc]
      exact k2
    | rs c n =>
      have ht : H1 t = some (.tup [.str "reset", .int c, .int n]) := hf1
      refine g_ixT (st ht) (at_of (j := 0) rfl rfl) ?_
      refine g_dgetV (v := .int 5) k1 (by decide +kernel) ?_
      walk_at "go"
      refine g_ixT (st ht) (at_of (j := 1) rfl rfl) ?_
      walk_at "go"
      refine g_ixT (st ht) (at_of (j := 1) rfl rfl) ?_
      walk_at "go"
      refine ⟨by show 3 ≤ sizeLine; decide, fun p2 hp2 => ?_⟩
      generalize z2 : upd H1 p2 _ = H2
      have s2 : Same H1 H2 := by rw [← z2]; exact same_upd hp2
      have k2 : H2 p2 = some (.lst ([5, c / 256, c % 256].map V.int)) := (congrFun z2 p2).symm.trans upd_same
      clear z2
      have s12 := s1.trans s2
      have ht2 := s2 _ _ ht
      walk_at "go"
      refine g_ixT (st ht2) (at_of (j := 0) rfl rfl) ?_
      walk_at "go"
      refine g_len (.inr (st ht2)) ?_
      walk_at "go"
      refine g_ixT (st ht2) (at_of (j := 2) rfl rfl) ?_
      walk_at "go"
      refine g_ixT (st ht2) (at_of (j := 2) rfl rfl) ?_
      walk_at "go"
      refine ⟨by show 2 ≤ sizeLine; decide, fun p3 hp3 => ?_⟩
      have s3 : Same H2 (upd H2 p3 (.lst [.int (n / 256), .int (n % 256)])) := same_upd hp3
      refine g_cat (s3 _ _ k2) upd_same (by show 5 ≤ sizeLine; decide) fun p4 hp4 => ?_
      refine q p4 _ ((s12.trans s3).free hp4) ((s12.trans s3).trans (same_upd hp4)) ?_
      show _ = some (HO.lst ([5, c / 256 % 256, c % 256, n / 256 % 256, n % 256].map V.int))
      rw [hi16 ok.1, hi16 ok.2]
      exact upd_same
/-! a copy -/
def CpV (D : Addr) (H : Hp) (x y : V) : Prop := (((∃ s, x = .str s) ∨ ∃ i, x = .int i) ∧ y = x) ∨ ∃ (l l' : Addr) (xs : List V), x = .ref l ∧ y = .ref l' ∧ l' ≠ D ∧ H l' = some (.lst xs)
theorem CpV.but {D : Addr} {H H' : Hp} {x y : V} (h : CpV D H x y) (b : But D H H') : CpV D H' x y := by
  rcases h with h | ⟨l, l', xs, h1, h2, h3, h4⟩
  · exact .inl h
  · exact .inr ⟨l, l', xs, h1, h2, h3, b _ _ h3 h4⟩
def sp_l_copy (K : PySem.W.Frag) : Sp := fun vs H Q _ => ∃ (t : Addr) (f : Fr), vs = [.ref t] ∧ FrO H t f ∧ ∀ t' H', Same H H' → FrO H' t' f → Q (.ref t') H'
theorem u_copy {t : Addr} {f : Fr} {H Q E} (h : FrO H t f) (q : ∀ t' H', Same H H' → FrO H' t' f → Q (.ref t') H') : sp_l_copy K ([.ref t] ++ []) H Q E := ⟨t, f, rfl, h, q⟩
theorem g_isiLi {i : Int} {H : Hp} {Q : VK} (q : Q (.bl false) H) : rIsi K [.int i, .ty "list"] H Q := g_isi (.ty _) (.base (.int _)) (kit_ty (by decide +kernel)) q
theorem g_isiLs {s : Str} {H : Hp} {Q : VK} (q : Q (.bl false) H) : rIsi K [.str s, .ty "list"] H Q := g_isi (.ty _) (.base (.str _)) (kit_ty (by decide +kernel)) q
local macro_rules | `(tactic| walk_at "use") => `(tactic| with_reducible first | refine g_isiLi ?_ | refine g_isiLs ?_)
theorem ok_l_copy (T : Txt w K mg) : FnOk P w K mg base CX0 1 T.f_l_copy T.d_l_copy ["frame"] (sp_l_copy K) := by
  refine T.F_l_copy.ok sc_l_copy (fun vs H Q E h => ?_) (fun cdv A outer s H vs Q E hr h => ?_)
  · obtain ⟨t, f, rfl, hf, q⟩ := h
    rfl
  · obtain ⟨t, f, rfl, hf, q⟩ := h
    have hu := hu_of hr
    refine ⟨_, (pss_one (ps_ret (pe_callTy call_tuple_of (by rfl) T.n_tuple (by decide +kernel) (pa_cons (pe_lc (own := [("item", 1)]) (g := gName 1) (tt := tYes) rfl sc_l_copy.nd (pi_tup (pv 0)) (blkOk_by (N := ["frame", "item"]) (sc := defScope s_l_copy) (by decide +kernel)) (fun _ _ _ _ _ => (pg_name (i := 1) sc_l_copy.nd rfl (Or.inl rfl))) (fun _ _ _ _ _ => pts_nil) (fun _ _ _ _ _ => (pe_ifExp (pt_val (pe_callB (r := rIsi K) call_isi (by rfl) T.n_isinstance (by decide +kernel) (pa_cons (pv 1) (pa_cons (pe_bltn (v := .ty "list") (by rfl) T.n_list (by decide +kernel) rfl) pa_nil)))) (pe_callTy (r := fun xs H Q => ∃ p ys, xs = [V.ref p] ∧ (SqL K H p ys ∨ SqT K H p ys) ∧ ∀ l, H l = none → Q (.ref l) (upd H l (.lst ys))) call_list_of (by rfl) T.n_list (by decide +kernel) (pa_cons (pv 1) pa_nil)) (pv 1)))) pa_nil)))), ?_⟩
    dsimp only [cxOf, Cx.nox, Cx.wish, L2.start, List.map, List.cons_append, List.nil_append, List.length_cons, List.length_nil, Nat.reduceAdd, Nat.reduceSub, Nat.zero_add, List.replicate_succ, List.replicate_zero]
    walk_at "go"
    cases f with
    | op c =>
      have ht : H t = some (.tup [.str "open", .int c]) := hf
      refine ⟨_, rfl, _, rfl, ⟨_, st ht⟩, fun D hD => ?_⟩
      refine lc_vals walk_tup [.str "open", .int c] hD rfl (fun H s => st (s _ _ ht)) ?turn0 ?done0
      case turn0 =>
        rintro i x H2 H3 hi2 p2 ⟨rfl, hx⟩
        have hi3 : i < 2 := hi2
        obtain rfl | rfl : i = 0 ∨ i = 1 := by omega
        all_goals
          injection hx with hx
          subst hx
          refine ⟨rfl, ?_⟩
          walk_at "go"
          exact lc_next hD p2 (by show 2 ≤ 100000; decide) rfl
      case done0 =>
      intro H2 s2 e2
      refine ⟨D, _, rfl, .inl ⟨sl e2, fun t' ht' => ?_⟩⟩
      exact q t' _ (s2.trans (same_upd ht')) upd_same
    | oc c os =>
      obtain ⟨l, ht, hl⟩ := hf
      refine ⟨_, rfl, _, rfl, ⟨_, st ht⟩, fun D hD => ?_⟩
      have nlD : l ≠ D := ne_of_none hl hD
      have ntD : t ≠ D := ne_of_none ht hD
      refine lc_it walk_tup (fun i H' => But D H H' ∧ ∃ l', l' ≠ D ∧ (i = 3 → H' l' = some (.lst (os.map V.int))) ∧ H' D = some (.lst (([.str "octets", .int c, .ref l'] : List V).take i))) ?_ (fun i H' _ h => st (h.1 _ _ ntD ht)) ?_ ?_
      · exact ⟨But.of (same_upd hD), l, nlD, (fun z => absurd z (by decide)), upd_same⟩
      · rintro i x H2 H3 hi2 ⟨bt, l', nl', h3, hd⟩ ⟨rfl, hx⟩
        have hi3 : i < 3 := hi2
        refine ⟨rfl, ?_⟩
        obtain rfl | rfl | rfl : i = 0 ∨ i = 1 ∨ i = 2 := by omega
        · injection hx with hx
          subst hx
          walk_at "go"
          refine ⟨_, hd, by show 0 < sizeLine; decide, bt.upd, l', nl', (fun z => absurd z (by decide)), upd_same⟩
        · injection hx with hx
          subst hx
          walk_at "go"
          refine ⟨_, hd, by show 1 < sizeLine; decide, bt.upd, l', nl', (fun z => absurd z (by decide)), upd_same⟩
        · injection hx with hx
          subst hx
          walk_at "go"
          refine g_isiL (bt _ _ nlD hl) ?_
          walk_at "go"
          refine ⟨l, _, rfl, .inl (sl (bt _ _ nlD hl)), fun l2 hl2 => ?_⟩
          have n2 : l2 ≠ D := fun z => by rw [z, hd] at hl2; cases hl2
          refine ⟨_, (same_upd hl2) _ _ hd, by show 2 < sizeLine; decide, (bt.trans (But.of (same_upd hl2))).upd, l2, n2, fun _ => ?_, upd_same⟩
          rw [upd_ne n2]
          exact upd_same
      · rintro H2 ⟨bt, l', nl', h3, hd⟩
        refine ⟨D, _, rfl, .inl ⟨sl hd, fun t' ht' => ?_⟩⟩
        exact q t' _ ((bt.same hD).trans (same_upd ht')) ⟨l', upd_same, (same_upd ht') _ _ (h3 rfl)⟩
    | pm c n =>
      have ht : H t = some (.tup [.str "permit", .int c, .int n]) := hf
      refine ⟨_, rfl, _, rfl, ⟨_, st ht⟩, fun D hD => ?_⟩
      refine lc_vals walk_tup [.str "permit", .int c, .int n] hD rfl (fun H s => st (s _ _ ht)) ?turn0 ?done0
      case turn0 =>
        rintro i x H2 H3 hi2 p2 ⟨rfl, hx⟩
        have hi3 : i < 3 := hi2
        obtain rfl | rfl | rfl : i = 0 ∨ i = 1 ∨ i = 2 := by omega
        all_goals
          injection hx with hx
          subst hx
          refine ⟨rfl, ?_⟩
          walk_at "go"
          exact lc_next hD p2 (by show 3 ≤ 100000; decide) rfl
      case done0 =>
      intro H2 s2 e2
      refine ⟨D, _, rfl, .inl ⟨sl e2, fun t' ht' => ?_⟩⟩
      exact q t' _ (s2.trans (same_upd ht')) upd_same
    | en c =>
      have ht : H t = some (.tup [.str "end", .int c]) := hf
      refine ⟨_, rfl, _, rfl, ⟨_, st ht⟩, fun D hD => ?_⟩
      refine lc_vals walk_tup [.str "end", .int c] hD rfl (fun H s => st (s _ _ ht)) ?turn0 ?done0
      case turn0 =>
        rintro i x H2 H3 hi2 p2 ⟨rfl, hx⟩
        have hi3 : i < 2 := hi2
        obtain rfl | rfl : i = 0 ∨ i = 1 := by omega
        all_goals
          injection hx with hx
          subst hx
          refine ⟨rfl, ?_⟩
          walk_at "go"
          exact lc_next hD p2 (by show 2 ≤ 100000; decide) rfl
      case done0 =>
      intro H2 s2 e2
      refine ⟨D, _, rfl, .inl ⟨sl e2, fun t' ht' => ?_⟩⟩
      exact q t' _ (s2.trans (same_upd ht')) upd_same
    | rs c n =>
      have ht : H t = some (.tup [.str "reset", .int c, .int n]) := hf
      refine ⟨_, rfl, _, rfl, ⟨_, st ht⟩, fun D hD => ?_⟩
      refine lc_vals walk_tup [.str "reset", .int c, .int n] hD rfl (fun H s => st (s _ _ ht)) ?turn0 ?done0
      case turn0 =>
        rintro i x H2 H3 hi2 p2 ⟨rfl, hx⟩
        have hi3 : i < 3 := hi2
        obtain rfl | rfl | rfl : i = 0 ∨ i = 1 ∨ i = 2 := by omega
        all_goals
          injection hx with hx
          subst hx
          refine ⟨rfl, ?_⟩
          walk_at "go"
          exact lc_next hD p2 (by show 3 ≤ 100000; decide) rfl
      case done0 =>
      intro H2 s2 e2
      refine ⟨D, _, rfl, .inl ⟨sl e2, fun t' ht' => ?_⟩⟩
      exact q t' _ (s2.trans (same_upd ht')) upd_same
def sp_l_same_octets (K : PySem.W.Frag) : Sp := fun vs H Q _ => ∃ (a b : Addr) (ns : List Int), vs = [.ref a, .ref b] ∧ H a = some (.lst (ns.map V.int)) ∧ H b = some (.lst (ns.map V.int)) ∧ ns.length ≤ 1000 ∧ Q (.bl true) H
theorem u_sameo {a b : Addr} {ns : List Int} {H Q E} (h : H a = some (.lst (ns.map V.int))) (h2 : H b = some (.lst (ns.map V.int))) (hl : ns.length ≤ 1000) (q : Q (.bl true) H) : sp_l_same_octets K ([.ref a, .ref b] ++ []) H Q E := ⟨a, b, ns, rfl, h, h2, hl, q⟩
theorem ok_l_same_octets (T : Txt w K mg) : FnOk P w K mg base CX0 2 T.f_l_same_octets T.d_l_same_octets ["told", "due"] (sp_l_same_octets K) := by
  refine T.F_l_same_octets.ok sc_l_same_octets (fun vs H Q E h => ?_) (fun cdv A outer s H vs Q E hr h => ?_)
  · obtain ⟨a, b, ns, rfl, ha, hb, hl, q⟩ := h
    rfl
  · obtain ⟨a, b, ns, rfl, ha, hb, hl, q⟩ := h
    have hu := hu_of hr
    refine ⟨_, (pss_cons (ps_if (PW.pt (pw_or (pt_not (pt_val (pe_callB call_isi (by rfl) T.n_isinstance (by decide +kernel) (pa_cons (pv 0) (pa_cons (pe_bltn (v := .ty "list") (by rfl) T.n_list (by decide +kernel) rfl) pa_nil))))) (pw_or1 (pt_cmpR op_ne (pe_callB call_len_seq (by rfl) T.n_len (by decide +kernel) (pa_cons (pv 0) pa_nil)) (pe_callB call_len_seq (by rfl) T.n_len (by decide +kernel) (pa_cons (pv 1) pa_nil)) (nomark _))))) (pss_one (ps_ret pe_bl)) pss_nil)
        (pss_cons (ps_for PassesOwn.never rfl (pi_range1 (by rfl) T.n_range (pa_cons (pe_callB call_len_seq (by rfl) T.n_len (by decide +kernel) (pa_cons (pv 1) pa_nil)) pa_nil)) (pg_name (i := 2) sc_l_same_octets.nd rfl (Or.inl rfl)) (pss_one (ps_if (PW.pt (pw_or (pt_not (pt_val (pe_call (ok_l_is_integer T) (hr.mono (by decide)) rfl T.m_l_is_integer T.F_l_is_integer.kp T.b_l_is_integer .nil pass0 (pa_cons (pe_ix ix_list (pv 0) (pv 2) (fun _ _ => rfl)) pa_nil)))) (pw_or1 (pt_cmpR op_ne (pe_ix ix_list (pv 0) (pv 2) (fun _ _ => rfl)) (pe_ix ix_list (pv 1) (pv 2) (fun _ _ => rfl)) (nomark _))))) (pss_one (ps_ret pe_bl)) pss_nil)))
        (pss_one (ps_ret pe_bl)))), ?_⟩
    dsimp only [cxOf, Cx.nox, Cx.wish, L2.start, List.map, List.cons_append, List.nil_append, List.length_cons, List.length_nil, Nat.reduceAdd, Nat.reduceSub, Nat.zero_add, List.replicate_succ, List.replicate_zero]
    walk_at "go"
    refine g_isiL ha ?_
    walk_at "go"
    refine g_len (.inl (sl ha)) ?_
    walk_at "go"
    refine g_len (.inl (sl hb)) ?_
    walk_at "go"
    refine for_r (n := (ns.length : Int)) ns.length (Int.toNat_natCast _) (by omega) (by omega) (fun i σ H' => H = H' ∧ ∃ v, σ = [some (.ref a), some (.ref b), v]) ⟨rfl, none, rfl⟩ ?turn ?done ?ev
    case ev =>
      intro R rr
      walk_at "go"
      refine g_len (.inl (sl hb)) ?_
      rw [List.length_map]
      exact rr
    case turn =>
      rintro i σ' _ hi ⟨rfl, v, rfl⟩
      obtain ⟨n, en, _⟩ := atI_ints (xs := ns) (i := (i : Int)) (by omega) (by omega)
      walk_at "go"
      refine g_ixL (sl ha) en ?_
      walk_at "go"
      refine g_ixL (sl ha) en ?_
      walk_at "go"
      refine g_ixL (sl hb) en ?_
      walk_at "go"
      exact ⟨rfl, _, rfl⟩
    case done =>
    rintro σ' _ ⟨rfl, v, rfl⟩
    walk_at "go"
    exact q
end
end My
namespace My
open PySem PySem.Spec L2
local macro_rules | `(tactic| walk_at "side") => `(tactic| first | assumption | decide | omega | exact ⟨by decide, by decide⟩ | exact ⟨by decide, by decide, by decide⟩ | decide +kernel | exact cdivW (by decide +kernel) (by decide +kernel) | exact Or.inl ⟨by omega, by omega⟩ | exact Or.inr ⟨by omega, by omega⟩ | (simp only [List.length_map, List.length_cons, List.length_nil, List.length_append]; omega))
local macro_rules | `(tactic| walk_at "fact") => `(tactic| first | assumption | omega | with_reducible rfl)
local macro_rules | `(tactic| walk_at "use") => `(tactic| fail "use")
local macro_rules | `(tactic| walk_at "go1") => `(tactic| with_reducible first | refine g_seq ?_ | refine g_asg ?_ | refine g_ret ?_ | refine g_ifS ?_ | refine g_drop ?_ | refine g_star ?_ | refine g_nx ?_ | refine g_rt ?_ | refine g_bkE ?_ | refine g_ctE ?_ | refine g_next ?_ | refine g_retN ?_ | refine g_brk ?_ | refine g_ct ?_ | refine g_c ?_ | refine g_op ?_ | refine g_un ?_ | refine g_rI0 ?_ | refine g_rU ?_ | refine g_rEqI ?_ | refine g_rNeI ?_ | refine g_isN ?_ | refine g_rIsB ?_ | refine g_rNotB ?_ | refine g_test ?_ | refine g_B ?_ | refine g_bl ?_ | refine g_and ?_ | refine g_or ?_ | refine g_not ?_ | refine g_andV ?_ | refine g_orV ?_ | refine g_notV ?_ | refine g_if ?_ | refine g_chain ?_ | refine g_yes ?_ | refine g_lc ?_ | refine g_revR ?_ | refine g_rng1 ?_ | refine g_iList ?_ | refine g_nil ?_ | refine g_cons ?_ | refine g_tup ?_ | refine g_lst ?_ | refine g_call ?_ | refine g_CB ?_ | refine g_sl ?_ | refine g_noPart ?_ | refine g_part ?_ | refine g_intE ?_ | refine g_ref ?_ | refine g_fld ?_ | refine g_sfld ?_ | refine g_meth ?_ | refine g_make ?_ | refine g_prop ?_  | refine g_ipI ?_ | refine g_int1 ?_ | refine g_int1B ?_ | refine g_one ?_ | refine g_two ?_ | refine g_isiI ?_ | refine g_isiIB ?_ | refine g_isiB ?_ | refine g_BM ?_ | refine g_BM0 ?_ | refine g_sub ?_)
local macro_rules | `(tactic| walk_at "go") => `(tactic| repeat (first | walk_at "go1" | ((with_reducible refine' g_nameE ?sd_ ?_); case sd_ => dsimp only [List.set_cons_succ, List.set_cons_zero]) | ((with_reducible refine' g_var ?sd_ ?_); case sd_ => exact rfl) | ((with_reducible refine' g_aug ?sd_ ?_); case sd_ => exact rfl) | ((with_reducible refine' g_rI ?sd_ ?_); case sd_ => walk_at "side") | ((with_reducible refine' g_dT ?sd_ ?_); case sd_ => walk_at "fact") | ((with_reducible refine' g_dF ?sd_ ?_); case sd_ => walk_at "fact") | ((with_reducible refine' g_nT ?sd_ ?_); case sd_ => walk_at "fact") | ((with_reducible refine' g_nF ?sd_ ?_); case sd_ => walk_at "fact") | (with_reducible refine g_iT rfl ?_) | (with_reducible refine g_iF rfl ?_) | walk_at "use"))
section
variable {P : Program} {w : World} {K : PySem.W.Frag} {mg : Str → Option Value} {base : Heap}
local macro_rules | `(tactic| walk_at "use") => `(tactic| with_reducible first | refine g_rs0 ?_ | refine g_rs1 ?_ | refine g_tryA ?_ | refine g_tryO ?_ | refine g_callS ?_ | refine g_joined ?_ | refine g_jsnil ?_ | refine g_jscons ?_ | refine g_fmt ?_)
local macro_rules | `(tactic| walk_at "fit") => `(tactic| (refine fit2 ?_; (try simp only [PySem.Str.length_append]); omega))
local macro_rules | `(tactic| walk_at "use") => `(tactic| first | ((with_reducible refine' g_addS ?sd_ ?_); case sd_ => (first | omega | (simp only [PySem.Str.length_append]; omega))) | ((with_reducible refine' g_slS ?sd_ ?_); case sd_ => omega) | (with_reducible refine g_m0 ?_))

local macro_rules | `(tactic| walk_at "use") => `(tactic| with_reducible first | refine u_isint ?_ | refine g_rEqS ?_ | refine g_rNeS ?_ | refine g_isiS ?_)
theorem cut_lo {xs : List V} {k : Nat} : cutV xs none (some (k : Int)) = xs.take k := by
  unfold cutV
  rw [HT.sIx_nat]
  show (xs.drop 0).take (min k xs.length - 0) = _
  rw [List.drop_zero, Nat.sub_zero]
  by_cases h : k ≤ xs.length
  · rw [Nat.min_eq_left h]
  · rw [Nat.min_eq_right (by omega), List.take_of_length_le (by omega), List.take_of_length_le (by omega)]
theorem cut_hi {xs : List V} {k : Nat} : cutV xs (some (k : Int)) none = xs.drop k := by
  unfold cutV
  rw [HT.sIx_nat]
  show (xs.drop (min k xs.length)).take (xs.length - min k xs.length) = _
  by_cases h : k ≤ xs.length
  · rw [Nat.min_eq_left h, List.take_of_length_le (by rw [List.length_drop]; omega)]
  · rw [Nat.min_eq_right (by omega), List.drop_eq_nil_of_le (Nat.le_refl _), List.drop_eq_nil_of_le (by omega), List.take_nil]
/-! == of frames -/
def datF : Fr → PyData
  | .op c => .tuple [.str "open", .int c]
  | .oc c os => .tuple [.str "octets", .int c, .list (os.map PyData.int)]
  | .pm c n => .tuple [.str "permit", .int c, .int n]
  | .en c => .tuple [.str "end", .int c]
  | .rs c n => .tuple [.str "reset", .int c, .int n]
theorem dp_F {t : Addr} {H : Hp} : ∀ {f : Fr}, FrO H t f → Dp K H (.ref t) (datF f)
  | .op _, h => .tup (st h) (.cons (.str _) (.cons (.int _) .nil))
  | .oc _ _, ⟨_, h, h2⟩ => .tup (st h) (.cons (.str _) (.cons (.int _) (.cons (dp_ints (sl h2)) .nil)))
  | .pm _ _, h => .tup (st h) (.cons (.str _) (.cons (.int _) (.cons (.int _) .nil)))
  | .en _, h => .tup (st h) (.cons (.str _) (.cons (.int _) .nil))
  | .rs _ _, h => .tup (st h) (.cons (.str _) (.cons (.int _) (.cons (.int _) .nil)))
theorem w_ok : ∀ s ∈ (["open", "octets", "permit", "end", "reset"] : List Str), PyData.canLay0 (.str s) = true := by decide +kernel
theorem sh_of {d : PyData} (h1 : PyData.canLay0 d = true) (h2 : PyData.depth d ≤ 64) : SeqAt.shaped d = true := by
  unfold SeqAt.shaped
  rw [h1, decide_eq_true h2]
  rfl
theorem ln_op {s : Str} {c : Int} (h : PyData.canLay0 (.str s) = true) : PyData.canLay0 (.tuple [.str s, .int c]) = true := by
  show (PyData.canLay0 (.str s) && (true && true)) = true
  rw [h]
  rfl
theorem ln_pm {s : Str} {c n : Int} (h : PyData.canLay0 (.str s) = true) : PyData.canLay0 (.tuple [.str s, .int c, .int n]) = true := by
  show (PyData.canLay0 (.str s) && (true && (true && true))) = true
  rw [h]
  rfl
theorem sh_F : ∀ {f : Fr}, SeqAt.shaped (datF f) = true
  | .op _ => sh_of (ln_op (w_ok _ (by decide +kernel))) (by show max 0 (max 0 0) + 1 ≤ 64; decide)
  | .oc _ os => by
    refine sh_of ?_ ?_
    · show (PyData.canLay0 (.str "octets") && (true && (PyData.canLayAll0 (os.map PyData.int) && true))) = true
      rw [lay_ints, w_ok "octets" (by decide +kernel)]
      rfl
    · show max 0 (max 0 (max (PyData.depthAll (os.map PyData.int) + 1) 0)) + 1 ≤ 64
      rw [depth_ints]
      decide
  | .pm _ _ => sh_of (ln_pm (w_ok _ (by decide +kernel))) (by show max 0 (max 0 (max 0 0)) + 1 ≤ 64; decide)
  | .en _ => sh_of (ln_op (w_ok _ (by decide +kernel))) (by show max 0 (max 0 0) + 1 ≤ 64; decide)
  | .rs _ _ => sh_of (ln_pm (w_ok _ (by decide +kernel))) (by show max 0 (max 0 (max 0 0)) + 1 ≤ 64; decide)
theorem g_neF {a b : Addr} {f : Fr} {H : Hp} {Q : VK} (h1 : FrO H a f) (h2 : FrO H b f) (q : Q (.bl false) H) : rNeD K (.ref a) (.ref b) H Q :=
  ⟨_, _, dp_F h1, dp_F h2, sh_F, sh_F, by rw [SeqAt.eqv_refl _ (SeqAt.canLay_of_shaped sh_F)]; exact q⟩
def sp_l_read (K : PySem.W.Frag) : Sp := fun vs H Q _ => ∃ (a : Addr) (bs : List Int), vs = [.ref a] ∧ H a = some (.lst (bs.map V.int)) ∧
  ((bs.length < 3 ∧ ∀ H', Same H H' → Q .non H') ∨ (∃ b r, bs = b :: r ∧ 2 ≤ r.length ∧ 0 ≤ b ∧ b < 256 ∧ b ∉ ([1, 2, 3, 4, 5] : List Int) ∧ ∀ H', Same H H' → Q (.str "invalid") H') ∨
   ∃ f, FOk f ∧ ∃ rest, bs = kdF f :: chF f / 256 % 256 :: chF f % 256 :: rest ∧
    ((∃ j, j < (tlF f).length ∧ rest = (tlF f).take j ∧ ∀ H', Same H H' → Q .non H') ∨
     (∃ r, rest = tlF f ++ r ∧ ∀ (t u : Addr) H', Same H H' → H' t = some (.tup [.ref u, .int ((enc f).length : Nat)]) → FrO H' u f → Q (.ref t) H')))
theorem ok_l_read (T : Txt w K mg) : FnOk P w K mg base CX0 4 T.f_l_read T.d_l_read ["octets"] (sp_l_read K) := by
  refine T.F_l_read.ok sc_l_read (fun vs H Q E h => ?_) (fun cdv A outer s H vs Q E hr h => ?_)
  · obtain ⟨a, bs, rfl, ha, q⟩ := h
    rfl
  · obtain ⟨a, bs, rfl, ha, q⟩ := h
    have hu := hu_of hr
    refine ⟨_, (pss_cons (ps_set (i := 1) sc_l_read.nd rfl (Or.inl rfl) (pe_callTy call_list_of (by rfl) T.n_list (by decide +kernel) (pa_cons (pv 0) pa_nil)))
        (pss_cons (ps_tryA (i := 3) rfl rfl sc_l_read.nd rfl rfl ⟨rfl, by decide, .inl T.c_InvalidFrame⟩ takes0 (fun W pn xe tk po_ => (pss_one (ps_set (i := 2) sc_l_read.nd rfl (Or.inl rfl) (pe_callS (ok_first_frame T) (hr.mono (by decide)) rfl T.m_first_frame T.F_first_frame.kp T.b_first_frame (fun σ => passAt tk σ) (pa_cons (pv 1) pa_nil))))) (fun a oe cls d pn hz_ hf_ => (pss_cons (ps_if (PW.pt (pw_and (pt_val (pe_callB (call_isE2 hz_ hf_) (by rfl) T.n_isinstance (by decide +kernel) (pa_cons (pv 3) (pa_cons (pe_glob (v := .ref T.C_ThroughlineError) (by rfl) T.c_ThroughlineError rfl) pa_nil)))) (pw_and1 (pt_not (pt_val (pe_callB (call_isE2 hz_ hf_) (by rfl) T.n_isinstance (by decide +kernel) (pa_cons (pv 3) (pa_cons (pe_glob (v := .ref T.C_InvalidAmount) (by rfl) T.c_InvalidAmount rfl) pa_nil)))))))) (pss_one (ps_ret pe_str)) pss_nil)
        (pss_one (ps_ret pe_str)))))
        (pss_cons (ps_if (pt_cmpR (op_neD hr.units) (pv 1) (pv 0) (nomark _)) (pss_one (ps_ret pe_str)) pss_nil)
        (pss_one (ps_ret (pv 2)))))), ?_⟩
    dsimp only [cxOf, Cx.nox, Cx.wish, L2.start, List.map, List.cons_append, List.nil_append, List.length_cons, List.length_nil, Nat.reduceAdd, Nat.reduceSub, Nat.zero_add, List.replicate_succ, List.replicate_zero]
    walk_at "go"
    refine ⟨a, _, rfl, .inl (sl ha), fun g hg => ?_⟩
    generalize z1 : upd H g _ = H1
    have s1 : Same H H1 := by rw [← z1]; exact same_upd hg
    have k1 : H1 g = some (.lst (bs.map V.int)) := (congrFun z1 g).symm.trans upd_same
    clear z1
    have ha1 := s1 _ _ ha
    walk_at "go"
    rcases q with ⟨h, q⟩ | ⟨b, r, rfl, hl, hb0, hb1, hb2, q⟩ | ⟨f, ok, rest, rfl, ho⟩
    · refine ⟨g, rfl, g, _, rfl, sl k1, .inl ⟨h, ?_⟩⟩
      walk_at "go"
      refine g_neL (sl k1) (sl ha1) ?_
      walk_at "go"
      exact q _ s1
    · refine ⟨g, rfl, g, _, rfl, sl k1, .inr (.inl ⟨b, r, rfl, hl, hb0, hb1, hb2, fun H2 s2 => ?_⟩)⟩
      refine g_caught T.em_InvalidFrame_InvalidFrame fun e he => ?_
      dsimp only [List.set_cons_succ, List.set_cons_zero]
      walk_at "go"
      refine g_isER T.xc_InvalidFrame T.ko_InvalidFrame_ThroughlineError ?_
      walk_at "go"
      refine g_isER T.xc_InvalidFrame T.ko_InvalidFrame_InvalidAmount ?_
      walk_at "go"
      exact q _ (s1.trans s2)
    · rcases ho with ⟨j, hj, he, q⟩ | ⟨r, he, q⟩
      · refine ⟨g, rfl, g, _, rfl, sl k1, .inr (.inr ⟨f, ok, rest, rfl, .inl ⟨j, hj, he, fun H2 s2 => ?_⟩⟩)⟩
        walk_at "go"
        refine g_neL (sl (s2 _ _ k1)) (sl (s2 _ _ ha1)) ?_
        walk_at "go"
        exact q _ (s1.trans s2)
      · refine ⟨g, rfl, g, _, rfl, sl k1, .inr (.inr ⟨f, ok, rest, rfl, .inr ⟨r, he, fun t u H2 nt s2 e2 o2 => ?_⟩⟩)⟩
        walk_at "go"
        refine g_neL (sl (s2 _ _ k1)) (sl (s2 _ _ ha1)) ?_
        walk_at "go"
        exact q t u _ (s1.trans s2) e2 o2
def wdF : Fr → Str
  | .op _ => "open"
  | .oc _ _ => "octets"
  | .pm _ _ => "permit"
  | .en _ => "end"
  | .rs _ _ => "reset"
theorem FrO.shape {H : Hp} {t : Addr} : ∀ {f : Fr}, FrO H t f → ∃ r, H t = some (.tup (.str (wdF f) :: .int (chF f) :: r))
  | .op _, h => ⟨_, h⟩
  | .oc _ _, ⟨_, h, _⟩ => ⟨_, h⟩
  | .pm _ _, h => ⟨_, h⟩
  | .en _, h => ⟨_, h⟩
  | .rs _ _, h => ⟨_, h⟩
def sp_l_same (K : PySem.W.Frag) : Sp := fun vs H Q _ => ∃ (t u v : Addr) (n : Int) (f : Fr), vs = [.ref t, .ref v, .int n] ∧ H t = some (.tup [.ref u, .int n]) ∧ FrO H u f ∧ FrO H v f ∧ FOk f ∧ Q (.bl true) H
theorem u_lsame {t u v : Addr} {n : Int} {f : Fr} {H Q E} (h : H t = some (.tup [.ref u, .int n])) (h2 : FrO H u f) (h3 : FrO H v f) (ok : FOk f) (q : Q (.bl true) H) : sp_l_same K ([.ref t, .ref v, .int n] ++ []) H Q E := ⟨t, u, v, n, f, rfl, h, h2, h3, ok, q⟩
theorem ok_l_same (T : Txt w K mg) : FnOk P w K mg base CX0 3 T.f_l_same T.d_l_same ["told", "frame", "size"] (sp_l_same K) := by
  refine T.F_l_same.ok sc_l_same (fun vs H Q E h => ?_) (fun cdv A outer s H vs Q E hr h => ?_)
  · obtain ⟨t, u, v, n, f, rfl, ht, hu0, hv, ok, q⟩ := h
    rfl
  · obtain ⟨t, u, v, n, f, rfl, ht, hu0, hv, ok, q⟩ := h
    have hu := hu_of hr
    refine ⟨_, (pss_cons (ps_if (PW.pt (pw_or (pt_not (pt_val (pe_callB call_isi (by rfl) T.n_isinstance (by decide +kernel) (pa_cons (pv 0) (pa_cons (pe_bltn (v := .ty "tuple") (by rfl) T.n_tuple (by decide +kernel) rfl) pa_nil))))) (pw_or (pt_cmpR op_ne (pe_callB call_len_seq (by rfl) T.n_len (by decide +kernel) (pa_cons (pv 0) pa_nil)) pe_int (nomark _)) (pw_or1 (pt_not (pt_val (pe_callB call_isi (by rfl) T.n_isinstance (by decide +kernel) (pa_cons (pe_ix ix_tup (pv 0) pe_int (fun _ _ => rfl)) (pa_cons (pe_bltn (v := .ty "tuple") (by rfl) T.n_tuple (by decide +kernel) rfl) pa_nil))))))))) (pss_one (ps_ret pe_bl)) pss_nil)
        (pss_cons (ps_if (PW.pt (pw_or (pt_cmpR (op_neD hr.units) (pe_ix ix_tup (pv 0) pe_int (fun _ _ => rfl)) (pv 1) (nomark _)) (pw_or (pt_not (pt_val (pe_call (ok_l_is_integer T) (hr.mono (by decide)) rfl T.m_l_is_integer T.F_l_is_integer.kp T.b_l_is_integer .nil pass0 (pa_cons (pe_ix ix_tup (pe_ix ix_tup (pv 0) pe_int (fun _ _ => rfl)) pe_int (fun _ _ => rfl)) pa_nil)))) (pw_or1 (pt_not (pt_val (pe_call (ok_l_is_integer T) (hr.mono (by decide)) rfl T.m_l_is_integer T.F_l_is_integer.kp T.b_l_is_integer .nil pass0 (pa_cons (pe_ix ix_tup (pv 0) pe_int (fun _ _ => rfl)) pa_nil)))))))) (pss_one (ps_ret pe_bl)) pss_nil)
        (pss_cons (ps_if (PW.pt (pw_and (pt_cmpR op_eq (pe_ix ix_tup (pv 1) pe_int (fun _ _ => rfl)) pe_str (nomark _)) (pw_and1 (pt_not (pt_val (pe_call (ok_l_same_octets T) (hr.mono (by decide)) rfl T.m_l_same_octets T.F_l_same_octets.kp T.b_l_same_octets .nil pass0 (pa_cons (pe_ix ix_tup (pe_ix ix_tup (pv 0) pe_int (fun _ _ => rfl)) pe_int (fun _ _ => rfl)) (pa_cons (pe_ix ix_tup (pv 1) pe_int (fun _ _ => rfl)) pa_nil)))))))) (pss_one (ps_ret pe_bl)) pss_nil)
        (pss_one (ps_ret (pe_cmpR op_eq (pe_ix ix_tup (pv 0) pe_int (fun _ _ => rfl)) (pv 2) (nomark _))))))), ?_⟩
    dsimp only [cxOf, Cx.nox, Cx.wish, L2.start, List.map, List.cons_append, List.nil_append, List.length_cons, List.length_nil, Nat.reduceAdd, Nat.reduceSub, Nat.zero_add, List.replicate_succ, List.replicate_zero]
    obtain ⟨r, hs⟩ := hu0.shape
    obtain ⟨r2, hs2⟩ := hv.shape
    walk_at "go"
    refine g_isiU ht ?_
    walk_at "go"
    refine g_len (.inr (st ht)) ?_
    walk_at "go"
    refine g_ixT (st ht) (at_of (j := 0) rfl rfl) ?_
    walk_at "go"
    refine g_isiU hs ?_
    walk_at "go"
    refine g_ixT (st ht) (at_of (j := 0) rfl rfl) ?_
    walk_at "go"
    refine g_neF hu0 hv ?_
    walk_at "go"
    refine g_ixT (st ht) (at_of (j := 0) rfl rfl) ?_
    walk_at "go"
    refine g_ixT (st hs) (at_of (j := 1) rfl rfl) ?_
    walk_at "go"
    refine g_ixT (st ht) (at_of (j := 1) rfl rfl) ?_
    walk_at "go"
    cases f with
    | oc c os =>
      obtain ⟨l, e1, e2⟩ := hu0
      obtain ⟨l2, e3, e4⟩ := hv
      refine g_ixT (st e3) (at_of (j := 0) rfl rfl) ?_
      walk_at "go"
      refine g_ixT (st ht) (at_of (j := 0) rfl rfl) ?_
      walk_at "go"
      refine g_ixT (st e1) (at_of (j := 2) rfl rfl) ?_
      walk_at "go"
      refine g_ixT (st e3) (at_of (j := 2) rfl rfl) ?_
      walk_at "go"
      have okl := ok.2
      refine u_sameo e2 e4 (by omega) ?_
      walk_at "go"
      refine g_ixT (st ht) (at_of (j := 1) rfl rfl) ?_
      walk_at "go"
      rw [decide_eq_true rfl]
      exact q
    | _ =>
      dsimp only [FrO] at hv
      refine g_ixT (st hv) (at_of (j := 0) rfl rfl) ?_
      walk_at "go"
      refine g_ixT (st ht) (at_of (j := 1) rfl rfl) ?_
      walk_at "go"
      rw [decide_eq_true rfl]
      exact q
end
end My
namespace My
open PySem PySem.Spec L2
local macro_rules | `(tactic| walk_at "side") => `(tactic| first | assumption | decide | omega | exact ⟨by decide, by decide⟩ | exact ⟨by decide, by decide, by decide⟩ | decide +kernel | exact cdivW (by decide +kernel) (by decide +kernel) | exact Or.inl ⟨by omega, by omega⟩ | exact Or.inr ⟨by omega, by omega⟩ | (simp only [List.length_map, List.length_cons, List.length_nil, List.length_append]; omega))
local macro_rules | `(tactic| walk_at "fact") => `(tactic| first | assumption | omega | with_reducible rfl)
local macro_rules | `(tactic| walk_at "use") => `(tactic| fail "use")
local macro_rules | `(tactic| walk_at "go1") => `(tactic| with_reducible first | refine g_seq ?_ | refine g_asg ?_ | refine g_ret ?_ | refine g_ifS ?_ | refine g_drop ?_ | refine g_star ?_ | refine g_nx ?_ | refine g_rt ?_ | refine g_bkE ?_ | refine g_ctE ?_ | refine g_next ?_ | refine g_retN ?_ | refine g_brk ?_ | refine g_ct ?_ | refine g_c ?_ | refine g_op ?_ | refine g_un ?_ | refine g_rI0 ?_ | refine g_rU ?_ | refine g_rEqI ?_ | refine g_rNeI ?_ | refine g_isN ?_ | refine g_rIsB ?_ | refine g_rNotB ?_ | refine g_test ?_ | refine g_B ?_ | refine g_bl ?_ | refine g_and ?_ | refine g_or ?_ | refine g_not ?_ | refine g_andV ?_ | refine g_orV ?_ | refine g_notV ?_ | refine g_if ?_ | refine g_chain ?_ | refine g_yes ?_ | refine g_lc ?_ | refine g_revR ?_ | refine g_rng1 ?_ | refine g_iList ?_ | refine g_nil ?_ | refine g_cons ?_ | refine g_tup ?_ | refine g_lst ?_ | refine g_call ?_ | refine g_CB ?_ | refine g_sl ?_ | refine g_noPart ?_ | refine g_part ?_ | refine g_intE ?_ | refine g_ref ?_ | refine g_fld ?_ | refine g_sfld ?_ | refine g_meth ?_ | refine g_make ?_ | refine g_prop ?_  | refine g_ipI ?_ | refine g_int1 ?_ | refine g_int1B ?_ | refine g_one ?_ | refine g_two ?_ | refine g_isiI ?_ | refine g_isiIB ?_ | refine g_isiB ?_ | refine g_BM ?_ | refine g_BM0 ?_ | refine g_sub ?_)
local macro_rules | `(tactic| walk_at "go") => `(tactic| repeat (first | walk_at "go1" | ((with_reducible refine' g_nameE ?sd_ ?_); case sd_ => dsimp only [List.set_cons_succ, List.set_cons_zero]) | ((with_reducible refine' g_var ?sd_ ?_); case sd_ => exact rfl) | ((with_reducible refine' g_aug ?sd_ ?_); case sd_ => exact rfl) | ((with_reducible refine' g_rI ?sd_ ?_); case sd_ => walk_at "side") | ((with_reducible refine' g_dT ?sd_ ?_); case sd_ => walk_at "fact") | ((with_reducible refine' g_dF ?sd_ ?_); case sd_ => walk_at "fact") | ((with_reducible refine' g_nT ?sd_ ?_); case sd_ => walk_at "fact") | ((with_reducible refine' g_nF ?sd_ ?_); case sd_ => walk_at "fact") | (with_reducible refine g_iT rfl ?_) | (with_reducible refine g_iF rfl ?_) | walk_at "use"))

section
variable {P : Program} {w : World} {K : PySem.W.Frag} {mg : Str → Option Value} {base : Heap}
local macro_rules | `(tactic| walk_at "use") => `(tactic| with_reducible first | refine g_rs0 ?_ | refine g_rs1 ?_ | refine g_tryA ?_ | refine g_tryO ?_ | refine g_callS ?_ | refine g_joined ?_ | refine g_jsnil ?_ | refine g_jscons ?_ | refine g_fmt ?_)
local macro_rules | `(tactic| walk_at "fit") => `(tactic| (refine fit2 ?_; (try simp only [PySem.Str.length_append]); omega))
local macro_rules | `(tactic| walk_at "use") => `(tactic| first | ((with_reducible refine' g_addS ?sd_ ?_); case sd_ => (first | omega | (simp only [PySem.Str.length_append]; omega))) | ((with_reducible refine' g_slS ?sd_ ?_); case sd_ => omega) | (with_reducible refine g_m0 ?_))

local macro_rules | `(tactic| walk_at "use") => `(tactic| with_reducible first | refine u_isint ?_ | refine g_rEqS ?_ | refine g_rNeS ?_ | refine g_isiS ?_ | refine u_cell (by assumption) (by omega) ?_)
def sp_l_holds (K : PySem.W.Frag) : Sp := fun vs H Q _ => ∃ (t : Addr) (f : Fr) (p : Addr) (n : Int), vs = [.ref t, .ref p] ∧ FrK p H t f ∧ FOk f ∧ H p = some (.lst [.int n]) ∧ ∀ H', But p H H' → Q (.bl true) H'
theorem ok_l_holds (T : Txt w K mg) : FnOk P w K mg base CX0 5 T.f_l_holds T.d_l_holds ["frame", "state"] (sp_l_holds K) := by
  refine T.F_l_holds.ok sc_l_holds (fun vs H Q E h => ?_) (fun cdv A outer s H vs Q E hr h => ?_)
  · obtain ⟨t, f, p, n, rfl, hf, ok, hp, q⟩ := h
    rfl
  · obtain ⟨t, f, p, n, rfl, hf, ok, hp, q⟩ := h
    have hu := hu_of hr
    refine ⟨_, (pss_cons (ps_set (i := 2) sc_l_holds.nd rfl (Or.inl rfl) (pe_call (ok_l_octets T) (hr.mono (by decide)) rfl T.m_l_octets T.F_l_octets.kp T.b_l_octets .nil pass0 (pa_cons (pv 0) pa_nil)))
        (pss_cons (ps_set (i := 3) sc_l_holds.nd rfl (Or.inl rfl) (pe_call (ok_l_copy T) (hr.mono (by decide)) rfl T.m_l_copy T.F_l_copy.kp T.b_l_copy .nil pass0 (pa_cons (pv 0) pa_nil)))
        (pss_cons (ps_if (PW.pt (pw_or (pt_not (pt_val (pe_call (ok_l_same_octets T) (hr.mono (by decide)) rfl T.m_l_same_octets T.F_l_same_octets.kp T.b_l_same_octets .nil pass0 (pa_cons (pe_call (ok_write_frame T) (hr.mono (by decide)) rfl T.m_write_frame T.F_write_frame.kp T.b_write_frame .nil pass0 (pa_cons (pv 3) pa_nil)) (pa_cons (pv 2) pa_nil))))) (pw_or1 (pt_cmpR (op_neD hr.units) (pv 3) (pv 0) (nomark _))))) (pss_one (ps_ret pe_bl)) pss_nil)
        (pss_cons (ps_setLc (i := 4) (own := [("k", 5)]) (g := gName 5) (tt := tYes) rfl sc_l_holds.nd rfl rfl (sw_true rfl rfl rfl (by decide +kernel)) (pi_range1 (by rfl) T.n_range (pa_cons (pe_call (ok_l_digit T) (hr.mono (by decide)) rfl T.m_l_digit T.F_l_digit.kp T.b_l_digit .nil pass0 (pa_cons (pv 1) (pa_cons pe_int pa_nil))) pa_nil)) (blkOk_by (N := ["frame", "state", "due", "given", "behind", "k", "bad"]) (sc := defScope s_l_holds) (by decide +kernel)) (fun _ _ _ _ _ => (pg_name (i := 5) sc_l_holds.nd rfl (Or.inl rfl))) (fun _ _ _ _ _ => pts_nil) (fun _ _ _ _ _ => (pe_call (ok_l_digit T) (hr.mono (by decide)) rfl T.m_l_digit T.F_l_digit.kp T.b_l_digit .nil pass0 (pa_cons (pv 1) (pa_cons pe_int pa_nil)))))
        (pss_cons (ps_if (pt_not (pt_val (pe_call (ok_l_same T) (hr.mono (by decide)) rfl T.m_l_same T.F_l_same.kp T.b_l_same .nil pass0 (pa_cons (pe_call (ok_l_read T) (hr.mono (by decide)) rfl T.m_l_read T.F_l_read.kp T.b_l_read .nil pass0 (pa_cons (pe_op op_cat (pv 2) (pv 4)) pa_nil)) (pa_cons (pv 0) (pa_cons (pe_callB call_len_seq (by rfl) T.n_len (by decide +kernel) (pa_cons (pv 2) pa_nil)) pa_nil)))))) (pss_one (ps_ret pe_bl)) pss_nil)
        (pss_cons (ps_for PassesOwn.never rfl (pi_range1 (by rfl) T.n_range (pa_cons (pe_callB call_len_seq (by rfl) T.n_len (by decide +kernel) (pa_cons (pv 2) pa_nil)) pa_nil)) (pg_name (i := 5) sc_l_holds.nd rfl (Or.inl rfl)) (pss_one (ps_if (pt_cmpR op_notN (pe_call (ok_l_read T) (hr.mono (by decide)) rfl T.m_l_read T.F_l_read.kp T.b_l_read .nil pass0 (pa_cons (pe_slice sl_list (pv 2) po_none (po_some (pv 5))) pa_nil)) pe_non (nomark _)) (pss_one (ps_ret pe_bl)) pss_nil)))
        (pss_cons (ps_set (i := 6) sc_l_holds.nd rfl (Or.inl rfl) (pe_op op_cat (pe_op op_cat (pe_lst (pa_cons (pe_ix ix_tup (pe_tup (pa_cons pe_int (pa_cons pe_int (pa_cons pe_int (pa_cons (pe_op op_add pe_int (pe_call (ok_l_digit T) (hr.mono (by decide)) rfl T.m_l_digit T.F_l_digit.kp T.b_l_digit .nil pass0 (pa_cons (pv 1) (pa_cons pe_int pa_nil)))) pa_nil))))) (pe_call (ok_l_digit T) (hr.mono (by decide)) rfl T.m_l_digit T.F_l_digit.kp T.b_l_digit .nil pass0 (pa_cons (pv 1) (pa_cons pe_int pa_nil))) (fun _ _ => rfl)) pa_nil)) (pe_slice sl_list (pv 2) (po_some pe_int) po_none)) (pv 4)))
        (pss_cons (ps_for PassesOwn.never rfl (pi_range1 (by rfl) T.n_range (pa_cons (pe_op op_add (pe_callB (call_min2 rfl) (by rfl) T.n_min (by decide +kernel) (pa_cons (pe_callB call_len_seq (by rfl) T.n_len (by decide +kernel) (pa_cons (pv 6) pa_nil)) (pa_cons pe_int pa_nil))) pe_int) pa_nil)) (pg_name (i := 5) sc_l_holds.nd rfl (Or.inl rfl)) (pss_cons (ps_if (PW.pt (pw_and (pt_cmpR op_lt (pv 5) pe_int (nomark _)) (pw_and1 (pt_cmpR op_notN (pe_call (ok_l_read T) (hr.mono (by decide)) rfl T.m_l_read T.F_l_read.kp T.b_l_read .nil pass0 (pa_cons (pe_slice sl_list (pv 6) po_none (po_some (pv 5))) pa_nil)) pe_non (nomark _))))) (pss_one (ps_ret pe_bl)) pss_nil)
        (pss_one (ps_if (PW.pt (pw_and (pt_cmpR op_ge (pv 5) pe_int (nomark _)) (pw_and1 (pt_cmpR op_ne (pe_call (ok_l_read T) (hr.mono (by decide)) rfl T.m_l_read T.F_l_read.kp T.b_l_read .nil pass0 (pa_cons (pe_slice sl_list (pv 6) po_none (po_some (pv 5))) pa_nil)) pe_str (nomark _))))) (pss_one (ps_ret pe_bl)) pss_nil))))
        (pss_one (ps_ret (pe_cmpR op_eq (pe_call (ok_l_read T) (hr.mono (by decide)) rfl T.m_l_read T.F_l_read.kp T.b_l_read .nil pass0 (pa_cons (pv 6) pa_nil)) pe_str (nomark _)))))))))))), ?_⟩
    dsimp only [cxOf, Cx.nox, Cx.wish, L2.start, List.map, List.cons_append, List.nil_append, List.length_cons, List.length_nil, Nat.reduceAdd, Nat.reduceSub, Nat.zero_add, List.replicate_succ, List.replicate_zero]
    have hl := enc_len ok
    have hlt : (enc f).length = (tlF f).length + 3 := by rw [enc_eq]; rfl
    walk_at "go"
    refine u_loct hf.o ok fun due H1 nd s1 k1 => ?_
    have nde : due ≠ p := fun z => by rw [z, hp] at nd; cases nd
    walk_at "go"
    refine u_copy (hf.o.same s1) fun g H2 s2 fg => ?_
    walk_at "go"
    refine u_wf fg ok fun w H3 nw s3 k3 => ?_
    have s23 := s2.trans s3
    have s13 := s1.trans s23
    walk_at "go"
    refine u_sameo k3 (s23 _ _ k1) (by omega) ?_
    walk_at "go"
    refine g_neF (fg.same s3) (hf.o.same s13) ?_
    walk_at "go"
    refine u_dig (s13 _ _ hp) (by decide) (by decide) fun H4 b4 k4 => ?_
    have b04 : But p H H4 := (But.of s13).trans b4
    have d0 : 0 ≤ n % 10 := Int.emod_nonneg _ (by decide)
    have d1 : n % 10 < 10 := Int.emod_lt_of_pos _ (by decide)
    walk_at "go"
    refine ⟨by omega, by omega, fun D hD => ?_⟩
    have nDp : D ≠ p := fun z => by rw [z, k4] at hD; cases hD
    refine lc_digs hD k4 (by decide) (by decide) (by omega) (fun x => rfl) fun H5 us n5 b5 e5 k5 l5 r5 => ?_
    have b05 := b04.trans b5
    have kd5 := b5 _ _ nde (b4 _ _ nde (s23 _ _ k1))
    have ht5 := hf _ b05
    walk_at "go"
    refine g_cat kd5 e5 (by rw [List.length_map, List.length_map]; exact sz (by omega)) fun pb hpb => ?_
    generalize z6 : upd H5 pb _ = H6
    have s6 : Same H5 H6 := by rw [← z6]; exact same_upd hpb
    have k6 : H6 pb = some (.lst ((enc f ++ us).map V.int)) := by rw [List.map_append]; exact (congrFun z6 pb).symm.trans upd_same
    clear z6
    walk_at "go"
    refine ⟨pb, _, rfl, k6, .inr (.inr ⟨f, ok, tlF f ++ us, by rw [enc_eq]; rfl, .inr ⟨us, rfl, fun t2 u2 H7 s7 e7 o7 => ?_⟩⟩)⟩
    have s57 := s6.trans s7
    have kd7 := s57 _ _ kd5
    walk_at "go"
    refine g_len (.inl (sl kd7)) ?_
    walk_at "go"
    rw [List.length_map]
    refine u_lsame e7 o7 (ht5.same s57) ok ?_
    walk_at "go"
    refine for_r (n := ((enc f).length : Int)) (enc f).length (Int.toNat_natCast _) (by omega) (by omega) (fun i σ H' => Same H7 H' ∧ ∃ v, σ = [some (.ref t), some (.ref p), some (.ref due), some (.ref g), some (.ref D), v, none]) ⟨fun _ _ z => z, _, rfl⟩ ?turn ?done ?ev
    case ev =>
      intro R rr
      walk_at "go"
      refine g_len (.inl (sl kd7)) ?_
      rw [List.length_map]
      exact rr
    case turn =>
      rintro i σ' H' hi ⟨sm, v, rfl⟩
      have kd := sm _ _ kd7
      walk_at "go"
      refine g_slL (sl kd) fun l hl' => ?_
      rw [cut_lo, ← List.map_take]
      generalize z8 : upd H' l _ = H8
      have s8 : Same H' H8 := by rw [← z8]; exact same_upd hl'
      have k8 : H8 l = some (.lst (((enc f).take i).map V.int)) := (congrFun z8 l).symm.trans upd_same
      clear z8
      walk_at "go"
      by_cases h3 : i < 3
      · refine ⟨l, _, rfl, k8, .inl ⟨by rw [List.length_take]; omega, fun H9 s9 => ?_⟩⟩
        walk_at "go"
        exact ⟨sm.trans (s8.trans s9), _, rfl⟩
      · obtain ⟨j, rfl⟩ : ∃ j, i = j + 3 := ⟨i - 3, by omega⟩
        refine ⟨l, _, rfl, k8, .inr (.inr ⟨f, ok, (tlF f).take j, by rw [enc_eq]; rfl, .inl ⟨j, by omega, rfl, fun H9 s9 => ?_⟩⟩)⟩
        walk_at "go"
        exact ⟨sm.trans (s8.trans s9), _, rfl⟩
    case done =>
    rintro σ' H8 ⟨sm, v, rfl⟩
    have s58 := s57.trans sm
    have b08 := b05.trans (But.of s58)
    walk_at "go"
    refine u_dig (s58 _ _ k5) (by decide) (by decide) fun H9 b9 k9 => ?_
    walk_at "go"
    refine ⟨by show 4 ≤ sizeLine; decide, fun pt hpt => ?_⟩
    have npt : pt ≠ p := fun z => by rw [z, k9] at hpt; cases hpt
    generalize z10 : upd H9 pt _ = H10
    have s10 : Same H9 H10 := by rw [← z10]; exact same_upd hpt
    have k10 : H10 pt = some (.tup [.int 0, .int 6, .int 255, .int (6 + n5 % 250)]) := (congrFun z10 pt).symm.trans upd_same
    clear z10
    walk_at "go"
    refine u_dig (s10 _ _ k9) (by decide) (by decide) fun H11 b11 k11 => ?_
    have kt := b11 _ _ npt k10
    have b811 : But p H8 H11 := (b9.trans (But.of s10)).trans b11
    have b011 := b08.trans b811
    obtain ⟨x, ex, x0, x1, x2⟩ : ∃ x : Int, atI [V.int 0, V.int 6, V.int 255, V.int (6 + n5 % 250)] (n5 / 250 % 4) = some (.int x) ∧ 0 ≤ x ∧ x < 256 ∧ x ∉ ([1, 2, 3, 4, 5] : List Int) := by
      obtain h | h | h | h : n5 / 250 % 4 = 0 ∨ n5 / 250 % 4 = 1 ∨ n5 / 250 % 4 = 2 ∨ n5 / 250 % 4 = 3 := by omega
      · rw [h]; exact ⟨0, rfl, by decide, by decide, by decide⟩
      · rw [h]; exact ⟨6, rfl, by decide, by decide, by decide⟩
      · rw [h]; exact ⟨255, rfl, by decide, by decide, by decide⟩
      · rw [h]; exact ⟨6 + n5 % 250, rfl, by omega, by omega, by simp only [List.mem_cons, List.not_mem_nil, or_false]; omega⟩
    walk_at "go"
    refine g_ixT (st kt) ex ?_
    walk_at "go"
    refine ⟨by show 1 ≤ sizeLine; decide, fun p1 hp1 => ?_⟩
    generalize z12 : upd H11 p1 _ = H12
    have s12 : Same H11 H12 := by rw [← z12]; exact same_upd hp1
    have k12 : H12 p1 = some (.lst [.int x]) := (congrFun z12 p1).symm.trans upd_same
    clear z12
    have kd11 := b811 _ _ nde (sm _ _ kd7)
    have ku11 := b811 _ _ nDp (s58 _ _ e5)
    walk_at "go"
    refine g_slL (sl (s12 _ _ kd11)) fun p2 hp2 => ?_
    rw [show (1 : Int) = ((1 : Nat) : Int) from rfl, cut_hi, ← List.map_drop]
    generalize z13 : upd H12 p2 _ = H13
    have s13' : Same H12 H13 := by rw [← z13]; exact same_upd hp2
    have k13 : H13 p2 = some (.lst (((enc f).drop 1).map V.int)) := (congrFun z13 p2).symm.trans upd_same
    clear z13
    refine g_cat (s13' _ _ k12) k13 (by rw [List.length_map, List.length_drop]; exact sz (by show 1 + _ ≤ _; omega)) fun p3 hp3 => ?_
    generalize z14 : upd H13 p3 _ = H14
    have s14 : Same H13 H14 := by rw [← z14]; exact same_upd hp3
    have k14 : H14 p3 = some (.lst ((x :: (enc f).drop 1).map V.int)) := (congrFun z14 p3).symm.trans upd_same
    clear z14
    have s1114 := (s12.trans s13').trans s14
    walk_at "go"
    refine g_cat k14 (s1114 _ _ ku11) (by rw [List.length_map, List.length_map, List.length_cons, List.length_drop]; exact sz (by omega)) fun p4 hp4 => ?_
    obtain ⟨bd, ebd⟩ : ∃ bd, bd = (enc f).drop 1 ++ us := ⟨_, rfl⟩
    have hbd : 2 ≤ bd.length ∧ bd.length ≤ 1000 := by
      rw [ebd, List.length_append, List.length_drop]
      omega
    generalize z15 : upd H14 p4 _ = H15
    have s15 : Same H14 H15 := by rw [← z15]; exact same_upd hp4
    have k15 : H15 p4 = some (.lst ((x :: bd).map V.int)) := by
      rw [ebd]
      refine ((congrFun z15 p4).symm.trans upd_same).trans ?_
      rw [List.map_cons, List.map_cons, List.map_append, List.cons_append]
    clear z15
    have b015 := b011.trans (But.of (s1114.trans s15))
    walk_at "go"
    obtain ⟨N, eN, hN, hN2⟩ : ∃ N : Nat, (if (8 : Int) < ((bd.length + 1 : Nat) : Int) then 8 else ((bd.length + 1 : Nat) : Int)) + 1 = (N : Int) ∧ N ≤ 9 ∧ N ≤ bd.length + 2 := by
      refine ⟨((if (8 : Int) < ((bd.length + 1 : Nat) : Int) then 8 else ((bd.length + 1 : Nat) : Int)) + 1).toNat, ?_, ?_, ?_⟩ <;> (split <;> omega)
    refine for_r (n := (N : Int)) N (Int.toNat_natCast _) (by omega) (by omega) (fun i σ H' => Same H15 H' ∧ ∃ v, σ = [some (.ref t), some (.ref p), some (.ref due), some (.ref g), some (.ref D), v, some (.ref p4)]) ⟨fun _ _ z => z, _, rfl⟩ ?turn2 ?done2 ?ev2
    case ev2 =>
      intro R rr
      walk_at "go"
      refine g_len (.inl (sl k15)) ?_
      walk_at "go"
      rw [List.length_map, List.length_cons, show ((1 : Nat) : Int) = 1 from rfl, eN]
      exact rr
    case turn2 =>
      rintro i σ' H' hi ⟨sm2, v2, rfl⟩
      have kb := sm2 _ _ k15
      walk_at "go"
      by_cases h3 : i < 3
      · refine g_dT (by omega) ?_
        walk_at "go"
        refine g_slL (sl kb) fun l hl' => ?_
        rw [cut_lo, ← List.map_take]
        generalize z16 : upd H' l _ = H16
        have s16 : Same H' H16 := by rw [← z16]; exact same_upd hl'
        have k16 : H16 l = some (.lst (((x :: bd).take i).map V.int)) := (congrFun z16 l).symm.trans upd_same
        clear z16
        walk_at "go"
        refine ⟨l, _, rfl, k16, .inl ⟨by rw [List.length_take]; omega, fun H17 s17 => ?_⟩⟩
        walk_at "go"
        exact ⟨sm2.trans (s16.trans s17), _, rfl⟩
      · refine g_dF (by omega) ?_
        walk_at "go"
        refine g_slL (sl kb) fun l hl' => ?_
        rw [cut_lo, ← List.map_take]
        obtain ⟨j, rfl⟩ : ∃ j, i = j + 1 := ⟨i - 1, by omega⟩
        generalize z16 : upd H' l _ = H16
        have s16 : Same H' H16 := by rw [← z16]; exact same_upd hl'
        have k16 : H16 l = some (.lst ((x :: bd.take j).map V.int)) := (congrFun z16 l).symm.trans upd_same
        clear z16
        walk_at "go"
        refine ⟨l, _, rfl, k16, .inr (.inl ⟨x, bd.take j, rfl, by rw [List.length_take]; omega, x0, x1, x2, fun H17 s17 => ?_⟩)⟩
        walk_at "go"
        exact ⟨sm2.trans (s16.trans s17), _, rfl⟩
    case done2 =>
    rintro σ' H16 ⟨sm2, v2, rfl⟩
    walk_at "go"
    refine ⟨p4, _, rfl, sm2 _ _ k15, .inr (.inl ⟨x, bd, rfl, hbd.1, x0, x1, x2, fun H17 s17 => ?_⟩)⟩
    walk_at "go"
    rw [decide_eq_true rfl]
    exact q _ (b015.trans (But.of (sm2.trans s17)))
def sp_law (K : PySem.W.Frag) : Sp := fun vs H Q _ => ∃ (a : Addr) (ns : List Int), vs = [.ref a] ∧ SqL K H a (ns.map V.int) ∧ ns.length ≤ 63 ∧ ∀ H', Q (.bl true) H'

theorem ok_law (T : Txt w K mg) : FnOk P w K mg base CX0 6 T.f_law T.d_law ["script"] (sp_law K) := by
  refine T.F_law.ok sc_law (fun vs H Q E h => ?_) (fun cdv A outer s H vs Q E hr h => ?_)
  · obtain ⟨a, ns, rfl, hS, hlen, q⟩ := h
    rfl
  · obtain ⟨a, ns, rfl, hS, hlen, q⟩ := h
    have hu := hu_of hr
    refine ⟨_, (pss_cons (ps_set (i := 1) sc_law.nd rfl (Or.inl rfl) pe_int)
        (C8.pss_cut (ps_if (pt_cmpR op_eq (pe_op op_mod (pe_callTy call_int1 (by rfl) T.n_int (by decide +kernel) (pa_cons (pe_call (ok_l_cell T) (hr.mono (by decide)) rfl T.m_l_cell T.F_l_cell.kp T.b_l_cell .nil pass0 (pa_cons (pv 0) (pa_cons pe_int pa_nil))) pa_nil)) pe_int) pe_int (nomark _)) (pss_one (ps_set (i := 1) sc_law.nd rfl (Or.inl rfl) pe_int)) pss_nil)
        (pss_cons (ps_for PassesOwn.never rfl (pi_range1 (by rfl) T.n_range (pa_cons (pe_callB (call_min2 rfl) (by rfl) T.n_min (by decide +kernel) (pa_cons pe_int (pa_cons (pe_callB (call_max2 rfl) (by rfl) T.n_max (by decide +kernel) (pa_cons pe_int (pa_cons (pe_op op_sub (pe_callB call_len_seq (by rfl) T.n_len (by decide +kernel) (pa_cons (pv 0) pa_nil)) pe_int) pa_nil))) pa_nil))) pa_nil)) (pg_name (i := 2) sc_law.nd rfl (Or.inl rfl)) (pss_cons (ps_set (i := 3) sc_law.nd rfl (Or.inl rfl) (pe_call (ok_l_start T) (hr.mono (by decide)) rfl T.m_l_start T.F_l_start.kp T.b_l_start .nil pass0 (pa_cons (pe_call (ok_l_cell T) (hr.mono (by decide)) rfl T.m_l_cell T.F_l_cell.kp T.b_l_cell .nil pass0 (pa_cons (pv 0) (pa_cons (pe_op op_add pe_int (pv 2)) pa_nil))) (pa_cons (pv 2) pa_nil))))
        (pss_one (ps_if (pt_not (pt_val (pe_call (ok_l_holds T) (hr.mono (by decide)) rfl T.m_l_holds T.F_l_holds.kp T.b_l_holds .nil pass0 (pa_cons (pe_call (ok_l_frame T) (hr.mono (by decide)) rfl T.m_l_frame T.F_l_frame.kp T.b_l_frame .nil pass0 (pa_cons (pv 3) (pa_cons (pv 1) pa_nil))) (pa_cons (pv 3) pa_nil))))) (pss_one (ps_ret pe_bl)) pss_nil))))
        (pss_one (ps_ret pe_bl))))), ?_⟩
    dsimp only [cxOf, Cx.nox, Cx.wish, L2.start, List.map, List.cons_append, List.nil_append, List.length_cons, List.length_nil, Nat.reduceAdd, Nat.reduceSub, Nat.zero_add, List.replicate_succ, List.replicate_zero]
    walk_at "go"
    refine g_cut (fun σ' H0 => H = H0 ∧ ∃ m : Int, 0 < m ∧ m ≤ 701 ∧ σ' = [some (.ref a), some (.int m), none, none]) ?_ ?_
    · walk_at "go"
      refine g_ite (fun h => ?_) (fun h => ?_)
      · walk_at "go"
        exact ⟨rfl, 701, by decide, by decide, rfl⟩
      · walk_at "go"
        exact ⟨rfl, 13, by decide, by decide, rfl⟩
    rintro σ' _ ⟨rfl, m, m0, m1, rfl⟩
    obtain ⟨N, eN, hN⟩ : ∃ N : Nat, (if (if (ns.length : Int) - 1 > 1 then (ns.length : Int) - 1 else 1) < 6 then (if (ns.length : Int) - 1 > 1 then (ns.length : Int) - 1 else 1) else 6) = (N : Int) ∧ N ≤ 6 := by
      refine ⟨(if (if (ns.length : Int) - 1 > 1 then (ns.length : Int) - 1 else 1) < 6 then (if (ns.length : Int) - 1 > 1 then (ns.length : Int) - 1 else 1) else 6).toNat, ?_, ?_⟩ <;> (split <;> split <;> omega)
    walk_at "go"
    refine for_r (n := (N : Int)) N (Int.toNat_natCast _) (by omega) (by omega) (fun i σ H' => Same H H' ∧ ∃ v2 v3, σ = [some (.ref a), some (.int m), v2, v3]) ⟨fun _ _ z => z, _, _, rfl⟩ ?turn ?done ?ev
    case ev =>
      intro R r
      walk_at "go"
      refine g_len (.inl hS) ?_
      walk_at "go"
      rw [List.length_map, eN]
      exact r
    case done =>
      rintro σ' H' ⟨sm, v2, v3, rfl⟩
      walk_at "go"
      exact q _
    case turn =>
      rintro i σ' H' hi ⟨sm, v2, v3, rfl⟩
      have hS' := sm.seq hS
      walk_at "go"
      refine u_start fun p n hp => ?_
      generalize z1 : upd H' p _ = H1
      have s1 : Same H' H1 := by rw [← z1]; exact same_upd hp
      have k1 : H1 p = some (.lst [.int n]) := (congrFun z1 p).symm.trans upd_same
      clear z1
      walk_at "go"
      refine u_frame k1 m0 m1 fun t f n' H2 b2 hf ok k2 => ?_
      walk_at "go"
      refine ⟨t, f, p, n', rfl, hf, ok, k2, fun H3 b3 => ?_⟩
      walk_at "go"
      exact ⟨sm.trans (But.same ((But.of s1).trans (b2.trans b3)) hp), _, _, rfl⟩
end
end My
namespace My
open PySem PySem.Spec L2
local macro_rules | `(tactic| walk_at "side") => `(tactic| first | assumption | decide | omega | exact ⟨by decide, by decide⟩ | exact ⟨by decide, by decide, by decide⟩ | decide +kernel | exact cdivW (by decide +kernel) (by decide +kernel) | exact Or.inl ⟨by omega, by omega⟩ | exact Or.inr ⟨by omega, by omega⟩ | (simp only [List.length_map, List.length_cons, List.length_nil, List.length_append]; omega))
local macro_rules | `(tactic| walk_at "fact") => `(tactic| first | assumption | omega | with_reducible rfl)
local macro_rules | `(tactic| walk_at "use") => `(tactic| fail "use")
local macro_rules | `(tactic| walk_at "go1") => `(tactic| with_reducible first | refine g_seq ?_ | refine g_asg ?_ | refine g_ret ?_ | refine g_ifS ?_ | refine g_drop ?_ | refine g_star ?_ | refine g_nx ?_ | refine g_rt ?_ | refine g_bkE ?_ | refine g_ctE ?_ | refine g_next ?_ | refine g_retN ?_ | refine g_brk ?_ | refine g_ct ?_ | refine g_c ?_ | refine g_op ?_ | refine g_un ?_ | refine g_rI0 ?_ | refine g_rU ?_ | refine g_rEqI ?_ | refine g_rNeI ?_ | refine g_isN ?_ | refine g_rIsB ?_ | refine g_rNotB ?_ | refine g_test ?_ | refine g_B ?_ | refine g_bl ?_ | refine g_and ?_ | refine g_or ?_ | refine g_not ?_ | refine g_andV ?_ | refine g_orV ?_ | refine g_notV ?_ | refine g_if ?_ | refine g_chain ?_ | refine g_yes ?_ | refine g_lc ?_ | refine g_revR ?_ | refine g_rng1 ?_ | refine g_iList ?_ | refine g_nil ?_ | refine g_cons ?_ | refine g_tup ?_ | refine g_lst ?_ | refine g_call ?_ | refine g_CB ?_ | refine g_sl ?_ | refine g_noPart ?_ | refine g_part ?_ | refine g_intE ?_ | refine g_ref ?_ | refine g_fld ?_ | refine g_sfld ?_ | refine g_meth ?_ | refine g_make ?_ | refine g_prop ?_  | refine g_ipI ?_ | refine g_int1 ?_ | refine g_int1B ?_ | refine g_one ?_ | refine g_two ?_ | refine g_isiI ?_ | refine g_isiIB ?_ | refine g_isiB ?_ | refine g_BM ?_ | refine g_BM0 ?_ | refine g_sub ?_)
local macro_rules | `(tactic| walk_at "go") => `(tactic| repeat (first | walk_at "go1" | ((with_reducible refine' g_nameE ?sd_ ?_); case sd_ => dsimp only [List.set_cons_succ, List.set_cons_zero]) | ((with_reducible refine' g_var ?sd_ ?_); case sd_ => exact rfl) | ((with_reducible refine' g_aug ?sd_ ?_); case sd_ => exact rfl) | ((with_reducible refine' g_rI ?sd_ ?_); case sd_ => walk_at "side") | ((with_reducible refine' g_dT ?sd_ ?_); case sd_ => walk_at "fact") | ((with_reducible refine' g_dF ?sd_ ?_); case sd_ => walk_at "fact") | ((with_reducible refine' g_nT ?sd_ ?_); case sd_ => walk_at "fact") | ((with_reducible refine' g_nF ?sd_ ?_); case sd_ => walk_at "fact") | (with_reducible refine g_iT rfl ?_) | (with_reducible refine g_iF rfl ?_) | walk_at "use"))
theorem all_mk {l : PySem.W.OpenLaw} {w : World} {K : PySem.W.Frag} {h : Heap} {mg : Str → Option Value} {fa : Addr} (X : K.In h) (G : h.Ns mainGlobals mg) (hfa : mg "law" = some (.ref fa))
    {t_KINDS : Addr} {dn_KINDS : Nat} {hk_KINDS_0 : Int} {tk_KINDS_0 : Tok} {tt_KINDS_0 : Tok} {hk_KINDS_1 : Int} {tk_KINDS_1 : Tok} {tt_KINDS_1 : Tok} {hk_KINDS_2 : Int} {tk_KINDS_2 : Tok} {tt_KINDS_2 : Tok} {hk_KINDS_3 : Int} {tk_KINDS_3 : Tok} {tt_KINDS_3 : Tok} {hk_KINDS_4 : Int} {tk_KINDS_4 : Tok} {tt_KINDS_4 : Tok} {t_HEAD : Tok} {t_LONG_HEAD : Tok} {t_WORDS : Addr} {dn_WORDS : Nat} {hk_WORDS_0 : Int} {tk_WORDS_0 : Tok} {tt_WORDS_0 : Tok} {hk_WORDS_1 : Int} {tk_WORDS_1 : Tok} {tt_WORDS_1 : Tok} {hk_WORDS_2 : Int} {tk_WORDS_2 : Tok} {tt_WORDS_2 : Tok} {hk_WORDS_3 : Int} {tk_WORDS_3 : Tok} {tt_WORDS_3 : Tok} {hk_WORDS_4 : Int} {tk_WORDS_4 : Tok} {tt_WORDS_4 : Tok} {C_ThroughlineError : Addr} {C_InvalidAmount : Addr} {C_InvalidFrame : Addr} {f_write_number : Addr} {od_write_number an_write_number : Option Addr} {sl_write_number : Array (Option Value)} {oc_write_number kV_write_number dc_write_number pm_write_number cd_write_number ct_write_number : Value} {f_read_number : Addr} {od_read_number an_read_number : Option Addr} {sl_read_number : Array (Option Value)} {oc_read_number kV_read_number dc_read_number pm_read_number cd_read_number ct_read_number : Value} {f_write_frame : Addr} {od_write_frame an_write_frame : Option Addr} {sl_write_frame : Array (Option Value)} {oc_write_frame kV_write_frame dc_write_frame pm_write_frame cd_write_frame ct_write_frame : Value} {f_first_frame : Addr} {od_first_frame an_first_frame : Option Addr} {sl_first_frame : Array (Option Value)} {oc_first_frame kV_first_frame dc_first_frame pm_first_frame cd_first_frame ct_first_frame : Value} {f_frame_at : Addr} {od_frame_at an_frame_at : Option Addr} {sl_frame_at : Array (Option Value)} {oc_frame_at kV_frame_at dc_frame_at pm_frame_at cd_frame_at ct_frame_at : Value} {f_l_cell : Addr} {od_l_cell an_l_cell : Option Addr} {sl_l_cell : Array (Option Value)} {oc_l_cell kV_l_cell dc_l_cell pm_l_cell cd_l_cell ct_l_cell : Value} {f_l_is_integer : Addr} {od_l_is_integer an_l_is_integer : Option Addr} {sl_l_is_integer : Array (Option Value)} {oc_l_is_integer kV_l_is_integer dc_l_is_integer pm_l_is_integer cd_l_is_integer ct_l_is_integer : Value} {f_l_start : Addr} {od_l_start an_l_start : Option Addr} {sl_l_start : Array (Option Value)} {oc_l_start kV_l_start dc_l_start pm_l_start cd_l_start ct_l_start : Value} {f_l_digit : Addr} {od_l_digit an_l_digit : Option Addr} {sl_l_digit : Array (Option Value)} {oc_l_digit kV_l_digit dc_l_digit pm_l_digit cd_l_digit ct_l_digit : Value} {f_l_frame : Addr} {od_l_frame an_l_frame : Option Addr} {sl_l_frame : Array (Option Value)} {oc_l_frame kV_l_frame dc_l_frame pm_l_frame cd_l_frame ct_l_frame : Value} {f_l_octets : Addr} {od_l_octets an_l_octets : Option Addr} {sl_l_octets : Array (Option Value)} {oc_l_octets kV_l_octets dc_l_octets pm_l_octets cd_l_octets ct_l_octets : Value} {f_l_copy : Addr} {od_l_copy an_l_copy : Option Addr} {sl_l_copy : Array (Option Value)} {oc_l_copy kV_l_copy dc_l_copy pm_l_copy cd_l_copy ct_l_copy : Value} {f_l_same_octets : Addr} {od_l_same_octets an_l_same_octets : Option Addr} {sl_l_same_octets : Array (Option Value)} {oc_l_same_octets kV_l_same_octets dc_l_same_octets pm_l_same_octets cd_l_same_octets ct_l_same_octets : Value} {f_l_read : Addr} {od_l_read an_l_read : Option Addr} {sl_l_read : Array (Option Value)} {oc_l_read kV_l_read dc_l_read pm_l_read cd_l_read ct_l_read : Value} {f_l_same : Addr} {od_l_same an_l_same : Option Addr} {sl_l_same : Array (Option Value)} {oc_l_same kV_l_same dc_l_same pm_l_same cd_l_same ct_l_same : Value} {f_l_holds : Addr} {od_l_holds an_l_holds : Option Addr} {sl_l_holds : Array (Option Value)} {oc_l_holds kV_l_holds dc_l_holds pm_l_holds cd_l_holds ct_l_holds : Value} {f_law : Addr} {od_law an_law : Option Addr} {sl_law : Array (Option Value)} {oc_law kV_law dc_law pm_law cd_law ct_law : Value}
    (v_KINDS : PySem.W.nsIn K mainGlobals "KINDS" = some (some (.ref t_KINDS)))
    (dk_KINDS : K.lookup t_KINDS = some ⟨.type "dict", none, .dict #[⟨hk_KINDS_0, .str (PySem.Str.ofString "open") tk_KINDS_0, .int 1 tt_KINDS_0⟩, ⟨hk_KINDS_1, .str (PySem.Str.ofString "octets") tk_KINDS_1, .int 2 tt_KINDS_1⟩, ⟨hk_KINDS_2, .str (PySem.Str.ofString "permit") tk_KINDS_2, .int 3 tt_KINDS_2⟩, ⟨hk_KINDS_3, .str (PySem.Str.ofString "end") tk_KINDS_3, .int 4 tt_KINDS_3⟩, ⟨hk_KINDS_4, .str (PySem.Str.ofString "reset") tk_KINDS_4, .int 5 tt_KINDS_4⟩] dn_KINDS, #[]⟩)
    (lit_KINDS : PySem.W.KeysLit w.params [⟨hk_KINDS_0, .str (PySem.Str.ofString "open") tk_KINDS_0, .int 1 tt_KINDS_0⟩, ⟨hk_KINDS_1, .str (PySem.Str.ofString "octets") tk_KINDS_1, .int 2 tt_KINDS_1⟩, ⟨hk_KINDS_2, .str (PySem.Str.ofString "permit") tk_KINDS_2, .int 3 tt_KINDS_2⟩, ⟨hk_KINDS_3, .str (PySem.Str.ofString "end") tk_KINDS_3, .int 4 tt_KINDS_3⟩, ⟨hk_KINDS_4, .str (PySem.Str.ofString "reset") tk_KINDS_4, .int 5 tt_KINDS_4⟩])
    (low_KINDS : (t_KINDS == PySem.sysModules) = false)
    (v_HEAD : PySem.W.nsIn K mainGlobals "HEAD" = some (some (.int 3 t_HEAD)))
    (v_LONG_HEAD : PySem.W.nsIn K mainGlobals "LONG_HEAD" = some (some (.int 5 t_LONG_HEAD)))
    (v_WORDS : PySem.W.nsIn K mainGlobals "WORDS" = some (some (.ref t_WORDS)))
    (dk_WORDS : K.lookup t_WORDS = some ⟨.type "dict", none, .dict #[⟨hk_WORDS_0, .int 1 tk_WORDS_0, .str (PySem.Str.ofString "open") tt_WORDS_0⟩, ⟨hk_WORDS_1, .int 2 tk_WORDS_1, .str (PySem.Str.ofString "octets") tt_WORDS_1⟩, ⟨hk_WORDS_2, .int 3 tk_WORDS_2, .str (PySem.Str.ofString "permit") tt_WORDS_2⟩, ⟨hk_WORDS_3, .int 4 tk_WORDS_3, .str (PySem.Str.ofString "end") tt_WORDS_3⟩, ⟨hk_WORDS_4, .int 5 tk_WORDS_4, .str (PySem.Str.ofString "reset") tt_WORDS_4⟩] dn_WORDS, #[]⟩)
    (hh_WORDS_0 : hk_WORDS_0 = hashInt 1)
    (hh_WORDS_1 : hk_WORDS_1 = hashInt 2)
    (hh_WORDS_2 : hk_WORDS_2 = hashInt 3)
    (hh_WORDS_3 : hk_WORDS_3 = hashInt 4)
    (hh_WORDS_4 : hk_WORDS_4 = hashInt 5)
    (low_WORDS : (t_WORDS == PySem.sysModules) = false)
    (c_ThroughlineError : PySem.W.nsIn K mainGlobals "ThroughlineError" = some (some (.ref C_ThroughlineError)))
    (be_ThroughlineError : PySem.W.subIn K (.ref C_ThroughlineError) (.type "BaseException") = some true)
    (te_ThroughlineError : PySem.W.typeIn K (.ref C_ThroughlineError) = some (.type "type"))
    (hd_ThroughlineError : PySem.W.hasDictIn K C_ThroughlineError = true)
    (ic_ThroughlineError : PySem.W.isClsIn K C_ThroughlineError = true)
    (c_InvalidAmount : PySem.W.nsIn K mainGlobals "InvalidAmount" = some (some (.ref C_InvalidAmount)))
    (be_InvalidAmount : PySem.W.subIn K (.ref C_InvalidAmount) (.type "BaseException") = some true)
    (te_InvalidAmount : PySem.W.typeIn K (.ref C_InvalidAmount) = some (.type "type"))
    (hd_InvalidAmount : PySem.W.hasDictIn K C_InvalidAmount = true)
    (ic_InvalidAmount : PySem.W.isClsIn K C_InvalidAmount = true)
    (c_InvalidFrame : PySem.W.nsIn K mainGlobals "InvalidFrame" = some (some (.ref C_InvalidFrame)))
    (be_InvalidFrame : PySem.W.subIn K (.ref C_InvalidFrame) (.type "BaseException") = some true)
    (te_InvalidFrame : PySem.W.typeIn K (.ref C_InvalidFrame) = some (.type "type"))
    (hd_InvalidFrame : PySem.W.hasDictIn K C_InvalidFrame = true)
    (ic_InvalidFrame : PySem.W.isClsIn K C_InvalidFrame = true)
    (xP_InvalidFrame : PySem.W.excIn K C_InvalidFrame [.type "ValueError", .type "Exception", .type "BaseException", .type "object"] "ValueError.__new__" = true)
    (ke_InvalidFrame : PySem.W.keepIn K (.ref C_InvalidFrame) = true)
    (xg_InvalidFrame : PySem.W.findIn K (.ref C_InvalidFrame) "__getattribute__" = some (some (.builtin "BaseException.__getattribute__")))
    (xk_InvalidFrame : PySem.W.findIn K (.ref C_InvalidFrame) "__getattr__" = some none)
    (xa_InvalidFrame : PySem.W.findIn K (.ref C_InvalidFrame) "__class__" = some (some (.builtin "object.__class__")))
    (xm_InvalidFrame : PySem.W.mroIn K C_InvalidFrame (.type "object") = some true)
    (hn_all : PySem.W.specialIn K (.builtin "object.__class__") "__get__" = some (some (.builtin "getset_descriptor.__get__")))
    (ht_all : PySem.W.takesIn K (.builtin "object.__class__") = some true)
    (su_InvalidFrame_InvalidFrame : PySem.W.subIn K (.ref C_InvalidFrame) (.ref C_InvalidFrame) = some true)
    (su_InvalidFrame_ThroughlineError : PySem.W.subIn K (.ref C_InvalidFrame) (.ref C_ThroughlineError) = some true)
    (su_InvalidFrame_InvalidAmount : PySem.W.subIn K (.ref C_InvalidFrame) (.ref C_InvalidAmount) = some false)
    (sr_InvalidFrame : PySem.W.subIn K (.ref C_InvalidFrame) (.ref C_InvalidFrame) = some true)
    (a_write_number : PySem.W.nsIn K mainGlobals "write_number" = some (some (.ref f_write_number)))
    (l_write_number : K.lookup f_write_number = some ⟨oc_write_number, od_write_number, .func (PySem.W.fnOf "write_number" "write_number" (defArgs s_write_number) (defBody s_write_number) (defScope s_write_number) .none kV_write_number dc_write_number pm_write_number an_write_number cd_write_number ct_write_number), sl_write_number⟩)
    (cc_write_number : PySem.W.codeIn K cd_write_number "write_number" = true)
    (kk_write_number : PySem.W.keepIn K (.ref f_write_number) = true)
    (a_read_number : PySem.W.nsIn K mainGlobals "read_number" = some (some (.ref f_read_number)))
    (l_read_number : K.lookup f_read_number = some ⟨oc_read_number, od_read_number, .func (PySem.W.fnOf "read_number" "read_number" (defArgs s_read_number) (defBody s_read_number) (defScope s_read_number) .none kV_read_number dc_read_number pm_read_number an_read_number cd_read_number ct_read_number), sl_read_number⟩)
    (cc_read_number : PySem.W.codeIn K cd_read_number "read_number" = true)
    (kk_read_number : PySem.W.keepIn K (.ref f_read_number) = true)
    (a_write_frame : PySem.W.nsIn K mainGlobals "write_frame" = some (some (.ref f_write_frame)))
    (l_write_frame : K.lookup f_write_frame = some ⟨oc_write_frame, od_write_frame, .func (PySem.W.fnOf "write_frame" "write_frame" (defArgs s_write_frame) (defBody s_write_frame) (defScope s_write_frame) .none kV_write_frame dc_write_frame pm_write_frame an_write_frame cd_write_frame ct_write_frame), sl_write_frame⟩)
    (cc_write_frame : PySem.W.codeIn K cd_write_frame "write_frame" = true)
    (kk_write_frame : PySem.W.keepIn K (.ref f_write_frame) = true)
    (a_first_frame : PySem.W.nsIn K mainGlobals "first_frame" = some (some (.ref f_first_frame)))
    (l_first_frame : K.lookup f_first_frame = some ⟨oc_first_frame, od_first_frame, .func (PySem.W.fnOf "first_frame" "first_frame" (defArgs s_first_frame) (defBody s_first_frame) (defScope s_first_frame) .none kV_first_frame dc_first_frame pm_first_frame an_first_frame cd_first_frame ct_first_frame), sl_first_frame⟩)
    (cc_first_frame : PySem.W.codeIn K cd_first_frame "first_frame" = true)
    (kk_first_frame : PySem.W.keepIn K (.ref f_first_frame) = true)
    (a_frame_at : PySem.W.nsIn K mainGlobals "frame_at" = some (some (.ref f_frame_at)))
    (l_frame_at : K.lookup f_frame_at = some ⟨oc_frame_at, od_frame_at, .func (PySem.W.fnOf "frame_at" "frame_at" (defArgs s_frame_at) (defBody s_frame_at) (defScope s_frame_at) .none kV_frame_at dc_frame_at pm_frame_at an_frame_at cd_frame_at ct_frame_at), sl_frame_at⟩)
    (cc_frame_at : PySem.W.codeIn K cd_frame_at "frame_at" = true)
    (kk_frame_at : PySem.W.keepIn K (.ref f_frame_at) = true)
    (a_l_cell : PySem.W.nsIn K mainGlobals "_law_cell" = some (some (.ref f_l_cell)))
    (l_l_cell : K.lookup f_l_cell = some ⟨oc_l_cell, od_l_cell, .func (PySem.W.fnOf "_law_cell" "_law_cell" (defArgs s_l_cell) (defBody s_l_cell) (defScope s_l_cell) .none kV_l_cell dc_l_cell pm_l_cell an_l_cell cd_l_cell ct_l_cell), sl_l_cell⟩)
    (cc_l_cell : PySem.W.codeIn K cd_l_cell "_law_cell" = true)
    (kk_l_cell : PySem.W.keepIn K (.ref f_l_cell) = true)
    (a_l_is_integer : PySem.W.nsIn K mainGlobals "_law_is_integer" = some (some (.ref f_l_is_integer)))
    (l_l_is_integer : K.lookup f_l_is_integer = some ⟨oc_l_is_integer, od_l_is_integer, .func (PySem.W.fnOf "_law_is_integer" "_law_is_integer" (defArgs s_l_is_integer) (defBody s_l_is_integer) (defScope s_l_is_integer) .none kV_l_is_integer dc_l_is_integer pm_l_is_integer an_l_is_integer cd_l_is_integer ct_l_is_integer), sl_l_is_integer⟩)
    (cc_l_is_integer : PySem.W.codeIn K cd_l_is_integer "_law_is_integer" = true)
    (kk_l_is_integer : PySem.W.keepIn K (.ref f_l_is_integer) = true)
    (a_l_start : PySem.W.nsIn K mainGlobals "_law_start" = some (some (.ref f_l_start)))
    (l_l_start : K.lookup f_l_start = some ⟨oc_l_start, od_l_start, .func (PySem.W.fnOf "_law_start" "_law_start" (defArgs s_l_start) (defBody s_l_start) (defScope s_l_start) .none kV_l_start dc_l_start pm_l_start an_l_start cd_l_start ct_l_start), sl_l_start⟩)
    (cc_l_start : PySem.W.codeIn K cd_l_start "_law_start" = true)
    (kk_l_start : PySem.W.keepIn K (.ref f_l_start) = true)
    (a_l_digit : PySem.W.nsIn K mainGlobals "_law_digit" = some (some (.ref f_l_digit)))
    (l_l_digit : K.lookup f_l_digit = some ⟨oc_l_digit, od_l_digit, .func (PySem.W.fnOf "_law_digit" "_law_digit" (defArgs s_l_digit) (defBody s_l_digit) (defScope s_l_digit) .none kV_l_digit dc_l_digit pm_l_digit an_l_digit cd_l_digit ct_l_digit), sl_l_digit⟩)
    (cc_l_digit : PySem.W.codeIn K cd_l_digit "_law_digit" = true)
    (kk_l_digit : PySem.W.keepIn K (.ref f_l_digit) = true)
    (a_l_frame : PySem.W.nsIn K mainGlobals "_law_frame" = some (some (.ref f_l_frame)))
    (l_l_frame : K.lookup f_l_frame = some ⟨oc_l_frame, od_l_frame, .func (PySem.W.fnOf "_law_frame" "_law_frame" (defArgs s_l_frame) (defBody s_l_frame) (defScope s_l_frame) .none kV_l_frame dc_l_frame pm_l_frame an_l_frame cd_l_frame ct_l_frame), sl_l_frame⟩)
    (cc_l_frame : PySem.W.codeIn K cd_l_frame "_law_frame" = true)
    (kk_l_frame : PySem.W.keepIn K (.ref f_l_frame) = true)
    (a_l_octets : PySem.W.nsIn K mainGlobals "_law_octets" = some (some (.ref f_l_octets)))
    (l_l_octets : K.lookup f_l_octets = some ⟨oc_l_octets, od_l_octets, .func (PySem.W.fnOf "_law_octets" "_law_octets" (defArgs s_l_octets) (defBody s_l_octets) (defScope s_l_octets) .none kV_l_octets dc_l_octets pm_l_octets an_l_octets cd_l_octets ct_l_octets), sl_l_octets⟩)
    (cc_l_octets : PySem.W.codeIn K cd_l_octets "_law_octets" = true)
    (kk_l_octets : PySem.W.keepIn K (.ref f_l_octets) = true)
    (a_l_copy : PySem.W.nsIn K mainGlobals "_law_copy" = some (some (.ref f_l_copy)))
    (l_l_copy : K.lookup f_l_copy = some ⟨oc_l_copy, od_l_copy, .func (PySem.W.fnOf "_law_copy" "_law_copy" (defArgs s_l_copy) (defBody s_l_copy) (defScope s_l_copy) .none kV_l_copy dc_l_copy pm_l_copy an_l_copy cd_l_copy ct_l_copy), sl_l_copy⟩)
    (cc_l_copy : PySem.W.codeIn K cd_l_copy "_law_copy" = true)
    (kk_l_copy : PySem.W.keepIn K (.ref f_l_copy) = true)
    (a_l_same_octets : PySem.W.nsIn K mainGlobals "_law_same_octets" = some (some (.ref f_l_same_octets)))
    (l_l_same_octets : K.lookup f_l_same_octets = some ⟨oc_l_same_octets, od_l_same_octets, .func (PySem.W.fnOf "_law_same_octets" "_law_same_octets" (defArgs s_l_same_octets) (defBody s_l_same_octets) (defScope s_l_same_octets) .none kV_l_same_octets dc_l_same_octets pm_l_same_octets an_l_same_octets cd_l_same_octets ct_l_same_octets), sl_l_same_octets⟩)
    (cc_l_same_octets : PySem.W.codeIn K cd_l_same_octets "_law_same_octets" = true)
    (kk_l_same_octets : PySem.W.keepIn K (.ref f_l_same_octets) = true)
    (a_l_read : PySem.W.nsIn K mainGlobals "_law_read" = some (some (.ref f_l_read)))
    (l_l_read : K.lookup f_l_read = some ⟨oc_l_read, od_l_read, .func (PySem.W.fnOf "_law_read" "_law_read" (defArgs s_l_read) (defBody s_l_read) (defScope s_l_read) .none kV_l_read dc_l_read pm_l_read an_l_read cd_l_read ct_l_read), sl_l_read⟩)
    (cc_l_read : PySem.W.codeIn K cd_l_read "_law_read" = true)
    (kk_l_read : PySem.W.keepIn K (.ref f_l_read) = true)
    (a_l_same : PySem.W.nsIn K mainGlobals "_law_same" = some (some (.ref f_l_same)))
    (l_l_same : K.lookup f_l_same = some ⟨oc_l_same, od_l_same, .func (PySem.W.fnOf "_law_same" "_law_same" (defArgs s_l_same) (defBody s_l_same) (defScope s_l_same) .none kV_l_same dc_l_same pm_l_same an_l_same cd_l_same ct_l_same), sl_l_same⟩)
    (cc_l_same : PySem.W.codeIn K cd_l_same "_law_same" = true)
    (kk_l_same : PySem.W.keepIn K (.ref f_l_same) = true)
    (a_l_holds : PySem.W.nsIn K mainGlobals "_law_holds" = some (some (.ref f_l_holds)))
    (l_l_holds : K.lookup f_l_holds = some ⟨oc_l_holds, od_l_holds, .func (PySem.W.fnOf "_law_holds" "_law_holds" (defArgs s_l_holds) (defBody s_l_holds) (defScope s_l_holds) .none kV_l_holds dc_l_holds pm_l_holds an_l_holds cd_l_holds ct_l_holds), sl_l_holds⟩)
    (cc_l_holds : PySem.W.codeIn K cd_l_holds "_law_holds" = true)
    (kk_l_holds : PySem.W.keepIn K (.ref f_l_holds) = true)
    (a_law : PySem.W.nsIn K mainGlobals "law" = some (some (.ref f_law)))
    (l_law : K.lookup f_law = some ⟨oc_law, od_law, .func (PySem.W.fnOf "law" "law" (defArgs s_law) (defBody s_law) (defScope s_law) .none kV_law dc_law pm_law an_law cd_law ct_law), sl_law⟩)
    (cc_law : PySem.W.codeIn K cd_law "law" = true)
    (kk_law : PySem.W.keepIn K (.ref f_law) = true)
    (z_bool : PySem.W.nsIn K mainGlobals "bool" = some none)
    (z_int : PySem.W.nsIn K mainGlobals "int" = some none)
    (z_isinstance : PySem.W.nsIn K mainGlobals "isinstance" = some none)
    (z_len : PySem.W.nsIn K mainGlobals "len" = some none)
    (z_list : PySem.W.nsIn K mainGlobals "list" = some none)
    (z_max : PySem.W.nsIn K mainGlobals "max" = some none)
    (z_min : PySem.W.nsIn K mainGlobals "min" = some none)
    (z_range : PySem.W.nsIn K mainGlobals "range" = some none)
    (z_reversed : PySem.W.nsIn K mainGlobals "reversed" = some none)
    (z_tuple : PySem.W.nsIn K mainGlobals "tuple" = some none)
    : ∃ fd : FuncData, (∀ (s : Shared) (v : Value), BindsTo s fd ⟨[v], []⟩ [("script", v)]) ∧ ∀ base : Heap, K.In base → base.Ns mainGlobals mg → FnOk l.prog w K mg base CX0 6 fa fd ["script"] (sp_law K) := by
  have e := hfa.symm.trans (PySem.W.mg_of X G a_law)
  have e2 : f_law = fa := by
    injection e with e
    injection e with e
    exact e.symm
  subst e2
  have lit_WORDS : ∀ e ∈ ([⟨hk_WORDS_0, .int 1 tk_WORDS_0, .str (PySem.Str.ofString "open") tt_WORDS_0⟩, ⟨hk_WORDS_1, .int 2 tk_WORDS_1, .str (PySem.Str.ofString "octets") tt_WORDS_1⟩, ⟨hk_WORDS_2, .int 3 tk_WORDS_2, .str (PySem.Str.ofString "permit") tt_WORDS_2⟩, ⟨hk_WORDS_3, .int 4 tk_WORDS_3, .str (PySem.Str.ofString "end") tt_WORDS_3⟩, ⟨hk_WORDS_4, .int 5 tk_WORDS_4, .str (PySem.Str.ofString "reset") tt_WORDS_4⟩] : List DictEntry), ∃ (i : Int) (t : Tok), e.key = .int i t ∧ e.hash = hashInt i := by
    intro e he
    simp only [List.mem_cons, List.not_mem_nil, or_false] at he
    rcases he with rfl | rfl | rfl | rfl | rfl
    · exact ⟨_, _, rfl, hh_WORDS_0⟩
    · exact ⟨_, _, rfl, hh_WORDS_1⟩
    · exact ⟨_, _, rfl, hh_WORDS_2⟩
    · exact ⟨_, _, rfl, hh_WORDS_3⟩
    · exact ⟨_, _, rfl, hh_WORDS_4⟩
  have F_write_number := fun_mk (st := s_write_number) l_write_number cc_write_number kk_write_number
  have b_write_number := F_write_number.binds (ps := ["number", "size"]) fun _ _ _ _ _ _ us hl => match us, hl with | [_, _], _ => rfl
  have F_read_number := fun_mk (st := s_read_number) l_read_number cc_read_number kk_read_number
  have b_read_number := F_read_number.binds (ps := ["octets"]) fun _ _ _ _ _ _ us hl => match us, hl with | [_], _ => rfl
  have F_write_frame := fun_mk (st := s_write_frame) l_write_frame cc_write_frame kk_write_frame
  have b_write_frame := F_write_frame.binds (ps := ["frame"]) fun _ _ _ _ _ _ us hl => match us, hl with | [_], _ => rfl
  have F_first_frame := fun_mk (st := s_first_frame) l_first_frame cc_first_frame kk_first_frame
  have b_first_frame := F_first_frame.binds (ps := ["octets"]) fun _ _ _ _ _ _ us hl => match us, hl with | [_], _ => rfl
  have F_frame_at := fun_mk (st := s_frame_at) l_frame_at cc_frame_at kk_frame_at
  have b_frame_at := F_frame_at.binds (ps := ["octets", "at"]) fun _ _ _ _ _ _ us hl => match us, hl with | [_, _], _ => rfl
  have F_l_cell := fun_mk (st := s_l_cell) l_l_cell cc_l_cell kk_l_cell
  have b_l_cell := F_l_cell.binds (ps := ["script", "k"]) fun _ _ _ _ _ _ us hl => match us, hl with | [_, _], _ => rfl
  have F_l_is_integer := fun_mk (st := s_l_is_integer) l_l_is_integer cc_l_is_integer kk_l_is_integer
  have b_l_is_integer := F_l_is_integer.binds (ps := ["told"]) fun _ _ _ _ _ _ us hl => match us, hl with | [_], _ => rfl
  have F_l_start := fun_mk (st := s_l_start) l_l_start cc_l_start kk_l_start
  have b_l_start := F_l_start.binds (ps := ["cell", "k"]) fun _ _ _ _ _ _ us hl => match us, hl with | [_, _], _ => rfl
  have F_l_digit := fun_mk (st := s_l_digit) l_l_digit cc_l_digit kk_l_digit
  have b_l_digit := F_l_digit.binds (ps := ["state", "many"]) fun _ _ _ _ _ _ us hl => match us, hl with | [_, _], _ => rfl
  have F_l_frame := fun_mk (st := s_l_frame) l_l_frame cc_l_frame kk_l_frame
  have b_l_frame := F_l_frame.binds (ps := ["state", "many"]) fun _ _ _ _ _ _ us hl => match us, hl with | [_, _], _ => rfl
  have F_l_octets := fun_mk (st := s_l_octets) l_l_octets cc_l_octets kk_l_octets
  have b_l_octets := F_l_octets.binds (ps := ["frame"]) fun _ _ _ _ _ _ us hl => match us, hl with | [_], _ => rfl
  have F_l_copy := fun_mk (st := s_l_copy) l_l_copy cc_l_copy kk_l_copy
  have b_l_copy := F_l_copy.binds (ps := ["frame"]) fun _ _ _ _ _ _ us hl => match us, hl with | [_], _ => rfl
  have F_l_same_octets := fun_mk (st := s_l_same_octets) l_l_same_octets cc_l_same_octets kk_l_same_octets
  have b_l_same_octets := F_l_same_octets.binds (ps := ["told", "due"]) fun _ _ _ _ _ _ us hl => match us, hl with | [_, _], _ => rfl
  have F_l_read := fun_mk (st := s_l_read) l_l_read cc_l_read kk_l_read
  have b_l_read := F_l_read.binds (ps := ["octets"]) fun _ _ _ _ _ _ us hl => match us, hl with | [_], _ => rfl
  have F_l_same := fun_mk (st := s_l_same) l_l_same cc_l_same kk_l_same
  have b_l_same := F_l_same.binds (ps := ["told", "frame", "size"]) fun _ _ _ _ _ _ us hl => match us, hl with | [_, _, _], _ => rfl
  have F_l_holds := fun_mk (st := s_l_holds) l_l_holds cc_l_holds kk_l_holds
  have b_l_holds := F_l_holds.binds (ps := ["frame", "state"]) fun _ _ _ _ _ _ us hl => match us, hl with | [_, _], _ => rfl
  have F_law := fun_mk (st := s_law) l_law cc_law kk_law
  have b_law := F_law.binds (ps := ["script"]) fun _ _ _ _ _ _ us hl => match us, hl with | [_], _ => rfl
  let T : Txt w K mg := { t_KINDS := t_KINDS, de_KINDS := _, dn_KINDS := _, t_HEAD := t_HEAD, t_LONG_HEAD := t_LONG_HEAD, t_WORDS := t_WORDS, de_WORDS := _, dn_WORDS := _, C_ThroughlineError := C_ThroughlineError, C_InvalidAmount := C_InvalidAmount, C_InvalidFrame := C_InvalidFrame, f_write_number := f_write_number, d_write_number := _, f_read_number := f_read_number, d_read_number := _, f_write_frame := f_write_frame, d_write_frame := _, f_first_frame := f_first_frame, d_first_frame := _, f_frame_at := f_frame_at, d_frame_at := _, f_l_cell := f_l_cell, d_l_cell := _, f_l_is_integer := f_l_is_integer, d_l_is_integer := _, f_l_start := f_l_start, d_l_start := _, f_l_digit := f_l_digit, d_l_digit := _, f_l_frame := f_l_frame, d_l_frame := _, f_l_octets := f_l_octets, d_l_octets := _, f_l_copy := f_l_copy, d_l_copy := _, f_l_same_octets := f_l_same_octets, d_l_same_octets := _, f_l_read := f_l_read, d_l_read := _, f_l_same := f_l_same, d_l_same := _, f_l_holds := f_l_holds, d_l_holds := _, f_law := f_law, d_law := _, v_KINDS := PySem.W.mg_of X G v_KINDS, kd_KINDS := ⟨dk_KINDS, lit_KINDS, low_KINDS⟩, ik_KINDS_open := ⟨.int 1 tt_KINDS_0, ns_entry dk_KINDS (by kernel_rfl), ⟨tt_KINDS_0, rfl⟩⟩, ik_KINDS_octets := ⟨.int 2 tt_KINDS_1, ns_entry dk_KINDS (by kernel_rfl), ⟨tt_KINDS_1, rfl⟩⟩, ik_KINDS_permit := ⟨.int 3 tt_KINDS_2, ns_entry dk_KINDS (by kernel_rfl), ⟨tt_KINDS_2, rfl⟩⟩, ik_KINDS_end := ⟨.int 4 tt_KINDS_3, ns_entry dk_KINDS (by kernel_rfl), ⟨tt_KINDS_3, rfl⟩⟩, ik_KINDS_reset := ⟨.int 5 tt_KINDS_4, ns_entry dk_KINDS (by kernel_rfl), ⟨tt_KINDS_4, rfl⟩⟩, nk_KINDS := fun z hz => ns_out dk_KINDS rfl hz, v_HEAD := PySem.W.mg_of X G v_HEAD, v_LONG_HEAD := PySem.W.mg_of X G v_LONG_HEAD, v_WORDS := PySem.W.mg_of X G v_WORDS, kd_WORDS := ⟨dk_WORDS, lit_WORDS, low_WORDS⟩, ik_WORDS_1 := ⟨.str (PySem.Str.ofString "open") tt_WORDS_0, fI_entry (by kernel_rfl), ⟨tt_WORDS_0, rfl⟩⟩, ik_WORDS_2 := ⟨.str (PySem.Str.ofString "octets") tt_WORDS_1, fI_entry (by kernel_rfl), ⟨tt_WORDS_1, rfl⟩⟩, ik_WORDS_3 := ⟨.str (PySem.Str.ofString "permit") tt_WORDS_2, fI_entry (by kernel_rfl), ⟨tt_WORDS_2, rfl⟩⟩, ik_WORDS_4 := ⟨.str (PySem.Str.ofString "end") tt_WORDS_3, fI_entry (by kernel_rfl), ⟨tt_WORDS_3, rfl⟩⟩, ik_WORDS_5 := ⟨.str (PySem.Str.ofString "reset") tt_WORDS_4, fI_entry (by kernel_rfl), ⟨tt_WORDS_4, rfl⟩⟩, nk_WORDS := fun z hz => fI_out rfl hz, c_ThroughlineError := PySem.W.mg_of X G c_ThroughlineError, c_InvalidAmount := PySem.W.mg_of X G c_InvalidAmount, c_InvalidFrame := PySem.W.mg_of X G c_InvalidFrame, xP_InvalidFrame := xP_InvalidFrame, ke_InvalidFrame := ke_InvalidFrame, be_InvalidFrame := be_InvalidFrame, te_InvalidFrame := te_InvalidFrame, xc_InvalidFrame := ⟨xg_InvalidFrame, xk_InvalidFrame, be_InvalidFrame, hd_InvalidFrame, xa_InvalidFrame, hn_all, ht_all, xm_InvalidFrame⟩, em_InvalidFrame_InvalidFrame := PySem.W.exm_ref be_InvalidFrame hd_InvalidFrame te_InvalidFrame su_InvalidFrame_InvalidFrame, ko_InvalidFrame_ThroughlineError := kit_refT ic_ThroughlineError te_ThroughlineError su_InvalidFrame_ThroughlineError, ko_InvalidFrame_InvalidAmount := kit_refF ic_InvalidAmount te_InvalidAmount su_InvalidFrame_InvalidAmount sr_InvalidFrame, F_write_number := F_write_number, b_write_number := b_write_number, m_write_number := PySem.W.mg_of X G a_write_number, F_read_number := F_read_number, b_read_number := b_read_number, m_read_number := PySem.W.mg_of X G a_read_number, F_write_frame := F_write_frame, b_write_frame := b_write_frame, m_write_frame := PySem.W.mg_of X G a_write_frame, F_first_frame := F_first_frame, b_first_frame := b_first_frame, m_first_frame := PySem.W.mg_of X G a_first_frame, F_frame_at := F_frame_at, b_frame_at := b_frame_at, m_frame_at := PySem.W.mg_of X G a_frame_at, F_l_cell := F_l_cell, b_l_cell := b_l_cell, m_l_cell := PySem.W.mg_of X G a_l_cell, F_l_is_integer := F_l_is_integer, b_l_is_integer := b_l_is_integer, m_l_is_integer := PySem.W.mg_of X G a_l_is_integer, F_l_start := F_l_start, b_l_start := b_l_start, m_l_start := PySem.W.mg_of X G a_l_start, F_l_digit := F_l_digit, b_l_digit := b_l_digit, m_l_digit := PySem.W.mg_of X G a_l_digit, F_l_frame := F_l_frame, b_l_frame := b_l_frame, m_l_frame := PySem.W.mg_of X G a_l_frame, F_l_octets := F_l_octets, b_l_octets := b_l_octets, m_l_octets := PySem.W.mg_of X G a_l_octets, F_l_copy := F_l_copy, b_l_copy := b_l_copy, m_l_copy := PySem.W.mg_of X G a_l_copy, F_l_same_octets := F_l_same_octets, b_l_same_octets := b_l_same_octets, m_l_same_octets := PySem.W.mg_of X G a_l_same_octets, F_l_read := F_l_read, b_l_read := b_l_read, m_l_read := PySem.W.mg_of X G a_l_read, F_l_same := F_l_same, b_l_same := b_l_same, m_l_same := PySem.W.mg_of X G a_l_same, F_l_holds := F_l_holds, b_l_holds := b_l_holds, m_l_holds := PySem.W.mg_of X G a_l_holds, F_law := F_law, b_law := b_law, m_law := PySem.W.mg_of X G a_law, n_bool := PySem.W.mg_none_of X G z_bool, n_int := PySem.W.mg_none_of X G z_int, n_isinstance := PySem.W.mg_none_of X G z_isinstance, n_len := PySem.W.mg_none_of X G z_len, n_list := PySem.W.mg_none_of X G z_list, n_max := PySem.W.mg_none_of X G z_max, n_min := PySem.W.mg_none_of X G z_min, n_range := PySem.W.mg_none_of X G z_range, n_reversed := PySem.W.mg_none_of X G z_reversed, n_tuple := PySem.W.mg_none_of X G z_tuple }
  exact ⟨PySem.W.fnOf "law" "law" (defArgs s_law) (defBody s_law) (defScope s_law) .none kV_law dc_law pm_law an_law cd_law ct_law, fun s v => .of_eq rfl, fun base _ _ => ok_law T⟩
theorem walk {l : PySem.W.OpenLaw} {q : Program} {loose : List Str} {XP : (Str → Option Value) → Heap → Prop} {YP : World → Heap → Prop} {d : DefRec} {K : Params → PySem.W.Frag} (hn : l.most = some 63) (hdf : d.params.defaults = [])
    (hY : ∀ (w : World) (h : Heap), YP w h → (K w.params).In h)
    (F : ∀ (w : World) (mg : Str → Option Value) (fa : Addr) (h : Heap), (K w.params).In h → h.Ns mainGlobals mg → mg d.name = some (.ref fa) →
      ∃ fd : FuncData, (∀ (s : Shared) (u : Value), BindsTo s fd ⟨[u], []⟩ [("script", u)]) ∧ ∀ base : Heap, (K w.params).In base → base.Ns mainGlobals mg → FnOk l.prog w (K w.params) mg base CX0 6 fa fd ["script"] (sp_law (K w.params))) :
    PySem.W.WalkO q loose XP YP l.row.toRowW d [] (fun f vs => PySem.call f vs) :=
  L2.walk_of (n := 63) (k := 6) (x := "script") (CX := fun _ => CX0) (sp := fun w => sp_law (K w.params)) hn (by decide) hdf ⟨rfl, by decide, by decide⟩ hY F (fun _ _ a ns hl _ hS => ⟨a, ns, rfl, hS, hl, fun _ => rfl⟩) fun _ _ _ _ _ z => z
end My
open PySem PySem.W PyProof.Rows
set_option maxRecDepth 100000 in
set_option maxHeartbeats 0 in
theorem PySem.Challenge.cw_throughline_k49_frames_holds : PySem.Challenge.rw_throughline_k49_frames.Holds := by
  w_on; o_law; k_head; (case hw => w_witness2)
  k_fill
  refine My.walk (l := PySem.Challenge.rw_throughline_k49_frames) rfl rfl (fun w h Y => PySem.W.kIn_of Y) ?F
  case F =>
    intro w mg fa h KX G hmg
    refine' My.all_mk KX G hmg ?v_KINDS ?dk_KINDS ?lit_KINDS ?low_KINDS ?v_HEAD ?v_LONG_HEAD ?v_WORDS ?dk_WORDS ?hh_WORDS_0 ?hh_WORDS_1 ?hh_WORDS_2 ?hh_WORDS_3 ?hh_WORDS_4 ?low_WORDS ?c_ThroughlineError ?be_ThroughlineError ?te_ThroughlineError ?hd_ThroughlineError ?ic_ThroughlineError ?c_InvalidAmount ?be_InvalidAmount ?te_InvalidAmount ?hd_InvalidAmount ?ic_InvalidAmount ?c_InvalidFrame ?be_InvalidFrame ?te_InvalidFrame ?hd_InvalidFrame ?ic_InvalidFrame ?xP_InvalidFrame ?ke_InvalidFrame ?xg_InvalidFrame ?xk_InvalidFrame ?xa_InvalidFrame ?xm_InvalidFrame ?hn_all ?ht_all ?su_InvalidFrame_InvalidFrame ?su_InvalidFrame_ThroughlineError ?su_InvalidFrame_InvalidAmount ?sr_InvalidFrame ?a_write_number ?l_write_number ?cc_write_number ?kk_write_number ?a_read_number ?l_read_number ?cc_read_number ?kk_read_number ?a_write_frame ?l_write_frame ?cc_write_frame ?kk_write_frame ?a_first_frame ?l_first_frame ?cc_first_frame ?kk_first_frame ?a_frame_at ?l_frame_at ?cc_frame_at ?kk_frame_at ?a_l_cell ?l_l_cell ?cc_l_cell ?kk_l_cell ?a_l_is_integer ?l_l_is_integer ?cc_l_is_integer ?kk_l_is_integer ?a_l_start ?l_l_start ?cc_l_start ?kk_l_start ?a_l_digit ?l_l_digit ?cc_l_digit ?kk_l_digit ?a_l_frame ?l_l_frame ?cc_l_frame ?kk_l_frame ?a_l_octets ?l_l_octets ?cc_l_octets ?kk_l_octets ?a_l_copy ?l_l_copy ?cc_l_copy ?kk_l_copy ?a_l_same_octets ?l_l_same_octets ?cc_l_same_octets ?kk_l_same_octets ?a_l_read ?l_l_read ?cc_l_read ?kk_l_read ?a_l_same ?l_l_same ?cc_l_same ?kk_l_same ?a_l_holds ?l_l_holds ?cc_l_holds ?kk_l_holds ?a_law ?l_law ?cc_law ?kk_law ?z_bool ?z_int ?z_isinstance ?z_len ?z_list ?z_max ?z_min ?z_range ?z_reversed ?z_tuple
    (case v_KINDS => k_is)
    (case dk_KINDS => k_is)
    (case lit_KINDS => exact ⟨⟨_, _, rfl, rfl⟩, ⟨_, _, rfl, rfl⟩, ⟨_, _, rfl, rfl⟩, ⟨_, _, rfl, rfl⟩, ⟨_, _, rfl, rfl⟩, trivial⟩)
    (case low_KINDS => first | rfl | decide)
    (case v_HEAD => k_is)
    (case v_LONG_HEAD => k_is)
    (case v_WORDS => k_is)
    (case dk_WORDS => k_is)
    (case hh_WORDS_0 => first | rfl | decide +kernel)
    (case hh_WORDS_1 => first | rfl | decide +kernel)
    (case hh_WORDS_2 => first | rfl | decide +kernel)
    (case hh_WORDS_3 => first | rfl | decide +kernel)
    (case hh_WORDS_4 => first | rfl | decide +kernel)
    (case low_WORDS => first | rfl | decide)
    (case c_ThroughlineError => k_is)
    (case be_ThroughlineError => k_is)
    (case te_ThroughlineError => k_is)
    (case hd_ThroughlineError => k_is)
    (case ic_ThroughlineError => k_is)
    (case c_InvalidAmount => k_is)
    (case be_InvalidAmount => k_is)
    (case te_InvalidAmount => k_is)
    (case hd_InvalidAmount => k_is)
    (case ic_InvalidAmount => k_is)
    (case c_InvalidFrame => k_is)
    (case be_InvalidFrame => k_is)
    (case te_InvalidFrame => k_is)
    (case hd_InvalidFrame => k_is)
    (case ic_InvalidFrame => k_is)
    (case xP_InvalidFrame => k_exc)
    (case ke_InvalidFrame => k_is)
    (case xg_InvalidFrame => k_is)
    (case xk_InvalidFrame => k_is)
    (case xa_InvalidFrame => k_is)
    (case xm_InvalidFrame => k_is)
    (case hn_all => k_is)
    (case ht_all => k_is)
    (case su_InvalidFrame_InvalidFrame => first | k_is | rfl)
    (case su_InvalidFrame_ThroughlineError => first | k_is | rfl)
    (case su_InvalidFrame_InvalidAmount => first | k_is | rfl)
    (case sr_InvalidFrame => first | rfl | k_is)
    (case a_write_number => k_is)
    (case l_write_number => k_is)
    (case cc_write_number => k_is)
    (case kk_write_number => k_is)
    (case a_read_number => k_is)
    (case l_read_number => k_is)
    (case cc_read_number => k_is)
    (case kk_read_number => k_is)
    (case a_write_frame => k_is)
    (case l_write_frame => k_is)
    (case cc_write_frame => k_is)
    (case kk_write_frame => k_is)
    (case a_first_frame => k_is)
    (case l_first_frame => k_is)
    (case cc_first_frame => k_is)
    (case kk_first_frame => k_is)
    (case a_frame_at => k_is)
    (case l_frame_at => k_is)
    (case cc_frame_at => k_is)
    (case kk_frame_at => k_is)
    (case a_l_cell => k_is)
    (case l_l_cell => k_is)
    (case cc_l_cell => k_is)
    (case kk_l_cell => k_is)
    (case a_l_is_integer => k_is)
    (case l_l_is_integer => k_is)
    (case cc_l_is_integer => k_is)
    (case kk_l_is_integer => k_is)
    (case a_l_start => k_is)
    (case l_l_start => k_is)
    (case cc_l_start => k_is)
    (case kk_l_start => k_is)
    (case a_l_digit => k_is)
    (case l_l_digit => k_is)
    (case cc_l_digit => k_is)
    (case kk_l_digit => k_is)
    (case a_l_frame => k_is)
    (case l_l_frame => k_is)
    (case cc_l_frame => k_is)
    (case kk_l_frame => k_is)
    (case a_l_octets => k_is)
    (case l_l_octets => k_is)
    (case cc_l_octets => k_is)
    (case kk_l_octets => k_is)
    (case a_l_copy => k_is)
    (case l_l_copy => k_is)
    (case cc_l_copy => k_is)
    (case kk_l_copy => k_is)
    (case a_l_same_octets => k_is)
    (case l_l_same_octets => k_is)
    (case cc_l_same_octets => k_is)
    (case kk_l_same_octets => k_is)
    (case a_l_read => k_is)
    (case l_l_read => k_is)
    (case cc_l_read => k_is)
    (case kk_l_read => k_is)
    (case a_l_same => k_is)
    (case l_l_same => k_is)
    (case cc_l_same => k_is)
    (case kk_l_same => k_is)
    (case a_l_holds => k_is)
    (case l_l_holds => k_is)
    (case cc_l_holds => k_is)
    (case kk_l_holds => k_is)
    (case a_law => k_is)
    (case l_law => k_is)
    (case cc_law => k_is)
    (case kk_law => k_is)
    (case z_bool => k_is)
    (case z_int => k_is)
    (case z_isinstance => k_is)
    (case z_len => k_is)
    (case z_list => k_is)
    (case z_max => k_is)
    (case z_min => k_is)
    (case z_range => k_is)
    (case z_reversed => k_is)
    (case z_tuple => k_is)
#print axioms PySem.Challenge.cw_throughline_k49_frames_holds

