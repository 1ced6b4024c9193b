
import PyProof.Rows.All
import Wide.All
import OpenK.AllK
import Wide.FinOn
import HandS.ForMost
import HandS.TupAny
import HandS.Deep
import HandS.IsInst
import HandS.Style
import HandS.Steps
import HandS.Evl
import HandS.Defaults
import HandS.MakeKwOnly
import PySem.Challenge.RW_vaultbridge_k00_sets
set_option Elab.async false
set_option linter.all false
set_option maxRecDepth 100000
set_option maxHeartbeats 1000000
namespace Pf
open PySem PySem.Spec PyProof.Rows L2

/-! readings, one step a lemma -/
section
open PySem PySem.Spec PyProof.Rows L2
variable {K : PySem.W.Frag} {σ : L2.St} {H H1 H' : Hp} {Q : VK} {D : Ends} {t u : TS} {ta tb tc te : TE} {tt tu : TT} {tr : TA} {g : TG} {v x y : V} {i j : Int} {a b p l : Addr} {xs ys : List V} {o : HO}

/-! heaps -/
theorem upd_new {c : Addr} {w : HO} (hb : H b = none) (h : H c = some o) : upd H b w c = some o := by
  rw [upd_ne (ne_of_none h hb)]; exact h
theorem upd_other {c : Addr} {w : HO} (hb : c ≠ b) (h : H c = some o) : upd H b w c = some o := by
  rw [upd_ne hb]; exact h
theorem upd_free {c : Addr} {w : HO} (hb : c ≠ b) (h : H c = none) : upd H b w c = none := by
  rw [upd_ne hb]; exact h
theorem upd_none_ne {c : Addr} {w : HO} (h : upd H b w c = none) : c ≠ b := fun e => by rw [e, upd_same] at h; cases h
theorem upd_none_back {c : Addr} {w : HO} (h : upd H b w c = none) : H c = none := by rw [upd_ne (upd_none_ne h)] at h; exact h
/-- everything but p stays -/
def Kp (p : Addr) (H H' : Hp) : Prop := ∀ b o, H b = some o → b ≠ p → H' b = some o
theorem Kp.get {c : Addr} (k : Kp p H H') (h : H c = some o) (n : c ≠ p) : H' c = some o := k c o h n
theorem Kp.refl : Kp p H H := fun _ _ h _ => h
theorem Kp.trans (k : Kp p H H1) (k2 : Kp p H1 H') : Kp p H H' := fun b o h n => k2 b o (k b o h n) n
theorem Kp.upd {w : HO} (k : Kp p H H') : Kp p H (upd H' p w) := fun b o h n => upd_other n (k b o h n)
theorem Kp.new {w : HO} (k : Kp p H H') (h : H a = none) : Kp p H (L2.upd H' a w) := fun b o hb n => upd_other (ne_of_none hb h) (k b o hb n)
theorem Kp.fresh (k : Kp p H H') (hp : H p = some o) (h : H' a = none) (n : a ≠ p) : H a = none := by
  cases q : H a with
  | none => rfl
  | some w => rw [k a w q n] at h; cases h
theorem Same.get {c : Addr} (k : Same H H') (h : H c = some o) : H' c = some o := k c o h
theorem Same.new {w : HO} (k : Same H H') (h : H a = none) : Same H (L2.upd H' a w) := fun b o hb => upd_other (ne_of_none hb h) (k b o hb)
theorem Same.up {w : HO} (k : Same H H') (h : H' a = none) : Same H (L2.upd H' a w) := Same.new k (Same.free k h)
theorem Same.kp (k : Same H H') : Kp p H H' := fun b o h _ => k b o h
theorem sqL (h : H a = some (.lst xs)) : SqL K H a xs := .inl (.inl h)
theorem sqT (h : H a = some (.tup xs)) : SqT K H a xs := .inl (.inl h)

/-- a tuple of the written part -/
def SqTK (K : PySem.W.Frag) (a : Addr) (xs : List V) : Prop := ∃ (o : Obj) (its : Array Value) (n : Nat), K.lookup a = some o ∧ o.cls = .type "tuple" ∧ o.data = .seq its n ∧ its.size ≤ sizeLine ∧ Vals xs its.toList
theorem SqTK.sq {xs : List V} (h : SqTK K a xs) : SqT K H a xs := .inr h
def relB : V → Value → Bool
  | .str x, .str z _ => decide (x = z)
  | .int i, .int k _ => decide (i = k)
  | _, _ => false
theorem relB_rel : ∀ {x : V} {u : Value}, relB x u = true → RelV x u := by
  intro x u h
  cases x <;> cases u <;> first | (cases h; done) | skip
  · have e := of_decide_eq_true h
    subst e
    exact ⟨_, rfl⟩
  · have e := of_decide_eq_true h
    subst e
    exact ⟨_, rfl⟩
def ValsB : List V → List Value → Bool
  | [], [] => true
  | x :: xs, u :: us => relB x u && ValsB xs us
  | _, _ => false
theorem ValsB.vals : ∀ {xs : List V} {us : List Value}, ValsB xs us = true → Vals xs us
  | [], [], _ => .nil
  | [], _ :: _, h => by cases h
  | _ :: _, [], h => by cases h
  | x :: xs, u :: us, h => by
    have h : (relB x u && ValsB xs us) = true := h
    rw [Bool.and_eq_true] at h
    exact .cons (relB_rel h.1) (ValsB.vals h.2)
theorem ValsB.size {xs : List V} {its : Array Value} (h : ValsB xs its.toList = true) (hl : xs.length ≤ sizeLine) : its.size ≤ sizeLine := by
  have e := (ValsB.vals h).length
  have : its.toList.length = its.size := rfl
  omega
theorem hr65 {A : Around} {k : Nat} (hr : Room k A) : A.units + 65 < cLine := by have := hr.un; omega
theorem Same.sqT {xs : List V} (e : Same H H') (h : SqT K H a xs) : SqT K H' a xs := by
  rcases h with (h | ⟨o, h⟩) | h
  · exact .inl (.inl (e _ _ h))
  · exact .inl (.inr ⟨o, e _ _ h⟩)
  · exact .inr h
/-! statements -/
theorem q_seq (h : t { D with nx := u D } σ H) : tSeq t u D σ H := h
theorem q_next (h : D.nx σ H) : tNext D σ H := h
theorem q_brk (h : D.bk σ H) : tBreak D σ H := h
theorem q_ct (h : D.ct σ H) : tCont D σ H := h
theorem q_nx {f : L2.St → Hp → Prop} {r : VK} {b c : L2.St → Hp → Prop} (h : f σ H) : Ends.nx ⟨f, r, b, c⟩ σ H := h
theorem q_bk {f : L2.St → Hp → Prop} {r : VK} {b c : L2.St → Hp → Prop} (h : b σ H) : Ends.bk ⟨f, r, b, c⟩ σ H := h
theorem q_cn {f : L2.St → Hp → Prop} {r : VK} {b c : L2.St → Hp → Prop} (h : c σ H) : Ends.ct ⟨f, r, b, c⟩ σ H := h
theorem q_rt {f : L2.St → Hp → Prop} {r : VK} {b c : L2.St → Hp → Prop} (h : r v H) : Ends.rt ⟨f, r, b, c⟩ v H := h
theorem q_drop (h : te σ H fun _ H1 => D.nx σ H1) : tDrop te D σ H := h
theorem q_ret (h : te σ H D.rt) : tRet te D σ H := h
theorem q_retN (h : D.rt .non H) : tRetN D σ H := h
def ifK (D : Ends) (t u : TS) (σ : L2.St) : Bool → Hp → Prop := fun b H => if b = true then t D σ H else u D σ H
theorem q_ifS (h : tt σ H (ifK D t u σ)) : tIfS tt t u D σ H := h
theorem q_ifT (h : t D σ H) : ifK D t u σ true H := iteT h
theorem q_ifF (h : u D σ H) : ifK D t u σ false H := iteF h
theorem q_if2 {c : Bool} (h : c = true → t D σ H) (h2 : c = false → u D σ H) : ifK D t u σ c H := by
  cases c with
  | true => exact iteT (h rfl)
  | false => exact iteF (h2 rfl)
theorem q_asg (h : te σ H fun x H1 => g x σ H1 D.nx) : tAsg te g D σ H := h
theorem q_gName {n : Nat} {R : L2.St → Hp → Prop} (h : R (σ.set n (some v)) H) : gName n v σ H R := h
theorem q_gTup {n : Nat} {tg : TGs} {R : L2.St → Hp → Prop} (h : SqT K H a xs) (hn : xs.length = n) (k : tg xs σ H R) : gTup K n tg (.ref a) σ H R := ⟨a, xs, rfl, h, hn, k⟩
theorem q_gCons {tg : TGs} {R : L2.St → Hp → Prop} (k : g v σ H fun σ' H' => tg xs σ' H' R) : gCons g tg (v :: xs) σ H R := ⟨v, xs, rfl, k⟩
theorem q_gNil {R : L2.St → Hp → Prop} (k : R σ H) : gNil [] σ H R := ⟨rfl, k⟩
theorem q_gSub {to ti : TE} {ts : TSet} {R : L2.St → Hp → Prop} (k : to σ H fun o H1 => ti σ H1 fun i H2 => ts o i v H2 fun H3 => R σ H3) : gSub to ti ts v σ H R := k
theorem q_setL {R : Hp → Prop} {n : Nat} (h : H p = some (.lst xs)) (hi : ixN xs.length i = some n) (k : R (upd H p (.lst (xs.set n v)))) : rSetL (.ref p) (.int i) v H R := ⟨p, xs, i, n, rfl, rfl, h, hi, k⟩
theorem q_aug {n : Nat} {ti : TIp} (hx : σ[n]? = some (some x)) (h : te σ H fun y H1 => ti x y H1 fun z H2 => D.nx (σ.set n (some z)) H2) : tAug n te ti D σ H := ⟨x, hx, h⟩
theorem q_ipI {f : Int → Int → Int} (k : Q (.int (f i j)) H) : ipI f (.int i) (.int j) H Q := ⟨i, j, rfl, rfl, k⟩
theorem q_cut {Mid : L2.St → Hp → Prop} (h : t { D with nx := Mid } σ H) (k : ∀ σ' H', Mid σ' H' → u D σ' H') : Evl.tCut t u D σ H := ⟨Mid, h, k⟩
theorem dec_t {c : Prop} [Decidable c] (h : decide c = true) : c := of_decide_eq_true h
theorem dec_f {c : Prop} [Decidable c] (h : decide c = false) : ¬ c := of_decide_eq_false h
theorem ndec_t {c : Prop} [Decidable c] (h : (!decide c) = true) : ¬ c := fun q => by rw [decide_eq_true q] at h; cases h
theorem ndec_f {c : Prop} [Decidable c] (h : (!decide c) = false) : c := by
  by_cases q : c
  · exact q
  · rw [decide_eq_false q] at h; cases h
def forK (g : TG) (tb : TS) (D : Ends) (σ : L2.St) : It → Hp → Prop := fun J H1 => ∃ W : Nat → Nat → L2.St → Hp → Prop, (∃ m, W 0 m σ H1) ∧ ∀ i m σ H, W i m σ H →
  (J.stop i H ∧ D.nx σ H) ∨ (J.go i H ∧ ∃ N : L2.St → Hp → Prop, (∀ σ' H', N σ' H' → ∃ m', m' < m ∧ W (i + 1) m' σ' H') ∧ ∀ x H', J.yld i H x H' → g x σ H' fun σ2 H2 => tb { D with nx := N, ct := N, bk := D.nx } σ2 H2)
theorem q_for {wi : TI} (h : wi σ H (forK g t D σ)) : tFor wi g t D σ H := h
theorem q_iList {R : It → Hp → Prop} (h : te σ H fun x H1 => ∃ a, x = .ref a ∧ (∃ xs, SqL K H1 a xs) ∧ R (Itl K a) H1) : iList K te σ H R := h
theorem q_iTup {R : It → Hp → Prop} (h : te σ H fun x H1 => ∃ a, x = .ref a ∧ (∃ xs, SqT K H1 a xs) ∧ R (Itt K a) H1) : iTup K te σ H R := h
theorem q_forL {S : List V} (h : SqL K H a S) (Pv : Nat → L2.St → Hp → Prop) (h0 : Pv 0 σ H) (hl : ∀ i σ H, i ≤ S.length → Pv i σ H → SqL K H a S)
    (hs : ∀ i x σ H, S[i]? = some x → Pv i σ H → g x σ H fun σ2 H2 => t { D with nx := Pv (i + 1), ct := Pv (i + 1), bk := D.nx } σ2 H2) (hd : ∀ σ H, Pv S.length σ H → D.nx σ H) :
    ∃ b, V.ref a = .ref b ∧ (∃ xs, SqL K H b xs) ∧ forK g t D σ (Itl K b) H := ⟨a, rfl, ⟨S, h⟩, for_list Pv h0 hl hs hd⟩
theorem q_forT {S : List V} (h : SqT K H a S) (Pv : Nat → L2.St → Hp → Prop) (h0 : Pv 0 σ H) (hl : ∀ i σ H, i ≤ S.length → Pv i σ H → SqT K H a S)
    (hs : ∀ i x σ H, S[i]? = some x → Pv i σ H → g x σ H fun σ2 H2 => t { D with nx := Pv (i + 1), ct := Pv (i + 1), bk := D.nx } σ2 H2) (hd : ∀ σ H, Pv S.length σ H → D.nx σ H) :
    ∃ b, V.ref a = .ref b ∧ (∃ xs, SqT K H b xs) ∧ forK g t D σ (Itt K b) H := ⟨a, rfl, ⟨S, h⟩, for_tup Pv h0 hl hs hd⟩
def rg1K (R : It → Hp → Prop) : List V → Hp → Prop := fun vs H1 => ∃ j : Int, vs = [.int j] ∧ -(2 ^ 62) ≤ j ∧ j < 2 ^ 62 ∧ R (Itr 0 j.toNat) H1
theorem q_iRng1 {R : It → Hp → Prop} (h : tr σ H (rg1K R)) : iRng1 tr σ H R := h
theorem q_forR (hj : 0 ≤ j ∧ j < 1000000000000000) (Pv : Nat → L2.St → Hp → Prop) (h0 : Pv 0 σ H)
    (hs : ∀ (i : Nat) σ H, (i : Int) < j → Pv i σ H → g (.int i) σ H fun σ2 H2 => t { D with nx := Pv (i + 1), ct := Pv (i + 1), bk := D.nx } σ2 H2) (hd : ∀ σ H, Pv j.toNat σ H → D.nx σ H) :
    rg1K (forK g t D σ) [.int j] H := ⟨j, rfl, by omega, by omega, for_range Pv h0 (fun i σ H hi hp => by have e : (0 : Int) + (i : Int) = (i : Int) := Int.zero_add _; rw [e]; exact hs i σ H (by omega) hp) hd⟩

/-! tests and values -/
def bK (Q : Bool → Hp → Prop) : VK := fun x H => ∃ k, x = .bl k ∧ Q k H
theorem q_test {R : Bool → Hp → Prop} (h : te σ H (bK R)) : tTest te σ H R := h
theorem q_tB {R : Bool → Hp → Prop} (h : te σ H (bK R)) : tB te σ H R := h
theorem q_bK {R : Bool → Hp → Prop} {c : Bool} (k : R c H) : bK R (.bl c) H := ⟨c, rfl, k⟩
def andK (u : TT) (σ : L2.St) (R : Bool → Hp → Prop) : Bool → Hp → Prop := fun c H1 => if c = true then u σ H1 R else R false H1
def orK (u : TT) (σ : L2.St) (R : Bool → Hp → Prop) : Bool → Hp → Prop := fun c H1 => if c = true then R true H1 else u σ H1 R
theorem q_and {R : Bool → Hp → Prop} (h : tt σ H (andK tu σ R)) : tAnd tt tu σ H R := h
theorem q_or {R : Bool → Hp → Prop} (h : tt σ H (orK tu σ R)) : tOr tt tu σ H R := h
theorem q_andT {R : Bool → Hp → Prop} (h : tu σ H R) : andK tu σ R true H := iteT h
theorem q_andF {R : Bool → Hp → Prop} (h : R false H) : andK tu σ R false H := iteF h
theorem q_orT {R : Bool → Hp → Prop} (h : R true H) : orK tu σ R true H := iteT h
theorem q_orF {R : Bool → Hp → Prop} (h : tu σ H R) : orK tu σ R false H := iteF h
theorem q_and2 {R : Bool → Hp → Prop} {c : Bool} (h : c = true → tu σ H R) (h2 : c = false → R false H) : andK tu σ R c H := by
  cases c with
  | true => exact iteT (h rfl)
  | false => exact iteF (h2 rfl)
theorem q_or2 {R : Bool → Hp → Prop} {c : Bool} (h : c = true → R true H) (h2 : c = false → tu σ H R) : orK tu σ R c H := by
  cases c with
  | true => exact iteT (h rfl)
  | false => exact iteF (h2 rfl)
def notK (R : Bool → Hp → Prop) : Bool → Hp → Prop := fun c H1 => R (!c) H1
theorem q_not {R : Bool → Hp → Prop} (h : tt σ H (notK R)) : tNot tt σ H R := h
theorem q_notKT {R : Bool → Hp → Prop} (h : R false H) : notK R true H := h
theorem q_notKF {R : Bool → Hp → Prop} (h : R true H) : notK R false H := h
theorem q_notK {R : Bool → Hp → Prop} {c : Bool} (h : R (!c) H) : notK R c H := h
def andVK (tb : TE) (σ : L2.St) (Q : VK) : VK := fun x H1 => ∃ c, x = .bl c ∧ if c = true then tb σ H1 Q else Q (.bl false) H1
def orVK (tb : TE) (σ : L2.St) (Q : VK) : VK := fun x H1 => ∃ c, x = .bl c ∧ if c = true then Q (.bl true) H1 else tb σ H1 Q
theorem q_andV (h : ta σ H (andVK tb σ Q)) : tAndV ta tb σ H Q := h
theorem q_orV (h : ta σ H (orVK tb σ Q)) : tOrV ta tb σ H Q := h
theorem q_andVT (h : tb σ H Q) : andVK tb σ Q (.bl true) H := ⟨true, rfl, iteT h⟩
theorem q_andVF (h : Q (.bl false) H) : andVK tb σ Q (.bl false) H := ⟨false, rfl, iteF h⟩
theorem q_orVT (h : Q (.bl true) H) : orVK tb σ Q (.bl true) H := ⟨true, rfl, iteT h⟩
theorem q_orVF (h : tb σ H Q) : orVK tb σ Q (.bl false) H := ⟨false, rfl, iteF h⟩
theorem q_andV2 {c : Bool} (h : c = true → tb σ H Q) (h2 : c = false → Q (.bl false) H) : andVK tb σ Q (.bl c) H := by
  cases c with
  | true => exact q_andVT (h rfl)
  | false => exact q_andVF (h2 rfl)
theorem q_orV2 {c : Bool} (h : c = true → Q (.bl true) H) (h2 : c = false → tb σ H Q) : orVK tb σ Q (.bl c) H := by
  cases c with
  | true => exact q_orVT (h rfl)
  | false => exact q_orVF (h2 rfl)
def notVK (Q : VK) : VK := fun x H1 => ∃ c, x = .bl c ∧ Q (.bl (!c)) H1
theorem q_notV (h : ta σ H (notVK Q)) : tNotV ta σ H Q := h
theorem q_notVK {c : Bool} (k : Q (.bl (!c)) H) : notVK Q (.bl c) H := ⟨c, rfl, k⟩
def ifEK (ta tb : TE) (σ : L2.St) (Q : VK) : Bool → Hp → Prop := fun c H1 => if c = true then ta σ H1 Q else tb σ H1 Q
theorem q_ifE (h : tt σ H (ifEK ta tb σ Q)) : tIf tt ta tb σ H Q := h
theorem q_ifET (h : ta σ H Q) : ifEK ta tb σ Q true H := iteT h
theorem q_ifEF (h : tb σ H Q) : ifEK ta tb σ Q false H := iteF h
theorem q_ifE2 {c : Bool} (h : c = true → ta σ H Q) (h2 : c = false → tb σ H Q) : ifEK ta tb σ Q c H := by
  cases c with
  | true => exact iteT (h rfl)
  | false => exact iteF (h2 rfl)
theorem q_yes {R : Bool → Hp → Prop} (k : R true H) : tYes σ H R := k
theorem q_var {n : Nat} (h : σ[n]? = some (some v)) (k : Q v H) : tVar n σ H Q := ⟨v, h, k⟩
theorem q_c (k : Q v H) : tC v σ H Q := k
theorem q_op {r : R2} (h : ta σ H fun x H1 => tb σ H1 fun y H2 => r x y H2 Q) : tOp r ta tb σ H Q := h
theorem q_un {r : V → Hp → VK → Prop} (h : ta σ H fun x H1 => r x H1 Q) : tUn r ta σ H Q := h
theorem q_rU {f : Int → V} (k : Q (f i) H) : rU f (.int i) H Q := ⟨i, rfl, k⟩
theorem q_I0 {f : Int → Int → V} (k : Q (f i j) H) : rI0 f (.int i) (.int j) H Q := ⟨i, j, rfl, rfl, k⟩
theorem q_I {C : Int → Int → Prop} {f : Int → Int → V} (hc : C i j) (k : Q (f i j) H) : rI C f (.int i) (.int j) H Q := ⟨i, j, rfl, rfl, hc, k⟩
theorem q_eq (hs : scal x y = true) (k : Q (.bl (decide (x = y))) H) : rEq x y H Q := ⟨hs, k⟩
theorem q_ne (hs : scal x y = true) (k : Q (.bl (!decide (x = y))) H) : rNe x y H Q := ⟨hs, k⟩
theorem dec_int (i j : Int) : decide (V.int i = V.int j) = decide (i = j) := by
  by_cases h : i = j
  · subst h; simp
  · rw [decide_eq_false h, decide_eq_false (fun e => h (V.int.inj e))]
theorem q_eqI (k : Q (.bl (decide (i = j))) H) : rEq (.int i) (.int j) H Q := ⟨rfl, by rw [dec_int]; exact k⟩
theorem q_neI (k : Q (.bl (!decide (i = j))) H) : rNe (.int i) (.int j) H Q := ⟨rfl, by rw [dec_int]; exact k⟩
theorem dec_str (i j : Str) : decide (V.str i = V.str j) = decide (i = j) := by
  by_cases h : i = j
  · subst h; simp
  · rw [decide_eq_false h, decide_eq_false (fun e => h (V.str.inj e))]
theorem q_eqS {s z : Str} (k : Q (.bl (decide (s = z))) H) : rEq (.str s) (.str z) H Q := ⟨rfl, by rw [dec_str]; exact k⟩
theorem q_neS {s z : Str} (k : Q (.bl (!decide (s = z))) H) : rNe (.str s) (.str z) H Q := ⟨rfl, by rw [dec_str]; exact k⟩
theorem q_ixL (h : SqL K H p xs) (ha : atI xs i = some v) (k : Q v H) : rIxL K (.ref p) (.int i) H Q := ⟨p, xs, i, v, rfl, rfl, h, ha, k⟩
theorem q_ixT (h : SqT K H p xs) (ha : atI xs i = some v) (k : Q v H) : rIxT K (.ref p) (.int i) H Q := ⟨p, xs, i, v, rfl, rfl, h, ha, k⟩
theorem q_ixLt (h : H p = some (.lst xs)) (ha : atI xs i = some v) (k : Q v H) : rIxL K (.ref p) (.int i) H Q := q_ixL (sqL h) ha k
theorem q_ixTt (h : H p = some (.tup xs)) (ha : atI xs i = some v) (k : Q v H) : rIxT K (.ref p) (.int i) H Q := q_ixT (sqT h) ha k
theorem q_ixSL (h : SqL K H p xs) (ha : atI xs i = some v) (k : Q v H) : rIx K (.ref p) (.int i) H Q := .inl ⟨p, xs, i, v, rfl, rfl, h, ha, k⟩
theorem q_ixST (h : SqT K H p xs) (ha : atI xs i = some v) (k : Q v H) : rIx K (.ref p) (.int i) H Q := .inr (.inl ⟨p, xs, i, v, rfl, rfl, h, ha, k⟩)
theorem at_int {α : Type} {xs : List α} {i : Int} {x : α} {n : Nat} (e : i = (n : Int)) (h : xs[n]? = some x) : atI xs i = some x := by rw [e]; exact atI_nat h
theorem q_tNil {R : List V → Hp → Prop} (k : R [] H) : tNil σ H R := k
theorem q_tCons {R : List V → Hp → Prop} (h : ta σ H fun x H1 => tr σ H1 fun xs H2 => R (x :: xs) H2) : tCons ta tr σ H R := h
def tupK (Q : VK) : List V → Hp → Prop := fun xs H1 => xs.length ≤ sizeLine ∧ ∀ p, H1 p = none → Q (.ref p) (upd H1 p (.tup xs))
def lstK (Q : VK) : List V → Hp → Prop := fun xs H1 => xs.length ≤ sizeLine ∧ ∀ p, H1 p = none → Q (.ref p) (upd H1 p (.lst xs))
theorem q_tup (h : tr σ H (tupK Q)) : tTup tr σ H Q := h
theorem q_lst (h : tr σ H (lstK Q)) : tLst tr σ H Q := h
theorem q_tupK (hl : xs.length ≤ sizeLine) (k : ∀ p, H p = none → Q (.ref p) (upd H p (.tup xs))) : tupK Q xs H := ⟨hl, k⟩
theorem q_lstK (hl : xs.length ≤ sizeLine) (k : ∀ p, H p = none → Q (.ref p) (upd H p (.lst xs))) : lstK Q xs H := ⟨hl, k⟩
theorem q_cb {r : List V → Hp → VK → Prop} (h : tr σ H fun vs H1 => r vs H1 Q) : tCB r tr σ H Q := h
def callK (sp : Sp) (dvs : List V) (E : XK) (Q : VK) : List V → Hp → Prop := fun vs H1 => sp (vs ++ dvs) H1 Q E
theorem q_call {sp : Sp} {dvs : List V} {E : XK} (h : tr σ H (callK sp dvs E Q)) : tCall sp dvs E tr σ H Q := h
theorem q_callK {sp : Sp} {E : XK} (h : sp xs H Q E) : callK sp [] E Q xs H := by unfold callK; rw [List.append_nil]; exact h

/-! built-ins, by names of our own -/
def rLenQ (K : PySem.W.Frag) : List V → Hp → VK → Prop := fun xs H Q => ∃ p ys, xs = [.ref p] ∧ (SqL K H p ys ∨ SqT K H p ys) ∧ Q (.int ys.length) H
theorem cq_len {X : Cx} : CallR X (.builtin "len") (rLenQ X.K) := call_len_seq
theorem q_lenL (h : SqL K H p xs) (k : Q (.int xs.length) H) : rLenQ K [.ref p] H Q := ⟨p, xs, rfl, .inl h, k⟩
theorem q_lenT (h : SqT K H p xs) (k : Q (.int xs.length) H) : rLenQ K [.ref p] H Q := ⟨p, xs, rfl, .inr h, k⟩
theorem q_lenLt (h : H p = some (.lst xs)) (k : Q (.int xs.length) H) : rLenQ K [.ref p] H Q := q_lenL (sqL h) k
theorem q_lenTt (h : H p = some (.tup xs)) (k : Q (.int xs.length) H) : rLenQ K [.ref p] H Q := q_lenT (sqT h) k
def rLenD : List V → Hp → VK → Prop := fun xs H Q => ∃ a kvs, xs = [V.ref a] ∧ H a = some (.dK kvs) ∧ Q (.int kvs.length) H
def rLenS : List V → Hp → VK → Prop := fun xs H Q => ∃ x : Str, xs = [.str x] ∧ x.length ≤ sizeLine ∧ Q (.int x.length) H
theorem cq_lenS {X : Cx} : CallR X (.builtin "len") rLenS := by
  intro pins s σ H xs us Q I r h
  obtain ⟨x, e, hl, q⟩ := h
  exact call_len pins s σ H xs us Q I r ⟨.str x, x.length, e, ⟨hl, rfl⟩, q⟩
theorem q_lenS {x : Str} (hl : x.length ≤ sizeLine) (k : Q (.int x.length) H) : rLenS [.str x] H Q := ⟨x, rfl, hl, k⟩
def rAbs : List V → Hp → VK → Prop := fun xs H Q => ∃ i, xs = [.int i] ∧ Q (.int (if i < 0 then -i else i)) H
theorem cq_abs {X : Cx} : CallR X (.builtin "abs") rAbs := call_abs
theorem q_abs (k : Q (.int (if i < 0 then -i else i)) H) : rAbs [.int i] H Q := ⟨i, rfl, k⟩
def rInt1 : List V → Hp → VK → Prop := fun xs H Q => (∃ i, xs = [.int i] ∧ Q (.int i) H) ∨ ∃ k, xs = [.bl k] ∧ Q (.int (if k then 1 else 0)) H
theorem cq_int1 {X : Cx} : CallR X (.type "int") rInt1 := call_int1
theorem q_int1 (k : Q (.int i) H) : rInt1 [.int i] H Q := .inl ⟨i, rfl, k⟩
def rStrInt : List V → Hp → VK → Prop := fun xs H Q => ∃ i, xs = [.int i] ∧ i.natAbs.log2 < 1920 ∧ Q (.str (toString i)) H
theorem cq_strInt {X : Cx} : CallR X (.type "str") rStrInt := call_str_int
theorem q_strInt (hb : i.natAbs.log2 < 1920) (k : Q (.str (toString i)) H) : rStrInt [.int i] H Q := ⟨i, rfl, hb, k⟩
def rListOf (K : PySem.W.Frag) : List V → Hp → VK → Prop := fun xs H Q => ∃ p ys, xs = [.ref p] ∧ (SqL K H p ys ∨ SqT K H p ys) ∧ ∀ l, H l = none → Q (.ref l) (upd H l (.lst ys))
theorem cq_listOf {X : Cx} : CallR X (.type "list") (rListOf X.K) := call_list_of
theorem q_listL (h : SqL K H p xs) (k : ∀ l, H l = none → Q (.ref l) (upd H l (.lst xs))) : rListOf K [.ref p] H Q := ⟨p, xs, rfl, .inl h, k⟩
theorem q_listT (h : SqT K H p xs) (k : ∀ l, H l = none → Q (.ref l) (upd H l (.lst xs))) : rListOf K [.ref p] H Q := ⟨p, xs, rfl, .inr h, k⟩
def rTupOf (K : PySem.W.Frag) : List V → Hp → VK → Prop := fun xs H Q => ∃ p ys, xs = [.ref p] ∧ ((SqL K H p ys ∧ ∀ l, H l = none → Q (.ref l) (upd H l (.tup ys))) ∨ (SqT K H p ys ∧ Q (.ref p) H))
theorem cq_tupOf {X : Cx} : CallR X (.type "tuple") (rTupOf X.K) := call_tuple_of
theorem q_tupL (h : SqL K H p xs) (k : ∀ l, H l = none → Q (.ref l) (upd H l (.tup xs))) : rTupOf K [.ref p] H Q := ⟨p, xs, rfl, .inl ⟨h, k⟩⟩
theorem q_sum {ns : List Int} (h : SqL K H a (ns.map V.int)) (k : Q (.int ns.sum) H) : rSum K [.ref a] H Q := ⟨a, ns, rfl, h, k⟩
theorem q_all {bs : List Bool} (h : SqL K H a (bs.map V.bl)) (k : Q (.bl (bs.all id)) H) : rAll K [.ref a] H Q := ⟨a, bs, rfl, h, k⟩
theorem q_any {bs : List Bool} (h : SqL K H a (bs.map V.bl)) (k : Q (.bl (bs.any id)) H) : rAny K [.ref a] H Q := ⟨a, bs, rfl, h, k⟩
def rAddStr : R2 := fun x y H Q => ∃ i j, x = .str i ∧ y = .str j ∧ i.length + j.length ≤ sizeLine ∧ Q (.str (i ++ j)) H
theorem oq_addStr {X : Cx} : OpR X (binaryOp .Add) rAddStr := op_add_str
theorem q_addStr {s z : Str} (hl : s.length + z.length ≤ sizeLine) (k : Q (.str (s ++ z)) H) : rAddStr (.str s) (.str z) H Q := ⟨s, z, rfl, rfl, hl, k⟩
theorem q_isN' (k : Q (.bl (decide (x = .non))) H) : rIsN x .non H Q := ⟨rfl, k⟩
theorem q_notN' (k : Q (.bl (!decide (x = .non))) H) : rNotN x .non H Q := ⟨rfl, k⟩
theorem q_inD {d : PyData} {ds : List PyData} (hd : Dp K H x d) (hy : Dp K H y (.list ds)) (s1 : SeqAt.shaped d = true) (s2 : SeqAt.shaped (.list ds) = true) (k : Q (.bl (ds.any fun z => PyData.eqv z d)) H) : rInD K x y H Q := ⟨d, ds, hd, hy, s1, s2, k⟩
theorem q_notInD {d : PyData} {ds : List PyData} (hd : Dp K H x d) (hy : Dp K H y (.list ds)) (s1 : SeqAt.shaped d = true) (s2 : SeqAt.shaped (.list ds) = true) (k : Q (.bl (!ds.any fun z => PyData.eqv z d)) H) : rNotInD K x y H Q := ⟨d, ds, hd, hy, s1, s2, k⟩
theorem q_ifNT (h : u D σ H) : ifK D t u σ (!true) H := q_ifF h
theorem q_ifNF (h : t D σ H) : ifK D t u σ (!false) H := q_ifT h
theorem q_andNT {R : Bool → Hp → Prop} (h : R false H) : andK tu σ R (!true) H := q_andF h
theorem q_andNF {R : Bool → Hp → Prop} (h : tu σ H R) : andK tu σ R (!false) H := q_andT h
theorem q_orNT {R : Bool → Hp → Prop} (h : tu σ H R) : orK tu σ R (!true) H := q_orF h
theorem q_orNF {R : Bool → Hp → Prop} (h : R true H) : orK tu σ R (!false) H := q_orT h
theorem q_bKNT {R : Bool → Hp → Prop} (h : R false H) : bK R (.bl (!true)) H := q_bK h
theorem q_bKNF {R : Bool → Hp → Prop} (h : R true H) : bK R (.bl (!false)) H := q_bK h
/-! chains, isinstance, texts, dicts -/
def chK2 (r' : R2) (y : V) (tc : TE) (σ : L2.St) (Q : VK) : VK := fun z H3 => ∃ k, z = .bl k ∧ (if k = true then tc σ H3 fun w' H4 => r' y w' H4 Q else Q (.bl false) H3)
theorem q_chain {r r' : R2} (h : ta σ H fun x H1 => tb σ H1 fun y H2 => r x y H2 (chK2 r' y tc σ Q)) : tChain r r' ta tb tc σ H Q := h
theorem q_chT {r' : R2} (h : tc σ H fun w' H4 => r' y w' H4 Q) : chK2 r' y tc σ Q (.bl true) H := ⟨true, rfl, iteT h⟩
theorem q_chF {r' : R2} (h : Q (.bl false) H) : chK2 r' y tc σ Q (.bl false) H := ⟨false, rfl, iteF h⟩
theorem q_ch2 {r' : R2} {c : Bool} (h : c = true → tc σ H fun w' H4 => r' y w' H4 Q) (h2 : c = false → Q (.bl false) H) : chK2 r' y tc σ Q (.bl c) H := by
  cases c with
  | true => exact q_chT (h rfl)
  | false => exact q_chF (h2 rfl)
def rIsiQ (K : PySem.W.Frag) : List V → Hp → VK → Prop := rIsi K
theorem q_isi {n : String} {t : Value} {c : Bool} (ht : TyX K H x t) (hk : PySem.W.kitOne K t (.type n) = some c) (k : Q (.bl c) H) : rIsi K [x, .ty n] H Q := ⟨x, .ty n, t, .type n, c, rfl, .ty n, ht, hk, k⟩
def rOrd : List V → Hp → VK → Prop := fun xs H Q => ∃ x, xs = [.str x] ∧ x.length = 1 ∧ Q (.int (x.cps.getD 0 0 : Nat)) H
theorem cq_ord {X : Cx} : CallR X (.builtin "ord") rOrd := call_ord
theorem q_ord {c : Nat} (k : Q (.int c) H) : rOrd [.str ⟨#[c]⟩] H Q := ⟨_, rfl, rfl, k⟩
theorem q_forS {s : Str} (Pv : Nat → L2.St → Hp → Prop) (h0 : Pv 0 σ H)
    (hs : ∀ i c σ H, s.cps[i]? = some c → Pv i σ H → g (.str ⟨#[c]⟩) σ H fun σ2 H2 => t { D with nx := Pv (i + 1), ct := Pv (i + 1), bk := D.nx } σ2 H2) (hd : ∀ σ H, Pv s.cps.size σ H → D.nx σ H) : forK g t D σ (Its s) H := by
  refine ⟨fun i m σ H => i + m = s.cps.size ∧ Pv i σ H, ⟨s.cps.size, Nat.zero_add _, h0⟩, fun i m σ H hW => ?_⟩
  obtain ⟨e, hp⟩ := hW
  by_cases hi : i < s.cps.size
  · refine .inr ⟨hi, Pv (i + 1), fun σ' H' hN => ⟨m - 1, by omega, by omega, hN⟩, fun x H' hy => ?_⟩
    obtain ⟨rfl, c, hc, rfl⟩ := hy
    exact hs i c σ H' hc hp
  · have e2 : i = s.cps.size := by omega
    subst e2
    exact .inl ⟨Nat.le_refl _, hd σ H hp⟩
theorem q_iStr {s : Str} {R : It → Hp → Prop} (k : R (Its s) H) : ∃ z, V.str s = .str z ∧ R (Its z) H := ⟨s, rfl, k⟩
theorem q_iStr0 {R : It → Hp → Prop} (h : te σ H fun v H1 => ∃ x, v = .str x ∧ R (Its x) H1) : iStr te σ H R := h
def dInK (Q : VK) (y : V) : VK := fun x H2 => ∃ a o, x = .ref a ∧ DGet H2 a y o ∧ Q (.bl o.isSome) H2
def dNInK (Q : VK) (y : V) : VK := fun x H2 => ∃ a o, x = .ref a ∧ DGet H2 a y o ∧ Q (.bl (!o.isSome)) H2
theorem q_tDIn {ty td : TE} (h : ty σ H fun y H1 => td σ H1 (dInK Q y)) : tDIn ty td σ H Q := h
theorem q_tDNotIn {ty td : TE} (h : ty σ H fun y H1 => td σ H1 (dNInK Q y)) : tDNotIn ty td σ H Q := h
theorem q_dInS {kvs : List (Key × V)} {s : Str} (h : H a = some (.dK kvs)) (k : Q (.bl (valV kvs (.inr s)).isSome) H) : dInK Q (.str s) (.ref a) H := ⟨a, _, rfl, DGet.k (k := Sum.inr s) h, k⟩
theorem q_dNInS {kvs : List (Key × V)} {s : Str} (h : H a = some (.dK kvs)) (k : Q (.bl (!(valV kvs (.inr s)).isSome)) H) : dNInK Q (.str s) (.ref a) H := ⟨a, _, rfl, DGet.k (k := Sum.inr s) h, k⟩
theorem q_dInI {kvs : List (Key × V)} (h : H a = some (.dK kvs)) (k : Q (.bl (valV kvs (.inl i)).isSome) H) : dInK Q (.int i) (.ref a) H := ⟨a, _, rfl, DGet.k (k := Sum.inl i) h, k⟩
theorem q_dNInI {kvs : List (Key × V)} (h : H a = some (.dK kvs)) (k : Q (.bl (!(valV kvs (.inl i)).isSome)) H) : dNInK Q (.int i) (.ref a) H := ⟨a, _, rfl, DGet.k (k := Sum.inl i) h, k⟩
def dGetK (Q : VK) (x : V) : VK := fun y H2 => ∃ a v, x = .ref a ∧ DGet H2 a y (some v) ∧ Q v H2
theorem q_tDGet {ty td : TE} (h : td σ H fun x H1 => ty σ H1 (dGetK Q x)) : tDGet td ty σ H Q := h
theorem q_dGetS {kvs : List (Key × V)} {s : Str} (h : H a = some (.dK kvs)) (e : valV kvs (.inr s) = some v) (k : Q v H) : dGetK Q (.ref a) (.str s) H := ⟨a, v, rfl, by rw [← e]; exact DGet.k (k := Sum.inr s) h, k⟩
theorem q_dGetI {kvs : List (Key × V)} (h : H a = some (.dK kvs)) (e : valV kvs (.inl i) = some v) (k : Q v H) : dGetK Q (.ref a) (.int i) H := ⟨a, v, rfl, by rw [← e]; exact DGet.k (k := Sum.inl i) h, k⟩
theorem q_dNew (k : ∀ p, H p = none → Q (.ref p) (upd H p (.dK []))) : tDNewK σ H Q := k
def dPutK (D : Ends) (σ : L2.St) (v x : V) : VK := fun y H3 => ∃ a H4, x = .ref a ∧ DPut H3 a y v H4 ∧ D.nx σ H4
theorem q_sDPut {td ty tv : TE} (h : tv σ H fun v H1 => td σ H1 fun x H2 => ty σ H2 (dPutK D σ v x)) : sDPut td ty tv D σ H := h
theorem q_dPutS {kvs : List (Key × V)} {s : Str} (h : H a = some (.dK kvs)) (hl : kvs.length < sizeLine) (k : D.nx σ (upd H a (.dK (putK kvs (.inr s) v)))) : dPutK D σ v (.ref a) (.str s) H := ⟨a, _, rfl, DPut.k (k := Sum.inr s) h hl, k⟩
theorem q_dPutI {kvs : List (Key × V)} (h : H a = some (.dK kvs)) (hl : kvs.length < sizeLine) (k : D.nx σ (upd H a (.dK (putK kvs (.inl i) v)))) : dPutK D σ v (.ref a) (.int i) H := ⟨a, _, rfl, DPut.k (k := Sum.inl i) h hl, k⟩
def truK (K : PySem.W.Frag) (R : Bool → Hp → Prop) : VK := fun x H' => ∃ k, TruV K x H' k ∧ R k H'
theorem q_tru {R : Bool → Hp → Prop} (h : te σ H (truK K R)) : (fun (σ : L2.St) (H : Hp) (Q : Bool → Hp → Prop) => te σ H fun x H' => ∃ k, TruV K x H' k ∧ Q k H') σ H R := h
theorem q_isBl {c d : Bool} (k : Q (.bl (decide (c = d))) H) : rIsB (.bl c) (.bl d) H Q := ⟨c, d, rfl, rfl, k⟩
theorem q_notBl {c d : Bool} (k : Q (.bl (!decide (c = d))) H) : rNotB (.bl c) (.bl d) H Q := ⟨c, d, rfl, rfl, k⟩
theorem q_inT (h : SqT K H p xs) (hx : flatV x = true) (ha : xs.all flatV = true) (k : Q (.bl (inV x xs)) H) : rIn K false x (.ref p) H Q := ⟨p, xs, rfl, .inr h, hx, ha, k⟩
theorem q_inL (h : SqL K H p xs) (hx : flatV x = true) (ha : xs.all flatV = true) (k : Q (.bl (inV x xs)) H) : rIn K false x (.ref p) H Q := ⟨p, xs, rfl, .inl h, hx, ha, k⟩
theorem q_eqD {d e : PyData} (hd : Dp K H x d) (he : Dp K H y e) (s1 : SeqAt.shaped d = true) (s2 : SeqAt.shaped e = true) (k : Q (.bl (PyData.eqv d e)) H) : rEqD K x y H Q := ⟨d, e, hd, he, s1, s2, k⟩
theorem q_neD {d e : PyData} (hd : Dp K H x d) (he : Dp K H y e) (s1 : SeqAt.shaped d = true) (s2 : SeqAt.shaped e = true) (k : Q (.bl (!PyData.eqv d e)) H) : rNeD K x y H Q := ⟨d, e, hd, he, s1, s2, k⟩
theorem q_catA (h1 : H a = some (.tup xs)) (h2 : H b = some (.tup ys)) (hl : xs.length + ys.length ≤ sizeLine) (k : ∀ p H', Same H H' → H' p = some (.tup (xs ++ ys)) → Q (.ref p) H') : rCatA K (.ref a) (.ref b) H Q := by
  refine ⟨a, b, xs, ys, rfl, rfl, sqT h1, sqT h2, hl, fun e => ?_, fun _ e => ?_, fun _ _ p hp => k p _ (Same.new (Same.refl _) hp) upd_same⟩
  · subst e; exact k b H (Same.refl _) h2
  · subst e; exact k a H (Same.refl _) (by rw [List.append_nil]; exact h1)
theorem q_slA {lo hi : Option Int} (h : H a = some (.tup xs)) (k : ∀ p H', Same H H' → H' p = some (.tup (cutV xs lo hi)) → Q (.ref p) H') : rSlA K (.ref a) lo hi H Q := by
  refine ⟨a, xs, rfl, sqT h, fun e => ?_, fun _ p hp => k p _ (Same.new (Same.refl _) hp) upd_same⟩
  refine k a H (Same.refl _) ?_
  unfold cutV
  rw [e.1, e.2, List.drop_zero, Nat.sub_zero, List.take_length]
  exact h
theorem cut_take {n : Nat} (hn : n ≤ xs.length) : cutV xs none (some (n : Int)) = xs.take n := by
  unfold cutV
  rw [HT.sIx_none, show HT.sIx xs.length xs.length (some (n : Int)) = min n xs.length from HT.sIx_nat xs.length xs.length n, Nat.min_eq_left hn, List.drop_zero, Nat.sub_zero]
theorem cut_drop {n : Nat} (hn : n ≤ xs.length) : cutV xs (some (n : Int)) none = xs.drop n := by
  unfold cutV
  rw [HT.sIx_none, show HT.sIx xs.length 0 (some (n : Int)) = min n xs.length from HT.sIx_nat xs.length 0 n, Nat.min_eq_left hn]
  exact List.take_of_length_le (by rw [List.length_drop]; exact Nat.le_refl _)
theorem q_sl {r : V → Option Int → Option Int → Hp → VK → Prop} {tl th : TO} (h : te σ H fun x H1 => tl σ H1 fun l H2 => th σ H2 fun u H3 => r x l u H3 Q) : tSl r te tl th σ H Q := h
theorem q_noPart {R : Option Int → Hp → Prop} (k : R none H) : tNoPart σ H R := k
def partK (R : Option Int → Hp → Prop) : VK := fun x H1 => ∃ i, x = .int i ∧ R (some i) H1
theorem q_part {R : Option Int → Hp → Prop} (h : te σ H (partK R)) : tPart te σ H R := h
theorem q_partK {R : Option Int → Hp → Prop} (k : R (some i) H) : partK R (.int i) H := ⟨i, rfl, k⟩
/-! a text times a number -/
def repS (s : Str) (n : Int) : Str := ⟨(List.replicate n.toNat s.cps).foldl (· ++ ·) #[]⟩
def mulOk (s : Str) (n : Int) : Bool := decide (2 ≤ n) && decide (n ≤ 1000) && decide (s.length = 1) && decide ((repS s n).length ≤ 1000)
def rMulStr : R2 := fun x y H Q => ∃ s n, x = .str s ∧ y = .int n ∧ mulOk s n = true ∧ Q (.str (repS s n)) H
theorem oq_mulStr {X : Cx} : OpR X (binaryOp .Mult) rMulStr := by
  intro pins s σ H x y v u Q I rx ry h
  obtain ⟨z, n, rfl, rfl, hm, q⟩ := h
  obtain ⟨t, rfl⟩ := rx
  obtain ⟨t', rfl⟩ := ry
  unfold mulOk at hm
  simp only [Bool.and_eq_true, decide_eq_true_eq] at hm
  obtain ⟨⟨⟨h1, h2⟩, h3⟩, h4⟩ := hm
  have e1 : (n == 1 || z.length == 0) = false := by
    rw [h3]
    have : (n == 1) = false := beq_eq_false_iff_ne.mpr (by omega)
    rw [this]
    rfl
  refine PySem.P.mul_str ?_ (fun _ _ => ?_) (fun _ _ => ?_) ?_
  · rw [decide_eq_false (show ¬ n < -(2 ^ 63) by omega), decide_eq_false (show ¬ n ≥ 2 ^ 63 by omega)]
    rfl
  · rw [h3]
    have : (1 : Int) ≤ (2 ^ 63 - 1) / n := Int.le_ediv_of_mul_le (by omega) (by omega)
    exact Int.not_lt.mpr this
  · rw [h3, Nat.one_mul]
    exact decide_eq_false (by
      have : sizeLine = 16777216 := sizeLine_eq
      omega)
  · rw [if_neg (show ¬ n < 1 by omega), if_neg (by rw [e1]; exact Bool.false_ne_true)]
    exact ⟨Nat.le_trans h4 (by decide), .str (repS z n), H, I.tok _, ⟨_, rfl⟩, q⟩
theorem q_mulStr {s : Str} (hm : mulOk s i = true) (k : Q (.str (repS s i)) H) : rMulStr (.str s) (.int i) H Q := ⟨s, i, rfl, rfl, hm, k⟩
/-! methods of lists -/
def bmK (K : PySem.W.Frag) (T : String) (r : V → List V → Hp → VK → Prop) (t : TA) (σ : L2.St) (Q : VK) : VK := fun x H1 => tyV K T x H1 ∧ t σ H1 fun xs H2 => r x xs H2 Q
def bmK0 (K : PySem.W.Frag) (T : String) (r : V → List V → Hp → VK → Prop) (Q : VK) : VK := fun x H1 => tyV K T x H1 ∧ r x [] H1 Q
theorem q_bm {T : String} {r : V → List V → Hp → VK → Prop} (h : te σ H (bmK K T r tr σ Q)) : tBM K T r te tr σ H Q := h
theorem q_bm0 {T : String} {r : V → List V → Hp → VK → Prop} (h : te σ H (bmK0 K T r Q)) : tBM0 K T r te σ H Q := h
theorem q_bmL {r : V → List V → Hp → VK → Prop} (h : H l = some (.lst xs)) (k : tr σ H fun vs H2 => r (.ref l) vs H2 Q) : bmK K "list" r tr σ Q (.ref l) H := ⟨.inl ⟨rfl, xs, sqL h⟩, k⟩
theorem q_bmL0 {r : V → List V → Hp → VK → Prop} (h : H l = some (.lst xs)) (k : r (.ref l) [] H Q) : bmK0 K "list" r Q (.ref l) H := ⟨.inl ⟨rfl, xs, sqL h⟩, k⟩
theorem q_append (h : H l = some (.lst xs)) (hl : xs.length < sizeLine) (k : Q .non (upd H l (.lst (xs ++ [y])))) : rAppend (.ref l) [y] H Q := ⟨l, xs, y, rfl, rfl, h, hl, k⟩
theorem q_popAt {n : Nat} (h : H l = some (.lst xs)) (e : i = (n : Int)) (hn : n < xs.length) (hb : i < 2 ^ 63) (hv : xs[n]? = some v) (k : Q v (upd H l (.lst (xs.eraseIdx n)))) : rPopAt (.ref l) [.int i] H Q := by
  refine ⟨l, xs, i, n, v, rfl, rfl, h, by omega, hb, ?_, hv, k⟩
  subst e
  unfold seqIndex?
  have h1 : ¬ ((n : Int) < 0) := by omega
  have h2 : (n : Int) < (xs.length : Int) := by omega
  have h3 : (0 : Int) ≤ (n : Int) := by omega
  simp [h1, h2, h3]
/-! a walk over a list or a tuple -/
theorem pi_or {X : Cx} {tg e : Expr} {w1 w2 : TI} (h1 : PI X tg e w1) (h2 : PI X tg e w2) : PI X tg e (fun σ H R => w1 σ H R ∨ w2 σ H R) :=
  ⟨fun pins s σ H R I h => h.elim (h1.run pins s σ H R I) (h2.run pins s σ H R I)⟩
def iSeq (K : PySem.W.Frag) (te : TE) : TI := fun σ H R => iList K te σ H R ∨ iTup K te σ H R
theorem pi_seq {X : Cx} {tg e : Expr} {te : TE} (h : PE X e te) : PI X tg e (iSeq X.K te) := pi_or (pi_list h) (pi_tup h)
theorem q_iSeqL {R : It → Hp → Prop} (h : te σ H fun x H1 => ∃ a, x = .ref a ∧ (∃ xs, SqL K H1 a xs) ∧ R (Itl K a) H1) : iSeq K te σ H R := .inl h
theorem q_iSeqT {R : It → Hp → Prop} (h : te σ H fun x H1 => ∃ a, x = .ref a ∧ (∃ xs, SqT K H1 a xs) ∧ R (Itt K a) H1) : iSeq K te σ H R := .inr h
/-! a written dict -/
def pairsK (σ : L2.St) (r : List (TE × TE)) (x : V) (Q : List (V × V) → Hp → Prop) : VK := fun y H2 => tPairs r σ H2 fun ps H3 => Q ((x, y) :: ps) H3
theorem q_pairC {tk tv : TE} {r : List (TE × TE)} {R : List (V × V) → Hp → Prop} (h : tk σ H fun x H1 => tv σ H1 (pairsK σ r x R)) : tPairs ((tk, tv) :: r) σ H R := h
theorem q_pairsK {r : List (TE × TE)} {R : List (V × V) → Hp → Prop} (h : tPairs r σ H fun ps H3 => R ((x, y) :: ps) H3) : pairsK σ r x R y H := h
theorem q_pairN {R : List (V × V) → Hp → Prop} (h : R [] H) : tPairs [] σ H R := h
def dispK (Q : VK) (p : Addr) : List (V × V) → Hp → Prop := fun ps H2 => H2 p = some (.dK []) ∧ ∃ kvs : List (Key × V), ps = kvs.map (fun kv => (kV kv.1, kv.2)) ∧ kvs.length ≤ 15 ∧ Q (.ref p) (upd H2 p (.dK (mergeK [] kvs)))
theorem q_disp {trs : List (TE × TE)} (k : ∀ p, H p = none → tPairs trs σ (upd H p (.dK [])) (dispK Q p)) : tDisp trs σ H Q := k
theorem valV_cons {κ : Type} [DecidableEq κ] {kvs : List (κ × V)} {k k' : κ} {v : V} : valV ((k, v) :: kvs) k' = if k = k' then some v else valV kvs k' := by
  unfold valV
  rw [List.find?_cons]
  by_cases e : k = k'
  · rw [if_pos e, decide_eq_true e]; rfl
  · rw [if_neg e, decide_eq_false e]
theorem valV_nomem {κ : Type} [DecidableEq κ] {kvs : List (κ × V)} {k : κ} (h : k ∉ kvs.map (·.1)) : valV kvs k = none := by
  cases q : valV kvs k with
  | none => rfl
  | some v => exact absurd (valV_in q) h
theorem merge_app : ∀ (kvs acc : List (Key × V)), ((acc ++ kvs).map (·.1)).Nodup → mergeK acc kvs = acc ++ kvs
  | [], acc, _ => by rw [List.append_nil]; rfl
  | (k, v) :: r, acc, h => by
    have hk : k ∉ acc.map (·.1) := by
      rw [List.map_append] at h
      intro m
      exact (List.nodup_append.mp h).2.2 k m k (by simp) rfl
    show mergeK (putK acc k v) r = _
    rw [putK_new v (valV_nomem hk), merge_app r (acc ++ [(k, v)]) (by rw [List.append_assoc]; exact h), List.append_assoc]
    rfl
theorem q_dispK {kvs : List (Key × V)} {ps : List (V × V)} (h : H p = some (.dK [])) (e : ps = kvs.map (fun kv => (kV kv.1, kv.2))) (hl : kvs.length ≤ 15) (hn : (kvs.map (·.1)).Nodup) (k : Q (.ref p) (upd H p (.dK kvs))) : dispK Q p ps H :=
  ⟨h, kvs, e, hl, by rw [merge_app kvs [] hn]; exact k⟩
theorem q_slL {lo hi : Option Int} (h : SqL K H a xs) (k : ∀ p, H p = none → Q (.ref p) (upd H p (.lst (cutV xs lo hi)))) : rSlL K (.ref a) lo hi H Q := ⟨a, xs, rfl, h, k⟩
/-! attributes and methods -/
def fldK (K : PySem.W.Frag) (f : Str) (Q : VK) : VK := fun x H1 => ∃ a C dx fs v, x = .ref a ∧ H1 a = some (.ins C dx fs) ∧ Cls K C ∧ NoAttr K C f ∧ fs.lookup f = some v ∧ Q v H1
theorem q_fld {f : Str} (h : te σ H (fldK K f Q)) : tFld K te f σ H Q := h
theorem q_fldK {f : Str} {C dx : Addr} {fs : List (Str × V)} (h : H a = some (.ins C dx fs)) (hc : Cls K C) (hn : NoAttr K C f) (hl : fs.lookup f = some v) (k : Q v H) : fldK K f Q (.ref a) H := ⟨a, C, dx, fs, v, rfl, h, hc, hn, hl, k⟩
def fputK (K : PySem.W.Frag) (f : Str) (D : Ends) (σ : L2.St) (y : V) : VK := fun x H2 => ∃ a C dx fs, x = .ref a ∧ H2 a = some (.ins C dx fs) ∧ Cls K C ∧ NoAttr K C f ∧ fs.length < 1000 ∧ D.nx σ (upd H2 a (.ins C dx (putF f y fs)))
theorem q_sFld {f : Str} (h : tb σ H fun y H1 => te σ H1 (fputK K f D σ y)) : sFld K te tb f D σ H := h
theorem q_fputK {f : Str} {C dx : Addr} {fs : List (Str × V)} (h : H a = some (.ins C dx fs)) (hc : Cls K C) (hn : NoAttr K C f) (hl : fs.length < 1000) (k : D.nx σ (upd H a (.ins C dx (putF f y fs)))) : fputK K f D σ y (.ref a) H := ⟨a, C, dx, fs, rfl, h, hc, hn, hl, k⟩
def methK (m : Str) (C : Addr) (sp : Sp) (dvs : List V) (E : XK) (tr : TA) (σ : L2.St) (Q : VK) : VK := fun x H1 => ∃ a dx fs, x = .ref a ∧ H1 a = some (.ins C dx fs) ∧ fs.lookup m = none ∧ tr σ H1 fun vs H2 => sp (x :: (vs ++ dvs)) H2 Q E
theorem q_meth {m : Str} {C : Addr} {sp : Sp} {dvs : List V} {E : XK} (h : te σ H (methK m C sp dvs E tr σ Q)) : tMeth C m sp dvs E te tr σ H Q := h
def selfK (sp : Sp) (x : V) (E : XK) (Q : VK) : List V → Hp → Prop := fun vs H2 => sp (x :: vs) H2 Q E
theorem q_methK {m : Str} {C dx : Addr} {sp : Sp} {E : XK} {fs : List (Str × V)} (h : H a = some (.ins C dx fs)) (hn : fs.lookup m = none) (k : ∀ (R : List V → Hp → Prop), (∀ vs H2, sp (.ref a :: vs) H2 Q E → R vs H2) → tr σ H R) : methK m C sp [] E tr σ Q (.ref a) H :=
  ⟨a, dx, fs, rfl, h, hn, k _ fun vs H2 q => by rw [List.append_nil]; exact q⟩
theorem q_fldlen {f : Str} {fs : List (Str × V)} {y : V} {n : Nat} (h : fs.length ≤ n) : (putF f y fs).length ≤ n + 1 := by
  induction fs generalizing n with
  | nil => exact Nat.succ_le_succ (Nat.zero_le _)
  | cons p r ih =>
    obtain ⟨g, x⟩ := p
    show (if g = f then (g, y) :: r else (g, x) :: putF f y r).length ≤ n + 1
    by_cases e : g = f
    · rw [if_pos e]; exact Nat.le_succ_of_le h
    · rw [if_neg e]
      cases n with
      | zero => exact absurd h (by simp)
      | succ n => exact Nat.succ_le_succ (ih (Nat.le_of_succ_le_succ h))
theorem q_never {σ : L2.St} (h : False) : tNever D σ H := h
def mkK (C : Addr) (n m : Nat) (sp : Sp) (gV : List V → List V → List V) (E : XK) (vs : List V) (Q : VK) : List V → Hp → Prop := fun zs H2 => vs.length = n ∧ zs.length = m ∧ ∀ x dx, H2 x = none → H2 dx = none → dx ≠ x →
  sp (gV (.ref x :: vs) zs) (upd (upd H2 dx (.own x)) x (.ins C dx [])) (fun v H3 => v = .non ∧ Q (.ref x) H3) E
theorem q_makeK {C : Addr} {n m : Nat} {sp : Sp} {gV : List V → List V → List V} {E : XK} {tk : TA} (h : tr σ H fun vs H1 => tk σ H1 (mkK C n m sp gV E vs Q)) : tMakeK C n m sp gV E tr tk σ H Q := h
/-! comprehensions -/
def lcK (g : TG) (tt : TT) (te : TE) (vs : List Nat) (σ : L2.St) (Q : VK) : It → Hp → Prop := fun J H1 => ∀ D, H1 D = none → ∃ W : Nat → Nat → Hp → Prop, (∃ m, W 0 m (upd H1 D (.lst []))) ∧ ∀ i m H, W i m H →
  (J.stop i H ∧ Q (.ref D) H) ∨ (J.go i H ∧ ∃ Nx : Hp → Prop, (∀ H', Nx H' → ∃ m', m' < m ∧ W (i + 1) m' H') ∧ ∀ x H', J.yld i H x H' → g x (wipe σ vs) H' fun σ2 H2 => wipe σ2 vs = wipe σ vs ∧ tt σ2 H2 fun b H3 =>
    if b = true then te σ2 H3 fun y H4 => ∃ acc, H4 D = some (.lst acc) ∧ acc.length < sizeLine ∧ Nx (upd H4 D (.lst (acc ++ [y]))) else Nx H3)
theorem q_lc {wi : TI} {vs : List Nat} (h : wi σ H (lcK g tt te vs σ Q)) : tLc wi g tt te vs σ H Q := h
def keepK (te : TE) (σ : L2.St) (D : Addr) (Nx : Hp → Prop) : Bool → Hp → Prop := fun b H3 => if b = true then te σ H3 fun y H4 => ∃ acc, H4 D = some (.lst acc) ∧ acc.length < sizeLine ∧ Nx (upd H4 D (.lst (acc ++ [y]))) else Nx H3
def accK (D : Addr) (Nx : Hp → Prop) : VK := fun y H4 => ∃ acc, H4 D = some (.lst acc) ∧ acc.length < sizeLine ∧ Nx (upd H4 D (.lst (acc ++ [y])))
theorem q_keepT {Nx : Hp → Prop} (h : te σ H (accK l Nx)) : keepK te σ l Nx true H := iteT h
theorem q_keepF {Nx : Hp → Prop} (h : Nx H) : keepK te σ l Nx false H := iteF h
theorem q_keep2 {Nx : Hp → Prop} {c : Bool} (h : c = true → te σ H (accK l Nx)) (h2 : c = false → Nx H) : keepK te σ l Nx c H := by
  cases c with
  | true => exact iteT (h rfl)
  | false => exact iteF (h2 rfl)
theorem q_accK {Nx : Hp → Prop} (h : H l = some (.lst xs)) (hl : xs.length < sizeLine) (k : Nx (upd H l (.lst (xs ++ [y])))) : accK l Nx y H := ⟨xs, h, hl, k⟩
theorem q_lcL {S : List V} {vs : List Nat} (h : SqL K H a S) (k : ∀ D, H D = none → ∃ Pv : Nat → Hp → Prop, Pv 0 (upd H D (.lst [])) ∧ (∀ i H, i ≤ S.length → Pv i H → SqL K H a S) ∧
      (∀ i x H, S[i]? = some x → Pv i H → g x (wipe σ vs) H fun σ2 H2 => wipe σ2 vs = wipe σ vs ∧ tt σ2 H2 (keepK te σ2 D (Pv (i + 1)))) ∧ ∀ H, Pv S.length H → Q (.ref D) H) :
    ∃ b, V.ref a = .ref b ∧ (∃ xs, SqL K H b xs) ∧ lcK g tt te vs σ Q (Itl K b) H := ⟨a, rfl, ⟨S, h⟩, fun D hD => by
      obtain ⟨Pv, h0, hl, hs, hd⟩ := k D hD
      exact lc_list Pv h0 hl hs hd⟩
theorem q_lcT {S : List V} {vs : List Nat} (h : SqT K H a S) (k : ∀ D, H D = none → ∃ Pv : Nat → Hp → Prop, Pv 0 (upd H D (.lst [])) ∧ (∀ i H, i ≤ S.length → Pv i H → SqT K H a S) ∧
      (∀ i x H, S[i]? = some x → Pv i H → g x (wipe σ vs) H fun σ2 H2 => wipe σ2 vs = wipe σ vs ∧ tt σ2 H2 (keepK te σ2 D (Pv (i + 1)))) ∧ ∀ H, Pv S.length H → Q (.ref D) H) :
    ∃ b, V.ref a = .ref b ∧ (∃ xs, SqT K H b xs) ∧ lcK g tt te vs σ Q (Itt K b) H := ⟨a, rfl, ⟨S, h⟩, fun D hD => by
      obtain ⟨Pv, h0, hl, hs, hd⟩ := k D hD
      exact lc_tup Pv h0 hl hs hd⟩
theorem q_lcR {vs : List Nat} (hj : 0 ≤ j ∧ j < 1000000000000000) (k : ∀ D, H D = none → ∃ Pv : Nat → Hp → Prop, Pv 0 (upd H D (.lst [])) ∧
      (∀ (i : Nat) H, (i : Int) < j → Pv i H → g (.int i) (wipe σ vs) H fun σ2 H2 => wipe σ2 vs = wipe σ vs ∧ tt σ2 H2 (keepK te σ2 D (Pv (i + 1)))) ∧ ∀ H, Pv j.toNat H → Q (.ref D) H) :
    rg1K (lcK g tt te vs σ Q) [.int j] H := ⟨j, rfl, by omega, by omega, fun D hD => by
      obtain ⟨Pv, h0, hs, hd⟩ := k D hD
      refine lc_range Pv h0 (fun i H hi hp => ?_) hd
      have e : (0 : Int) + (i : Int) = (i : Int) := Int.zero_add _
      rw [e]
      exact hs i H (by omega) hp⟩
end

local macro_rules | `(tactic| walk_at "my_rd") => `(tactic| (repeat first
  | with_reducible refine q_tCons ?_
  | ((with_reducible apply q_var); (focus (exact rfl)))
  | with_reducible refine q_c ?_
  | with_reducible refine q_nx ?_
  | with_reducible refine q_bK ?_
  | with_reducible refine q_call ?_
  | with_reducible refine q_callK ?_
  | with_reducible refine q_tNil ?_
  | with_reducible refine q_cb ?_
  | with_reducible refine q_seq ?_
  | with_reducible refine q_asg ?_
  | with_reducible refine q_gName ?_
  | with_reducible refine q_op ?_
  | with_reducible refine q_test ?_
  | with_reducible refine q_tB ?_
  | with_reducible refine q_ifS ?_
  | with_reducible refine q_ret ?_
  | with_reducible refine q_rt ?_
  | with_reducible refine q_next ?_
  | with_reducible refine q_ifF ?_
  | with_reducible refine q_ifT ?_
  | with_reducible refine q_drop ?_
  | with_reducible refine q_and ?_
  | with_reducible refine q_or ?_
  | with_reducible refine q_andT ?_
  | with_reducible refine q_andF ?_
  | with_reducible refine q_orF ?_
  | with_reducible refine q_orT ?_
  | with_reducible refine q_andV ?_
  | with_reducible refine q_andVT ?_
  | with_reducible refine q_andVF ?_
  | with_reducible refine q_orV ?_
  | with_reducible refine q_gCons ?_
  | with_reducible refine q_gNil ?_
  | with_reducible refine q_tup ?_
  | with_reducible refine q_lst ?_
  | with_reducible refine q_not ?_
  | with_reducible refine q_notKT ?_
  | with_reducible refine q_notKF ?_
  | with_reducible refine q_I0 ?_
  | with_reducible refine q_eqI ?_
  | with_reducible refine q_neI ?_
  | ((with_reducible refine q_I ?_ ?_); first | decide | omega | exact ⟨by omega, by omega⟩ | exact ⟨by decide, by decide⟩ | exact .inl ⟨by omega, by omega⟩ | exact .inr ⟨by omega, by omega⟩ | exact .inr ⟨by decide, by decide⟩)
  | with_reducible refine q_eqS ?_
  | with_reducible refine q_neS ?_
  | with_reducible refine q_brk ?_
  | with_reducible refine q_ct ?_
  | with_reducible refine q_bk ?_
  | with_reducible refine q_cn ?_
  | with_reducible refine q_retN ?_
  | with_reducible refine q_gSub ?_
  | with_reducible refine q_for ?_
  | with_reducible refine q_iList ?_
  | with_reducible refine q_iTup ?_
  | with_reducible refine q_iRng1 ?_
  | with_reducible refine q_notK ?_
  | with_reducible refine q_orVT ?_
  | with_reducible refine q_orVF ?_
  | with_reducible refine q_notV ?_
  | with_reducible refine q_notVK ?_
  | with_reducible refine q_ifE ?_
  | with_reducible refine q_ifET ?_
  | with_reducible refine q_ifEF ?_
  | with_reducible refine q_yes ?_
  | with_reducible refine q_un ?_
  | with_reducible refine q_rU ?_
  | with_reducible refine q_abs ?_
  | with_reducible refine q_int1 ?_
  | with_reducible refine q_bm ?_
  | with_reducible refine q_bm0 ?_
  | with_reducible refine q_lc ?_
  | with_reducible refine q_keepT ?_
  | with_reducible refine q_keepF ?_
  | ((with_reducible apply q_aug); (focus (exact rfl)))
  | with_reducible refine q_ipI ?_
  | with_reducible refine q_chain ?_
  | with_reducible refine q_pairC ?_
  | with_reducible refine q_pairsK ?_
  | with_reducible refine q_pairN ?_
  | with_reducible refine q_fld ?_
  | with_reducible refine q_sFld ?_
  | with_reducible refine q_meth ?_
  | with_reducible refine q_makeK ?_
  | with_reducible refine q_isBl ?_
  | with_reducible refine q_notBl ?_
  | with_reducible refine q_sl ?_
  | with_reducible refine q_noPart ?_
  | with_reducible refine q_part ?_
  | with_reducible refine q_partK ?_
  | ((with_reducible apply q_mulStr); (focus (decide +kernel)))
  | with_reducible refine q_chT ?_
  | with_reducible refine q_chF ?_
  | with_reducible refine q_ord ?_
  | with_reducible refine q_iStr0 ?_
  | with_reducible refine q_iStr ?_
  | with_reducible refine q_tDIn ?_
  | with_reducible refine q_tDNotIn ?_
  | with_reducible refine q_tDGet ?_
  | with_reducible refine q_tDGet2 ?_
  | with_reducible refine q_tDGet1 ?_
  | with_reducible refine q_tDSetd ?_
  | ((with_reducible apply q_dG2a); (focus ((repeat first | (with_reducible exact upd_same) | (with_reducible assumption) | (with_reducible apply upd_new (by assumption)) | (with_reducible apply upd_other (by first | assumption | exact Ne.symm (by assumption))) | (with_reducible refine' Kp.get (by assumption) ?_ (by first | assumption | exact Ne.symm (by assumption))) | (with_reducible apply Same.get (by assumption))); done)))
  | ((with_reducible apply q_dSda); (focus ((repeat first | (with_reducible exact upd_same) | (with_reducible assumption) | (with_reducible apply upd_new (by assumption)) | (with_reducible apply upd_other (by first | assumption | exact Ne.symm (by assumption))) | (with_reducible refine' Kp.get (by assumption) ?_ (by first | assumption | exact Ne.symm (by assumption))) | (with_reducible apply Same.get (by assumption))); done)))
  | with_reducible refine q_sDPut ?_
  | ((with_reducible apply q_dInS); (focus ((repeat first | (with_reducible exact upd_same) | (with_reducible assumption) | (with_reducible apply upd_new (by assumption)) | (with_reducible apply upd_other (by first | assumption | exact Ne.symm (by assumption))) | (with_reducible refine' Kp.get (by assumption) ?_ (by first | assumption | exact Ne.symm (by assumption))) | (with_reducible apply Same.get (by assumption))); done)))
  | ((with_reducible apply q_dNInS); (focus ((repeat first | (with_reducible exact upd_same) | (with_reducible assumption) | (with_reducible apply upd_new (by assumption)) | (with_reducible apply upd_other (by first | assumption | exact Ne.symm (by assumption))) | (with_reducible refine' Kp.get (by assumption) ?_ (by first | assumption | exact Ne.symm (by assumption))) | (with_reducible apply Same.get (by assumption))); done)))
  | ((with_reducible apply q_dInI); (focus ((repeat first | (with_reducible exact upd_same) | (with_reducible assumption) | (with_reducible apply upd_new (by assumption)) | (with_reducible apply upd_other (by first | assumption | exact Ne.symm (by assumption))) | (with_reducible refine' Kp.get (by assumption) ?_ (by first | assumption | exact Ne.symm (by assumption))) | (with_reducible apply Same.get (by assumption))); done)))
  | ((with_reducible apply q_dNInI); (focus ((repeat first | (with_reducible exact upd_same) | (with_reducible assumption) | (with_reducible apply upd_new (by assumption)) | (with_reducible apply upd_other (by first | assumption | exact Ne.symm (by assumption))) | (with_reducible refine' Kp.get (by assumption) ?_ (by first | assumption | exact Ne.symm (by assumption))) | (with_reducible apply Same.get (by assumption))); done)))
  | ((with_reducible apply q_bmL); (focus ((repeat first | (with_reducible exact upd_same) | (with_reducible assumption) | (with_reducible apply upd_new (by assumption)) | (with_reducible apply upd_other (by first | assumption | exact Ne.symm (by assumption))) | (with_reducible refine' Kp.get (by assumption) ?_ (by first | assumption | exact Ne.symm (by assumption))) | (with_reducible apply Same.get (by assumption))); done)))
  | ((with_reducible apply q_bmL0); (focus ((repeat first | (with_reducible exact upd_same) | (with_reducible assumption) | (with_reducible apply upd_new (by assumption)) | (with_reducible apply upd_other (by first | assumption | exact Ne.symm (by assumption))) | (with_reducible refine' Kp.get (by assumption) ?_ (by first | assumption | exact Ne.symm (by assumption))) | (with_reducible apply Same.get (by assumption))); done)))
  | ((with_reducible apply q_ixLt); (focus ((repeat first | (with_reducible exact upd_same) | (with_reducible assumption) | (with_reducible apply upd_new (by assumption)) | (with_reducible apply upd_other (by first | assumption | exact Ne.symm (by assumption))) | (with_reducible refine' Kp.get (by assumption) ?_ (by first | assumption | exact Ne.symm (by assumption))) | (with_reducible apply Same.get (by assumption))); done)); (focus (exact rfl)))
  | ((with_reducible apply q_ixTt); (focus ((repeat first | (with_reducible exact upd_same) | (with_reducible assumption) | (with_reducible apply upd_new (by assumption)) | (with_reducible apply upd_other (by first | assumption | exact Ne.symm (by assumption))) | (with_reducible refine' Kp.get (by assumption) ?_ (by first | assumption | exact Ne.symm (by assumption))) | (with_reducible apply Same.get (by assumption))); done)); (focus (exact rfl)))
  | ((with_reducible apply q_lenLt); (focus ((repeat first | (with_reducible exact upd_same) | (with_reducible assumption) | (with_reducible apply upd_new (by assumption)) | (with_reducible apply upd_other (by first | assumption | exact Ne.symm (by assumption))) | (with_reducible refine' Kp.get (by assumption) ?_ (by first | assumption | exact Ne.symm (by assumption))) | (with_reducible apply Same.get (by assumption))); done)))
  | ((with_reducible apply q_lenTt); (focus ((repeat first | (with_reducible exact upd_same) | (with_reducible assumption) | (with_reducible apply upd_new (by assumption)) | (with_reducible apply upd_other (by first | assumption | exact Ne.symm (by assumption))) | (with_reducible refine' Kp.get (by assumption) ?_ (by first | assumption | exact Ne.symm (by assumption))) | (with_reducible apply Same.get (by assumption))); done)))
  | ((with_reducible apply q_append); (focus ((repeat first | (with_reducible exact upd_same) | (with_reducible assumption) | (with_reducible apply upd_new (by assumption)) | (with_reducible apply upd_other (by first | assumption | exact Ne.symm (by assumption))) | (with_reducible refine' Kp.get (by assumption) ?_ (by first | assumption | exact Ne.symm (by assumption))) | (with_reducible apply Same.get (by assumption))); done)); (focus ((first | (exact Nat.lt_of_ble_eq_true rfl) | (simp only [List.length_append, List.length_cons, List.length_nil, List.length_map]; exact small1000 (by omega))))))
  | ((with_reducible apply q_setL); (focus ((repeat first | (with_reducible exact upd_same) | (with_reducible assumption) | (with_reducible apply upd_new (by assumption)) | (with_reducible apply upd_other (by first | assumption | exact Ne.symm (by assumption))) | (with_reducible refine' Kp.get (by assumption) ?_ (by first | assumption | exact Ne.symm (by assumption))) | (with_reducible apply Same.get (by assumption))); done)); (focus (exact rfl)))
  | with_reducible refine q_ifNT ?_
  | with_reducible refine q_ifNF ?_
  | with_reducible refine q_andNT ?_
  | with_reducible refine q_andNF ?_
  | with_reducible refine q_orNT ?_
  | with_reducible refine q_orNF ?_
  | with_reducible refine q_bKNT ?_
  | with_reducible refine q_bKNF ?_))
def top (i : Nat) : Stmt := PySem.Challenge.pw_vaultbridge_k00_sets.main.body.getD i (.Pass ⟨0, 0, 0, 0⟩)
abbrev s_is_integer : Stmt := top 5
theorem sc_is_integer : FnScope ["value"] ["value"] (defScope s_is_integer) := ⟨rfl, rfl, rfl, by decide +kernel, rfl, by decide +kernel, by decide +kernel⟩
abbrev s_is_at_least : Stmt := top 6
theorem sc_is_at_least : FnScope ["value", "least"] ["value", "least"] (defScope s_is_at_least) := ⟨rfl, rfl, rfl, by decide +kernel, rfl, by decide +kernel, by decide +kernel⟩
abbrev s_is_text : Stmt := top 7
theorem sc_is_text : FnScope ["value", "char", "code"] ["value"] (defScope s_is_text) := ⟨rfl, rfl, rfl, by decide +kernel, rfl, by decide +kernel, by decide +kernel⟩
abbrev s_is_short_text : Stmt := top 8
theorem sc_is_short_text : FnScope ["value", "most"] ["value", "most"] (defScope s_is_short_text) := ⟨rfl, rfl, rfl, by decide +kernel, rfl, by decide +kernel, by decide +kernel⟩
abbrev s_is_account : Stmt := top 9
theorem sc_is_account : FnScope ["value"] ["value"] (defScope s_is_account) := ⟨rfl, rfl, rfl, by decide +kernel, rfl, by decide +kernel, by decide +kernel⟩
abbrev s_is_set : Stmt := top 11
theorem sc_is_set : FnScope ["value", "found", "part"] ["value"] (defScope s_is_set) := ⟨rfl, rfl, rfl, by decide +kernel, rfl, by decide +kernel, by decide +kernel⟩
abbrev s_is_pair : Stmt := top 12
theorem sc_is_pair : FnScope ["part"] ["part"] (defScope s_is_pair) := ⟨rfl, rfl, rfl, by decide +kernel, rfl, by decide +kernel, by decide +kernel⟩
abbrev s_total : Stmt := top 13
theorem sc_total : FnScope ["guards", "_", "weight"] ["guards"] (defScope s_total) := ⟨rfl, rfl, rfl, by decide +kernel, rfl, by decide +kernel, by decide +kernel⟩
abbrev s_threshold : Stmt := top 14
theorem sc_threshold : FnScope ["guards"] ["guards"] (defScope s_threshold) := ⟨rfl, rfl, rfl, by decide +kernel, rfl, by decide +kernel, by decide +kernel⟩
abbrev s_minority : Stmt := top 15
theorem sc_minority : FnScope ["guards"] ["guards"] (defScope s_minority) := ⟨rfl, rfl, rfl, by decide +kernel, rfl, by decide +kernel, by decide +kernel⟩
abbrev s_L_pot : Stmt := top 17
theorem sc_L_pot : FnScope ["script", "seed", "cell"] ["script"] (defScope s_L_pot) := ⟨rfl, rfl, rfl, by decide +kernel, rfl, by decide +kernel, by decide +kernel⟩
abbrev s_L_next : Stmt := top 18
theorem sc_L_next : FnScope ["pot", "limit", "mixed", "cell", "found"] ["pot", "limit"] (defScope s_L_next) := ⟨rfl, rfl, rfl, by decide +kernel, rfl, by decide +kernel, by decide +kernel⟩
abbrev s_L_is_int : Stmt := top 19
theorem sc_L_is_int : FnScope ["value"] ["value"] (defScope s_L_is_int) := ⟨rfl, rfl, rfl, by decide +kernel, rfl, by decide +kernel, by decide +kernel⟩
abbrev s_L_set : Stmt := top 20
theorem sc_L_set : FnScope ["pot", "most", "names", "found", "k"] ["pot", "most"] (defScope s_L_set) := ⟨rfl, rfl, rfl, by decide +kernel, rfl, by decide +kernel, by decide +kernel⟩
abbrev s_L_total : Stmt := top 21
theorem sc_L_total : FnScope ["guards", "pair"] ["guards"] (defScope s_L_total) := ⟨rfl, rfl, rfl, by decide +kernel, rfl, by decide +kernel, by decide +kernel⟩
abbrev s_L_threshold : Stmt := top 22
theorem sc_L_threshold : FnScope ["guards", "need", "k"] ["guards"] (defScope s_L_threshold) := ⟨rfl, rfl, rfl, by decide +kernel, rfl, by decide +kernel, by decide +kernel⟩
abbrev s_L_spoilt : Stmt := top 23
theorem sc_L_spoilt : FnScope ["pot", "guards", "at", "bad", "name", "weight"] ["pot", "guards"] (defScope s_L_spoilt) := ⟨rfl, rfl, rfl, by decide +kernel, rfl, by decide +kernel, by decide +kernel⟩
abbrev s_law : Stmt := top 24
theorem sc_law : FnScope ["script", "pot", "guards", "due", "found", "number"] ["script"] (defScope s_law) := ⟨rfl, rfl, rfl, by decide +kernel, rfl, by decide +kernel, by decide +kernel⟩
structure Txt (K : PySem.W.Frag) (mg : Str → Option Value) where
  f_is_integer : Addr
  d_is_integer : FuncData
  F_is_integer : Fun K "is_integer" "is_integer" s_is_integer f_is_integer d_is_integer
  b_is_integer : Binds K d_is_integer ["value"] []
  g_is_integer : mg "is_integer" = some (.ref f_is_integer)
  f_is_at_least : Addr
  d_is_at_least : FuncData
  F_is_at_least : Fun K "is_at_least" "is_at_least" s_is_at_least f_is_at_least d_is_at_least
  b_is_at_least : Binds K d_is_at_least ["value", "least"] []
  g_is_at_least : mg "is_at_least" = some (.ref f_is_at_least)
  f_is_text : Addr
  d_is_text : FuncData
  F_is_text : Fun K "is_text" "is_text" s_is_text f_is_text d_is_text
  b_is_text : Binds K d_is_text ["value"] []
  g_is_text : mg "is_text" = some (.ref f_is_text)
  f_is_short_text : Addr
  d_is_short_text : FuncData
  F_is_short_text : Fun K "is_short_text" "is_short_text" s_is_short_text f_is_short_text d_is_short_text
  b_is_short_text : Binds K d_is_short_text ["value", "most"] []
  g_is_short_text : mg "is_short_text" = some (.ref f_is_short_text)
  f_is_account : Addr
  d_is_account : FuncData
  F_is_account : Fun K "is_account" "is_account" s_is_account f_is_account d_is_account
  b_is_account : Binds K d_is_account ["value"] []
  g_is_account : mg "is_account" = some (.ref f_is_account)
  f_is_set : Addr
  d_is_set : FuncData
  F_is_set : Fun K "is_set" "is_set" s_is_set f_is_set d_is_set
  b_is_set : Binds K d_is_set ["value"] []
  g_is_set : mg "is_set" = some (.ref f_is_set)
  f_is_pair : Addr
  d_is_pair : FuncData
  F_is_pair : Fun K "is_pair" "is_pair" s_is_pair f_is_pair d_is_pair
  b_is_pair : Binds K d_is_pair ["part"] []
  g_is_pair : mg "is_pair" = some (.ref f_is_pair)
  f_total : Addr
  d_total : FuncData
  F_total : Fun K "total" "total" s_total f_total d_total
  b_total : Binds K d_total ["guards"] []
  g_total : mg "total" = some (.ref f_total)
  f_threshold : Addr
  d_threshold : FuncData
  F_threshold : Fun K "threshold" "threshold" s_threshold f_threshold d_threshold
  b_threshold : Binds K d_threshold ["guards"] []
  g_threshold : mg "threshold" = some (.ref f_threshold)
  f_minority : Addr
  d_minority : FuncData
  F_minority : Fun K "minority" "minority" s_minority f_minority d_minority
  b_minority : Binds K d_minority ["guards"] []
  g_minority : mg "minority" = some (.ref f_minority)
  f_L_pot : Addr
  d_L_pot : FuncData
  F_L_pot : Fun K "_law_pot" "_law_pot" s_L_pot f_L_pot d_L_pot
  b_L_pot : Binds K d_L_pot ["script"] []
  g_L_pot : mg "_law_pot" = some (.ref f_L_pot)
  f_L_next : Addr
  d_L_next : FuncData
  F_L_next : Fun K "_law_next" "_law_next" s_L_next f_L_next d_L_next
  b_L_next : Binds K d_L_next ["pot", "limit"] []
  g_L_next : mg "_law_next" = some (.ref f_L_next)
  f_L_is_int : Addr
  d_L_is_int : FuncData
  F_L_is_int : Fun K "_law_is_int" "_law_is_int" s_L_is_int f_L_is_int d_L_is_int
  b_L_is_int : Binds K d_L_is_int ["value"] []
  g_L_is_int : mg "_law_is_int" = some (.ref f_L_is_int)
  f_L_set : Addr
  d_L_set : FuncData
  F_L_set : Fun K "_law_set" "_law_set" s_L_set f_L_set d_L_set
  b_L_set : Binds K d_L_set ["pot", "most"] []
  g_L_set : mg "_law_set" = some (.ref f_L_set)
  f_L_total : Addr
  d_L_total : FuncData
  F_L_total : Fun K "_law_total" "_law_total" s_L_total f_L_total d_L_total
  b_L_total : Binds K d_L_total ["guards"] []
  g_L_total : mg "_law_total" = some (.ref f_L_total)
  f_L_threshold : Addr
  d_L_threshold : FuncData
  F_L_threshold : Fun K "_law_threshold" "_law_threshold" s_L_threshold f_L_threshold d_L_threshold
  b_L_threshold : Binds K d_L_threshold ["guards"] []
  g_L_threshold : mg "_law_threshold" = some (.ref f_L_threshold)
  f_L_spoilt : Addr
  d_L_spoilt : FuncData
  F_L_spoilt : Fun K "_law_spoilt" "_law_spoilt" s_L_spoilt f_L_spoilt d_L_spoilt
  b_L_spoilt : Binds K d_L_spoilt ["pot", "guards"] []
  g_L_spoilt : mg "_law_spoilt" = some (.ref f_L_spoilt)
  f_law : Addr
  d_law : FuncData
  F_law : Fun K "law" "law" s_law f_law d_law
  b_law : Binds K d_law ["script"] []
  g_law : mg "law" = some (.ref f_law)
  t_ACCOUNT_LENGTH : Tok
  c_ACCOUNT_LENGTH : mg "ACCOUNT_LENGTH" = some (.int 20 t_ACCOUNT_LENGTH)
  t_BARRED_CODE : Tok
  c_BARRED_CODE : mg "BARRED_CODE" = some (.int 37 t_BARRED_CODE)
  t_FIRST_CODE : Tok
  c_FIRST_CODE : mg "FIRST_CODE" = some (.int 32 t_FIRST_CODE)
  t_LAST_CODE : Tok
  c_LAST_CODE : mg "LAST_CODE" = some (.int 126 t_LAST_CODE)
  z_abs : mg "abs" = none
  z_all : mg "all" = none
  z_bool : mg "bool" = none
  z_int : mg "int" = none
  z_isinstance : mg "isinstance" = none
  z_len : mg "len" = none
  z_list : mg "list" = none
  z_ord : mg "ord" = none
  z_range : mg "range" = none
  z_str : mg "str" = none
  z_sum : mg "sum" = none
  z_tuple : mg "tuple" = none
/-! the law's own numbers -/
def PotAt (H : Hp) (p l : Addr) : Prop := ∃ (ns : List Int) (i c s : Int), H p = some (.lst [.ref l, .int i, .int c, .int s]) ∧ H l = some (.lst (ns.map V.int)) ∧ 0 ≤ i ∧ 0 ≤ c ∧ 0 ≤ s ∧ s < 2147483647 ∧ ns.length ≤ 1000 ∧ p ≠ l
theorem PotAt.at {H : Hp} {p l : Addr} (h : PotAt H p l) : ∃ o, H p = some o := by
  obtain ⟨ns, i, c, s, h1, _⟩ := h; exact ⟨_, h1⟩
theorem PotAt.atl {H : Hp} {p l : Addr} (h : PotAt H p l) : ∃ o, H l = some o := by
  obtain ⟨ns, i, c, s, _, h1, _⟩ := h; exact ⟨_, h1⟩
theorem PotAt.same {H H' : Hp} {p l : Addr} (h : PotAt H p l) (e : Same H H') : PotAt H' p l := by
  obtain ⟨ns, i, c, s, h1, h2, r⟩ := h; exact ⟨ns, i, c, s, e _ _ h1, e _ _ h2, r⟩
theorem PotAt.upd {H : Hp} {p l a : Addr} {o : HO} (h : PotAt H p l) (n1 : a ≠ p) (n2 : a ≠ l) : PotAt (L2.upd H a o) p l := by
  obtain ⟨ns, i, c, s, h1, h2, r⟩ := h; exact ⟨ns, i, c, s, upd_other n1.symm h1, upd_other n2.symm h2, r⟩
theorem PotAt.new {H : Hp} {p l a : Addr} {o : HO} (h : PotAt H p l) (n : H a = none) : PotAt (L2.upd H a o) p l := by
  obtain ⟨ns, i, c, s, h1, h2, r⟩ := h; exact ⟨ns, i, c, s, upd_new n h1, upd_new n h2, r⟩
theorem PotAt.nep {H : Hp} {p l a : Addr} (h : PotAt H p l) (n : H a = none) : a ≠ p := by
  obtain ⟨o, h1⟩ := h.at; exact (ne_of_none h1 n).symm
theorem PotAt.nel {H : Hp} {p l a : Addr} (h : PotAt H p l) (n : H a = none) : a ≠ l := by
  obtain ⟨o, h1⟩ := h.atl; exact (ne_of_none h1 n).symm
def sp_pot (K : PySem.W.Frag) : Sp := fun vs H Q _ => ∃ (a : Addr) (ns : List Int), vs = [.ref a] ∧ SqL K H a (ns.map V.int) ∧ ns.length ≤ 63 ∧ ∀ (p l : Addr) (H' : Hp), H p = none → H l = none → PotAt H' p l → Same H H' → Q (.ref p) H'
def sp_next : Sp := fun vs H Q _ => ∃ (p l : Addr) (n : Int), vs = [.ref p, .int n] ∧ PotAt H p l ∧ 0 < n ∧ n < 1000000000 ∧ ∀ (r : Int) (H' : Hp), 0 ≤ r → r < n → PotAt H' p l → Kp p H H' → Q (.int r) H'
section
variable {P : Program} {w : World} {K : PySem.W.Frag} {mg : Str → Option Value} {base : Heap}
theorem map_at {ns : List Int} {i : Nat} {x : V} (h : (ns.map V.int)[i]? = some x) : ∃ z, x = .int z := by
  rw [List.getElem?_map] at h
  cases e : ns[i]? with
  | none => rw [e] at h; cases h
  | some z => rw [e] at h; exact ⟨z, (Option.some.inj h).symm⟩
theorem ok_L_pot (T : Txt K mg) : FnOk P w K mg base CX0 1 T.f_L_pot T.d_L_pot ["script"] (sp_pot K) := by
  refine T.F_L_pot.ok sc_L_pot (fun vs H Q E h => ?_) (fun cdv A outer s H vs Q E hr h => ?_)
  · obtain ⟨a, ns, rfl, _⟩ := h; rfl
  · obtain ⟨a, ns, rfl, hS, hlen, k⟩ := h
    refine ⟨_, (pss_cons (ps_set (i := 1) sc_L_pot.nd rfl (Or.inl rfl) pe_int)
      (pss_cons (ps_for PassesOwn.never rfl (pi_list (pv 0)) (pg_name (i := 2) sc_L_pot.nd rfl (Or.inl rfl))
        (pss_one (ps_set (i := 1) sc_L_pot.nd rfl (Or.inl rfl) (pe_op op_mod (pe_callTy cq_int1 (by rfl) T.z_int boot_int (pa_cons (pe_op op_add (pe_op op_mul (pv 1) pe_int) (pv 2)) pa_nil)) pe_int))))
      (pss_one (ps_ret (pe_lst (pa_cons (pe_callTy cq_listOf (by rfl) T.z_list boot_list (pa_cons (pv 0) pa_nil)) (pa_cons pe_int (pa_cons pe_int (pa_cons (pv 1) pa_nil))))))))), ?_⟩
    (dsimp only [cxOf, Cx.nox, Cx.wish, L2.start, List.map, List.length, List.replicate, List.cons_append, List.nil_append, List.append_eq, Nat.reduceSub, Nat.reduceAdd])
    walk_at "my_rd"
    refine q_forL hS (fun i σ H2 => ∃ (z : Int) (v : Option V), σ = [some (.ref a), some (.int z), v] ∧ H2 = H ∧ 0 ≤ z ∧ z < 2147483647) ⟨1, none, rfl, rfl, by omega, by omega⟩ (fun i σ H2 _ ⟨_, _, _, e, _⟩ => e ▸ hS) ?_ ?_
    · rintro i x σ H2 hx ⟨z, v, rfl, rfl, h0, h1⟩
      obtain ⟨y, rfl⟩ := map_at hx
      walk_at "my_rd"
      exact ⟨_, _, rfl, rfl, Int.emod_nonneg _ (by decide), Int.emod_lt_of_pos _ (by decide)⟩
    · rintro σ H2 ⟨z, v, rfl, rfl, h0, h1⟩
      walk_at "my_rd"
      refine q_listL hS fun l nl => ?_
      walk_at "my_rd"
      refine q_lstK (Nat.le_of_ble_eq_true rfl) fun p np => ?_
      walk_at "my_rd"
      refine k p l _ (upd_none_back np) nl ⟨ns, 0, 0, z, upd_same, upd_new np upd_same, by omega, by omega, h0, h1, by omega, ?_⟩ (Same.new (Same.new (Same.refl _) nl) (upd_none_back np))
      exact upd_none_ne np
theorem ok_L_next (T : Txt K mg) : FnOk P w K mg base CX0 1 T.f_L_next T.d_L_next ["pot", "limit"] sp_next := by
  refine T.F_L_next.ok sc_L_next (fun vs H Q E h => ?_) (fun cdv A outer s H vs Q E hr h => ?_)
  · obtain ⟨p, l, n, rfl, _⟩ := h; rfl
  · obtain ⟨p, l, n, rfl, ⟨ns, i, c, z, hp, hl, hi, hc, hz0, hz1, hns, hpl⟩, hn, hn2, k⟩ := h
    refine ⟨_, (Evl.pss_cut (ps_if (PW.pt (pw_and (pt_cmpR op_eq (pe_ix ix_list (pv 0) pe_int (fun _ _ => rfl)) pe_int (nomark _)) (pw_and1 (pt_cmpR op_lt (pe_ix ix_list (pv 0) pe_int (fun _ _ => rfl)) (pe_callB cq_len (by rfl) T.z_len boot_len (pa_cons (pe_ix ix_list (pv 0) pe_int (fun _ _ => rfl)) pa_nil)) (nomark _))))) (pss_cons (ps_set (i := 3) sc_L_next.nd rfl (Or.inl rfl) (pe_callB cq_abs (by rfl) T.z_abs boot_abs (pa_cons (pe_callTy cq_int1 (by rfl) T.z_int boot_int (pa_cons (pe_ix ix_list (pe_ix ix_list (pv 0) pe_int (fun _ _ => rfl)) (pe_ix ix_list (pv 0) pe_int (fun _ _ => rfl)) (fun _ _ => rfl)) pa_nil)) pa_nil)))
      (pss_cons (ps_asg (pe_op op_add (pe_ix ix_list (pv 0) pe_int (fun _ _ => rfl)) pe_int) (pg_sub (pv 0) pe_int set_list))
      (pss_cons (ps_if (pt_cmpR op_lt (pv 3) (pe_op op_pow pe_int pe_int) (nomark _)) (pss_one (ps_ret (pe_op op_mod (pe_callTy cq_int1 (by rfl) T.z_int boot_int (pa_cons (pv 3) pa_nil)) (pv 1)))) pss_nil)
      (pss_one (ps_asg (pv 3) (pg_sub (pv 0) pe_int set_list)))))) pss_nil)
      (pss_cons (ps_if (pt_cmpR op_gt (pe_ix ix_list (pv 0) pe_int (fun _ _ => rfl)) pe_int (nomark _)) (pss_cons (ps_set (i := 4) sc_L_next.nd rfl (Or.inl rfl) (pe_op op_mod (pe_callTy cq_int1 (by rfl) T.z_int boot_int (pa_cons (pe_ix ix_list (pv 0) pe_int (fun _ _ => rfl)) pa_nil)) (pv 1)))
      (pss_cons (ps_asg (pe_op op_fdiv (pe_ix ix_list (pv 0) pe_int (fun _ _ => rfl)) (pv 1)) (pg_sub (pv 0) pe_int set_list))
      (pss_one (ps_ret (pv 4))))) pss_nil)
      (pss_cons (ps_asg (pe_op op_mod (pe_callTy cq_int1 (by rfl) T.z_int boot_int (pa_cons (pe_op op_add (pe_op op_mul (pe_ix ix_list (pv 0) pe_int (fun _ _ => rfl)) pe_int) pe_int) pa_nil)) pe_int) (pg_sub (pv 0) pe_int set_list))
      (pss_cons (ps_set (i := 2) sc_L_next.nd rfl (Or.inl rfl) (pe_op op_mod (pe_callTy cq_int1 (by rfl) T.z_int boot_int (pa_cons (pe_op op_add (pe_op op_mul (pe_ix ix_list (pv 0) pe_int (fun _ _ => rfl)) pe_int) (pe_op op_fdiv (pe_ix ix_list (pv 0) pe_int (fun _ _ => rfl)) pe_int)) pa_nil)) pe_int))
      (pss_one (ps_ret (pe_op op_mod (pe_callTy cq_int1 (by rfl) T.z_int boot_int (pa_cons (pv 2) pa_nil)) (pv 1)))))))), ?_⟩
    (dsimp only [cxOf, Cx.nox, Cx.wish, L2.start, List.map, List.length, List.replicate, List.cons_append, List.nil_append, List.append_eq, Nat.reduceSub, Nat.reduceAdd])
    refine q_cut (Mid := fun σ' H' => ∃ (cell : Option V) (i c : Int), σ' = [some (.ref p), some (.int n), none, cell, none] ∧ H' p = some (.lst [.ref l, .int i, .int c, .int z]) ∧ H' l = some (.lst (ns.map V.int)) ∧ 0 ≤ i ∧ 0 ≤ c ∧ Kp p H H') ?_ ?_
    · walk_at "my_rd"
      refine q_and2 (fun h1 => ?_) (fun _ => ?_)
      · walk_at "my_rd"
        refine q_if2 (fun h2 => ?_) (fun _ => ?_)
        · have h2 := dec_t h2
          rw [List.length_map] at h2
          have hi2 : i.toNat < ns.length := by omega
          have ha : atI (ns.map V.int) i = some (V.int ns[i.toNat]) := at_int (n := i.toNat) (by omega) (by rw [List.getElem?_map, List.getElem?_eq_getElem hi2]; rfl)
          walk_at "my_rd"
          refine q_ixLt hl ha ?_
          walk_at "my_rd"
          refine q_if2 (fun h3 => ?_) (fun h3 => ?_)
          · walk_at "my_rd"
            refine k _ _ (Int.emod_nonneg _ (by omega)) (Int.emod_lt_of_pos _ hn) ⟨ns, i + 1, c, z, upd_same, upd_other hpl.symm hl, by omega, hc, hz0, hz1, hns, hpl⟩ (Kp.upd Kp.refl)
          · walk_at "my_rd"
            refine ⟨_, i + 1, _, rfl, upd_same, upd_other hpl.symm (upd_other hpl.symm hl), by omega, ?_, Kp.upd (Kp.upd Kp.refl)⟩
            split <;> omega
        · walk_at "my_rd"
          exact ⟨none, i, c, rfl, hp, hl, hi, hc, Kp.refl⟩
      · walk_at "my_rd"
        exact ⟨none, i, c, rfl, hp, hl, hi, hc, Kp.refl⟩
    · clear hp hl hi hc i c
      rintro σ' H2 ⟨cell, i, c, rfl, hp, hl, hi, hc, kp⟩
      walk_at "my_rd"
      refine q_if2 (fun h1 => ?_) (fun h1 => ?_)
      · have h1 := dec_t h1
        walk_at "my_rd"
        refine k _ _ (Int.emod_nonneg _ (by omega)) (Int.emod_lt_of_pos _ hn) ⟨ns, i, c / n, z, upd_same, upd_other hpl.symm hl, hi, Int.ediv_nonneg hc (by omega), hz0, hz1, hns, hpl⟩ (Kp.upd kp)
      · walk_at "my_rd"
        refine k _ _ (Int.emod_nonneg _ (by omega)) (Int.emod_lt_of_pos _ hn) ⟨ns, i, c, _, upd_same, upd_other hpl.symm hl, hi, hc, Int.emod_nonneg _ (by decide), Int.emod_lt_of_pos _ (by decide), hns, hpl⟩ (Kp.upd kp)
end

/-! sets of guards as data: names with weights -/
abbrev Gs := List (Str × Int)
def wsum (gs : Gs) : Int := (gs.map (·.2)).sum
structure PairsAt (H : Hp) (xs : List V) (gs : Gs) : Prop where
  len : xs.length = gs.length
  at_ : ∀ (i : Nat) (g : Str × Int), gs[i]? = some g → ∃ a, xs[i]? = some (.ref a) ∧ H a = some (.tup [.str g.1, .int g.2])
theorem PairsAt.nil {H : Hp} : PairsAt H [] [] := ⟨rfl, fun i g h => by simp at h⟩
theorem PairsAt.mono {H H' : Hp} {xs : List V} {gs : Gs} (h : PairsAt H xs gs) (e : ∀ b ys, H b = some (.tup ys) → H' b = some (.tup ys)) : PairsAt H' xs gs :=
  ⟨h.len, fun i g hg => by obtain ⟨a, h1, h2⟩ := h.at_ i g hg; exact ⟨a, h1, e _ _ h2⟩⟩
theorem PairsAt.same {H H' : Hp} {xs : List V} {gs : Gs} (h : PairsAt H xs gs) (e : Same H H') : PairsAt H' xs gs := h.mono fun b ys q => e b _ q
theorem PairsAt.item {H : Hp} {xs : List V} {gs : Gs} (h : PairsAt H xs gs) {i : Nat} {x : V} (hx : xs[i]? = some x) : ∃ g a, gs[i]? = some g ∧ x = .ref a ∧ H a = some (.tup [.str g.1, .int g.2]) := by
  have hi : i < gs.length := by rw [← h.len]; exact (List.getElem?_eq_some_iff.mp hx).1
  obtain ⟨a, h1, h2⟩ := h.at_ i gs[i] (List.getElem?_eq_getElem hi)
  exact ⟨gs[i], a, List.getElem?_eq_getElem hi, Option.some.inj (hx.symm.trans h1), h2⟩
theorem PairsAt.snoc {H : Hp} {xs : List V} {gs : Gs} {a : Addr} {g : Str × Int} (h : PairsAt H xs gs) (ha : H a = some (.tup [.str g.1, .int g.2])) : PairsAt H (xs ++ [.ref a]) (gs ++ [g]) := by
  refine ⟨by rw [List.length_append, List.length_append, h.len]; rfl, fun i g' hg => ?_⟩
  by_cases hi : i < gs.length
  · rw [List.getElem?_append_left hi] at hg
    rw [List.getElem?_append_left (by rw [h.len]; exact hi)]
    exact h.at_ i g' hg
  · have hi' : i = gs.length := by
      have := (List.getElem?_eq_some_iff.mp hg).1
      rw [List.length_append] at this
      simp at this
      omega
    subst hi'
    rw [List.getElem?_append_right (Nat.le_refl _)] at hg
    simp at hg
    subst hg
    refine ⟨a, ?_, ha⟩
    rw [List.getElem?_append_right (by rw [h.len]; exact Nat.le_refl _), h.len]
    simp
theorem take_snoc {α : Type} {l : List α} {i : Nat} {x : α} (h : l[i]? = some x) : l.take (i + 1) = l.take i ++ [x] := by
  rw [List.take_add_one, h]; rfl
theorem wsum_snoc (gs : Gs) (g : Str × Int) : wsum (gs ++ [g]) = wsum gs + g.2 := by
  unfold wsum; rw [List.map_append, List.sum_append]; simp
theorem wsum_nonneg {gs : Gs} (h : ∀ g ∈ gs, 1 ≤ g.2) : 0 ≤ wsum gs := by
  induction gs with
  | nil => exact Int.le_refl _
  | cons g r ih =>
    have h1 := h g (List.mem_cons_self ..)
    have h2 := ih fun x hx => h x (List.mem_cons_of_mem _ hx)
    show 0 ≤ (g.2 :: r.map (·.2)).sum
    rw [List.sum_cons]
    have h3 : 0 ≤ (r.map (·.2)).sum := h2
    omega
theorem wsum_pos {gs : Gs} (h : ∀ g ∈ gs, 1 ≤ g.2) (hn : gs ≠ []) : 1 ≤ wsum gs := by
  cases gs with
  | nil => exact absurd rfl hn
  | cons g r =>
    have h1 := h g (List.mem_cons_self ..)
    have h2 : 0 ≤ wsum r := wsum_nonneg fun x hx => h x (List.mem_cons_of_mem _ hx)
    show 1 ≤ (g.2 :: r.map (·.2)).sum
    rw [List.sum_cons]
    have h3 : 0 ≤ (r.map (·.2)).sum := h2
    omega
theorem wsum_le {gs : Gs} {m : Int} (h : ∀ g ∈ gs, g.2 ≤ m) : wsum gs ≤ m * gs.length := by
  induction gs with
  | nil => show (0 : Int) ≤ m * 0; omega
  | cons g r ih =>
    have h1 := h g (List.mem_cons_self ..)
    have h2 := ih fun x hx => h x (List.mem_cons_of_mem _ hx)
    have e : wsum (g :: r) = g.2 + wsum r := by show (g.2 :: r.map (·.2)).sum = _; rw [List.sum_cons]; rfl
    rw [e, List.length_cons, Int.natCast_add, Int.mul_add]
    omega
def thr (gs : Gs) : Int := wsum gs * 2 / 3 + 1
/-- a set's total, its bounds -/
structure GsOk (gs : Gs) : Prop where
  pos : ∀ g ∈ gs, 1 ≤ g.2
  top : ∀ g ∈ gs, g.2 ≤ 1000000
  few : gs.length ≤ 1000
theorem GsOk.lo {gs : Gs} (h : GsOk gs) : 0 ≤ wsum gs := wsum_nonneg h.pos
theorem GsOk.hi {gs : Gs} (h : GsOk gs) : wsum gs ≤ 1000000000 := by
  have h1 := wsum_le h.top
  have h2 := h.few
  omega
theorem GsOk.take {gs : Gs} (h : GsOk gs) (i : Nat) : GsOk (gs.take i) :=
  ⟨fun g hg => h.pos g (List.mem_of_mem_take hg), fun g hg => h.top g (List.mem_of_mem_take hg), by rw [List.length_take]; have := h.few; omega⟩
def sp_total (K : PySem.W.Frag) : Sp := fun vs H Q _ => ∃ (a : Addr) (xs : List V) (gs : Gs), vs = [.ref a] ∧ SqT K H a xs ∧ PairsAt H xs gs ∧ GsOk gs ∧ ∀ H', Same H H' → Q (.int (wsum gs)) H'
def sp_threshold (K : PySem.W.Frag) : Sp := fun vs H Q _ => ∃ (a : Addr) (xs : List V) (gs : Gs), vs = [.ref a] ∧ SqT K H a xs ∧ PairsAt H xs gs ∧ GsOk gs ∧ ∀ H', Same H H' → Q (.int (thr gs)) H'
def sp_minority (K : PySem.W.Frag) : Sp := fun vs H Q _ => ∃ (a : Addr) (xs : List V) (gs : Gs), vs = [.ref a] ∧ SqT K H a xs ∧ PairsAt H xs gs ∧ GsOk gs ∧ ∀ H', Same H H' → Q (.int (wsum gs - thr gs + 1)) H'
section
variable {P : Program} {w : World} {K : PySem.W.Frag} {mg : Str → Option Value} {base : Heap}
theorem ok_total (T : Txt K mg) : FnOk P w K mg base CX0 1 T.f_total T.d_total ["guards"] (sp_total K) := by
  refine T.F_total.ok sc_total (fun vs H Q E h => ?_) (fun cdv A outer s H vs Q E hr h => ?_)
  · obtain ⟨a, xs, gs, rfl, _⟩ := h; rfl
  · obtain ⟨a, xs, gs, rfl, hT, hP, hG, k⟩ := h
    refine ⟨_, (pss_one (ps_ret (pe_callB (cr_sum rfl) (by rfl) T.z_sum boot_sum (pa_cons (pe_lc (own := [("_", 1), ("weight", 2)]) (g := (gTup K 2 (gCons (gName 1) (gCons (gName 2) gNil)))) (tt := tYes) (te := (tVar 2)) rfl sc_total.nd (pi_tup (pv 0)) (blkOk_by (own := [("_", 1), ("weight", 2)]) (N := ["guards", "_", "weight"]) (sc := defScope s_total) (by decide +kernel)) (fun _ _ _ _ _ => (pg_tup rfl (pgs_cons (pg_name (i := 1) sc_total.nd rfl (Or.inl rfl)) (pgs_cons (pg_name (i := 2) sc_total.nd rfl (Or.inl rfl)) pgs_nil)))) (fun _ _ _ _ _ => pts_nil) (fun _ _ _ _ _ => (pv 2))) pa_nil)))), ?_⟩
    (dsimp only [cxOf, Cx.nox, Cx.wish, L2.start, List.map, List.length, List.replicate, List.cons_append, List.nil_append, List.append_eq, Nat.reduceSub, Nat.reduceAdd])
    walk_at "my_rd"
    refine q_lcT hT (fun D nD => ⟨fun i H2 => Same H H2 ∧ H2 D = some (.lst (((gs.take i).map (·.2)).map V.int)), ⟨Same.new (Same.refl _) nD, upd_same⟩, fun i H2 _ h => Same.sqT h.1 hT, ?_, ?_⟩)
    · rintro i x H2 hx ⟨sm, hD⟩
      obtain ⟨g, b, hg, rfl, hb⟩ := hP.item hx
      refine q_gTup (sqT (sm _ _ hb)) rfl ?_
      walk_at "my_rd"
      refine ⟨rfl, ?_⟩
      walk_at "my_rd"
      refine q_accK hD (by rw [List.length_map, List.length_map, List.length_take]; exact small1000 (by have := hG.few; omega)) ⟨Same.new sm nD, ?_⟩
      rw [upd_same, take_snoc hg, List.map_append, List.map_append]
      rfl
    · rintro H2 ⟨sm, hD⟩
      have e : gs.take xs.length = gs := List.take_of_length_le (by rw [hP.len]; exact Nat.le_refl _)
      rw [e] at hD
      walk_at "my_rd"
      refine q_sum (sqL hD) ?_
      walk_at "my_rd"
      exact k H2 sm
theorem ok_threshold (T : Txt K mg) : FnOk P w K mg base CX0 2 T.f_threshold T.d_threshold ["guards"] (sp_threshold K) := by
  refine T.F_threshold.ok sc_threshold (fun vs H Q E h => ?_) (fun cdv A outer s H vs Q E hr h => ?_)
  · obtain ⟨a, xs, gs, rfl, _⟩ := h; rfl
  · obtain ⟨a, xs, gs, rfl, hT, hP, hG, k⟩ := h
    have h0 := hG.lo
    have h1 := hG.hi
    refine ⟨_, (pss_one (ps_ret (pe_op op_add (pe_op op_fdiv (pe_op op_mul (pe_call (ok_total T) (hr.mono (by decide)) (by rfl) T.g_total T.F_total.kp T.b_total .nil pass0 (pa_cons (pv 0) pa_nil)) pe_int) pe_int) pe_int))), ?_⟩
    (dsimp only [cxOf, Cx.nox, Cx.wish, L2.start, List.map, List.length, List.replicate, List.cons_append, List.nil_append, List.append_eq, Nat.reduceSub, Nat.reduceAdd])
    walk_at "my_rd"
    refine ⟨a, xs, gs, rfl, hT, hP, hG, fun H2 sm => ?_⟩
    walk_at "my_rd"
    exact k H2 sm
theorem ok_minority (T : Txt K mg) : FnOk P w K mg base CX0 3 T.f_minority T.d_minority ["guards"] (sp_minority K) := by
  refine T.F_minority.ok sc_minority (fun vs H Q E h => ?_) (fun cdv A outer s H vs Q E hr h => ?_)
  · obtain ⟨a, xs, gs, rfl, _⟩ := h; rfl
  · obtain ⟨a, xs, gs, rfl, hT, hP, hG, k⟩ := h
    refine ⟨_, (pss_one (ps_ret (pe_op op_add (pe_op op_sub (pe_call (ok_total T) (hr.mono (by decide)) (by rfl) T.g_total T.F_total.kp T.b_total .nil pass0 (pa_cons (pv 0) pa_nil)) (pe_call (ok_threshold T) (hr.mono (by decide)) (by rfl) T.g_threshold T.F_threshold.kp T.b_threshold .nil pass0 (pa_cons (pv 0) pa_nil))) pe_int))), ?_⟩
    (dsimp only [cxOf, Cx.nox, Cx.wish, L2.start, List.map, List.length, List.replicate, List.cons_append, List.nil_append, List.append_eq, Nat.reduceSub, Nat.reduceAdd])
    walk_at "my_rd"
    refine ⟨a, xs, gs, rfl, hT, hP, hG, fun H2 sm => ?_⟩
    walk_at "my_rd"
    refine ⟨a, xs, gs, rfl, Same.sqT sm hT, hP.same sm, hG, fun H3 sm2 => ?_⟩
    walk_at "my_rd"
    exact k H3 (sm.trans sm2)
end

/-! the law's sets -/
def nm (k : Nat) : Str := ("g" : Str) ++ (toString (k : Int) : Str)
def allNames : List Str := (List.range 7).map nm
theorem allNames_nodup : allNames.Nodup := by decide +kernel
theorem allNames_len : allNames.length = 7 := rfl
/-- a drawn set -/
structure Drawn (gs : Gs) : Prop where
  ne : gs ≠ []
  few : gs.length ≤ 7
  nd : (gs.map (·.1)).Nodup
  nms : ∀ g ∈ gs, g.1 ∈ allNames
  pos : ∀ g ∈ gs, 1 ≤ g.2
  top : ∀ g ∈ gs, g.2 ≤ 50
theorem Drawn.ok {gs : Gs} (h : Drawn gs) : GsOk gs := ⟨h.pos, fun g hg => by have := h.top g hg; omega, by have := h.few; omega⟩
def sp_Lset : Sp := fun vs H Q _ => ∃ (p l : Addr) (m : Int), vs = [.ref p, .int m] ∧ PotAt H p l ∧ 0 < m ∧ m ≤ 7 ∧ ∀ (a : Addr) (xs : List V) (gs : Gs) (H' : Hp), H a = none → H' a = some (.tup xs) → PairsAt H' xs gs → Drawn gs → (gs.length : Int) ≤ m → PotAt H' p l → Kp p H H' → Q (.ref a) H'
theorem perm_eraseIdx {α : Type} : ∀ {l : List α} {n : Nat} {x : α}, l[n]? = some x → (x :: l.eraseIdx n).Perm l
  | [], _, _, h => by simp at h
  | a :: r, 0, x, h => by
    have e : a = x := Option.some.inj h
    subst e
    exact List.Perm.refl _
  | a :: r, n + 1, x, h => by
    have ih := perm_eraseIdx (l := r) (n := n) (x := x) h
    show (x :: a :: r.eraseIdx n).Perm (a :: r)
    exact (List.Perm.swap a x _).trans (List.Perm.cons a ih)
theorem map_erase {α β : Type} (f : α → β) : ∀ (l : List α) (n : Nat), (l.map f).eraseIdx n = (l.eraseIdx n).map f
  | [], _ => rfl
  | _ :: _, 0 => rfl
  | a :: r, n + 1 => by
    show f a :: (r.map f).eraseIdx n = f a :: (r.eraseIdx n).map f
    rw [map_erase f r n]
theorem PairsAt.updL {H : Hp} {xs zs ys : List V} {gs : Gs} {F : Addr} (h : PairsAt H xs gs) (hF : H F = some (.lst ys)) : PairsAt (upd H F (.lst zs)) xs gs :=
  h.mono fun b ws q => upd_other (ne_of q hF (by intro z; cases z)) q
theorem PairsAt.new {H : Hp} {xs : List V} {gs : Gs} {F : Addr} {o : HO} (h : PairsAt H xs gs) (hF : H F = none) : PairsAt (upd H F o) xs gs :=
  h.mono fun b ws q => upd_new hF q
theorem PairsAt.kp {H H' : Hp} {xs : List V} {gs : Gs} {p l : Addr} (h : PairsAt H xs gs) (pot : PotAt H p l) (kp : Kp p H H') : PairsAt H' xs gs :=
  h.mono fun b ws q => by
    obtain ⟨ns, i, c, s, h1, _⟩ := pot
    exact kp _ _ q (ne_of q h1 (by intro z; cases z))
theorem nm_short : ∀ k : Nat, k < 7 → (Str.ofString (toString (k : Int))).length ≤ 5 := by decide +kernel
theorem names_pop {gn ss : List Str} {x : Str} {n : Nat} (hx : ss[n]? = some x) (h : (gn ++ ss).Nodup) : ((gn ++ [x]) ++ ss.eraseIdx n).Nodup := by
  obtain ⟨hn, e⟩ := List.getElem?_eq_some_iff.mp hx
  have hp : (x :: ss.eraseIdx n).Perm ss := perm_eraseIdx hx
  rw [List.append_assoc]
  exact (List.Perm.append_left gn hp).nodup_iff.mpr h
section
variable {P : Program} {w : World} {K : PySem.W.Frag} {mg : Str → Option Value} {base : Heap}
theorem ok_L_set (T : Txt K mg) : FnOk P w K mg base CX0 2 T.f_L_set T.d_L_set ["pot", "most"] sp_Lset := by
  refine T.F_L_set.ok sc_L_set (fun vs H Q E h => ?_) (fun cdv A outer s H vs Q E hr h => ?_)
  · obtain ⟨p, l, m, rfl, _⟩ := h; rfl
  · obtain ⟨p, l, m, rfl, pot, hm, hm7, k⟩ := h
    refine ⟨_, (pss_cons (ps_setLc (i := 2) (own := [("k", 4)]) (g := (gName 4)) (tt := tYes) (te := (tOp rAddStr (tC (.str "g")) (tCB rStrInt (tCons (tVar 4) tNil)))) rfl sc_L_set.nd rfl rfl (sw_true rfl rfl rfl (by decide +kernel)) (pi_range1 (by rfl) T.z_range (pa_cons pe_int pa_nil)) (blkOk_by (own := [("k", 4)]) (N := ["pot", "most", "names", "found", "k"]) (sc := defScope s_L_set) (by decide +kernel)) (fun _ _ _ _ _ => (pg_name (i := 4) sc_L_set.nd rfl (Or.inl rfl))) (fun _ _ _ _ _ => pts_nil) (fun _ _ _ _ _ => (pe_op oq_addStr pe_str (pe_callTy cq_strInt (by rfl) T.z_str boot_str (pa_cons (pv 4) pa_nil)))))
      (pss_cons (ps_set (i := 3) sc_L_set.nd rfl (Or.inl rfl) (pe_lst pa_nil))
      (pss_cons (ps_for PassesOwn.never rfl (pi_range1 (by rfl) T.z_range (pa_cons (pe_op op_add pe_int (pe_call (ok_L_next T) (hr.mono (by decide)) (by rfl) T.g_L_next T.F_L_next.kp T.b_L_next .nil pass0 (pa_cons (pv 0) (pa_cons (pv 1) pa_nil)))) pa_nil)) (pg_name (i := 4) sc_L_set.nd rfl (Or.inl rfl))
        (pss_one (ps_expr (pe_bm PySem.F.plainAttrs_list PySem.F.slot_list_append PySem.F.type_list_append mt_append (pv 3) (pa_cons (pe_tup (pa_cons (pe_bm PySem.F.plainAttrs_list PySem.F.slot_list_pop PySem.F.type_list_pop mt_popAt (pv 2) (pa_cons (pe_call (ok_L_next T) (hr.mono (by decide)) (by rfl) T.g_L_next T.F_L_next.kp T.b_L_next .nil pass0 (pa_cons (pv 0) (pa_cons (pe_callB cq_len (by rfl) T.z_len boot_len (pa_cons (pv 2) pa_nil)) pa_nil))) pa_nil)) (pa_cons (pe_op op_add pe_int (pe_call (ok_L_next T) (hr.mono (by decide)) (by rfl) T.g_L_next T.F_L_next.kp T.b_L_next .nil pass0 (pa_cons (pv 0) (pa_cons (pe_ix ix_list (pe_lst (pa_cons pe_int (pa_cons pe_int (pa_cons pe_int pa_nil)))) (pe_call (ok_L_next T) (hr.mono (by decide)) (by rfl) T.g_L_next T.F_L_next.kp T.b_L_next .nil pass0 (pa_cons (pv 0) (pa_cons pe_int pa_nil))) (fun _ _ => rfl)) pa_nil)))) pa_nil))) pa_nil)))))
      (pss_one (ps_ret (pe_callTy cq_tupOf (by rfl) T.z_tuple boot_tuple (pa_cons (pv 3) pa_nil))))))), ?_⟩
    (dsimp only [cxOf, Cx.nox, Cx.wish, L2.start, List.map, List.length, List.replicate, List.cons_append, List.nil_append, List.append_eq, Nat.reduceSub, Nat.reduceAdd])
    walk_at "my_rd"
    refine q_lcR ⟨by decide, by decide⟩ (fun N nN => ⟨fun i H2 => Same H H2 ∧ H2 N = some (.lst (((List.range i).map nm).map V.str)), ⟨Same.new (Same.refl _) nN, upd_same⟩, ?_, ?_⟩)
    · rintro i H2 hi ⟨sm, hD⟩
      have hi7 : i < 7 := by omega
      walk_at "my_rd"
      refine ⟨rfl, ?_⟩
      walk_at "my_rd"
      refine q_strInt (Nat.lt_of_le_of_lt (Nat.log2_le_self _) (by omega)) ?_
      refine q_addStr ?_ ?_
      · have := nm_short i hi7
        have h1 : (Str.ofString "g").length = 1 := rfl
        exact Nat.le_of_lt (small1000 (by omega))
      · walk_at "my_rd"
        refine q_accK hD (by rw [List.length_map, List.length_map, List.length_range]; exact small1000 (by omega)) ⟨Same.new sm nN, ?_⟩
        rw [upd_same, List.range_succ, List.map_append, List.map_append]
        rfl
    · rintro H2 ⟨sm, hN⟩
      have hN : H2 N = some (.lst (allNames.map V.str)) := hN
      walk_at "my_rd"
      refine q_lstK (Nat.zero_le _) fun F nF => ?_
      have nNF : N ≠ F := ne_of_none hN nF
      have hF0 : H F = none := Same.free sm nF
      have nNp : N ≠ p := pot.nep nN
      have nNl : N ≠ l := pot.nel nN
      have nFp : F ≠ p := pot.nep hF0
      have nFl : F ≠ l := pot.nel hF0
      walk_at "my_rd"
      refine ⟨p, l, m, rfl, (pot.same sm).new nF, hm, by omega, fun r H4 r0 r1 pot4 kp4 => ?_⟩
      have hN4 : H4 N = some (.lst (allNames.map V.str)) := Kp.get kp4 (upd_new nF hN) nNp
      have hF4 : H4 F = some (.lst []) := Kp.get kp4 upd_same nFp
      have kp0 : Kp p H H4 := Kp.trans (Kp.new (Same.kp sm) hF0) kp4
      walk_at "my_rd"
      refine q_forR ⟨by omega, by omega⟩ (fun i σ H5 => ∃ (ss : List Str) (xs : List V) (gs : Gs) (kv : Option V), σ = [some (.ref p), some (.int m), some (.ref N), some (.ref F), kv] ∧ H5 N = some (.lst (ss.map V.str)) ∧ H5 F = some (.lst xs) ∧ PairsAt H5 xs gs ∧ gs.length = i ∧ ss.length + i = 7 ∧ (gs.map (·.1) ++ ss).Nodup ∧ (∀ g ∈ gs, g.1 ∈ allNames) ∧ (∀ s ∈ ss, s ∈ allNames) ∧ (∀ g ∈ gs, 1 ≤ g.2) ∧ (∀ g ∈ gs, g.2 ≤ 50) ∧ PotAt H5 p l ∧ Kp p H H5)
        ⟨allNames, [], [], none, rfl, hN4, hF4, PairsAt.nil, rfl, allNames_len, allNames_nodup, by simp, fun s hs => hs, by simp, by simp, pot4, kp0⟩ ?_ ?_
      · rintro i σ H5 hi ⟨ss, xs, gs, kv, rfl, hN5, hF5, hP5, hl, hsl, hnd, hnm, hss, hpos, htop, pot5, kp5⟩
        walk_at "my_rd"
        refine ⟨p, l, _, rfl, pot5, by rw [List.length_map]; omega, by rw [List.length_map]; omega, fun r2 H6 a0 a1 pot6 kp6 => ?_⟩
        rw [List.length_map] at a1
        have hN6 : H6 N = some (.lst (ss.map V.str)) := Kp.get kp6 hN5 nNp
        have hF6 : H6 F = some (.lst xs) := Kp.get kp6 hF5 nFp
        have hP6 := hP5.kp pot5 kp6
        have hr2 : r2.toNat < ss.length := by omega
        have hx : ss[r2.toNat]? = some ss[r2.toNat] := List.getElem?_eq_getElem hr2
        walk_at "my_rd"
        refine q_popAt (n := r2.toNat) hN6 (by omega) (by rw [List.length_map]; exact hr2) (by omega) (v := .str ss[r2.toNat]) (by rw [List.getElem?_map, hx]; rfl) ?_
        rw [map_erase]
        generalize hH7 : upd H6 N (HO.lst ((ss.eraseIdx r2.toNat).map V.str)) = H7
        have hN7 : H7 N = some (.lst ((ss.eraseIdx r2.toNat).map V.str)) := by rw [← hH7]; exact upd_same
        have hF7 : H7 F = some (.lst xs) := by rw [← hH7]; exact upd_other nNF.symm hF6
        have hP7 : PairsAt H7 xs gs := by rw [← hH7]; exact hP6.updL hN6
        have pot7 : PotAt H7 p l := by rw [← hH7]; exact pot6.upd nNp nNl
        have kp7 : Kp p H H7 := by rw [← hH7]; exact Kp.new (Kp.trans kp5 kp6) nN
        walk_at "my_rd"
        refine q_lstK (by decide) fun M nM => ?_
        walk_at "my_rd"
        refine ⟨p, l, 3, rfl, pot7.new nM, by omega, by omega, fun r3 H8 b0 b1 pot8 kp8 => ?_⟩
        have hM8 : H8 M = some (.lst [.int 1, .int 4, .int 50]) := Kp.get kp8 upd_same (pot7.nep nM)
        obtain ⟨lim, hlim, l0, l1⟩ : ∃ lim : Int, atI [V.int 1, V.int 4, V.int 50] r3 = some (.int lim) ∧ 1 ≤ lim ∧ lim ≤ 50 := by
          have : r3 = 0 ∨ r3 = 1 ∨ r3 = 2 := by omega
          rcases this with rfl | rfl | rfl
          · exact ⟨1, rfl, by omega, by omega⟩
          · exact ⟨4, rfl, by omega, by omega⟩
          · exact ⟨50, rfl, by omega, by omega⟩
        walk_at "my_rd"
        refine q_ixLt hM8 hlim ?_
        walk_at "my_rd"
        refine ⟨p, l, lim, rfl, pot8, by omega, by omega, fun r4 H9 c0 c1 pot9 kp9 => ?_⟩
        have kp79 : Kp p (upd H7 M (.lst [.int 1, .int 4, .int 50])) H9 := Kp.trans kp8 kp9
        have hN9 : H9 N = some (.lst ((ss.eraseIdx r2.toNat).map V.str)) := Kp.get kp79 (upd_new nM hN7) nNp
        have hF9 : H9 F = some (.lst xs) := Kp.get kp79 (upd_new nM hF7) nFp
        have hP9 : PairsAt H9 xs gs := (hP7.new nM).kp (pot7.new nM) kp79
        have hM0 : H M = none := Kp.fresh kp7 pot.at.choose_spec nM (pot7.nep nM)
        have kp09 : Kp p H H9 := Kp.trans (Kp.new kp7 hM0) kp79
        walk_at "my_rd"
        refine q_tupK (by show 2 ≤ sizeLine; decide) fun U nU => ?_
        have hU0 : H U = none := Kp.fresh kp09 pot.at.choose_spec nU (pot9.nep nU)
        have nFU : F ≠ U := ne_of_none hF9 nU
        have nNU : N ≠ U := ne_of_none hN9 nU
        walk_at "my_rd"
        refine q_append (upd_new nU hF9) (by rw [hP9.len]; exact small1000 (by omega)) ?_
        walk_at "my_rd"
        refine ⟨ss.eraseIdx r2.toNat, xs ++ [.ref U], gs ++ [(ss[r2.toNat], 1 + r4)], _, rfl, upd_other nNF (upd_new nU hN9), upd_same, ?_, by rw [List.length_append, hl]; rfl, ?_, ?_, ?_, ?_, ?_, ?_, (pot9.new nU).upd nFp nFl, Kp.new (Kp.new kp09 hU0) hF0⟩
        · exact ((hP9.new nU).snoc (g := (ss[r2.toNat], 1 + r4)) upd_same).updL (upd_new nU hF9)
        · rw [List.length_eraseIdx_of_lt hr2]; omega
        · rw [List.map_append]
          exact names_pop hx hnd
        · intro g hg
          rcases List.mem_append.mp hg with h | h
          · exact hnm g h
          · rw [List.mem_singleton.mp h]; exact hss _ (List.mem_of_getElem? hx)
        · intro z hz
          exact hss z (List.mem_of_mem_eraseIdx hz)
        · intro g hg
          rcases List.mem_append.mp hg with h | h
          · exact hpos g h
          · rw [List.mem_singleton.mp h]; show 1 ≤ 1 + r4; omega
        · intro g hg
          rcases List.mem_append.mp hg with h | h
          · exact htop g h
          · rw [List.mem_singleton.mp h]; show 1 + r4 ≤ 50; omega
      · rintro σ H5 ⟨ss, xs, gs, kv, rfl, hN5, hF5, hP5, hl, hsl, hnd, hnm, hss, hpos, htop, pot5, kp5⟩
        walk_at "my_rd"
        refine q_tupL (sqL hF5) fun a na => ?_
        walk_at "my_rd"
        refine k a xs gs _ (Kp.fresh kp5 pot.at.choose_spec na (pot5.nep na)) upd_same (hP5.new na) ⟨?_, by omega, (List.nodup_append.mp hnd).1, hnm, hpos, htop⟩ (by omega) (pot5.new na) (Kp.new kp5 (Kp.fresh kp5 pot.at.choose_spec na (pot5.nep na)))
        rintro rfl
        simp at hl
        omega
end

/-! values as data -/
def intD : PyData → Bool
  | .int _ => true
  | _ => false
def boolD : PyData → Bool
  | .bool _ => true
  | _ => false
def strD : PyData → Bool
  | .str _ => true
  | _ => false
def tupD : PyData → Bool
  | .tuple _ => true
  | _ => false
def leastD (n : Int) : PyData → Bool
  | .int i => decide (n ≤ i)
  | _ => false
def okCode (c : Nat) : Bool := decide (32 ≤ c) && decide (c ≤ 126) && !decide (c = 37)
def textS (s : Str) : Bool := s.cps.toList.all okCode
def textD : PyData → Bool
  | .str s => textS s
  | _ => false
def shortD (m : Int) : PyData → Bool
  | .str s => textS s && (decide (1 ≤ (s.length : Int)) && decide ((s.length : Int) ≤ m))
  | _ => false
def accD : PyData → Bool := shortD 20
/-- the type of a value -/
def tyD : PyData → String
  | .none => "NoneType"
  | .bool _ => "bool"
  | .int _ => "int"
  | .str _ => "str"
  | .list _ => "list"
  | .tuple _ => "tuple"
  | .dict _ => "dict"
theorem dp_ty {K : PySem.W.Frag} {H : Hp} {v : V} {d : PyData} (h : Dp K H v d) : TyX K H v (.type (tyD d)) := by
  cases h with
  | non => exact .base .non
  | bl b => exact .base (.bl b)
  | int i => exact .base (.int i)
  | str x => exact .base (.str x)
  | lst h1 h2 =>
    rcases h1 with (h | ⟨o, h⟩) | ⟨o, its, n, h, h3, _⟩
    · exact .base (.lst h)
    · exact .base (.frz h)
    · exact .kList h h3
  | tup h1 h2 =>
    rcases h1 with (h | ⟨o, h⟩) | ⟨o, its, n, h, h3, _⟩
    · exact .base (.tup h)
    · exact .fTuple h
    · exact .kTuple h h3
def tyB (n : String) (d : PyData) : Bool := decide (tyD d = n) || (decide (n = "int") && decide (tyD d = "bool"))
theorem q_isiD {K : PySem.W.Frag} {H : Hp} {Q : VK} {v : V} {d : PyData} {n : String} {b : Bool} (h : Dp K H v d) (hk : kitB (tyD d) n = some b) (k : Q (.bl b) H) : rIsi K [v, .ty n] H Q := q_isi (dp_ty h) (kit_ty hk) k
theorem kit_int (d : PyData) : kitB (tyD d) "int" = some (intD d || boolD d) := by
  cases d <;> first | exact (by decide +kernel : kitB "NoneType" "int" = some false) | exact (by decide +kernel : kitB "bool" "int" = some true) | exact (by decide +kernel : kitB "int" "int" = some true) | exact (by decide +kernel : kitB "str" "int" = some false) | exact (by decide +kernel : kitB "list" "int" = some false) | exact (by decide +kernel : kitB "tuple" "int" = some false) | exact (by decide +kernel : kitB "dict" "int" = some false)
theorem kit_bool (d : PyData) : kitB (tyD d) "bool" = some (boolD d) := by
  cases d <;> first | exact (by decide +kernel : kitB "NoneType" "bool" = some false) | exact (by decide +kernel : kitB "bool" "bool" = some true) | exact (by decide +kernel : kitB "int" "bool" = some false) | exact (by decide +kernel : kitB "str" "bool" = some false) | exact (by decide +kernel : kitB "list" "bool" = some false) | exact (by decide +kernel : kitB "tuple" "bool" = some false) | exact (by decide +kernel : kitB "dict" "bool" = some false)
theorem kit_str (d : PyData) : kitB (tyD d) "str" = some (strD d) := by
  cases d <;> first | exact (by decide +kernel : kitB "NoneType" "str" = some false) | exact (by decide +kernel : kitB "bool" "str" = some false) | exact (by decide +kernel : kitB "int" "str" = some false) | exact (by decide +kernel : kitB "str" "str" = some true) | exact (by decide +kernel : kitB "list" "str" = some false) | exact (by decide +kernel : kitB "tuple" "str" = some false) | exact (by decide +kernel : kitB "dict" "str" = some false)
theorem kit_tuple (d : PyData) : kitB (tyD d) "tuple" = some (tupD d) := by
  cases d <;> first | exact (by decide +kernel : kitB "NoneType" "tuple" = some false) | exact (by decide +kernel : kitB "bool" "tuple" = some false) | exact (by decide +kernel : kitB "int" "tuple" = some false) | exact (by decide +kernel : kitB "str" "tuple" = some false) | exact (by decide +kernel : kitB "list" "tuple" = some false) | exact (by decide +kernel : kitB "tuple" "tuple" = some true) | exact (by decide +kernel : kitB "dict" "tuple" = some false)
mutual
theorem dp_mono {K : PySem.W.Frag} {H H' : Hp} (sm : Same H H') : ∀ {v : V} {d : PyData}, Dp K H v d → Dp K H' v d
  | _, _, .non => .non
  | _, _, .bl b => .bl b
  | _, _, .int i => .int i
  | _, _, .str x => .str x
  | _, _, .lst h1 h2 => .lst (Same.seq sm h1) (dpall_mono sm h2)
  | _, _, .tup h1 h2 => .tup (Same.sqT sm h1) (dpall_mono sm h2)
theorem dpall_mono {K : PySem.W.Frag} {H H' : Hp} (sm : Same H H') : ∀ {vs : List V} {ds : List PyData}, DpAll K H vs ds → DpAll K H' vs ds
  | _, _, .nil => .nil
  | _, _, .cons h1 h2 => .cons (dp_mono sm h1) (dpall_mono sm h2)
end
theorem dpall_len {K : PySem.W.Frag} {H : Hp} : ∀ {vs : List V} {ds : List PyData}, DpAll K H vs ds → vs.length = ds.length
  | _, _, .nil => rfl
  | _, _, .cons _ h => by rw [List.length_cons, List.length_cons, dpall_len h]
theorem dpall_get {K : PySem.W.Frag} {H : Hp} : ∀ {vs : List V} {ds : List PyData} {i : Nat} {v : V}, DpAll K H vs ds → vs[i]? = some v → ∃ d, ds[i]? = some d ∧ Dp K H v d
  | _, _, _, _, .nil, e => by simp at e
  | _, _, 0, _, .cons h _, e => by
    simp at e
    subst e
    exact ⟨_, rfl, h⟩
  | _, _, i + 1, v, .cons _ h, e => by
    obtain ⟨d, h1, h2⟩ := dpall_get h (i := i) (v := v) (by simpa using e)
    exact ⟨d, by simpa using h1, h2⟩
def Fine : PyData → Prop
  | .str s => s.length ≤ 100000
  | _ => True
/-- a def that tells something of one value -/
def sp_tell (K : PySem.W.Frag) (f : PyData → Bool) : Sp := fun vs H Q _ => ∃ (v : V) (d : PyData), vs = [v] ∧ Dp K H v d ∧ Fine d ∧ ∀ H', Same H H' → Q (.bl (f d)) H'
def sp_tell2 (K : PySem.W.Frag) (f : Int → PyData → Bool) : Sp := fun vs H Q _ => ∃ (v : V) (d : PyData) (n : Int), vs = [v, .int n] ∧ Dp K H v d ∧ Fine d ∧ ∀ H', Same H H' → Q (.bl (f n d)) H'
section
variable {P : Program} {w : World} {K : PySem.W.Frag} {mg : Str → Option Value} {base : Heap}
theorem ok_is_integer (T : Txt K mg) : FnOk P w K mg base CX0 1 T.f_is_integer T.d_is_integer ["value"] (sp_tell K intD) := by
  refine T.F_is_integer.ok sc_is_integer (fun vs H Q E h => ?_) (fun cdv A outer s H vs Q E hr h => ?_)
  · obtain ⟨v, d, rfl, _⟩ := h; rfl
  · obtain ⟨v, d, rfl, hd, _, k⟩ := h
    refine ⟨_, (pss_one (ps_ret (pe_and (pe_callB call_isi (by rfl) T.z_isinstance boot_isinstance (pa_cons (pv 0) (pa_cons (pe_bltn (v := .ty "int") (by rfl) T.z_int boot_int rfl) pa_nil))) (pe_one (pe_not (pe_callB call_isi (by rfl) T.z_isinstance boot_isinstance (pa_cons (pv 0) (pa_cons (pe_bltn (v := .ty "bool") (by rfl) T.z_bool boot_bool rfl) pa_nil)))))))), ?_⟩
    (dsimp only [cxOf, Cx.nox, Cx.wish, L2.start, List.map, List.length, List.replicate, List.cons_append, List.nil_append, List.append_eq, Nat.reduceSub, Nat.reduceAdd])
    walk_at "my_rd"
    refine q_isiD hd (kit_int d) ?_
    refine q_andV2 (fun h => ?_) (fun h => ?_)
    · walk_at "my_rd"
      refine q_isiD hd (kit_bool d) ?_
      walk_at "my_rd"
      have e : (!boolD d) = intD d := by cases d <;> first | rfl | cases h
      rw [e]
      exact k H (Same.refl _)
    · have e : false = intD d := by cases d <;> first | rfl | cases h
      rw [e]
      exact k H (Same.refl _)
theorem ok_is_at_least (T : Txt K mg) : FnOk P w K mg base CX0 2 T.f_is_at_least T.d_is_at_least ["value", "least"] (sp_tell2 K leastD) := by
  refine T.F_is_at_least.ok sc_is_at_least (fun vs H Q E h => ?_) (fun cdv A outer s H vs Q E hr h => ?_)
  · obtain ⟨v, d, n, rfl, _⟩ := h; rfl
  · obtain ⟨v, d, n, rfl, hd, hf, k⟩ := h
    refine ⟨_, (pss_one (ps_ret (pe_and (pe_call (ok_is_integer T) (hr.mono (by decide)) (by rfl) T.g_is_integer T.F_is_integer.kp T.b_is_integer .nil pass0 (pa_cons (pv 0) pa_nil)) (pe_one (pe_cmpR op_ge (pv 0) (pv 1) (nomark _)))))), ?_⟩
    (dsimp only [cxOf, Cx.nox, Cx.wish, L2.start, List.map, List.length, List.replicate, List.cons_append, List.nil_append, List.append_eq, Nat.reduceSub, Nat.reduceAdd])
    walk_at "my_rd"
    refine ⟨v, d, rfl, hd, hf, fun H1 sm => ?_⟩
    refine q_andV2 (fun h => ?_) (fun h => ?_)
    · cases hd with
      | int i =>
        walk_at "my_rd"
        exact k H1 sm
      | _ => cases h
    · have e : false = leastD n d := by cases d <;> first | rfl | cases h
      rw [e]
      exact k H1 sm
theorem ok_is_text (T : Txt K mg) : FnOk P w K mg base CX0 1 T.f_is_text T.d_is_text ["value"] (sp_tell K textD) := by
  refine T.F_is_text.ok sc_is_text (fun vs H Q E h => ?_) (fun cdv A outer s H vs Q E hr h => ?_)
  · obtain ⟨v, d, rfl, _⟩ := h; rfl
  · obtain ⟨v, d, rfl, hd, _, k⟩ := h
    refine ⟨_, (pss_cons (ps_if (pt_not (pt_val (pe_callB call_isi (by rfl) T.z_isinstance boot_isinstance (pa_cons (pv 0) (pa_cons (pe_bltn (v := .ty "str") (by rfl) T.z_str boot_str rfl) pa_nil))))) (pss_one (ps_ret pe_bl)) pss_nil)
      (pss_cons (ps_for PassesOwn.never rfl (pi_str (pv 0)) (pg_name (i := 1) sc_is_text.nd rfl (Or.inl rfl))
        (pss_cons (ps_set (i := 2) sc_is_text.nd rfl (Or.inl rfl) (pe_callB cq_ord (by rfl) T.z_ord boot_ord (pa_cons (pv 1) pa_nil)))
      (pss_one (ps_if (PW.pt (pw_or (pt_cmpR op_lt (pv 2) (pe_glob (v := .int 32) (by rfl) T.c_FIRST_CODE ⟨_, rfl⟩) (nomark _)) (pw_or (pt_cmpR op_gt (pv 2) (pe_glob (v := .int 126) (by rfl) T.c_LAST_CODE ⟨_, rfl⟩) (nomark _)) (pw_or1 (pt_cmpR op_eq (pv 2) (pe_glob (v := .int 37) (by rfl) T.c_BARRED_CODE ⟨_, rfl⟩) (nomark _)))))) (pss_one (ps_ret pe_bl)) pss_nil))))
      (pss_one (ps_ret pe_bl)))), ?_⟩
    (dsimp only [cxOf, Cx.nox, Cx.wish, L2.start, List.map, List.length, List.replicate, List.cons_append, List.nil_append, List.append_eq, Nat.reduceSub, Nat.reduceAdd])
    walk_at "my_rd"
    refine q_isiD hd (kit_str d) ?_
    walk_at "my_rd"
    cases hd with
    | str x =>
      show ifK _ _ _ _ false H
      walk_at "my_rd"
      refine q_forS (fun i σ H2 => ∃ c1 c2, σ = [some (.str x), c1, c2] ∧ H2 = H ∧ (x.cps.toList.take i).all okCode = true) ⟨_, _, rfl, rfl, rfl⟩ ?_ ?_
      · rintro i c σ H2 hc ⟨c1, c2, rfl, rfl, hall⟩
        have hc' : x.cps.toList[i]? = some c := by rw [Array.getElem?_toList]; exact hc
        have bad : okCode c = false → textD (.str x) = false := fun h => by
          show x.cps.toList.all okCode = false
          rw [List.all_eq_false]
          exact ⟨c, List.mem_of_getElem? hc', by rw [h]; exact Bool.false_ne_true⟩
        walk_at "my_rd"
        refine q_or2 (fun h => ?_) (fun h1 => ?_)
        · walk_at "my_rd"
          have h := dec_t h
          rw [← bad (by unfold okCode; rw [decide_eq_false (show ¬ 32 ≤ c by omega)]; rfl)]
          exact k _ (Same.refl _)
        · walk_at "my_rd"
          refine q_or2 (fun h => ?_) (fun h2 => ?_)
          · walk_at "my_rd"
            have h := dec_t h
            rw [← bad (by unfold okCode; rw [decide_eq_false (show ¬ c ≤ 126 by omega), Bool.and_false]; rfl)]
            exact k _ (Same.refl _)
          · walk_at "my_rd"
            refine q_if2 (fun h => ?_) (fun h3 => ?_)
            · walk_at "my_rd"
              have h := dec_t h
              rw [← bad (by unfold okCode; rw [decide_eq_true (show c = 37 by omega), Bool.and_comm]; rfl)]
              exact k _ (Same.refl _)
            · walk_at "my_rd"
              have h1 := dec_f h1
              have h2 := dec_f h2
              have h3 := dec_f h3
              refine ⟨_, _, rfl, rfl, ?_⟩
              rw [take_snoc hc', List.all_append, hall, Bool.true_and, List.all_cons, List.all_nil, Bool.and_true]
              unfold okCode
              rw [decide_eq_true (show 32 ≤ c by omega), decide_eq_true (show c ≤ 126 by omega), decide_eq_false (show ¬ c = 37 by omega)]
              rfl
      · rintro σ H2 ⟨c1, c2, rfl, rfl, hall⟩
        walk_at "my_rd"
        have e : textD (.str x) = true := by
          have e2 : x.cps.toList.take x.cps.size = x.cps.toList := List.take_of_length_le (by simp)
          rw [e2] at hall
          exact hall
        rw [← e]
        exact k _ (Same.refl _)
    | _ =>
      show ifK _ _ _ _ true H
      walk_at "my_rd"
      exact k H (Same.refl _)
theorem ok_is_short_text (T : Txt K mg) : FnOk P w K mg base CX0 2 T.f_is_short_text T.d_is_short_text ["value", "most"] (sp_tell2 K shortD) := by
  refine T.F_is_short_text.ok sc_is_short_text (fun vs H Q E h => ?_) (fun cdv A outer s H vs Q E hr h => ?_)
  · obtain ⟨v, d, n, rfl, _⟩ := h; rfl
  · obtain ⟨v, d, n, rfl, hd, hf, k⟩ := h
    refine ⟨_, (pss_one (ps_ret (pe_and (pe_call (ok_is_text T) (hr.mono (by decide)) (by rfl) T.g_is_text T.F_is_text.kp T.b_is_text .nil pass0 (pa_cons (pv 0) pa_nil)) (pe_one (pe_chain op_le op_le pe_int (pe_callB cq_lenS (by rfl) T.z_len boot_len (pa_cons (pv 0) pa_nil)) (pv 1)))))), ?_⟩
    (dsimp only [cxOf, Cx.nox, Cx.wish, L2.start, List.map, List.length, List.replicate, List.cons_append, List.nil_append, List.append_eq, Nat.reduceSub, Nat.reduceAdd])
    walk_at "my_rd"
    refine ⟨v, d, rfl, hd, hf, fun H1 sm => ?_⟩
    refine q_andV2 (fun h => ?_) (fun h => ?_)
    · cases hd with
      | str x =>
        have hx : x.length ≤ 100000 := hf
        walk_at "my_rd"
        refine q_lenS (Nat.le_trans hx (by decide)) ?_
        walk_at "my_rd"
        have e : shortD n (.str x) = (decide (1 ≤ (x.length : Int)) && decide ((x.length : Int) ≤ n)) := by
          show (textS x && _) = _
          rw [show textS x = true from h, Bool.true_and]
        refine q_ch2 (fun h1 => ?_) (fun h1 => ?_)
        · walk_at "my_rd"
          rw [h1, Bool.true_and] at e
          rw [← e]
          exact k H1 sm
        · rw [h1, Bool.false_and] at e
          rw [← e]
          exact k H1 sm
      | _ => cases h
    · have e : false = shortD n d := by
        cases d <;> first | rfl | (show false = (_ && _); rw [show textS _ = false from h]; rfl)
      rw [e]
      exact k H1 sm
theorem ok_is_account (T : Txt K mg) : FnOk P w K mg base CX0 3 T.f_is_account T.d_is_account ["value"] (sp_tell K accD) := by
  refine T.F_is_account.ok sc_is_account (fun vs H Q E h => ?_) (fun cdv A outer s H vs Q E hr h => ?_)
  · obtain ⟨v, d, rfl, _⟩ := h; rfl
  · obtain ⟨v, d, rfl, hd, hf, k⟩ := h
    refine ⟨_, (pss_one (ps_ret (pe_call (ok_is_short_text T) (hr.mono (by decide)) (by rfl) T.g_is_short_text T.F_is_short_text.kp T.b_is_short_text .nil pass0 (pa_cons (pv 0) (pa_cons (pe_glob (v := .int 20) (by rfl) T.c_ACCOUNT_LENGTH ⟨_, rfl⟩) pa_nil))))), ?_⟩
    (dsimp only [cxOf, Cx.nox, Cx.wish, L2.start, List.map, List.length, List.replicate, List.cons_append, List.nil_append, List.append_eq, Nat.reduceSub, Nat.reduceAdd])
    walk_at "my_rd"
    exact ⟨v, d, 20, rfl, hd, hf, fun H1 sm => k H1 sm⟩
end

/-! pairs and sets, told of any value -/
def pairD : PyData → Bool
  | .tuple [a, b] => accD a && leastD 1 b
  | _ => false
def nameS : PyData → Str
  | .tuple (.str s :: _) => s
  | _ => ""
def setD : PyData → Bool
  | .tuple ds => !ds.isEmpty && (ds.all pairD && decide ((ds.map nameS).Nodup))
  | _ => false
def FineP (d : PyData) : Prop := ∀ a b, d = .tuple [a, b] → Fine a ∧ Fine b
def FineS (d : PyData) : Prop := ∀ ds, d = .tuple ds → ds.length ≤ 1000 ∧ ∀ x ∈ ds, FineP x
theorem pairD_shape {d : PyData} (h : pairD d = true) : ∃ s n, d = .tuple [.str s, .int n] ∧ accD (.str s) = true ∧ 1 ≤ n := by
  unfold pairD at h
  split at h
  · rename_i a b
    rw [Bool.and_eq_true] at h
    obtain ⟨h1, h2⟩ := h
    cases a <;> try cases h1
    cases b <;> try cases h2
    exact ⟨_, _, rfl, h1, of_decide_eq_true h2⟩
  · cases h
def sp_pair (K : PySem.W.Frag) : Sp := fun vs H Q _ => ∃ (v : V) (d : PyData), vs = [v] ∧ Dp K H v d ∧ FineP d ∧ ∀ H', Same H H' → Q (.bl (pairD d)) H'
def sp_set (K : PySem.W.Frag) : Sp := fun vs H Q _ => ∃ (v : V) (d : PyData), vs = [v] ∧ Dp K H v d ∧ FineS d ∧ ∀ H', Same H H' → Q (.bl (setD d)) H'
theorem mem_names {l : List Key} {s : Str} (ks : List Str) (h : l = ks.map Sum.inr) : (Sum.inr s : Key) ∈ l ↔ s ∈ ks := by
  subst h
  constructor
  · intro m
    obtain ⟨z, hz, e⟩ := List.mem_map.mp m
    cases e
    exact hz
  · exact fun m => List.mem_map.mpr ⟨s, m, rfl⟩
section
variable {P : Program} {w : World} {K : PySem.W.Frag} {mg : Str → Option Value} {base : Heap}
theorem ok_is_pair (T : Txt K mg) : FnOk P w K mg base CX0 4 T.f_is_pair T.d_is_pair ["part"] (sp_pair K) := by
  refine T.F_is_pair.ok sc_is_pair (fun vs H Q E h => ?_) (fun cdv A outer s H vs Q E hr h => ?_)
  · obtain ⟨v, d, rfl, _⟩ := h; rfl
  · obtain ⟨v, d, rfl, hd, hf, k⟩ := h
    refine ⟨_, (pss_one (ps_ret (pe_and (pe_callB call_isi (by rfl) T.z_isinstance boot_isinstance (pa_cons (pv 0) (pa_cons (pe_bltn (v := .ty "tuple") (by rfl) T.z_tuple boot_tuple rfl) pa_nil))) (pe_and (pe_cmpR op_eq (pe_callB cq_len (by rfl) T.z_len boot_len (pa_cons (pv 0) pa_nil)) pe_int (nomark _)) (pe_and (pe_call (ok_is_account T) (hr.mono (by decide)) (by rfl) T.g_is_account T.F_is_account.kp T.b_is_account .nil pass0 (pa_cons (pe_ix ix_tup (pv 0) pe_int (fun _ _ => rfl)) pa_nil)) (pe_one (pe_call (ok_is_at_least T) (hr.mono (by decide)) (by rfl) T.g_is_at_least T.F_is_at_least.kp T.b_is_at_least .nil pass0 (pa_cons (pe_ix ix_tup (pv 0) pe_int (fun _ _ => rfl)) (pa_cons pe_int pa_nil))))))))), ?_⟩
    (dsimp only [cxOf, Cx.nox, Cx.wish, L2.start, List.map, List.length, List.replicate, List.cons_append, List.nil_append, List.append_eq, Nat.reduceSub, Nat.reduceAdd])
    walk_at "my_rd"
    refine q_isiD hd (kit_tuple d) ?_
    cases hd with
    | @tup a xs ds h1 h2 =>
      show andVK _ _ _ (.bl true) H
      walk_at "my_rd"
      refine q_lenT h1 ?_
      walk_at "my_rd"
      have hl := dpall_len h2
      by_cases h : xs.length = 2
      · rw [decide_eq_true (show (xs.length : Int) = 2 by omega)]
        obtain ⟨v0, v1, rfl⟩ : ∃ v0 v1, xs = [v0, v1] := by
          match xs, h with
          | [v0, v1], _ => exact ⟨v0, v1, rfl⟩
        cases h2 with
        | cons d0 h2 =>
          cases h2 with
          | cons d1 h2 =>
            cases h2
            obtain ⟨f0, f1⟩ := hf _ _ rfl
            walk_at "my_rd"
            refine q_ixT h1 rfl ?_
            walk_at "my_rd"
            refine ⟨_, _, rfl, d0, f0, fun H1 sm => ?_⟩
            refine q_andV2 (fun h => ?_) (fun h => ?_)
            · walk_at "my_rd"
              refine q_ixT (Same.sqT sm h1) rfl ?_
              walk_at "my_rd"
              refine ⟨_, _, _, rfl, dp_mono sm d1, f1, fun H2 sm2 => ?_⟩
              rename_i y0 y1
              have e : pairD (.tuple [y0, y1]) = leastD 1 y1 := by
                show (accD y0 && leastD 1 y1) = _
                rw [h, Bool.true_and]
              rw [← e]
              exact k H2 (Same.trans sm sm2)
            · rename_i y0 y1
              have e : false = pairD (.tuple [y0, y1]) := by
                show false = (accD y0 && leastD 1 y1)
                rw [h, Bool.false_and]
              rw [e]
              exact k H1 sm
      · rw [decide_eq_false (show ¬ (xs.length : Int) = 2 by omega)]
        have e : false = pairD (.tuple ds) := by
          unfold pairD
          split
          · rename_i heq
            injection heq with heq
            subst heq
            exact absurd hl h
          · rfl
        walk_at "my_rd"
        rw [e]
        exact k H (Same.refl _)
    | _ =>
      show andVK _ _ _ (.bl false) H
      walk_at "my_rd"
      exact k H (Same.refl _)
theorem ok_is_set (T : Txt K mg) : FnOk P w K mg base CX0 5 T.f_is_set T.d_is_set ["value"] (sp_set K) := by
  refine T.F_is_set.ok sc_is_set (fun vs H Q E h => ?_) (fun cdv A outer s H vs Q E hr h => ?_)
  · obtain ⟨v, d, rfl, _⟩ := h; rfl
  · obtain ⟨v, d, rfl, hd, hf, k⟩ := h
    have hu := hu_of hr
    refine ⟨_, (pss_cons (ps_if (PW.pt (pw_or (pt_not (pt_val (pe_callB call_isi (by rfl) T.z_isinstance boot_isinstance (pa_cons (pv 0) (pa_cons (pe_bltn (v := .ty "tuple") (by rfl) T.z_tuple boot_tuple rfl) pa_nil))))) (pw_or1 (pt_not (pt_truth (pv 0) (by intro _; rfl)))))) (pss_one (ps_ret pe_bl)) pss_nil)
      (pss_cons (ps_set (i := 1) sc_is_set.nd rfl (Or.inl rfl) pe_dnewK)
      (pss_cons (ps_for PassesOwn.never rfl (pi_tup (pv 0)) (pg_name (i := 2) sc_is_set.nd rfl (Or.inl rfl))
        (pss_cons (ps_if (PW.pt (pw_or (pt_not (pt_val (pe_call (ok_is_pair T) (hr.mono (by decide)) (by rfl) T.g_is_pair T.F_is_pair.kp T.b_is_pair .nil pass0 (pa_cons (pv 2) pa_nil)))) (pw_or1 (pt_cmp (pc_din hu (pe_ix ix_tup (pv 2) pe_int (fun _ _ => rfl)) (pv 1)))))) (pss_one (ps_ret pe_bl)) pss_nil)
      (pss_one (ps_dput hu (pv 1) (pe_ix ix_tup (pv 2) pe_int (fun _ _ => rfl)) pe_bl rfl))))
      (pss_one (ps_ret pe_bl))))), ?_⟩
    (dsimp only [cxOf, Cx.nox, Cx.wish, L2.start, List.map, List.length, List.replicate, List.cons_append, List.nil_append, List.append_eq, Nat.reduceSub, Nat.reduceAdd])
    walk_at "my_rd"
    refine q_isiD hd (kit_tuple d) ?_
    cases hd with
    | @tup a xs ds h1 h2 =>
      show bK _ (.bl true) H
      walk_at "my_rd"
      have hl := dpall_len h2
      obtain ⟨hfl, hfp⟩ := hf ds rfl

      refine ⟨!xs.isEmpty, .inr (.inl ⟨xs, h1, rfl⟩), ?_⟩
      cases hx : xs.isEmpty with
      | true =>
        show ifK _ _ _ _ true H
        walk_at "my_rd"
        have e : xs = [] := List.isEmpty_iff.mp hx
        subst e
        have e2 : ds = [] := List.length_eq_zero_iff.mp hl.symm
        subst e2
        exact k H (Same.refl _)
      | false =>
        show ifK _ _ _ _ false H
        walk_at "my_rd"
        refine q_dNew fun F nF => ?_
        walk_at "my_rd"
        have e0 : ds.isEmpty = false := by
          cases ds with
          | nil => rw [List.length_eq_zero_iff.mp hl] at hx; cases hx
          | cons _ _ => rfl
        refine q_forT (Same.sqT (Same.new (Same.refl _) nF) h1) (fun i σ H2 => ∃ (kvs : List (Key × V)) (pv : Option V), σ = [some (.ref a), some (.ref F), pv] ∧ Same H H2 ∧ H2 F = some (.dK kvs) ∧ kvs.map (·.1) = ((ds.take i).map nameS).map Sum.inr ∧ (ds.take i).all pairD = true ∧ ((ds.take i).map nameS).Nodup)
          ⟨[], _, rfl, Same.new (Same.refl _) nF, upd_same, rfl, rfl, List.nodup_nil⟩ (fun i σ H2 _ ⟨_, _, _, sm, _⟩ => Same.sqT sm h1) ?_ ?_
        · rintro i x σ H2 hx ⟨kvs, pv, rfl, sm, hF, hk, hall, hnd⟩
          obtain ⟨dx, hdx, hdp⟩ := dpall_get h2 hx
          have hnf : ∀ b, (ds.take (i + 1)).all pairD = b → (b = false → ds.all pairD = false) := fun b hb hb2 => by
            rw [hb2] at hb
            rw [List.all_eq_false] at hb ⊢
            obtain ⟨z, hz, hp⟩ := hb
            exact ⟨z, List.mem_of_mem_take hz, hp⟩
          walk_at "my_rd"
          refine ⟨x, dx, rfl, dp_mono sm hdp, hfp dx (List.mem_of_getElem? hdx), fun H3 sm3 => ?_⟩
          cases hpd : pairD dx with
          | false =>
            walk_at "my_rd"

            walk_at "my_rd"
            have e : false = setD (.tuple ds) := by
              show false = (!ds.isEmpty && (ds.all pairD && _))
              rw [hnf false (by rw [take_snoc hdx, List.all_append, List.all_cons, hpd]; simp) rfl]
              simp
            rw [e]
            exact k H3 (Same.trans sm sm3)
          | true =>
            walk_at "my_rd"
            obtain ⟨nme, wt, rfl, _, _⟩ := pairD_shape hpd
            have hdp3 := dp_mono (Same.trans sm sm3) hdp
            have hF3 := sm3 _ _ hF
            cases hdp3 with
            | @tup b ys es t1 t2 =>
              cases t2 with
              | @cons v0 _ _ _ u0 t2 =>
                cases t2 with
                | cons u1 t3 =>
                cases t3
                cases u0 with
                | str _ =>
                  refine q_ixT t1 rfl ?_
                  walk_at "my_rd"
                  have key : (valV kvs (Sum.inr nme)).isSome = decide (nme ∈ (ds.take i).map nameS) := by
                    cases hv : valV kvs (Sum.inr nme) with
                    | none =>
                      have q := valV_not hv
                      rw [mem_names _ hk] at q
                      exact (decide_eq_false q).symm
                    | some _ =>
                      have q := valV_in hv
                      rw [mem_names _ hk] at q
                      exact (decide_eq_true q).symm
                  rw [key]
                  refine q_if2 (fun h => ?_) (fun h => ?_)
                  · have h := dec_t h
                    walk_at "my_rd"
                    have e : false = setD (.tuple ds) := by
                      show false = (!ds.isEmpty && (ds.all pairD && decide ((ds.map nameS).Nodup)))
                      rw [decide_eq_false, Bool.and_false, Bool.and_false]
                      intro hn
                      have h3 : ((ds.take (i + 1)).map nameS).Nodup := (List.Sublist.map _ (List.take_sublist _ _)).nodup hn
                      rw [take_snoc hdx, List.map_append] at h3
                      exact (List.nodup_append.mp h3).2.2 nme h nme (by simp [nameS]) rfl
                    rw [e]
                    exact k H3 (Same.trans sm sm3)
                  · have h := dec_f h
                    walk_at "my_rd"
                    refine q_ixT t1 rfl ?_
                    have hv : valV kvs (Sum.inr nme) = none := by
                      cases hv : valV kvs (Sum.inr nme) with
                      | none => rfl
                      | some _ =>
                        rw [hv] at key
                        exact absurd (dec_t key.symm) h
                    refine q_dPutS hF3 ?_ ?_
                    · have : kvs.length = (ds.take i).length := by
                        have := congrArg List.length hk
                        simpa using this
                      rw [List.length_take] at this
                      exact small1000 (by omega)
                    · walk_at "my_rd"
                      have e2 : ds.take (i + 1) = ds.take i ++ [PyData.tuple [.str nme, .int wt]] := take_snoc hdx
                      refine ⟨_, _, rfl, Same.new (Same.trans sm sm3) nF, upd_same, ?_, ?_, ?_⟩
                      · rw [putK_new _ hv, List.map_append, hk, e2, List.map_append, List.map_append]
                        rfl
                      · rw [e2, List.all_append, hall, List.all_cons, hpd]
                        rfl
                      · rw [e2, List.map_append]
                        exact nd_snoc hnd h
        · rintro σ H2 ⟨kvs, pv, rfl, sm, hF, hk, hall, hnd⟩
          walk_at "my_rd"
          have et : ds.take xs.length = ds := List.take_of_length_le (by rw [hl]; exact Nat.le_refl _)
          rw [et] at hall hnd
          have e : true = setD (.tuple ds) := by
            show true = (!ds.isEmpty && (ds.all pairD && decide ((ds.map nameS).Nodup)))
            rw [e0, hall, decide_eq_true hnd]
            rfl
          rw [e]
          exact k H2 sm
    | _ =>
      show bK _ (.bl false) H
      walk_at "my_rd"
      exact k H (Same.refl _)
end

/-! the law: sets as data, and spoilt ones -/
def prd (g : Str × Int) : PyData := .tuple [.str g.1, .int g.2]
theorem names_ok : ∀ z ∈ allNames, PyData.strOk z = true ∧ accD (.str z) = true ∧ z.length ≤ 20 := by decide +kernel
theorem PairsAt.tail {H : Hp} {x : V} {xs : List V} {g : Str × Int} {gs : Gs} (h : PairsAt H (x :: xs) (g :: gs)) : PairsAt H xs gs :=
  ⟨by have := h.len; simpa using this, fun i g' hg => by have := h.at_ (i + 1) g' (by simpa using hg); simpa using this⟩
theorem PairsAt.dp {K : PySem.W.Frag} {H : Hp} : ∀ {xs : List V} {gs : Gs}, PairsAt H xs gs → DpAll K H xs (gs.map prd)
  | [], [], _ => .nil
  | [], g :: gs, h => by have := h.len; simp at this
  | x :: xs, [], h => by have := h.len; simp at this
  | x :: xs, g :: gs, h => by
    obtain ⟨a, e, ha⟩ := h.at_ 0 g rfl
    have e : x = .ref a := Option.some.inj e
    subst e
    exact .cons (.tup (sqT ha) (.cons (.str _) (.cons (.int _) .nil))) h.tail.dp
theorem Drawn.set {gs : Gs} (h : Drawn gs) : setD (.tuple (gs.map prd)) = true := by
  have h1 : (gs.map prd).isEmpty = false := by
    cases gs with
    | nil => exact absurd rfl h.ne
    | cons _ _ => rfl
  have h2 : (gs.map prd).all pairD = true := by
    rw [List.all_eq_true]
    intro d hd
    obtain ⟨g, hg, rfl⟩ := List.mem_map.mp hd
    show (accD (.str g.1) && leastD 1 (.int g.2)) = true
    rw [(names_ok _ (h.nms g hg)).2.1, Bool.true_and]
    exact decide_eq_true (h.pos g hg)
  have h3 : ((gs.map prd).map nameS) = gs.map (·.1) := by
    rw [List.map_map]
    rfl
  show (!(gs.map prd).isEmpty && ((gs.map prd).all pairD && decide (((gs.map prd).map nameS).Nodup))) = true
  rw [h1, h2, h3, decide_eq_true h.nd]
  rfl
theorem fineS_pairs {gs : Gs} (h : Drawn gs) : FineS (.tuple (gs.map prd)) := by
  intro ds e
  injection e with e
  subst e
  refine ⟨by rw [List.length_map]; have := h.few; omega, fun x hx => ?_⟩
  obtain ⟨g, hg, rfl⟩ := List.mem_map.mp hx
  intro a b e
  injection e with e
  injection e with e1 e
  injection e with e2 e
  subst e1 e2
  exact ⟨by show g.1.length ≤ 100000; have := (names_ok _ (h.nms g hg)).2.2; omega, trivial⟩
theorem set_bad {ds : List PyData} {d : PyData} (hm : d ∈ ds) (hp : pairD d = false) : setD (.tuple ds) = false := by
  have h : ds.all pairD = false := by
    rw [List.all_eq_false]
    exact ⟨d, hm, by rw [hp]; exact Bool.false_ne_true⟩
  show (!ds.isEmpty && (ds.all pairD && _)) = false
  rw [h, Bool.false_and, Bool.and_false]
theorem set_twice {ds : List PyData} (h : ¬ (ds.map nameS).Nodup) : setD (.tuple ds) = false := by
  show (!ds.isEmpty && (ds.all pairD && decide ((ds.map nameS).Nodup))) = false
  rw [decide_eq_false h, Bool.and_false, Bool.and_false]
theorem dpall_app {K : PySem.W.Frag} {H : Hp} : ∀ {vs ws : List V} {ds es : List PyData}, DpAll K H vs ds → DpAll K H ws es → DpAll K H (vs ++ ws) (ds ++ es)
  | _, _, _, _, .nil, h => h
  | _, _, _, _, .cons a b, h => .cons a (dpall_app b h)
theorem dpall_take {K : PySem.W.Frag} {H : Hp} : ∀ {vs : List V} {ds : List PyData} (n : Nat), DpAll K H vs ds → DpAll K H (vs.take n) (ds.take n)
  | _, _, 0, _ => by rw [List.take_zero, List.take_zero]; exact .nil
  | _, _, n + 1, .nil => .nil
  | _, _, n + 1, .cons a b => .cons a (dpall_take n b)
theorem dpall_drop {K : PySem.W.Frag} {H : Hp} : ∀ {vs : List V} {ds : List PyData} (n : Nat), DpAll K H vs ds → DpAll K H (vs.drop n) (ds.drop n)
  | _, _, 0, h => h
  | _, _, n + 1, .nil => .nil
  | _, _, n + 1, .cons a b => dpall_drop n b
theorem Kp.tup {p l b : Addr} {ys : List V} {H H' : Hp} (k : Kp p H H') (pot : PotAt H p l) (h : H b = some (.tup ys)) : H' b = some (.tup ys) := by
  obtain ⟨ns, i, c, s, h1, _⟩ := pot
  exact k _ _ h (ne_of h h1 (by intro z; cases z))
theorem fine2 {a b : PyData} (ha : Fine a) (hb : Fine b) : FineP (.tuple [a, b]) := by
  intro x y e
  injection e with e
  injection e with e1 e
  injection e with e2 e
  subst e1 e2
  exact ⟨ha, hb⟩
theorem fine_not {d : PyData} (h : ∀ a b, d ≠ .tuple [a, b]) : FineP d := fun a b e => absurd e (h a b)
theorem shp2 {a b : PyData} (ha : a.canLay0 = true) (hb : b.canLay0 = true) (da : a.depth = 0) (db : b.depth = 0) : SeqAt.shaped (.tuple [a, b]) = true := by
  show ((PyData.tuple [a, b]).canLay0 && decide ((PyData.tuple [a, b]).depth ≤ 64)) = true
  simp [PyData.canLay0, PyData.canLayAll0, PyData.depth, PyData.depthAll, ha, hb, da, db]
theorem lay_str {s : Str} (h : PyData.strOk s = true) : (PyData.str s).canLay0 = true := by simp [PyData.canLay0, h]
theorem lay_int {i : Int} : (PyData.int i).canLay0 = true := by simp [PyData.canLay0]
theorem dep_str {s : Str} : (PyData.str s).depth = 0 := by simp [PyData.depth]
theorem dep_int {i : Int} : (PyData.int i).depth = 0 := by simp [PyData.depth]
/-- what stands in a spoilt place -/
structure Bad (K : PySem.W.Frag) (H : Hp) (n0 : Str) (wt : Int) (x : V) (d : PyData) : Prop where
  dp : Dp K H x d
  sh : SeqAt.shaped d = true
  fine : FineP d
  bad : pairD d = false ∨ d = .tuple [.str n0, .int wt]
def spLaw (K : PySem.W.Frag) : Sp := fun vs H Q _ => ∃ (a : Addr) (ns : List Int), vs = [.ref a] ∧ SqL K H a (ns.map V.int) ∧ ns.length ≤ 63 ∧ ∀ H', Q (.bl true) H'
def sp_Ltotal (K : PySem.W.Frag) : Sp := fun vs H Q _ => ∃ (a : Addr) (xs : List V) (gs : Gs), vs = [.ref a] ∧ SqT K H a xs ∧ PairsAt H xs gs ∧ GsOk gs ∧ ∀ H', Same H H' → Q (.int (wsum gs)) H'
def sp_Lthr (K : PySem.W.Frag) : Sp := fun vs H Q _ => ∃ (a : Addr) (xs : List V) (gs : Gs), vs = [.ref a] ∧ SqT K H a xs ∧ PairsAt H xs gs ∧ GsOk gs ∧ ∀ H', Same H H' → Q (.int (thr gs)) H'
def sp_spoilt (K : PySem.W.Frag) : Sp := fun vs H Q _ => ∃ (p l a : Addr) (xs : List V) (gs : Gs), vs = [.ref p, .ref a] ∧ PotAt H p l ∧ H a = some (.tup xs) ∧ PairsAt H xs gs ∧ Drawn gs ∧
  ∀ (v : V) (d : PyData) (H' : Hp), Dp K H' v d → setD d = false → FineS d → Kp p H H' → Q v H'
section
variable {P : Program} {w : World} {K : PySem.W.Frag} {mg : Str → Option Value} {base : Heap}
theorem ok_L_is_int (T : Txt K mg) : FnOk P w K mg base CX0 1 T.f_L_is_int T.d_L_is_int ["value"] (sp_tell K intD) := by
  refine T.F_L_is_int.ok sc_L_is_int (fun vs H Q E h => ?_) (fun cdv A outer s H vs Q E hr h => ?_)
  · obtain ⟨v, d, rfl, _⟩ := h; rfl
  · obtain ⟨v, d, rfl, hd, _, k⟩ := h
    refine ⟨_, (pss_one (ps_ret (pe_and (pe_callB call_isi (by rfl) T.z_isinstance boot_isinstance (pa_cons (pv 0) (pa_cons (pe_bltn (v := .ty "int") (by rfl) T.z_int boot_int rfl) pa_nil))) (pe_one (pe_not (pe_callB call_isi (by rfl) T.z_isinstance boot_isinstance (pa_cons (pv 0) (pa_cons (pe_bltn (v := .ty "bool") (by rfl) T.z_bool boot_bool rfl) pa_nil)))))))), ?_⟩
    (dsimp only [cxOf, Cx.nox, Cx.wish, L2.start, List.map, List.length, List.replicate, List.cons_append, List.nil_append, List.append_eq, Nat.reduceSub, Nat.reduceAdd])
    walk_at "my_rd"
    refine q_isiD hd (kit_int d) ?_
    refine q_andV2 (fun h => ?_) (fun h => ?_)
    · walk_at "my_rd"
      refine q_isiD hd (kit_bool d) ?_
      walk_at "my_rd"
      have e : (!boolD d) = intD d := by cases d <;> first | rfl | cases h
      rw [e]
      exact k H (Same.refl _)
    · have e : false = intD d := by cases d <;> first | rfl | cases h
      rw [e]
      exact k H (Same.refl _)
theorem ok_L_total (T : Txt K mg) : FnOk P w K mg base CX0 1 T.f_L_total T.d_L_total ["guards"] (sp_Ltotal K) := by
  refine T.F_L_total.ok sc_L_total (fun vs H Q E h => ?_) (fun cdv A outer s H vs Q E hr h => ?_)
  · obtain ⟨a, xs, gs, rfl, _⟩ := h; rfl
  · obtain ⟨a, xs, gs, rfl, hT, hP, hG, k⟩ := h
    refine ⟨_, (pss_one (ps_ret (pe_callB (cr_sum rfl) (by rfl) T.z_sum boot_sum (pa_cons (pe_lc (own := [("pair", 1)]) (g := (gName 1)) (tt := tYes) (te := (tOp (rIxT K) (tVar 1) (tC (.int 1)))) rfl sc_L_total.nd (pi_tup (pv 0)) (blkOk_by (own := [("pair", 1)]) (N := ["guards", "pair"]) (sc := defScope s_L_total) (by decide +kernel)) (fun _ _ _ _ _ => (pg_name (i := 1) sc_L_total.nd rfl (Or.inl rfl))) (fun _ _ _ _ _ => pts_nil) (fun _ _ _ _ _ => (pe_ix ix_tup (pv 1) pe_int (fun _ _ => rfl)))) pa_nil)))), ?_⟩
    (dsimp only [cxOf, Cx.nox, Cx.wish, L2.start, List.map, List.length, List.replicate, List.cons_append, List.nil_append, List.append_eq, Nat.reduceSub, Nat.reduceAdd])
    walk_at "my_rd"
    refine q_lcT hT (fun D nD => ⟨fun i H2 => Same H H2 ∧ H2 D = some (.lst (((gs.take i).map (·.2)).map V.int)), ⟨Same.new (Same.refl _) nD, upd_same⟩, fun i H2 _ h => Same.sqT h.1 hT, ?_, ?_⟩)
    · rintro i x H2 hx ⟨sm, hD⟩
      obtain ⟨g, b, hg, rfl, hb⟩ := hP.item hx
      have hb2 := sm _ _ hb
      walk_at "my_rd"
      refine ⟨rfl, ?_⟩
      walk_at "my_rd"
      refine q_accK hD (by rw [List.length_map, List.length_map, List.length_take]; exact small1000 (by have := hG.few; omega)) ⟨Same.new sm nD, ?_⟩
      rw [upd_same, take_snoc hg, List.map_append, List.map_append]
      rfl
    · rintro H2 ⟨sm, hD⟩
      have e : gs.take xs.length = gs := List.take_of_length_le (by rw [hP.len]; exact Nat.le_refl _)
      rw [e] at hD
      walk_at "my_rd"
      refine q_sum (sqL hD) ?_
      walk_at "my_rd"
      exact k H2 sm
theorem ok_L_threshold (T : Txt K mg) : FnOk P w K mg base CX0 2 T.f_L_threshold T.d_L_threshold ["guards"] (sp_Lthr K) := by
  refine T.F_L_threshold.ok sc_L_threshold (fun vs H Q E h => ?_) (fun cdv A outer s H vs Q E hr h => ?_)
  · obtain ⟨a, xs, gs, rfl, _⟩ := h; rfl
  · obtain ⟨a, xs, gs, rfl, hT, hP, hG, k⟩ := h
    have h0 := hG.lo
    have h1 := hG.hi
    refine ⟨_, (pss_cons (ps_set (i := 1) sc_L_threshold.nd rfl (Or.inl rfl) pe_int)
      (pss_cons (ps_for PassesOwn.never rfl (pi_range1 (by rfl) T.z_range (pa_cons (pe_op op_add (pe_call (ok_L_total T) (hr.mono (by decide)) (by rfl) T.g_L_total T.F_L_total.kp T.b_L_total .nil pass0 (pa_cons (pv 0) pa_nil)) pe_int) pa_nil)) (pg_name (i := 2) sc_L_threshold.nd rfl (Or.inl rfl))
        (pss_one (ps_if (pt_cmpR op_le (pe_op op_mul pe_int (pv 1)) (pe_op op_mul pe_int (pe_call (ok_L_total T) (hr.mono (by decide)) (by rfl) T.g_L_total T.F_L_total.kp T.b_L_total .nil pass0 (pa_cons (pv 0) pa_nil))) (nomark _)) (pss_one (ps_set (i := 1) sc_L_threshold.nd rfl (Or.inl rfl) (pe_op op_add (pv 1) pe_int))) pss_nil)))
      (pss_one (ps_ret (pv 1))))), ?_⟩
    (dsimp only [cxOf, Cx.nox, Cx.wish, L2.start, List.map, List.length, List.replicate, List.cons_append, List.nil_append, List.append_eq, Nat.reduceSub, Nat.reduceAdd])
    walk_at "my_rd"
    refine ⟨a, xs, gs, rfl, hT, hP, hG, fun H1 sm => ?_⟩
    walk_at "my_rd"
    have key : ∀ i : Nat, (i : Int) ≤ wsum gs + 1 → (min (i : Int) (thr gs) = i ∨ min (i : Int) (thr gs) = thr gs) := fun i _ => by omega
    refine q_forR ⟨by omega, by omega⟩ (fun i σ H2 => ∃ (kv : Option V), σ = [some (.ref a), some (.int (min (i : Int) (thr gs))), kv] ∧ Same H H2) ⟨none, ?_, sm⟩ ?_ ?_
    · have : min ((0 : Nat) : Int) (thr gs) = 0 := by unfold thr; omega
      rw [this]
      rfl
    · rintro i σ H2 hi ⟨kv, rfl, sm2⟩
      walk_at "my_rd"
      refine ⟨a, xs, gs, rfl, Same.sqT sm2 hT, hP.same sm2, hG, fun H3 sm3 => ?_⟩
      walk_at "my_rd"
      refine q_if2 (fun h => ?_) (fun h => ?_)
      · have h := dec_t h
        walk_at "my_rd"
        refine ⟨some (.int i), ?_, Same.trans sm2 sm3⟩
        have : min ((i + 1 : Nat) : Int) (thr gs) = min (i : Int) (thr gs) + 1 := by unfold thr at *; omega
        rw [this]
        rfl
      · have h := dec_f h
        walk_at "my_rd"
        refine ⟨some (.int i), ?_, Same.trans sm2 sm3⟩
        have : min ((i + 1 : Nat) : Int) (thr gs) = min (i : Int) (thr gs) := by unfold thr at *; omega
        rw [this]
        rfl
    · rintro σ H2 ⟨kv, rfl, sm2⟩
      walk_at "my_rd"
      have : min (((wsum gs + 1).toNat : Nat) : Int) (thr gs) = thr gs := by unfold thr; omega
      rw [this]
      exact k H2 sm2
theorem ok_L_spoilt (T : Txt K mg) : FnOk P w K mg base CX0 2 T.f_L_spoilt T.d_L_spoilt ["pot", "guards"] (sp_spoilt K) := by
  refine T.F_L_spoilt.ok sc_L_spoilt (fun vs H Q E h => ?_) (fun cdv A outer s H vs Q E hr h => ?_)
  · obtain ⟨p, l, a, xs, gs, rfl, _⟩ := h; rfl
  · obtain ⟨p, l, a, xs, gs, rfl, pot, ha, hP, hD, k⟩ := h
    have hlen := hP.len
    have hpos : 0 < gs.length := by
      cases gs with
      | nil => exact absurd rfl hD.ne
      | cons _ _ => exact Nat.succ_pos _
    have hfew := hD.few
    refine ⟨_, (pss_cons (ps_set (i := 2) sc_L_spoilt.nd rfl (Or.inl rfl) (pe_call (ok_L_next T) (hr.mono (by decide)) (by rfl) T.g_L_next T.F_L_next.kp T.b_L_next .nil pass0 (pa_cons (pv 0) (pa_cons (pe_callB cq_len (by rfl) T.z_len boot_len (pa_cons (pv 1) pa_nil)) pa_nil))))
      (pss_cons (ps_asg (pe_ix ix_tup (pv 1) (pv 2) (fun _ _ => rfl)) (pg_tup rfl (pgs_cons (pg_name (i := 4) sc_L_spoilt.nd rfl (Or.inl rfl)) (pgs_cons (pg_name (i := 5) sc_L_spoilt.nd rfl (Or.inl rfl)) pgs_nil))))
      (pss_cons (ps_set (i := 3) sc_L_spoilt.nd rfl (Or.inl rfl) (pe_ix ix_list (pe_lst (pa_cons (pe_tup (pa_cons (pv 4) (pa_cons pe_int pa_nil))) (pa_cons (pe_tup (pa_cons (pv 4) (pa_cons (pe_un un_neg pe_int) pa_nil))) (pa_cons (pe_tup (pa_cons (pv 4) (pa_cons pe_str pa_nil))) (pa_cons (pe_tup (pa_cons (pv 4) (pa_cons pe_bl pa_nil))) (pa_cons (pe_tup (pa_cons (pv 4) (pa_cons pe_non pa_nil))) (pa_cons (pe_tup (pa_cons pe_str (pa_cons pe_int pa_nil))) (pa_cons (pe_tup (pa_cons (pe_op oq_mulStr pe_str pe_int) (pa_cons pe_int pa_nil))) (pa_cons (pe_tup (pa_cons pe_int (pa_cons pe_int pa_nil))) (pa_cons (pe_tup (pa_cons (pv 4) pa_nil)) (pa_cons (pe_tup (pa_cons (pv 4) (pa_cons pe_int (pa_cons pe_int pa_nil)))) (pa_cons (pv 4) (pa_cons pe_non (pa_cons (pe_tup (pa_cons (pe_ix ix_tup (pe_ix ix_tup (pv 1) pe_int (fun _ _ => rfl)) pe_int (fun _ _ => rfl)) (pa_cons (pv 5) pa_nil))) pa_nil)))))))))))))) (pe_call (ok_L_next T) (hr.mono (by decide)) (by rfl) T.g_L_next T.F_L_next.kp T.b_L_next .nil pass0 (pa_cons (pv 0) (pa_cons pe_int pa_nil))) (fun _ _ => rfl)))
      (pss_cons (ps_if (pt_cmpR (op_eqD hr.units) (pv 3) (pe_tup (pa_cons (pe_ix ix_tup (pe_ix ix_tup (pv 1) pe_int (fun _ _ => rfl)) pe_int (fun _ _ => rfl)) (pa_cons (pv 5) pa_nil))) (nomark _)) (pss_one (ps_ret (pe_op op_catA (pv 1) (pe_tup (pa_cons (pv 3) pa_nil))))) pss_nil)
      (pss_one (ps_ret (pe_op op_catA (pe_op op_catA (pe_slice sl_tupA (pv 1) po_none (po_some (pv 2))) (pe_tup (pa_cons (pv 3) pa_nil))) (pe_slice sl_tupA (pv 1) (po_some (pe_op op_add (pv 2) pe_int)) po_none)))))))), ?_⟩
    (dsimp only [cxOf, Cx.nox, Cx.wish, L2.start, List.map, List.length, List.replicate, List.cons_append, List.nil_append, List.append_eq, Nat.reduceSub, Nat.reduceAdd])
    walk_at "my_rd"
    refine ⟨p, l, _, rfl, pot, by omega, by omega, fun r H1 r0 r1 pot1 kp1 => ?_⟩
    have hrn : r.toNat < gs.length := by omega
    have hg : gs[r.toNat]? = some gs[r.toNat] := List.getElem?_eq_getElem hrn
    have hg0 : gs[0]? = some gs[0] := List.getElem?_eq_getElem hpos
    generalize gs[r.toNat] = g at hg
    generalize gs[0] = g0 at hg0
    obtain ⟨b, hxb, hb⟩ := hP.at_ _ _ hg
    obtain ⟨b0, hxb0, hb0⟩ := hP.at_ _ _ hg0
    have ha1 := kp1.tup pot ha
    have hb1 := kp1.tup pot hb
    have hb01 := kp1.tup pot hb0
    obtain ⟨so, sa, sl⟩ := names_ok _ (hD.nms g (List.mem_of_getElem? hg))
    obtain ⟨so0, sa0, sl0⟩ := names_ok _ (hD.nms g0 (List.mem_of_getElem? hg0))
    walk_at "my_rd"
    refine q_ixTt ha1 (at_int (n := r.toNat) (by omega) hxb) ?_
    refine q_gTup (sqT hb1) rfl ?_
    walk_at "my_rd"
    refine q_tupK (Nat.le_of_ble_eq_true rfl) fun u0 nu0 => ?_
    walk_at "my_rd"
    refine q_tupK (Nat.le_of_ble_eq_true rfl) fun u1 nu1 => ?_
    walk_at "my_rd"
    refine q_tupK (Nat.le_of_ble_eq_true rfl) fun u2 nu2 => ?_
    walk_at "my_rd"
    refine q_tupK (Nat.le_of_ble_eq_true rfl) fun u3 nu3 => ?_
    walk_at "my_rd"
    refine q_tupK (Nat.le_of_ble_eq_true rfl) fun u4 nu4 => ?_
    walk_at "my_rd"
    refine q_tupK (Nat.le_of_ble_eq_true rfl) fun u5 nu5 => ?_
    walk_at "my_rd"
    refine q_tupK (Nat.le_of_ble_eq_true rfl) fun u6 nu6 => ?_
    walk_at "my_rd"
    refine q_tupK (Nat.le_of_ble_eq_true rfl) fun u7 nu7 => ?_
    walk_at "my_rd"
    refine q_tupK (Nat.le_of_ble_eq_true rfl) fun u8 nu8 => ?_
    walk_at "my_rd"
    refine q_tupK (Nat.le_of_ble_eq_true rfl) fun u9 nu9 => ?_
    walk_at "my_rd"
    refine q_ixTt (xs := xs) (by (repeat first | (with_reducible exact upd_same) | (with_reducible assumption) | (with_reducible apply upd_new (by assumption)) | (with_reducible apply upd_other (by first | assumption | exact Ne.symm (by assumption))) | (with_reducible refine' Kp.get (by assumption) ?_ (by first | assumption | exact Ne.symm (by assumption))) | (with_reducible apply Same.get (by assumption)))) (at_int (n := 0) rfl hxb0) ?_
    walk_at "my_rd"
    refine q_tupK (Nat.le_of_ble_eq_true rfl) fun u10 nu10 => ?_
    walk_at "my_rd"
    refine q_lstK (Nat.le_of_ble_eq_true rfl) fun M nM => ?_
    walk_at "my_rd"
    have nMp : M ≠ p := by
      refine PotAt.nep (H := _) (l := l) ?_ nM
      (repeat first | (with_reducible assumption) | (with_reducible refine PotAt.new ?_ (by assumption)) | (with_reducible refine' PotAt.same ?_ (by assumption)))
    generalize hHM : upd _ M _ = HM
    have potM : PotAt HM p l := by
      rw [← hHM]
      (repeat first | (with_reducible assumption) | (with_reducible refine PotAt.new ?_ (by assumption)) | (with_reducible refine' PotAt.same ?_ (by assumption)))
    have smM : Same H1 HM := by
      rw [← hHM]
      (repeat first | (with_reducible exact Same.refl _) | (with_reducible assumption) | (with_reducible refine Same.up ?_ (by assumption)) | (with_reducible refine' Same.trans ?_ (by assumption)))
    refine ⟨p, l, 13, rfl, potM, by omega, by omega, fun r2 H2 q0 q1 pot2 kp2 => ?_⟩
    have t0 : HM u0 = some (.tup [.str g.1, .int 0]) := by
      rw [← hHM]
      (repeat first | (with_reducible exact upd_same) | (with_reducible assumption) | (with_reducible apply upd_new (by assumption)) | (with_reducible apply upd_other (by first | assumption | exact Ne.symm (by assumption))) | (with_reducible refine' Kp.get (by assumption) ?_ (by first | assumption | exact Ne.symm (by assumption))) | (with_reducible apply Same.get (by assumption)))
    have t0 := kp2.tup potM t0
    have t1 : HM u1 = some (.tup [.str g.1, .int (-3)]) := by
      rw [← hHM]
      (repeat first | (with_reducible exact upd_same) | (with_reducible assumption) | (with_reducible apply upd_new (by assumption)) | (with_reducible apply upd_other (by first | assumption | exact Ne.symm (by assumption))) | (with_reducible refine' Kp.get (by assumption) ?_ (by first | assumption | exact Ne.symm (by assumption))) | (with_reducible apply Same.get (by assumption)))
    have t1 := kp2.tup potM t1
    have t2 : HM u2 = some (.tup [.str g.1, .str "1"]) := by
      rw [← hHM]
      (repeat first | (with_reducible exact upd_same) | (with_reducible assumption) | (with_reducible apply upd_new (by assumption)) | (with_reducible apply upd_other (by first | assumption | exact Ne.symm (by assumption))) | (with_reducible refine' Kp.get (by assumption) ?_ (by first | assumption | exact Ne.symm (by assumption))) | (with_reducible apply Same.get (by assumption)))
    have t2 := kp2.tup potM t2
    have t3 : HM u3 = some (.tup [.str g.1, .bl true]) := by
      rw [← hHM]
      (repeat first | (with_reducible exact upd_same) | (with_reducible assumption) | (with_reducible apply upd_new (by assumption)) | (with_reducible apply upd_other (by first | assumption | exact Ne.symm (by assumption))) | (with_reducible refine' Kp.get (by assumption) ?_ (by first | assumption | exact Ne.symm (by assumption))) | (with_reducible apply Same.get (by assumption)))
    have t3 := kp2.tup potM t3
    have t4 : HM u4 = some (.tup [.str g.1, .non]) := by
      rw [← hHM]
      (repeat first | (with_reducible exact upd_same) | (with_reducible assumption) | (with_reducible apply upd_new (by assumption)) | (with_reducible apply upd_other (by first | assumption | exact Ne.symm (by assumption))) | (with_reducible refine' Kp.get (by assumption) ?_ (by first | assumption | exact Ne.symm (by assumption))) | (with_reducible apply Same.get (by assumption)))
    have t4 := kp2.tup potM t4
    have t5 : HM u5 = some (.tup [.str "", .int 1]) := by
      rw [← hHM]
      (repeat first | (with_reducible exact upd_same) | (with_reducible assumption) | (with_reducible apply upd_new (by assumption)) | (with_reducible apply upd_other (by first | assumption | exact Ne.symm (by assumption))) | (with_reducible refine' Kp.get (by assumption) ?_ (by first | assumption | exact Ne.symm (by assumption))) | (with_reducible apply Same.get (by assumption)))
    have t5 := kp2.tup potM t5
    have t6 : HM u6 = some (.tup [.str (repS "x" 21), .int 1]) := by
      rw [← hHM]
      (repeat first | (with_reducible exact upd_same) | (with_reducible assumption) | (with_reducible apply upd_new (by assumption)) | (with_reducible apply upd_other (by first | assumption | exact Ne.symm (by assumption))) | (with_reducible refine' Kp.get (by assumption) ?_ (by first | assumption | exact Ne.symm (by assumption))) | (with_reducible apply Same.get (by assumption)))
    have t6 := kp2.tup potM t6
    have t7 : HM u7 = some (.tup [.int 5, .int 1]) := by
      rw [← hHM]
      (repeat first | (with_reducible exact upd_same) | (with_reducible assumption) | (with_reducible apply upd_new (by assumption)) | (with_reducible apply upd_other (by first | assumption | exact Ne.symm (by assumption))) | (with_reducible refine' Kp.get (by assumption) ?_ (by first | assumption | exact Ne.symm (by assumption))) | (with_reducible apply Same.get (by assumption)))
    have t7 := kp2.tup potM t7
    have t8 : HM u8 = some (.tup [.str g.1]) := by
      rw [← hHM]
      (repeat first | (with_reducible exact upd_same) | (with_reducible assumption) | (with_reducible apply upd_new (by assumption)) | (with_reducible apply upd_other (by first | assumption | exact Ne.symm (by assumption))) | (with_reducible refine' Kp.get (by assumption) ?_ (by first | assumption | exact Ne.symm (by assumption))) | (with_reducible apply Same.get (by assumption)))
    have t8 := kp2.tup potM t8
    have t9 : HM u9 = some (.tup [.str g.1, .int 1, .int 1]) := by
      rw [← hHM]
      (repeat first | (with_reducible exact upd_same) | (with_reducible assumption) | (with_reducible apply upd_new (by assumption)) | (with_reducible apply upd_other (by first | assumption | exact Ne.symm (by assumption))) | (with_reducible refine' Kp.get (by assumption) ?_ (by first | assumption | exact Ne.symm (by assumption))) | (with_reducible apply Same.get (by assumption)))
    have t9 := kp2.tup potM t9
    have t10 : HM u10 = some (.tup [.str g0.1, .int g.2]) := by
      rw [← hHM]
      (repeat first | (with_reducible exact upd_same) | (with_reducible assumption) | (with_reducible apply upd_new (by assumption)) | (with_reducible apply upd_other (by first | assumption | exact Ne.symm (by assumption))) | (with_reducible refine' Kp.get (by assumption) ?_ (by first | assumption | exact Ne.symm (by assumption))) | (with_reducible apply Same.get (by assumption)))
    have t10 := kp2.tup potM t10
    have tM : HM M = some (.lst [.ref u0, .ref u1, .ref u2, .ref u3, .ref u4, .ref u5, .ref u6, .ref u7, .ref u8, .ref u9, .str g.1, .non, .ref u10]) := by
      rw [← hHM]
      exact upd_same
    have tM := Kp.get kp2 tM nMp
    have kp12 : Kp p H1 H2 := Kp.trans (Same.kp smM) kp2
    clear hHM kp2 potM smM nM nu10 nu9 nu8 nu7 nu6 nu5 nu4 nu3 nu2 nu1 nu0
    have ha2 := kp12.tup pot1 ha1
    have hP2 : PairsAt H2 xs gs := (hP.kp pot kp1).kp pot1 kp12
    have hb02 := kp12.tup pot1 hb01
    obtain ⟨x, d, hx, hBad⟩ : ∃ x d, atI [V.ref u0, V.ref u1, V.ref u2, V.ref u3, V.ref u4, V.ref u5, V.ref u6, V.ref u7, V.ref u8, V.ref u9, V.str g.1, V.non, V.ref u10] r2 = some x ∧ Bad K H2 g0.1 g.2 x d := by
      have fs : Fine (.str g.1) := by show g.1.length ≤ 100000; omega
      have fs0 : Fine (.str g0.1) := by show g0.1.length ≤ 100000; omega
      have hc : r2 = 0 ∨ r2 = 1 ∨ r2 = 2 ∨ r2 = 3 ∨ r2 = 4 ∨ r2 = 5 ∨ r2 = 6 ∨ r2 = 7 ∨ r2 = 8 ∨ r2 = 9 ∨ r2 = 10 ∨ r2 = 11 ∨ r2 = 12 := by omega
      rcases hc with rfl | rfl | rfl | rfl | rfl | rfl | rfl | rfl | rfl | rfl | rfl | rfl | rfl
      · exact ⟨_, .tuple [.str g.1, .int 0], rfl, .tup (sqT t0) (.cons (.str _) (.cons (.int _) .nil)), shp2 (lay_str so) lay_int dep_str dep_int, fine2 fs trivial, .inl (by show (accD (.str g.1) && leastD 1 (.int 0)) = false; rw [sa]; rfl)⟩
      · exact ⟨_, .tuple [.str g.1, .int (-3)], rfl, .tup (sqT t1) (.cons (.str _) (.cons (.int _) .nil)), shp2 (lay_str so) lay_int dep_str dep_int, fine2 fs trivial, .inl (by show (accD (.str g.1) && leastD 1 (.int (-3))) = false; rw [sa]; rfl)⟩
      · exact ⟨_, .tuple [.str g.1, .str "1"], rfl, .tup (sqT t2) (.cons (.str _) (.cons (.str _) .nil)), shp2 (lay_str so) (lay_str (by decide +kernel)) dep_str dep_str, fine2 fs (by show Str.length _ ≤ 100000; decide +kernel), .inl (by show (accD (.str g.1) && leastD 1 (.str "1")) = false; rw [sa]; rfl)⟩
      · exact ⟨_, .tuple [.str g.1, .bool true], rfl, .tup (sqT t3) (.cons (.str _) (.cons (.bl _) .nil)), shp2 (lay_str so) (by simp [PyData.canLay0]) dep_str (by simp [PyData.depth]), fine2 fs trivial, .inl (by show (accD (.str g.1) && leastD 1 (.bool true)) = false; rw [sa]; rfl)⟩
      · exact ⟨_, .tuple [.str g.1, .none], rfl, .tup (sqT t4) (.cons (.str _) (.cons .non .nil)), shp2 (lay_str so) (by simp [PyData.canLay0]) dep_str (by simp [PyData.depth]), fine2 fs trivial, .inl (by show (accD (.str g.1) && leastD 1 .none) = false; rw [sa]; rfl)⟩
      · exact ⟨_, .tuple [.str "", .int 1], rfl, .tup (sqT t5) (.cons (.str _) (.cons (.int _) .nil)), shp2 (lay_str (by decide +kernel)) lay_int dep_str dep_int, fine2 (by show Str.length _ ≤ 100000; decide +kernel) trivial, .inl (by decide +kernel)⟩
      · exact ⟨_, .tuple [.str (repS "x" 21), .int 1], rfl, .tup (sqT t6) (.cons (.str _) (.cons (.int _) .nil)), shp2 (lay_str (by decide +kernel)) lay_int dep_str dep_int, fine2 (by show Str.length _ ≤ 100000; decide +kernel) trivial, .inl (by decide +kernel)⟩
      · exact ⟨_, .tuple [.int 5, .int 1], rfl, .tup (sqT t7) (.cons (.int _) (.cons (.int _) .nil)), shp2 lay_int lay_int dep_int dep_int, fine2 trivial trivial, .inl rfl⟩
      · exact ⟨_, .tuple [.str g.1], rfl, .tup (sqT t8) (.cons (.str _) .nil), by (show ((PyData.tuple [.str g.1]).canLay0 && decide ((PyData.tuple [.str g.1]).depth ≤ 64)) = true; simp [PyData.canLay0, PyData.canLayAll0, PyData.depth, PyData.depthAll, so]), fine_not (fun a b e => by cases e), .inl rfl⟩
      · exact ⟨_, .tuple [.str g.1, .int 1, .int 1], rfl, .tup (sqT t9) (.cons (.str _) (.cons (.int _) (.cons (.int _) .nil))), by (show ((PyData.tuple [.str g.1, .int 1, .int 1]).canLay0 && decide ((PyData.tuple [.str g.1, .int 1, .int 1]).depth ≤ 64)) = true; simp [PyData.canLay0, PyData.canLayAll0, PyData.depth, PyData.depthAll, so]), fine_not (fun a b e => by cases e), .inl rfl⟩
      · exact ⟨_, .str g.1, rfl, .str _, by (show ((PyData.str g.1).canLay0 && decide ((PyData.str g.1).depth ≤ 64)) = true; simp [PyData.canLay0, PyData.depth, so]), fine_not (fun a b e => by cases e), .inl rfl⟩
      · exact ⟨_, .none, rfl, .non, by (show ((PyData.none).canLay0 && decide ((PyData.none).depth ≤ 64)) = true; simp [PyData.canLay0, PyData.depth]), fine_not (fun a b e => by cases e), .inl rfl⟩
      · exact ⟨_, .tuple [.str g0.1, .int g.2], rfl, .tup (sqT t10) (.cons (.str _) (.cons (.int _) .nil)), shp2 (lay_str so0) lay_int dep_str dep_int, fine2 fs0 trivial, .inr rfl⟩
    refine q_ixLt tM hx ?_
    clear hx tM t0 t1 t2 t3 t4 t5 t6 t7 t8 t9 t10
    walk_at "my_rd"
    refine q_ixTt ha2 (at_int (n := 0) rfl hxb0) ?_
    walk_at "my_rd"
    refine q_tupK (Nat.le_of_ble_eq_true rfl) fun W nW => ?_
    walk_at "my_rd"
    have smW : Same H2 (upd H2 W (.tup [.str g0.1, .int g.2])) := Same.new (Same.refl _) nW
    refine q_eqD (dp_mono smW hBad.dp) (.tup (sqT upd_same) (.cons (.str g0.1) (.cons (.int g.2) .nil))) hBad.sh (shp2 (lay_str so0) lay_int dep_str dep_int) ?_
    walk_at "my_rd"
    have fgs := fineS_pairs hD (gs.map prd) rfl
    have kp02 : Kp p H H2 := Kp.trans kp1 kp12
    have hds := hP2.dp (K := K)
    have hdl : (gs.map prd).length = gs.length := List.length_map ..
    refine q_if2 (fun he => ?_) (fun he => ?_)
    · walk_at "my_rd"
      refine q_tupK (Nat.le_of_ble_eq_true rfl) fun B nB => ?_
      walk_at "my_rd"
      refine q_catA (xs := xs) (ys := [x]) (by (repeat first | (with_reducible exact upd_same) | (with_reducible assumption) | (with_reducible apply upd_new (by assumption)) | (with_reducible apply upd_other (by first | assumption | exact Ne.symm (by assumption))) | (with_reducible refine' Kp.get (by assumption) ?_ (by first | assumption | exact Ne.symm (by assumption))) | (with_reducible apply Same.get (by assumption)))) upd_same (by show xs.length + 1 ≤ sizeLine; exact Nat.le_of_lt (small1000 (by omega))) fun q H5 sm5 hq => ?_
      walk_at "my_rd"
      have sm25 : Same H2 H5 := Same.trans (Same.trans smW (Same.new (Same.refl _) nB)) sm5
      refine k (.ref q) (.tuple (gs.map prd ++ [d])) H5 (.tup (sqT hq) (dpall_app (dpall_mono sm25 hds) (.cons (dp_mono sm25 hBad.dp) .nil))) ?_ ?_ (Kp.trans kp02 (Same.kp sm25))
      · rcases hBad.bad with h | h
        · exact set_bad (List.mem_append_right _ (List.mem_singleton.mpr rfl)) h
        · subst h
          refine set_twice fun hn => ?_
          rw [List.map_append, List.map_map] at hn
          exact (List.nodup_append.mp hn).2.2 g0.1 (List.mem_map.mpr ⟨g0, List.mem_of_getElem? hg0, rfl⟩) g0.1 (by simp [nameS]) rfl
      · intro ds e
        injection e with e
        subst e
        refine ⟨by rw [List.length_append, hdl]; show gs.length + 1 ≤ 1000; omega, fun z hz => ?_⟩
        rcases List.mem_append.mp hz with h | h
        · exact fgs.2 z h
        · rw [List.mem_singleton.mp h]; exact hBad.fine
    · walk_at "my_rd"
      refine q_slA (xs := xs) (by (repeat first | (with_reducible exact upd_same) | (with_reducible assumption) | (with_reducible apply upd_new (by assumption)) | (with_reducible apply upd_other (by first | assumption | exact Ne.symm (by assumption))) | (with_reducible refine' Kp.get (by assumption) ?_ (by first | assumption | exact Ne.symm (by assumption))) | (with_reducible apply Same.get (by assumption)))) fun q1 H5 sm5 hq1 => ?_
      have er : r = ((r.toNat : Nat) : Int) := by omega
      rw [er, cut_take (by omega)] at hq1
      walk_at "my_rd"
      refine q_tupK (Nat.le_of_ble_eq_true rfl) fun B nB => ?_
      walk_at "my_rd"
      refine q_catA (xs := xs.take r.toNat) (ys := [x]) (by (repeat first | (with_reducible exact upd_same) | (with_reducible assumption) | (with_reducible apply upd_new (by assumption)) | (with_reducible apply upd_other (by first | assumption | exact Ne.symm (by assumption))) | (with_reducible refine' Kp.get (by assumption) ?_ (by first | assumption | exact Ne.symm (by assumption))) | (with_reducible apply Same.get (by assumption)))) upd_same (by rw [List.length_take]; show min _ _ + 1 ≤ sizeLine; exact Nat.le_of_lt (small1000 (by omega))) fun q2 H6 sm6 hq2 => ?_
      walk_at "my_rd"
      have sm26 : Same H2 H6 := Same.trans (Same.trans smW (Same.trans sm5 (Same.new (Same.refl _) nB))) sm6
      refine q_slA (xs := xs) (sm26 _ _ ha2) fun q3 H7 sm7 hq3 => ?_
      have er2 : r + 1 = ((r.toNat + 1 : Nat) : Int) := by omega
      rw [er2, cut_drop (by omega)] at hq3
      refine q_catA (sm7 _ _ hq2) hq3 (by rw [List.length_append, List.length_take, List.length_drop]; show min _ _ + 1 + _ ≤ sizeLine; exact Nat.le_of_lt (small1000 (by omega))) fun q4 H8 sm8 hq4 => ?_
      walk_at "my_rd"
      have sm28 : Same H2 H8 := Same.trans sm26 (Same.trans sm7 sm8)
      refine k (.ref q4) (.tuple ((gs.map prd).take r.toNat ++ [d] ++ (gs.map prd).drop (r.toNat + 1))) H8 (.tup (sqT hq4) (dpall_app (dpall_app (dpall_take _ (dpall_mono sm28 hds)) (.cons (dp_mono sm28 hBad.dp) .nil)) (dpall_drop _ (dpall_mono sm28 hds)))) ?_ ?_ (Kp.trans kp02 (Same.kp sm28))
      · rcases hBad.bad with h | h
        · exact set_bad (List.mem_append_left _ (List.mem_append_right _ (List.mem_singleton.mpr rfl))) h
        · subst h
          simp [PyData.eqv, PyData.eqvAll] at he
      · intro ds e
        injection e with e
        subst e
        refine ⟨by rw [List.length_append, List.length_append, List.length_take, List.length_drop, hdl]; show min _ _ + 1 + _ ≤ 1000; omega, fun z hz => ?_⟩
        rcases List.mem_append.mp hz with h | h
        · rcases List.mem_append.mp h with h | h
          · exact fgs.2 z (List.mem_of_mem_take h)
          · rw [List.mem_singleton.mp h]; exact hBad.fine
        · exact fgs.2 z (List.mem_of_mem_drop h)
theorem three_shaped (a b c : Int) : SeqAt.shaped (.list [.int a, .int b, .int c]) = true := by
  show ((PyData.list [.int a, .int b, .int c]).canLay0 && decide ((PyData.list [.int a, .int b, .int c]).depth ≤ 64)) = true
  simp [PyData.canLay0, PyData.canLayAll0, PyData.depth, PyData.depthAll]
theorem three_eqv (a b c : Int) : PyData.eqv (.list [.int a, .int b, .int c]) (.list [.int a, .int b, .int c]) = true := by simp [PyData.eqv, PyData.eqvAll]
theorem two_set : setD (.tuple [.tuple [.str (repS "x" 20), .int 1], .tuple [.str "y", .int (10 ^ (30 : Int).toNat)]]) = true := by decide +kernel
theorem two_fine : FineS (.tuple [.tuple [.str (repS "x" 20), .int 1], .tuple [.str "y", .int (10 ^ (30 : Int).toNat)]]) := by
  intro ds e
  injection e with e
  subst e
  refine ⟨by decide, fun z hz => ?_⟩
  rcases List.mem_cons.mp hz with h | h
  · subst h; exact fine2 (by show Str.length _ ≤ 100000; decide +kernel) trivial
  · rw [List.mem_singleton.mp h]; exact fine2 (by show Str.length _ ≤ 100000; decide +kernel) trivial
theorem ok_law (T : Txt K mg) : FnOk P w K mg base CX0 6 T.f_law T.d_law ["script"] (spLaw K) := by
  refine T.F_law.ok sc_law (fun vs H Q E h => ?_) (fun cdv A outer s H vs Q E hr h => ?_)
  · obtain ⟨a, ns, rfl, _⟩ := h; rfl
  · obtain ⟨a, ns, rfl, hS, hlen, k⟩ := h
    refine ⟨_, (pss_cons (ps_set (i := 1) sc_law.nd rfl (Or.inl rfl) (pe_call (ok_L_pot T) (hr.mono (by decide)) (by rfl) T.g_L_pot T.F_L_pot.kp T.b_L_pot .nil pass0 (pa_cons (pv 0) pa_nil)))
      (pss_cons (ps_set (i := 2) sc_law.nd rfl (Or.inl rfl) (pe_call (ok_L_set T) (hr.mono (by decide)) (by rfl) T.g_L_set T.F_L_set.kp T.b_L_set .nil pass0 (pa_cons (pv 1) (pa_cons pe_int pa_nil))))
      (pss_cons (ps_if (PW.pt (pw_or (pt_cmpR op_notBl (pe_call (ok_is_set T) (hr.mono (by decide)) (by rfl) T.g_is_set T.F_is_set.kp T.b_is_set .nil pass0 (pa_cons (pv 2) pa_nil)) pe_bl (nomark _)) (pw_or (pt_cmpR op_notBl (pe_call (ok_is_set T) (hr.mono (by decide)) (by rfl) T.g_is_set T.F_is_set.kp T.b_is_set .nil pass0 (pa_cons (pe_tup pa_nil) pa_nil)) pe_bl (nomark _)) (pw_or1 (pt_cmpR op_notBl (pe_call (ok_is_set T) (hr.mono (by decide)) (by rfl) T.g_is_set T.F_is_set.kp T.b_is_set .nil pass0 (pa_cons (pe_call (ok_L_spoilt T) (hr.mono (by decide)) (by rfl) T.g_L_spoilt T.F_L_spoilt.kp T.b_L_spoilt .nil pass0 (pa_cons (pv 1) (pa_cons (pv 2) pa_nil))) pa_nil)) pe_bl (nomark _)))))) (pss_one (ps_ret pe_bl)) pss_nil)
      (pss_cons (ps_if (pt_cmpR op_notBl (pe_call (ok_is_set T) (hr.mono (by decide)) (by rfl) T.g_is_set T.F_is_set.kp T.b_is_set .nil pass0 (pa_cons (pe_tup (pa_cons (pe_tup (pa_cons (pe_op oq_mulStr pe_str pe_int) (pa_cons pe_int pa_nil))) (pa_cons (pe_tup (pa_cons pe_str (pa_cons (pe_op op_pow pe_int pe_int) pa_nil))) pa_nil))) pa_nil)) pe_bl (nomark _)) (pss_one (ps_ret pe_bl)) pss_nil)
      (pss_cons (ps_set (i := 3) sc_law.nd rfl (Or.inl rfl) (pe_lst (pa_cons (pe_call (ok_L_total T) (hr.mono (by decide)) (by rfl) T.g_L_total T.F_L_total.kp T.b_L_total .nil pass0 (pa_cons (pv 2) pa_nil)) (pa_cons (pe_call (ok_L_threshold T) (hr.mono (by decide)) (by rfl) T.g_L_threshold T.F_L_threshold.kp T.b_L_threshold .nil pass0 (pa_cons (pv 2) pa_nil)) (pa_cons (pe_op op_add (pe_op op_sub (pe_call (ok_L_total T) (hr.mono (by decide)) (by rfl) T.g_L_total T.F_L_total.kp T.b_L_total .nil pass0 (pa_cons (pv 2) pa_nil)) (pe_call (ok_L_threshold T) (hr.mono (by decide)) (by rfl) T.g_L_threshold T.F_L_threshold.kp T.b_L_threshold .nil pass0 (pa_cons (pv 2) pa_nil))) pe_int) pa_nil)))))
      (pss_cons (ps_set (i := 4) sc_law.nd rfl (Or.inl rfl) (pe_lst (pa_cons (pe_call (ok_total T) (hr.mono (by decide)) (by rfl) T.g_total T.F_total.kp T.b_total .nil pass0 (pa_cons (pv 2) pa_nil)) (pa_cons (pe_call (ok_threshold T) (hr.mono (by decide)) (by rfl) T.g_threshold T.F_threshold.kp T.b_threshold .nil pass0 (pa_cons (pv 2) pa_nil)) (pa_cons (pe_call (ok_minority T) (hr.mono (by decide)) (by rfl) T.g_minority T.F_minority.kp T.b_minority .nil pass0 (pa_cons (pv 2) pa_nil)) pa_nil)))))
      (pss_one (ps_ret (pe_and (pe_cmpR (op_eqD hr.units) (pv 4) (pv 3) (nomark _)) (pe_one (pe_callB (cr_all rfl) (by rfl) T.z_all boot_all (pa_cons (pe_lc (own := [("number", 5)]) (g := (gName 5)) (tt := tYes) (te := (tCall (sp_tell K intD) [] E0 (tCons (tVar 5) tNil))) rfl sc_law.nd (pi_list (pv 4)) (blkOk_by (own := [("number", 5)]) (N := ["script", "pot", "guards", "due", "found", "number"]) (sc := defScope s_law) (by decide +kernel)) (fun _ _ _ _ _ => (pg_name (i := 5) sc_law.nd rfl (Or.inl rfl))) (fun _ _ _ _ _ => pts_nil) (fun _ _ _ _ _ => (pe_call (ok_L_is_int T) (hr.mono (by decide)) (by rfl) T.g_L_is_int T.F_L_is_int.kp T.b_L_is_int .nil pass0 (pa_cons (pv 5) pa_nil)))) pa_nil)))))))))))), ?_⟩
    (dsimp only [cxOf, Cx.nox, Cx.wish, L2.start, List.map, List.length, List.replicate, List.cons_append, List.nil_append, List.append_eq, Nat.reduceSub, Nat.reduceAdd])
    walk_at "my_rd"
    refine ⟨a, ns, rfl, hS, hlen, fun p l H1 np nl pot1 sm1 => ?_⟩
    walk_at "my_rd"
    refine ⟨p, l, 5, rfl, pot1, by omega, by omega, fun g xs gs H2 ng hg2 hP2 hD _ pot2 kp2 => ?_⟩
    have hok := hD.ok
    walk_at "my_rd"
    refine ⟨_, .tuple (gs.map prd), rfl, .tup (sqT hg2) hP2.dp, fineS_pairs hD, fun H3 sm3 => ?_⟩
    rw [hD.set]
    walk_at "my_rd"
    refine q_or2 (fun h => by cases h) (fun _ => ?_)
    walk_at "my_rd"
    refine q_tupK (Nat.zero_le _) fun e ne => ?_
    walk_at "my_rd"
    refine ⟨_, .tuple [], rfl, .tup (sqT upd_same) .nil, (fun ds e => by
      injection e with e
      subst e
      exact ⟨Nat.zero_le _, fun x hx => by cases hx⟩), fun H4 sm4 => ?_⟩
    have sm24 : Same H2 H4 := Same.trans (Same.up sm3 ne) sm4
    rw [show setD (.tuple []) = false from rfl]
    walk_at "my_rd"
    refine q_or2 (fun h => by cases h) (fun _ => ?_)
    walk_at "my_rd"
    refine ⟨p, l, g, xs, gs, rfl, pot2.same sm24, sm24 _ _ hg2, hP2.same sm24, hD, fun v d H5 hv hs hf kp5 => ?_⟩
    have pot4 := pot2.same sm24
    have hg5 : H5 g = some (.tup xs) := kp5.tup pot4 (sm24 _ _ hg2)
    have hP5 : PairsAt H5 xs gs := (hP2.same sm24).kp pot4 kp5
    walk_at "my_rd"
    refine ⟨v, d, rfl, hv, hf, fun H6 sm6 => ?_⟩
    rw [hs]
    walk_at "my_rd"
    refine q_if2 (fun h => by cases h) (fun _ => ?_)
    walk_at "my_rd"
    refine q_tupK (Nat.le_of_ble_eq_true rfl) fun u0 nu0 => ?_
    walk_at "my_rd"
    refine q_tupK (Nat.le_of_ble_eq_true rfl) fun u1 nu1 => ?_
    walk_at "my_rd"
    refine q_tupK (Nat.le_of_ble_eq_true rfl) fun u2 nu2 => ?_
    walk_at "my_rd"
    refine ⟨_, _, rfl, .tup (sqT upd_same) (.cons (.tup (sqT (a := u0) (xs := [.str (repS "x" 20), .int 1]) (by (repeat first | (with_reducible exact upd_same) | (with_reducible assumption) | (with_reducible apply upd_new (by assumption)) | (with_reducible apply upd_other (by first | assumption | exact Ne.symm (by assumption))) | (with_reducible refine' Kp.get (by assumption) ?_ (by first | assumption | exact Ne.symm (by assumption))) | (with_reducible apply Same.get (by assumption))))) (.cons (.str _) (.cons (.int _) .nil))) (.cons (.tup (sqT (a := u1) (xs := [.str "y", .int (10 ^ (30 : Int).toNat)]) (by (repeat first | (with_reducible exact upd_same) | (with_reducible assumption) | (with_reducible apply upd_new (by assumption)) | (with_reducible apply upd_other (by first | assumption | exact Ne.symm (by assumption))) | (with_reducible refine' Kp.get (by assumption) ?_ (by first | assumption | exact Ne.symm (by assumption))) | (with_reducible apply Same.get (by assumption))))) (.cons (.str _) (.cons (.int _) .nil))) .nil)), two_fine, fun H7 sm7 => ?_⟩
    have sm57 : Same H5 H7 := Same.trans (Same.up (Same.up (Same.up sm6 nu0) nu1) nu2) sm7
    rw [two_set]
    walk_at "my_rd"
    refine q_if2 (fun h => by cases h) (fun _ => ?_)
    have qt : ∀ {H' : Hp} {R : VK}, Same H5 H' → (∀ H'', Same H5 H'' → R (.int (wsum gs)) H'') → sp_Ltotal K [.ref g] H' R E0 := fun {H' R} sm kk => ⟨g, xs, gs, rfl, sqT (sm _ _ hg5), hP5.same sm, hok, fun H'' sm' => kk H'' (Same.trans sm sm')⟩
    have qh : ∀ {H' : Hp} {R : VK}, Same H5 H' → (∀ H'', Same H5 H'' → R (.int (thr gs)) H'') → sp_Lthr K [.ref g] H' R E0 := fun {H' R} sm kk => ⟨g, xs, gs, rfl, sqT (sm _ _ hg5), hP5.same sm, hok, fun H'' sm' => kk H'' (Same.trans sm sm')⟩
    walk_at "my_rd"
    refine qt sm57 fun H8 sm8 => ?_
    walk_at "my_rd"
    refine qh sm8 fun H8 sm8 => ?_
    walk_at "my_rd"
    refine qt sm8 fun H8 sm8 => ?_
    walk_at "my_rd"
    refine qh sm8 fun H8 sm8 => ?_
    walk_at "my_rd"
    refine q_lstK (Nat.le_of_ble_eq_true rfl) fun due ndue => ?_
    walk_at "my_rd"
    generalize hHd : upd _ due _ = Hd
    have sm9 : Same H5 Hd := by rw [← hHd]; exact Same.up sm8 ndue
    have hd9 : Hd due = some (.lst [.int (wsum gs), .int (thr gs), .int (wsum gs - thr gs + 1)]) := by rw [← hHd]; exact upd_same
    refine ⟨g, xs, gs, rfl, sqT (sm9 _ _ hg5), hP5.same sm9, hok, fun H9 m9 => ?_⟩
    walk_at "my_rd"
    have sm10 := Same.trans sm9 m9
    refine ⟨g, xs, gs, rfl, sqT (sm10 _ _ hg5), hP5.same sm10, hok, fun H10 m10 => ?_⟩
    walk_at "my_rd"
    have sm11 := Same.trans sm10 m10
    refine ⟨g, xs, gs, rfl, sqT (sm11 _ _ hg5), hP5.same sm11, hok, fun H11 m11 => ?_⟩
    walk_at "my_rd"
    refine q_lstK (Nat.le_of_ble_eq_true rfl) fun fnd nfnd => ?_
    walk_at "my_rd"
    have hdue : (upd H11 fnd (.lst [.int (wsum gs), .int (thr gs), .int (wsum gs - thr gs + 1)])) due = some (.lst [.int (wsum gs), .int (thr gs), .int (wsum gs - thr gs + 1)]) :=
      upd_new nfnd (m11 _ _ (m10 _ _ (m9 _ _ hd9)))
    refine q_eqD (.lst (sqL upd_same) (.cons (.int _) (.cons (.int _) (.cons (.int _) .nil)))) (.lst (sqL hdue) (.cons (.int _) (.cons (.int _) (.cons (.int _) .nil)))) (three_shaped _ _ _) (three_shaped _ _ _) ?_
    rw [three_eqv]
    walk_at "my_rd"
    generalize hHf : upd H11 fnd _ = Hf
    have hf : Hf fnd = some (.lst [.int (wsum gs), .int (thr gs), .int (wsum gs - thr gs + 1)]) := by rw [← hHf]; exact upd_same
    refine q_lcL (sqL hf) (fun D nD => ⟨fun i H2 => Same Hf H2 ∧ H2 D = some (.lst ((List.replicate i true).map V.bl)) ∧ i ≤ 3, ⟨Same.new (Same.refl _) nD, upd_same, Nat.zero_le _⟩, fun i H2 _ h => sqL (h.1 _ _ hf), ?_, ?_⟩)
    · rintro i x H12 hx ⟨sm, hD, _⟩
      have hi : i < 3 := (List.getElem?_eq_some_iff.mp hx).1
      obtain ⟨z, rfl⟩ : ∃ z, x = V.int z := map_at (ns := [wsum gs, thr gs, wsum gs - thr gs + 1]) (i := i) hx
      walk_at "my_rd"
      refine ⟨rfl, ?_⟩
      walk_at "my_rd"
      refine ⟨_, .int z, rfl, .int z, trivial, fun H13 sm13 => ?_⟩
      refine q_accK (sm13 _ _ hD) (by rw [List.length_map, List.length_replicate]; exact small1000 (by omega)) ⟨Same.new (Same.trans sm sm13) nD, ?_, by omega⟩
      rw [upd_same, List.replicate_succ', List.map_append]
      rfl
    · rintro H12 ⟨sm, hD, _⟩
      walk_at "my_rd"
      refine q_all (sqL hD) ?_
      exact k _
end

def txt_mk {K : PySem.W.Frag} {h : Heap} {mg : Str → Option Value} (X : K.In h) (G : h.Ns mainGlobals mg)
    {f0 f1 f2 f3 f4 f5 f6 f7 f8 f9 f10 f11 f12 f13 f14 f15 f16 f17 : Addr} {od0 an0 od1 an1 od2 an2 od3 an3 od4 an4 od5 an5 od6 an6 od7 an7 od8 an8 od9 an9 od10 an10 od11 an11 od12 an12 od13 an13 od14 an14 od15 an15 od16 an16 od17 an17 : Option Addr} {sl0 sl1 sl2 sl3 sl4 sl5 sl6 sl7 sl8 sl9 sl10 sl11 sl12 sl13 sl14 sl15 sl16 sl17 : Array (Option Value)} {oc0 kV0 dc0 pm0 cd0 ct0 oc1 kV1 dc1 pm1 cd1 ct1 oc2 kV2 dc2 pm2 cd2 ct2 oc3 kV3 dc3 pm3 cd3 ct3 oc4 kV4 dc4 pm4 cd4 ct4 oc5 kV5 dc5 pm5 cd5 ct5 oc6 kV6 dc6 pm6 cd6 ct6 oc7 kV7 dc7 pm7 cd7 ct7 oc8 kV8 dc8 pm8 cd8 ct8 oc9 kV9 dc9 pm9 cd9 ct9 oc10 kV10 dc10 pm10 cd10 ct10 oc11 kV11 dc11 pm11 cd11 ct11 oc12 kV12 dc12 pm12 cd12 ct12 oc13 kV13 dc13 pm13 cd13 ct13 oc14 kV14 dc14 pm14 cd14 ct14 oc15 kV15 dc15 pm15 cd15 ct15 oc16 kV16 dc16 pm16 cd16 ct16 oc17 kV17 dc17 pm17 cd17 ct17 : Value} {tk0 tk1 tk2 tk3 : Tok}
    (a0 : PySem.W.nsIn K mainGlobals "is_integer" = some (some (.ref f0)))
    (a1 : PySem.W.nsIn K mainGlobals "is_at_least" = some (some (.ref f1)))
    (a2 : PySem.W.nsIn K mainGlobals "is_text" = some (some (.ref f2)))
    (a3 : PySem.W.nsIn K mainGlobals "is_short_text" = some (some (.ref f3)))
    (a4 : PySem.W.nsIn K mainGlobals "is_account" = some (some (.ref f4)))
    (a5 : PySem.W.nsIn K mainGlobals "is_set" = some (some (.ref f5)))
    (a6 : PySem.W.nsIn K mainGlobals "is_pair" = some (some (.ref f6)))
    (a7 : PySem.W.nsIn K mainGlobals "total" = some (some (.ref f7)))
    (a8 : PySem.W.nsIn K mainGlobals "threshold" = some (some (.ref f8)))
    (a9 : PySem.W.nsIn K mainGlobals "minority" = some (some (.ref f9)))
    (a10 : PySem.W.nsIn K mainGlobals "_law_pot" = some (some (.ref f10)))
    (a11 : PySem.W.nsIn K mainGlobals "_law_next" = some (some (.ref f11)))
    (a12 : PySem.W.nsIn K mainGlobals "_law_is_int" = some (some (.ref f12)))
    (a13 : PySem.W.nsIn K mainGlobals "_law_set" = some (some (.ref f13)))
    (a14 : PySem.W.nsIn K mainGlobals "_law_total" = some (some (.ref f14)))
    (a15 : PySem.W.nsIn K mainGlobals "_law_threshold" = some (some (.ref f15)))
    (a16 : PySem.W.nsIn K mainGlobals "_law_spoilt" = some (some (.ref f16)))
    (a17 : PySem.W.nsIn K mainGlobals "law" = some (some (.ref f17)))
    (l0 : K.lookup f0 = some ⟨oc0, od0, .func (PySem.W.fnOf "is_integer" "is_integer" (defArgs s_is_integer) (defBody s_is_integer) (defScope s_is_integer) .none kV0 dc0 pm0 an0 cd0 ct0), sl0⟩)
    (c0 : PySem.W.codeIn K cd0 "is_integer" = true)
    (k0 : PySem.W.keepIn K (.ref f0) = true)
    (l1 : K.lookup f1 = some ⟨oc1, od1, .func (PySem.W.fnOf "is_at_least" "is_at_least" (defArgs s_is_at_least) (defBody s_is_at_least) (defScope s_is_at_least) .none kV1 dc1 pm1 an1 cd1 ct1), sl1⟩)
    (c1 : PySem.W.codeIn K cd1 "is_at_least" = true)
    (k1 : PySem.W.keepIn K (.ref f1) = true)
    (l2 : K.lookup f2 = some ⟨oc2, od2, .func (PySem.W.fnOf "is_text" "is_text" (defArgs s_is_text) (defBody s_is_text) (defScope s_is_text) .none kV2 dc2 pm2 an2 cd2 ct2), sl2⟩)
    (c2 : PySem.W.codeIn K cd2 "is_text" = true)
    (k2 : PySem.W.keepIn K (.ref f2) = true)
    (l3 : K.lookup f3 = some ⟨oc3, od3, .func (PySem.W.fnOf "is_short_text" "is_short_text" (defArgs s_is_short_text) (defBody s_is_short_text) (defScope s_is_short_text) .none kV3 dc3 pm3 an3 cd3 ct3), sl3⟩)
    (c3 : PySem.W.codeIn K cd3 "is_short_text" = true)
    (k3 : PySem.W.keepIn K (.ref f3) = true)
    (l4 : K.lookup f4 = some ⟨oc4, od4, .func (PySem.W.fnOf "is_account" "is_account" (defArgs s_is_account) (defBody s_is_account) (defScope s_is_account) .none kV4 dc4 pm4 an4 cd4 ct4), sl4⟩)
    (c4 : PySem.W.codeIn K cd4 "is_account" = true)
    (k4 : PySem.W.keepIn K (.ref f4) = true)
    (l5 : K.lookup f5 = some ⟨oc5, od5, .func (PySem.W.fnOf "is_set" "is_set" (defArgs s_is_set) (defBody s_is_set) (defScope s_is_set) .none kV5 dc5 pm5 an5 cd5 ct5), sl5⟩)
    (c5 : PySem.W.codeIn K cd5 "is_set" = true)
    (k5 : PySem.W.keepIn K (.ref f5) = true)
    (l6 : K.lookup f6 = some ⟨oc6, od6, .func (PySem.W.fnOf "is_pair" "is_pair" (defArgs s_is_pair) (defBody s_is_pair) (defScope s_is_pair) .none kV6 dc6 pm6 an6 cd6 ct6), sl6⟩)
    (c6 : PySem.W.codeIn K cd6 "is_pair" = true)
    (k6 : PySem.W.keepIn K (.ref f6) = true)
    (l7 : K.lookup f7 = some ⟨oc7, od7, .func (PySem.W.fnOf "total" "total" (defArgs s_total) (defBody s_total) (defScope s_total) .none kV7 dc7 pm7 an7 cd7 ct7), sl7⟩)
    (c7 : PySem.W.codeIn K cd7 "total" = true)
    (k7 : PySem.W.keepIn K (.ref f7) = true)
    (l8 : K.lookup f8 = some ⟨oc8, od8, .func (PySem.W.fnOf "threshold" "threshold" (defArgs s_threshold) (defBody s_threshold) (defScope s_threshold) .none kV8 dc8 pm8 an8 cd8 ct8), sl8⟩)
    (c8 : PySem.W.codeIn K cd8 "threshold" = true)
    (k8 : PySem.W.keepIn K (.ref f8) = true)
    (l9 : K.lookup f9 = some ⟨oc9, od9, .func (PySem.W.fnOf "minority" "minority" (defArgs s_minority) (defBody s_minority) (defScope s_minority) .none kV9 dc9 pm9 an9 cd9 ct9), sl9⟩)
    (c9 : PySem.W.codeIn K cd9 "minority" = true)
    (k9 : PySem.W.keepIn K (.ref f9) = true)
    (l10 : K.lookup f10 = some ⟨oc10, od10, .func (PySem.W.fnOf "_law_pot" "_law_pot" (defArgs s_L_pot) (defBody s_L_pot) (defScope s_L_pot) .none kV10 dc10 pm10 an10 cd10 ct10), sl10⟩)
    (c10 : PySem.W.codeIn K cd10 "_law_pot" = true)
    (k10 : PySem.W.keepIn K (.ref f10) = true)
    (l11 : K.lookup f11 = some ⟨oc11, od11, .func (PySem.W.fnOf "_law_next" "_law_next" (defArgs s_L_next) (defBody s_L_next) (defScope s_L_next) .none kV11 dc11 pm11 an11 cd11 ct11), sl11⟩)
    (c11 : PySem.W.codeIn K cd11 "_law_next" = true)
    (k11 : PySem.W.keepIn K (.ref f11) = true)
    (l12 : K.lookup f12 = some ⟨oc12, od12, .func (PySem.W.fnOf "_law_is_int" "_law_is_int" (defArgs s_L_is_int) (defBody s_L_is_int) (defScope s_L_is_int) .none kV12 dc12 pm12 an12 cd12 ct12), sl12⟩)
    (c12 : PySem.W.codeIn K cd12 "_law_is_int" = true)
    (k12 : PySem.W.keepIn K (.ref f12) = true)
    (l13 : K.lookup f13 = some ⟨oc13, od13, .func (PySem.W.fnOf "_law_set" "_law_set" (defArgs s_L_set) (defBody s_L_set) (defScope s_L_set) .none kV13 dc13 pm13 an13 cd13 ct13), sl13⟩)
    (c13 : PySem.W.codeIn K cd13 "_law_set" = true)
    (k13 : PySem.W.keepIn K (.ref f13) = true)
    (l14 : K.lookup f14 = some ⟨oc14, od14, .func (PySem.W.fnOf "_law_total" "_law_total" (defArgs s_L_total) (defBody s_L_total) (defScope s_L_total) .none kV14 dc14 pm14 an14 cd14 ct14), sl14⟩)
    (c14 : PySem.W.codeIn K cd14 "_law_total" = true)
    (k14 : PySem.W.keepIn K (.ref f14) = true)
    (l15 : K.lookup f15 = some ⟨oc15, od15, .func (PySem.W.fnOf "_law_threshold" "_law_threshold" (defArgs s_L_threshold) (defBody s_L_threshold) (defScope s_L_threshold) .none kV15 dc15 pm15 an15 cd15 ct15), sl15⟩)
    (c15 : PySem.W.codeIn K cd15 "_law_threshold" = true)
    (k15 : PySem.W.keepIn K (.ref f15) = true)
    (l16 : K.lookup f16 = some ⟨oc16, od16, .func (PySem.W.fnOf "_law_spoilt" "_law_spoilt" (defArgs s_L_spoilt) (defBody s_L_spoilt) (defScope s_L_spoilt) .none kV16 dc16 pm16 an16 cd16 ct16), sl16⟩)
    (c16 : PySem.W.codeIn K cd16 "_law_spoilt" = true)
    (k16 : PySem.W.keepIn K (.ref f16) = true)
    (l17 : K.lookup f17 = some ⟨oc17, od17, .func (PySem.W.fnOf "law" "law" (defArgs s_law) (defBody s_law) (defScope s_law) .none kV17 dc17 pm17 an17 cd17 ct17), sl17⟩)
    (c17 : PySem.W.codeIn K cd17 "law" = true)
    (k17 : PySem.W.keepIn K (.ref f17) = true)
    (q0 : PySem.W.nsIn K mainGlobals "ACCOUNT_LENGTH" = some (some (.int 20 tk0)))
    (q1 : PySem.W.nsIn K mainGlobals "BARRED_CODE" = some (some (.int 37 tk1)))
    (q2 : PySem.W.nsIn K mainGlobals "FIRST_CODE" = some (some (.int 32 tk2)))
    (q3 : PySem.W.nsIn K mainGlobals "LAST_CODE" = some (some (.int 126 tk3)))
    (z0 : PySem.W.nsIn K mainGlobals "abs" = some none)
    (z1 : PySem.W.nsIn K mainGlobals "all" = some none)
    (z2 : PySem.W.nsIn K mainGlobals "bool" = some none)
    (z3 : PySem.W.nsIn K mainGlobals "int" = some none)
    (z4 : PySem.W.nsIn K mainGlobals "isinstance" = some none)
    (z5 : PySem.W.nsIn K mainGlobals "len" = some none)
    (z6 : PySem.W.nsIn K mainGlobals "list" = some none)
    (z7 : PySem.W.nsIn K mainGlobals "ord" = some none)
    (z8 : PySem.W.nsIn K mainGlobals "range" = some none)
    (z9 : PySem.W.nsIn K mainGlobals "str" = some none)
    (z10 : PySem.W.nsIn K mainGlobals "sum" = some none)
    (z11 : PySem.W.nsIn K mainGlobals "tuple" = some none) : Txt K mg where
  f_is_integer := f0
  d_is_integer := PySem.W.fnOf "is_integer" "is_integer" (defArgs s_is_integer) (defBody s_is_integer) (defScope s_is_integer) .none kV0 dc0 pm0 an0 cd0 ct0
  F_is_integer := fun_mk (st := s_is_integer) l0 c0 k0
  b_is_integer := Fun.binds (fun_mk (st := s_is_integer) l0 c0 k0) (ps := ["value"]) fun _ _ _ _ _ _ us hl => match us, hl with | [_], _ => rfl
  g_is_integer := PySem.W.mg_of X G a0
  f_is_at_least := f1
  d_is_at_least := PySem.W.fnOf "is_at_least" "is_at_least" (defArgs s_is_at_least) (defBody s_is_at_least) (defScope s_is_at_least) .none kV1 dc1 pm1 an1 cd1 ct1
  F_is_at_least := fun_mk (st := s_is_at_least) l1 c1 k1
  b_is_at_least := Fun.binds (fun_mk (st := s_is_at_least) l1 c1 k1) (ps := ["value", "least"]) fun _ _ _ _ _ _ us hl => match us, hl with | [_, _], _ => rfl
  g_is_at_least := PySem.W.mg_of X G a1
  f_is_text := f2
  d_is_text := PySem.W.fnOf "is_text" "is_text" (defArgs s_is_text) (defBody s_is_text) (defScope s_is_text) .none kV2 dc2 pm2 an2 cd2 ct2
  F_is_text := fun_mk (st := s_is_text) l2 c2 k2
  b_is_text := Fun.binds (fun_mk (st := s_is_text) l2 c2 k2) (ps := ["value"]) fun _ _ _ _ _ _ us hl => match us, hl with | [_], _ => rfl
  g_is_text := PySem.W.mg_of X G a2
  f_is_short_text := f3
  d_is_short_text := PySem.W.fnOf "is_short_text" "is_short_text" (defArgs s_is_short_text) (defBody s_is_short_text) (defScope s_is_short_text) .none kV3 dc3 pm3 an3 cd3 ct3
  F_is_short_text := fun_mk (st := s_is_short_text) l3 c3 k3
  b_is_short_text := Fun.binds (fun_mk (st := s_is_short_text) l3 c3 k3) (ps := ["value", "most"]) fun _ _ _ _ _ _ us hl => match us, hl with | [_, _], _ => rfl
  g_is_short_text := PySem.W.mg_of X G a3
  f_is_account := f4
  d_is_account := PySem.W.fnOf "is_account" "is_account" (defArgs s_is_account) (defBody s_is_account) (defScope s_is_account) .none kV4 dc4 pm4 an4 cd4 ct4
  F_is_account := fun_mk (st := s_is_account) l4 c4 k4
  b_is_account := Fun.binds (fun_mk (st := s_is_account) l4 c4 k4) (ps := ["value"]) fun _ _ _ _ _ _ us hl => match us, hl with | [_], _ => rfl
  g_is_account := PySem.W.mg_of X G a4
  f_is_set := f5
  d_is_set := PySem.W.fnOf "is_set" "is_set" (defArgs s_is_set) (defBody s_is_set) (defScope s_is_set) .none kV5 dc5 pm5 an5 cd5 ct5
  F_is_set := fun_mk (st := s_is_set) l5 c5 k5
  b_is_set := Fun.binds (fun_mk (st := s_is_set) l5 c5 k5) (ps := ["value"]) fun _ _ _ _ _ _ us hl => match us, hl with | [_], _ => rfl
  g_is_set := PySem.W.mg_of X G a5
  f_is_pair := f6
  d_is_pair := PySem.W.fnOf "is_pair" "is_pair" (defArgs s_is_pair) (defBody s_is_pair) (defScope s_is_pair) .none kV6 dc6 pm6 an6 cd6 ct6
  F_is_pair := fun_mk (st := s_is_pair) l6 c6 k6
  b_is_pair := Fun.binds (fun_mk (st := s_is_pair) l6 c6 k6) (ps := ["part"]) fun _ _ _ _ _ _ us hl => match us, hl with | [_], _ => rfl
  g_is_pair := PySem.W.mg_of X G a6
  f_total := f7
  d_total := PySem.W.fnOf "total" "total" (defArgs s_total) (defBody s_total) (defScope s_total) .none kV7 dc7 pm7 an7 cd7 ct7
  F_total := fun_mk (st := s_total) l7 c7 k7
  b_total := Fun.binds (fun_mk (st := s_total) l7 c7 k7) (ps := ["guards"]) fun _ _ _ _ _ _ us hl => match us, hl with | [_], _ => rfl
  g_total := PySem.W.mg_of X G a7
  f_threshold := f8
  d_threshold := PySem.W.fnOf "threshold" "threshold" (defArgs s_threshold) (defBody s_threshold) (defScope s_threshold) .none kV8 dc8 pm8 an8 cd8 ct8
  F_threshold := fun_mk (st := s_threshold) l8 c8 k8
  b_threshold := Fun.binds (fun_mk (st := s_threshold) l8 c8 k8) (ps := ["guards"]) fun _ _ _ _ _ _ us hl => match us, hl with | [_], _ => rfl
  g_threshold := PySem.W.mg_of X G a8
  f_minority := f9
  d_minority := PySem.W.fnOf "minority" "minority" (defArgs s_minority) (defBody s_minority) (defScope s_minority) .none kV9 dc9 pm9 an9 cd9 ct9
  F_minority := fun_mk (st := s_minority) l9 c9 k9
  b_minority := Fun.binds (fun_mk (st := s_minority) l9 c9 k9) (ps := ["guards"]) fun _ _ _ _ _ _ us hl => match us, hl with | [_], _ => rfl
  g_minority := PySem.W.mg_of X G a9
  f_L_pot := f10
  d_L_pot := PySem.W.fnOf "_law_pot" "_law_pot" (defArgs s_L_pot) (defBody s_L_pot) (defScope s_L_pot) .none kV10 dc10 pm10 an10 cd10 ct10
  F_L_pot := fun_mk (st := s_L_pot) l10 c10 k10
  b_L_pot := Fun.binds (fun_mk (st := s_L_pot) l10 c10 k10) (ps := ["script"]) fun _ _ _ _ _ _ us hl => match us, hl with | [_], _ => rfl
  g_L_pot := PySem.W.mg_of X G a10
  f_L_next := f11
  d_L_next := PySem.W.fnOf "_law_next" "_law_next" (defArgs s_L_next) (defBody s_L_next) (defScope s_L_next) .none kV11 dc11 pm11 an11 cd11 ct11
  F_L_next := fun_mk (st := s_L_next) l11 c11 k11
  b_L_next := Fun.binds (fun_mk (st := s_L_next) l11 c11 k11) (ps := ["pot", "limit"]) fun _ _ _ _ _ _ us hl => match us, hl with | [_, _], _ => rfl
  g_L_next := PySem.W.mg_of X G a11
  f_L_is_int := f12
  d_L_is_int := PySem.W.fnOf "_law_is_int" "_law_is_int" (defArgs s_L_is_int) (defBody s_L_is_int) (defScope s_L_is_int) .none kV12 dc12 pm12 an12 cd12 ct12
  F_L_is_int := fun_mk (st := s_L_is_int) l12 c12 k12
  b_L_is_int := Fun.binds (fun_mk (st := s_L_is_int) l12 c12 k12) (ps := ["value"]) fun _ _ _ _ _ _ us hl => match us, hl with | [_], _ => rfl
  g_L_is_int := PySem.W.mg_of X G a12
  f_L_set := f13
  d_L_set := PySem.W.fnOf "_law_set" "_law_set" (defArgs s_L_set) (defBody s_L_set) (defScope s_L_set) .none kV13 dc13 pm13 an13 cd13 ct13
  F_L_set := fun_mk (st := s_L_set) l13 c13 k13
  b_L_set := Fun.binds (fun_mk (st := s_L_set) l13 c13 k13) (ps := ["pot", "most"]) fun _ _ _ _ _ _ us hl => match us, hl with | [_, _], _ => rfl
  g_L_set := PySem.W.mg_of X G a13
  f_L_total := f14
  d_L_total := PySem.W.fnOf "_law_total" "_law_total" (defArgs s_L_total) (defBody s_L_total) (defScope s_L_total) .none kV14 dc14 pm14 an14 cd14 ct14
  F_L_total := fun_mk (st := s_L_total) l14 c14 k14
  b_L_total := Fun.binds (fun_mk (st := s_L_total) l14 c14 k14) (ps := ["guards"]) fun _ _ _ _ _ _ us hl => match us, hl with | [_], _ => rfl
  g_L_total := PySem.W.mg_of X G a14
  f_L_threshold := f15
  d_L_threshold := PySem.W.fnOf "_law_threshold" "_law_threshold" (defArgs s_L_threshold) (defBody s_L_threshold) (defScope s_L_threshold) .none kV15 dc15 pm15 an15 cd15 ct15
  F_L_threshold := fun_mk (st := s_L_threshold) l15 c15 k15
  b_L_threshold := Fun.binds (fun_mk (st := s_L_threshold) l15 c15 k15) (ps := ["guards"]) fun _ _ _ _ _ _ us hl => match us, hl with | [_], _ => rfl
  g_L_threshold := PySem.W.mg_of X G a15
  f_L_spoilt := f16
  d_L_spoilt := PySem.W.fnOf "_law_spoilt" "_law_spoilt" (defArgs s_L_spoilt) (defBody s_L_spoilt) (defScope s_L_spoilt) .none kV16 dc16 pm16 an16 cd16 ct16
  F_L_spoilt := fun_mk (st := s_L_spoilt) l16 c16 k16
  b_L_spoilt := Fun.binds (fun_mk (st := s_L_spoilt) l16 c16 k16) (ps := ["pot", "guards"]) fun _ _ _ _ _ _ us hl => match us, hl with | [_, _], _ => rfl
  g_L_spoilt := PySem.W.mg_of X G a16
  f_law := f17
  d_law := PySem.W.fnOf "law" "law" (defArgs s_law) (defBody s_law) (defScope s_law) .none kV17 dc17 pm17 an17 cd17 ct17
  F_law := fun_mk (st := s_law) l17 c17 k17
  b_law := Fun.binds (fun_mk (st := s_law) l17 c17 k17) (ps := ["script"]) fun _ _ _ _ _ _ us hl => match us, hl with | [_], _ => rfl
  g_law := PySem.W.mg_of X G a17
  t_ACCOUNT_LENGTH := tk0
  c_ACCOUNT_LENGTH := PySem.W.mg_of X G q0
  t_BARRED_CODE := tk1
  c_BARRED_CODE := PySem.W.mg_of X G q1
  t_FIRST_CODE := tk2
  c_FIRST_CODE := PySem.W.mg_of X G q2
  t_LAST_CODE := tk3
  c_LAST_CODE := PySem.W.mg_of X G q3
  z_abs := PySem.W.mg_none_of X G z0
  z_all := PySem.W.mg_none_of X G z1
  z_bool := PySem.W.mg_none_of X G z2
  z_int := PySem.W.mg_none_of X G z3
  z_isinstance := PySem.W.mg_none_of X G z4
  z_len := PySem.W.mg_none_of X G z5
  z_list := PySem.W.mg_none_of X G z6
  z_ord := PySem.W.mg_none_of X G z7
  z_range := PySem.W.mg_none_of X G z8
  z_str := PySem.W.mg_none_of X G z9
  z_sum := PySem.W.mg_none_of X G z10
  z_tuple := PySem.W.mg_none_of X G z11
theorem all_mk {l : PySem.W.OpenLaw} {w : World} {K : PySem.W.Frag} {h : Heap} {mg : Str → Option Value} {fa : Addr} (X : K.In h) (G : h.Ns mainGlobals mg) (hfa : mg "law" = some (.ref fa))
    {f0 f1 f2 f3 f4 f5 f6 f7 f8 f9 f10 f11 f12 f13 f14 f15 f16 f17 : Addr} {od0 an0 od1 an1 od2 an2 od3 an3 od4 an4 od5 an5 od6 an6 od7 an7 od8 an8 od9 an9 od10 an10 od11 an11 od12 an12 od13 an13 od14 an14 od15 an15 od16 an16 od17 an17 : Option Addr} {sl0 sl1 sl2 sl3 sl4 sl5 sl6 sl7 sl8 sl9 sl10 sl11 sl12 sl13 sl14 sl15 sl16 sl17 : Array (Option Value)} {oc0 kV0 dc0 pm0 cd0 ct0 oc1 kV1 dc1 pm1 cd1 ct1 oc2 kV2 dc2 pm2 cd2 ct2 oc3 kV3 dc3 pm3 cd3 ct3 oc4 kV4 dc4 pm4 cd4 ct4 oc5 kV5 dc5 pm5 cd5 ct5 oc6 kV6 dc6 pm6 cd6 ct6 oc7 kV7 dc7 pm7 cd7 ct7 oc8 kV8 dc8 pm8 cd8 ct8 oc9 kV9 dc9 pm9 cd9 ct9 oc10 kV10 dc10 pm10 cd10 ct10 oc11 kV11 dc11 pm11 cd11 ct11 oc12 kV12 dc12 pm12 cd12 ct12 oc13 kV13 dc13 pm13 cd13 ct13 oc14 kV14 dc14 pm14 cd14 ct14 oc15 kV15 dc15 pm15 cd15 ct15 oc16 kV16 dc16 pm16 cd16 ct16 oc17 kV17 dc17 pm17 cd17 ct17 : Value} {tk0 tk1 tk2 tk3 : Tok}
    (a0 : PySem.W.nsIn K mainGlobals "is_integer" = some (some (.ref f0)))
    (a1 : PySem.W.nsIn K mainGlobals "is_at_least" = some (some (.ref f1)))
    (a2 : PySem.W.nsIn K mainGlobals "is_text" = some (some (.ref f2)))
    (a3 : PySem.W.nsIn K mainGlobals "is_short_text" = some (some (.ref f3)))
    (a4 : PySem.W.nsIn K mainGlobals "is_account" = some (some (.ref f4)))
    (a5 : PySem.W.nsIn K mainGlobals "is_set" = some (some (.ref f5)))
    (a6 : PySem.W.nsIn K mainGlobals "is_pair" = some (some (.ref f6)))
    (a7 : PySem.W.nsIn K mainGlobals "total" = some (some (.ref f7)))
    (a8 : PySem.W.nsIn K mainGlobals "threshold" = some (some (.ref f8)))
    (a9 : PySem.W.nsIn K mainGlobals "minority" = some (some (.ref f9)))
    (a10 : PySem.W.nsIn K mainGlobals "_law_pot" = some (some (.ref f10)))
    (a11 : PySem.W.nsIn K mainGlobals "_law_next" = some (some (.ref f11)))
    (a12 : PySem.W.nsIn K mainGlobals "_law_is_int" = some (some (.ref f12)))
    (a13 : PySem.W.nsIn K mainGlobals "_law_set" = some (some (.ref f13)))
    (a14 : PySem.W.nsIn K mainGlobals "_law_total" = some (some (.ref f14)))
    (a15 : PySem.W.nsIn K mainGlobals "_law_threshold" = some (some (.ref f15)))
    (a16 : PySem.W.nsIn K mainGlobals "_law_spoilt" = some (some (.ref f16)))
    (a17 : PySem.W.nsIn K mainGlobals "law" = some (some (.ref f17)))
    (l0 : K.lookup f0 = some ⟨oc0, od0, .func (PySem.W.fnOf "is_integer" "is_integer" (defArgs s_is_integer) (defBody s_is_integer) (defScope s_is_integer) .none kV0 dc0 pm0 an0 cd0 ct0), sl0⟩)
    (c0 : PySem.W.codeIn K cd0 "is_integer" = true)
    (k0 : PySem.W.keepIn K (.ref f0) = true)
    (l1 : K.lookup f1 = some ⟨oc1, od1, .func (PySem.W.fnOf "is_at_least" "is_at_least" (defArgs s_is_at_least) (defBody s_is_at_least) (defScope s_is_at_least) .none kV1 dc1 pm1 an1 cd1 ct1), sl1⟩)
    (c1 : PySem.W.codeIn K cd1 "is_at_least" = true)
    (k1 : PySem.W.keepIn K (.ref f1) = true)
    (l2 : K.lookup f2 = some ⟨oc2, od2, .func (PySem.W.fnOf "is_text" "is_text" (defArgs s_is_text) (defBody s_is_text) (defScope s_is_text) .none kV2 dc2 pm2 an2 cd2 ct2), sl2⟩)
    (c2 : PySem.W.codeIn K cd2 "is_text" = true)
    (k2 : PySem.W.keepIn K (.ref f2) = true)
    (l3 : K.lookup f3 = some ⟨oc3, od3, .func (PySem.W.fnOf "is_short_text" "is_short_text" (defArgs s_is_short_text) (defBody s_is_short_text) (defScope s_is_short_text) .none kV3 dc3 pm3 an3 cd3 ct3), sl3⟩)
    (c3 : PySem.W.codeIn K cd3 "is_short_text" = true)
    (k3 : PySem.W.keepIn K (.ref f3) = true)
    (l4 : K.lookup f4 = some ⟨oc4, od4, .func (PySem.W.fnOf "is_account" "is_account" (defArgs s_is_account) (defBody s_is_account) (defScope s_is_account) .none kV4 dc4 pm4 an4 cd4 ct4), sl4⟩)
    (c4 : PySem.W.codeIn K cd4 "is_account" = true)
    (k4 : PySem.W.keepIn K (.ref f4) = true)
    (l5 : K.lookup f5 = some ⟨oc5, od5, .func (PySem.W.fnOf "is_set" "is_set" (defArgs s_is_set) (defBody s_is_set) (defScope s_is_set) .none kV5 dc5 pm5 an5 cd5 ct5), sl5⟩)
    (c5 : PySem.W.codeIn K cd5 "is_set" = true)
    (k5 : PySem.W.keepIn K (.ref f5) = true)
    (l6 : K.lookup f6 = some ⟨oc6, od6, .func (PySem.W.fnOf "is_pair" "is_pair" (defArgs s_is_pair) (defBody s_is_pair) (defScope s_is_pair) .none kV6 dc6 pm6 an6 cd6 ct6), sl6⟩)
    (c6 : PySem.W.codeIn K cd6 "is_pair" = true)
    (k6 : PySem.W.keepIn K (.ref f6) = true)
    (l7 : K.lookup f7 = some ⟨oc7, od7, .func (PySem.W.fnOf "total" "total" (defArgs s_total) (defBody s_total) (defScope s_total) .none kV7 dc7 pm7 an7 cd7 ct7), sl7⟩)
    (c7 : PySem.W.codeIn K cd7 "total" = true)
    (k7 : PySem.W.keepIn K (.ref f7) = true)
    (l8 : K.lookup f8 = some ⟨oc8, od8, .func (PySem.W.fnOf "threshold" "threshold" (defArgs s_threshold) (defBody s_threshold) (defScope s_threshold) .none kV8 dc8 pm8 an8 cd8 ct8), sl8⟩)
    (c8 : PySem.W.codeIn K cd8 "threshold" = true)
    (k8 : PySem.W.keepIn K (.ref f8) = true)
    (l9 : K.lookup f9 = some ⟨oc9, od9, .func (PySem.W.fnOf "minority" "minority" (defArgs s_minority) (defBody s_minority) (defScope s_minority) .none kV9 dc9 pm9 an9 cd9 ct9), sl9⟩)
    (c9 : PySem.W.codeIn K cd9 "minority" = true)
    (k9 : PySem.W.keepIn K (.ref f9) = true)
    (l10 : K.lookup f10 = some ⟨oc10, od10, .func (PySem.W.fnOf "_law_pot" "_law_pot" (defArgs s_L_pot) (defBody s_L_pot) (defScope s_L_pot) .none kV10 dc10 pm10 an10 cd10 ct10), sl10⟩)
    (c10 : PySem.W.codeIn K cd10 "_law_pot" = true)
    (k10 : PySem.W.keepIn K (.ref f10) = true)
    (l11 : K.lookup f11 = some ⟨oc11, od11, .func (PySem.W.fnOf "_law_next" "_law_next" (defArgs s_L_next) (defBody s_L_next) (defScope s_L_next) .none kV11 dc11 pm11 an11 cd11 ct11), sl11⟩)
    (c11 : PySem.W.codeIn K cd11 "_law_next" = true)
    (k11 : PySem.W.keepIn K (.ref f11) = true)
    (l12 : K.lookup f12 = some ⟨oc12, od12, .func (PySem.W.fnOf "_law_is_int" "_law_is_int" (defArgs s_L_is_int) (defBody s_L_is_int) (defScope s_L_is_int) .none kV12 dc12 pm12 an12 cd12 ct12), sl12⟩)
    (c12 : PySem.W.codeIn K cd12 "_law_is_int" = true)
    (k12 : PySem.W.keepIn K (.ref f12) = true)
    (l13 : K.lookup f13 = some ⟨oc13, od13, .func (PySem.W.fnOf "_law_set" "_law_set" (defArgs s_L_set) (defBody s_L_set) (defScope s_L_set) .none kV13 dc13 pm13 an13 cd13 ct13), sl13⟩)
    (c13 : PySem.W.codeIn K cd13 "_law_set" = true)
    (k13 : PySem.W.keepIn K (.ref f13) = true)
    (l14 : K.lookup f14 = some ⟨oc14, od14, .func (PySem.W.fnOf "_law_total" "_law_total" (defArgs s_L_total) (defBody s_L_total) (defScope s_L_total) .none kV14 dc14 pm14 an14 cd14 ct14), sl14⟩)
    (c14 : PySem.W.codeIn K cd14 "_law_total" = true)
    (k14 : PySem.W.keepIn K (.ref f14) = true)
    (l15 : K.lookup f15 = some ⟨oc15, od15, .func (PySem.W.fnOf "_law_threshold" "_law_threshold" (defArgs s_L_threshold) (defBody s_L_threshold) (defScope s_L_threshold) .none kV15 dc15 pm15 an15 cd15 ct15), sl15⟩)
    (c15 : PySem.W.codeIn K cd15 "_law_threshold" = true)
    (k15 : PySem.W.keepIn K (.ref f15) = true)
    (l16 : K.lookup f16 = some ⟨oc16, od16, .func (PySem.W.fnOf "_law_spoilt" "_law_spoilt" (defArgs s_L_spoilt) (defBody s_L_spoilt) (defScope s_L_spoilt) .none kV16 dc16 pm16 an16 cd16 ct16), sl16⟩)
    (c16 : PySem.W.codeIn K cd16 "_law_spoilt" = true)
    (k16 : PySem.W.keepIn K (.ref f16) = true)
    (l17 : K.lookup f17 = some ⟨oc17, od17, .func (PySem.W.fnOf "law" "law" (defArgs s_law) (defBody s_law) (defScope s_law) .none kV17 dc17 pm17 an17 cd17 ct17), sl17⟩)
    (c17 : PySem.W.codeIn K cd17 "law" = true)
    (k17 : PySem.W.keepIn K (.ref f17) = true)
    (q0 : PySem.W.nsIn K mainGlobals "ACCOUNT_LENGTH" = some (some (.int 20 tk0)))
    (q1 : PySem.W.nsIn K mainGlobals "BARRED_CODE" = some (some (.int 37 tk1)))
    (q2 : PySem.W.nsIn K mainGlobals "FIRST_CODE" = some (some (.int 32 tk2)))
    (q3 : PySem.W.nsIn K mainGlobals "LAST_CODE" = some (some (.int 126 tk3)))
    (z0 : PySem.W.nsIn K mainGlobals "abs" = some none)
    (z1 : PySem.W.nsIn K mainGlobals "all" = some none)
    (z2 : PySem.W.nsIn K mainGlobals "bool" = some none)
    (z3 : PySem.W.nsIn K mainGlobals "int" = some none)
    (z4 : PySem.W.nsIn K mainGlobals "isinstance" = some none)
    (z5 : PySem.W.nsIn K mainGlobals "len" = some none)
    (z6 : PySem.W.nsIn K mainGlobals "list" = some none)
    (z7 : PySem.W.nsIn K mainGlobals "ord" = some none)
    (z8 : PySem.W.nsIn K mainGlobals "range" = some none)
    (z9 : PySem.W.nsIn K mainGlobals "str" = some none)
    (z10 : PySem.W.nsIn K mainGlobals "sum" = some none)
    (z11 : PySem.W.nsIn K mainGlobals "tuple" = some none) :
    ∃ fd : FuncData, (∀ (s : Shared) (v : Value), BindsTo s fd ⟨[v], []⟩ [("script", v)]) ∧ ∀ base : Heap, K.In base → base.Ns mainGlobals mg → FnOk l.prog w K mg base CX0 6 fa fd ["script"] (spLaw K) := by
  have e := hfa.symm.trans (PySem.W.mg_of X G a17)
  cases e
  exact ⟨PySem.W.fnOf "law" "law" (defArgs s_law) (defBody s_law) (defScope s_law) .none kV17 dc17 pm17 an17 cd17 ct17, fun s v => .of_eq rfl, fun base _ _ => ok_law (txt_mk X G a0 a1 a2 a3 a4 a5 a6 a7 a8 a9 a10 a11 a12 a13 a14 a15 a16 a17 l0 c0 k0 l1 c1 k1 l2 c2 k2 l3 c3 k3 l4 c4 k4 l5 c5 k5 l6 c6 k6 l7 c7 k7 l8 c8 k8 l9 c9 k9 l10 c10 k10 l11 c11 k11 l12 c12 k12 l13 c13 k13 l14 c14 k14 l15 c15 k15 l16 c16 k16 l17 c17 k17 q0 q1 q2 q3 z0 z1 z2 z3 z4 z5 z6 z7 z8 z9 z10 z11)⟩
end Pf
open PySem PySem.W PyProof.Rows
set_option maxRecDepth 100000 in
set_option maxHeartbeats 0 in
theorem PySem.Challenge.cw_vaultbridge_k00_sets_holds : PySem.Challenge.rw_vaultbridge_k00_sets.Holds := by
  w_on; o_law; k_head; (case hw => w_witness2)
  k_fill
  refine L2.walk_of (l := PySem.Challenge.rw_vaultbridge_k00_sets) (n := 63) (k := 6) (x := "script") (CX := fun _ => L2.CX0) (sp := fun w => Pf.spLaw _) rfl (by decide) rfl ⟨rfl, by decide, by decide⟩ (fun w h Y => PySem.W.kIn_of Y) ?F (fun _ _ a ns hl _ hS => ⟨a, ns, rfl, hS, hl, fun _ => rfl⟩) (fun _ _ _ _ _ h => h)
  case F =>
    intro w mg fa h KX G hmg
    refine' Pf.all_mk KX G hmg ?a0 ?a1 ?a2 ?a3 ?a4 ?a5 ?a6 ?a7 ?a8 ?a9 ?a10 ?a11 ?a12 ?a13 ?a14 ?a15 ?a16 ?a17 ?l0 ?c0 ?k0 ?l1 ?c1 ?k1 ?l2 ?c2 ?k2 ?l3 ?c3 ?k3 ?l4 ?c4 ?k4 ?l5 ?c5 ?k5 ?l6 ?c6 ?k6 ?l7 ?c7 ?k7 ?l8 ?c8 ?k8 ?l9 ?c9 ?k9 ?l10 ?c10 ?k10 ?l11 ?c11 ?k11 ?l12 ?c12 ?k12 ?l13 ?c13 ?k13 ?l14 ?c14 ?k14 ?l15 ?c15 ?k15 ?l16 ?c16 ?k16 ?l17 ?c17 ?k17 ?q0 ?q1 ?q2 ?q3 ?z0 ?z1 ?z2 ?z3 ?z4 ?z5 ?z6 ?z7 ?z8 ?z9 ?z10 ?z11
    (case a0 => k_is)
    (case a1 => k_is)
    (case a2 => k_is)
    (case a3 => k_is)
    (case a4 => k_is)
    (case a5 => k_is)
    (case a6 => k_is)
    (case a7 => k_is)
    (case a8 => k_is)
    (case a9 => k_is)
    (case a10 => k_is)
    (case a11 => k_is)
    (case a12 => k_is)
    (case a13 => k_is)
    (case a14 => k_is)
    (case a15 => k_is)
    (case a16 => k_is)
    (case a17 => k_is)
    (case l0 => k_is)
    (case c0 => k_is)
    (case k0 => k_is)
    (case l1 => k_is)
    (case c1 => k_is)
    (case k1 => k_is)
    (case l2 => k_is)
    (case c2 => k_is)
    (case k2 => k_is)
    (case l3 => k_is)
    (case c3 => k_is)
    (case k3 => k_is)
    (case l4 => k_is)
    (case c4 => k_is)
    (case k4 => k_is)
    (case l5 => k_is)
    (case c5 => k_is)
    (case k5 => k_is)
    (case l6 => k_is)
    (case c6 => k_is)
    (case k6 => k_is)
    (case l7 => k_is)
    (case c7 => k_is)
    (case k7 => k_is)
    (case l8 => k_is)
    (case c8 => k_is)
    (case k8 => k_is)
    (case l9 => k_is)
    (case c9 => k_is)
    (case k9 => k_is)
    (case l10 => k_is)
    (case c10 => k_is)
    (case k10 => k_is)
    (case l11 => k_is)
    (case c11 => k_is)
    (case k11 => k_is)
    (case l12 => k_is)
    (case c12 => k_is)
    (case k12 => k_is)
    (case l13 => k_is)
    (case c13 => k_is)
    (case k13 => k_is)
    (case l14 => k_is)
    (case c14 => k_is)
    (case k14 => k_is)
    (case l15 => k_is)
    (case c15 => k_is)
    (case k15 => k_is)
    (case l16 => k_is)
    (case c16 => k_is)
    (case k16 => k_is)
    (case l17 => k_is)
    (case c17 => k_is)
    (case k17 => k_is)
    (case q0 => k_is)
    (case q1 => k_is)
    (case q2 => k_is)
    (case q3 => k_is)
    (case z0 => k_is)
    (case z1 => k_is)
    (case z2 => k_is)
    (case z3 => k_is)
    (case z4 => k_is)
    (case z5 => k_is)
    (case z6 => k_is)
    (case z7 => k_is)
    (case z8 => k_is)
    (case z9 => k_is)
    (case z10 => k_is)
    (case z11 => k_is)

