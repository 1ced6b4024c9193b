
import PyProof.Rows.All
import HandS.WordsExc
import HandS.SetKeys
import HandS.Flow
import HandS.ExcIs
import HandS.Sort
import HandS.Walk
import HandS.DictComp
import PyProof.SumWalkG
import Wide.All
import OpenK.AllK
import Wide.FinOn
import HandS.ForMost
import HandS.TupAny
import HandS.Deep
import HandS.IsInst
import HandS.Style
import HandS.Steps
import HandS.Evl
import HandS.Defaults
import HandS.MakeKwOnly
import PySem.Challenge.RW_vaultbridge_k10_sheet
set_option Elab.async false
set_option linter.all false
set_option maxRecDepth 100000
set_option maxHeartbeats 1000000
namespace Pf
open PySem PySem.Spec PyProof.Rows L2


/-! readings, one step a lemma -/
section
open PySem PySem.Spec PyProof.Rows L2
variable {K : PySem.W.Frag} {σ : L2.St} {H H1 H' : Hp} {Q : VK} {D : Ends} {t u : TS} {ta tb tc te : TE} {tt tu : TT} {tr : TA} {g : TG} {v x y : V} {i j : Int} {a b p l : Addr} {xs ys : List V} {o : HO}

/-! heaps -/
theorem upd_new {c : Addr} {w : HO} (hb : H b = none) (h : H c = some o) : upd H b w c = some o := by
  rw [upd_ne (ne_of_none h hb)]; exact h
theorem upd_other {c : Addr} {w : HO} (hb : c ≠ b) (h : H c = some o) : upd H b w c = some o := by
  rw [upd_ne hb]; exact h
theorem upd_free {c : Addr} {w : HO} (hb : c ≠ b) (h : H c = none) : upd H b w c = none := by
  rw [upd_ne hb]; exact h
theorem upd_none_ne {c : Addr} {w : HO} (h : upd H b w c = none) : c ≠ b := fun e => by rw [e, upd_same] at h; cases h
theorem upd_none_back {c : Addr} {w : HO} (h : upd H b w c = none) : H c = none := by rw [upd_ne (upd_none_ne h)] at h; exact h
/-- everything but p stays -/
def Kp (p : Addr) (H H' : Hp) : Prop := ∀ b o, H b = some o → b ≠ p → H' b = some o
theorem Kp.get {c : Addr} (k : Kp p H H') (h : H c = some o) (n : c ≠ p) : H' c = some o := k c o h n
theorem Kp.refl : Kp p H H := fun _ _ h _ => h
theorem Kp.trans (k : Kp p H H1) (k2 : Kp p H1 H') : Kp p H H' := fun b o h n => k2 b o (k b o h n) n
theorem Kp.upd {w : HO} (k : Kp p H H') : Kp p H (upd H' p w) := fun b o h n => upd_other n (k b o h n)
theorem Kp.new {w : HO} (k : Kp p H H') (h : H a = none) : Kp p H (L2.upd H' a w) := fun b o hb n => upd_other (ne_of_none hb h) (k b o hb n)
theorem Kp.fresh (k : Kp p H H') (hp : H p = some o) (h : H' a = none) (n : a ≠ p) : H a = none := by
  cases q : H a with
  | none => rfl
  | some w => rw [k a w q n] at h; cases h
theorem Same.get {c : Addr} (k : Same H H') (h : H c = some o) : H' c = some o := k c o h
theorem Same.new {w : HO} (k : Same H H') (h : H a = none) : Same H (L2.upd H' a w) := fun b o hb => upd_other (ne_of_none hb h) (k b o hb)
theorem Same.up {w : HO} (k : Same H H') (h : H' a = none) : Same H (L2.upd H' a w) := Same.new k (Same.free k h)
theorem Same.kp (k : Same H H') : Kp p H H' := fun b o h _ => k b o h
theorem sqL (h : H a = some (.lst xs)) : SqL K H a xs := .inl (.inl h)
theorem sqT (h : H a = some (.tup xs)) : SqT K H a xs := .inl (.inl h)

/-- a tuple of the written part -/
def SqTK (K : PySem.W.Frag) (a : Addr) (xs : List V) : Prop := ∃ (o : Obj) (its : Array Value) (n : Nat), K.lookup a = some o ∧ o.cls = .type "tuple" ∧ o.data = .seq its n ∧ its.size ≤ sizeLine ∧ Vals xs its.toList
theorem SqTK.sq {xs : List V} (h : SqTK K a xs) : SqT K H a xs := .inr h
def relB : V → Value → Bool
  | .str x, .str z _ => decide (x = z)
  | .int i, .int k _ => decide (i = k)
  | _, _ => false
theorem relB_rel : ∀ {x : V} {u : Value}, relB x u = true → RelV x u := by
  intro x u h
  cases x <;> cases u <;> first | (cases h; done) | skip
  · have e := of_decide_eq_true h
    subst e
    exact ⟨_, rfl⟩
  · have e := of_decide_eq_true h
    subst e
    exact ⟨_, rfl⟩
def ValsB : List V → List Value → Bool
  | [], [] => true
  | x :: xs, u :: us => relB x u && ValsB xs us
  | _, _ => false
theorem ValsB.vals : ∀ {xs : List V} {us : List Value}, ValsB xs us = true → Vals xs us
  | [], [], _ => .nil
  | [], _ :: _, h => by cases h
  | _ :: _, [], h => by cases h
  | x :: xs, u :: us, h => by
    have h : (relB x u && ValsB xs us) = true := h
    rw [Bool.and_eq_true] at h
    exact .cons (relB_rel h.1) (ValsB.vals h.2)
theorem ValsB.size {xs : List V} {its : Array Value} (h : ValsB xs its.toList = true) (hl : xs.length ≤ sizeLine) : its.size ≤ sizeLine := by
  have e := (ValsB.vals h).length
  have : its.toList.length = its.size := rfl
  omega
theorem hr65 {A : Around} {k : Nat} (hr : Room k A) : A.units + 65 < cLine := by have := hr.un; omega
theorem Same.sqT {xs : List V} (e : Same H H') (h : SqT K H a xs) : SqT K H' a xs := by
  rcases h with (h | ⟨o, h⟩) | h
  · exact .inl (.inl (e _ _ h))
  · exact .inl (.inr ⟨o, e _ _ h⟩)
  · exact .inr h
/-! statements -/
theorem q_seq (h : t { D with nx := u D } σ H) : tSeq t u D σ H := h
theorem q_next (h : D.nx σ H) : tNext D σ H := h
theorem q_brk (h : D.bk σ H) : tBreak D σ H := h
theorem q_ct (h : D.ct σ H) : tCont D σ H := h
theorem q_nx {f : L2.St → Hp → Prop} {r : VK} {b c : L2.St → Hp → Prop} (h : f σ H) : Ends.nx ⟨f, r, b, c⟩ σ H := h
theorem q_bk {f : L2.St → Hp → Prop} {r : VK} {b c : L2.St → Hp → Prop} (h : b σ H) : Ends.bk ⟨f, r, b, c⟩ σ H := h
theorem q_cn {f : L2.St → Hp → Prop} {r : VK} {b c : L2.St → Hp → Prop} (h : c σ H) : Ends.ct ⟨f, r, b, c⟩ σ H := h
theorem q_rt {f : L2.St → Hp → Prop} {r : VK} {b c : L2.St → Hp → Prop} (h : r v H) : Ends.rt ⟨f, r, b, c⟩ v H := h
theorem q_drop (h : te σ H fun _ H1 => D.nx σ H1) : tDrop te D σ H := h
theorem q_ret (h : te σ H D.rt) : tRet te D σ H := h
theorem q_retN (h : D.rt .non H) : tRetN D σ H := h
def ifK (D : Ends) (t u : TS) (σ : L2.St) : Bool → Hp → Prop := fun b H => if b = true then t D σ H else u D σ H
theorem q_ifS (h : tt σ H (ifK D t u σ)) : tIfS tt t u D σ H := h
theorem q_ifT (h : t D σ H) : ifK D t u σ true H := iteT h
theorem q_ifF (h : u D σ H) : ifK D t u σ false H := iteF h
theorem q_if2 {c : Bool} (h : c = true → t D σ H) (h2 : c = false → u D σ H) : ifK D t u σ c H := by
  cases c with
  | true => exact iteT (h rfl)
  | false => exact iteF (h2 rfl)
theorem q_asg (h : te σ H fun x H1 => g x σ H1 D.nx) : tAsg te g D σ H := h
theorem q_gName {n : Nat} {R : L2.St → Hp → Prop} (h : R (σ.set n (some v)) H) : gName n v σ H R := h
theorem q_gTup {n : Nat} {tg : TGs} {R : L2.St → Hp → Prop} (h : SqT K H a xs) (hn : xs.length = n) (k : tg xs σ H R) : gTup K n tg (.ref a) σ H R := ⟨a, xs, rfl, h, hn, k⟩
theorem q_gCons {tg : TGs} {R : L2.St → Hp → Prop} (k : g v σ H fun σ' H' => tg xs σ' H' R) : gCons g tg (v :: xs) σ H R := ⟨v, xs, rfl, k⟩
theorem q_gNil {R : L2.St → Hp → Prop} (k : R σ H) : gNil [] σ H R := ⟨rfl, k⟩
theorem q_gSub {to ti : TE} {ts : TSet} {R : L2.St → Hp → Prop} (k : to σ H fun o H1 => ti σ H1 fun i H2 => ts o i v H2 fun H3 => R σ H3) : gSub to ti ts v σ H R := k
theorem q_setL {R : Hp → Prop} {n : Nat} (h : H p = some (.lst xs)) (hi : ixN xs.length i = some n) (k : R (upd H p (.lst (xs.set n v)))) : rSetL (.ref p) (.int i) v H R := ⟨p, xs, i, n, rfl, rfl, h, hi, k⟩
theorem q_aug {n : Nat} {ti : TIp} (hx : σ[n]? = some (some x)) (h : te σ H fun y H1 => ti x y H1 fun z H2 => D.nx (σ.set n (some z)) H2) : tAug n te ti D σ H := ⟨x, hx, h⟩
theorem q_ipI {f : Int → Int → Int} (k : Q (.int (f i j)) H) : ipI f (.int i) (.int j) H Q := ⟨i, j, rfl, rfl, k⟩
theorem q_cut {Mid : L2.St → Hp → Prop} (h : t { D with nx := Mid } σ H) (k : ∀ σ' H', Mid σ' H' → u D σ' H') : Evl.tCut t u D σ H := ⟨Mid, h, k⟩
theorem dec_t {c : Prop} [Decidable c] (h : decide c = true) : c := of_decide_eq_true h
theorem dec_f {c : Prop} [Decidable c] (h : decide c = false) : ¬ c := of_decide_eq_false h
theorem ndec_t {c : Prop} [Decidable c] (h : (!decide c) = true) : ¬ c := fun q => by rw [decide_eq_true q] at h; cases h
theorem ndec_f {c : Prop} [Decidable c] (h : (!decide c) = false) : c := by
  by_cases q : c
  · exact q
  · rw [decide_eq_false q] at h; cases h
def forK (g : TG) (tb : TS) (D : Ends) (σ : L2.St) : It → Hp → Prop := fun J H1 => ∃ W : Nat → Nat → L2.St → Hp → Prop, (∃ m, W 0 m σ H1) ∧ ∀ i m σ H, W i m σ H →
  (J.stop i H ∧ D.nx σ H) ∨ (J.go i H ∧ ∃ N : L2.St → Hp → Prop, (∀ σ' H', N σ' H' → ∃ m', m' < m ∧ W (i + 1) m' σ' H') ∧ ∀ x H', J.yld i H x H' → g x σ H' fun σ2 H2 => tb { D with nx := N, ct := N, bk := D.nx } σ2 H2)
theorem q_for {wi : TI} (h : wi σ H (forK g t D σ)) : tFor wi g t D σ H := h
theorem q_iList {R : It → Hp → Prop} (h : te σ H fun x H1 => ∃ a, x = .ref a ∧ (∃ xs, SqL K H1 a xs) ∧ R (Itl K a) H1) : iList K te σ H R := h
theorem q_iTup {R : It → Hp → Prop} (h : te σ H fun x H1 => ∃ a, x = .ref a ∧ (∃ xs, SqT K H1 a xs) ∧ R (Itt K a) H1) : iTup K te σ H R := h
theorem q_forL {S : List V} (h : SqL K H a S) (Pv : Nat → L2.St → Hp → Prop) (h0 : Pv 0 σ H) (hl : ∀ i σ H, i ≤ S.length → Pv i σ H → SqL K H a S)
    (hs : ∀ i x σ H, S[i]? = some x → Pv i σ H → g x σ H fun σ2 H2 => t { D with nx := Pv (i + 1), ct := Pv (i + 1), bk := D.nx } σ2 H2) (hd : ∀ σ H, Pv S.length σ H → D.nx σ H) :
    ∃ b, V.ref a = .ref b ∧ (∃ xs, SqL K H b xs) ∧ forK g t D σ (Itl K b) H := ⟨a, rfl, ⟨S, h⟩, for_list Pv h0 hl hs hd⟩
theorem q_forT {S : List V} (h : SqT K H a S) (Pv : Nat → L2.St → Hp → Prop) (h0 : Pv 0 σ H) (hl : ∀ i σ H, i ≤ S.length → Pv i σ H → SqT K H a S)
    (hs : ∀ i x σ H, S[i]? = some x → Pv i σ H → g x σ H fun σ2 H2 => t { D with nx := Pv (i + 1), ct := Pv (i + 1), bk := D.nx } σ2 H2) (hd : ∀ σ H, Pv S.length σ H → D.nx σ H) :
    ∃ b, V.ref a = .ref b ∧ (∃ xs, SqT K H b xs) ∧ forK g t D σ (Itt K b) H := ⟨a, rfl, ⟨S, h⟩, for_tup Pv h0 hl hs hd⟩
def rg1K (R : It → Hp → Prop) : List V → Hp → Prop := fun vs H1 => ∃ j : Int, vs = [.int j] ∧ -(2 ^ 62) ≤ j ∧ j < 2 ^ 62 ∧ R (Itr 0 j.toNat) H1
theorem q_iRng1 {R : It → Hp → Prop} (h : tr σ H (rg1K R)) : iRng1 tr σ H R := h
theorem q_forR (hj : 0 ≤ j ∧ j < 1000000000000000) (Pv : Nat → L2.St → Hp → Prop) (h0 : Pv 0 σ H)
    (hs : ∀ (i : Nat) σ H, (i : Int) < j → Pv i σ H → g (.int i) σ H fun σ2 H2 => t { D with nx := Pv (i + 1), ct := Pv (i + 1), bk := D.nx } σ2 H2) (hd : ∀ σ H, Pv j.toNat σ H → D.nx σ H) :
    rg1K (forK g t D σ) [.int j] H := ⟨j, rfl, by omega, by omega, for_range Pv h0 (fun i σ H hi hp => by have e : (0 : Int) + (i : Int) = (i : Int) := Int.zero_add _; rw [e]; exact hs i σ H (by omega) hp) hd⟩

/-! tests and values -/
def bK (Q : Bool → Hp → Prop) : VK := fun x H => ∃ k, x = .bl k ∧ Q k H
theorem q_test {R : Bool → Hp → Prop} (h : te σ H (bK R)) : tTest te σ H R := h
theorem q_tB {R : Bool → Hp → Prop} (h : te σ H (bK R)) : tB te σ H R := h
theorem q_bK {R : Bool → Hp → Prop} {c : Bool} (k : R c H) : bK R (.bl c) H := ⟨c, rfl, k⟩
def andK (u : TT) (σ : L2.St) (R : Bool → Hp → Prop) : Bool → Hp → Prop := fun c H1 => if c = true then u σ H1 R else R false H1
def orK (u : TT) (σ : L2.St) (R : Bool → Hp → Prop) : Bool → Hp → Prop := fun c H1 => if c = true then R true H1 else u σ H1 R
theorem q_and {R : Bool → Hp → Prop} (h : tt σ H (andK tu σ R)) : tAnd tt tu σ H R := h
theorem q_or {R : Bool → Hp → Prop} (h : tt σ H (orK tu σ R)) : tOr tt tu σ H R := h
theorem q_andT {R : Bool → Hp → Prop} (h : tu σ H R) : andK tu σ R true H := iteT h
theorem q_andF {R : Bool → Hp → Prop} (h : R false H) : andK tu σ R false H := iteF h
theorem q_orT {R : Bool → Hp → Prop} (h : R true H) : orK tu σ R true H := iteT h
theorem q_orF {R : Bool → Hp → Prop} (h : tu σ H R) : orK tu σ R false H := iteF h
theorem q_and2 {R : Bool → Hp → Prop} {c : Bool} (h : c = true → tu σ H R) (h2 : c = false → R false H) : andK tu σ R c H := by
  cases c with
  | true => exact iteT (h rfl)
  | false => exact iteF (h2 rfl)
theorem q_or2 {R : Bool → Hp → Prop} {c : Bool} (h : c = true → R true H) (h2 : c = false → tu σ H R) : orK tu σ R c H := by
  cases c with
  | true => exact iteT (h rfl)
  | false => exact iteF (h2 rfl)
def notK (R : Bool → Hp → Prop) : Bool → Hp → Prop := fun c H1 => R (!c) H1
theorem q_not {R : Bool → Hp → Prop} (h : tt σ H (notK R)) : tNot tt σ H R := h
theorem q_notKT {R : Bool → Hp → Prop} (h : R false H) : notK R true H := h
theorem q_notKF {R : Bool → Hp → Prop} (h : R true H) : notK R false H := h
theorem q_notK {R : Bool → Hp → Prop} {c : Bool} (h : R (!c) H) : notK R c H := h
def andVK (tb : TE) (σ : L2.St) (Q : VK) : VK := fun x H1 => ∃ c, x = .bl c ∧ if c = true then tb σ H1 Q else Q (.bl false) H1
def orVK (tb : TE) (σ : L2.St) (Q : VK) : VK := fun x H1 => ∃ c, x = .bl c ∧ if c = true then Q (.bl true) H1 else tb σ H1 Q
theorem q_andV (h : ta σ H (andVK tb σ Q)) : tAndV ta tb σ H Q := h
theorem q_orV (h : ta σ H (orVK tb σ Q)) : tOrV ta tb σ H Q := h
theorem q_andVT (h : tb σ H Q) : andVK tb σ Q (.bl true) H := ⟨true, rfl, iteT h⟩
theorem q_andVF (h : Q (.bl false) H) : andVK tb σ Q (.bl false) H := ⟨false, rfl, iteF h⟩
theorem q_orVT (h : Q (.bl true) H) : orVK tb σ Q (.bl true) H := ⟨true, rfl, iteT h⟩
theorem q_orVF (h : tb σ H Q) : orVK tb σ Q (.bl false) H := ⟨false, rfl, iteF h⟩
theorem q_andV2 {c : Bool} (h : c = true → tb σ H Q) (h2 : c = false → Q (.bl false) H) : andVK tb σ Q (.bl c) H := by
  cases c with
  | true => exact q_andVT (h rfl)
  | false => exact q_andVF (h2 rfl)
theorem q_orV2 {c : Bool} (h : c = true → Q (.bl true) H) (h2 : c = false → tb σ H Q) : orVK tb σ Q (.bl c) H := by
  cases c with
  | true => exact q_orVT (h rfl)
  | false => exact q_orVF (h2 rfl)
def notVK (Q : VK) : VK := fun x H1 => ∃ c, x = .bl c ∧ Q (.bl (!c)) H1
theorem q_notV (h : ta σ H (notVK Q)) : tNotV ta σ H Q := h
theorem q_notVK {c : Bool} (k : Q (.bl (!c)) H) : notVK Q (.bl c) H := ⟨c, rfl, k⟩
def ifEK (ta tb : TE) (σ : L2.St) (Q : VK) : Bool → Hp → Prop := fun c H1 => if c = true then ta σ H1 Q else tb σ H1 Q
theorem q_ifE (h : tt σ H (ifEK ta tb σ Q)) : tIf tt ta tb σ H Q := h
theorem q_ifET (h : ta σ H Q) : ifEK ta tb σ Q true H := iteT h
theorem q_ifEF (h : tb σ H Q) : ifEK ta tb σ Q false H := iteF h
theorem q_ifE2 {c : Bool} (h : c = true → ta σ H Q) (h2 : c = false → tb σ H Q) : ifEK ta tb σ Q c H := by
  cases c with
  | true => exact iteT (h rfl)
  | false => exact iteF (h2 rfl)
theorem q_yes {R : Bool → Hp → Prop} (k : R true H) : tYes σ H R := k
theorem q_var {n : Nat} (h : σ[n]? = some (some v)) (k : Q v H) : tVar n σ H Q := ⟨v, h, k⟩
theorem q_c (k : Q v H) : tC v σ H Q := k
theorem q_op {r : R2} (h : ta σ H fun x H1 => tb σ H1 fun y H2 => r x y H2 Q) : tOp r ta tb σ H Q := h
theorem q_un {r : V → Hp → VK → Prop} (h : ta σ H fun x H1 => r x H1 Q) : tUn r ta σ H Q := h
theorem q_rU {f : Int → V} (k : Q (f i) H) : rU f (.int i) H Q := ⟨i, rfl, k⟩
theorem q_I0 {f : Int → Int → V} (k : Q (f i j) H) : rI0 f (.int i) (.int j) H Q := ⟨i, j, rfl, rfl, k⟩
theorem q_I {C : Int → Int → Prop} {f : Int → Int → V} (hc : C i j) (k : Q (f i j) H) : rI C f (.int i) (.int j) H Q := ⟨i, j, rfl, rfl, hc, k⟩
theorem q_eq (hs : scal x y = true) (k : Q (.bl (decide (x = y))) H) : rEq x y H Q := ⟨hs, k⟩
theorem q_ne (hs : scal x y = true) (k : Q (.bl (!decide (x = y))) H) : rNe x y H Q := ⟨hs, k⟩
theorem dec_int (i j : Int) : decide (V.int i = V.int j) = decide (i = j) := by
  by_cases h : i = j
  · subst h; simp
  · rw [decide_eq_false h, decide_eq_false (fun e => h (V.int.inj e))]
theorem q_eqI (k : Q (.bl (decide (i = j))) H) : rEq (.int i) (.int j) H Q := ⟨rfl, by rw [dec_int]; exact k⟩
theorem q_neI (k : Q (.bl (!decide (i = j))) H) : rNe (.int i) (.int j) H Q := ⟨rfl, by rw [dec_int]; exact k⟩
theorem dec_str (i j : Str) : decide (V.str i = V.str j) = decide (i = j) := by
  by_cases h : i = j
  · subst h; simp
  · rw [decide_eq_false h, decide_eq_false (fun e => h (V.str.inj e))]
theorem q_eqS {s z : Str} (k : Q (.bl (decide (s = z))) H) : rEq (.str s) (.str z) H Q := ⟨rfl, by rw [dec_str]; exact k⟩
theorem q_neS {s z : Str} (k : Q (.bl (!decide (s = z))) H) : rNe (.str s) (.str z) H Q := ⟨rfl, by rw [dec_str]; exact k⟩
theorem q_ixL (h : SqL K H p xs) (ha : atI xs i = some v) (k : Q v H) : rIxL K (.ref p) (.int i) H Q := ⟨p, xs, i, v, rfl, rfl, h, ha, k⟩
theorem q_ixT (h : SqT K H p xs) (ha : atI xs i = some v) (k : Q v H) : rIxT K (.ref p) (.int i) H Q := ⟨p, xs, i, v, rfl, rfl, h, ha, k⟩
theorem q_ixLt (h : H p = some (.lst xs)) (ha : atI xs i = some v) (k : Q v H) : rIxL K (.ref p) (.int i) H Q := q_ixL (sqL h) ha k
theorem q_ixTt (h : H p = some (.tup xs)) (ha : atI xs i = some v) (k : Q v H) : rIxT K (.ref p) (.int i) H Q := q_ixT (sqT h) ha k
theorem q_ixSL (h : SqL K H p xs) (ha : atI xs i = some v) (k : Q v H) : rIx K (.ref p) (.int i) H Q := .inl ⟨p, xs, i, v, rfl, rfl, h, ha, k⟩
theorem q_ixST (h : SqT K H p xs) (ha : atI xs i = some v) (k : Q v H) : rIx K (.ref p) (.int i) H Q := .inr (.inl ⟨p, xs, i, v, rfl, rfl, h, ha, k⟩)
theorem at_int {α : Type} {xs : List α} {i : Int} {x : α} {n : Nat} (e : i = (n : Int)) (h : xs[n]? = some x) : atI xs i = some x := by rw [e]; exact atI_nat h
theorem q_tNil {R : List V → Hp → Prop} (k : R [] H) : tNil σ H R := k
theorem q_tCons {R : List V → Hp → Prop} (h : ta σ H fun x H1 => tr σ H1 fun xs H2 => R (x :: xs) H2) : tCons ta tr σ H R := h
def tupK (Q : VK) : List V → Hp → Prop := fun xs H1 => xs.length ≤ sizeLine ∧ ∀ p, H1 p = none → Q (.ref p) (upd H1 p (.tup xs))
def lstK (Q : VK) : List V → Hp → Prop := fun xs H1 => xs.length ≤ sizeLine ∧ ∀ p, H1 p = none → Q (.ref p) (upd H1 p (.lst xs))
theorem q_tup (h : tr σ H (tupK Q)) : tTup tr σ H Q := h
theorem q_lst (h : tr σ H (lstK Q)) : tLst tr σ H Q := h
theorem q_tupK (hl : xs.length ≤ sizeLine) (k : ∀ p, H p = none → Q (.ref p) (upd H p (.tup xs))) : tupK Q xs H := ⟨hl, k⟩
theorem q_lstK (hl : xs.length ≤ sizeLine) (k : ∀ p, H p = none → Q (.ref p) (upd H p (.lst xs))) : lstK Q xs H := ⟨hl, k⟩
theorem q_cb {r : List V → Hp → VK → Prop} (h : tr σ H fun vs H1 => r vs H1 Q) : tCB r tr σ H Q := h
def callK (sp : Sp) (dvs : List V) (E : XK) (Q : VK) : List V → Hp → Prop := fun vs H1 => sp (vs ++ dvs) H1 Q E
theorem q_call {sp : Sp} {dvs : List V} {E : XK} (h : tr σ H (callK sp dvs E Q)) : tCall sp dvs E tr σ H Q := h
theorem q_callK {sp : Sp} {E : XK} (h : sp xs H Q E) : callK sp [] E Q xs H := by unfold callK; rw [List.append_nil]; exact h

/-! built-ins, by names of our own -/
def rLenQ (K : PySem.W.Frag) : List V → Hp → VK → Prop := fun xs H Q => ∃ p ys, xs = [.ref p] ∧ (SqL K H p ys ∨ SqT K H p ys) ∧ Q (.int ys.length) H
theorem cq_len {X : Cx} : CallR X (.builtin "len") (rLenQ X.K) := call_len_seq
theorem q_lenL (h : SqL K H p xs) (k : Q (.int xs.length) H) : rLenQ K [.ref p] H Q := ⟨p, xs, rfl, .inl h, k⟩
theorem q_lenT (h : SqT K H p xs) (k : Q (.int xs.length) H) : rLenQ K [.ref p] H Q := ⟨p, xs, rfl, .inr h, k⟩
theorem q_lenLt (h : H p = some (.lst xs)) (k : Q (.int xs.length) H) : rLenQ K [.ref p] H Q := q_lenL (sqL h) k
theorem q_lenTt (h : H p = some (.tup xs)) (k : Q (.int xs.length) H) : rLenQ K [.ref p] H Q := q_lenT (sqT h) k
def rLenD : List V → Hp → VK → Prop := fun xs H Q => ∃ a kvs, xs = [V.ref a] ∧ H a = some (.dK kvs) ∧ Q (.int kvs.length) H
def rLenS : List V → Hp → VK → Prop := fun xs H Q => ∃ x : Str, xs = [.str x] ∧ x.length ≤ sizeLine ∧ Q (.int x.length) H
theorem cq_lenS {X : Cx} : CallR X (.builtin "len") rLenS := by
  intro pins s σ H xs us Q I r h
  obtain ⟨x, e, hl, q⟩ := h
  exact call_len pins s σ H xs us Q I r ⟨.str x, x.length, e, ⟨hl, rfl⟩, q⟩
theorem q_lenS {x : Str} (hl : x.length ≤ sizeLine) (k : Q (.int x.length) H) : rLenS [.str x] H Q := ⟨x, rfl, hl, k⟩
def rAbs : List V → Hp → VK → Prop := fun xs H Q => ∃ i, xs = [.int i] ∧ Q (.int (if i < 0 then -i else i)) H
theorem cq_abs {X : Cx} : CallR X (.builtin "abs") rAbs := call_abs
theorem q_abs (k : Q (.int (if i < 0 then -i else i)) H) : rAbs [.int i] H Q := ⟨i, rfl, k⟩
def rInt1 : List V → Hp → VK → Prop := fun xs H Q => (∃ i, xs = [.int i] ∧ Q (.int i) H) ∨ ∃ k, xs = [.bl k] ∧ Q (.int (if k then 1 else 0)) H
theorem cq_int1 {X : Cx} : CallR X (.type "int") rInt1 := call_int1
theorem q_int1 (k : Q (.int i) H) : rInt1 [.int i] H Q := .inl ⟨i, rfl, k⟩
def rStrInt : List V → Hp → VK → Prop := fun xs H Q => ∃ i, xs = [.int i] ∧ i.natAbs.log2 < 1920 ∧ Q (.str (toString i)) H
theorem cq_strInt {X : Cx} : CallR X (.type "str") rStrInt := call_str_int
theorem q_strInt (hb : i.natAbs.log2 < 1920) (k : Q (.str (toString i)) H) : rStrInt [.int i] H Q := ⟨i, rfl, hb, k⟩
def rListOf (K : PySem.W.Frag) : List V → Hp → VK → Prop := fun xs H Q => ∃ p ys, xs = [.ref p] ∧ (SqL K H p ys ∨ SqT K H p ys) ∧ ∀ l, H l = none → Q (.ref l) (upd H l (.lst ys))
theorem cq_listOf {X : Cx} : CallR X (.type "list") (rListOf X.K) := call_list_of
theorem q_listL (h : SqL K H p xs) (k : ∀ l, H l = none → Q (.ref l) (upd H l (.lst xs))) : rListOf K [.ref p] H Q := ⟨p, xs, rfl, .inl h, k⟩
theorem q_listT (h : SqT K H p xs) (k : ∀ l, H l = none → Q (.ref l) (upd H l (.lst xs))) : rListOf K [.ref p] H Q := ⟨p, xs, rfl, .inr h, k⟩
def rTupOf (K : PySem.W.Frag) : List V → Hp → VK → Prop := fun xs H Q => ∃ p ys, xs = [.ref p] ∧ ((SqL K H p ys ∧ ∀ l, H l = none → Q (.ref l) (upd H l (.tup ys))) ∨ (SqT K H p ys ∧ Q (.ref p) H))
theorem cq_tupOf {X : Cx} : CallR X (.type "tuple") (rTupOf X.K) := call_tuple_of
theorem q_tupL (h : SqL K H p xs) (k : ∀ l, H l = none → Q (.ref l) (upd H l (.tup xs))) : rTupOf K [.ref p] H Q := ⟨p, xs, rfl, .inl ⟨h, k⟩⟩
theorem q_sum {ns : List Int} (h : SqL K H a (ns.map V.int)) (k : Q (.int ns.sum) H) : rSum K [.ref a] H Q := ⟨a, ns, rfl, h, k⟩
theorem q_all {bs : List Bool} (h : SqL K H a (bs.map V.bl)) (k : Q (.bl (bs.all id)) H) : rAll K [.ref a] H Q := ⟨a, bs, rfl, h, k⟩
theorem q_any {bs : List Bool} (h : SqL K H a (bs.map V.bl)) (k : Q (.bl (bs.any id)) H) : rAny K [.ref a] H Q := ⟨a, bs, rfl, h, k⟩
def rAddStr : R2 := fun x y H Q => ∃ i j, x = .str i ∧ y = .str j ∧ i.length + j.length ≤ sizeLine ∧ Q (.str (i ++ j)) H
theorem oq_addStr {X : Cx} : OpR X (binaryOp .Add) rAddStr := op_add_str
theorem q_addStr {s z : Str} (hl : s.length + z.length ≤ sizeLine) (k : Q (.str (s ++ z)) H) : rAddStr (.str s) (.str z) H Q := ⟨s, z, rfl, rfl, hl, k⟩
theorem q_isN' (k : Q (.bl (decide (x = .non))) H) : rIsN x .non H Q := ⟨rfl, k⟩
theorem q_notN' (k : Q (.bl (!decide (x = .non))) H) : rNotN x .non H Q := ⟨rfl, k⟩
theorem q_inD {d : PyData} {ds : List PyData} (hd : Dp K H x d) (hy : Dp K H y (.list ds)) (s1 : SeqAt.shaped d = true) (s2 : SeqAt.shaped (.list ds) = true) (k : Q (.bl (ds.any fun z => PyData.eqv z d)) H) : rInD K x y H Q := ⟨d, ds, hd, hy, s1, s2, k⟩
theorem q_notInD {d : PyData} {ds : List PyData} (hd : Dp K H x d) (hy : Dp K H y (.list ds)) (s1 : SeqAt.shaped d = true) (s2 : SeqAt.shaped (.list ds) = true) (k : Q (.bl (!ds.any fun z => PyData.eqv z d)) H) : rNotInD K x y H Q := ⟨d, ds, hd, hy, s1, s2, k⟩
theorem q_ifNT (h : u D σ H) : ifK D t u σ (!true) H := q_ifF h
theorem q_ifNF (h : t D σ H) : ifK D t u σ (!false) H := q_ifT h
theorem q_andNT {R : Bool → Hp → Prop} (h : R false H) : andK tu σ R (!true) H := q_andF h
theorem q_andNF {R : Bool → Hp → Prop} (h : tu σ H R) : andK tu σ R (!false) H := q_andT h
theorem q_orNT {R : Bool → Hp → Prop} (h : tu σ H R) : orK tu σ R (!true) H := q_orF h
theorem q_orNF {R : Bool → Hp → Prop} (h : R true H) : orK tu σ R (!false) H := q_orT h
theorem q_bKNT {R : Bool → Hp → Prop} (h : R false H) : bK R (.bl (!true)) H := q_bK h
theorem q_bKNF {R : Bool → Hp → Prop} (h : R true H) : bK R (.bl (!false)) H := q_bK h
/-! chains, isinstance, texts, dicts -/
def chK2 (r' : R2) (y : V) (tc : TE) (σ : L2.St) (Q : VK) : VK := fun z H3 => ∃ k, z = .bl k ∧ (if k = true then tc σ H3 fun w' H4 => r' y w' H4 Q else Q (.bl false) H3)
theorem q_chain {r r' : R2} (h : ta σ H fun x H1 => tb σ H1 fun y H2 => r x y H2 (chK2 r' y tc σ Q)) : tChain r r' ta tb tc σ H Q := h
theorem q_chT {r' : R2} (h : tc σ H fun w' H4 => r' y w' H4 Q) : chK2 r' y tc σ Q (.bl true) H := ⟨true, rfl, iteT h⟩
theorem q_chF {r' : R2} (h : Q (.bl false) H) : chK2 r' y tc σ Q (.bl false) H := ⟨false, rfl, iteF h⟩
theorem q_ch2 {r' : R2} {c : Bool} (h : c = true → tc σ H fun w' H4 => r' y w' H4 Q) (h2 : c = false → Q (.bl false) H) : chK2 r' y tc σ Q (.bl c) H := by
  cases c with
  | true => exact q_chT (h rfl)
  | false => exact q_chF (h2 rfl)
def rIsiQ (K : PySem.W.Frag) : List V → Hp → VK → Prop := rIsi K
theorem q_isi {n : String} {t : Value} {c : Bool} (ht : TyX K H x t) (hk : PySem.W.kitOne K t (.type n) = some c) (k : Q (.bl c) H) : rIsi K [x, .ty n] H Q := ⟨x, .ty n, t, .type n, c, rfl, .ty n, ht, hk, k⟩
def rOrd : List V → Hp → VK → Prop := fun xs H Q => ∃ x, xs = [.str x] ∧ x.length = 1 ∧ Q (.int (x.cps.getD 0 0 : Nat)) H
theorem cq_ord {X : Cx} : CallR X (.builtin "ord") rOrd := call_ord
theorem q_ord {c : Nat} (k : Q (.int c) H) : rOrd [.str ⟨#[c]⟩] H Q := ⟨_, rfl, rfl, k⟩
theorem q_forS {s : Str} (Pv : Nat → L2.St → Hp → Prop) (h0 : Pv 0 σ H)
    (hs : ∀ i c σ H, s.cps[i]? = some c → Pv i σ H → g (.str ⟨#[c]⟩) σ H fun σ2 H2 => t { D with nx := Pv (i + 1), ct := Pv (i + 1), bk := D.nx } σ2 H2) (hd : ∀ σ H, Pv s.cps.size σ H → D.nx σ H) : forK g t D σ (Its s) H := by
  refine ⟨fun i m σ H => i + m = s.cps.size ∧ Pv i σ H, ⟨s.cps.size, Nat.zero_add _, h0⟩, fun i m σ H hW => ?_⟩
  obtain ⟨e, hp⟩ := hW
  by_cases hi : i < s.cps.size
  · refine .inr ⟨hi, Pv (i + 1), fun σ' H' hN => ⟨m - 1, by omega, by omega, hN⟩, fun x H' hy => ?_⟩
    obtain ⟨rfl, c, hc, rfl⟩ := hy
    exact hs i c σ H' hc hp
  · have e2 : i = s.cps.size := by omega
    subst e2
    exact .inl ⟨Nat.le_refl _, hd σ H hp⟩
theorem q_iStr {s : Str} {R : It → Hp → Prop} (k : R (Its s) H) : ∃ z, V.str s = .str z ∧ R (Its z) H := ⟨s, rfl, k⟩
theorem q_iStr0 {R : It → Hp → Prop} (h : te σ H fun v H1 => ∃ x, v = .str x ∧ R (Its x) H1) : iStr te σ H R := h
def dInK (Q : VK) (y : V) : VK := fun x H2 => ∃ a o, x = .ref a ∧ DGet H2 a y o ∧ Q (.bl o.isSome) H2
def dNInK (Q : VK) (y : V) : VK := fun x H2 => ∃ a o, x = .ref a ∧ DGet H2 a y o ∧ Q (.bl (!o.isSome)) H2
theorem q_tDIn {ty td : TE} (h : ty σ H fun y H1 => td σ H1 (dInK Q y)) : tDIn ty td σ H Q := h
theorem q_tDNotIn {ty td : TE} (h : ty σ H fun y H1 => td σ H1 (dNInK Q y)) : tDNotIn ty td σ H Q := h
theorem q_dInS {kvs : List (Key × V)} {s : Str} (h : H a = some (.dK kvs)) (k : Q (.bl (valV kvs (.inr s)).isSome) H) : dInK Q (.str s) (.ref a) H := ⟨a, _, rfl, DGet.k (k := Sum.inr s) h, k⟩
theorem q_dNInS {kvs : List (Key × V)} {s : Str} (h : H a = some (.dK kvs)) (k : Q (.bl (!(valV kvs (.inr s)).isSome)) H) : dNInK Q (.str s) (.ref a) H := ⟨a, _, rfl, DGet.k (k := Sum.inr s) h, k⟩
theorem q_dInI {kvs : List (Key × V)} (h : H a = some (.dK kvs)) (k : Q (.bl (valV kvs (.inl i)).isSome) H) : dInK Q (.int i) (.ref a) H := ⟨a, _, rfl, DGet.k (k := Sum.inl i) h, k⟩
theorem q_dNInI {kvs : List (Key × V)} (h : H a = some (.dK kvs)) (k : Q (.bl (!(valV kvs (.inl i)).isSome)) H) : dNInK Q (.int i) (.ref a) H := ⟨a, _, rfl, DGet.k (k := Sum.inl i) h, k⟩
def dGetK (Q : VK) (x : V) : VK := fun y H2 => ∃ a v, x = .ref a ∧ DGet H2 a y (some v) ∧ Q v H2
theorem q_tDGet {ty td : TE} (h : td σ H fun x H1 => ty σ H1 (dGetK Q x)) : tDGet td ty σ H Q := h
theorem q_dGetS {kvs : List (Key × V)} {s : Str} (h : H a = some (.dK kvs)) (e : valV kvs (.inr s) = some v) (k : Q v H) : dGetK Q (.ref a) (.str s) H := ⟨a, v, rfl, by rw [← e]; exact DGet.k (k := Sum.inr s) h, k⟩
theorem q_dGetI {kvs : List (Key × V)} (h : H a = some (.dK kvs)) (e : valV kvs (.inl i) = some v) (k : Q v H) : dGetK Q (.ref a) (.int i) H := ⟨a, v, rfl, by rw [← e]; exact DGet.k (k := Sum.inl i) h, k⟩
theorem q_dNew (k : ∀ p, H p = none → Q (.ref p) (upd H p (.dK []))) : tDNewK σ H Q := k
def dPutK (D : Ends) (σ : L2.St) (v x : V) : VK := fun y H3 => ∃ a H4, x = .ref a ∧ DPut H3 a y v H4 ∧ D.nx σ H4
theorem q_sDPut {td ty tv : TE} (h : tv σ H fun v H1 => td σ H1 fun x H2 => ty σ H2 (dPutK D σ v x)) : sDPut td ty tv D σ H := h
theorem q_dPutS {kvs : List (Key × V)} {s : Str} (h : H a = some (.dK kvs)) (hl : kvs.length < sizeLine) (k : D.nx σ (upd H a (.dK (putK kvs (.inr s) v)))) : dPutK D σ v (.ref a) (.str s) H := ⟨a, _, rfl, DPut.k (k := Sum.inr s) h hl, k⟩
theorem q_dPutI {kvs : List (Key × V)} (h : H a = some (.dK kvs)) (hl : kvs.length < sizeLine) (k : D.nx σ (upd H a (.dK (putK kvs (.inl i) v)))) : dPutK D σ v (.ref a) (.int i) H := ⟨a, _, rfl, DPut.k (k := Sum.inl i) h hl, k⟩
def truK (K : PySem.W.Frag) (R : Bool → Hp → Prop) : VK := fun x H' => ∃ k, TruV K x H' k ∧ R k H'
theorem q_tru {R : Bool → Hp → Prop} (h : te σ H (truK K R)) : (fun (σ : L2.St) (H : Hp) (Q : Bool → Hp → Prop) => te σ H fun x H' => ∃ k, TruV K x H' k ∧ Q k H') σ H R := h
theorem q_isBl {c d : Bool} (k : Q (.bl (decide (c = d))) H) : rIsB (.bl c) (.bl d) H Q := ⟨c, d, rfl, rfl, k⟩
theorem q_notBl {c d : Bool} (k : Q (.bl (!decide (c = d))) H) : rNotB (.bl c) (.bl d) H Q := ⟨c, d, rfl, rfl, k⟩
theorem q_inT (h : SqT K H p xs) (hx : flatV x = true) (ha : xs.all flatV = true) (k : Q (.bl (inV x xs)) H) : rIn K false x (.ref p) H Q := ⟨p, xs, rfl, .inr h, hx, ha, k⟩
theorem q_inL (h : SqL K H p xs) (hx : flatV x = true) (ha : xs.all flatV = true) (k : Q (.bl (inV x xs)) H) : rIn K false x (.ref p) H Q := ⟨p, xs, rfl, .inl h, hx, ha, k⟩
theorem q_eqD {d e : PyData} (hd : Dp K H x d) (he : Dp K H y e) (s1 : SeqAt.shaped d = true) (s2 : SeqAt.shaped e = true) (k : Q (.bl (PyData.eqv d e)) H) : rEqD K x y H Q := ⟨d, e, hd, he, s1, s2, k⟩
theorem q_neD {d e : PyData} (hd : Dp K H x d) (he : Dp K H y e) (s1 : SeqAt.shaped d = true) (s2 : SeqAt.shaped e = true) (k : Q (.bl (!PyData.eqv d e)) H) : rNeD K x y H Q := ⟨d, e, hd, he, s1, s2, k⟩
theorem q_catA (h1 : H a = some (.tup xs)) (h2 : H b = some (.tup ys)) (hl : xs.length + ys.length ≤ sizeLine) (k : ∀ p H', Same H H' → H' p = some (.tup (xs ++ ys)) → Q (.ref p) H') : rCatA K (.ref a) (.ref b) H Q := by
  refine ⟨a, b, xs, ys, rfl, rfl, sqT h1, sqT h2, hl, fun e => ?_, fun _ e => ?_, fun _ _ p hp => k p _ (Same.new (Same.refl _) hp) upd_same⟩
  · subst e; exact k b H (Same.refl _) h2
  · subst e; exact k a H (Same.refl _) (by rw [List.append_nil]; exact h1)
theorem q_slA {lo hi : Option Int} (h : H a = some (.tup xs)) (k : ∀ p H', Same H H' → H' p = some (.tup (cutV xs lo hi)) → Q (.ref p) H') : rSlA K (.ref a) lo hi H Q := by
  refine ⟨a, xs, rfl, sqT h, fun e => ?_, fun _ p hp => k p _ (Same.new (Same.refl _) hp) upd_same⟩
  refine k a H (Same.refl _) ?_
  unfold cutV
  rw [e.1, e.2, List.drop_zero, Nat.sub_zero, List.take_length]
  exact h
theorem cut_take {n : Nat} (hn : n ≤ xs.length) : cutV xs none (some (n : Int)) = xs.take n := by
  unfold cutV
  rw [HT.sIx_none, show HT.sIx xs.length xs.length (some (n : Int)) = min n xs.length from HT.sIx_nat xs.length xs.length n, Nat.min_eq_left hn, List.drop_zero, Nat.sub_zero]
theorem cut_drop {n : Nat} (hn : n ≤ xs.length) : cutV xs (some (n : Int)) none = xs.drop n := by
  unfold cutV
  rw [HT.sIx_none, show HT.sIx xs.length 0 (some (n : Int)) = min n xs.length from HT.sIx_nat xs.length 0 n, Nat.min_eq_left hn]
  exact List.take_of_length_le (by rw [List.length_drop]; exact Nat.le_refl _)
theorem q_sl {r : V → Option Int → Option Int → Hp → VK → Prop} {tl th : TO} (h : te σ H fun x H1 => tl σ H1 fun l H2 => th σ H2 fun u H3 => r x l u H3 Q) : tSl r te tl th σ H Q := h
theorem q_noPart {R : Option Int → Hp → Prop} (k : R none H) : tNoPart σ H R := k
def partK (R : Option Int → Hp → Prop) : VK := fun x H1 => ∃ i, x = .int i ∧ R (some i) H1
theorem q_part {R : Option Int → Hp → Prop} (h : te σ H (partK R)) : tPart te σ H R := h
theorem q_partK {R : Option Int → Hp → Prop} (k : R (some i) H) : partK R (.int i) H := ⟨i, rfl, k⟩
/-! a text times a number -/
def repS (s : Str) (n : Int) : Str := ⟨(List.replicate n.toNat s.cps).foldl (· ++ ·) #[]⟩
def mulOk (s : Str) (n : Int) : Bool := decide (2 ≤ n) && decide (n ≤ 1000) && decide (s.length = 1) && decide ((repS s n).length ≤ 1000)
def rMulStr : R2 := fun x y H Q => ∃ s n, x = .str s ∧ y = .int n ∧ mulOk s n = true ∧ Q (.str (repS s n)) H
theorem oq_mulStr {X : Cx} : OpR X (binaryOp .Mult) rMulStr := by
  intro pins s σ H x y v u Q I rx ry h
  obtain ⟨z, n, rfl, rfl, hm, q⟩ := h
  obtain ⟨t, rfl⟩ := rx
  obtain ⟨t', rfl⟩ := ry
  unfold mulOk at hm
  simp only [Bool.and_eq_true, decide_eq_true_eq] at hm
  obtain ⟨⟨⟨h1, h2⟩, h3⟩, h4⟩ := hm
  have e1 : (n == 1 || z.length == 0) = false := by
    rw [h3]
    have : (n == 1) = false := beq_eq_false_iff_ne.mpr (by omega)
    rw [this]
    rfl
  refine PySem.P.mul_str ?_ (fun _ _ => ?_) (fun _ _ => ?_) ?_
  · rw [decide_eq_false (show ¬ n < -(2 ^ 63) by omega), decide_eq_false (show ¬ n ≥ 2 ^ 63 by omega)]
    rfl
  · rw [h3]
    have : (1 : Int) ≤ (2 ^ 63 - 1) / n := Int.le_ediv_of_mul_le (by omega) (by omega)
    exact Int.not_lt.mpr this
  · rw [h3, Nat.one_mul]
    exact decide_eq_false (by
      have : sizeLine = 16777216 := sizeLine_eq
      omega)
  · rw [if_neg (show ¬ n < 1 by omega), if_neg (by rw [e1]; exact Bool.false_ne_true)]
    exact ⟨Nat.le_trans h4 (by decide), .str (repS z n), H, I.tok _, ⟨_, rfl⟩, q⟩
theorem q_mulStr {s : Str} (hm : mulOk s i = true) (k : Q (.str (repS s i)) H) : rMulStr (.str s) (.int i) H Q := ⟨s, i, rfl, rfl, hm, k⟩
/-! methods of lists -/
def bmK (K : PySem.W.Frag) (T : String) (r : V → List V → Hp → VK → Prop) (t : TA) (σ : L2.St) (Q : VK) : VK := fun x H1 => tyV K T x H1 ∧ t σ H1 fun xs H2 => r x xs H2 Q
def bmK0 (K : PySem.W.Frag) (T : String) (r : V → List V → Hp → VK → Prop) (Q : VK) : VK := fun x H1 => tyV K T x H1 ∧ r x [] H1 Q
theorem q_bm {T : String} {r : V → List V → Hp → VK → Prop} (h : te σ H (bmK K T r tr σ Q)) : tBM K T r te tr σ H Q := h
theorem q_bm0 {T : String} {r : V → List V → Hp → VK → Prop} (h : te σ H (bmK0 K T r Q)) : tBM0 K T r te σ H Q := h
theorem q_bmL {r : V → List V → Hp → VK → Prop} (h : H l = some (.lst xs)) (k : tr σ H fun vs H2 => r (.ref l) vs H2 Q) : bmK K "list" r tr σ Q (.ref l) H := ⟨.inl ⟨rfl, xs, sqL h⟩, k⟩
theorem q_bmL0 {r : V → List V → Hp → VK → Prop} (h : H l = some (.lst xs)) (k : r (.ref l) [] H Q) : bmK0 K "list" r Q (.ref l) H := ⟨.inl ⟨rfl, xs, sqL h⟩, k⟩
theorem q_append (h : H l = some (.lst xs)) (hl : xs.length < sizeLine) (k : Q .non (upd H l (.lst (xs ++ [y])))) : rAppend (.ref l) [y] H Q := ⟨l, xs, y, rfl, rfl, h, hl, k⟩
theorem q_popAt {n : Nat} (h : H l = some (.lst xs)) (e : i = (n : Int)) (hn : n < xs.length) (hb : i < 2 ^ 63) (hv : xs[n]? = some v) (k : Q v (upd H l (.lst (xs.eraseIdx n)))) : rPopAt (.ref l) [.int i] H Q := by
  refine ⟨l, xs, i, n, v, rfl, rfl, h, by omega, hb, ?_, hv, k⟩
  subst e
  unfold seqIndex?
  have h1 : ¬ ((n : Int) < 0) := by omega
  have h2 : (n : Int) < (xs.length : Int) := by omega
  have h3 : (0 : Int) ≤ (n : Int) := by omega
  simp [h1, h2, h3]
/-! a walk over a list or a tuple -/
theorem pi_or {X : Cx} {tg e : Expr} {w1 w2 : TI} (h1 : PI X tg e w1) (h2 : PI X tg e w2) : PI X tg e (fun σ H R => w1 σ H R ∨ w2 σ H R) :=
  ⟨fun pins s σ H R I h => h.elim (h1.run pins s σ H R I) (h2.run pins s σ H R I)⟩
def iSeq (K : PySem.W.Frag) (te : TE) : TI := fun σ H R => iList K te σ H R ∨ iTup K te σ H R
theorem pi_seq {X : Cx} {tg e : Expr} {te : TE} (h : PE X e te) : PI X tg e (iSeq X.K te) := pi_or (pi_list h) (pi_tup h)
theorem q_iSeqL {R : It → Hp → Prop} (h : te σ H fun x H1 => ∃ a, x = .ref a ∧ (∃ xs, SqL K H1 a xs) ∧ R (Itl K a) H1) : iSeq K te σ H R := .inl h
theorem q_iSeqT {R : It → Hp → Prop} (h : te σ H fun x H1 => ∃ a, x = .ref a ∧ (∃ xs, SqT K H1 a xs) ∧ R (Itt K a) H1) : iSeq K te σ H R := .inr h
/-! a written dict -/
def pairsK (σ : L2.St) (r : List (TE × TE)) (x : V) (Q : List (V × V) → Hp → Prop) : VK := fun y H2 => tPairs r σ H2 fun ps H3 => Q ((x, y) :: ps) H3
theorem q_pairC {tk tv : TE} {r : List (TE × TE)} {R : List (V × V) → Hp → Prop} (h : tk σ H fun x H1 => tv σ H1 (pairsK σ r x R)) : tPairs ((tk, tv) :: r) σ H R := h
theorem q_pairsK {r : List (TE × TE)} {R : List (V × V) → Hp → Prop} (h : tPairs r σ H fun ps H3 => R ((x, y) :: ps) H3) : pairsK σ r x R y H := h
theorem q_pairN {R : List (V × V) → Hp → Prop} (h : R [] H) : tPairs [] σ H R := h
def dispK (Q : VK) (p : Addr) : List (V × V) → Hp → Prop := fun ps H2 => H2 p = some (.dK []) ∧ ∃ kvs : List (Key × V), ps = kvs.map (fun kv => (kV kv.1, kv.2)) ∧ kvs.length ≤ 15 ∧ Q (.ref p) (upd H2 p (.dK (mergeK [] kvs)))
theorem q_disp {trs : List (TE × TE)} (k : ∀ p, H p = none → tPairs trs σ (upd H p (.dK [])) (dispK Q p)) : tDisp trs σ H Q := k
theorem valV_cons {κ : Type} [DecidableEq κ] {kvs : List (κ × V)} {k k' : κ} {v : V} : valV ((k, v) :: kvs) k' = if k = k' then some v else valV kvs k' := by
  unfold valV
  rw [List.find?_cons]
  by_cases e : k = k'
  · rw [if_pos e, decide_eq_true e]; rfl
  · rw [if_neg e, decide_eq_false e]
theorem valV_nomem {κ : Type} [DecidableEq κ] {kvs : List (κ × V)} {k : κ} (h : k ∉ kvs.map (·.1)) : valV kvs k = none := by
  cases q : valV kvs k with
  | none => rfl
  | some v => exact absurd (valV_in q) h
theorem merge_app : ∀ (kvs acc : List (Key × V)), ((acc ++ kvs).map (·.1)).Nodup → mergeK acc kvs = acc ++ kvs
  | [], acc, _ => by rw [List.append_nil]; rfl
  | (k, v) :: r, acc, h => by
    have hk : k ∉ acc.map (·.1) := by
      rw [List.map_append] at h
      intro m
      exact (List.nodup_append.mp h).2.2 k m k (by simp) rfl
    show mergeK (putK acc k v) r = _
    rw [putK_new v (valV_nomem hk), merge_app r (acc ++ [(k, v)]) (by rw [List.append_assoc]; exact h), List.append_assoc]
    rfl
theorem q_dispK {kvs : List (Key × V)} {ps : List (V × V)} (h : H p = some (.dK [])) (e : ps = kvs.map (fun kv => (kV kv.1, kv.2))) (hl : kvs.length ≤ 15) (hn : (kvs.map (·.1)).Nodup) (k : Q (.ref p) (upd H p (.dK kvs))) : dispK Q p ps H :=
  ⟨h, kvs, e, hl, by rw [merge_app kvs [] hn]; exact k⟩
theorem q_slL {lo hi : Option Int} (h : SqL K H a xs) (k : ∀ p, H p = none → Q (.ref p) (upd H p (.lst (cutV xs lo hi)))) : rSlL K (.ref a) lo hi H Q := ⟨a, xs, rfl, h, k⟩
/-! attributes and methods -/
def fldK (K : PySem.W.Frag) (f : Str) (Q : VK) : VK := fun x H1 => ∃ a C dx fs v, x = .ref a ∧ H1 a = some (.ins C dx fs) ∧ Cls K C ∧ NoAttr K C f ∧ fs.lookup f = some v ∧ Q v H1
theorem q_fld {f : Str} (h : te σ H (fldK K f Q)) : tFld K te f σ H Q := h
theorem q_fldK {f : Str} {C dx : Addr} {fs : List (Str × V)} (h : H a = some (.ins C dx fs)) (hc : Cls K C) (hn : NoAttr K C f) (hl : fs.lookup f = some v) (k : Q v H) : fldK K f Q (.ref a) H := ⟨a, C, dx, fs, v, rfl, h, hc, hn, hl, k⟩
def fputK (K : PySem.W.Frag) (f : Str) (D : Ends) (σ : L2.St) (y : V) : VK := fun x H2 => ∃ a C dx fs, x = .ref a ∧ H2 a = some (.ins C dx fs) ∧ Cls K C ∧ NoAttr K C f ∧ fs.length < 1000 ∧ D.nx σ (upd H2 a (.ins C dx (putF f y fs)))
theorem q_sFld {f : Str} (h : tb σ H fun y H1 => te σ H1 (fputK K f D σ y)) : sFld K te tb f D σ H := h
theorem q_fputK {f : Str} {C dx : Addr} {fs : List (Str × V)} (h : H a = some (.ins C dx fs)) (hc : Cls K C) (hn : NoAttr K C f) (hl : fs.length < 1000) (k : D.nx σ (upd H a (.ins C dx (putF f y fs)))) : fputK K f D σ y (.ref a) H := ⟨a, C, dx, fs, rfl, h, hc, hn, hl, k⟩
def methK (m : Str) (C : Addr) (sp : Sp) (dvs : List V) (E : XK) (tr : TA) (σ : L2.St) (Q : VK) : VK := fun x H1 => ∃ a dx fs, x = .ref a ∧ H1 a = some (.ins C dx fs) ∧ fs.lookup m = none ∧ tr σ H1 fun vs H2 => sp (x :: (vs ++ dvs)) H2 Q E
theorem q_meth {m : Str} {C : Addr} {sp : Sp} {dvs : List V} {E : XK} (h : te σ H (methK m C sp dvs E tr σ Q)) : tMeth C m sp dvs E te tr σ H Q := h
def selfK (sp : Sp) (x : V) (E : XK) (Q : VK) : List V → Hp → Prop := fun vs H2 => sp (x :: vs) H2 Q E
theorem q_methK {m : Str} {C dx : Addr} {sp : Sp} {E : XK} {fs : List (Str × V)} (h : H a = some (.ins C dx fs)) (hn : fs.lookup m = none) (k : ∀ (R : List V → Hp → Prop), (∀ vs H2, sp (.ref a :: vs) H2 Q E → R vs H2) → tr σ H R) : methK m C sp [] E tr σ Q (.ref a) H :=
  ⟨a, dx, fs, rfl, h, hn, k _ fun vs H2 q => by rw [List.append_nil]; exact q⟩
theorem q_fldlen {f : Str} {fs : List (Str × V)} {y : V} {n : Nat} (h : fs.length ≤ n) : (putF f y fs).length ≤ n + 1 := by
  induction fs generalizing n with
  | nil => exact Nat.succ_le_succ (Nat.zero_le _)
  | cons p r ih =>
    obtain ⟨g, x⟩ := p
    show (if g = f then (g, y) :: r else (g, x) :: putF f y r).length ≤ n + 1
    by_cases e : g = f
    · rw [if_pos e]; exact Nat.le_succ_of_le h
    · rw [if_neg e]
      cases n with
      | zero => exact absurd h (by simp)
      | succ n => exact Nat.succ_le_succ (ih (Nat.le_of_succ_le_succ h))
theorem q_never {σ : L2.St} (h : False) : tNever D σ H := h
def mkK (C : Addr) (n m : Nat) (sp : Sp) (gV : List V → List V → List V) (E : XK) (vs : List V) (Q : VK) : List V → Hp → Prop := fun zs H2 => vs.length = n ∧ zs.length = m ∧ ∀ x dx, H2 x = none → H2 dx = none → dx ≠ x →
  sp (gV (.ref x :: vs) zs) (upd (upd H2 dx (.own x)) x (.ins C dx [])) (fun v H3 => v = .non ∧ Q (.ref x) H3) E
theorem q_makeK {C : Addr} {n m : Nat} {sp : Sp} {gV : List V → List V → List V} {E : XK} {tk : TA} (h : tr σ H fun vs H1 => tk σ H1 (mkK C n m sp gV E vs Q)) : tMakeK C n m sp gV E tr tk σ H Q := h
/-! comprehensions -/
def lcK (g : TG) (tt : TT) (te : TE) (vs : List Nat) (σ : L2.St) (Q : VK) : It → Hp → Prop := fun J H1 => ∀ D, H1 D = none → ∃ W : Nat → Nat → Hp → Prop, (∃ m, W 0 m (upd H1 D (.lst []))) ∧ ∀ i m H, W i m H →
  (J.stop i H ∧ Q (.ref D) H) ∨ (J.go i H ∧ ∃ Nx : Hp → Prop, (∀ H', Nx H' → ∃ m', m' < m ∧ W (i + 1) m' H') ∧ ∀ x H', J.yld i H x H' → g x (wipe σ vs) H' fun σ2 H2 => wipe σ2 vs = wipe σ vs ∧ tt σ2 H2 fun b H3 =>
    if b = true then te σ2 H3 fun y H4 => ∃ acc, H4 D = some (.lst acc) ∧ acc.length < sizeLine ∧ Nx (upd H4 D (.lst (acc ++ [y]))) else Nx H3)
theorem q_lc {wi : TI} {vs : List Nat} (h : wi σ H (lcK g tt te vs σ Q)) : tLc wi g tt te vs σ H Q := h
def keepK (te : TE) (σ : L2.St) (D : Addr) (Nx : Hp → Prop) : Bool → Hp → Prop := fun b H3 => if b = true then te σ H3 fun y H4 => ∃ acc, H4 D = some (.lst acc) ∧ acc.length < sizeLine ∧ Nx (upd H4 D (.lst (acc ++ [y]))) else Nx H3
def accK (D : Addr) (Nx : Hp → Prop) : VK := fun y H4 => ∃ acc, H4 D = some (.lst acc) ∧ acc.length < sizeLine ∧ Nx (upd H4 D (.lst (acc ++ [y])))
theorem q_keepT {Nx : Hp → Prop} (h : te σ H (accK l Nx)) : keepK te σ l Nx true H := iteT h
theorem q_keepF {Nx : Hp → Prop} (h : Nx H) : keepK te σ l Nx false H := iteF h
theorem q_keep2 {Nx : Hp → Prop} {c : Bool} (h : c = true → te σ H (accK l Nx)) (h2 : c = false → Nx H) : keepK te σ l Nx c H := by
  cases c with
  | true => exact iteT (h rfl)
  | false => exact iteF (h2 rfl)
theorem q_accK {Nx : Hp → Prop} (h : H l = some (.lst xs)) (hl : xs.length < sizeLine) (k : Nx (upd H l (.lst (xs ++ [y])))) : accK l Nx y H := ⟨xs, h, hl, k⟩
theorem q_lcL {S : List V} {vs : List Nat} (h : SqL K H a S) (k : ∀ D, H D = none → ∃ Pv : Nat → Hp → Prop, Pv 0 (upd H D (.lst [])) ∧ (∀ i H, i ≤ S.length → Pv i H → SqL K H a S) ∧
      (∀ i x H, S[i]? = some x → Pv i H → g x (wipe σ vs) H fun σ2 H2 => wipe σ2 vs = wipe σ vs ∧ tt σ2 H2 (keepK te σ2 D (Pv (i + 1)))) ∧ ∀ H, Pv S.length H → Q (.ref D) H) :
    ∃ b, V.ref a = .ref b ∧ (∃ xs, SqL K H b xs) ∧ lcK g tt te vs σ Q (Itl K b) H := ⟨a, rfl, ⟨S, h⟩, fun D hD => by
      obtain ⟨Pv, h0, hl, hs, hd⟩ := k D hD
      exact lc_list Pv h0 hl hs hd⟩
theorem q_lcT {S : List V} {vs : List Nat} (h : SqT K H a S) (k : ∀ D, H D = none → ∃ Pv : Nat → Hp → Prop, Pv 0 (upd H D (.lst [])) ∧ (∀ i H, i ≤ S.length → Pv i H → SqT K H a S) ∧
      (∀ i x H, S[i]? = some x → Pv i H → g x (wipe σ vs) H fun σ2 H2 => wipe σ2 vs = wipe σ vs ∧ tt σ2 H2 (keepK te σ2 D (Pv (i + 1)))) ∧ ∀ H, Pv S.length H → Q (.ref D) H) :
    ∃ b, V.ref a = .ref b ∧ (∃ xs, SqT K H b xs) ∧ lcK g tt te vs σ Q (Itt K b) H := ⟨a, rfl, ⟨S, h⟩, fun D hD => by
      obtain ⟨Pv, h0, hl, hs, hd⟩ := k D hD
      exact lc_tup Pv h0 hl hs hd⟩
theorem q_lcR {vs : List Nat} (hj : 0 ≤ j ∧ j < 1000000000000000) (k : ∀ D, H D = none → ∃ Pv : Nat → Hp → Prop, Pv 0 (upd H D (.lst [])) ∧
      (∀ (i : Nat) H, (i : Int) < j → Pv i H → g (.int i) (wipe σ vs) H fun σ2 H2 => wipe σ2 vs = wipe σ vs ∧ tt σ2 H2 (keepK te σ2 D (Pv (i + 1)))) ∧ ∀ H, Pv j.toNat H → Q (.ref D) H) :
    rg1K (lcK g tt te vs σ Q) [.int j] H := ⟨j, rfl, by omega, by omega, fun D hD => by
      obtain ⟨Pv, h0, hs, hd⟩ := k D hD
      refine lc_range Pv h0 (fun i H hi hp => ?_) hd
      have e : (0 : Int) + (i : Int) = (i : Int) := Int.zero_add _
      rw [e]
      exact hs i H (by omega) hp⟩
end

/-! get and setdefault of a dict -/
section
variable {H : Hp} {σ : L2.St} {Q : VK} {td ty tx : TE} {a : Addr} {z v : V}
def dG2K (Q : VK) (a : Addr) (y : V) : VK := fun z H3 => ∃ o, DGet H3 a y o ∧ Q (o.getD z) H3
def dG2a (ty tx : TE) (σ : L2.St) (Q : VK) : VK := fun x H1 => ∃ a, x = .ref a ∧ IsD H1 a ∧ ty σ H1 fun y H2 => tx σ H2 (dG2K Q a y)
theorem q_tDGet2 (h : td σ H (dG2a ty tx σ Q)) : tDGet2 td ty tx σ H Q := h
theorem q_dG2a {kvs : List (Key × V)} (h : H a = some (.dK kvs)) (k : ty σ H fun y H2 => tx σ H2 (dG2K Q a y)) : dG2a ty tx σ Q (.ref a) H := ⟨a, rfl, .inl ⟨kvs, .inl h⟩, k⟩
theorem q_dG2S {kvs : List (Key × V)} {s : Str} (h : H a = some (.dK kvs)) (k : Q ((valV kvs (.inr s)).getD z) H) : dG2K Q a (.str s) z H := ⟨_, DGet.k (k := Sum.inr s) h, k⟩
theorem q_dG2I {kvs : List (Key × V)} {i : Int} (h : H a = some (.dK kvs)) (k : Q ((valV kvs (.inl i)).getD z) H) : dG2K Q a (.int i) z H := ⟨_, DGet.k (k := Sum.inl i) h, k⟩
def dSdK (Q : VK) (a : Addr) (y : V) : VK := fun z H3 => ∃ (kvs : List (Key × V)) (k : Key), H3 a = some (.dK kvs) ∧ y = kV k ∧ kvs.length < sizeLine ∧ (∀ v, valV kvs k = some v → Q v H3) ∧ (valV kvs k = none → Q z (upd H3 a (.dK (putK kvs k z))))
def dSda (ty tx : TE) (σ : L2.St) (Q : VK) : VK := fun x H1 => ∃ a, x = .ref a ∧ IsD H1 a ∧ ty σ H1 fun y H2 => tx σ H2 (dSdK Q a y)
theorem q_tDSetd (h : td σ H (dSda ty tx σ Q)) : tDSetd td ty tx σ H Q := h
theorem q_dSda {kvs : List (Key × V)} (h : H a = some (.dK kvs)) (k : ty σ H fun y H2 => tx σ H2 (dSdK Q a y)) : dSda ty tx σ Q (.ref a) H := ⟨a, rfl, .inl ⟨kvs, .inl h⟩, k⟩
theorem q_dSdS {kvs : List (Key × V)} {s : Str} (h : H a = some (.dK kvs)) (hl : kvs.length < sizeLine) (k1 : ∀ v, valV kvs (.inr s) = some v → Q v H) (k2 : valV kvs (.inr s) = none → Q z (upd H a (.dK (putK kvs (.inr s) z)))) : dSdK Q a (.str s) z H := ⟨kvs, .inr s, h, rfl, hl, k1, k2⟩
end

/-! methods that may raise within a try; the suite of one class; del of an item; a text times 1 -/
section
variable {K : PySem.W.Frag} {σ : L2.St} {H : Hp} {Q : VK} {D : Ends} {l : Addr} {xs : List V} {i : Int} {to ti : TE}
def delK (D : Ends) (σ : L2.St) (x : V) : VK := fun y H2 => ∃ (l : Addr) (xs : List V) (i : Int) (k : Nat), x = .ref l ∧ y = .int i ∧ H2 l = some (.lst xs) ∧ -(2 ^ 63) ≤ i ∧ i < 2 ^ 63 ∧ seqIndex? i xs.length = some k ∧ D.nx σ (upd H2 l (.lst (xs.eraseIdx k)))
theorem q_delL (h : to σ H fun x H1 => ti σ H1 (delK D σ x)) : tDelL to ti D σ H := h
theorem seqIx {n m : Nat} (h : n < m) : seqIndex? (n : Int) m = some n := by
  unfold seqIndex?
  have h1 : ¬ ((n : Int) < 0) := by omega
  have h2 : (n : Int) < (m : Int) := by omega
  have h3 : (0 : Int) ≤ (n : Int) := by omega
  simp [h1, h2, h3]
theorem q_delK {n : Nat} (h : H l = some (.lst xs)) (e : i = (n : Int)) (hn : n < xs.length) (hb : i < 2 ^ 63) (k : D.nx σ (upd H l (.lst (xs.eraseIdx n)))) : delK D σ (.ref l) (.int i) H :=
  ⟨l, xs, i, n, rfl, rfl, h, by omega, hb, by rw [e]; exact seqIx hn, k⟩
def rMulStr1 : R2 := fun x y H Q => ∃ s, x = .str s ∧ y = .int 1 ∧ Q (.str s) H
theorem oq_mulStr1 {X : Cx} : OpR X (binaryOp .Mult) rMulStr1 := by
  intro pins s σ H x y v u Q I rx ry h
  obtain ⟨z, rfl, rfl, q⟩ := h
  obtain ⟨t, rfl⟩ := rx
  obtain ⟨t', rfl⟩ := ry
  refine PySem.P.mul_str (by decide) (fun _ h => by cases h) (fun _ h => by cases h) ?_
  rw [if_neg (show ¬ (1 : Int) < 1 by omega), if_pos (by rfl)]
  exact ⟨.str z, H, I, ⟨_, rfl⟩, q⟩
theorem q_mulStr1 {s : Str} (k : Q (.str s) H) : rMulStr1 (.str s) (.int 1) H Q := ⟨s, rfl, rfl, k⟩
theorem q_int1b {c : Bool} (k : Q (.int (if c then 1 else 0)) H) : rInt1 [.bl c] H Q := .inr ⟨c, rfl, k⟩
theorem q_int1t (k : Q (.int 1) H) : rInt1 [.bl true] H Q := .inr ⟨true, rfl, k⟩
theorem q_neB {c d : Bool} (k : Q (.bl (c != d)) H) : rNe (.bl c) (.bl d) H Q := ⟨rfl, by
  have e : (!decide (V.bl c = V.bl d)) = (c != d) := by cases c <;> cases d <;> rfl
  rw [e]; exact k⟩
theorem q_neBs {c : Bool} (k : Q (.bl false) H) : rNe (.bl c) (.bl c) H Q := q_neB (by rw [bne_self_eq_false]; exact k)
def tMethA (C : Addr) (m : Str) (sp : Sp) (E : L2.St → XK) (ta : TE) (t : TA) : TE := fun σ H Q => ta σ H fun x H1 => ∃ a dx fs, x = .ref a ∧ H1 a = some (.ins C dx fs) ∧ fs.lookup m = none ∧ t σ H1 fun vs H2 => sp (x :: vs) H2 Q (E σ)
def methAK (C : Addr) (m : Str) (sp : Sp) (E : L2.St → XK) (t : TA) (σ : L2.St) (Q : VK) : VK := fun x H1 => ∃ a dx fs, x = .ref a ∧ H1 a = some (.ins C dx fs) ∧ fs.lookup m = none ∧ t σ H1 fun vs H2 => sp (x :: vs) H2 Q (E σ)
theorem q_methA {C : Addr} {m : Str} {sp : Sp} {E : L2.St → XK} {ta : TE} {t : TA} (h : ta σ H (methAK C m sp E t σ Q)) : tMethA C m sp E ta t σ H Q := h
theorem q_methAK {C dx a : Addr} {m : Str} {sp : Sp} {E : L2.St → XK} {t : TA} {fs : List (Str × V)} (h : H a = some (.ins C dx fs)) (hn : fs.lookup m = none) (k : t σ H fun vs H2 => sp (.ref a :: vs) H2 Q (E σ)) : methAK C m sp E t σ Q (.ref a) H := ⟨a, dx, fs, rfl, h, hn, k⟩
theorem q_callS {sp : Sp} {E : L2.St → XK} {t : TA} (h : t σ H fun vs H1 => sp vs H1 Q (E σ)) : tCallS sp E t σ H Q := h
theorem q_isE {D a C : Addr} {b : Bool} (e : PySem.W.kitOne K (.ref D) (.ref C) = some b) (k : Q (.bl b) H) : rIsE K D a [.ref a, .ref C] H Q := ⟨.ref C, .ref C, b, rfl, fun _ r => r, e, k⟩
end
section
variable {X : Cx} {CX : CXT} {k : Nat} {f C : Addr} {fd : FuncData} {ps : List Str} {sp : Sp} {E : L2.St → XK} {m : Str} {pos apos : Pos} {e o : Expr} {es : List Expr} {ta : TE} {t : TA}
theorem pe_methA {pl : Sem Bool} (he : PE X o ta) (c : Cls X.K C) (hm : Meth X.K C m f) (F : FnOk X.prog X.w X.K X.mg X.base CX k f fd ps sp) (hr : Room k X.A) (hb : Binds X.K fd ps []) (hx : ∀ σ, PassesAt CX X σ (E σ)) (ha : PA X (e :: es) t)
    (hst : starEach (e :: es) X.env = (false, eval e X.env) :: starEach es X.env := by rfl) (hpl : (backTo pos (starEach es X.env)).any (·.1) = false := by rfl)
    (ht : eval (.Call (.Attribute o m apos) (e :: es) [] pos) X.env = (do
      let ov ← eval o X.env
      standAt apos.atName
      let (f, first) ← holding [ov] (getMethod ov m pl)
      callWith pos f first (backTo pos (starEach (e :: es) X.env)) (backToKw pos (keywordEach [] X.env))) := by rfl) :
    PE X (.Call (.Attribute o m apos) (e :: es) [] pos) (tMethA C m sp E ta t) := by
  refine ⟨fun pins s σ H Q I h => ?_⟩
  refine PySem.W.methodCall_KW (pl := pl) (thn (he.run pins s σ H _ I h) fun u s1 ⟨x, H1, I1, rx, a, dx, fs, ex, ea, l, q⟩ => ?_) ht
  subst ex
  obtain rfl : u = Value.ref a := rx
  refine getmeth_ok I1 ea c hm l ?_
  refine PySem.W.callWith_K (first := [.ref a]) (h₀ := X.base) I.ok.mod.kin hm.kp (thn (ha.run pos pins s1 σ H1 _ I1 q) fun us s2 ⟨vs, H2, I2, r, q2⟩ => ⟨I2.kIn, ?_⟩) hst hpl
  exact run_fnS (us := .ref a :: us) (vs := .ref a :: vs) F hr hb (hx σ) I2 (.cons rfl r) q2
theorem pss_cls {oe : Obj} {cls : Value} {d : Option Addr} {b : List Stmt} {t : TS} (hz : Zc cls d oe) (h : Zc (.ref C) none oe → PSs X b t) : PSs X b (fun D σ H => (cls = .ref C ∧ d = none) ∧ t D σ H) :=
  ⟨fun pins s σ H D I q => (h (by obtain ⟨⟨e1, e2⟩, _⟩ := q; rw [e1, e2] at hz; exact hz)).run pins s σ H D I q.2⟩
end

/-! the sum of a dict's values; dicts keyed by tuples -/
section
variable {X : Cx} {o : Expr} {p pos apos mpos : Pos} {td : TE}
def tSumVals (td : TE) : TE := fun σ H Q => td σ H fun x H1 => ∃ (a : Addr) (kvs : List (Key × V)) (is : List Int), x = V.ref a ∧ H1 a = some (.dK kvs) ∧ kvs.map (·.2) = is.map V.int ∧ Q (.int is.sum) H1
theorem pre_sum (is : List Int) : ∀ n, n ≤ is.length → preSum (fun i => is.getD i 0) n = (is.take n).sum
  | 0, _ => by simp [preSum]
  | n + 1, h => by
    rw [preSum, pre_sum is n (by omega), List.take_add_one, List.sum_append, List.getElem?_eq_getElem (by omega), List.getD_eq_getElem?_getD, List.getElem?_eq_getElem (by omega)]
    simp
theorem pe_sumVals (hc : X.calm = true) (hg : Gl X "sum") (hm : X.mg "sum" = none) (hd : PE X o td) (hbase : attributeBase o "values" X.env (eval o X.env) = eval o X.env := by rfl) (hline : (apos.endLine == mpos.line) = true := by rfl)
    (hse : starEach [Expr.Call (.Attribute o "values" apos) [] [] mpos] X.env = [(false, eval (Expr.Call (.Attribute o "values" apos) [] [] mpos) X.env)] := by rfl) :
    PE X (.Call (.Name "sum" p) [.Call (.Attribute o "values" apos) [] [] mpos] [] pos) (tSumVals td) := by
  refine ⟨fun pins s σ H Q I h => ?_⟩
  refine wpAny_Call_Name_kw (ld_blt I hg hm (u := .builtin "sum") (by first | rfl | decide +kernel) ?_ (by first | decide +kernel | decide) (by first | decide +kernel | decide))
  rw [hse]
  refine PySem.callWith_builtin1 (wpAny_Call_method0_late hbase hline (thn (hd.run pins s σ H _ I h) fun v s1 ⟨x, H1, I1, r1, a, kvs, is, ex, ha, hv, q⟩ => ?_))
  subst ex
  obtain rfl : v = Value.ref a := r1
  obtain ⟨_, hsys, vs, rel, dof⟩ := dk_of I1.hok ha
  obtain ⟨ep, dat⟩ := dof.dictAt
  have dat' := dat
  obtain ⟨ob, es, ho, ex, hdat, hko, hpr, hnd⟩ := dat'
  refine ⟨"dict", "dict.values", PySem.F.plainAttrs_dict, PySem.F.slot_dict_values, PySem.F.type_dict_values, ⟨ob, ho, ex.1⟩, fun b e => ?_, Calls.callWith_builtin rfl (PySem.evalArgs_none ?_)⟩
  · cases e
    exact ⟨ob, ho, ex.2.1⟩
  refine call_meetsIn PySem.F.slot_dict_values ⟨ob, ho, ex.1⟩ PySem.F.entry_dict_values (PySem.F.args_dict_values_1 _) (meets_dict_values (mixKind X.prog X.w) a hsys) ⟨⟨vs, dof⟩, ?_⟩
  have k1 : ∀ b u, s1.heap.get? b = some u → (s1.heap.push { cls := .type "dict_values", data := .fields #[.ref a] }).get? b = some u := fun b u e => Heap.get?_push_of_some _ e
  have dat1 : (s1.heap.push { cls := .type "dict_values", data := .fields #[.ref a] }).DictAt (mixKind X.prog X.w) a vs ep := dat.keep k1
  have hlv : vs.length = is.length := by
    have e1 := congrArg List.length hv
    rw [List.length_map, List.length_map] at e1
    rw [← e1]
    exact (KV.length rel).symm
  have hval : ∀ (i : Nat) (v : Value), (∃ k, vs[i]? = some (k, v)) → ∃ t, v = Value.int (is.getD i 0) t := fun i v ⟨k, hk⟩ => by
    obtain ⟨x, h1, h2⟩ := KV.at' rel hk
    have e1 : (kvs.map (·.2))[i]? = some x := by rw [List.getElem?_map, h1] <;> rfl
    rw [hv, List.getElem?_map] at e1
    obtain ⟨j, hj, e2⟩ := Option.map_eq_some_iff.mp e1
    subst e2
    obtain ⟨t, e3⟩ := h2
    refine ⟨t, ?_⟩
    rw [e3, List.getD_eq_getElem?_getD, hj] <;> rfl
  refine call_sum_walkG (wpAny_pyIter_values (v := s1.heap.objs.size) (d := a) ⟨_, Heap.get?_push_size _ rfl, rfl, rfl⟩ dat1 ?_)
  have hlt : a < s1.heap.objs.size := Heap.lt_size ho
  have hsz : (s1.heap.push { cls := .type "dict_values", data := .fields #[.ref a] }).objs.size = s1.heap.objs.size + 1 := Heap.size_push _ _
  refine ⟨_, _, _, _, _, _, fun i => is.getD i 0, rfl, Walks.dictValues (knd := mixKind X.prog X.w) (A := X.A.in1) (I.ok.hd hc) (s1.heap.push { cls := .type "dict_values", data := .fields #[.ref a] }).objs.size a (by rw [hsz]; exact Nat.ne_of_lt (Nat.lt_succ_of_lt hlt)) vs ep,
    ⟨⟨_, Heap.get?_push_size _ rfl, rfl, rfl⟩, dat1.keep fun b u e => Heap.get?_push_of_some _ e⟩, fun b hb => ?_, hval, fun h' tk t' hk => ?_⟩
  · show b < ((s1.heap.push _).push _).objs.size
    rw [Heap.size_push, Heap.size_push]
    rw [hsz] at hb
    rcases List.mem_cons.mp hb with e | hb
    · rw [e]
      exact Nat.lt_succ_self _
    · have e : b = a := List.mem_singleton.mp hb
      rw [e]
      exact Nat.lt_succ_of_lt (Nat.lt_succ_of_lt hlt)
  · refine ⟨.int is.sum, H1, I1.kept (t' := tk) fun b u e => hk b u (fun hmem => ?_) (Heap.get?_push_of_some _ (k1 b u e)), ⟨t', ?_⟩, q⟩
    · have e1 : b = (s1.heap.push { cls := .type "dict_values", data := .fields #[.ref a] }).objs.size := List.mem_singleton.mp hmem
      have e2 := Heap.lt_size e
      rw [hsz] at e1
      rw [e1] at e2
      exact absurd e2 (Nat.not_lt.mpr (Nat.le_succ _))
    · rw [pre_sum is _ (by omega), hlv, List.take_length]
end
section
variable {K : PySem.W.Frag} {σ : L2.St} {H : Hp} {Q : VK} {D : Ends} {a b : Addr} {z v : V} {ty tx td : TE} {kvs : List (List Key × V)} {k : List Key}
def sumK (Q : VK) : VK := fun x H1 => ∃ (a : Addr) (kvs : List (Key × V)) (is : List Int), x = V.ref a ∧ H1 a = some (.dK kvs) ∧ kvs.map (·.2) = is.map V.int ∧ Q (.int is.sum) H1
theorem q_sumVals (h : td σ H (sumK Q)) : tSumVals td σ H Q := h
theorem q_sumK {kvs : List (Key × V)} {is : List Int} (h : H a = some (.dK kvs)) (e : kvs.map (·.2) = is.map V.int) (q : Q (.int is.sum) H) : sumK Q (.ref a) H := ⟨a, kvs, is, rfl, h, e, q⟩
theorem q_dG2aT (h : H a = some (.dT kvs)) (q : ty σ H fun y H2 => tx σ H2 (dG2K Q a y)) : dG2a ty tx σ Q (.ref a) H := ⟨a, rfl, .inr ⟨kvs, .inl h⟩, q⟩
theorem q_dG2T (h : H a = some (.dT kvs)) (hb : H b = some (.tup (k.map kV))) (q : Q ((valV kvs k).getD z) H) : dG2K Q a (.ref b) z H := ⟨_, DGet.t h hb, q⟩
theorem q_dPutT (h : H a = some (.dT kvs)) (hb : H b = some (.tup (k.map kV))) (hl : kvs.length < sizeLine) (q : D.nx σ (upd H a (.dT (putK kvs k v)))) : dPutK D σ v (.ref a) (.ref b) H := ⟨a, _, rfl, DPut.t h hb hl, q⟩
theorem q_dNewT (q : ∀ p, H p = none → Q (.ref p) (upd H p (.dT []))) : tDNewT σ H Q := q
end

local macro_rules | `(tactic| walk_at "my_rd") => `(tactic| (repeat first
  | with_reducible refine q_tCons ?_
  | ((with_reducible apply q_var); (focus (exact rfl)))
  | with_reducible refine q_c ?_
  | with_reducible refine q_nx ?_
  | with_reducible refine q_bK ?_
  | with_reducible refine q_call ?_
  | with_reducible refine q_callK ?_
  | with_reducible refine q_tNil ?_
  | with_reducible refine q_cb ?_
  | with_reducible refine q_seq ?_
  | with_reducible refine q_asg ?_
  | with_reducible refine q_gName ?_
  | with_reducible refine q_op ?_
  | with_reducible refine q_test ?_
  | with_reducible refine q_tB ?_
  | with_reducible refine q_ifS ?_
  | with_reducible refine q_ret ?_
  | with_reducible refine q_rt ?_
  | with_reducible refine q_next ?_
  | with_reducible refine q_ifF ?_
  | with_reducible refine q_ifT ?_
  | with_reducible refine q_drop ?_
  | with_reducible refine q_and ?_
  | with_reducible refine q_or ?_
  | with_reducible refine q_andT ?_
  | with_reducible refine q_andF ?_
  | with_reducible refine q_orF ?_
  | with_reducible refine q_orT ?_
  | with_reducible refine q_andV ?_
  | with_reducible refine q_andVT ?_
  | with_reducible refine q_andVF ?_
  | with_reducible refine q_orV ?_
  | with_reducible refine q_gCons ?_
  | with_reducible refine q_gNil ?_
  | with_reducible refine q_tup ?_
  | with_reducible refine q_lst ?_
  | with_reducible refine q_not ?_
  | with_reducible refine q_notKT ?_
  | with_reducible refine q_notKF ?_
  | with_reducible refine q_I0 ?_
  | with_reducible refine q_eqI ?_
  | with_reducible refine q_neI ?_
  | ((with_reducible refine q_I ?_ ?_); first | decide | omega | exact ⟨by omega, by omega⟩ | exact ⟨by decide, by decide⟩ | exact .inl ⟨by omega, by omega⟩ | exact .inr ⟨by omega, by omega⟩ | exact .inr ⟨by decide, by decide⟩)
  | with_reducible refine q_eqS ?_
  | with_reducible refine q_neS ?_
  | with_reducible refine q_brk ?_
  | with_reducible refine q_ct ?_
  | with_reducible refine q_bk ?_
  | with_reducible refine q_cn ?_
  | with_reducible refine q_retN ?_
  | with_reducible refine q_gSub ?_
  | with_reducible refine q_for ?_
  | with_reducible refine q_iList ?_
  | with_reducible refine q_iTup ?_
  | with_reducible refine q_iRng1 ?_
  | with_reducible refine q_notK ?_
  | with_reducible refine q_orVT ?_
  | with_reducible refine q_orVF ?_
  | with_reducible refine q_notV ?_
  | with_reducible refine q_notVK ?_
  | with_reducible refine q_ifE ?_
  | with_reducible refine q_ifET ?_
  | with_reducible refine q_ifEF ?_
  | with_reducible refine q_yes ?_
  | with_reducible refine q_un ?_
  | with_reducible refine q_rU ?_
  | with_reducible refine q_abs ?_
  | with_reducible refine q_int1 ?_
  | with_reducible refine q_bm ?_
  | with_reducible refine q_bm0 ?_
  | with_reducible refine q_lc ?_
  | with_reducible refine q_keepT ?_
  | with_reducible refine q_keepF ?_
  | ((with_reducible apply q_aug); (focus (exact rfl)))
  | with_reducible refine q_ipI ?_
  | with_reducible refine q_chain ?_
  | with_reducible refine q_pairC ?_
  | with_reducible refine q_pairsK ?_
  | with_reducible refine q_pairN ?_
  | with_reducible refine q_fld ?_
  | with_reducible refine q_sFld ?_
  | with_reducible refine q_meth ?_
  | with_reducible refine q_makeK ?_
  | with_reducible refine q_isBl ?_
  | with_reducible refine q_notBl ?_
  | with_reducible refine q_sl ?_
  | with_reducible refine q_noPart ?_
  | with_reducible refine q_part ?_
  | with_reducible refine q_partK ?_
  | ((with_reducible apply q_mulStr); (focus (decide +kernel)))
  | with_reducible refine q_chT ?_
  | with_reducible refine q_chF ?_
  | with_reducible refine q_ord ?_
  | with_reducible refine q_iStr0 ?_
  | with_reducible refine q_iStr ?_
  | with_reducible refine q_tDIn ?_
  | with_reducible refine q_tDNotIn ?_
  | with_reducible refine q_tDGet ?_
  | with_reducible refine q_tDGet2 ?_
  | with_reducible refine q_tDGet1 ?_
  | with_reducible refine q_tDSetd ?_
  | ((with_reducible apply q_dG2a); (focus ((repeat first | (with_reducible exact upd_same) | (with_reducible assumption) | (with_reducible apply upd_new (by assumption)) | (with_reducible apply upd_other (by first | assumption | exact Ne.symm (by assumption))) | (with_reducible refine' Kp.get (by assumption) ?_ (by first | assumption | exact Ne.symm (by assumption))) | (with_reducible apply Same.get (by assumption))); done)))
  | ((with_reducible apply q_dSda); (focus ((repeat first | (with_reducible exact upd_same) | (with_reducible assumption) | (with_reducible apply upd_new (by assumption)) | (with_reducible apply upd_other (by first | assumption | exact Ne.symm (by assumption))) | (with_reducible refine' Kp.get (by assumption) ?_ (by first | assumption | exact Ne.symm (by assumption))) | (with_reducible apply Same.get (by assumption))); done)))
  | with_reducible refine q_sDPut ?_
  | ((with_reducible apply q_dInS); (focus ((repeat first | (with_reducible exact upd_same) | (with_reducible assumption) | (with_reducible apply upd_new (by assumption)) | (with_reducible apply upd_other (by first | assumption | exact Ne.symm (by assumption))) | (with_reducible refine' Kp.get (by assumption) ?_ (by first | assumption | exact Ne.symm (by assumption))) | (with_reducible apply Same.get (by assumption))); done)))
  | ((with_reducible apply q_dNInS); (focus ((repeat first | (with_reducible exact upd_same) | (with_reducible assumption) | (with_reducible apply upd_new (by assumption)) | (with_reducible apply upd_other (by first | assumption | exact Ne.symm (by assumption))) | (with_reducible refine' Kp.get (by assumption) ?_ (by first | assumption | exact Ne.symm (by assumption))) | (with_reducible apply Same.get (by assumption))); done)))
  | ((with_reducible apply q_dInI); (focus ((repeat first | (with_reducible exact upd_same) | (with_reducible assumption) | (with_reducible apply upd_new (by assumption)) | (with_reducible apply upd_other (by first | assumption | exact Ne.symm (by assumption))) | (with_reducible refine' Kp.get (by assumption) ?_ (by first | assumption | exact Ne.symm (by assumption))) | (with_reducible apply Same.get (by assumption))); done)))
  | ((with_reducible apply q_dNInI); (focus ((repeat first | (with_reducible exact upd_same) | (with_reducible assumption) | (with_reducible apply upd_new (by assumption)) | (with_reducible apply upd_other (by first | assumption | exact Ne.symm (by assumption))) | (with_reducible refine' Kp.get (by assumption) ?_ (by first | assumption | exact Ne.symm (by assumption))) | (with_reducible apply Same.get (by assumption))); done)))
  | ((with_reducible apply q_bmL); (focus ((repeat first | (with_reducible exact upd_same) | (with_reducible assumption) | (with_reducible apply upd_new (by assumption)) | (with_reducible apply upd_other (by first | assumption | exact Ne.symm (by assumption))) | (with_reducible refine' Kp.get (by assumption) ?_ (by first | assumption | exact Ne.symm (by assumption))) | (with_reducible apply Same.get (by assumption))); done)))
  | ((with_reducible apply q_bmL0); (focus ((repeat first | (with_reducible exact upd_same) | (with_reducible assumption) | (with_reducible apply upd_new (by assumption)) | (with_reducible apply upd_other (by first | assumption | exact Ne.symm (by assumption))) | (with_reducible refine' Kp.get (by assumption) ?_ (by first | assumption | exact Ne.symm (by assumption))) | (with_reducible apply Same.get (by assumption))); done)))
  | ((with_reducible apply q_ixLt); (focus ((repeat first | (with_reducible exact upd_same) | (with_reducible assumption) | (with_reducible apply upd_new (by assumption)) | (with_reducible apply upd_other (by first | assumption | exact Ne.symm (by assumption))) | (with_reducible refine' Kp.get (by assumption) ?_ (by first | assumption | exact Ne.symm (by assumption))) | (with_reducible apply Same.get (by assumption))); done)); (focus (exact rfl)))
  | ((with_reducible apply q_ixTt); (focus ((repeat first | (with_reducible exact upd_same) | (with_reducible assumption) | (with_reducible apply upd_new (by assumption)) | (with_reducible apply upd_other (by first | assumption | exact Ne.symm (by assumption))) | (with_reducible refine' Kp.get (by assumption) ?_ (by first | assumption | exact Ne.symm (by assumption))) | (with_reducible apply Same.get (by assumption))); done)); (focus (exact rfl)))
  | ((with_reducible apply q_lenLt); (focus ((repeat first | (with_reducible exact upd_same) | (with_reducible assumption) | (with_reducible apply upd_new (by assumption)) | (with_reducible apply upd_other (by first | assumption | exact Ne.symm (by assumption))) | (with_reducible refine' Kp.get (by assumption) ?_ (by first | assumption | exact Ne.symm (by assumption))) | (with_reducible apply Same.get (by assumption))); done)))
  | ((with_reducible apply q_lenTt); (focus ((repeat first | (with_reducible exact upd_same) | (with_reducible assumption) | (with_reducible apply upd_new (by assumption)) | (with_reducible apply upd_other (by first | assumption | exact Ne.symm (by assumption))) | (with_reducible refine' Kp.get (by assumption) ?_ (by first | assumption | exact Ne.symm (by assumption))) | (with_reducible apply Same.get (by assumption))); done)))
  | ((with_reducible apply q_append); (focus ((repeat first | (with_reducible exact upd_same) | (with_reducible assumption) | (with_reducible apply upd_new (by assumption)) | (with_reducible apply upd_other (by first | assumption | exact Ne.symm (by assumption))) | (with_reducible refine' Kp.get (by assumption) ?_ (by first | assumption | exact Ne.symm (by assumption))) | (with_reducible apply Same.get (by assumption))); done)); (focus ((first | (exact Nat.lt_of_ble_eq_true rfl) | (simp only [List.length_append, List.length_cons, List.length_nil, List.length_map]; exact small1000 (by omega))))))
  | ((with_reducible apply q_setL); (focus ((repeat first | (with_reducible exact upd_same) | (with_reducible assumption) | (with_reducible apply upd_new (by assumption)) | (with_reducible apply upd_other (by first | assumption | exact Ne.symm (by assumption))) | (with_reducible refine' Kp.get (by assumption) ?_ (by first | assumption | exact Ne.symm (by assumption))) | (with_reducible apply Same.get (by assumption))); done)); (focus (exact rfl)))
  | with_reducible refine q_ifNT ?_
  | with_reducible refine q_ifNF ?_
  | with_reducible refine q_andNT ?_
  | with_reducible refine q_andNF ?_
  | with_reducible refine q_orNT ?_
  | with_reducible refine q_orNF ?_
  | with_reducible refine q_bKNT ?_
  | with_reducible refine q_bKNF ?_))
def top (i : Nat) : Stmt := PySem.Challenge.pw_vaultbridge_k10_sheet.main.body.getD i (.Pass ⟨0, 0, 0, 0⟩)
abbrev s__wall : Stmt := top 0
theorem sc__wall : FnScope ["k"] ["k"] (defScope s__wall) := ⟨rfl, rfl, rfl, by decide +kernel, rfl, by decide +kernel, by decide +kernel⟩
abbrev s_Sheet_init : Stmt := inClass (top 7) 0
theorem sc_Sheet_init : FnScope ["self", "config", "side", "account", "token", "amount"] ["self", "config", "side"] (defScope s_Sheet_init) := ⟨rfl, rfl, rfl, by decide +kernel, rfl, by decide +kernel, by decide +kernel⟩
abbrev s_Sheet_copy : Stmt := inClass (top 7) 1
theorem sc_Sheet_copy : FnScope ["self", "other"] ["self"] (defScope s_Sheet_copy) := ⟨rfl, rfl, rfl, by decide +kernel, rfl, by decide +kernel, by decide +kernel⟩
abbrev s_Sheet_balance : Stmt := inClass (top 7) 2
theorem sc_Sheet_balance : FnScope ["self", "account", "token"] ["self", "account", "token"] (defScope s_Sheet_balance) := ⟨rfl, rfl, rfl, by decide +kernel, rfl, by decide +kernel, by decide +kernel⟩
abbrev s_Sheet_vault : Stmt := inClass (top 7) 3
theorem sc_Sheet_vault : FnScope ["self", "token"] ["self", "token"] (defScope s_Sheet_vault) := ⟨rfl, rfl, rfl, by decide +kernel, rfl, by decide +kernel, by decide +kernel⟩
abbrev s_Sheet_bonded : Stmt := inClass (top 7) 4
theorem sc_Sheet_bonded : FnScope ["self", "guard", "token"] ["self", "guard", "token"] (defScope s_Sheet_bonded) := ⟨rfl, rfl, rfl, by decide +kernel, rfl, by decide +kernel, by decide +kernel⟩
abbrev s_Sheet_bonders : Stmt := inClass (top 7) 5
theorem sc_Sheet_bonders : FnScope ["self", "token"] ["self", "token"] (defScope s_Sheet_bonders) := ⟨rfl, rfl, rfl, by decide +kernel, rfl, by decide +kernel, by decide +kernel⟩
abbrev s_Sheet_circulating : Stmt := inClass (top 7) 6
theorem sc_Sheet_circulating : FnScope ["self", "token", "balances", "bonds"] ["self", "token"] (defScope s_Sheet_circulating) := ⟨rfl, rfl, rfl, by decide +kernel, rfl, by decide +kernel, by decide +kernel⟩
abbrev s_Sheet_move : Stmt := inClass (top 7) 7
theorem sc_Sheet_move : FnScope ["self", "sender", "receiver", "token", "amount"] ["self", "sender", "receiver", "token", "amount"] (defScope s_Sheet_move) := ⟨rfl, rfl, rfl, by decide +kernel, rfl, by decide +kernel, by decide +kernel⟩
abbrev s_Sheet_lock : Stmt := inClass (top 7) 8
theorem sc_Sheet_lock : FnScope ["self", "account", "token", "units", "amount"] ["self", "account", "token", "units"] (defScope s_Sheet_lock) := ⟨rfl, rfl, rfl, by decide +kernel, rfl, by decide +kernel, by decide +kernel⟩
abbrev s_Sheet_release : Stmt := inClass (top 7) 9
theorem sc_Sheet_release : FnScope ["self", "account", "token", "units", "amount"] ["self", "account", "token", "units"] (defScope s_Sheet_release) := ⟨rfl, rfl, rfl, by decide +kernel, rfl, by decide +kernel, by decide +kernel⟩
abbrev s_Sheet_mint : Stmt := inClass (top 7) 10
theorem sc_Sheet_mint : FnScope ["self", "account", "token", "units"] ["self", "account", "token", "units"] (defScope s_Sheet_mint) := ⟨rfl, rfl, rfl, by decide +kernel, rfl, by decide +kernel, by decide +kernel⟩
abbrev s_Sheet_burn : Stmt := inClass (top 7) 11
theorem sc_Sheet_burn : FnScope ["self", "account", "token", "units"] ["self", "account", "token", "units"] (defScope s_Sheet_burn) := ⟨rfl, rfl, rfl, by decide +kernel, rfl, by decide +kernel, by decide +kernel⟩
abbrev s_Sheet_bond : Stmt := inClass (top 7) 12
theorem sc_Sheet_bond : FnScope ["self", "guard", "token", "amount"] ["self", "guard", "token", "amount"] (defScope s_Sheet_bond) := ⟨rfl, rfl, rfl, by decide +kernel, rfl, by decide +kernel, by decide +kernel⟩
abbrev s_Sheet_unbond : Stmt := inClass (top 7) 13
theorem sc_Sheet_unbond : FnScope ["self", "guard", "token", "amount"] ["self", "guard", "token", "amount"] (defScope s_Sheet_unbond) := ⟨rfl, rfl, rfl, by decide +kernel, rfl, by decide +kernel, by decide +kernel⟩
abbrev s_copied : Stmt := top 8
theorem sc_copied : FnScope ["table", "token"] ["table"] (defScope s_copied) := ⟨rfl, rfl, rfl, by decide +kernel, rfl, by decide +kernel, by decide +kernel⟩
abbrev s_held : Stmt := top 9
theorem sc_held : FnScope ["table", "token", "name"] ["table", "token", "name"] (defScope s_held) := ⟨rfl, rfl, rfl, by decide +kernel, rfl, by decide +kernel, by decide +kernel⟩
abbrev s_put : Stmt := top 10
theorem sc_put : FnScope ["table", "token", "name", "amount", "rows"] ["table", "token", "name", "amount"] (defScope s_put) := ⟨rfl, rfl, rfl, by decide +kernel, rfl, by decide +kernel, by decide +kernel⟩
abbrev s_draw : Stmt := top 11
theorem sc_draw : FnScope ["table", "token", "name", "amount"] ["table", "token", "name", "amount"] (defScope s_draw) := ⟨rfl, rfl, rfl, by decide +kernel, rfl, by decide +kernel, by decide +kernel⟩
abbrev s_is_integer : Stmt := top 18
theorem sc_is_integer : FnScope ["value"] ["value"] (defScope s_is_integer) := ⟨rfl, rfl, rfl, by decide +kernel, rfl, by decide +kernel, by decide +kernel⟩
abbrev s_is_at_least : Stmt := top 19
theorem sc_is_at_least : FnScope ["value", "least"] ["value", "least"] (defScope s_is_at_least) := ⟨rfl, rfl, rfl, by decide +kernel, rfl, by decide +kernel, by decide +kernel⟩
abbrev s_is_text : Stmt := top 20
theorem sc_is_text : FnScope ["value", "char", "code"] ["value"] (defScope s_is_text) := ⟨rfl, rfl, rfl, by decide +kernel, rfl, by decide +kernel, by decide +kernel⟩
abbrev s_is_short_text : Stmt := top 21
theorem sc_is_short_text : FnScope ["value", "most"] ["value", "most"] (defScope s_is_short_text) := ⟨rfl, rfl, rfl, by decide +kernel, rfl, by decide +kernel, by decide +kernel⟩
abbrev s_is_account : Stmt := top 22
theorem sc_is_account : FnScope ["value"] ["value"] (defScope s_is_account) := ⟨rfl, rfl, rfl, by decide +kernel, rfl, by decide +kernel, by decide +kernel⟩
abbrev s_is_side : Stmt := top 23
theorem sc_is_side : FnScope ["value"] ["value"] (defScope s_is_side) := ⟨rfl, rfl, rfl, by decide +kernel, rfl, by decide +kernel, by decide +kernel⟩
abbrev s_is_set : Stmt := top 25
theorem sc_is_set : FnScope ["value", "found", "part"] ["value"] (defScope s_is_set) := ⟨rfl, rfl, rfl, by decide +kernel, rfl, by decide +kernel, by decide +kernel⟩
abbrev s_is_pair : Stmt := top 26
theorem sc_is_pair : FnScope ["part"] ["part"] (defScope s_is_pair) := ⟨rfl, rfl, rfl, by decide +kernel, rfl, by decide +kernel, by decide +kernel⟩
abbrev s_Config_init : Stmt := inClass (top 30) 0
theorem sc_Config_init : FnScope ["self", "tokens", "balances", "guards", "depth", "window", "delay", "bundle", "row"] ["self", "tokens", "balances", "guards", "depth", "window", "delay", "bundle"] (defScope s_Config_init) := ⟨rfl, rfl, rfl, by decide +kernel, rfl, by decide +kernel, by decide +kernel⟩
abbrev s_Config_token_names : Stmt := inClass (top 30) 1
theorem sc_Config_token_names : FnScope ["self"] ["self"] (defScope s_Config_token_names) := ⟨rfl, rfl, rfl, by decide +kernel, rfl, by decide +kernel, by decide +kernel⟩
abbrev s_Config_check_token : Stmt := inClass (top 30) 2
theorem sc_Config_check_token : FnScope ["self", "token"] ["self", "token"] (defScope s_Config_check_token) := ⟨rfl, rfl, rfl, by decide +kernel, rfl, by decide +kernel, by decide +kernel⟩
abbrev s_Config_home : Stmt := inClass (top 30) 3
theorem sc_Config_home : FnScope ["self", "token"] ["self", "token"] (defScope s_Config_home) := ⟨rfl, rfl, rfl, by decide +kernel, rfl, by decide +kernel, by decide +kernel⟩
abbrev s_Config_scale : Stmt := inClass (top 30) 4
theorem sc_Config_scale : FnScope ["self", "token"] ["self", "token"] (defScope s_Config_scale) := ⟨rfl, rfl, rfl, by decide +kernel, rfl, by decide +kernel, by decide +kernel⟩
abbrev s_Config_limit : Stmt := inClass (top 30) 5
theorem sc_Config_limit : FnScope ["self", "token"] ["self", "token"] (defScope s_Config_limit) := ⟨rfl, rfl, rfl, by decide +kernel, rfl, by decide +kernel, by decide +kernel⟩
abbrev s_Config_large : Stmt := inClass (top 30) 6
theorem sc_Config_large : FnScope ["self", "token"] ["self", "token"] (defScope s_Config_large) := ⟨rfl, rfl, rfl, by decide +kernel, rfl, by decide +kernel, by decide +kernel⟩
abbrev s_Config_opening : Stmt := inClass (top 30) 7
theorem sc_Config_opening : FnScope ["self", "side", "row"] ["self", "side"] (defScope s_Config_opening) := ⟨rfl, rfl, rfl, by decide +kernel, rfl, by decide +kernel, by decide +kernel⟩
abbrev s_Config_guards : Stmt := inClass (top 30) 8
theorem sc_Config_guards : FnScope ["self"] ["self"] (defScope s_Config_guards) := ⟨rfl, rfl, rfl, by decide +kernel, rfl, by decide +kernel, by decide +kernel⟩
abbrev s_Config_depth : Stmt := inClass (top 30) 9
theorem sc_Config_depth : FnScope ["self"] ["self"] (defScope s_Config_depth) := ⟨rfl, rfl, rfl, by decide +kernel, rfl, by decide +kernel, by decide +kernel⟩
abbrev s_Config_window : Stmt := inClass (top 30) 10
theorem sc_Config_window : FnScope ["self"] ["self"] (defScope s_Config_window) := ⟨rfl, rfl, rfl, by decide +kernel, rfl, by decide +kernel, by decide +kernel⟩
abbrev s_Config_delay : Stmt := inClass (top 30) 11
theorem sc_Config_delay : FnScope ["self"] ["self"] (defScope s_Config_delay) := ⟨rfl, rfl, rfl, by decide +kernel, rfl, by decide +kernel, by decide +kernel⟩
abbrev s_Config_bundle : Stmt := inClass (top 30) 12
theorem sc_Config_bundle : FnScope ["self"] ["self"] (defScope s_Config_bundle) := ⟨rfl, rfl, rfl, by decide +kernel, rfl, by decide +kernel, by decide +kernel⟩
abbrev s_check_list : Stmt := top 31
theorem sc_check_list : FnScope ["name", "value"] ["name", "value"] (defScope s_check_list) := ⟨rfl, rfl, rfl, by decide +kernel, rfl, by decide +kernel, by decide +kernel⟩
abbrev s_check_least : Stmt := top 32
theorem sc_check_least : FnScope ["name", "value", "least"] ["name", "value", "least"] (defScope s_check_least) := ⟨rfl, rfl, rfl, by decide +kernel, rfl, by decide +kernel, by decide +kernel⟩
abbrev s_check_token_row : Stmt := top 33
theorem sc_check_token_row : FnScope ["row", "name", "home", "scale", "limit", "large"] ["row"] (defScope s_check_token_row) := ⟨rfl, rfl, rfl, by decide +kernel, rfl, by decide +kernel, by decide +kernel⟩
abbrev s_check_balance_row : Stmt := top 34
theorem sc_check_balance_row : FnScope ["row", "tokens", "account", "token", "amount"] ["row", "tokens"] (defScope s_check_balance_row) := ⟨rfl, rfl, rfl, by decide +kernel, rfl, by decide +kernel, by decide +kernel⟩
abbrev s_L_pot : Stmt := top 36
theorem sc_L_pot : FnScope ["script", "seed", "cell"] ["script"] (defScope s_L_pot) := ⟨rfl, rfl, rfl, by decide +kernel, rfl, by decide +kernel, by decide +kernel⟩
abbrev s_L_next : Stmt := top 37
theorem sc_L_next : FnScope ["pot", "limit", "mixed", "cell", "found"] ["pot", "limit"] (defScope s_L_next) := ⟨rfl, rfl, rfl, by decide +kernel, rfl, by decide +kernel, by decide +kernel⟩
abbrev s_L_is_int : Stmt := top 38
theorem sc_L_is_int : FnScope ["value"] ["value"] (defScope s_L_is_int) := ⟨rfl, rfl, rfl, by decide +kernel, rfl, by decide +kernel, by decide +kernel⟩
abbrev s_L_same : Stmt := top 39
theorem sc_L_same : FnScope ["found", "value", "k"] ["found", "value"] (defScope s_L_same) := ⟨rfl, rfl, rfl, by decide +kernel, rfl, by decide +kernel, by decide +kernel⟩
abbrev s_L_set : Stmt := top 40
theorem sc_L_set : FnScope ["pot", "most", "names", "found", "k"] ["pot", "most"] (defScope s_L_set) := ⟨rfl, rfl, rfl, by decide +kernel, rfl, by decide +kernel, by decide +kernel⟩
abbrev s_L_config : Stmt := top 41
theorem sc_L_config : FnScope ["pot", "tokens", "name", "balances", "account", "guards", "token"] ["pot"] (defScope s_L_config) := ⟨rfl, rfl, rfl, by decide +kernel, rfl, by decide +kernel, by decide +kernel⟩
abbrev s_L_made : Stmt := top 42
theorem sc_L_made : FnScope ["parts"] ["parts"] (defScope s_L_made) := ⟨rfl, rfl, rfl, by decide +kernel, rfl, by decide +kernel, by decide +kernel⟩
abbrev s_L_do : Stmt := top 43
theorem sc_L_do : FnScope ["sheet", "kind", "one", "other", "token", "amount", "e"] ["sheet", "kind", "one", "other", "token", "amount"] (defScope s_L_do) := ⟨rfl, rfl, rfl, by decide +kernel, rfl, by decide +kernel, by decide +kernel⟩
abbrev s_L_due : Stmt := top 44
theorem sc_L_due : FnScope ["table", "kind", "one", "other", "token", "amount", "big"] ["table", "kind", "one", "other", "token", "amount"] (defScope s_L_due) := ⟨rfl, rfl, rfl, by decide +kernel, rfl, by decide +kernel, by decide +kernel⟩
abbrev s_L_right : Stmt := top 45
theorem sc_L_right : FnScope ["parts", "sheet", "table", "token", "names", "bonds", "amounts", "account"] ["parts", "sheet", "table"] (defScope s_L_right) := ⟨rfl, rfl, rfl, by decide +kernel, rfl, by decide +kernel, by decide +kernel⟩
abbrev s_law : Stmt := top 46
theorem sc_law : FnScope ["script", "pot", "parts", "side", "sheet", "table", "row", "kept", "place", "k", "token", "kind", "one", "other", "held_v", "amount", "due", "found"] ["script"] (defScope s_law) := ⟨rfl, rfl, rfl, by decide +kernel, rfl, by decide +kernel, by decide +kernel⟩
structure Txt (K : PySem.W.Frag) (mg : Str → Option Value) where
  f__wall : Addr
  d__wall : FuncData
  F__wall : Fun K "_wall" "_wall" s__wall f__wall d__wall
  b__wall : Binds K d__wall ["k"] []
  g__wall : mg "_wall" = some (.ref f__wall)
  f_Sheet_init : Addr
  d_Sheet_init : FuncData
  F_Sheet_init : Fun K "__init__" "Sheet.__init__" s_Sheet_init f_Sheet_init d_Sheet_init
  b_Sheet_init : Binds K d_Sheet_init ["self", "config", "side"] []
  f_Sheet_copy : Addr
  d_Sheet_copy : FuncData
  F_Sheet_copy : Fun K "copy" "Sheet.copy" s_Sheet_copy f_Sheet_copy d_Sheet_copy
  b_Sheet_copy : Binds K d_Sheet_copy ["self"] []
  f_Sheet_balance : Addr
  d_Sheet_balance : FuncData
  F_Sheet_balance : Fun K "balance" "Sheet.balance" s_Sheet_balance f_Sheet_balance d_Sheet_balance
  b_Sheet_balance : Binds K d_Sheet_balance ["self", "account", "token"] []
  f_Sheet_vault : Addr
  d_Sheet_vault : FuncData
  F_Sheet_vault : Fun K "vault" "Sheet.vault" s_Sheet_vault f_Sheet_vault d_Sheet_vault
  b_Sheet_vault : Binds K d_Sheet_vault ["self", "token"] []
  f_Sheet_bonded : Addr
  d_Sheet_bonded : FuncData
  F_Sheet_bonded : Fun K "bonded" "Sheet.bonded" s_Sheet_bonded f_Sheet_bonded d_Sheet_bonded
  b_Sheet_bonded : Binds K d_Sheet_bonded ["self", "guard", "token"] []
  f_Sheet_bonders : Addr
  d_Sheet_bonders : FuncData
  F_Sheet_bonders : Fun K "bonders" "Sheet.bonders" s_Sheet_bonders f_Sheet_bonders d_Sheet_bonders
  b_Sheet_bonders : Binds K d_Sheet_bonders ["self", "token"] []
  f_Sheet_circulating : Addr
  d_Sheet_circulating : FuncData
  F_Sheet_circulating : Fun K "circulating" "Sheet.circulating" s_Sheet_circulating f_Sheet_circulating d_Sheet_circulating
  b_Sheet_circulating : Binds K d_Sheet_circulating ["self", "token"] []
  f_Sheet_move : Addr
  d_Sheet_move : FuncData
  F_Sheet_move : Fun K "move" "Sheet.move" s_Sheet_move f_Sheet_move d_Sheet_move
  b_Sheet_move : Binds K d_Sheet_move ["self", "sender", "receiver", "token", "amount"] []
  f_Sheet_lock : Addr
  d_Sheet_lock : FuncData
  F_Sheet_lock : Fun K "lock" "Sheet.lock" s_Sheet_lock f_Sheet_lock d_Sheet_lock
  b_Sheet_lock : Binds K d_Sheet_lock ["self", "account", "token", "units"] []
  f_Sheet_release : Addr
  d_Sheet_release : FuncData
  F_Sheet_release : Fun K "release" "Sheet.release" s_Sheet_release f_Sheet_release d_Sheet_release
  b_Sheet_release : Binds K d_Sheet_release ["self", "account", "token", "units"] []
  f_Sheet_mint : Addr
  d_Sheet_mint : FuncData
  F_Sheet_mint : Fun K "mint" "Sheet.mint" s_Sheet_mint f_Sheet_mint d_Sheet_mint
  b_Sheet_mint : Binds K d_Sheet_mint ["self", "account", "token", "units"] []
  f_Sheet_burn : Addr
  d_Sheet_burn : FuncData
  F_Sheet_burn : Fun K "burn" "Sheet.burn" s_Sheet_burn f_Sheet_burn d_Sheet_burn
  b_Sheet_burn : Binds K d_Sheet_burn ["self", "account", "token", "units"] []
  f_Sheet_bond : Addr
  d_Sheet_bond : FuncData
  F_Sheet_bond : Fun K "bond" "Sheet.bond" s_Sheet_bond f_Sheet_bond d_Sheet_bond
  b_Sheet_bond : Binds K d_Sheet_bond ["self", "guard", "token", "amount"] []
  f_Sheet_unbond : Addr
  d_Sheet_unbond : FuncData
  F_Sheet_unbond : Fun K "unbond" "Sheet.unbond" s_Sheet_unbond f_Sheet_unbond d_Sheet_unbond
  b_Sheet_unbond : Binds K d_Sheet_unbond ["self", "guard", "token", "amount"] []
  f_copied : Addr
  d_copied : FuncData
  F_copied : Fun K "copied" "copied" s_copied f_copied d_copied
  b_copied : Binds K d_copied ["table"] []
  g_copied : mg "copied" = some (.ref f_copied)
  f_held : Addr
  d_held : FuncData
  F_held : Fun K "held" "held" s_held f_held d_held
  b_held : Binds K d_held ["table", "token", "name"] []
  g_held : mg "held" = some (.ref f_held)
  f_put : Addr
  d_put : FuncData
  F_put : Fun K "put" "put" s_put f_put d_put
  b_put : Binds K d_put ["table", "token", "name", "amount"] []
  g_put : mg "put" = some (.ref f_put)
  f_draw : Addr
  d_draw : FuncData
  F_draw : Fun K "draw" "draw" s_draw f_draw d_draw
  b_draw : Binds K d_draw ["table", "token", "name", "amount"] []
  g_draw : mg "draw" = some (.ref f_draw)
  f_is_integer : Addr
  d_is_integer : FuncData
  F_is_integer : Fun K "is_integer" "is_integer" s_is_integer f_is_integer d_is_integer
  b_is_integer : Binds K d_is_integer ["value"] []
  g_is_integer : mg "is_integer" = some (.ref f_is_integer)
  f_is_at_least : Addr
  d_is_at_least : FuncData
  F_is_at_least : Fun K "is_at_least" "is_at_least" s_is_at_least f_is_at_least d_is_at_least
  b_is_at_least : Binds K d_is_at_least ["value", "least"] []
  g_is_at_least : mg "is_at_least" = some (.ref f_is_at_least)
  f_is_text : Addr
  d_is_text : FuncData
  F_is_text : Fun K "is_text" "is_text" s_is_text f_is_text d_is_text
  b_is_text : Binds K d_is_text ["value"] []
  g_is_text : mg "is_text" = some (.ref f_is_text)
  f_is_short_text : Addr
  d_is_short_text : FuncData
  F_is_short_text : Fun K "is_short_text" "is_short_text" s_is_short_text f_is_short_text d_is_short_text
  b_is_short_text : Binds K d_is_short_text ["value", "most"] []
  g_is_short_text : mg "is_short_text" = some (.ref f_is_short_text)
  f_is_account : Addr
  d_is_account : FuncData
  F_is_account : Fun K "is_account" "is_account" s_is_account f_is_account d_is_account
  b_is_account : Binds K d_is_account ["value"] []
  g_is_account : mg "is_account" = some (.ref f_is_account)
  f_is_side : Addr
  d_is_side : FuncData
  F_is_side : Fun K "is_side" "is_side" s_is_side f_is_side d_is_side
  b_is_side : Binds K d_is_side ["value"] []
  g_is_side : mg "is_side" = some (.ref f_is_side)
  f_is_set : Addr
  d_is_set : FuncData
  F_is_set : Fun K "is_set" "is_set" s_is_set f_is_set d_is_set
  b_is_set : Binds K d_is_set ["value"] []
  g_is_set : mg "is_set" = some (.ref f_is_set)
  f_is_pair : Addr
  d_is_pair : FuncData
  F_is_pair : Fun K "is_pair" "is_pair" s_is_pair f_is_pair d_is_pair
  b_is_pair : Binds K d_is_pair ["part"] []
  g_is_pair : mg "is_pair" = some (.ref f_is_pair)
  f_Config_init : Addr
  d_Config_init : FuncData
  F_Config_init : Fun K "__init__" "Config.__init__" s_Config_init f_Config_init d_Config_init
  f_Config_token_names : Addr
  d_Config_token_names : FuncData
  F_Config_token_names : Fun K "token_names" "Config.token_names" s_Config_token_names f_Config_token_names d_Config_token_names
  b_Config_token_names : Binds K d_Config_token_names ["self"] []
  f_Config_check_token : Addr
  d_Config_check_token : FuncData
  F_Config_check_token : Fun K "check_token" "Config.check_token" s_Config_check_token f_Config_check_token d_Config_check_token
  b_Config_check_token : Binds K d_Config_check_token ["self", "token"] []
  f_Config_home : Addr
  d_Config_home : FuncData
  F_Config_home : Fun K "home" "Config.home" s_Config_home f_Config_home d_Config_home
  b_Config_home : Binds K d_Config_home ["self", "token"] []
  f_Config_scale : Addr
  d_Config_scale : FuncData
  F_Config_scale : Fun K "scale" "Config.scale" s_Config_scale f_Config_scale d_Config_scale
  b_Config_scale : Binds K d_Config_scale ["self", "token"] []
  f_Config_limit : Addr
  d_Config_limit : FuncData
  F_Config_limit : Fun K "limit" "Config.limit" s_Config_limit f_Config_limit d_Config_limit
  b_Config_limit : Binds K d_Config_limit ["self", "token"] []
  f_Config_large : Addr
  d_Config_large : FuncData
  F_Config_large : Fun K "large" "Config.large" s_Config_large f_Config_large d_Config_large
  b_Config_large : Binds K d_Config_large ["self", "token"] []
  f_Config_opening : Addr
  d_Config_opening : FuncData
  F_Config_opening : Fun K "opening" "Config.opening" s_Config_opening f_Config_opening d_Config_opening
  b_Config_opening : Binds K d_Config_opening ["self", "side"] []
  f_Config_guards : Addr
  d_Config_guards : FuncData
  F_Config_guards : Fun K "guards" "Config.guards" s_Config_guards f_Config_guards d_Config_guards
  b_Config_guards : Binds K d_Config_guards ["self"] []
  f_Config_depth : Addr
  d_Config_depth : FuncData
  F_Config_depth : Fun K "depth" "Config.depth" s_Config_depth f_Config_depth d_Config_depth
  b_Config_depth : Binds K d_Config_depth ["self"] []
  f_Config_window : Addr
  d_Config_window : FuncData
  F_Config_window : Fun K "window" "Config.window" s_Config_window f_Config_window d_Config_window
  b_Config_window : Binds K d_Config_window ["self"] []
  f_Config_delay : Addr
  d_Config_delay : FuncData
  F_Config_delay : Fun K "delay" "Config.delay" s_Config_delay f_Config_delay d_Config_delay
  b_Config_delay : Binds K d_Config_delay ["self"] []
  f_Config_bundle : Addr
  d_Config_bundle : FuncData
  F_Config_bundle : Fun K "bundle" "Config.bundle" s_Config_bundle f_Config_bundle d_Config_bundle
  b_Config_bundle : Binds K d_Config_bundle ["self"] []
  f_check_list : Addr
  d_check_list : FuncData
  F_check_list : Fun K "check_list" "check_list" s_check_list f_check_list d_check_list
  b_check_list : Binds K d_check_list ["name", "value"] []
  g_check_list : mg "check_list" = some (.ref f_check_list)
  f_check_least : Addr
  d_check_least : FuncData
  F_check_least : Fun K "check_least" "check_least" s_check_least f_check_least d_check_least
  b_check_least : Binds K d_check_least ["name", "value", "least"] []
  g_check_least : mg "check_least" = some (.ref f_check_least)
  f_check_token_row : Addr
  d_check_token_row : FuncData
  F_check_token_row : Fun K "check_token_row" "check_token_row" s_check_token_row f_check_token_row d_check_token_row
  b_check_token_row : Binds K d_check_token_row ["row"] []
  g_check_token_row : mg "check_token_row" = some (.ref f_check_token_row)
  f_check_balance_row : Addr
  d_check_balance_row : FuncData
  F_check_balance_row : Fun K "check_balance_row" "check_balance_row" s_check_balance_row f_check_balance_row d_check_balance_row
  b_check_balance_row : Binds K d_check_balance_row ["row", "tokens"] []
  g_check_balance_row : mg "check_balance_row" = some (.ref f_check_balance_row)
  f_L_pot : Addr
  d_L_pot : FuncData
  F_L_pot : Fun K "_law_pot" "_law_pot" s_L_pot f_L_pot d_L_pot
  b_L_pot : Binds K d_L_pot ["script"] []
  g_L_pot : mg "_law_pot" = some (.ref f_L_pot)
  f_L_next : Addr
  d_L_next : FuncData
  F_L_next : Fun K "_law_next" "_law_next" s_L_next f_L_next d_L_next
  b_L_next : Binds K d_L_next ["pot", "limit"] []
  g_L_next : mg "_law_next" = some (.ref f_L_next)
  f_L_is_int : Addr
  d_L_is_int : FuncData
  F_L_is_int : Fun K "_law_is_int" "_law_is_int" s_L_is_int f_L_is_int d_L_is_int
  b_L_is_int : Binds K d_L_is_int ["value"] []
  g_L_is_int : mg "_law_is_int" = some (.ref f_L_is_int)
  f_L_same : Addr
  d_L_same : FuncData
  F_L_same : Fun K "_law_same" "_law_same" s_L_same f_L_same d_L_same
  b_L_same : Binds K d_L_same ["found", "value"] []
  g_L_same : mg "_law_same" = some (.ref f_L_same)
  f_L_set : Addr
  d_L_set : FuncData
  F_L_set : Fun K "_law_set" "_law_set" s_L_set f_L_set d_L_set
  b_L_set : Binds K d_L_set ["pot", "most"] []
  g_L_set : mg "_law_set" = some (.ref f_L_set)
  f_L_config : Addr
  d_L_config : FuncData
  F_L_config : Fun K "_law_config" "_law_config" s_L_config f_L_config d_L_config
  b_L_config : Binds K d_L_config ["pot"] []
  g_L_config : mg "_law_config" = some (.ref f_L_config)
  f_L_made : Addr
  d_L_made : FuncData
  F_L_made : Fun K "_law_made" "_law_made" s_L_made f_L_made d_L_made
  b_L_made : Binds K d_L_made ["parts"] []
  g_L_made : mg "_law_made" = some (.ref f_L_made)
  f_L_do : Addr
  d_L_do : FuncData
  F_L_do : Fun K "_law_do" "_law_do" s_L_do f_L_do d_L_do
  b_L_do : Binds K d_L_do ["sheet", "kind", "one", "other", "token", "amount"] []
  g_L_do : mg "_law_do" = some (.ref f_L_do)
  f_L_due : Addr
  d_L_due : FuncData
  F_L_due : Fun K "_law_due" "_law_due" s_L_due f_L_due d_L_due
  b_L_due : Binds K d_L_due ["table", "kind", "one", "other", "token", "amount"] []
  g_L_due : mg "_law_due" = some (.ref f_L_due)
  f_L_right : Addr
  d_L_right : FuncData
  F_L_right : Fun K "_law_right" "_law_right" s_L_right f_L_right d_L_right
  b_L_right : Binds K d_L_right ["parts", "sheet", "table"] []
  g_L_right : mg "_law_right" = some (.ref f_L_right)
  f_law : Addr
  d_law : FuncData
  F_law : Fun K "law" "law" s_law f_law d_law
  b_law : Binds K d_law ["script"] []
  g_law : mg "law" = some (.ref f_law)
  kb_Config_init : KBn K d_Config_init ["self", "tokens", "balances", "guards", "depth", "window", "delay", "bundle"] 1 ["tokens", "balances", "guards", "depth", "window", "delay", "bundle"] (fun us ws => us ++ ws) (fun vs zs => vs ++ zs)
  C_BridgeError : Addr
  g_BridgeError : mg "BridgeError" = some (.ref C_BridgeError)
  xe_BridgeError : PySem.W.excIn K C_BridgeError [.type "ValueError", .type "Exception", .type "BaseException", .type "object"] "ValueError.__new__" = true
  ke_BridgeError : PySem.W.keepIn K (.ref C_BridgeError) = true
  be_BridgeError : PySem.W.subIn K (.ref C_BridgeError) (.type "BaseException") = some true
  te_BridgeError : PySem.W.typeIn K (.ref C_BridgeError) = some (.type "type")
  ie_BridgeError : PySem.W.isClsIn K C_BridgeError = true
  se_BridgeError : PySem.W.subIn K (.ref C_BridgeError) (.ref C_BridgeError) = some true
  hd_BridgeError : PySem.W.hasDictIn K C_BridgeError = true
  C_InvalidArgument : Addr
  g_InvalidArgument : mg "InvalidArgument" = some (.ref C_InvalidArgument)
  xe_InvalidArgument : PySem.W.excIn K C_InvalidArgument [.type "ValueError", .type "Exception", .type "BaseException", .type "object"] "ValueError.__new__" = true
  ke_InvalidArgument : PySem.W.keepIn K (.ref C_InvalidArgument) = true
  be_InvalidArgument : PySem.W.subIn K (.ref C_InvalidArgument) (.type "BaseException") = some true
  te_InvalidArgument : PySem.W.typeIn K (.ref C_InvalidArgument) = some (.type "type")
  ie_InvalidArgument : PySem.W.isClsIn K C_InvalidArgument = true
  se_InvalidArgument : PySem.W.subIn K (.ref C_InvalidArgument) (.ref C_InvalidArgument) = some true
  ue_InvalidArgument : PySem.W.subIn K (.ref C_InvalidArgument) (.ref C_BridgeError) = some true
  C_UnknownToken : Addr
  g_UnknownToken : mg "UnknownToken" = some (.ref C_UnknownToken)
  xe_UnknownToken : PySem.W.excIn K C_UnknownToken [.type "ValueError", .type "Exception", .type "BaseException", .type "object"] "ValueError.__new__" = true
  ke_UnknownToken : PySem.W.keepIn K (.ref C_UnknownToken) = true
  be_UnknownToken : PySem.W.subIn K (.ref C_UnknownToken) (.type "BaseException") = some true
  te_UnknownToken : PySem.W.typeIn K (.ref C_UnknownToken) = some (.type "type")
  ie_UnknownToken : PySem.W.isClsIn K C_UnknownToken = true
  se_UnknownToken : PySem.W.subIn K (.ref C_UnknownToken) (.ref C_UnknownToken) = some true
  ue_UnknownToken : PySem.W.subIn K (.ref C_UnknownToken) (.ref C_BridgeError) = some true
  C_NotEnoughBalance : Addr
  g_NotEnoughBalance : mg "NotEnoughBalance" = some (.ref C_NotEnoughBalance)
  xe_NotEnoughBalance : PySem.W.excIn K C_NotEnoughBalance [.type "ValueError", .type "Exception", .type "BaseException", .type "object"] "ValueError.__new__" = true
  ke_NotEnoughBalance : PySem.W.keepIn K (.ref C_NotEnoughBalance) = true
  be_NotEnoughBalance : PySem.W.subIn K (.ref C_NotEnoughBalance) (.type "BaseException") = some true
  te_NotEnoughBalance : PySem.W.typeIn K (.ref C_NotEnoughBalance) = some (.type "type")
  ie_NotEnoughBalance : PySem.W.isClsIn K C_NotEnoughBalance = true
  se_NotEnoughBalance : PySem.W.subIn K (.ref C_NotEnoughBalance) (.ref C_NotEnoughBalance) = some true
  hg_NotEnoughBalance : PySem.W.findIn K (.ref C_NotEnoughBalance) "__getattribute__" = some (some (.builtin "BaseException.__getattribute__"))
  hk_NotEnoughBalance : PySem.W.findIn K (.ref C_NotEnoughBalance) "__getattr__" = some none
  hd_NotEnoughBalance : PySem.W.hasDictIn K C_NotEnoughBalance = true
  ha_NotEnoughBalance : PySem.W.findIn K (.ref C_NotEnoughBalance) "__class__" = some (some (.builtin "object.__class__"))
  hm_NotEnoughBalance : PySem.W.mroIn K C_NotEnoughBalance (.type "object") = some true
  hn_NotEnoughBalance : PySem.W.specialIn K (.builtin "object.__class__") "__get__" = some (some (.builtin "getset_descriptor.__get__"))
  ht_NotEnoughBalance : PySem.W.takesIn K (.builtin "object.__class__") = some true
  ue_NotEnoughBalance : PySem.W.subIn K (.ref C_NotEnoughBalance) (.ref C_BridgeError) = some true
  C_Sheet : Addr
  cl_Sheet : Cls K C_Sheet
  g_Sheet : mg "Sheet" = some (.ref C_Sheet)
  mk_Sheet : Mk K C_Sheet f_Sheet_init
  m_Sheet_copy : Meth K C_Sheet "copy" f_Sheet_copy
  m_Sheet_balance : Meth K C_Sheet "balance" f_Sheet_balance
  m_Sheet_vault : Meth K C_Sheet "vault" f_Sheet_vault
  m_Sheet_bonded : Meth K C_Sheet "bonded" f_Sheet_bonded
  m_Sheet_bonders : Meth K C_Sheet "bonders" f_Sheet_bonders
  m_Sheet_circulating : Meth K C_Sheet "circulating" f_Sheet_circulating
  m_Sheet_move : Meth K C_Sheet "move" f_Sheet_move
  m_Sheet_lock : Meth K C_Sheet "lock" f_Sheet_lock
  m_Sheet_release : Meth K C_Sheet "release" f_Sheet_release
  m_Sheet_mint : Meth K C_Sheet "mint" f_Sheet_mint
  m_Sheet_burn : Meth K C_Sheet "burn" f_Sheet_burn
  m_Sheet_bond : Meth K C_Sheet "bond" f_Sheet_bond
  m_Sheet_unbond : Meth K C_Sheet "unbond" f_Sheet_unbond
  n_Sheet_config : NoAttr K C_Sheet "_config"
  n_Sheet_side : NoAttr K C_Sheet "_side"
  n_Sheet_balances : NoAttr K C_Sheet "_balances"
  n_Sheet_bonds : NoAttr K C_Sheet "_bonds"
  n_Sheet_vaults : NoAttr K C_Sheet "_vaults"
  C_Config : Addr
  cl_Config : Cls K C_Config
  g_Config : mg "Config" = some (.ref C_Config)
  mk_Config : Mk K C_Config f_Config_init
  m_Config_token_names : Meth K C_Config "token_names" f_Config_token_names
  m_Config_check_token : Meth K C_Config "check_token" f_Config_check_token
  m_Config_home : Meth K C_Config "home" f_Config_home
  m_Config_scale : Meth K C_Config "scale" f_Config_scale
  m_Config_limit : Meth K C_Config "limit" f_Config_limit
  m_Config_large : Meth K C_Config "large" f_Config_large
  m_Config_opening : Meth K C_Config "opening" f_Config_opening
  m_Config_guards : Meth K C_Config "guards" f_Config_guards
  m_Config_depth : Meth K C_Config "depth" f_Config_depth
  m_Config_window : Meth K C_Config "window" f_Config_window
  m_Config_delay : Meth K C_Config "delay" f_Config_delay
  m_Config_bundle : Meth K C_Config "bundle" f_Config_bundle
  n_Config_tokens : NoAttr K C_Config "_tokens"
  n_Config_balances : NoAttr K C_Config "_balances"
  n_Config_guards : NoAttr K C_Config "_guards"
  n_Config_depth : NoAttr K C_Config "_depth"
  n_Config_window : NoAttr K C_Config "_window"
  n_Config_delay : NoAttr K C_Config "_delay"
  n_Config_bundle : NoAttr K C_Config "_bundle"
  t_ACCOUNT_LENGTH : Tok
  c_ACCOUNT_LENGTH : mg "ACCOUNT_LENGTH" = some (.int 20 t_ACCOUNT_LENGTH)
  t_BARRED_CODE : Tok
  c_BARRED_CODE : mg "BARRED_CODE" = some (.int 37 t_BARRED_CODE)
  t_FIRST_CODE : Tok
  c_FIRST_CODE : mg "FIRST_CODE" = some (.int 32 t_FIRST_CODE)
  t_LAST_CODE : Tok
  c_LAST_CODE : mg "LAST_CODE" = some (.int 126 t_LAST_CODE)
  t_MOST_IN_BUNDLE : Tok
  c_MOST_IN_BUNDLE : mg "MOST_IN_BUNDLE" = some (.int 8 t_MOST_IN_BUNDLE)
  a_SIDES : Addr
  c_SIDES : mg "SIDES" = some (.ref a_SIDES)
  k_SIDES : SqTK K a_SIDES [.str "west", .str "east"]
  t_TOKEN_LENGTH : Tok
  c_TOKEN_LENGTH : mg "TOKEN_LENGTH" = some (.int 12 t_TOKEN_LENGTH)
  z_abs : mg "abs" = none
  z_all : mg "all" = none
  z_bool : mg "bool" = none
  z_dict : mg "dict" = none
  z_int : mg "int" = none
  z_isinstance : mg "isinstance" = none
  z_len : mg "len" = none
  z_list : mg "list" = none
  z_min : mg "min" = none
  z_ord : mg "ord" = none
  z_range : mg "range" = none
  z_str : mg "str" = none
  z_sum : mg "sum" = none
  z_tuple : mg "tuple" = none
theorem Txt.ec_NotEnoughBalance {K : PySem.W.Frag} {mg : Str → Option Value} (T : Txt K mg) : ExcC K T.C_NotEnoughBalance := ⟨T.hg_NotEnoughBalance, T.hk_NotEnoughBalance, T.be_NotEnoughBalance, T.hd_NotEnoughBalance, T.ha_NotEnoughBalance, T.hn_NotEnoughBalance, T.ht_NotEnoughBalance, T.hm_NotEnoughBalance⟩
theorem Txt.hi_NotEnoughBalance {K : PySem.W.Frag} {mg : Str → Option Value} (T : Txt K mg) : PySem.W.kitOne K (.ref T.C_NotEnoughBalance) (.ref T.C_NotEnoughBalance) = some true := by
  unfold PySem.W.kitOne
  rw [if_pos (beq_self_eq_true _)]
theorem Txt.ex_NotEnoughBalance {K : PySem.W.Frag} {mg : Str → Option Value} (T : Txt K mg) : PySem.W.exmOne K (.ref T.C_NotEnoughBalance) (.ref T.C_BridgeError) = some true := PySem.W.exm_ref T.be_BridgeError T.hd_BridgeError T.te_BridgeError T.ue_NotEnoughBalance
/-! the law's own numbers -/
def PotAt (H : Hp) (p l : Addr) : Prop := ∃ (ns : List Int) (i c s : Int), H p = some (.lst [.ref l, .int i, .int c, .int s]) ∧ H l = some (.lst (ns.map V.int)) ∧ 0 ≤ i ∧ 0 ≤ c ∧ 0 ≤ s ∧ s < 2147483647 ∧ ns.length ≤ 1000 ∧ p ≠ l
theorem PotAt.at {H : Hp} {p l : Addr} (h : PotAt H p l) : ∃ o, H p = some o := by
  obtain ⟨ns, i, c, s, h1, _⟩ := h; exact ⟨_, h1⟩
theorem PotAt.atl {H : Hp} {p l : Addr} (h : PotAt H p l) : ∃ o, H l = some o := by
  obtain ⟨ns, i, c, s, _, h1, _⟩ := h; exact ⟨_, h1⟩
theorem PotAt.same {H H' : Hp} {p l : Addr} (h : PotAt H p l) (e : Same H H') : PotAt H' p l := by
  obtain ⟨ns, i, c, s, h1, h2, r⟩ := h; exact ⟨ns, i, c, s, e _ _ h1, e _ _ h2, r⟩
theorem PotAt.upd {H : Hp} {p l a : Addr} {o : HO} (h : PotAt H p l) (n1 : a ≠ p) (n2 : a ≠ l) : PotAt (L2.upd H a o) p l := by
  obtain ⟨ns, i, c, s, h1, h2, r⟩ := h; exact ⟨ns, i, c, s, upd_other n1.symm h1, upd_other n2.symm h2, r⟩
theorem PotAt.new {H : Hp} {p l a : Addr} {o : HO} (h : PotAt H p l) (n : H a = none) : PotAt (L2.upd H a o) p l := by
  obtain ⟨ns, i, c, s, h1, h2, r⟩ := h; exact ⟨ns, i, c, s, upd_new n h1, upd_new n h2, r⟩
theorem PotAt.nep {H : Hp} {p l a : Addr} (h : PotAt H p l) (n : H a = none) : a ≠ p := by
  obtain ⟨o, h1⟩ := h.at; exact (ne_of_none h1 n).symm
theorem PotAt.nel {H : Hp} {p l a : Addr} (h : PotAt H p l) (n : H a = none) : a ≠ l := by
  obtain ⟨o, h1⟩ := h.atl; exact (ne_of_none h1 n).symm
def sp_pot (K : PySem.W.Frag) : Sp := fun vs H Q _ => ∃ (a : Addr) (ns : List Int), vs = [.ref a] ∧ SqL K H a (ns.map V.int) ∧ ns.length ≤ 63 ∧ ∀ (p l : Addr) (H' : Hp), H p = none → H l = none → PotAt H' p l → Same H H' → Q (.ref p) H'
def sp_next : Sp := fun vs H Q _ => ∃ (p l : Addr) (n : Int), vs = [.ref p, .int n] ∧ PotAt H p l ∧ 0 < n ∧ n < 1000000000 ∧ ∀ (r : Int) (H' : Hp), 0 ≤ r → r < n → PotAt H' p l → Kp p H H' → Q (.int r) H'
section
variable {P : Program} {w : World} {K : PySem.W.Frag} {mg : Str → Option Value} {base : Heap}
theorem map_at {ns : List Int} {i : Nat} {x : V} (h : (ns.map V.int)[i]? = some x) : ∃ z, x = .int z := by
  rw [List.getElem?_map] at h
  cases e : ns[i]? with
  | none => rw [e] at h; cases h
  | some z => rw [e] at h; exact ⟨z, (Option.some.inj h).symm⟩
theorem ok_L_pot (T : Txt K mg) : FnOk P w K mg base CX0 1 T.f_L_pot T.d_L_pot ["script"] (sp_pot K) := by
  refine T.F_L_pot.ok sc_L_pot (fun vs H Q E h => ?_) (fun cdv A outer s H vs Q E hr h => ?_)
  · obtain ⟨a, ns, rfl, _⟩ := h; rfl
  · obtain ⟨a, ns, rfl, hS, hlen, k⟩ := h
    refine ⟨_, (pss_cons (ps_set (i := 1) sc_L_pot.nd rfl (Or.inl rfl) pe_int)
      (pss_cons (ps_for PassesOwn.never rfl (pi_list (pv 0)) (pg_name (i := 2) sc_L_pot.nd rfl (Or.inl rfl))
        (pss_one (ps_set (i := 1) sc_L_pot.nd rfl (Or.inl rfl) (pe_op op_mod (pe_callTy cq_int1 (by rfl) T.z_int boot_int (pa_cons (pe_op op_add (pe_op op_mul (pv 1) pe_int) (pv 2)) pa_nil)) pe_int))))
      (pss_one (ps_ret (pe_lst (pa_cons (pe_callTy cq_listOf (by rfl) T.z_list boot_list (pa_cons (pv 0) pa_nil)) (pa_cons pe_int (pa_cons pe_int (pa_cons (pv 1) pa_nil))))))))), ?_⟩
    (dsimp only [cxOf, Cx.nox, Cx.wish, L2.start, List.map, List.length, List.replicate, List.cons_append, List.nil_append, List.append_eq, Nat.reduceSub, Nat.reduceAdd])
    walk_at "my_rd"
    refine q_forL hS (fun i σ H2 => ∃ (z : Int) (v : Option V), σ = [some (.ref a), some (.int z), v] ∧ H2 = H ∧ 0 ≤ z ∧ z < 2147483647) ⟨1, none, rfl, rfl, by omega, by omega⟩ (fun i σ H2 _ ⟨_, _, _, e, _⟩ => e ▸ hS) ?_ ?_
    · rintro i x σ H2 hx ⟨z, v, rfl, rfl, h0, h1⟩
      obtain ⟨y, rfl⟩ := map_at hx
      walk_at "my_rd"
      exact ⟨_, _, rfl, rfl, Int.emod_nonneg _ (by decide), Int.emod_lt_of_pos _ (by decide)⟩
    · rintro σ H2 ⟨z, v, rfl, rfl, h0, h1⟩
      walk_at "my_rd"
      refine q_listL hS fun l nl => ?_
      walk_at "my_rd"
      refine q_lstK (Nat.le_of_ble_eq_true rfl) fun p np => ?_
      walk_at "my_rd"
      refine k p l _ (upd_none_back np) nl ⟨ns, 0, 0, z, upd_same, upd_new np upd_same, by omega, by omega, h0, h1, by omega, ?_⟩ (Same.new (Same.new (Same.refl _) nl) (upd_none_back np))
      exact upd_none_ne np
theorem ok_L_next (T : Txt K mg) : FnOk P w K mg base CX0 1 T.f_L_next T.d_L_next ["pot", "limit"] sp_next := by
  refine T.F_L_next.ok sc_L_next (fun vs H Q E h => ?_) (fun cdv A outer s H vs Q E hr h => ?_)
  · obtain ⟨p, l, n, rfl, _⟩ := h; rfl
  · obtain ⟨p, l, n, rfl, ⟨ns, i, c, z, hp, hl, hi, hc, hz0, hz1, hns, hpl⟩, hn, hn2, k⟩ := h
    refine ⟨_, (Evl.pss_cut (ps_if (PW.pt (pw_and (pt_cmpR op_eq (pe_ix ix_list (pv 0) pe_int (fun _ _ => rfl)) pe_int (nomark _)) (pw_and1 (pt_cmpR op_lt (pe_ix ix_list (pv 0) pe_int (fun _ _ => rfl)) (pe_callB cq_len (by rfl) T.z_len boot_len (pa_cons (pe_ix ix_list (pv 0) pe_int (fun _ _ => rfl)) pa_nil)) (nomark _))))) (pss_cons (ps_set (i := 3) sc_L_next.nd rfl (Or.inl rfl) (pe_callB cq_abs (by rfl) T.z_abs boot_abs (pa_cons (pe_callTy cq_int1 (by rfl) T.z_int boot_int (pa_cons (pe_ix ix_list (pe_ix ix_list (pv 0) pe_int (fun _ _ => rfl)) (pe_ix ix_list (pv 0) pe_int (fun _ _ => rfl)) (fun _ _ => rfl)) pa_nil)) pa_nil)))
      (pss_cons (ps_asg (pe_op op_add (pe_ix ix_list (pv 0) pe_int (fun _ _ => rfl)) pe_int) (pg_sub (pv 0) pe_int set_list))
      (pss_cons (ps_if (pt_cmpR op_lt (pv 3) (pe_op op_pow pe_int pe_int) (nomark _)) (pss_one (ps_ret (pe_op op_mod (pe_callTy cq_int1 (by rfl) T.z_int boot_int (pa_cons (pv 3) pa_nil)) (pv 1)))) pss_nil)
      (pss_one (ps_asg (pv 3) (pg_sub (pv 0) pe_int set_list)))))) pss_nil)
      (pss_cons (ps_if (pt_cmpR op_gt (pe_ix ix_list (pv 0) pe_int (fun _ _ => rfl)) pe_int (nomark _)) (pss_cons (ps_set (i := 4) sc_L_next.nd rfl (Or.inl rfl) (pe_op op_mod (pe_callTy cq_int1 (by rfl) T.z_int boot_int (pa_cons (pe_ix ix_list (pv 0) pe_int (fun _ _ => rfl)) pa_nil)) (pv 1)))
      (pss_cons (ps_asg (pe_op op_fdiv (pe_ix ix_list (pv 0) pe_int (fun _ _ => rfl)) (pv 1)) (pg_sub (pv 0) pe_int set_list))
      (pss_one (ps_ret (pv 4))))) pss_nil)
      (pss_cons (ps_asg (pe_op op_mod (pe_callTy cq_int1 (by rfl) T.z_int boot_int (pa_cons (pe_op op_add (pe_op op_mul (pe_ix ix_list (pv 0) pe_int (fun _ _ => rfl)) pe_int) pe_int) pa_nil)) pe_int) (pg_sub (pv 0) pe_int set_list))
      (pss_cons (ps_set (i := 2) sc_L_next.nd rfl (Or.inl rfl) (pe_op op_mod (pe_callTy cq_int1 (by rfl) T.z_int boot_int (pa_cons (pe_op op_add (pe_op op_mul (pe_ix ix_list (pv 0) pe_int (fun _ _ => rfl)) pe_int) (pe_op op_fdiv (pe_ix ix_list (pv 0) pe_int (fun _ _ => rfl)) pe_int)) pa_nil)) pe_int))
      (pss_one (ps_ret (pe_op op_mod (pe_callTy cq_int1 (by rfl) T.z_int boot_int (pa_cons (pv 2) pa_nil)) (pv 1)))))))), ?_⟩
    (dsimp only [cxOf, Cx.nox, Cx.wish, L2.start, List.map, List.length, List.replicate, List.cons_append, List.nil_append, List.append_eq, Nat.reduceSub, Nat.reduceAdd])
    refine q_cut (Mid := fun σ' H' => ∃ (cell : Option V) (i c : Int), σ' = [some (.ref p), some (.int n), none, cell, none] ∧ H' p = some (.lst [.ref l, .int i, .int c, .int z]) ∧ H' l = some (.lst (ns.map V.int)) ∧ 0 ≤ i ∧ 0 ≤ c ∧ Kp p H H') ?_ ?_
    · walk_at "my_rd"
      refine q_and2 (fun h1 => ?_) (fun _ => ?_)
      · walk_at "my_rd"
        refine q_if2 (fun h2 => ?_) (fun _ => ?_)
        · have h2 := dec_t h2
          rw [List.length_map] at h2
          have hi2 : i.toNat < ns.length := by omega
          have ha : atI (ns.map V.int) i = some (V.int ns[i.toNat]) := at_int (n := i.toNat) (by omega) (by rw [List.getElem?_map, List.getElem?_eq_getElem hi2]; rfl)
          walk_at "my_rd"
          refine q_ixLt hl ha ?_
          walk_at "my_rd"
          refine q_if2 (fun h3 => ?_) (fun h3 => ?_)
          · walk_at "my_rd"
            refine k _ _ (Int.emod_nonneg _ (by omega)) (Int.emod_lt_of_pos _ hn) ⟨ns, i + 1, c, z, upd_same, upd_other hpl.symm hl, by omega, hc, hz0, hz1, hns, hpl⟩ (Kp.upd Kp.refl)
          · walk_at "my_rd"
            refine ⟨_, i + 1, _, rfl, upd_same, upd_other hpl.symm (upd_other hpl.symm hl), by omega, ?_, Kp.upd (Kp.upd Kp.refl)⟩
            split <;> omega
        · walk_at "my_rd"
          exact ⟨none, i, c, rfl, hp, hl, hi, hc, Kp.refl⟩
      · walk_at "my_rd"
        exact ⟨none, i, c, rfl, hp, hl, hi, hc, Kp.refl⟩
    · clear hp hl hi hc i c
      rintro σ' H2 ⟨cell, i, c, rfl, hp, hl, hi, hc, kp⟩
      walk_at "my_rd"
      refine q_if2 (fun h1 => ?_) (fun h1 => ?_)
      · have h1 := dec_t h1
        walk_at "my_rd"
        refine k _ _ (Int.emod_nonneg _ (by omega)) (Int.emod_lt_of_pos _ hn) ⟨ns, i, c / n, z, upd_same, upd_other hpl.symm hl, hi, Int.ediv_nonneg hc (by omega), hz0, hz1, hns, hpl⟩ (Kp.upd kp)
      · walk_at "my_rd"
        refine k _ _ (Int.emod_nonneg _ (by omega)) (Int.emod_lt_of_pos _ hn) ⟨ns, i, c, _, upd_same, upd_other hpl.symm hl, hi, hc, Int.emod_nonneg _ (by decide), Int.emod_lt_of_pos _ (by decide), hns, hpl⟩ (Kp.upd kp)
end

/-! sets of guards as data: names with weights -/
abbrev Gs := List (Str × Int)
def wsum (gs : Gs) : Int := (gs.map (·.2)).sum
structure PairsAt (H : Hp) (xs : List V) (gs : Gs) : Prop where
  len : xs.length = gs.length
  at_ : ∀ (i : Nat) (g : Str × Int), gs[i]? = some g → ∃ a, xs[i]? = some (.ref a) ∧ H a = some (.tup [.str g.1, .int g.2])
theorem PairsAt.nil {H : Hp} : PairsAt H [] [] := ⟨rfl, fun i g h => by simp at h⟩
theorem PairsAt.mono {H H' : Hp} {xs : List V} {gs : Gs} (h : PairsAt H xs gs) (e : ∀ b ys, H b = some (.tup ys) → H' b = some (.tup ys)) : PairsAt H' xs gs :=
  ⟨h.len, fun i g hg => by obtain ⟨a, h1, h2⟩ := h.at_ i g hg; exact ⟨a, h1, e _ _ h2⟩⟩
theorem PairsAt.same {H H' : Hp} {xs : List V} {gs : Gs} (h : PairsAt H xs gs) (e : Same H H') : PairsAt H' xs gs := h.mono fun b ys q => e b _ q
theorem PairsAt.item {H : Hp} {xs : List V} {gs : Gs} (h : PairsAt H xs gs) {i : Nat} {x : V} (hx : xs[i]? = some x) : ∃ g a, gs[i]? = some g ∧ x = .ref a ∧ H a = some (.tup [.str g.1, .int g.2]) := by
  have hi : i < gs.length := by rw [← h.len]; exact (List.getElem?_eq_some_iff.mp hx).1
  obtain ⟨a, h1, h2⟩ := h.at_ i gs[i] (List.getElem?_eq_getElem hi)
  exact ⟨gs[i], a, List.getElem?_eq_getElem hi, Option.some.inj (hx.symm.trans h1), h2⟩
theorem PairsAt.snoc {H : Hp} {xs : List V} {gs : Gs} {a : Addr} {g : Str × Int} (h : PairsAt H xs gs) (ha : H a = some (.tup [.str g.1, .int g.2])) : PairsAt H (xs ++ [.ref a]) (gs ++ [g]) := by
  refine ⟨by rw [List.length_append, List.length_append, h.len]; rfl, fun i g' hg => ?_⟩
  by_cases hi : i < gs.length
  · rw [List.getElem?_append_left hi] at hg
    rw [List.getElem?_append_left (by rw [h.len]; exact hi)]
    exact h.at_ i g' hg
  · have hi' : i = gs.length := by
      have := (List.getElem?_eq_some_iff.mp hg).1
      rw [List.length_append] at this
      simp at this
      omega
    subst hi'
    rw [List.getElem?_append_right (Nat.le_refl _)] at hg
    simp at hg
    subst hg
    refine ⟨a, ?_, ha⟩
    rw [List.getElem?_append_right (by rw [h.len]; exact Nat.le_refl _), h.len]
    simp
theorem take_snoc {α : Type} {l : List α} {i : Nat} {x : α} (h : l[i]? = some x) : l.take (i + 1) = l.take i ++ [x] := by
  rw [List.take_add_one, h]; rfl
theorem wsum_snoc (gs : Gs) (g : Str × Int) : wsum (gs ++ [g]) = wsum gs + g.2 := by
  unfold wsum; rw [List.map_append, List.sum_append]; simp
theorem wsum_nonneg {gs : Gs} (h : ∀ g ∈ gs, 1 ≤ g.2) : 0 ≤ wsum gs := by
  induction gs with
  | nil => exact Int.le_refl _
  | cons g r ih =>
    have h1 := h g (List.mem_cons_self ..)
    have h2 := ih fun x hx => h x (List.mem_cons_of_mem _ hx)
    show 0 ≤ (g.2 :: r.map (·.2)).sum
    rw [List.sum_cons]
    have h3 : 0 ≤ (r.map (·.2)).sum := h2
    omega
theorem wsum_pos {gs : Gs} (h : ∀ g ∈ gs, 1 ≤ g.2) (hn : gs ≠ []) : 1 ≤ wsum gs := by
  cases gs with
  | nil => exact absurd rfl hn
  | cons g r =>
    have h1 := h g (List.mem_cons_self ..)
    have h2 : 0 ≤ wsum r := wsum_nonneg fun x hx => h x (List.mem_cons_of_mem _ hx)
    show 1 ≤ (g.2 :: r.map (·.2)).sum
    rw [List.sum_cons]
    have h3 : 0 ≤ (r.map (·.2)).sum := h2
    omega
theorem wsum_le {gs : Gs} {m : Int} (h : ∀ g ∈ gs, g.2 ≤ m) : wsum gs ≤ m * gs.length := by
  induction gs with
  | nil => show (0 : Int) ≤ m * 0; omega
  | cons g r ih =>
    have h1 := h g (List.mem_cons_self ..)
    have h2 := ih fun x hx => h x (List.mem_cons_of_mem _ hx)
    have e : wsum (g :: r) = g.2 + wsum r := by show (g.2 :: r.map (·.2)).sum = _; rw [List.sum_cons]; rfl
    rw [e, List.length_cons, Int.natCast_add, Int.mul_add]
    omega
def thr (gs : Gs) : Int := wsum gs * 2 / 3 + 1
/-- a set's total, its bounds -/
structure GsOk (gs : Gs) : Prop where
  pos : ∀ g ∈ gs, 1 ≤ g.2
  top : ∀ g ∈ gs, g.2 ≤ 1000000
  few : gs.length ≤ 1000
theorem GsOk.lo {gs : Gs} (h : GsOk gs) : 0 ≤ wsum gs := wsum_nonneg h.pos
theorem GsOk.hi {gs : Gs} (h : GsOk gs) : wsum gs ≤ 1000000000 := by
  have h1 := wsum_le h.top
  have h2 := h.few
  omega
theorem GsOk.take {gs : Gs} (h : GsOk gs) (i : Nat) : GsOk (gs.take i) :=
  ⟨fun g hg => h.pos g (List.mem_of_mem_take hg), fun g hg => h.top g (List.mem_of_mem_take hg), by rw [List.length_take]; have := h.few; omega⟩
def sp_total (K : PySem.W.Frag) : Sp := fun vs H Q _ => ∃ (a : Addr) (xs : List V) (gs : Gs), vs = [.ref a] ∧ SqT K H a xs ∧ PairsAt H xs gs ∧ GsOk gs ∧ ∀ H', Same H H' → Q (.int (wsum gs)) H'
def sp_threshold (K : PySem.W.Frag) : Sp := fun vs H Q _ => ∃ (a : Addr) (xs : List V) (gs : Gs), vs = [.ref a] ∧ SqT K H a xs ∧ PairsAt H xs gs ∧ GsOk gs ∧ ∀ H', Same H H' → Q (.int (thr gs)) H'
def sp_minority (K : PySem.W.Frag) : Sp := fun vs H Q _ => ∃ (a : Addr) (xs : List V) (gs : Gs), vs = [.ref a] ∧ SqT K H a xs ∧ PairsAt H xs gs ∧ GsOk gs ∧ ∀ H', Same H H' → Q (.int (wsum gs - thr gs + 1)) H'

/-! the law's sets -/
def nm (k : Nat) : Str := ("g" : Str) ++ (toString (k : Int) : Str)
def allNames : List Str := (List.range 7).map nm
theorem allNames_nodup : allNames.Nodup := by decide +kernel
theorem allNames_len : allNames.length = 7 := rfl
/-- a drawn set -/
structure Drawn (gs : Gs) : Prop where
  ne : gs ≠ []
  few : gs.length ≤ 7
  nd : (gs.map (·.1)).Nodup
  nms : ∀ g ∈ gs, g.1 ∈ allNames
  pos : ∀ g ∈ gs, 1 ≤ g.2
  top : ∀ g ∈ gs, g.2 ≤ 50
theorem Drawn.ok {gs : Gs} (h : Drawn gs) : GsOk gs := ⟨h.pos, fun g hg => by have := h.top g hg; omega, by have := h.few; omega⟩
def sp_Lset : Sp := fun vs H Q _ => ∃ (p l : Addr) (m : Int), vs = [.ref p, .int m] ∧ PotAt H p l ∧ 0 < m ∧ m ≤ 7 ∧ ∀ (a : Addr) (xs : List V) (gs : Gs) (H' : Hp), H a = none → H' a = some (.tup xs) → PairsAt H' xs gs → Drawn gs → (gs.length : Int) ≤ m → PotAt H' p l → Kp p H H' → Q (.ref a) H'
theorem perm_eraseIdx {α : Type} : ∀ {l : List α} {n : Nat} {x : α}, l[n]? = some x → (x :: l.eraseIdx n).Perm l
  | [], _, _, h => by simp at h
  | a :: r, 0, x, h => by
    have e : a = x := Option.some.inj h
    subst e
    exact List.Perm.refl _
  | a :: r, n + 1, x, h => by
    have ih := perm_eraseIdx (l := r) (n := n) (x := x) h
    show (x :: a :: r.eraseIdx n).Perm (a :: r)
    exact (List.Perm.swap a x _).trans (List.Perm.cons a ih)
theorem map_erase {α β : Type} (f : α → β) : ∀ (l : List α) (n : Nat), (l.map f).eraseIdx n = (l.eraseIdx n).map f
  | [], _ => rfl
  | _ :: _, 0 => rfl
  | a :: r, n + 1 => by
    show f a :: (r.map f).eraseIdx n = f a :: (r.eraseIdx n).map f
    rw [map_erase f r n]
theorem PairsAt.updL {H : Hp} {xs zs ys : List V} {gs : Gs} {F : Addr} (h : PairsAt H xs gs) (hF : H F = some (.lst ys)) : PairsAt (upd H F (.lst zs)) xs gs :=
  h.mono fun b ws q => upd_other (ne_of q hF (by intro z; cases z)) q
theorem PairsAt.new {H : Hp} {xs : List V} {gs : Gs} {F : Addr} {o : HO} (h : PairsAt H xs gs) (hF : H F = none) : PairsAt (upd H F o) xs gs :=
  h.mono fun b ws q => upd_new hF q
theorem PairsAt.kp {H H' : Hp} {xs : List V} {gs : Gs} {p l : Addr} (h : PairsAt H xs gs) (pot : PotAt H p l) (kp : Kp p H H') : PairsAt H' xs gs :=
  h.mono fun b ws q => by
    obtain ⟨ns, i, c, s, h1, _⟩ := pot
    exact kp _ _ q (ne_of q h1 (by intro z; cases z))
theorem nm_short : ∀ k : Nat, k < 7 → (Str.ofString (toString (k : Int))).length ≤ 5 := by decide +kernel
theorem names_pop {gn ss : List Str} {x : Str} {n : Nat} (hx : ss[n]? = some x) (h : (gn ++ ss).Nodup) : ((gn ++ [x]) ++ ss.eraseIdx n).Nodup := by
  obtain ⟨hn, e⟩ := List.getElem?_eq_some_iff.mp hx
  have hp : (x :: ss.eraseIdx n).Perm ss := perm_eraseIdx hx
  rw [List.append_assoc]
  exact (List.Perm.append_left gn hp).nodup_iff.mpr h
section
variable {P : Program} {w : World} {K : PySem.W.Frag} {mg : Str → Option Value} {base : Heap}
theorem ok_L_set (T : Txt K mg) : FnOk P w K mg base CX0 2 T.f_L_set T.d_L_set ["pot", "most"] sp_Lset := by
  refine T.F_L_set.ok sc_L_set (fun vs H Q E h => ?_) (fun cdv A outer s H vs Q E hr h => ?_)
  · obtain ⟨p, l, m, rfl, _⟩ := h; rfl
  · obtain ⟨p, l, m, rfl, pot, hm, hm7, k⟩ := h
    refine ⟨_, (pss_cons (ps_setLc (i := 2) (own := [("k", 4)]) (g := (gName 4)) (tt := tYes) (te := (tOp rAddStr (tC (.str "g")) (tCB rStrInt (tCons (tVar 4) tNil)))) rfl sc_L_set.nd rfl rfl (sw_true rfl rfl rfl (by decide +kernel)) (pi_range1 (by rfl) T.z_range (pa_cons pe_int pa_nil)) (blkOk_by (own := [("k", 4)]) (N := ["pot", "most", "names", "found", "k"]) (sc := defScope s_L_set) (by decide +kernel)) (fun _ _ _ _ _ => (pg_name (i := 4) sc_L_set.nd rfl (Or.inl rfl))) (fun _ _ _ _ _ => pts_nil) (fun _ _ _ _ _ => (pe_op oq_addStr pe_str (pe_callTy cq_strInt (by rfl) T.z_str boot_str (pa_cons (pv 4) pa_nil)))))
      (pss_cons (ps_set (i := 3) sc_L_set.nd rfl (Or.inl rfl) (pe_lst pa_nil))
      (pss_cons (ps_for PassesOwn.never rfl (pi_range1 (by rfl) T.z_range (pa_cons (pe_op op_add pe_int (pe_call (ok_L_next T) (hr.mono (by decide)) (by rfl) T.g_L_next T.F_L_next.kp T.b_L_next .nil pass0 (pa_cons (pv 0) (pa_cons (pv 1) pa_nil)))) pa_nil)) (pg_name (i := 4) sc_L_set.nd rfl (Or.inl rfl))
        (pss_one (ps_expr (pe_bm PySem.F.plainAttrs_list PySem.F.slot_list_append PySem.F.type_list_append mt_append (pv 3) (pa_cons (pe_tup (pa_cons (pe_bm PySem.F.plainAttrs_list PySem.F.slot_list_pop PySem.F.type_list_pop mt_popAt (pv 2) (pa_cons (pe_call (ok_L_next T) (hr.mono (by decide)) (by rfl) T.g_L_next T.F_L_next.kp T.b_L_next .nil pass0 (pa_cons (pv 0) (pa_cons (pe_callB cq_len (by rfl) T.z_len boot_len (pa_cons (pv 2) pa_nil)) pa_nil))) pa_nil)) (pa_cons (pe_op op_add pe_int (pe_call (ok_L_next T) (hr.mono (by decide)) (by rfl) T.g_L_next T.F_L_next.kp T.b_L_next .nil pass0 (pa_cons (pv 0) (pa_cons (pe_ix ix_list (pe_lst (pa_cons pe_int (pa_cons pe_int (pa_cons pe_int pa_nil)))) (pe_call (ok_L_next T) (hr.mono (by decide)) (by rfl) T.g_L_next T.F_L_next.kp T.b_L_next .nil pass0 (pa_cons (pv 0) (pa_cons pe_int pa_nil))) (fun _ _ => rfl)) pa_nil)))) pa_nil))) pa_nil)))))
      (pss_one (ps_ret (pe_callTy cq_tupOf (by rfl) T.z_tuple boot_tuple (pa_cons (pv 3) pa_nil))))))), ?_⟩
    (dsimp only [cxOf, Cx.nox, Cx.wish, L2.start, List.map, List.length, List.replicate, List.cons_append, List.nil_append, List.append_eq, Nat.reduceSub, Nat.reduceAdd])
    walk_at "my_rd"
    refine q_lcR ⟨by decide, by decide⟩ (fun N nN => ⟨fun i H2 => Same H H2 ∧ H2 N = some (.lst (((List.range i).map nm).map V.str)), ⟨Same.new (Same.refl _) nN, upd_same⟩, ?_, ?_⟩)
    · rintro i H2 hi ⟨sm, hD⟩
      have hi7 : i < 7 := by omega
      walk_at "my_rd"
      refine ⟨rfl, ?_⟩
      walk_at "my_rd"
      refine q_strInt (Nat.lt_of_le_of_lt (Nat.log2_le_self _) (by omega)) ?_
      refine q_addStr ?_ ?_
      · have := nm_short i hi7
        have h1 : (Str.ofString "g").length = 1 := rfl
        exact Nat.le_of_lt (small1000 (by omega))
      · walk_at "my_rd"
        refine q_accK hD (by rw [List.length_map, List.length_map, List.length_range]; exact small1000 (by omega)) ⟨Same.new sm nN, ?_⟩
        rw [upd_same, List.range_succ, List.map_append, List.map_append]
        rfl
    · rintro H2 ⟨sm, hN⟩
      have hN : H2 N = some (.lst (allNames.map V.str)) := hN
      walk_at "my_rd"
      refine q_lstK (Nat.zero_le _) fun F nF => ?_
      have nNF : N ≠ F := ne_of_none hN nF
      have hF0 : H F = none := Same.free sm nF
      have nNp : N ≠ p := pot.nep nN
      have nNl : N ≠ l := pot.nel nN
      have nFp : F ≠ p := pot.nep hF0
      have nFl : F ≠ l := pot.nel hF0
      walk_at "my_rd"
      refine ⟨p, l, m, rfl, (pot.same sm).new nF, hm, by omega, fun r H4 r0 r1 pot4 kp4 => ?_⟩
      have hN4 : H4 N = some (.lst (allNames.map V.str)) := Kp.get kp4 (upd_new nF hN) nNp
      have hF4 : H4 F = some (.lst []) := Kp.get kp4 upd_same nFp
      have kp0 : Kp p H H4 := Kp.trans (Kp.new (Same.kp sm) hF0) kp4
      walk_at "my_rd"
      refine q_forR ⟨by omega, by omega⟩ (fun i σ H5 => ∃ (ss : List Str) (xs : List V) (gs : Gs) (kv : Option V), σ = [some (.ref p), some (.int m), some (.ref N), some (.ref F), kv] ∧ H5 N = some (.lst (ss.map V.str)) ∧ H5 F = some (.lst xs) ∧ PairsAt H5 xs gs ∧ gs.length = i ∧ ss.length + i = 7 ∧ (gs.map (·.1) ++ ss).Nodup ∧ (∀ g ∈ gs, g.1 ∈ allNames) ∧ (∀ s ∈ ss, s ∈ allNames) ∧ (∀ g ∈ gs, 1 ≤ g.2) ∧ (∀ g ∈ gs, g.2 ≤ 50) ∧ PotAt H5 p l ∧ Kp p H H5)
        ⟨allNames, [], [], none, rfl, hN4, hF4, PairsAt.nil, rfl, allNames_len, allNames_nodup, by simp, fun s hs => hs, by simp, by simp, pot4, kp0⟩ ?_ ?_
      · rintro i σ H5 hi ⟨ss, xs, gs, kv, rfl, hN5, hF5, hP5, hl, hsl, hnd, hnm, hss, hpos, htop, pot5, kp5⟩
        walk_at "my_rd"
        refine ⟨p, l, _, rfl, pot5, by rw [List.length_map]; omega, by rw [List.length_map]; omega, fun r2 H6 a0 a1 pot6 kp6 => ?_⟩
        rw [List.length_map] at a1
        have hN6 : H6 N = some (.lst (ss.map V.str)) := Kp.get kp6 hN5 nNp
        have hF6 : H6 F = some (.lst xs) := Kp.get kp6 hF5 nFp
        have hP6 := hP5.kp pot5 kp6
        have hr2 : r2.toNat < ss.length := by omega
        have hx : ss[r2.toNat]? = some ss[r2.toNat] := List.getElem?_eq_getElem hr2
        walk_at "my_rd"
        refine q_popAt (n := r2.toNat) hN6 (by omega) (by rw [List.length_map]; exact hr2) (by omega) (v := .str ss[r2.toNat]) (by rw [List.getElem?_map, hx]; rfl) ?_
        rw [map_erase]
        generalize hH7 : upd H6 N (HO.lst ((ss.eraseIdx r2.toNat).map V.str)) = H7
        have hN7 : H7 N = some (.lst ((ss.eraseIdx r2.toNat).map V.str)) := by rw [← hH7]; exact upd_same
        have hF7 : H7 F = some (.lst xs) := by rw [← hH7]; exact upd_other nNF.symm hF6
        have hP7 : PairsAt H7 xs gs := by rw [← hH7]; exact hP6.updL hN6
        have pot7 : PotAt H7 p l := by rw [← hH7]; exact pot6.upd nNp nNl
        have kp7 : Kp p H H7 := by rw [← hH7]; exact Kp.new (Kp.trans kp5 kp6) nN
        walk_at "my_rd"
        refine q_lstK (by decide) fun M nM => ?_
        walk_at "my_rd"
        refine ⟨p, l, 3, rfl, pot7.new nM, by omega, by omega, fun r3 H8 b0 b1 pot8 kp8 => ?_⟩
        have hM8 : H8 M = some (.lst [.int 1, .int 4, .int 50]) := Kp.get kp8 upd_same (pot7.nep nM)
        obtain ⟨lim, hlim, l0, l1⟩ : ∃ lim : Int, atI [V.int 1, V.int 4, V.int 50] r3 = some (.int lim) ∧ 1 ≤ lim ∧ lim ≤ 50 := by
          have : r3 = 0 ∨ r3 = 1 ∨ r3 = 2 := by omega
          rcases this with rfl | rfl | rfl
          · exact ⟨1, rfl, by omega, by omega⟩
          · exact ⟨4, rfl, by omega, by omega⟩
          · exact ⟨50, rfl, by omega, by omega⟩
        walk_at "my_rd"
        refine q_ixLt hM8 hlim ?_
        walk_at "my_rd"
        refine ⟨p, l, lim, rfl, pot8, by omega, by omega, fun r4 H9 c0 c1 pot9 kp9 => ?_⟩
        have kp79 : Kp p (upd H7 M (.lst [.int 1, .int 4, .int 50])) H9 := Kp.trans kp8 kp9
        have hN9 : H9 N = some (.lst ((ss.eraseIdx r2.toNat).map V.str)) := Kp.get kp79 (upd_new nM hN7) nNp
        have hF9 : H9 F = some (.lst xs) := Kp.get kp79 (upd_new nM hF7) nFp
        have hP9 : PairsAt H9 xs gs := (hP7.new nM).kp (pot7.new nM) kp79
        have hM0 : H M = none := Kp.fresh kp7 pot.at.choose_spec nM (pot7.nep nM)
        have kp09 : Kp p H H9 := Kp.trans (Kp.new kp7 hM0) kp79
        walk_at "my_rd"
        refine q_tupK (by show 2 ≤ sizeLine; decide) fun U nU => ?_
        have hU0 : H U = none := Kp.fresh kp09 pot.at.choose_spec nU (pot9.nep nU)
        have nFU : F ≠ U := ne_of_none hF9 nU
        have nNU : N ≠ U := ne_of_none hN9 nU
        walk_at "my_rd"
        refine q_append (upd_new nU hF9) (by rw [hP9.len]; exact small1000 (by omega)) ?_
        walk_at "my_rd"
        refine ⟨ss.eraseIdx r2.toNat, xs ++ [.ref U], gs ++ [(ss[r2.toNat], 1 + r4)], _, rfl, upd_other nNF (upd_new nU hN9), upd_same, ?_, by rw [List.length_append, hl]; rfl, ?_, ?_, ?_, ?_, ?_, ?_, (pot9.new nU).upd nFp nFl, Kp.new (Kp.new kp09 hU0) hF0⟩
        · exact ((hP9.new nU).snoc (g := (ss[r2.toNat], 1 + r4)) upd_same).updL (upd_new nU hF9)
        · rw [List.length_eraseIdx_of_lt hr2]; omega
        · rw [List.map_append]
          exact names_pop hx hnd
        · intro g hg
          rcases List.mem_append.mp hg with h | h
          · exact hnm g h
          · rw [List.mem_singleton.mp h]; exact hss _ (List.mem_of_getElem? hx)
        · intro z hz
          exact hss z (List.mem_of_mem_eraseIdx hz)
        · intro g hg
          rcases List.mem_append.mp hg with h | h
          · exact hpos g h
          · rw [List.mem_singleton.mp h]; show 1 ≤ 1 + r4; omega
        · intro g hg
          rcases List.mem_append.mp hg with h | h
          · exact htop g h
          · rw [List.mem_singleton.mp h]; show 1 + r4 ≤ 50; omega
      · rintro σ H5 ⟨ss, xs, gs, kv, rfl, hN5, hF5, hP5, hl, hsl, hnd, hnm, hss, hpos, htop, pot5, kp5⟩
        walk_at "my_rd"
        refine q_tupL (sqL hF5) fun a na => ?_
        walk_at "my_rd"
        refine k a xs gs _ (Kp.fresh kp5 pot.at.choose_spec na (pot5.nep na)) upd_same (hP5.new na) ⟨?_, by omega, (List.nodup_append.mp hnd).1, hnm, hpos, htop⟩ (by omega) (pot5.new na) (Kp.new kp5 (Kp.fresh kp5 pot.at.choose_spec na (pot5.nep na)))
        rintro rfl
        simp at hl
        omega
end

/-! values as data -/
def intD : PyData → Bool
  | .int _ => true
  | _ => false
def boolD : PyData → Bool
  | .bool _ => true
  | _ => false
def strD : PyData → Bool
  | .str _ => true
  | _ => false
def tupD : PyData → Bool
  | .tuple _ => true
  | _ => false
def leastD (n : Int) : PyData → Bool
  | .int i => decide (n ≤ i)
  | _ => false
def okCode (c : Nat) : Bool := decide (32 ≤ c) && decide (c ≤ 126) && !decide (c = 37)
def textS (s : Str) : Bool := s.cps.toList.all okCode
def textD : PyData → Bool
  | .str s => textS s
  | _ => false
def shortD (m : Int) : PyData → Bool
  | .str s => textS s && (decide (1 ≤ (s.length : Int)) && decide ((s.length : Int) ≤ m))
  | _ => false
def accD : PyData → Bool := shortD 20
/-- the type of a value -/
def tyD : PyData → String
  | .none => "NoneType"
  | .bool _ => "bool"
  | .int _ => "int"
  | .str _ => "str"
  | .list _ => "list"
  | .tuple _ => "tuple"
  | .dict _ => "dict"
theorem dp_ty {K : PySem.W.Frag} {H : Hp} {v : V} {d : PyData} (h : Dp K H v d) : TyX K H v (.type (tyD d)) := by
  cases h with
  | non => exact .base .non
  | bl b => exact .base (.bl b)
  | int i => exact .base (.int i)
  | str x => exact .base (.str x)
  | lst h1 h2 =>
    rcases h1 with (h | ⟨o, h⟩) | ⟨o, its, n, h, h3, _⟩
    · exact .base (.lst h)
    · exact .base (.frz h)
    · exact .kList h h3
  | tup h1 h2 =>
    rcases h1 with (h | ⟨o, h⟩) | ⟨o, its, n, h, h3, _⟩
    · exact .base (.tup h)
    · exact .fTuple h
    · exact .kTuple h h3
def tyB (n : String) (d : PyData) : Bool := decide (tyD d = n) || (decide (n = "int") && decide (tyD d = "bool"))
theorem q_isiD {K : PySem.W.Frag} {H : Hp} {Q : VK} {v : V} {d : PyData} {n : String} {b : Bool} (h : Dp K H v d) (hk : kitB (tyD d) n = some b) (k : Q (.bl b) H) : rIsi K [v, .ty n] H Q := q_isi (dp_ty h) (kit_ty hk) k
theorem kit_int (d : PyData) : kitB (tyD d) "int" = some (intD d || boolD d) := by
  cases d <;> first | exact (by decide +kernel : kitB "NoneType" "int" = some false) | exact (by decide +kernel : kitB "bool" "int" = some true) | exact (by decide +kernel : kitB "int" "int" = some true) | exact (by decide +kernel : kitB "str" "int" = some false) | exact (by decide +kernel : kitB "list" "int" = some false) | exact (by decide +kernel : kitB "tuple" "int" = some false) | exact (by decide +kernel : kitB "dict" "int" = some false)
theorem kit_bool (d : PyData) : kitB (tyD d) "bool" = some (boolD d) := by
  cases d <;> first | exact (by decide +kernel : kitB "NoneType" "bool" = some false) | exact (by decide +kernel : kitB "bool" "bool" = some true) | exact (by decide +kernel : kitB "int" "bool" = some false) | exact (by decide +kernel : kitB "str" "bool" = some false) | exact (by decide +kernel : kitB "list" "bool" = some false) | exact (by decide +kernel : kitB "tuple" "bool" = some false) | exact (by decide +kernel : kitB "dict" "bool" = some false)
theorem kit_str (d : PyData) : kitB (tyD d) "str" = some (strD d) := by
  cases d <;> first | exact (by decide +kernel : kitB "NoneType" "str" = some false) | exact (by decide +kernel : kitB "bool" "str" = some false) | exact (by decide +kernel : kitB "int" "str" = some false) | exact (by decide +kernel : kitB "str" "str" = some true) | exact (by decide +kernel : kitB "list" "str" = some false) | exact (by decide +kernel : kitB "tuple" "str" = some false) | exact (by decide +kernel : kitB "dict" "str" = some false)
theorem kit_tuple (d : PyData) : kitB (tyD d) "tuple" = some (tupD d) := by
  cases d <;> first | exact (by decide +kernel : kitB "NoneType" "tuple" = some false) | exact (by decide +kernel : kitB "bool" "tuple" = some false) | exact (by decide +kernel : kitB "int" "tuple" = some false) | exact (by decide +kernel : kitB "str" "tuple" = some false) | exact (by decide +kernel : kitB "list" "tuple" = some false) | exact (by decide +kernel : kitB "tuple" "tuple" = some true) | exact (by decide +kernel : kitB "dict" "tuple" = some false)
mutual
theorem dp_mono {K : PySem.W.Frag} {H H' : Hp} (sm : Same H H') : ∀ {v : V} {d : PyData}, Dp K H v d → Dp K H' v d
  | _, _, .non => .non
  | _, _, .bl b => .bl b
  | _, _, .int i => .int i
  | _, _, .str x => .str x
  | _, _, .lst h1 h2 => .lst (Same.seq sm h1) (dpall_mono sm h2)
  | _, _, .tup h1 h2 => .tup (Same.sqT sm h1) (dpall_mono sm h2)
theorem dpall_mono {K : PySem.W.Frag} {H H' : Hp} (sm : Same H H') : ∀ {vs : List V} {ds : List PyData}, DpAll K H vs ds → DpAll K H' vs ds
  | _, _, .nil => .nil
  | _, _, .cons h1 h2 => .cons (dp_mono sm h1) (dpall_mono sm h2)
end
theorem dpall_len {K : PySem.W.Frag} {H : Hp} : ∀ {vs : List V} {ds : List PyData}, DpAll K H vs ds → vs.length = ds.length
  | _, _, .nil => rfl
  | _, _, .cons _ h => by rw [List.length_cons, List.length_cons, dpall_len h]
theorem dpall_get {K : PySem.W.Frag} {H : Hp} : ∀ {vs : List V} {ds : List PyData} {i : Nat} {v : V}, DpAll K H vs ds → vs[i]? = some v → ∃ d, ds[i]? = some d ∧ Dp K H v d
  | _, _, _, _, .nil, e => by simp at e
  | _, _, 0, _, .cons h _, e => by
    simp at e
    subst e
    exact ⟨_, rfl, h⟩
  | _, _, i + 1, v, .cons _ h, e => by
    obtain ⟨d, h1, h2⟩ := dpall_get h (i := i) (v := v) (by simpa using e)
    exact ⟨d, by simpa using h1, h2⟩
def Fine : PyData → Prop
  | .str s => s.length ≤ 100000
  | _ => True
/-- a def that tells something of one value -/
def sp_tell (K : PySem.W.Frag) (f : PyData → Bool) : Sp := fun vs H Q _ => ∃ (v : V) (d : PyData), vs = [v] ∧ Dp K H v d ∧ Fine d ∧ ∀ H', Same H H' → Q (.bl (f d)) H'
def sp_tell2 (K : PySem.W.Frag) (f : Int → PyData → Bool) : Sp := fun vs H Q _ => ∃ (v : V) (d : PyData) (n : Int), vs = [v, .int n] ∧ Dp K H v d ∧ Fine d ∧ ∀ H', Same H H' → Q (.bl (f n d)) H'
section
variable {P : Program} {w : World} {K : PySem.W.Frag} {mg : Str → Option Value} {base : Heap}
theorem ok_is_integer (T : Txt K mg) : FnOk P w K mg base CX0 1 T.f_is_integer T.d_is_integer ["value"] (sp_tell K intD) := by
  refine T.F_is_integer.ok sc_is_integer (fun vs H Q E h => ?_) (fun cdv A outer s H vs Q E hr h => ?_)
  · obtain ⟨v, d, rfl, _⟩ := h; rfl
  · obtain ⟨v, d, rfl, hd, _, k⟩ := h
    refine ⟨_, (pss_one (ps_ret (pe_and (pe_callB call_isi (by rfl) T.z_isinstance boot_isinstance (pa_cons (pv 0) (pa_cons (pe_bltn (v := .ty "int") (by rfl) T.z_int boot_int rfl) pa_nil))) (pe_one (pe_not (pe_callB call_isi (by rfl) T.z_isinstance boot_isinstance (pa_cons (pv 0) (pa_cons (pe_bltn (v := .ty "bool") (by rfl) T.z_bool boot_bool rfl) pa_nil)))))))), ?_⟩
    (dsimp only [cxOf, Cx.nox, Cx.wish, L2.start, List.map, List.length, List.replicate, List.cons_append, List.nil_append, List.append_eq, Nat.reduceSub, Nat.reduceAdd])
    walk_at "my_rd"
    refine q_isiD hd (kit_int d) ?_
    refine q_andV2 (fun h => ?_) (fun h => ?_)
    · walk_at "my_rd"
      refine q_isiD hd (kit_bool d) ?_
      walk_at "my_rd"
      have e : (!boolD d) = intD d := by cases d <;> first | rfl | cases h
      rw [e]
      exact k H (Same.refl _)
    · have e : false = intD d := by cases d <;> first | rfl | cases h
      rw [e]
      exact k H (Same.refl _)
theorem ok_is_at_least (T : Txt K mg) : FnOk P w K mg base CX0 2 T.f_is_at_least T.d_is_at_least ["value", "least"] (sp_tell2 K leastD) := by
  refine T.F_is_at_least.ok sc_is_at_least (fun vs H Q E h => ?_) (fun cdv A outer s H vs Q E hr h => ?_)
  · obtain ⟨v, d, n, rfl, _⟩ := h; rfl
  · obtain ⟨v, d, n, rfl, hd, hf, k⟩ := h
    refine ⟨_, (pss_one (ps_ret (pe_and (pe_call (ok_is_integer T) (hr.mono (by decide)) (by rfl) T.g_is_integer T.F_is_integer.kp T.b_is_integer .nil pass0 (pa_cons (pv 0) pa_nil)) (pe_one (pe_cmpR op_ge (pv 0) (pv 1) (nomark _)))))), ?_⟩
    (dsimp only [cxOf, Cx.nox, Cx.wish, L2.start, List.map, List.length, List.replicate, List.cons_append, List.nil_append, List.append_eq, Nat.reduceSub, Nat.reduceAdd])
    walk_at "my_rd"
    refine ⟨v, d, rfl, hd, hf, fun H1 sm => ?_⟩
    refine q_andV2 (fun h => ?_) (fun h => ?_)
    · cases hd with
      | int i =>
        walk_at "my_rd"
        exact k H1 sm
      | _ => cases h
    · have e : false = leastD n d := by cases d <;> first | rfl | cases h
      rw [e]
      exact k H1 sm
theorem ok_is_text (T : Txt K mg) : FnOk P w K mg base CX0 1 T.f_is_text T.d_is_text ["value"] (sp_tell K textD) := by
  refine T.F_is_text.ok sc_is_text (fun vs H Q E h => ?_) (fun cdv A outer s H vs Q E hr h => ?_)
  · obtain ⟨v, d, rfl, _⟩ := h; rfl
  · obtain ⟨v, d, rfl, hd, _, k⟩ := h
    refine ⟨_, (pss_cons (ps_if (pt_not (pt_val (pe_callB call_isi (by rfl) T.z_isinstance boot_isinstance (pa_cons (pv 0) (pa_cons (pe_bltn (v := .ty "str") (by rfl) T.z_str boot_str rfl) pa_nil))))) (pss_one (ps_ret pe_bl)) pss_nil)
      (pss_cons (ps_for PassesOwn.never rfl (pi_str (pv 0)) (pg_name (i := 1) sc_is_text.nd rfl (Or.inl rfl))
        (pss_cons (ps_set (i := 2) sc_is_text.nd rfl (Or.inl rfl) (pe_callB cq_ord (by rfl) T.z_ord boot_ord (pa_cons (pv 1) pa_nil)))
      (pss_one (ps_if (PW.pt (pw_or (pt_cmpR op_lt (pv 2) (pe_glob (v := .int 32) (by rfl) T.c_FIRST_CODE ⟨_, rfl⟩) (nomark _)) (pw_or (pt_cmpR op_gt (pv 2) (pe_glob (v := .int 126) (by rfl) T.c_LAST_CODE ⟨_, rfl⟩) (nomark _)) (pw_or1 (pt_cmpR op_eq (pv 2) (pe_glob (v := .int 37) (by rfl) T.c_BARRED_CODE ⟨_, rfl⟩) (nomark _)))))) (pss_one (ps_ret pe_bl)) pss_nil))))
      (pss_one (ps_ret pe_bl)))), ?_⟩
    (dsimp only [cxOf, Cx.nox, Cx.wish, L2.start, List.map, List.length, List.replicate, List.cons_append, List.nil_append, List.append_eq, Nat.reduceSub, Nat.reduceAdd])
    walk_at "my_rd"
    refine q_isiD hd (kit_str d) ?_
    walk_at "my_rd"
    cases hd with
    | str x =>
      show ifK _ _ _ _ false H
      walk_at "my_rd"
      refine q_forS (fun i σ H2 => ∃ c1 c2, σ = [some (.str x), c1, c2] ∧ H2 = H ∧ (x.cps.toList.take i).all okCode = true) ⟨_, _, rfl, rfl, rfl⟩ ?_ ?_
      · rintro i c σ H2 hc ⟨c1, c2, rfl, rfl, hall⟩
        have hc' : x.cps.toList[i]? = some c := by rw [Array.getElem?_toList]; exact hc
        have bad : okCode c = false → textD (.str x) = false := fun h => by
          show x.cps.toList.all okCode = false
          rw [List.all_eq_false]
          exact ⟨c, List.mem_of_getElem? hc', by rw [h]; exact Bool.false_ne_true⟩
        walk_at "my_rd"
        refine q_or2 (fun h => ?_) (fun h1 => ?_)
        · walk_at "my_rd"
          have h := dec_t h
          rw [← bad (by unfold okCode; rw [decide_eq_false (show ¬ 32 ≤ c by omega)]; rfl)]
          exact k _ (Same.refl _)
        · walk_at "my_rd"
          refine q_or2 (fun h => ?_) (fun h2 => ?_)
          · walk_at "my_rd"
            have h := dec_t h
            rw [← bad (by unfold okCode; rw [decide_eq_false (show ¬ c ≤ 126 by omega), Bool.and_false]; rfl)]
            exact k _ (Same.refl _)
          · walk_at "my_rd"
            refine q_if2 (fun h => ?_) (fun h3 => ?_)
            · walk_at "my_rd"
              have h := dec_t h
              rw [← bad (by unfold okCode; rw [decide_eq_true (show c = 37 by omega), Bool.and_comm]; rfl)]
              exact k _ (Same.refl _)
            · walk_at "my_rd"
              have h1 := dec_f h1
              have h2 := dec_f h2
              have h3 := dec_f h3
              refine ⟨_, _, rfl, rfl, ?_⟩
              rw [take_snoc hc', List.all_append, hall, Bool.true_and, List.all_cons, List.all_nil, Bool.and_true]
              unfold okCode
              rw [decide_eq_true (show 32 ≤ c by omega), decide_eq_true (show c ≤ 126 by omega), decide_eq_false (show ¬ c = 37 by omega)]
              rfl
      · rintro σ H2 ⟨c1, c2, rfl, rfl, hall⟩
        walk_at "my_rd"
        have e : textD (.str x) = true := by
          have e2 : x.cps.toList.take x.cps.size = x.cps.toList := List.take_of_length_le (by simp)
          rw [e2] at hall
          exact hall
        rw [← e]
        exact k _ (Same.refl _)
    | _ =>
      show ifK _ _ _ _ true H
      walk_at "my_rd"
      exact k H (Same.refl _)
theorem ok_is_short_text (T : Txt K mg) : FnOk P w K mg base CX0 2 T.f_is_short_text T.d_is_short_text ["value", "most"] (sp_tell2 K shortD) := by
  refine T.F_is_short_text.ok sc_is_short_text (fun vs H Q E h => ?_) (fun cdv A outer s H vs Q E hr h => ?_)
  · obtain ⟨v, d, n, rfl, _⟩ := h; rfl
  · obtain ⟨v, d, n, rfl, hd, hf, k⟩ := h
    refine ⟨_, (pss_one (ps_ret (pe_and (pe_call (ok_is_text T) (hr.mono (by decide)) (by rfl) T.g_is_text T.F_is_text.kp T.b_is_text .nil pass0 (pa_cons (pv 0) pa_nil)) (pe_one (pe_chain op_le op_le pe_int (pe_callB cq_lenS (by rfl) T.z_len boot_len (pa_cons (pv 0) pa_nil)) (pv 1)))))), ?_⟩
    (dsimp only [cxOf, Cx.nox, Cx.wish, L2.start, List.map, List.length, List.replicate, List.cons_append, List.nil_append, List.append_eq, Nat.reduceSub, Nat.reduceAdd])
    walk_at "my_rd"
    refine ⟨v, d, rfl, hd, hf, fun H1 sm => ?_⟩
    refine q_andV2 (fun h => ?_) (fun h => ?_)
    · cases hd with
      | str x =>
        have hx : x.length ≤ 100000 := hf
        walk_at "my_rd"
        refine q_lenS (Nat.le_trans hx (by decide)) ?_
        walk_at "my_rd"
        have e : shortD n (.str x) = (decide (1 ≤ (x.length : Int)) && decide ((x.length : Int) ≤ n)) := by
          show (textS x && _) = _
          rw [show textS x = true from h, Bool.true_and]
        refine q_ch2 (fun h1 => ?_) (fun h1 => ?_)
        · walk_at "my_rd"
          rw [h1, Bool.true_and] at e
          rw [← e]
          exact k H1 sm
        · rw [h1, Bool.false_and] at e
          rw [← e]
          exact k H1 sm
      | _ => cases h
    · have e : false = shortD n d := by
        cases d <;> first | rfl | (show false = (_ && _); rw [show textS _ = false from h]; rfl)
      rw [e]
      exact k H1 sm
theorem ok_is_account (T : Txt K mg) : FnOk P w K mg base CX0 3 T.f_is_account T.d_is_account ["value"] (sp_tell K accD) := by
  refine T.F_is_account.ok sc_is_account (fun vs H Q E h => ?_) (fun cdv A outer s H vs Q E hr h => ?_)
  · obtain ⟨v, d, rfl, _⟩ := h; rfl
  · obtain ⟨v, d, rfl, hd, hf, k⟩ := h
    refine ⟨_, (pss_one (ps_ret (pe_call (ok_is_short_text T) (hr.mono (by decide)) (by rfl) T.g_is_short_text T.F_is_short_text.kp T.b_is_short_text .nil pass0 (pa_cons (pv 0) (pa_cons (pe_glob (v := .int 20) (by rfl) T.c_ACCOUNT_LENGTH ⟨_, rfl⟩) pa_nil))))), ?_⟩
    (dsimp only [cxOf, Cx.nox, Cx.wish, L2.start, List.map, List.length, List.replicate, List.cons_append, List.nil_append, List.append_eq, Nat.reduceSub, Nat.reduceAdd])
    walk_at "my_rd"
    exact ⟨v, d, 20, rfl, hd, hf, fun H1 sm => k H1 sm⟩
end

/-! pairs and sets, told of any value -/
def pairD : PyData → Bool
  | .tuple [a, b] => accD a && leastD 1 b
  | _ => false
def nameS : PyData → Str
  | .tuple (.str s :: _) => s
  | _ => ""
def setD : PyData → Bool
  | .tuple ds => !ds.isEmpty && (ds.all pairD && decide ((ds.map nameS).Nodup))
  | _ => false
def FineP (d : PyData) : Prop := ∀ a b, d = .tuple [a, b] → Fine a ∧ Fine b
def FineS (d : PyData) : Prop := ∀ ds, d = .tuple ds → ds.length ≤ 1000 ∧ ∀ x ∈ ds, FineP x
theorem pairD_shape {d : PyData} (h : pairD d = true) : ∃ s n, d = .tuple [.str s, .int n] ∧ accD (.str s) = true ∧ 1 ≤ n := by
  unfold pairD at h
  split at h
  · rename_i a b
    rw [Bool.and_eq_true] at h
    obtain ⟨h1, h2⟩ := h
    cases a <;> try cases h1
    cases b <;> try cases h2
    exact ⟨_, _, rfl, h1, of_decide_eq_true h2⟩
  · cases h
def sp_pair (K : PySem.W.Frag) : Sp := fun vs H Q _ => ∃ (v : V) (d : PyData), vs = [v] ∧ Dp K H v d ∧ FineP d ∧ ∀ H', Same H H' → Q (.bl (pairD d)) H'
def sp_set (K : PySem.W.Frag) : Sp := fun vs H Q _ => ∃ (v : V) (d : PyData), vs = [v] ∧ Dp K H v d ∧ FineS d ∧ ∀ H', Same H H' → Q (.bl (setD d)) H'
theorem mem_names {l : List Key} {s : Str} (ks : List Str) (h : l = ks.map Sum.inr) : (Sum.inr s : Key) ∈ l ↔ s ∈ ks := by
  subst h
  constructor
  · intro m
    obtain ⟨z, hz, e⟩ := List.mem_map.mp m
    cases e
    exact hz
  · exact fun m => List.mem_map.mpr ⟨s, m, rfl⟩
section
variable {P : Program} {w : World} {K : PySem.W.Frag} {mg : Str → Option Value} {base : Heap}
theorem ok_is_pair (T : Txt K mg) : FnOk P w K mg base CX0 4 T.f_is_pair T.d_is_pair ["part"] (sp_pair K) := by
  refine T.F_is_pair.ok sc_is_pair (fun vs H Q E h => ?_) (fun cdv A outer s H vs Q E hr h => ?_)
  · obtain ⟨v, d, rfl, _⟩ := h; rfl
  · obtain ⟨v, d, rfl, hd, hf, k⟩ := h
    refine ⟨_, (pss_one (ps_ret (pe_and (pe_callB call_isi (by rfl) T.z_isinstance boot_isinstance (pa_cons (pv 0) (pa_cons (pe_bltn (v := .ty "tuple") (by rfl) T.z_tuple boot_tuple rfl) pa_nil))) (pe_and (pe_cmpR op_eq (pe_callB cq_len (by rfl) T.z_len boot_len (pa_cons (pv 0) pa_nil)) pe_int (nomark _)) (pe_and (pe_call (ok_is_account T) (hr.mono (by decide)) (by rfl) T.g_is_account T.F_is_account.kp T.b_is_account .nil pass0 (pa_cons (pe_ix ix_tup (pv 0) pe_int (fun _ _ => rfl)) pa_nil)) (pe_one (pe_call (ok_is_at_least T) (hr.mono (by decide)) (by rfl) T.g_is_at_least T.F_is_at_least.kp T.b_is_at_least .nil pass0 (pa_cons (pe_ix ix_tup (pv 0) pe_int (fun _ _ => rfl)) (pa_cons pe_int pa_nil))))))))), ?_⟩
    (dsimp only [cxOf, Cx.nox, Cx.wish, L2.start, List.map, List.length, List.replicate, List.cons_append, List.nil_append, List.append_eq, Nat.reduceSub, Nat.reduceAdd])
    walk_at "my_rd"
    refine q_isiD hd (kit_tuple d) ?_
    cases hd with
    | @tup a xs ds h1 h2 =>
      show andVK _ _ _ (.bl true) H
      walk_at "my_rd"
      refine q_lenT h1 ?_
      walk_at "my_rd"
      have hl := dpall_len h2
      by_cases h : xs.length = 2
      · rw [decide_eq_true (show (xs.length : Int) = 2 by omega)]
        obtain ⟨v0, v1, rfl⟩ : ∃ v0 v1, xs = [v0, v1] := by
          match xs, h with
          | [v0, v1], _ => exact ⟨v0, v1, rfl⟩
        cases h2 with
        | cons d0 h2 =>
          cases h2 with
          | cons d1 h2 =>
            cases h2
            obtain ⟨f0, f1⟩ := hf _ _ rfl
            walk_at "my_rd"
            refine q_ixT h1 rfl ?_
            walk_at "my_rd"
            refine ⟨_, _, rfl, d0, f0, fun H1 sm => ?_⟩
            refine q_andV2 (fun h => ?_) (fun h => ?_)
            · walk_at "my_rd"
              refine q_ixT (Same.sqT sm h1) rfl ?_
              walk_at "my_rd"
              refine ⟨_, _, _, rfl, dp_mono sm d1, f1, fun H2 sm2 => ?_⟩
              rename_i y0 y1
              have e : pairD (.tuple [y0, y1]) = leastD 1 y1 := by
                show (accD y0 && leastD 1 y1) = _
                rw [h, Bool.true_and]
              rw [← e]
              exact k H2 (Same.trans sm sm2)
            · rename_i y0 y1
              have e : false = pairD (.tuple [y0, y1]) := by
                show false = (accD y0 && leastD 1 y1)
                rw [h, Bool.false_and]
              rw [e]
              exact k H1 sm
      · rw [decide_eq_false (show ¬ (xs.length : Int) = 2 by omega)]
        have e : false = pairD (.tuple ds) := by
          unfold pairD
          split
          · rename_i heq
            injection heq with heq
            subst heq
            exact absurd hl h
          · rfl
        walk_at "my_rd"
        rw [e]
        exact k H (Same.refl _)
    | _ =>
      show andVK _ _ _ (.bl false) H
      walk_at "my_rd"
      exact k H (Same.refl _)
theorem ok_is_set (T : Txt K mg) : FnOk P w K mg base CX0 5 T.f_is_set T.d_is_set ["value"] (sp_set K) := by
  refine T.F_is_set.ok sc_is_set (fun vs H Q E h => ?_) (fun cdv A outer s H vs Q E hr h => ?_)
  · obtain ⟨v, d, rfl, _⟩ := h; rfl
  · obtain ⟨v, d, rfl, hd, hf, k⟩ := h
    have hu := hu_of hr
    refine ⟨_, (pss_cons (ps_if (PW.pt (pw_or (pt_not (pt_val (pe_callB call_isi (by rfl) T.z_isinstance boot_isinstance (pa_cons (pv 0) (pa_cons (pe_bltn (v := .ty "tuple") (by rfl) T.z_tuple boot_tuple rfl) pa_nil))))) (pw_or1 (pt_not (pt_truth (pv 0) (by intro _; rfl)))))) (pss_one (ps_ret pe_bl)) pss_nil)
      (pss_cons (ps_set (i := 1) sc_is_set.nd rfl (Or.inl rfl) pe_dnewK)
      (pss_cons (ps_for PassesOwn.never rfl (pi_tup (pv 0)) (pg_name (i := 2) sc_is_set.nd rfl (Or.inl rfl))
        (pss_cons (ps_if (PW.pt (pw_or (pt_not (pt_val (pe_call (ok_is_pair T) (hr.mono (by decide)) (by rfl) T.g_is_pair T.F_is_pair.kp T.b_is_pair .nil pass0 (pa_cons (pv 2) pa_nil)))) (pw_or1 (pt_cmp (pc_din hu (pe_ix ix_tup (pv 2) pe_int (fun _ _ => rfl)) (pv 1)))))) (pss_one (ps_ret pe_bl)) pss_nil)
      (pss_one (ps_dput hu (pv 1) (pe_ix ix_tup (pv 2) pe_int (fun _ _ => rfl)) pe_bl rfl))))
      (pss_one (ps_ret pe_bl))))), ?_⟩
    (dsimp only [cxOf, Cx.nox, Cx.wish, L2.start, List.map, List.length, List.replicate, List.cons_append, List.nil_append, List.append_eq, Nat.reduceSub, Nat.reduceAdd])
    walk_at "my_rd"
    refine q_isiD hd (kit_tuple d) ?_
    cases hd with
    | @tup a xs ds h1 h2 =>
      show bK _ (.bl true) H
      walk_at "my_rd"
      have hl := dpall_len h2
      obtain ⟨hfl, hfp⟩ := hf ds rfl

      refine ⟨!xs.isEmpty, .inr (.inl ⟨xs, h1, rfl⟩), ?_⟩
      cases hx : xs.isEmpty with
      | true =>
        show ifK _ _ _ _ true H
        walk_at "my_rd"
        have e : xs = [] := List.isEmpty_iff.mp hx
        subst e
        have e2 : ds = [] := List.length_eq_zero_iff.mp hl.symm
        subst e2
        exact k H (Same.refl _)
      | false =>
        show ifK _ _ _ _ false H
        walk_at "my_rd"
        refine q_dNew fun F nF => ?_
        walk_at "my_rd"
        have e0 : ds.isEmpty = false := by
          cases ds with
          | nil => rw [List.length_eq_zero_iff.mp hl] at hx; cases hx
          | cons _ _ => rfl
        refine q_forT (Same.sqT (Same.new (Same.refl _) nF) h1) (fun i σ H2 => ∃ (kvs : List (Key × V)) (pv : Option V), σ = [some (.ref a), some (.ref F), pv] ∧ Same H H2 ∧ H2 F = some (.dK kvs) ∧ kvs.map (·.1) = ((ds.take i).map nameS).map Sum.inr ∧ (ds.take i).all pairD = true ∧ ((ds.take i).map nameS).Nodup)
          ⟨[], _, rfl, Same.new (Same.refl _) nF, upd_same, rfl, rfl, List.nodup_nil⟩ (fun i σ H2 _ ⟨_, _, _, sm, _⟩ => Same.sqT sm h1) ?_ ?_
        · rintro i x σ H2 hx ⟨kvs, pv, rfl, sm, hF, hk, hall, hnd⟩
          obtain ⟨dx, hdx, hdp⟩ := dpall_get h2 hx
          have hnf : ∀ b, (ds.take (i + 1)).all pairD = b → (b = false → ds.all pairD = false) := fun b hb hb2 => by
            rw [hb2] at hb
            rw [List.all_eq_false] at hb ⊢
            obtain ⟨z, hz, hp⟩ := hb
            exact ⟨z, List.mem_of_mem_take hz, hp⟩
          walk_at "my_rd"
          refine ⟨x, dx, rfl, dp_mono sm hdp, hfp dx (List.mem_of_getElem? hdx), fun H3 sm3 => ?_⟩
          cases hpd : pairD dx with
          | false =>
            walk_at "my_rd"

            walk_at "my_rd"
            have e : false = setD (.tuple ds) := by
              show false = (!ds.isEmpty && (ds.all pairD && _))
              rw [hnf false (by rw [take_snoc hdx, List.all_append, List.all_cons, hpd]; simp) rfl]
              simp
            rw [e]
            exact k H3 (Same.trans sm sm3)
          | true =>
            walk_at "my_rd"
            obtain ⟨nme, wt, rfl, _, _⟩ := pairD_shape hpd
            have hdp3 := dp_mono (Same.trans sm sm3) hdp
            have hF3 := sm3 _ _ hF
            cases hdp3 with
            | @tup b ys es t1 t2 =>
              cases t2 with
              | @cons v0 _ _ _ u0 t2 =>
                cases t2 with
                | cons u1 t3 =>
                cases t3
                cases u0 with
                | str _ =>
                  refine q_ixT t1 rfl ?_
                  walk_at "my_rd"
                  have key : (valV kvs (Sum.inr nme)).isSome = decide (nme ∈ (ds.take i).map nameS) := by
                    cases hv : valV kvs (Sum.inr nme) with
                    | none =>
                      have q := valV_not hv
                      rw [mem_names _ hk] at q
                      exact (decide_eq_false q).symm
                    | some _ =>
                      have q := valV_in hv
                      rw [mem_names _ hk] at q
                      exact (decide_eq_true q).symm
                  rw [key]
                  refine q_if2 (fun h => ?_) (fun h => ?_)
                  · have h := dec_t h
                    walk_at "my_rd"
                    have e : false = setD (.tuple ds) := by
                      show false = (!ds.isEmpty && (ds.all pairD && decide ((ds.map nameS).Nodup)))
                      rw [decide_eq_false, Bool.and_false, Bool.and_false]
                      intro hn
                      have h3 : ((ds.take (i + 1)).map nameS).Nodup := (List.Sublist.map _ (List.take_sublist _ _)).nodup hn
                      rw [take_snoc hdx, List.map_append] at h3
                      exact (List.nodup_append.mp h3).2.2 nme h nme (by simp [nameS]) rfl
                    rw [e]
                    exact k H3 (Same.trans sm sm3)
                  · have h := dec_f h
                    walk_at "my_rd"
                    refine q_ixT t1 rfl ?_
                    have hv : valV kvs (Sum.inr nme) = none := by
                      cases hv : valV kvs (Sum.inr nme) with
                      | none => rfl
                      | some _ =>
                        rw [hv] at key
                        exact absurd (dec_t key.symm) h
                    refine q_dPutS hF3 ?_ ?_
                    · have : kvs.length = (ds.take i).length := by
                        have := congrArg List.length hk
                        simpa using this
                      rw [List.length_take] at this
                      exact small1000 (by omega)
                    · walk_at "my_rd"
                      have e2 : ds.take (i + 1) = ds.take i ++ [PyData.tuple [.str nme, .int wt]] := take_snoc hdx
                      refine ⟨_, _, rfl, Same.new (Same.trans sm sm3) nF, upd_same, ?_, ?_, ?_⟩
                      · rw [putK_new _ hv, List.map_append, hk, e2, List.map_append, List.map_append]
                        rfl
                      · rw [e2, List.all_append, hall, List.all_cons, hpd]
                        rfl
                      · rw [e2, List.map_append]
                        exact nd_snoc hnd h
        · rintro σ H2 ⟨kvs, pv, rfl, sm, hF, hk, hall, hnd⟩
          walk_at "my_rd"
          have et : ds.take xs.length = ds := List.take_of_length_le (by rw [hl]; exact Nat.le_refl _)
          rw [et] at hall hnd
          have e : true = setD (.tuple ds) := by
            show true = (!ds.isEmpty && (ds.all pairD && decide ((ds.map nameS).Nodup)))
            rw [e0, hall, decide_eq_true hnd]
            rfl
          rw [e]
          exact k H2 sm
    | _ =>
      show bK _ (.bl false) H
      walk_at "my_rd"
      exact k H (Same.refl _)
end

/-! sides -/
def flatD : PyData → Bool
  | .none => true
  | .bool _ => true
  | .int _ => true
  | .str _ => true
  | _ => false
def isS (s : Str) : PyData → Bool
  | .str z => decide (z = s)
  | _ => false
def sideD (d : PyData) : Bool := isS "west" d || isS "east" d
def sp_side (K : PySem.W.Frag) : Sp := fun vs H Q _ => ∃ (v : V) (d : PyData), vs = [v] ∧ Dp K H v d ∧ flatD d = true ∧ ∀ H', Same H H' → Q (.bl (sideD d)) H'
theorem flat_v {K : PySem.W.Frag} {H : Hp} {v : V} {d : PyData} (h : Dp K H v d) (f : flatD d = true) : flatV v = true := by
  cases h <;> first | rfl | cases f
theorem isS_v {K : PySem.W.Frag} {H : Hp} {v : V} {d : PyData} {s : Str} (h : Dp K H v d) (f : flatD d = true) : eqV (.str s) v = isS s d := by
  cases h with
  | str x =>
    show (s == x) = decide (x = s)
    by_cases e : x = s
    · subst e; simp
    · rw [decide_eq_false e]; exact beq_eq_false_iff_ne.mpr (fun q => e q.symm)
  | _ => first | rfl | cases f
section
variable {P : Program} {w : World} {K : PySem.W.Frag} {mg : Str → Option Value} {base : Heap}
theorem ok_is_side (T : Txt K mg) : FnOk P w K mg base CX0 1 T.f_is_side T.d_is_side ["value"] (sp_side K) := by
  refine T.F_is_side.ok sc_is_side (fun vs H Q E h => ?_) (fun cdv A outer s H vs Q E hr h => ?_)
  · obtain ⟨v, d, rfl, _⟩ := h; rfl
  · obtain ⟨v, d, rfl, hd, hf, k⟩ := h
    refine ⟨_, (pss_one (ps_ret (pe_cmpR op_in_seq (pv 0) (pe_glob (v := .ref T.a_SIDES) (by rfl) T.c_SIDES rfl) (by rfl)))), ?_⟩
    (dsimp only [cxOf, Cx.nox, Cx.wish, L2.start, List.map, List.length, List.replicate, List.cons_append, List.nil_append, List.append_eq, Nat.reduceSub, Nat.reduceAdd])
    walk_at "my_rd"
    refine q_inT T.k_SIDES.sq (flat_v hd hf) rfl ?_
    walk_at "my_rd"
    have e : inV v [.str "west", .str "east"] = sideD d := by
      show (eqV (.str "west") v || (eqV (.str "east") v || false)) = _
      rw [isS_v hd hf, isS_v hd hf, Bool.or_false]
      rfl
    rw [e]
    exact k H (Same.refl _)
end

/-! data made of tuples alone -/
mutual
inductive TupDp (K : PySem.W.Frag) (H : Hp) : V → PyData → Prop
  | non : TupDp K H .non .none
  | bl (b : Bool) : TupDp K H (.bl b) (.bool b)
  | int (i : Int) : TupDp K H (.int i) (.int i)
  | str (x : Str) : TupDp K H (.str x) (.str x)
  | tup {a : Addr} {xs : List V} {ds : List PyData} : H a = some (.tup xs) → TupAll K H xs ds → TupDp K H (.ref a) (.tuple ds)
inductive TupAll (K : PySem.W.Frag) (H : Hp) : List V → List PyData → Prop
  | nil : TupAll K H [] []
  | cons {v : V} {vs : List V} {d : PyData} {ds : List PyData} : TupDp K H v d → TupAll K H vs ds → TupAll K H (v :: vs) (d :: ds)
end
mutual
theorem TupDp.dp {K : PySem.W.Frag} {H : Hp} : ∀ {v : V} {d : PyData}, TupDp K H v d → Dp K H v d
  | _, _, .non => .non
  | _, _, .bl b => .bl b
  | _, _, .int i => .int i
  | _, _, .str x => .str x
  | _, _, .tup h1 h2 => .tup (sqT h1) (TupAll.dp h2)
theorem TupAll.dp {K : PySem.W.Frag} {H : Hp} : ∀ {vs : List V} {ds : List PyData}, TupAll K H vs ds → DpAll K H vs ds
  | _, _, .nil => .nil
  | _, _, .cons h1 h2 => .cons (TupDp.dp h1) (TupAll.dp h2)
end
mutual
theorem TupDp.mono {K : PySem.W.Frag} {H H' : Hp} (e : ∀ b ys, H b = some (.tup ys) → H' b = some (.tup ys)) : ∀ {v : V} {d : PyData}, TupDp K H v d → TupDp K H' v d
  | _, _, .non => .non
  | _, _, .bl b => .bl b
  | _, _, .int i => .int i
  | _, _, .str x => .str x
  | _, _, .tup h1 h2 => .tup (e _ _ h1) (TupAll.mono e h2)
theorem TupAll.mono {K : PySem.W.Frag} {H H' : Hp} (e : ∀ b ys, H b = some (.tup ys) → H' b = some (.tup ys)) : ∀ {vs : List V} {ds : List PyData}, TupAll K H vs ds → TupAll K H' vs ds
  | _, _, .nil => .nil
  | _, _, .cons h1 h2 => .cons (TupDp.mono e h1) (TupAll.mono e h2)
end
theorem Kp.tup {p l b : Addr} {ys : List V} {H H' : Hp} (k : Kp p H H') (pot : PotAt H p l) (h : H b = some (.tup ys)) : H' b = some (.tup ys) := by
  obtain ⟨ns, i, c, s, h1, _⟩ := pot
  exact k _ _ h (ne_of h h1 (by intro z; cases z))
theorem TupDp.kp {K : PySem.W.Frag} {H H' : Hp} {p l : Addr} {v : V} {d : PyData} (h : TupDp K H v d) (k : Kp p H H') (pot : PotAt H p l) : TupDp K H' v d := h.mono fun b ys q => k.tup pot q
theorem TupDp.same {K : PySem.W.Frag} {H H' : Hp} {v : V} {d : PyData} (h : TupDp K H v d) (k : Same H H') : TupDp K H' v d := h.mono fun b ys q => k _ _ q

local macro_rules | `(tactic| walk_at "my_rd") => `(tactic| (repeat first
  | with_reducible refine q_tCons ?_
  | ((with_reducible apply q_var); (focus (exact rfl)))
  | with_reducible refine q_c ?_
  | with_reducible refine q_nx ?_
  | with_reducible refine q_bK ?_
  | with_reducible refine q_call ?_
  | with_reducible refine q_callK ?_
  | with_reducible refine q_tNil ?_
  | with_reducible refine q_cb ?_
  | with_reducible refine q_seq ?_
  | with_reducible refine q_asg ?_
  | with_reducible refine q_gName ?_
  | with_reducible refine q_op ?_
  | with_reducible refine q_test ?_
  | with_reducible refine q_tB ?_
  | with_reducible refine q_ifS ?_
  | with_reducible refine q_ret ?_
  | with_reducible refine q_rt ?_
  | with_reducible refine q_next ?_
  | with_reducible refine q_ifF ?_
  | with_reducible refine q_ifT ?_
  | with_reducible refine q_drop ?_
  | with_reducible refine q_and ?_
  | with_reducible refine q_or ?_
  | with_reducible refine q_andT ?_
  | with_reducible refine q_andF ?_
  | with_reducible refine q_orF ?_
  | with_reducible refine q_orT ?_
  | with_reducible refine q_andV ?_
  | with_reducible refine q_andVT ?_
  | with_reducible refine q_andVF ?_
  | with_reducible refine q_orV ?_
  | with_reducible refine q_gCons ?_
  | with_reducible refine q_gNil ?_
  | with_reducible refine q_tup ?_
  | with_reducible refine q_lst ?_
  | with_reducible refine q_not ?_
  | with_reducible refine q_notKT ?_
  | with_reducible refine q_notKF ?_
  | with_reducible refine q_I0 ?_
  | with_reducible refine q_eqI ?_
  | with_reducible refine q_neI ?_
  | ((with_reducible refine q_I ?_ ?_); first | decide | omega | exact ⟨by omega, by omega⟩ | exact ⟨by decide, by decide⟩ | exact .inl ⟨by omega, by omega⟩ | exact .inr ⟨by omega, by omega⟩ | exact .inr ⟨by decide, by decide⟩)
  | with_reducible refine q_eqS ?_
  | with_reducible refine q_neS ?_
  | with_reducible refine q_brk ?_
  | with_reducible refine q_ct ?_
  | with_reducible refine q_bk ?_
  | with_reducible refine q_cn ?_
  | with_reducible refine q_retN ?_
  | with_reducible refine q_gSub ?_
  | with_reducible refine q_for ?_
  | with_reducible refine q_iList ?_
  | with_reducible refine q_iTup ?_
  | with_reducible refine q_iRng1 ?_
  | with_reducible refine q_notK ?_
  | with_reducible refine q_orVT ?_
  | with_reducible refine q_orVF ?_
  | with_reducible refine q_notV ?_
  | with_reducible refine q_notVK ?_
  | with_reducible refine q_ifE ?_
  | with_reducible refine q_ifET ?_
  | with_reducible refine q_ifEF ?_
  | with_reducible refine q_yes ?_
  | with_reducible refine q_un ?_
  | with_reducible refine q_rU ?_
  | with_reducible refine q_abs ?_
  | with_reducible refine q_int1 ?_
  | with_reducible refine q_bm ?_
  | with_reducible refine q_bm0 ?_
  | with_reducible refine q_lc ?_
  | with_reducible refine q_keepT ?_
  | with_reducible refine q_keepF ?_
  | ((with_reducible apply q_aug); (focus (exact rfl)))
  | with_reducible refine q_ipI ?_
  | with_reducible refine q_chain ?_
  | with_reducible refine q_pairC ?_
  | with_reducible refine q_pairsK ?_
  | with_reducible refine q_pairN ?_
  | with_reducible refine q_fld ?_
  | with_reducible refine q_sFld ?_
  | with_reducible refine q_meth ?_
  | with_reducible refine q_makeK ?_
  | with_reducible refine q_isBl ?_
  | with_reducible refine q_notBl ?_
  | with_reducible refine q_sl ?_
  | with_reducible refine q_noPart ?_
  | with_reducible refine q_part ?_
  | with_reducible refine q_partK ?_
  | ((with_reducible apply q_mulStr); (focus (decide +kernel)))
  | with_reducible refine q_chT ?_
  | with_reducible refine q_chF ?_
  | with_reducible refine q_ord ?_
  | with_reducible refine q_iStr0 ?_
  | with_reducible refine q_iStr ?_
  | with_reducible refine q_tDIn ?_
  | with_reducible refine q_tDNotIn ?_
  | with_reducible refine q_tDGet ?_
  | with_reducible refine q_tDGet2 ?_
  | with_reducible refine q_tDGet1 ?_
  | with_reducible refine q_tDSetd ?_
  | ((with_reducible apply q_dG2a); (focus ((repeat first | (with_reducible exact upd_same) | (with_reducible assumption) | (with_reducible apply upd_new (by assumption)) | (with_reducible apply upd_other (by first | assumption | exact Ne.symm (by assumption))) | (with_reducible refine' Kp.get (by assumption) ?_ (by first | assumption | exact Ne.symm (by assumption))) | (with_reducible apply Same.get (by assumption))); done)))
  | ((with_reducible apply q_dSda); (focus ((repeat first | (with_reducible exact upd_same) | (with_reducible assumption) | (with_reducible apply upd_new (by assumption)) | (with_reducible apply upd_other (by first | assumption | exact Ne.symm (by assumption))) | (with_reducible refine' Kp.get (by assumption) ?_ (by first | assumption | exact Ne.symm (by assumption))) | (with_reducible apply Same.get (by assumption))); done)))
  | with_reducible refine q_sDPut ?_
  | ((with_reducible apply q_dInS); (focus ((repeat first | (with_reducible exact upd_same) | (with_reducible assumption) | (with_reducible apply upd_new (by assumption)) | (with_reducible apply upd_other (by first | assumption | exact Ne.symm (by assumption))) | (with_reducible refine' Kp.get (by assumption) ?_ (by first | assumption | exact Ne.symm (by assumption))) | (with_reducible apply Same.get (by assumption))); done)))
  | ((with_reducible apply q_dNInS); (focus ((repeat first | (with_reducible exact upd_same) | (with_reducible assumption) | (with_reducible apply upd_new (by assumption)) | (with_reducible apply upd_other (by first | assumption | exact Ne.symm (by assumption))) | (with_reducible refine' Kp.get (by assumption) ?_ (by first | assumption | exact Ne.symm (by assumption))) | (with_reducible apply Same.get (by assumption))); done)))
  | ((with_reducible apply q_dInI); (focus ((repeat first | (with_reducible exact upd_same) | (with_reducible assumption) | (with_reducible apply upd_new (by assumption)) | (with_reducible apply upd_other (by first | assumption | exact Ne.symm (by assumption))) | (with_reducible refine' Kp.get (by assumption) ?_ (by first | assumption | exact Ne.symm (by assumption))) | (with_reducible apply Same.get (by assumption))); done)))
  | ((with_reducible apply q_dNInI); (focus ((repeat first | (with_reducible exact upd_same) | (with_reducible assumption) | (with_reducible apply upd_new (by assumption)) | (with_reducible apply upd_other (by first | assumption | exact Ne.symm (by assumption))) | (with_reducible refine' Kp.get (by assumption) ?_ (by first | assumption | exact Ne.symm (by assumption))) | (with_reducible apply Same.get (by assumption))); done)))
  | ((with_reducible apply q_bmL); (focus ((repeat first | (with_reducible exact upd_same) | (with_reducible assumption) | (with_reducible apply upd_new (by assumption)) | (with_reducible apply upd_other (by first | assumption | exact Ne.symm (by assumption))) | (with_reducible refine' Kp.get (by assumption) ?_ (by first | assumption | exact Ne.symm (by assumption))) | (with_reducible apply Same.get (by assumption))); done)))
  | ((with_reducible apply q_bmL0); (focus ((repeat first | (with_reducible exact upd_same) | (with_reducible assumption) | (with_reducible apply upd_new (by assumption)) | (with_reducible apply upd_other (by first | assumption | exact Ne.symm (by assumption))) | (with_reducible refine' Kp.get (by assumption) ?_ (by first | assumption | exact Ne.symm (by assumption))) | (with_reducible apply Same.get (by assumption))); done)))
  | ((with_reducible apply q_ixLt); (focus ((repeat first | (with_reducible exact upd_same) | (with_reducible assumption) | (with_reducible apply upd_new (by assumption)) | (with_reducible apply upd_other (by first | assumption | exact Ne.symm (by assumption))) | (with_reducible refine' Kp.get (by assumption) ?_ (by first | assumption | exact Ne.symm (by assumption))) | (with_reducible apply Same.get (by assumption))); done)); (focus (exact rfl)))
  | ((with_reducible apply q_ixTt); (focus ((repeat first | (with_reducible exact upd_same) | (with_reducible assumption) | (with_reducible apply upd_new (by assumption)) | (with_reducible apply upd_other (by first | assumption | exact Ne.symm (by assumption))) | (with_reducible refine' Kp.get (by assumption) ?_ (by first | assumption | exact Ne.symm (by assumption))) | (with_reducible apply Same.get (by assumption))); done)); (focus (exact rfl)))
  | ((with_reducible apply q_lenLt); (focus ((repeat first | (with_reducible exact upd_same) | (with_reducible assumption) | (with_reducible apply upd_new (by assumption)) | (with_reducible apply upd_other (by first | assumption | exact Ne.symm (by assumption))) | (with_reducible refine' Kp.get (by assumption) ?_ (by first | assumption | exact Ne.symm (by assumption))) | (with_reducible apply Same.get (by assumption))); done)))
  | ((with_reducible apply q_lenTt); (focus ((repeat first | (with_reducible exact upd_same) | (with_reducible assumption) | (with_reducible apply upd_new (by assumption)) | (with_reducible apply upd_other (by first | assumption | exact Ne.symm (by assumption))) | (with_reducible refine' Kp.get (by assumption) ?_ (by first | assumption | exact Ne.symm (by assumption))) | (with_reducible apply Same.get (by assumption))); done)))
  | ((with_reducible apply q_append); (focus ((repeat first | (with_reducible exact upd_same) | (with_reducible assumption) | (with_reducible apply upd_new (by assumption)) | (with_reducible apply upd_other (by first | assumption | exact Ne.symm (by assumption))) | (with_reducible refine' Kp.get (by assumption) ?_ (by first | assumption | exact Ne.symm (by assumption))) | (with_reducible apply Same.get (by assumption))); done)); (focus ((first | (exact Nat.lt_of_ble_eq_true rfl) | (simp only [List.length_append, List.length_cons, List.length_nil, List.length_map]; exact small1000 (by omega))))))
  | ((with_reducible apply q_setL); (focus ((repeat first | (with_reducible exact upd_same) | (with_reducible assumption) | (with_reducible apply upd_new (by assumption)) | (with_reducible apply upd_other (by first | assumption | exact Ne.symm (by assumption))) | (with_reducible refine' Kp.get (by assumption) ?_ (by first | assumption | exact Ne.symm (by assumption))) | (with_reducible apply Same.get (by assumption))); done)); (focus (exact rfl)))
  | with_reducible refine q_ifNT ?_
  | with_reducible refine q_ifNF ?_
  | with_reducible refine q_andNT ?_
  | with_reducible refine q_andNF ?_
  | with_reducible refine q_orNT ?_
  | with_reducible refine q_orNF ?_
  | with_reducible refine q_bKNT ?_
  | with_reducible refine q_bKNF ?_))
/-! configurations -/
structure TokR where
  name : Str
  home : Str
  scale : Int
  limit : Int
  large : Int
def TokR.v (t : TokR) : List V := [.str t.name, .str t.home, .int t.scale, .int t.limit, .int t.large]
structure TokR.Ok (t : TokR) : Prop where
  n : shortD 12 (.str t.name) = true
  nl : t.name.length ≤ 12
  h : sideD (.str t.home) = true
  sc : 1 ≤ t.scale
  li : 0 ≤ t.limit
  la : 1 ≤ t.large
structure BalR where
  acc : Str
  tok : Str
  amt : Int
def BalR.v (b : BalR) : List V := [.str b.acc, .str b.tok, .int b.amt]
structure BalR.Ok (b : BalR) (ts : List TokR) : Prop where
  a : accD (.str b.acc) = true
  al : b.acc.length ≤ 20
  t : shortD 12 (.str b.tok) = true
  tl : b.tok.length ≤ 12
  tm : b.tok ∈ ts.map TokR.name
  am : 0 ≤ b.amt
/-- rows that stand as tuples -/
structure RowsAt {α : Type} (f : α → List V) (H : Hp) (xs : List V) (rs : List α) : Prop where
  len : xs.length = rs.length
  at_ : ∀ (i : Nat) (r : α), rs[i]? = some r → ∃ a, xs[i]? = some (.ref a) ∧ H a = some (.tup (f r))
theorem RowsAt.mono {α : Type} {f : α → List V} {H H' : Hp} {xs : List V} {rs : List α} (h : RowsAt f H xs rs) (e : ∀ b ys, H b = some (.tup ys) → H' b = some (.tup ys)) : RowsAt f H' xs rs :=
  ⟨h.len, fun i r hr => by obtain ⟨a, h1, h2⟩ := h.at_ i r hr; exact ⟨a, h1, e _ _ h2⟩⟩
theorem RowsAt.same {α : Type} {f : α → List V} {H H' : Hp} {xs : List V} {rs : List α} (h : RowsAt f H xs rs) (e : Same H H') : RowsAt f H' xs rs := h.mono fun b ys q => e b _ q
theorem RowsAt.item {α : Type} {f : α → List V} {H : Hp} {xs : List V} {rs : List α} (h : RowsAt f H xs rs) {i : Nat} {x : V} (hx : xs[i]? = some x) : ∃ r a, rs[i]? = some r ∧ x = .ref a ∧ H a = some (.tup (f r)) := by
  have hi : i < rs.length := by rw [← h.len]; exact (List.getElem?_eq_some_iff.mp hx).1
  obtain ⟨a, h1, h2⟩ := h.at_ i rs[i] (List.getElem?_eq_getElem hi)
  exact ⟨rs[i], a, List.getElem?_eq_getElem hi, Option.some.inj (hx.symm.trans h1), h2⟩
theorem RowsAt.nil {α : Type} {f : α → List V} {H : Hp} : RowsAt f H [] [] := ⟨rfl, fun i r h => by simp at h⟩
theorem RowsAt.snoc {α : Type} {f : α → List V} {H : Hp} {xs : List V} {rs : List α} {a : Addr} {r : α} (h : RowsAt f H xs rs) (ha : H a = some (.tup (f r))) : RowsAt f H (xs ++ [.ref a]) (rs ++ [r]) := by
  refine ⟨by rw [List.length_append, List.length_append, h.len]; rfl, fun i g' hg => ?_⟩
  by_cases hi : i < rs.length
  · rw [List.getElem?_append_left hi] at hg
    rw [List.getElem?_append_left (by rw [h.len]; exact hi)]
    exact h.at_ i g' hg
  · have hi' : i = rs.length := by
      have := (List.getElem?_eq_some_iff.mp hg).1
      rw [List.length_append] at this
      simp at this
      omega
    subst hi'
    rw [List.getElem?_append_right (Nat.le_refl _)] at hg
    simp at hg
    subst hg
    refine ⟨a, ?_, ha⟩
    rw [List.getElem?_append_right (by rw [h.len]; exact Nat.le_refl _), h.len]
    simp
/-- the table of the tokens: name and row -/
structure TabAt (H : Hp) (kvs : List (Key × V)) (ts : List TokR) : Prop where
  keys : kvs.map (·.1) = (ts.map TokR.name).map Sum.inr
  at_ : ∀ t ∈ ts, ∃ r, valV kvs (Sum.inr t.name) = some (.ref r) ∧ H r = some (.tup t.v)
theorem TabAt.mono {H H' : Hp} {kvs : List (Key × V)} {ts : List TokR} (h : TabAt H kvs ts) (e : ∀ b ys, H b = some (.tup ys) → H' b = some (.tup ys)) : TabAt H' kvs ts :=
  ⟨h.keys, fun t ht => by obtain ⟨r, h1, h2⟩ := h.at_ t ht; exact ⟨r, h1, e _ _ h2⟩⟩
theorem TabAt.has {H : Hp} {kvs : List (Key × V)} {ts : List TokR} (h : TabAt H kvs ts) (s : Str) : (valV kvs (Sum.inr s)).isSome = decide (s ∈ ts.map TokR.name) := by
  cases hv : valV kvs (Sum.inr s) with
  | none =>
    have q := valV_not hv
    rw [mem_names _ h.keys] at q
    exact (decide_eq_false q).symm
  | some _ =>
    have q := valV_in hv
    rw [mem_names _ h.keys] at q
    exact (decide_eq_true q).symm
theorem TabAt.len {H : Hp} {kvs : List (Key × V)} {ts : List TokR} (h : TabAt H kvs ts) : kvs.length = ts.length := by
  have := congrArg List.length h.keys
  simpa using this
/-- what a configuration is made of -/
structure Parts where
  toks : List TokR
  bals : List BalR
  depth : Int
  window : Int
  delay : Int
  bundle : Int
structure Parts.Ok (c : Parts) : Prop where
  t : ∀ t ∈ c.toks, t.Ok
  tn : (c.toks.map TokR.name).Nodup
  tl : c.toks.length ≤ 1000
  b : ∀ b ∈ c.bals, b.Ok c.toks
  bl : c.bals.length ≤ 1000
  d : 1 ≤ c.depth
  w : 1 ≤ c.window
  y : 0 ≤ c.delay
  u : 1 ≤ c.bundle
  u8 : c.bundle ≤ 8
def cfgNames : List Str := ["_tokens", "_balances", "_guards", "_depth", "_window", "_delay", "_bundle"]
/-- a Config at x: its table td, its list of balances bl, its guards g -/
structure CfgAt (C : Addr) (c : Parts) (g : Addr) (H : Hp) (x : Addr) : Prop where
  ex : ∃ dx fs td bl kvs bv, H x = some (.ins C dx fs) ∧ fs.lookup ("_tokens" : Str) = some (.ref td) ∧ fs.lookup ("_balances" : Str) = some (.ref bl) ∧ fs.lookup ("_guards" : Str) = some (.ref g) ∧ fs.lookup ("_depth" : Str) = some (.int c.depth) ∧ fs.lookup ("_window" : Str) = some (.int c.window) ∧
    fs.lookup ("_delay" : Str) = some (.int c.delay) ∧ fs.lookup ("_bundle" : Str) = some (.int c.bundle) ∧ (∀ m : Str, m ∉ cfgNames → fs.lookup m = none) ∧ H td = some (.dK kvs) ∧ TabAt H kvs c.toks ∧ H bl = some (.lst bv) ∧ RowsAt BalR.v H bv c.bals
theorem CfgAt.same {C : Addr} {c : Parts} {g : Addr} {H H' : Hp} {x : Addr} (h : CfgAt C c g H x) (e : Same H H') : CfgAt C c g H' x := by
  obtain ⟨dx, fs, td, bl, kvs, bv, h1, h2, h3, h4, h5, h6, h7, h8, h9, h10, h11, h12, h13⟩ := h.ex
  exact ⟨dx, fs, td, bl, kvs, bv, e _ _ h1, h2, h3, h4, h5, h6, h7, h8, h9, e _ _ h10, h11.mono fun b ys q => e _ _ q, e _ _ h12, h13.same e⟩
def sp_check_list (K : PySem.W.Frag) : Sp := fun vs H Q _ => ∃ (n : Str) (a : Addr) (xs : List V), vs = [.str n, .ref a] ∧ SqL K H a xs ∧ ∀ H', Same H H' → Q .non H'
def sp_check_least : Sp := fun vs H Q _ => ∃ (n : Str) (i l : Int), vs = [.str n, .int i, .int l] ∧ l ≤ i ∧ ∀ H', Same H H' → Q .non H'
def sp_check_tok : Sp := fun vs H Q _ => ∃ (a : Addr) (t : TokR), vs = [.ref a] ∧ H a = some (.tup t.v) ∧ t.Ok ∧ ∀ H', Same H H' → Q .non H'
def sp_check_bal : Sp := fun vs H Q _ => ∃ (a d : Addr) (b : BalR) (kvs : List (Key × V)) (ts : List TokR), vs = [.ref a, .ref d] ∧ H a = some (.tup b.v) ∧ H d = some (.dK kvs) ∧ TabAt H kvs ts ∧ b.Ok ts ∧ ∀ H', Same H H' → Q .non H'
def sp_cfg (K : PySem.W.Frag) (C : Addr) : Sp := fun vs H Q _ => ∃ (x dx tl bl g : Addr) (tv bv : List V) (gd : PyData) (c : Parts), vs = [.ref x, .ref tl, .ref bl, .ref g, .int c.depth, .int c.window, .int c.delay, .int c.bundle] ∧
  H x = some (.ins C dx []) ∧ H tl = some (.lst tv) ∧ H bl = some (.lst bv) ∧ RowsAt TokR.v H tv c.toks ∧ RowsAt BalR.v H bv c.bals ∧ TupDp K H (.ref g) gd ∧ setD gd = true ∧ FineS gd ∧ c.Ok ∧
  ∀ H', CfgAt C c g H' x → Kp x H H' → Q .non H'
section
variable {P : Program} {w : World} {K : PySem.W.Frag} {mg : Str → Option Value} {base : Heap}
theorem ty_list {H : Hp} {a : Addr} {xs : List V} (h : SqL K H a xs) : TyX K H (.ref a) (.type "list") := by
  rcases h with (h | ⟨o, h⟩) | ⟨o, its, n, h, h3, _⟩
  · exact .base (.lst h)
  · exact .base (.frz h)
  · exact .kList h h3
theorem ok_check_list (T : Txt K mg) : FnOk P w K mg base CX0 1 T.f_check_list T.d_check_list ["name", "value"] (sp_check_list K) := by
  refine T.F_check_list.ok sc_check_list (fun vs H Q E h => ?_) (fun cdv A outer s H vs Q E hr h => ?_)
  · obtain ⟨n, a, xs, rfl, _⟩ := h; rfl
  · obtain ⟨n, a, xs, rfl, ha, k⟩ := h
    refine ⟨_, (pss_one (ps_if (pt_not (pt_val (pe_callB call_isi (by rfl) T.z_isinstance boot_isinstance (pa_cons (pv 1) (pa_cons (pe_bltn (v := .ty "list") (by rfl) T.z_list boot_list rfl) pa_nil))))) (pss_one ps_never) pss_nil)), ?_⟩
    (dsimp only [cxOf, Cx.nox, Cx.wish, L2.start, List.map, List.length, List.replicate, List.cons_append, List.nil_append, List.append_eq, Nat.reduceSub, Nat.reduceAdd])
    walk_at "my_rd"
    refine q_isi (c := true) (ty_list ha) (kit_ty (by decide +kernel)) ?_
    walk_at "my_rd"
    exact k H (Same.refl _)
theorem ok_check_least (T : Txt K mg) : FnOk P w K mg base CX0 3 T.f_check_least T.d_check_least ["name", "value", "least"] sp_check_least := by
  refine T.F_check_least.ok sc_check_least (fun vs H Q E h => ?_) (fun cdv A outer s H vs Q E hr h => ?_)
  · obtain ⟨n, i, l, rfl, _⟩ := h; rfl
  · obtain ⟨n, i, l, rfl, hl, k⟩ := h
    refine ⟨_, (pss_one (ps_if (pt_not (pt_val (pe_call (ok_is_at_least T) (hr.mono (by decide)) (by rfl) T.g_is_at_least T.F_is_at_least.kp T.b_is_at_least .nil pass0 (pa_cons (pv 1) (pa_cons (pv 2) pa_nil))))) (pss_one ps_never) pss_nil)), ?_⟩
    (dsimp only [cxOf, Cx.nox, Cx.wish, L2.start, List.map, List.length, List.replicate, List.cons_append, List.nil_append, List.append_eq, Nat.reduceSub, Nat.reduceAdd])
    walk_at "my_rd"
    refine ⟨.int i, .int i, l, rfl, .int i, trivial, fun H1 sm => ?_⟩
    rw [show leastD l (.int i) = true from decide_eq_true hl]
    walk_at "my_rd"
    exact k H1 sm
theorem ok_check_token_row (T : Txt K mg) : FnOk P w K mg base CX0 4 T.f_check_token_row T.d_check_token_row ["row"] sp_check_tok := by
  refine T.F_check_token_row.ok sc_check_token_row (fun vs H Q E h => ?_) (fun cdv A outer s H vs Q E hr h => ?_)
  · obtain ⟨a, t, rfl, _⟩ := h; rfl
  · obtain ⟨a, t, rfl, ha, ht, k⟩ := h
    have hd : Dp K H (.ref a) (.tuple [.str t.name, .str t.home, .int t.scale, .int t.limit, .int t.large]) := .tup (sqT ha) (.cons (.str _) (.cons (.str _) (.cons (.int _) (.cons (.int _) (.cons (.int _) .nil)))))
    refine ⟨_, (pss_cons (ps_if (PW.pt (pw_or (pt_not (pt_val (pe_callB call_isi (by rfl) T.z_isinstance boot_isinstance (pa_cons (pv 0) (pa_cons (pe_bltn (v := .ty "tuple") (by rfl) T.z_tuple boot_tuple rfl) pa_nil))))) (pw_or1 (pt_cmpR op_ne (pe_callB cq_len (by rfl) T.z_len boot_len (pa_cons (pv 0) pa_nil)) pe_int (nomark _))))) (pss_one ps_never) pss_nil)
      (pss_cons (ps_asg (pv 0) (pg_tup rfl (pgs_cons (pg_name (i := 1) sc_check_token_row.nd rfl (Or.inl rfl)) (pgs_cons (pg_name (i := 2) sc_check_token_row.nd rfl (Or.inl rfl)) (pgs_cons (pg_name (i := 3) sc_check_token_row.nd rfl (Or.inl rfl)) (pgs_cons (pg_name (i := 4) sc_check_token_row.nd rfl (Or.inl rfl)) (pgs_cons (pg_name (i := 5) sc_check_token_row.nd rfl (Or.inl rfl)) pgs_nil)))))))
      (pss_cons (ps_if (pt_not (pt_val (pe_call (ok_is_short_text T) (hr.mono (by decide)) (by rfl) T.g_is_short_text T.F_is_short_text.kp T.b_is_short_text .nil pass0 (pa_cons (pv 1) (pa_cons (pe_glob (v := .int 12) (by rfl) T.c_TOKEN_LENGTH ⟨_, rfl⟩) pa_nil))))) (pss_one ps_never) pss_nil)
      (pss_cons (ps_if (pt_not (pt_val (pe_call (ok_is_side T) (hr.mono (by decide)) (by rfl) T.g_is_side T.F_is_side.kp T.b_is_side .nil pass0 (pa_cons (pv 2) pa_nil)))) (pss_one ps_never) pss_nil)
      (pss_cons (ps_expr (pe_call (ok_check_least T) (hr.mono (by decide)) (by rfl) T.g_check_least T.F_check_least.kp T.b_check_least .nil pass0 (pa_cons pe_str (pa_cons (pv 3) (pa_cons pe_int pa_nil)))))
      (pss_cons (ps_expr (pe_call (ok_check_least T) (hr.mono (by decide)) (by rfl) T.g_check_least T.F_check_least.kp T.b_check_least .nil pass0 (pa_cons pe_str (pa_cons (pv 4) (pa_cons pe_int pa_nil)))))
      (pss_one (ps_expr (pe_call (ok_check_least T) (hr.mono (by decide)) (by rfl) T.g_check_least T.F_check_least.kp T.b_check_least .nil pass0 (pa_cons pe_str (pa_cons (pv 5) (pa_cons pe_int pa_nil)))))))))))), ?_⟩
    (dsimp only [cxOf, Cx.nox, Cx.wish, L2.start, List.map, List.length, List.replicate, List.cons_append, List.nil_append, List.append_eq, Nat.reduceSub, Nat.reduceAdd])
    walk_at "my_rd"
    refine q_isiD hd (kit_tuple _) ?_
    show bK _ (.bl true) H
    walk_at "my_rd"
    rw [show decide ((t.v.length : Int) = 5) = true from rfl]
    walk_at "my_rd"
    refine q_gTup (sqT ha) rfl ?_
    unfold TokR.v
    walk_at "my_rd"
    refine ⟨.str t.name, .str t.name, 12, rfl, .str _, by show t.name.length ≤ 100000; have := ht.nl; omega, fun H1 sm1 => ?_⟩
    rw [ht.n]
    walk_at "my_rd"
    refine ⟨.str t.home, .str t.home, rfl, .str _, rfl, fun H2 sm2 => ?_⟩
    rw [ht.h]
    walk_at "my_rd"
    refine ⟨_, t.scale, 1, rfl, ht.sc, fun H3 sm3 => ?_⟩
    walk_at "my_rd"
    refine ⟨_, t.limit, 0, rfl, ht.li, fun H4 sm4 => ?_⟩
    walk_at "my_rd"
    refine ⟨_, t.large, 1, rfl, ht.la, fun H5 sm5 => ?_⟩
    walk_at "my_rd"
    exact k H5 (Same.trans sm1 (Same.trans sm2 (Same.trans sm3 (Same.trans sm4 sm5))))
theorem ok_check_balance_row (T : Txt K mg) : FnOk P w K mg base CX0 4 T.f_check_balance_row T.d_check_balance_row ["row", "tokens"] sp_check_bal := by
  refine T.F_check_balance_row.ok sc_check_balance_row (fun vs H Q E h => ?_) (fun cdv A outer s H vs Q E hr h => ?_)
  · obtain ⟨a, d, b, kvs, ts, rfl, _⟩ := h; rfl
  · obtain ⟨a, d, b, kvs, ts, rfl, ha, hdd, hT, hb, k⟩ := h
    have hu := hu_of hr
    have hd : Dp K H (.ref a) (.tuple [.str b.acc, .str b.tok, .int b.amt]) := .tup (sqT ha) (.cons (.str _) (.cons (.str _) (.cons (.int _) .nil)))
    refine ⟨_, (pss_cons (ps_if (PW.pt (pw_or (pt_not (pt_val (pe_callB call_isi (by rfl) T.z_isinstance boot_isinstance (pa_cons (pv 0) (pa_cons (pe_bltn (v := .ty "tuple") (by rfl) T.z_tuple boot_tuple rfl) pa_nil))))) (pw_or1 (pt_cmpR op_ne (pe_callB cq_len (by rfl) T.z_len boot_len (pa_cons (pv 0) pa_nil)) pe_int (nomark _))))) (pss_one ps_never) pss_nil)
      (pss_cons (ps_asg (pv 0) (pg_tup rfl (pgs_cons (pg_name (i := 2) sc_check_balance_row.nd rfl (Or.inl rfl)) (pgs_cons (pg_name (i := 3) sc_check_balance_row.nd rfl (Or.inl rfl)) (pgs_cons (pg_name (i := 4) sc_check_balance_row.nd rfl (Or.inl rfl)) pgs_nil)))))
      (pss_cons (ps_if (pt_not (pt_val (pe_call (ok_is_account T) (hr.mono (by decide)) (by rfl) T.g_is_account T.F_is_account.kp T.b_is_account .nil pass0 (pa_cons (pv 2) pa_nil)))) (pss_one ps_never) pss_nil)
      (pss_cons (ps_if (PW.pt (pw_or (pt_not (pt_val (pe_call (ok_is_short_text T) (hr.mono (by decide)) (by rfl) T.g_is_short_text T.F_is_short_text.kp T.b_is_short_text .nil pass0 (pa_cons (pv 3) (pa_cons (pe_glob (v := .int 12) (by rfl) T.c_TOKEN_LENGTH ⟨_, rfl⟩) pa_nil))))) (pw_or1 (pt_cmp (pc_dnotin hu (pv 3) (pv 1)))))) (pss_one ps_never) pss_nil)
      (pss_one (ps_expr (pe_call (ok_check_least T) (hr.mono (by decide)) (by rfl) T.g_check_least T.F_check_least.kp T.b_check_least .nil pass0 (pa_cons pe_str (pa_cons (pv 4) (pa_cons pe_int pa_nil)))))))))), ?_⟩
    (dsimp only [cxOf, Cx.nox, Cx.wish, L2.start, List.map, List.length, List.replicate, List.cons_append, List.nil_append, List.append_eq, Nat.reduceSub, Nat.reduceAdd])
    walk_at "my_rd"
    refine q_isiD hd (kit_tuple _) ?_
    show bK _ (.bl true) H
    walk_at "my_rd"
    rw [show decide ((b.v.length : Int) = 3) = true from rfl]
    walk_at "my_rd"
    refine q_gTup (sqT ha) rfl ?_
    unfold BalR.v
    walk_at "my_rd"
    refine ⟨.str b.acc, .str b.acc, rfl, .str _, by show b.acc.length ≤ 100000; have := hb.al; omega, fun H1 sm1 => ?_⟩
    rw [hb.a]
    walk_at "my_rd"
    refine ⟨.str b.tok, .str b.tok, 12, rfl, .str _, by show b.tok.length ≤ 100000; have := hb.tl; omega, fun H2 sm2 => ?_⟩
    rw [hb.t]
    have sm := Same.trans sm1 sm2
    walk_at "my_rd"
    rw [hT.has, decide_eq_true hb.tm]
    walk_at "my_rd"
    refine ⟨_, b.amt, 0, rfl, hb.am, fun H3 sm3 => ?_⟩
    walk_at "my_rd"
    exact k H3 (Same.trans sm sm3)
end

theorem RowsAt.kp {α : Type} {f : α → List V} {H H' : Hp} {xs : List V} {rs : List α} {x C dx : Addr} {fs : List (Str × V)} (h : RowsAt f H xs rs) (hx : H x = some (.ins C dx fs)) (k : Kp x H H') : RowsAt f H' xs rs :=
  h.mono fun b ys q => k _ _ q (ne_of q hx (by intro z; cases z))
theorem valV_put {kvs : List (Key × V)} {k k' : Key} {v : V} (h : valV kvs k = none) : valV (putK kvs k v) k' = if k' = k then some v else valV kvs k' := by
  rw [putK_new v h]
  unfold valV
  rw [List.find?_append]
  by_cases e : k' = k
  · subst e
    rw [if_pos rfl]
    have : kvs.find? (fun kv => decide (kv.1 = k')) = none := by
      cases q : kvs.find? (fun kv => decide (kv.1 = k')) with
      | none => rfl
      | some x =>
        unfold valV at h
        rw [q] at h
        cases h
    rw [this]
    simp
  · rw [if_neg e]
    cases q : kvs.find? (fun kv => decide (kv.1 = k')) with
    | some x => rfl
    | none =>
      have e2 : ¬ k = k' := fun z => e z.symm
      simp [e2]
section
variable {P : Program} {w : World} {K : PySem.W.Frag} {mg : Str → Option Value} {base : Heap}
theorem ok_Config_init (T : Txt K mg) : FnOk P w K mg base CX0 6 T.f_Config_init T.d_Config_init ["self", "tokens", "balances", "guards", "depth", "window", "delay", "bundle"] (sp_cfg K T.C_Config) := by
  refine T.F_Config_init.ok sc_Config_init (fun vs H Q E h => ?_) (fun cdv A outer s H vs Q E hr h => ?_)
  · obtain ⟨x, dx, tl, bl, g, tv, bv, gd, c, rfl, _⟩ := h; rfl
  · obtain ⟨x, dx, tl, bl, g, tv, bv, gd, c, rfl, hx, htl, hbl, hT, hB, hG, hset, hfine, hc, k⟩ := h
    have hu := hu_of hr
    refine ⟨_, (pss_cons (ps_expr (pe_call (ok_check_list T) (hr.mono (by decide)) (by rfl) T.g_check_list T.F_check_list.kp T.b_check_list .nil pass0 (pa_cons pe_str (pa_cons (pv 1) pa_nil))))
      (pss_cons (ps_expr (pe_call (ok_check_list T) (hr.mono (by decide)) (by rfl) T.g_check_list T.F_check_list.kp T.b_check_list .nil pass0 (pa_cons pe_str (pa_cons (pv 2) pa_nil))))
      (pss_cons (ps_fld (pv 0) pe_dnewK rfl)
      (pss_cons (ps_for PassesOwn.never rfl (pi_list (pv 1)) (pg_name (i := 8) sc_Config_init.nd rfl (Or.inl rfl))
        (pss_cons (ps_expr (pe_call (ok_check_token_row T) (hr.mono (by decide)) (by rfl) T.g_check_token_row T.F_check_token_row.kp T.b_check_token_row .nil pass0 (pa_cons (pv 8) pa_nil)))
      (pss_cons (ps_if (pt_cmp (pc_din hu (pe_ix ix_tup (pv 8) pe_int (fun _ _ => rfl)) (pe_fld (pv 0) rfl))) (pss_one ps_never) pss_nil)
      (pss_one (ps_dput hu (pe_fld (pv 0) rfl) (pe_ix ix_tup (pv 8) pe_int (fun _ _ => rfl)) (pv 8) rfl)))))
      (pss_cons (ps_for PassesOwn.never rfl (pi_list (pv 2)) (pg_name (i := 8) sc_Config_init.nd rfl (Or.inl rfl))
        (pss_one (ps_expr (pe_call (ok_check_balance_row T) (hr.mono (by decide)) (by rfl) T.g_check_balance_row T.F_check_balance_row.kp T.b_check_balance_row .nil pass0 (pa_cons (pv 8) (pa_cons (pe_fld (pv 0) rfl) pa_nil))))))
      (pss_cons (ps_if (pt_not (pt_val (pe_call (ok_is_set T) (hr.mono (by decide)) (by rfl) T.g_is_set T.F_is_set.kp T.b_is_set .nil pass0 (pa_cons (pv 3) pa_nil)))) (pss_one ps_never) pss_nil)
      (pss_cons (ps_expr (pe_call (ok_check_least T) (hr.mono (by decide)) (by rfl) T.g_check_least T.F_check_least.kp T.b_check_least .nil pass0 (pa_cons pe_str (pa_cons (pv 4) (pa_cons pe_int pa_nil)))))
      (pss_cons (ps_expr (pe_call (ok_check_least T) (hr.mono (by decide)) (by rfl) T.g_check_least T.F_check_least.kp T.b_check_least .nil pass0 (pa_cons pe_str (pa_cons (pv 5) (pa_cons pe_int pa_nil)))))
      (pss_cons (ps_expr (pe_call (ok_check_least T) (hr.mono (by decide)) (by rfl) T.g_check_least T.F_check_least.kp T.b_check_least .nil pass0 (pa_cons pe_str (pa_cons (pv 6) (pa_cons pe_int pa_nil)))))
      (pss_cons (ps_expr (pe_call (ok_check_least T) (hr.mono (by decide)) (by rfl) T.g_check_least T.F_check_least.kp T.b_check_least .nil pass0 (pa_cons pe_str (pa_cons (pv 7) (pa_cons pe_int pa_nil)))))
      (pss_cons (ps_if (pt_cmpR op_gt (pv 7) (pe_glob (v := .int 8) (by rfl) T.c_MOST_IN_BUNDLE ⟨_, rfl⟩) (nomark _)) (pss_one ps_never) pss_nil)
      (pss_cons (ps_fld (pv 0) (pe_callTy cq_listOf (by rfl) T.z_list boot_list (pa_cons (pv 2) pa_nil)) rfl)
      (pss_cons (ps_fld (pv 0) (pv 3) rfl)
      (pss_cons (ps_fld (pv 0) (pv 4) rfl)
      (pss_cons (ps_fld (pv 0) (pv 5) rfl)
      (pss_cons (ps_fld (pv 0) (pv 6) rfl)
      (pss_one (ps_fld (pv 0) (pv 7) rfl)))))))))))))))))), ?_⟩
    (dsimp only [cxOf, Cx.nox, Cx.wish, L2.start, List.map, List.length, List.replicate, List.cons_append, List.nil_append, List.append_eq, Nat.reduceSub, Nat.reduceAdd])
    walk_at "my_rd"
    refine ⟨_, tl, tv, rfl, sqL htl, fun H1 sm1 => ?_⟩
    walk_at "my_rd"
    refine ⟨_, bl, bv, rfl, sqL (sm1 _ _ hbl), fun H2 sm2 => ?_⟩
    have sm2 := Same.trans sm1 sm2
    walk_at "my_rd"
    refine q_dNew fun td ntd => ?_
    walk_at "my_rd"
    have hx2 := sm2 _ _ hx
    have nxd : x ≠ td := ne_of_none hx2 ntd
    have htd0 : H td = none := Same.free sm2 ntd
    refine q_fputK (upd_new ntd hx2) T.cl_Config T.n_Config_tokens (by show 0 < 1000; decide) ?_
    walk_at "my_rd"
    generalize hH3 : upd (upd H2 td (.dK [])) x _ = H3
    have hx3 : H3 x = some (.ins T.C_Config dx (putF "_tokens" (.ref td) [])) := by rw [← hH3]; exact upd_same
    have hd3 : H3 td = some (.dK []) := by rw [← hH3]; exact upd_other nxd.symm upd_same
    have kp3 : Kp x H H3 := by rw [← hH3]; exact Kp.upd (Kp.new (Same.kp sm2) htd0)
    have ntx : tl ≠ x := ne_of htl hx (by intro z; cases z)
    have nbx : bl ≠ x := ne_of hbl hx (by intro z; cases z)
    have lk0 : (putF "_tokens" (V.ref td) []).lookup ("_tokens" : Str) = some (.ref td) := rfl
    refine q_forL (sqL (Kp.get kp3 htl ntx)) (fun i σ H' => ∃ (kvs : List (Key × V)) (rv : Option V), σ = [some (.ref x), some (.ref tl), some (.ref bl), some (.ref g), some (.int c.depth), some (.int c.window), some (.int c.delay), some (.int c.bundle), rv] ∧
        H' x = some (.ins T.C_Config dx (putF "_tokens" (.ref td) [])) ∧ H' td = some (.dK kvs) ∧ TabAt H' kvs (c.toks.take i) ∧ Kp x H H')
      ⟨[], none, rfl, hx3, hd3, ⟨rfl, fun t ht => by simp at ht⟩, kp3⟩ (fun i σ H' _ ⟨_, _, _, _, _, _, kp⟩ => sqL (Kp.get kp htl ntx)) ?_ ?_
    · rintro i v σ H' hv ⟨kvs, rv, rfl, hx', hd', hTab, kp⟩
      obtain ⟨t, r, ht, rfl, hr0⟩ := hT.item hv
      have hr1 : H' r = some (.tup t.v) := Kp.get kp hr0 (ne_of hr0 hx (by intro z; cases z))
      have hmem := List.mem_of_getElem? ht
      have hnew : t.name ∉ (c.toks.take i).map TokR.name := by
        intro hm
        have h3 : ((c.toks.take (i + 1)).map TokR.name).Nodup := (List.Sublist.map _ (List.take_sublist _ _)).nodup hc.tn
        rw [take_snoc ht, List.map_append] at h3
        exact (List.nodup_append.mp h3).2.2 t.name hm t.name (by simp) rfl
      walk_at "my_rd"
      refine ⟨r, t, rfl, hr1, hc.t t hmem, fun H4 sm4 => ?_⟩
      have hx4 := sm4 _ _ hx'
      have hd4 := sm4 _ _ hd'
      have hr4 : H4 r = some (.tup [.str t.name, .str t.home, .int t.scale, .int t.limit, .int t.large]) := sm4 _ _ hr1
      have hTab4 : TabAt H4 kvs (c.toks.take i) := hTab.mono fun b ys q => sm4 _ _ q
      walk_at "my_rd"
      refine q_fldK hx4 T.cl_Config T.n_Config_tokens lk0 ?_
      walk_at "my_rd"
      rw [hTab4.has, decide_eq_false hnew]
      walk_at "my_rd"
      refine q_fldK hx4 T.cl_Config T.n_Config_tokens lk0 ?_
      walk_at "my_rd"
      have hvn : valV kvs (Sum.inr t.name) = none := by
        have := hTab4.has t.name
        rw [decide_eq_false hnew] at this
        cases q : valV kvs (Sum.inr t.name) with
        | none => rfl
        | some _ => rw [q] at this; cases this
      refine q_dPutS hd4 (by rw [hTab4.len, List.length_take]; exact small1000 (by have := hc.tl; omega)) ?_
      walk_at "my_rd"
      have ett : c.toks.take (i + 1) = c.toks.take i ++ [t] := take_snoc ht
      have smu : ∀ b ys, H4 b = some (HO.tup ys) → upd H4 td (.dK (putK kvs (Sum.inr t.name) (.ref r))) b = some (.tup ys) := fun b ys q => upd_other (ne_of q hd4 (by intro z; cases z)) q
      refine ⟨putK kvs (Sum.inr t.name) (.ref r), _, rfl, upd_other nxd hx4, upd_same, ⟨?_, ?_⟩, Kp.new (Kp.trans kp (Same.kp sm4)) htd0⟩
      · rw [putK_new _ hvn, List.map_append, hTab4.keys, ett, List.map_append, List.map_append]
        rfl
      · intro t' ht'
        rw [ett] at ht'
        rw [valV_put hvn]
        rcases List.mem_append.mp ht' with h | h
        · obtain ⟨r', h1, h2⟩ := hTab4.at_ t' h
          refine ⟨r', ?_, smu _ _ h2⟩
          rw [if_neg, h1]
          intro e
          injection e with e
          exact hnew (e ▸ List.mem_map.mpr ⟨t', h, rfl⟩)
        · have e := List.mem_singleton.mp h
          subst e
          exact ⟨r, by rw [if_pos rfl], smu _ _ hr4⟩
    · rintro σ H4 ⟨kvs, rv, rfl, hx4, hd4, hTab4, kp4⟩
      have et : c.toks.take tv.length = c.toks := List.take_of_length_le (by rw [hT.len]; exact Nat.le_refl _)
      rw [et] at hTab4
      walk_at "my_rd"
      refine q_forL (sqL (Kp.get kp4 hbl nbx)) (fun i σ H' => ∃ (rv : Option V), σ = [some (.ref x), some (.ref tl), some (.ref bl), some (.ref g), some (.int c.depth), some (.int c.window), some (.int c.delay), some (.int c.bundle), rv] ∧ Same H4 H')
        ⟨_, rfl, Same.refl _⟩ (fun i σ H' _ ⟨_, _, sm⟩ => sqL (sm _ _ (Kp.get kp4 hbl nbx))) ?_ ?_
      · rintro i v σ H' hv ⟨rv, rfl, sm⟩
        obtain ⟨b, r, hb, rfl, hr0⟩ := hB.item hv
        have hr1 : H' r = some (.tup b.v) := sm _ _ (Kp.get kp4 hr0 (ne_of hr0 hx (by intro z; cases z)))
        walk_at "my_rd"
        refine q_fldK (sm _ _ hx4) T.cl_Config T.n_Config_tokens lk0 ?_
        walk_at "my_rd"
        refine ⟨r, td, b, kvs, c.toks, rfl, hr1, sm _ _ hd4, hTab4.mono fun b ys q => sm _ _ q, hc.b b (List.mem_of_getElem? hb), fun H5 sm5 => ?_⟩
        walk_at "my_rd"
        exact ⟨_, rfl, Same.trans sm sm5⟩
      · rintro σ H5 ⟨rv, rfl, sm5⟩
        have kp5 := Kp.trans kp4 (Same.kp sm5)
        have hG5 : TupDp K H5 (.ref g) gd := hG.mono fun b ys q => Kp.get kp5 q (ne_of q hx (by intro z; cases z))
        walk_at "my_rd"
        refine ⟨.ref g, gd, rfl, hG5.dp, hfine, fun H6 sm6 => ?_⟩
        rw [hset]
        walk_at "my_rd"
        refine ⟨_, c.depth, 1, rfl, hc.d, fun H7 sm7 => ?_⟩
        walk_at "my_rd"
        refine ⟨_, c.window, 1, rfl, hc.w, fun H8 sm8 => ?_⟩
        walk_at "my_rd"
        refine ⟨_, c.delay, 0, rfl, hc.y, fun H9 sm9 => ?_⟩
        walk_at "my_rd"
        refine ⟨_, c.bundle, 1, rfl, hc.u, fun H10 sm10 => ?_⟩
        walk_at "my_rd"
        rw [decide_eq_false (show ¬ (8 : Int) < c.bundle by have := hc.u8; omega)]
        walk_at "my_rd"
        have sm : Same H4 H10 := Same.trans sm5 (Same.trans sm6 (Same.trans sm7 (Same.trans sm8 (Same.trans sm9 sm10))))
        have kp10 : Kp x H H10 := Kp.trans kp4 (Same.kp sm)
        refine q_listL (sqL (Kp.get kp10 hbl nbx)) fun nb nnb => ?_
        walk_at "my_rd"
        have hx10 := sm _ _ hx4
        have nxb : x ≠ nb := ne_of_none hx10 nnb
        have ndb : td ≠ nb := ne_of_none (sm _ _ hd4) nnb
        have hnb0 : H nb = none := Kp.fresh kp10 hx nnb nxb.symm
        refine q_fputK (upd_new nnb hx10) T.cl_Config T.n_Config_balances (by show 1 < 1000; decide) ?_
        walk_at "my_rd"
        refine q_fputK upd_same T.cl_Config T.n_Config_guards (by show _ < 1000; exact Nat.lt_of_le_of_lt (q_fldlen (n := 1) (by show 1 ≤ 1; decide)) (by decide)) ?_
        walk_at "my_rd"
        refine q_fputK upd_same T.cl_Config T.n_Config_depth (Nat.lt_of_le_of_lt (q_fldlen (n := 2) (q_fldlen (n := 1) (by show 1 ≤ 1; decide))) (by decide)) ?_
        walk_at "my_rd"
        refine q_fputK upd_same T.cl_Config T.n_Config_window (Nat.lt_of_le_of_lt (q_fldlen (n := 3) (q_fldlen (n := 2) (q_fldlen (n := 1) (by show 1 ≤ 1; decide)))) (by decide)) ?_
        walk_at "my_rd"
        refine q_fputK upd_same T.cl_Config T.n_Config_delay (Nat.lt_of_le_of_lt (q_fldlen (n := 4) (q_fldlen (n := 3) (q_fldlen (n := 2) (q_fldlen (n := 1) (by show 1 ≤ 1; decide))))) (by decide)) ?_
        walk_at "my_rd"
        refine q_fputK upd_same T.cl_Config T.n_Config_bundle (Nat.lt_of_le_of_lt (q_fldlen (n := 5) (q_fldlen (n := 4) (q_fldlen (n := 3) (q_fldlen (n := 2) (q_fldlen (n := 1) (by show 1 ≤ 1; decide)))))) (by decide)) ?_
        walk_at "my_rd"
        rw [upd_upd, upd_upd, upd_upd, upd_upd, upd_upd]
        have kpU : ∀ o, Kp x H (upd (upd H10 nb (.lst bv)) x o) := fun o => Kp.upd (Kp.new kp10 hnb0)
        have tupU : ∀ o b ys, H10 b = some (HO.tup ys) → upd (upd H10 nb (.lst bv)) x o b = some (.tup ys) := fun o b ys q => upd_other (ne_of q hx10 (by intro z; cases z)) (upd_new nnb q)
        refine k _ ⟨⟨dx, _, td, nb, kvs, bv, upd_same, ?_, ?_, ?_, ?_, ?_, ?_, ?_, ?_, upd_other nxd.symm (upd_new nnb (sm _ _ hd4)), (hTab4.mono fun b ys q => sm _ _ q).mono (tupU _), upd_other nxb.symm upd_same, ?_⟩⟩ (kpU _)
        · (repeat first | rfl | rw [lookup_putF, if_pos rfl] | rw [lookup_putF, if_neg (by decide +kernel)])
        · (repeat first | rfl | rw [lookup_putF, if_pos rfl] | rw [lookup_putF, if_neg (by decide +kernel)])
        · (repeat first | rfl | rw [lookup_putF, if_pos rfl] | rw [lookup_putF, if_neg (by decide +kernel)])
        · (repeat first | rfl | rw [lookup_putF, if_pos rfl] | rw [lookup_putF, if_neg (by decide +kernel)])
        · (repeat first | rfl | rw [lookup_putF, if_pos rfl] | rw [lookup_putF, if_neg (by decide +kernel)])
        · (repeat first | rfl | rw [lookup_putF, if_pos rfl] | rw [lookup_putF, if_neg (by decide +kernel)])
        · (repeat first | rfl | rw [lookup_putF, if_pos rfl] | rw [lookup_putF, if_neg (by decide +kernel)])
        · intro m hm
          have hne : ∀ z ∈ cfgNames, ¬ m = z := fun z hz e => hm (e ▸ hz)
          rw [lookup_putF, if_neg (hne _ (by decide +kernel)), lookup_putF, if_neg (hne _ (by decide +kernel)), lookup_putF, if_neg (hne _ (by decide +kernel)), lookup_putF, if_neg (hne _ (by decide +kernel)), lookup_putF, if_neg (hne _ (by decide +kernel)), lookup_putF, if_neg (hne _ (by decide +kernel)), lookup_putF, if_neg (hne _ (by decide +kernel))]
          rfl
        · exact (hB.kp hx kp10).mono (tupU _)
end

def Parts.homeOf (c : Parts) (s : Str) : Str := ((c.toks.find? fun t => decide (t.name = s)).map TokR.home).getD ""
theorem find_name {ts : List TokR} (hn : (ts.map TokR.name).Nodup) {t : TokR} (ht : t ∈ ts) : (ts.find? fun u => decide (u.name = t.name)) = some t := by
  induction ts with
  | nil => cases ht
  | cons u r ih =>
    obtain ⟨h1, h2⟩ := List.nodup_cons.mp (show (u.name :: r.map TokR.name).Nodup from hn)
    rw [List.find?_cons]
    rcases List.mem_cons.mp ht with e | e
    · subst e
      rw [decide_eq_true rfl]
    · have : ¬ u.name = t.name := fun q => h1 (q ▸ List.mem_map.mpr ⟨t, e, rfl⟩)
      rw [decide_eq_false this]
      exact ih h2 e
theorem Parts.home_eq {c : Parts} (h : c.Ok) {t : TokR} (ht : t ∈ c.toks) : c.homeOf t.name = t.home := by
  unfold Parts.homeOf
  rw [find_name h.tn ht]
  rfl
def sp_getI (C : Addr) (f : Parts → Int) : Sp := fun vs H Q _ => ∃ (x g : Addr) (c : Parts), vs = [.ref x] ∧ CfgAt C c g H x ∧ Q (.int (f c)) H
def sp_guards (C : Addr) : Sp := fun vs H Q _ => ∃ (x g : Addr) (c : Parts), vs = [.ref x] ∧ CfgAt C c g H x ∧ Q (.ref g) H
def sp_tokchk (C : Addr) : Sp := fun vs H Q _ => ∃ (x g : Addr) (c : Parts) (t : TokR), vs = [.ref x, .str t.name] ∧ CfgAt C c g H x ∧ t ∈ c.toks ∧ Q .non H
def sp_tok (C : Addr) (f : TokR → V) : Sp := fun vs H Q _ => ∃ (x g : Addr) (c : Parts) (t : TokR), vs = [.ref x, .str t.name] ∧ CfgAt C c g H x ∧ t ∈ c.toks ∧ Q (f t) H
def sp_opening (C : Addr) : Sp := fun vs H Q _ => ∃ (x g : Addr) (c : Parts) (s : Str), vs = [.ref x, .str s] ∧ CfgAt C c g H x ∧ c.Ok ∧ ∀ (p : Addr) (ys : List V) (H' : Hp), H p = none → H' p = some (.lst ys) → RowsAt BalR.v H' ys (c.bals.filter fun b => decide (c.homeOf b.tok = s)) → Same H H' → Q (.ref p) H'
section
variable {P : Program} {w : World} {K : PySem.W.Frag} {mg : Str → Option Value} {base : Heap}
theorem ok_Config_depth (T : Txt K mg) : FnOk P w K mg base CX0 1 T.f_Config_depth T.d_Config_depth ["self"] (sp_getI T.C_Config Parts.depth) := by
  refine T.F_Config_depth.ok sc_Config_depth (fun vs H Q E h => ?_) (fun cdv A outer s H vs Q E hr h => ?_)
  · obtain ⟨x, g, c, rfl, _⟩ := h; rfl
  · obtain ⟨x, g, c, rfl, hC, k⟩ := h
    obtain ⟨dx, fs, td, bl, kvs, bv, h1, h2, h3, h4, h5, h6, h7, h8, h9, h10, h11, h12, h13⟩ := hC.ex
    refine ⟨_, (pss_one (ps_ret (pe_fld (pv 0) rfl))), ?_⟩
    (dsimp only [cxOf, Cx.nox, Cx.wish, L2.start, List.map, List.length, List.replicate, List.cons_append, List.nil_append, List.append_eq, Nat.reduceSub, Nat.reduceAdd])
    walk_at "my_rd"
    refine q_fldK h1 T.cl_Config T.n_Config_depth h5 ?_
    exact k
theorem ok_Config_window (T : Txt K mg) : FnOk P w K mg base CX0 1 T.f_Config_window T.d_Config_window ["self"] (sp_getI T.C_Config Parts.window) := by
  refine T.F_Config_window.ok sc_Config_window (fun vs H Q E h => ?_) (fun cdv A outer s H vs Q E hr h => ?_)
  · obtain ⟨x, g, c, rfl, _⟩ := h; rfl
  · obtain ⟨x, g, c, rfl, hC, k⟩ := h
    obtain ⟨dx, fs, td, bl, kvs, bv, h1, h2, h3, h4, h5, h6, h7, h8, h9, h10, h11, h12, h13⟩ := hC.ex
    refine ⟨_, (pss_one (ps_ret (pe_fld (pv 0) rfl))), ?_⟩
    (dsimp only [cxOf, Cx.nox, Cx.wish, L2.start, List.map, List.length, List.replicate, List.cons_append, List.nil_append, List.append_eq, Nat.reduceSub, Nat.reduceAdd])
    walk_at "my_rd"
    refine q_fldK h1 T.cl_Config T.n_Config_window h6 ?_
    exact k
theorem ok_Config_delay (T : Txt K mg) : FnOk P w K mg base CX0 1 T.f_Config_delay T.d_Config_delay ["self"] (sp_getI T.C_Config Parts.delay) := by
  refine T.F_Config_delay.ok sc_Config_delay (fun vs H Q E h => ?_) (fun cdv A outer s H vs Q E hr h => ?_)
  · obtain ⟨x, g, c, rfl, _⟩ := h; rfl
  · obtain ⟨x, g, c, rfl, hC, k⟩ := h
    obtain ⟨dx, fs, td, bl, kvs, bv, h1, h2, h3, h4, h5, h6, h7, h8, h9, h10, h11, h12, h13⟩ := hC.ex
    refine ⟨_, (pss_one (ps_ret (pe_fld (pv 0) rfl))), ?_⟩
    (dsimp only [cxOf, Cx.nox, Cx.wish, L2.start, List.map, List.length, List.replicate, List.cons_append, List.nil_append, List.append_eq, Nat.reduceSub, Nat.reduceAdd])
    walk_at "my_rd"
    refine q_fldK h1 T.cl_Config T.n_Config_delay h7 ?_
    exact k
theorem ok_Config_bundle (T : Txt K mg) : FnOk P w K mg base CX0 1 T.f_Config_bundle T.d_Config_bundle ["self"] (sp_getI T.C_Config Parts.bundle) := by
  refine T.F_Config_bundle.ok sc_Config_bundle (fun vs H Q E h => ?_) (fun cdv A outer s H vs Q E hr h => ?_)
  · obtain ⟨x, g, c, rfl, _⟩ := h; rfl
  · obtain ⟨x, g, c, rfl, hC, k⟩ := h
    obtain ⟨dx, fs, td, bl, kvs, bv, h1, h2, h3, h4, h5, h6, h7, h8, h9, h10, h11, h12, h13⟩ := hC.ex
    refine ⟨_, (pss_one (ps_ret (pe_fld (pv 0) rfl))), ?_⟩
    (dsimp only [cxOf, Cx.nox, Cx.wish, L2.start, List.map, List.length, List.replicate, List.cons_append, List.nil_append, List.append_eq, Nat.reduceSub, Nat.reduceAdd])
    walk_at "my_rd"
    refine q_fldK h1 T.cl_Config T.n_Config_bundle h8 ?_
    exact k
theorem ok_Config_guards (T : Txt K mg) : FnOk P w K mg base CX0 1 T.f_Config_guards T.d_Config_guards ["self"] (sp_guards T.C_Config) := by
  refine T.F_Config_guards.ok sc_Config_guards (fun vs H Q E h => ?_) (fun cdv A outer s H vs Q E hr h => ?_)
  · obtain ⟨x, g, c, rfl, _⟩ := h; rfl
  · obtain ⟨x, g, c, rfl, hC, k⟩ := h
    obtain ⟨dx, fs, td, bl, kvs, bv, h1, h2, h3, h4, h5, h6, h7, h8, h9, h10, h11, h12, h13⟩ := hC.ex
    refine ⟨_, (pss_one (ps_ret (pe_fld (pv 0) rfl))), ?_⟩
    (dsimp only [cxOf, Cx.nox, Cx.wish, L2.start, List.map, List.length, List.replicate, List.cons_append, List.nil_append, List.append_eq, Nat.reduceSub, Nat.reduceAdd])
    walk_at "my_rd"
    refine q_fldK h1 T.cl_Config T.n_Config_guards h4 ?_
    exact k
theorem ok_Config_check_token (T : Txt K mg) : FnOk P w K mg base CX0 1 T.f_Config_check_token T.d_Config_check_token ["self", "token"] (sp_tokchk T.C_Config) := by
  refine T.F_Config_check_token.ok sc_Config_check_token (fun vs H Q E h => ?_) (fun cdv A outer s H vs Q E hr h => ?_)
  · obtain ⟨x, g, c, t, rfl, _⟩ := h; rfl
  · obtain ⟨x, g, c, t, rfl, hC, ht, k⟩ := h
    have hu := hu_of hr
    obtain ⟨dx, fs, td, bl, kvs, bv, h1, h2, h3, h4, h5, h6, h7, h8, h9, h10, h11, h12, h13⟩ := hC.ex
    refine ⟨_, (pss_one (ps_if (pt_cmp (pc_dnotin hu (pv 1) (pe_fld (pv 0) rfl))) (pss_one ps_never) pss_nil)), ?_⟩
    (dsimp only [cxOf, Cx.nox, Cx.wish, L2.start, List.map, List.length, List.replicate, List.cons_append, List.nil_append, List.append_eq, Nat.reduceSub, Nat.reduceAdd])
    walk_at "my_rd"
    refine q_fldK h1 T.cl_Config T.n_Config_tokens h2 ?_
    walk_at "my_rd"
    rw [h11.has, decide_eq_true (List.mem_map.mpr ⟨t, ht, rfl⟩)]
    walk_at "my_rd"
    exact k
theorem no_check_token : ("check_token" : Str) ∉ cfgNames := by decide +kernel
theorem no_home : ("home" : Str) ∉ cfgNames := by decide +kernel
theorem no_scale : ("scale" : Str) ∉ cfgNames := by decide +kernel
theorem no_opening : ("opening" : Str) ∉ cfgNames := by decide +kernel
theorem ok_Config_home (T : Txt K mg) : FnOk P w K mg base CX0 2 T.f_Config_home T.d_Config_home ["self", "token"] (sp_tok T.C_Config fun t => .str t.home) := by
  refine T.F_Config_home.ok sc_Config_home (fun vs H Q E h => ?_) (fun cdv A outer s H vs Q E hr h => ?_)
  · obtain ⟨x, g, c, t, rfl, _⟩ := h; rfl
  · obtain ⟨x, g, c, t, rfl, hC, ht, k⟩ := h
    have hu := hu_of hr
    obtain ⟨dx, fs, td, bl, kvs, bv, h1, h2, h3, h4, h5, h6, h7, h8, h9, h10, h11, h12, h13⟩ := hC.ex
    obtain ⟨r, hv, hr0⟩ := h11.at_ t ht
    have hr1 : H r = some (.tup [.str t.name, .str t.home, .int t.scale, .int t.limit, .int t.large]) := hr0
    refine ⟨_, (pss_cons (ps_expr (pe_meth (pv 0) T.cl_Config T.m_Config_check_token (ok_Config_check_token T) (hr.mono (by decide)) T.b_Config_check_token .nil pass0 (pa_cons (pv 1) pa_nil)))
      (pss_one (ps_ret (pe_ix ix_tup (pe_dget hu (pe_fld (pv 0) rfl) (pv 1) (fun _ _ => rfl)) pe_int (fun _ _ => rfl))))), ?_⟩
    (dsimp only [cxOf, Cx.nox, Cx.wish, L2.start, List.map, List.length, List.replicate, List.cons_append, List.nil_append, List.append_eq, Nat.reduceSub, Nat.reduceAdd])
    walk_at "my_rd"
    refine q_methK h1 (h9 _ no_check_token) fun R hR => ?_
    walk_at "my_rd"
    refine hR _ _ ⟨x, g, c, t, rfl, hC, ht, ?_⟩
    walk_at "my_rd"
    refine q_fldK h1 T.cl_Config T.n_Config_tokens h2 ?_
    walk_at "my_rd"
    refine q_dGetS h10 hv ?_
    walk_at "my_rd"
    exact k
theorem ok_Config_scale (T : Txt K mg) : FnOk P w K mg base CX0 2 T.f_Config_scale T.d_Config_scale ["self", "token"] (sp_tok T.C_Config fun t => .int t.scale) := by
  refine T.F_Config_scale.ok sc_Config_scale (fun vs H Q E h => ?_) (fun cdv A outer s H vs Q E hr h => ?_)
  · obtain ⟨x, g, c, t, rfl, _⟩ := h; rfl
  · obtain ⟨x, g, c, t, rfl, hC, ht, k⟩ := h
    have hu := hu_of hr
    obtain ⟨dx, fs, td, bl, kvs, bv, h1, h2, h3, h4, h5, h6, h7, h8, h9, h10, h11, h12, h13⟩ := hC.ex
    obtain ⟨r, hv, hr0⟩ := h11.at_ t ht
    have hr1 : H r = some (.tup [.str t.name, .str t.home, .int t.scale, .int t.limit, .int t.large]) := hr0
    refine ⟨_, (pss_cons (ps_expr (pe_meth (pv 0) T.cl_Config T.m_Config_check_token (ok_Config_check_token T) (hr.mono (by decide)) T.b_Config_check_token .nil pass0 (pa_cons (pv 1) pa_nil)))
      (pss_one (ps_ret (pe_ix ix_tup (pe_dget hu (pe_fld (pv 0) rfl) (pv 1) (fun _ _ => rfl)) pe_int (fun _ _ => rfl))))), ?_⟩
    (dsimp only [cxOf, Cx.nox, Cx.wish, L2.start, List.map, List.length, List.replicate, List.cons_append, List.nil_append, List.append_eq, Nat.reduceSub, Nat.reduceAdd])
    walk_at "my_rd"
    refine q_methK h1 (h9 _ no_check_token) fun R hR => ?_
    walk_at "my_rd"
    refine hR _ _ ⟨x, g, c, t, rfl, hC, ht, ?_⟩
    walk_at "my_rd"
    refine q_fldK h1 T.cl_Config T.n_Config_tokens h2 ?_
    walk_at "my_rd"
    refine q_dGetS h10 hv ?_
    walk_at "my_rd"
    exact k
theorem ok_Config_opening (T : Txt K mg) : FnOk P w K mg base CX0 3 T.f_Config_opening T.d_Config_opening ["self", "side"] (sp_opening T.C_Config) := by
  refine T.F_Config_opening.ok sc_Config_opening (fun vs H Q E h => ?_) (fun cdv A outer s H vs Q E hr h => ?_)
  · obtain ⟨x, g, c, sd, rfl, _⟩ := h; rfl
  · obtain ⟨x, g, c, sd, rfl, hC, hc, k⟩ := h
    obtain ⟨dx, fs, td, bl, kvs, bv, h1, h2, h3, h4, h5, h6, h7, h8, h9, h10, h11, h12, h13⟩ := hC.ex
    refine ⟨_, (pss_one (ps_ret (pe_lc (own := [("row", 2)]) (g := (gName 2)) (tt := (tTest (tOp rEq (tMeth T.C_Config "home" (sp_tok T.C_Config fun t => .str t.home) [] E0 (tVar 0) (tCons (tOp (rIxT K) (tVar 2) (tC (.int 1))) tNil)) (tVar 1)))) (te := (tVar 2)) rfl sc_Config_opening.nd (pi_list (pe_fld (pv 0) rfl)) (blkOk_by (own := [("row", 2)]) (N := ["self", "side", "row"]) (sc := defScope s_Config_opening) (by decide +kernel)) (fun _ _ _ _ _ => (pg_name (i := 2) sc_Config_opening.nd rfl (Or.inl rfl))) (fun _ _ _ _ _ => (pts_one (pt_cmpR op_eq (pe_meth (pv 0) T.cl_Config T.m_Config_home (ok_Config_home T) (hr.mono (by decide)) T.b_Config_home .nil pass0 (pa_cons (pe_ix ix_tup (pv 2) pe_int (fun _ _ => rfl)) pa_nil)) (pv 1) (nomark _)))) (fun _ _ _ _ _ => (pv 2))))), ?_⟩
    (dsimp only [cxOf, Cx.nox, Cx.wish, L2.start, List.map, List.length, List.replicate, List.cons_append, List.nil_append, List.append_eq, Nat.reduceSub, Nat.reduceAdd])
    walk_at "my_rd"
    refine q_fldK h1 T.cl_Config T.n_Config_balances h3 ?_
    refine q_lcL (sqL h12) (fun D nD => ⟨fun i H2 => ∃ ys, Same H H2 ∧ H2 D = some (.lst ys) ∧ RowsAt BalR.v H2 ys ((c.bals.take i).filter fun b => decide (c.homeOf b.tok = sd)), ⟨[], Same.new (Same.refl _) nD, upd_same, RowsAt.nil⟩, fun i H2 _ ⟨_, sm, _⟩ => sqL (sm _ _ h12), ?_, ?_⟩)
    · rintro i v H2 hv ⟨ys, sm, hD, hR⟩
      obtain ⟨b, r, hb, rfl, hr0⟩ := h13.item hv
      have hr1 : H2 r = some (.tup [.str b.acc, .str b.tok, .int b.amt]) := sm _ _ hr0
      have hbo := hc.b b (List.mem_of_getElem? hb)
      obtain ⟨t, ht, hte⟩ := List.mem_map.mp hbo.tm
      have et : (c.bals.take (i + 1)).filter (fun b => decide (c.homeOf b.tok = sd)) = (c.bals.take i).filter (fun b => decide (c.homeOf b.tok = sd)) ++ (if decide (c.homeOf b.tok = sd) = true then [b] else []) := by
        rw [take_snoc hb, List.filter_append, List.filter_cons, List.filter_nil]
      have eh : c.homeOf b.tok = t.home := by rw [← hte]; exact Parts.home_eq hc ht
      walk_at "my_rd"
      refine ⟨rfl, ?_⟩
      walk_at "my_rd"
      refine q_methK (sm _ _ h1) (h9 _ no_home) fun R hR2 => ?_
      walk_at "my_rd"
      refine hR2 _ _ ⟨x, g, c, t, by rw [hte], hC.same sm, ht, ?_⟩
      walk_at "my_rd"
      rw [eh] at et
      refine q_keep2 (fun h => ?_) (fun h => ?_)
      · walk_at "my_rd"
        refine q_accK hD ?_ ?_
        · rw [hR.len]
          have := List.length_filter_le (fun b => decide (c.homeOf b.tok = sd)) (c.bals.take i)
          rw [List.length_take] at this
          exact small1000 (by have := hc.bl; omega)
        · refine ⟨_, Same.new sm nD, upd_same, ?_⟩
          rw [et, if_pos h]
          exact (hR.snoc (r := b) hr1).mono fun b' ys' q => upd_other (ne_of q hD (by intro z; cases z)) q
      · refine ⟨ys, sm, hD, ?_⟩
        rw [et, if_neg (by rw [h]; exact Bool.false_ne_true), List.append_nil]
        exact hR
    · rintro H2 ⟨ys, sm, hD, hR⟩
      have e : c.bals.take bv.length = c.bals := List.take_of_length_le (by rw [h13.len]; exact Nat.le_refl _)
      rw [e] at hR
      exact k D ys H2 nD hD hR sm
end

/-! the law's configuration -/
theorem RowsAt.pot {α : Type} {f : α → List V} {H H' : Hp} {xs : List V} {rs : List α} {p l : Addr} (h : RowsAt f H xs rs) (pot : PotAt H p l) (k : Kp p H H') : RowsAt f H' xs rs := h.mono fun b ys q => k.tup pot q
theorem RowsAt.updL {α : Type} {f : α → List V} {H : Hp} {xs ys zs : List V} {rs : List α} {F : Addr} (h : RowsAt f H xs rs) (hF : H F = some (.lst ys)) : RowsAt f (upd H F (.lst zs)) xs rs := h.mono fun b ws q => upd_other (ne_of q hF (by intro z; cases z)) q
theorem RowsAt.new {α : Type} {f : α → List V} {H : Hp} {xs : List V} {rs : List α} {F : Addr} {o : HO} (h : RowsAt f H xs rs) (hF : H F = none) : RowsAt f (upd H F o) xs rs := h.mono fun b ws q => upd_new hF q
theorem menu {l : List V} {r : Int} (h0 : 0 ≤ r) (h1 : r < l.length) : ∃ v, atI l r = some v ∧ v ∈ l :=
  ⟨l[r.toNat]'(by omega), at_int (n := r.toNat) (by omega) (List.getElem?_eq_getElem _), List.getElem_mem _⟩
theorem menuS {ss : List Str} {r : Int} (h0 : 0 ≤ r) (h1 : r < ss.length) : ∃ s, atI (ss.map V.str) r = some (.str s) ∧ s ∈ ss := by
  obtain ⟨v, h, m⟩ := menu (l := ss.map V.str) h0 (by rw [List.length_map]; exact h1)
  obtain ⟨s, hs, rfl⟩ := List.mem_map.mp m
  exact ⟨s, h, hs⟩
theorem menuI {ss : List Int} {r : Int} (h0 : 0 ≤ r) (h1 : r < ss.length) : ∃ s, atI (ss.map V.int) r = some (.int s) ∧ s ∈ ss := by
  obtain ⟨v, h, m⟩ := menu (l := ss.map V.int) h0 (by rw [List.length_map]; exact h1)
  obtain ⟨s, hs, rfl⟩ := List.mem_map.mp m
  exact ⟨s, h, hs⟩
def tokNames : List Str := ["coin", "gold", "iron"]
def accNames : List Str := ["ann", "bob", "cyd"]
def sideNames : List Str := ["west", "east"]
def scales : List Int := [1, 1, 7, 1000]
def limits : List Int := [10 ^ (9 : Int).toNat, 10 ^ (9 : Int).toNat, 5, 0]
def larges : List Int := [10 ^ (9 : Int).toNat, 30, 3, 1]
def amounts : List Int := [0, 5, 40, 5000, 10 ^ (6 : Int).toNat]
theorem tokNames_ok : ∀ z ∈ tokNames, shortD 12 (.str z) = true ∧ z.length ≤ 12 := by decide +kernel
theorem accNames_ok : ∀ z ∈ accNames, accD (.str z) = true ∧ z.length ≤ 20 := by decide +kernel
theorem sideNames_ok : ∀ z ∈ sideNames, sideD (.str z) = true := by decide +kernel
theorem scales_ok : ∀ z ∈ scales, 1 ≤ z ∧ z ≤ 1000 := by decide
theorem limits_ok : ∀ z ∈ limits, 0 ≤ z := by decide
theorem larges_ok : ∀ z ∈ larges, 1 ≤ z := by decide
theorem amounts_ok : ∀ z ∈ amounts, 0 ≤ z ∧ z ≤ 1000000 := by decide
theorem tokNames_nd : tokNames.Nodup := by decide +kernel
theorem gnames_ok : ∀ z ∈ allNames, accD (.str z) = true ∧ z.length ≤ 20 ∧ PyData.strOk z = true := by decide +kernel
/-- what is drawn -/
structure CfgOk (c : Parts) (gs : Gs) : Prop where
  ok : c.Ok
  ne : c.toks ≠ []
  tn : ∀ t ∈ c.toks, t.name ∈ tokNames
  th : ∀ t ∈ c.toks, t.home ∈ sideNames
  ts : ∀ t ∈ c.toks, t.scale ≤ 1000
  tl : c.toks.length ≤ 3
  gd : Drawn gs
  ba : ∀ b ∈ c.bals, b.acc ∈ accNames ∨ (gs[0]?).map (·.1) = some b.acc
  bm : ∀ b ∈ c.bals, b.amt ≤ 1000000
  bl : c.bals.length ≤ 10
  d : c.depth ≤ 3
  w : c.window ≤ 4
  y : c.delay ≤ 3
  u : c.bundle ≤ 3
def partKvs (tl bl g : Addr) (c : Parts) : List (Key × V) := [(Sum.inr "tokens", .ref tl), (Sum.inr "balances", .ref bl), (Sum.inr "guards", .ref g), (Sum.inr "depth", .int c.depth), (Sum.inr "window", .int c.window), (Sum.inr "delay", .int c.delay), (Sum.inr "bundle", .int c.bundle)]
theorem part_nd (tl bl g : Addr) (c : Parts) : ((partKvs tl bl g c).map (·.1)).Nodup := by
  show ([Sum.inr "tokens", Sum.inr "balances", Sum.inr "guards", Sum.inr "depth", Sum.inr "window", Sum.inr "delay", Sum.inr "bundle"] : List Key).Nodup
  decide +kernel
structure PartsAt (H : Hp) (d : Addr) (c : Parts) (gs : Gs) (tl bl g : Addr) (tv bv gv : List V) : Prop where
  dict : H d = some (.dK (partKvs tl bl g c))
  tl : H tl = some (.lst tv)
  tr : RowsAt TokR.v H tv c.toks
  bl : H bl = some (.lst bv)
  br : RowsAt BalR.v H bv c.bals
  gt : H g = some (.tup gv)
  gp : PairsAt H gv gs
theorem PartsAt.same {H H' : Hp} {d : Addr} {c : Parts} {gs : Gs} {tl bl g : Addr} {tv bv gv : List V} (h : PartsAt H d c gs tl bl g tv bv gv) (e : Same H H') : PartsAt H' d c gs tl bl g tv bv gv :=
  ⟨e _ _ h.dict, e _ _ h.tl, h.tr.same e, e _ _ h.bl, h.br.same e, e _ _ h.gt, h.gp.same e⟩
def sp_Lconfig : Sp := fun vs H Q _ => ∃ (p l : Addr), vs = [.ref p] ∧ PotAt H p l ∧ ∀ (d : Addr) (c : Parts) (gs : Gs) (tl bl g : Addr) (tv bv gv : List V) (H' : Hp), H d = none → H tl = none → H bl = none → PartsAt H' d c gs tl bl g tv bv gv → CfgOk c gs → PotAt H' p l → Kp p H H' → Q (.ref d) H'
section
variable {P : Program} {w : World} {K : PySem.W.Frag} {mg : Str → Option Value} {base : Heap}
theorem ok_L_config (T : Txt K mg) : FnOk P w K mg base CX0 3 T.f_L_config T.d_L_config ["pot"] sp_Lconfig := by
  refine T.F_L_config.ok sc_L_config (fun vs H Q E h => ?_) (fun cdv A outer s H vs Q E hr h => ?_)
  · obtain ⟨p, l, rfl, _⟩ := h; rfl
  · obtain ⟨p, l, rfl, pot, k⟩ := h
    obtain ⟨po, hpo⟩ := pot.at
    refine ⟨_, (pss_cons (ps_set (i := 1) sc_L_config.nd rfl (Or.inl rfl) (pe_lst pa_nil))
      (pss_cons (ps_for PassesOwn.never rfl (pi_list (pe_slice sl_list (pe_lst (pa_cons pe_str (pa_cons pe_str (pa_cons pe_str pa_nil)))) po_none (po_some (pe_op op_add pe_int (pe_call (ok_L_next T) (hr.mono (by decide)) (by rfl) T.g_L_next T.F_L_next.kp T.b_L_next .nil pass0 (pa_cons (pv 0) (pa_cons pe_int pa_nil))))))) (pg_name (i := 2) sc_L_config.nd rfl (Or.inl rfl))
        (pss_one (ps_expr (pe_bm PySem.F.plainAttrs_list PySem.F.slot_list_append PySem.F.type_list_append mt_append (pv 1) (pa_cons (pe_tup (pa_cons (pv 2) (pa_cons (pe_ix ix_list (pe_lst (pa_cons pe_str (pa_cons pe_str pa_nil))) (pe_call (ok_L_next T) (hr.mono (by decide)) (by rfl) T.g_L_next T.F_L_next.kp T.b_L_next .nil pass0 (pa_cons (pv 0) (pa_cons pe_int pa_nil))) (fun _ _ => rfl)) (pa_cons (pe_ix ix_list (pe_lst (pa_cons pe_int (pa_cons pe_int (pa_cons pe_int (pa_cons pe_int pa_nil))))) (pe_call (ok_L_next T) (hr.mono (by decide)) (by rfl) T.g_L_next T.F_L_next.kp T.b_L_next .nil pass0 (pa_cons (pv 0) (pa_cons pe_int pa_nil))) (fun _ _ => rfl)) (pa_cons (pe_ix ix_list (pe_lst (pa_cons (pe_op op_pow pe_int pe_int) (pa_cons (pe_op op_pow pe_int pe_int) (pa_cons pe_int (pa_cons pe_int pa_nil))))) (pe_call (ok_L_next T) (hr.mono (by decide)) (by rfl) T.g_L_next T.F_L_next.kp T.b_L_next .nil pass0 (pa_cons (pv 0) (pa_cons pe_int pa_nil))) (fun _ _ => rfl)) (pa_cons (pe_ix ix_list (pe_lst (pa_cons (pe_op op_pow pe_int pe_int) (pa_cons pe_int (pa_cons pe_int (pa_cons pe_int pa_nil))))) (pe_call (ok_L_next T) (hr.mono (by decide)) (by rfl) T.g_L_next T.F_L_next.kp T.b_L_next .nil pass0 (pa_cons (pv 0) (pa_cons pe_int pa_nil))) (fun _ _ => rfl)) pa_nil)))))) pa_nil)))))
      (pss_cons (ps_set (i := 3) sc_L_config.nd rfl (Or.inl rfl) (pe_lst pa_nil))
      (pss_cons (ps_for PassesOwn.never rfl (pi_list (pe_lst (pa_cons pe_str (pa_cons pe_str (pa_cons pe_str pa_nil))))) (pg_name (i := 4) sc_L_config.nd rfl (Or.inl rfl))
        (pss_one (ps_for PassesOwn.never rfl (pi_list (pv 1)) (pg_name (i := 6) sc_L_config.nd rfl (Or.inl rfl))
        (pss_one (ps_expr (pe_bm PySem.F.plainAttrs_list PySem.F.slot_list_append PySem.F.type_list_append mt_append (pv 3) (pa_cons (pe_tup (pa_cons (pv 4) (pa_cons (pe_ix ix_tup (pv 6) pe_int (fun _ _ => rfl)) (pa_cons (pe_ix ix_list (pe_lst (pa_cons pe_int (pa_cons pe_int (pa_cons pe_int (pa_cons pe_int (pa_cons (pe_op op_pow pe_int pe_int) pa_nil)))))) (pe_call (ok_L_next T) (hr.mono (by decide)) (by rfl) T.g_L_next T.F_L_next.kp T.b_L_next .nil pass0 (pa_cons (pv 0) (pa_cons pe_int pa_nil))) (fun _ _ => rfl)) pa_nil)))) pa_nil)))))))
      (pss_cons (ps_set (i := 5) sc_L_config.nd rfl (Or.inl rfl) (pe_call (ok_L_set T) (hr.mono (by decide)) (by rfl) T.g_L_set T.F_L_set.kp T.b_L_set .nil pass0 (pa_cons (pv 0) (pa_cons pe_int pa_nil))))
      (pss_cons (ps_expr (pe_bm PySem.F.plainAttrs_list PySem.F.slot_list_append PySem.F.type_list_append mt_append (pv 3) (pa_cons (pe_tup (pa_cons (pe_ix ix_tup (pe_ix ix_tup (pv 5) pe_int (fun _ _ => rfl)) pe_int (fun _ _ => rfl)) (pa_cons (pe_ix ix_tup (pe_ix ix_list (pv 1) pe_int (fun _ _ => rfl)) pe_int (fun _ _ => rfl)) (pa_cons pe_int pa_nil)))) pa_nil)))
      (pss_one (ps_ret (pe_disp (pps_cons pe_str (pv 1) (pps_cons pe_str (pv 3) (pps_cons pe_str (pv 5) (pps_cons pe_str (pe_op op_add pe_int (pe_call (ok_L_next T) (hr.mono (by decide)) (by rfl) T.g_L_next T.F_L_next.kp T.b_L_next .nil pass0 (pa_cons (pv 0) (pa_cons pe_int pa_nil)))) (pps_cons pe_str (pe_op op_add pe_int (pe_call (ok_L_next T) (hr.mono (by decide)) (by rfl) T.g_L_next T.F_L_next.kp T.b_L_next .nil pass0 (pa_cons (pv 0) (pa_cons pe_int pa_nil)))) (pps_cons pe_str (pe_call (ok_L_next T) (hr.mono (by decide)) (by rfl) T.g_L_next T.F_L_next.kp T.b_L_next .nil pass0 (pa_cons (pv 0) (pa_cons pe_int pa_nil))) (pps_cons pe_str (pe_op op_add pe_int (pe_call (ok_L_next T) (hr.mono (by decide)) (by rfl) T.g_L_next T.F_L_next.kp T.b_L_next .nil pass0 (pa_cons (pv 0) (pa_cons pe_int pa_nil)))) pps_nil))))))) (by rfl) (by rfl) (fun z => by cases z) (by decide)))))))))), ?_⟩
    (dsimp only [cxOf, Cx.nox, Cx.wish, L2.start, List.map, List.length, List.replicate, List.cons_append, List.nil_append, List.append_eq, Nat.reduceSub, Nat.reduceAdd])
    walk_at "my_rd"
    refine q_lstK (Nat.le_of_ble_eq_true rfl) fun TL nTL => ?_
    walk_at "my_rd"
    refine q_lstK (Nat.le_of_ble_eq_true rfl) fun NM nNM => ?_
    walk_at "my_rd"
    have nTLp : TL ≠ p := pot.nep nTL
    have nTLl : TL ≠ l := pot.nel nTL
    have pot1 : PotAt (upd (upd H TL (.lst [])) NM (.lst [.str "coin", .str "gold", .str "iron"])) p l := (pot.new nTL).new nNM
    have nNMp : NM ≠ p := (pot.new nTL).nep nNM
    refine ⟨p, l, 3, rfl, pot1, by omega, by omega, fun r H1 r0 r1 pot1 kp1 => ?_⟩
    have hTL1 : H1 TL = some (.lst []) := Kp.get kp1 (upd_new nNM upd_same) nTLp
    have hNM1 : H1 NM = some (.lst (tokNames.map V.str)) := Kp.get kp1 upd_same nNMp
    have kp01 : Kp p H H1 := Kp.trans (Same.kp (Same.up (Same.up (Same.refl _) nTL) nNM)) kp1
    walk_at "my_rd"
    refine q_slL (sqL hNM1) fun SL nSL => ?_
    have er : 1 + r = ((r.toNat + 1 : Nat) : Int) := by omega
    rw [er, cut_take (by rw [List.length_map]; show r.toNat + 1 ≤ 3; omega), ← List.map_take]
    have hlen : (tokNames.take (r.toNat + 1)).length = r.toNat + 1 := by rw [List.length_take]; show min (r.toNat + 1) 3 = _; omega
    generalize hH2 : upd H1 SL _ = H2
    have nSLp : SL ≠ p := pot1.nep nSL
    have nSLTL : TL ≠ SL := ne_of_none hTL1 nSL
    have hSL2 : H2 SL = some (.lst ((tokNames.take (r.toNat + 1)).map V.str)) := by rw [← hH2]; exact upd_same
    have hTL2 : H2 TL = some (.lst []) := by rw [← hH2]; exact upd_new nSL hTL1
    have pot2 : PotAt H2 p l := by rw [← hH2]; exact pot1.new nSL
    have kp02 : Kp p H H2 := by rw [← hH2]; exact Kp.new kp01 (Kp.fresh kp01 hpo nSL nSLp)
    walk_at "my_rd"
    refine q_forL (sqL hSL2) (fun i σ H' => ∃ (tv : List V) (ts : List TokR) (nv : Option V), σ = [some (.ref p), some (.ref TL), nv, none, none, none, none] ∧ H' TL = some (.lst tv) ∧ RowsAt TokR.v H' tv ts ∧ ts.map TokR.name = (tokNames.take (r.toNat + 1)).take i ∧ (∀ t ∈ ts, t.Ok) ∧ (∀ t ∈ ts, t.home ∈ sideNames) ∧ (∀ t ∈ ts, t.scale ≤ 1000) ∧
        H' SL = some (.lst ((tokNames.take (r.toNat + 1)).map V.str)) ∧ PotAt H' p l ∧ Kp p H H')
      ⟨[], [], none, rfl, hTL2, RowsAt.nil, rfl, by simp, by simp, by simp, hSL2, pot2, kp02⟩ (fun i σ H' _ ⟨_, _, _, _, _, _, _, _, _, _, h, _⟩ => sqL h) ?_ ?_
    · rintro i v σ H3 hv ⟨tv, ts, nv, rfl, hTL3, hR3, hnm, hok, hho, hsc, hSL3, pot3, kp3⟩
      have hi : i < r.toNat + 1 := by
        have := (List.getElem?_eq_some_iff.mp hv).1
        rw [List.length_map, hlen] at this
        exact this
      obtain ⟨nme, hnme, rfl⟩ : ∃ s, (tokNames.take (r.toNat + 1))[i]? = some s ∧ v = .str s := by
        rw [List.getElem?_map] at hv
        cases q : (tokNames.take (r.toNat + 1))[i]? with
        | none => rw [q] at hv; cases hv
        | some s => rw [q] at hv; exact ⟨s, rfl, (Option.some.inj hv).symm⟩
      have hmem : nme ∈ tokNames := List.mem_of_mem_take (List.mem_of_getElem? hnme)
      have hlts : ts.length = i := by
        have := congrArg List.length hnm
        rw [List.length_map, List.length_take, hlen] at this
        omega
      walk_at "my_rd"
      refine q_lstK (Nat.le_of_ble_eq_true rfl) fun M1 nM1 => ?_
      walk_at "my_rd"
      refine ⟨p, l, 2, rfl, pot3.new nM1, by omega, by omega, fun a1 H4 x0 x1 pot4 kp4 => ?_⟩
      obtain ⟨ho, hho1, hmho⟩ := menuS (ss := sideNames) x0 (by show a1 < 2; omega)
      have kp14 : Kp p H3 H4 := Kp.trans (Same.kp (Same.up (Same.refl _) nM1)) kp4
      walk_at "my_rd"
      refine q_ixLt (Kp.get kp4 upd_same (pot3.nep nM1)) hho1 ?_
      walk_at "my_rd"
      refine q_lstK (Nat.le_of_ble_eq_true rfl) fun M2 nM2 => ?_
      walk_at "my_rd"
      refine ⟨p, l, 4, rfl, pot4.new nM2, by omega, by omega, fun a2 H5 x2 x3 pot5 kp5 => ?_⟩
      obtain ⟨sc, hsc1, hmsc⟩ := menuI (ss := scales) x2 (by show a2 < 4; omega)
      have kp15 : Kp p H3 H5 := Kp.trans kp14 (Kp.trans (Same.kp (Same.up (Same.refl _) nM2)) kp5)
      walk_at "my_rd"
      refine q_ixLt (Kp.get kp5 upd_same (pot4.nep nM2)) hsc1 ?_
      walk_at "my_rd"
      refine q_lstK (Nat.le_of_ble_eq_true rfl) fun M3 nM3 => ?_
      walk_at "my_rd"
      refine ⟨p, l, 4, rfl, pot5.new nM3, by omega, by omega, fun a3 H6 x4 x5 pot6 kp6 => ?_⟩
      obtain ⟨li, hli1, hmli⟩ := menuI (ss := limits) x4 (by show a3 < 4; omega)
      have kp16 : Kp p H3 H6 := Kp.trans kp15 (Kp.trans (Same.kp (Same.up (Same.refl _) nM3)) kp6)
      walk_at "my_rd"
      refine q_ixLt (Kp.get kp6 upd_same (pot5.nep nM3)) hli1 ?_
      walk_at "my_rd"
      refine q_lstK (Nat.le_of_ble_eq_true rfl) fun M4 nM4 => ?_
      walk_at "my_rd"
      refine ⟨p, l, 4, rfl, pot6.new nM4, by omega, by omega, fun a4 H7 x6 x7 pot7 kp7 => ?_⟩
      obtain ⟨la, hla1, hmla⟩ := menuI (ss := larges) x6 (by show a4 < 4; omega)
      have kp17 : Kp p H3 H7 := Kp.trans kp16 (Kp.trans (Same.kp (Same.up (Same.refl _) nM4)) kp7)
      have kp07 : Kp p H H7 := Kp.trans kp3 kp17
      walk_at "my_rd"
      refine q_ixLt (Kp.get kp7 upd_same (pot6.nep nM4)) hla1 ?_
      walk_at "my_rd"
      refine q_tupK (Nat.le_of_ble_eq_true rfl) fun U nU => ?_
      walk_at "my_rd"
      have hTL7 : H7 TL = some (.lst tv) := Kp.get kp17 hTL3 nTLp
      have hSL7 := Kp.get kp17 hSL3 nSLp
      have nTLU : TL ≠ U := ne_of_none hTL7 nU
      have hU0 := Kp.fresh kp07 hpo nU (pot7.nep nU)
      refine q_append (upd_new nU hTL7) (by rw [hR3.len, hlts]; exact small1000 (by omega)) ?_
      walk_at "my_rd"
      have hR7 : RowsAt TokR.v (upd H7 U (.tup [.str nme, .str ho, .int sc, .int li, .int la])) (tv ++ [.ref U]) (ts ++ [⟨nme, ho, sc, li, la⟩]) := ((hR3.pot pot3 kp17).new nU).snoc upd_same
      refine ⟨tv ++ [.ref U], ts ++ [⟨nme, ho, sc, li, la⟩], _, rfl, upd_same, hR7.updL (upd_new nU hTL7), ?_, ?_, ?_, ?_, upd_other nSLTL.symm (upd_new nU hSL7), (pot7.new nU).upd nTLp nTLl, Kp.new (Kp.new kp07 hU0) nTL⟩
      · rw [List.map_append, hnm, take_snoc hnme]
        rfl
      · intro t ht
        rcases List.mem_append.mp ht with h | h
        · exact hok t h
        · rw [List.mem_singleton.mp h]
          exact ⟨(tokNames_ok _ hmem).1, (tokNames_ok _ hmem).2, sideNames_ok _ hmho, (scales_ok _ hmsc).1, limits_ok _ hmli, larges_ok _ hmla⟩
      · intro t ht
        rcases List.mem_append.mp ht with h | h
        · exact hho t h
        · rw [List.mem_singleton.mp h]; exact hmho
      · intro t ht
        rcases List.mem_append.mp ht with h | h
        · exact hsc t h
        · rw [List.mem_singleton.mp h]; exact (scales_ok _ hmsc).2
    · rintro σ H3 ⟨tv, ts, nv, rfl, hTL3, hR3, hnm, hok, hho, hsc, hSL3, pot3, kp3⟩
      have hnm2 : ts.map TokR.name = tokNames.take (r.toNat + 1) := by
        rw [hnm]
        exact List.take_of_length_le (by rw [List.length_map]; exact Nat.le_refl _)
      have hlts : ts.length = r.toNat + 1 := by
        have := congrArg List.length hnm2
        rw [List.length_map, hlen] at this
        exact this
      walk_at "my_rd"
      refine q_lstK (Nat.le_of_ble_eq_true rfl) fun BL nBL => ?_
      walk_at "my_rd"
      have nBLp : BL ≠ p := pot3.nep nBL
      have nBLl : BL ≠ l := pot3.nel nBL
      have nTLBL : TL ≠ BL := ne_of_none hTL3 nBL
      have hBL0 := Kp.fresh kp3 hpo nBL nBLp
      refine q_lstK (Nat.le_of_ble_eq_true rfl) fun AC nAC => ?_
      walk_at "my_rd"
      have nBLAC : BL ≠ AC := ne_of_none upd_same nAC
      have nTLAC : TL ≠ AC := ne_of_none (upd_new nBL hTL3) nAC
      generalize hH4 : upd (upd H3 BL _) AC _ = H4
      have hAC4 : H4 AC = some (.lst (accNames.map V.str)) := by rw [← hH4]; exact upd_same
      have hBL4 : H4 BL = some (.lst []) := by rw [← hH4]; exact upd_new nAC upd_same
      have hTL4 : H4 TL = some (.lst tv) := by rw [← hH4]; exact upd_new nAC (upd_new nBL hTL3)
      have pot4 : PotAt H4 p l := by rw [← hH4]; exact (pot3.new nBL).new nAC
      have nACp : AC ≠ p := (pot3.new nBL).nep nAC
      have sm4 : Same H3 H4 := by rw [← hH4]; (repeat first | (with_reducible exact Same.refl _) | (with_reducible assumption) | (with_reducible refine Same.up ?_ (by assumption)) | (with_reducible refine' Same.trans ?_ (by assumption)))
      have kp4 : Kp p H H4 := Kp.trans kp3 (Same.kp sm4)
      have hR4 : RowsAt TokR.v H4 tv ts := hR3.same sm4
      clear hH4
      refine q_forL (sqL hAC4) (fun i σ H' => ∃ (bv : List V) (bs : List BalR) (av tkv : Option V), σ = [some (.ref p), some (.ref TL), nv, some (.ref BL), av, none, tkv] ∧ H' BL = some (.lst bv) ∧ RowsAt BalR.v H' bv bs ∧ bs.length ≤ i * ts.length ∧ (∀ b ∈ bs, b.Ok ts) ∧ (∀ b ∈ bs, b.acc ∈ accNames) ∧ (∀ b ∈ bs, b.amt ≤ 1000000) ∧
          H' AC = some (.lst (accNames.map V.str)) ∧ H' TL = some (.lst tv) ∧ RowsAt TokR.v H' tv ts ∧ PotAt H' p l ∧ Kp p H H')
        ⟨[], [], _, _, rfl, hBL4, RowsAt.nil, by simp, by simp, by simp, by simp, hAC4, hTL4, hR4, pot4, kp4⟩ (fun i σ H' _ ⟨_, _, _, _, _, _, _, _, _, _, _, h, _⟩ => sqL h) ?_ ?_
      · rintro i v σ H5 hv ⟨bv, bs, av, tkv, rfl, hBL5, hB5, hbl, hbok, hba, hbm, hAC5, hTL5, hR5, pot5, kp5⟩
        obtain ⟨ac, hac, rfl⟩ : ∃ s, accNames[i]? = some s ∧ v = .str s := by
          rw [List.getElem?_map] at hv
          cases q : accNames[i]? with
          | none => rw [q] at hv; cases hv
          | some s => rw [q] at hv; exact ⟨s, rfl, (Option.some.inj hv).symm⟩
        have hacm := List.mem_of_getElem? hac
        have hi3 : i < 3 := (List.getElem?_eq_some_iff.mp hac).1
        walk_at "my_rd"
        refine q_forL (sqL hTL5) (fun j σ H' => ∃ (bv : List V) (bs : List BalR) (tkv : Option V), σ = [some (.ref p), some (.ref TL), nv, some (.ref BL), some (.str ac), none, tkv] ∧ H' BL = some (.lst bv) ∧ RowsAt BalR.v H' bv bs ∧ bs.length ≤ i * ts.length + j ∧ (∀ b ∈ bs, b.Ok ts) ∧ (∀ b ∈ bs, b.acc ∈ accNames) ∧ (∀ b ∈ bs, b.amt ≤ 1000000) ∧
            H' AC = some (.lst (accNames.map V.str)) ∧ H' TL = some (.lst tv) ∧ RowsAt TokR.v H' tv ts ∧ PotAt H' p l ∧ Kp p H H')
          ⟨bv, bs, _, rfl, hBL5, hB5, hbl, hbok, hba, hbm, hAC5, hTL5, hR5, pot5, kp5⟩ (fun i σ H' _ ⟨_, _, _, _, _, _, _, _, _, _, _, h, _⟩ => sqL h) ?_ ?_
        · rintro j v σ H6 hv ⟨bv, bs, tkv, rfl, hBL6, hB6, hbl, hbok, hba, hbm, hAC6, hTL6, hR6, pot6, kp6⟩
          obtain ⟨t, tr, ht, rfl, htr0⟩ := hR6.item hv
          have htr : H6 tr = some (.tup [.str t.name, .str t.home, .int t.scale, .int t.limit, .int t.large]) := htr0
          have htm := List.mem_of_getElem? ht
          have hj : j < ts.length := (List.getElem?_eq_some_iff.mp ht).1
          walk_at "my_rd"
          refine q_lstK (Nat.le_of_ble_eq_true rfl) fun M1 nM1 => ?_
          walk_at "my_rd"
          refine ⟨p, l, 5, rfl, pot6.new nM1, by omega, by omega, fun a1 H7 x0 x1 pot7 kp7 => ?_⟩
          obtain ⟨am, ham1, hmam⟩ := menuI (ss := amounts) x0 (by show a1 < 5; omega)
          have kp17 : Kp p H6 H7 := Kp.trans (Same.kp (Same.up (Same.refl _) nM1)) kp7
          have kp07 : Kp p H H7 := Kp.trans kp6 kp17
          walk_at "my_rd"
          refine q_ixLt (Kp.get kp7 upd_same (pot6.nep nM1)) ham1 ?_
          walk_at "my_rd"
          refine q_tupK (Nat.le_of_ble_eq_true rfl) fun U nU => ?_
          walk_at "my_rd"
          have hBL7 : H7 BL = some (.lst bv) := Kp.get kp17 hBL6 nBLp
          have hTL7 : H7 TL = some (.lst tv) := Kp.get kp17 hTL6 nTLp
          have hAC7 := Kp.get kp17 hAC6 nACp
          have hU0 := Kp.fresh kp07 hpo nU (pot7.nep nU)
          have hbnd : i * ts.length ≤ 9 := by
            have h1 : ts.length ≤ 3 := by omega
            have := Nat.mul_le_mul (show i ≤ 3 by omega) h1
            omega
          refine q_append (upd_new nU hBL7) (by rw [hB6.len]; exact small1000 (by omega)) ?_
          walk_at "my_rd"
          have hB7 : RowsAt BalR.v (upd H7 U (.tup [.str ac, .str t.name, .int am])) (bv ++ [.ref U]) (bs ++ [⟨ac, t.name, am⟩]) := ((hB6.pot pot6 kp17).new nU).snoc upd_same
          refine ⟨bv ++ [.ref U], bs ++ [⟨ac, t.name, am⟩], _, rfl, upd_same, hB7.updL (upd_new nU hBL7), by rw [List.length_append]; show bs.length + 1 ≤ _; omega, ?_, ?_, ?_, upd_other nBLAC.symm (upd_new nU hAC7), upd_other nTLBL (upd_new nU hTL7), ((hR6.pot pot6 kp17).new nU).updL (upd_new nU hBL7), (pot7.new nU).upd nBLp nBLl, Kp.new (Kp.new kp07 hU0) hBL0⟩
          · intro b hb
            rcases List.mem_append.mp hb with h | h
            · exact hbok b h
            · rw [List.mem_singleton.mp h]
              exact ⟨(accNames_ok _ hacm).1, (accNames_ok _ hacm).2, (hok t htm).n, (hok t htm).nl, List.mem_map.mpr ⟨t, htm, rfl⟩, (amounts_ok _ hmam).1⟩
          · intro b hb
            rcases List.mem_append.mp hb with h | h
            · exact hba b h
            · rw [List.mem_singleton.mp h]; exact hacm
          · intro b hb
            rcases List.mem_append.mp hb with h | h
            · exact hbm b h
            · rw [List.mem_singleton.mp h]; exact (amounts_ok _ hmam).2
        · rintro σ H6 ⟨bv, bs, tkv, rfl, hBL6, hB6, hbl, hbok, hba, hbm, hAC6, hTL6, hR6, pot6, kp6⟩
          walk_at "my_rd"
          refine ⟨bv, bs, _, _, rfl, hBL6, hB6, ?_, hbok, hba, hbm, hAC6, hTL6, hR6, pot6, kp6⟩
          rw [hR5.len] at hbl
          rw [Nat.succ_mul]
          exact hbl
      · rintro σ H5 ⟨bv, bs, av, tkv, rfl, hBL5, hB5, hbl, hbok, hba, hbm, hAC5, hTL5, hR5, pot5, kp5⟩
        walk_at "my_rd"
        refine ⟨p, l, 5, rfl, pot5, by omega, by omega, fun g gv gs H6 ng hg6 hP6 hD _ pot6 kp6 => ?_⟩
        have kp06 := Kp.trans kp5 kp6
        have hBL6 : H6 BL = some (.lst bv) := Kp.get kp6 hBL5 nBLp
        have hTL6 : H6 TL = some (.lst tv) := Kp.get kp6 hTL5 nTLp
        have hB6 := hB5.pot pot5 kp6
        have hR6 := hR5.pot pot5 kp6
        obtain ⟨g0, hg0⟩ : ∃ g0, gs[0]? = some g0 := by
          cases gs with
          | nil => exact absurd rfl hD.ne
          | cons a _ => exact ⟨a, rfl⟩
        obtain ⟨t0, ht0⟩ : ∃ t0, ts[0]? = some t0 := by
          cases ts with
          | nil => simp at hlts
          | cons a _ => exact ⟨a, rfl⟩
        obtain ⟨ga, hga, hgt⟩ := hP6.at_ 0 g0 hg0
        obtain ⟨ta, hta, htt⟩ := hR6.at_ 0 t0 ht0
        have htt : H6 ta = some (.tup [.str t0.name, .str t0.home, .int t0.scale, .int t0.limit, .int t0.large]) := htt
        have hgm := List.mem_of_getElem? hg0
        have htm := List.mem_of_getElem? ht0
        walk_at "my_rd"
        refine q_ixTt hg6 (at_int (n := 0) rfl hga) ?_
        walk_at "my_rd"
        refine q_ixLt hTL6 (at_int (n := 0) rfl hta) ?_
        walk_at "my_rd"
        refine q_tupK (Nat.le_of_ble_eq_true rfl) fun U nU => ?_
        walk_at "my_rd"
        have hU0 := Kp.fresh kp06 hpo nU (pot6.nep nU)
        have hbnd : bs.length ≤ 9 := by
          have h1 : ts.length ≤ 3 := by omega
          have := Nat.mul_le_mul (show accNames.length ≤ 3 from Nat.le_refl _) h1
          rw [List.length_map] at hbl
          omega
        refine q_append (upd_new nU hBL6) (by rw [hB6.len]; exact small1000 (by omega)) ?_
        walk_at "my_rd"
        generalize hH7 : upd (upd H6 U _) BL _ = H7
        have hB7 : RowsAt BalR.v H7 (bv ++ [.ref U]) (bs ++ [⟨g0.1, t0.name, 60⟩]) := by
          rw [← hH7]
          exact ((hB6.new nU).snoc (r := ⟨g0.1, t0.name, 60⟩) upd_same).updL (upd_new nU hBL6)
        have hBL7 : H7 BL = some (.lst (bv ++ [.ref U])) := by rw [← hH7]; exact upd_same
        have hTL7 : H7 TL = some (.lst tv) := by rw [← hH7]; exact upd_other nTLBL (upd_new nU hTL6)
        have hR7 : RowsAt TokR.v H7 tv ts := by rw [← hH7]; exact (hR6.new nU).updL (upd_new nU hBL6)
        have hg7 : H7 g = some (.tup gv) := by rw [← hH7]; exact upd_other (ne_of hg6 hBL6 (by intro z; cases z)) (upd_new nU hg6)
        have hP7 : PairsAt H7 gv gs := by rw [← hH7]; exact (hP6.new nU).updL (upd_new nU hBL6)
        have pot7 : PotAt H7 p l := by rw [← hH7]; exact (pot6.new nU).upd nBLp nBLl
        have kp7 : Kp p H H7 := by rw [← hH7]; exact Kp.new (Kp.new kp06 hU0) hBL0
        clear hH7
        refine q_disp fun d nd => ?_
        have ndp : d ≠ p := pot7.nep nd
        have hd0 := Kp.fresh kp7 hpo nd ndp
        generalize hH8 : upd H7 d (.dK []) = H8
        have hd8 : H8 d = some (.dK []) := by rw [← hH8]; exact upd_same
        have sm8 : Same H7 H8 := by rw [← hH8]; exact Same.new (Same.refl _) nd
        have pot8 := pot7.same sm8
        have kp8 : Kp p H H8 := Kp.trans kp7 (Same.kp sm8)
        clear hH8
        walk_at "my_rd"
        refine ⟨p, l, 3, rfl, pot8, by omega, by omega, fun de H9 e0 e1 pot9 kp9 => ?_⟩
        walk_at "my_rd"
        refine ⟨p, l, 4, rfl, pot9, by omega, by omega, fun wi H10 e2 e3 pot10 kp10 => ?_⟩
        walk_at "my_rd"
        refine ⟨p, l, 4, rfl, pot10, by omega, by omega, fun dy H11 e4 e5 pot11 kp11 => ?_⟩
        walk_at "my_rd"
        refine ⟨p, l, 3, rfl, pot11, by omega, by omega, fun bu H12 e6 e7 pot12 kp12 => ?_⟩
        walk_at "my_rd"
        have kp812 : Kp p H8 H12 := Kp.trans kp9 (Kp.trans kp10 (Kp.trans kp11 kp12))
        have hd12 : H12 d = some (.dK []) := Kp.get kp812 hd8 ndp
        have nTLd : TL ≠ d := ne_of_none hTL7 nd
        have nBLd : BL ≠ d := ne_of_none hBL7 nd
        have ngp : g ≠ p := by
          obtain ⟨_, _, _, _, q1, _⟩ := pot7
          exact ne_of hg7 q1 (by intro z; cases z)
        refine q_dispK (kvs := partKvs TL BL g ⟨ts, bs ++ [⟨g0.1, t0.name, 60⟩], 1 + de, 1 + wi, dy, 1 + bu⟩) hd12 rfl (by show 7 ≤ 15; decide) (part_nd _ _ _ _) ?_
        walk_at "my_rd"
        have tupd : ∀ b ys, H7 b = some (HO.tup ys) → upd H12 d (.dK (partKvs TL BL g ⟨ts, bs ++ [⟨g0.1, t0.name, 60⟩], 1 + de, 1 + wi, dy, 1 + bu⟩)) b = some (.tup ys) := fun b ys q => upd_other (ne_of_none q nd) (kp812.tup pot8 (sm8 _ _ q))
        refine k d ⟨ts, bs ++ [⟨g0.1, t0.name, 60⟩], 1 + de, 1 + wi, dy, 1 + bu⟩ gs TL BL g tv (bv ++ [.ref U]) gv _ hd0 nTL hBL0
          ⟨upd_same, upd_other nTLd (Kp.get kp812 (sm8 _ _ hTL7) nTLp), hR7.mono tupd, upd_other nBLd (Kp.get kp812 (sm8 _ _ hBL7) nBLp), hB7.mono tupd, tupd _ _ hg7, hP7.mono tupd⟩ ?_
          (pot12.upd ndp (pot7.nel nd)) (Kp.new (Kp.trans kp8 kp812) hd0)
        obtain ⟨ga1, ga2, ga3⟩ := gnames_ok _ (hD.nms g0 hgm)
        refine ⟨⟨hok, ?_, by show ts.length ≤ 1000; omega, ?_, by show (bs ++ [_]).length ≤ 1000; rw [List.length_append]; show bs.length + 1 ≤ 1000; omega, by show 1 ≤ 1 + de; omega, by show 1 ≤ 1 + wi; omega, e4, by show 1 ≤ 1 + bu; omega, by show 1 + bu ≤ 8; omega⟩, ?_, ?_, hho, hsc, by show ts.length ≤ 3; omega, hD, ?_, ?_, by show (bs ++ [_]).length ≤ 10; rw [List.length_append]; show bs.length + 1 ≤ 10; omega, by show 1 + de ≤ 3; omega, by show 1 + wi ≤ 4; omega, by show dy ≤ 3; omega, by show 1 + bu ≤ 3; omega⟩
        · show (ts.map TokR.name).Nodup
          rw [hnm2]
          exact (List.take_sublist _ _).nodup tokNames_nd
        · intro b hb
          rcases List.mem_append.mp hb with h | h
          · exact hbok b h
          · rw [List.mem_singleton.mp h]
            exact ⟨ga1, ga2, (hok t0 htm).n, (hok t0 htm).nl, List.mem_map.mpr ⟨t0, htm, rfl⟩, by show (0 : Int) ≤ 60; omega⟩
        · show ts ≠ []
          rintro rfl
          simp at hlts
        · intro t ht
          have : t.name ∈ ts.map TokR.name := List.mem_map.mpr ⟨t, ht, rfl⟩
          rw [hnm2] at this
          exact List.mem_of_mem_take this
        · intro b hb
          rcases List.mem_append.mp hb with h | h
          · exact .inl (hba b h)
          · rw [List.mem_singleton.mp h]; exact .inr (by rw [hg0]; rfl)
        · intro b hb
          rcases List.mem_append.mp hb with h | h
          · exact hbm b h
          · rw [List.mem_singleton.mp h]; show (60 : Int) ≤ 1000000; omega
end

/-! the Config of the law's configuration -/
def prd (g : Str × Int) : PyData := .tuple [.str g.1, .int g.2]
theorem PairsAt.tail {H : Hp} {x : V} {xs : List V} {g : Str × Int} {gs : Gs} (h : PairsAt H (x :: xs) (g :: gs)) : PairsAt H xs gs :=
  ⟨by have := h.len; simpa using this, fun i g' hg => by have := h.at_ (i + 1) g' (by simpa using hg); simpa using this⟩
theorem PairsAt.tall {K : PySem.W.Frag} {H : Hp} : ∀ {xs : List V} {gs : Gs}, PairsAt H xs gs → TupAll K H xs (gs.map prd)
  | [], [], _ => .nil
  | [], g :: gs, h => by have := h.len; simp at this
  | x :: xs, [], h => by have := h.len; simp at this
  | x :: xs, g :: gs, h => by
    obtain ⟨a, e, ha⟩ := h.at_ 0 g rfl
    have e : x = .ref a := Option.some.inj e
    subst e
    exact .cons (.tup ha (.cons (.str _) (.cons (.int _) .nil))) h.tail.tall
theorem Drawn.set {gs : Gs} (h : Drawn gs) : setD (.tuple (gs.map prd)) = true := by
  have h1 : (gs.map prd).isEmpty = false := by
    cases gs with
    | nil => exact absurd rfl h.ne
    | cons _ _ => rfl
  have h2 : (gs.map prd).all pairD = true := by
    rw [List.all_eq_true]
    intro d hd
    obtain ⟨g, hg, rfl⟩ := List.mem_map.mp hd
    show (accD (.str g.1) && leastD 1 (.int g.2)) = true
    rw [(gnames_ok _ (h.nms g hg)).1, Bool.true_and]
    exact decide_eq_true (h.pos g hg)
  have h3 : ((gs.map prd).map nameS) = gs.map (·.1) := by
    rw [List.map_map]
    rfl
  show (!(gs.map prd).isEmpty && ((gs.map prd).all pairD && decide (((gs.map prd).map nameS).Nodup))) = true
  rw [h1, h2, h3, decide_eq_true h.nd]
  rfl
theorem fineS_pairs {gs : Gs} (h : Drawn gs) : FineS (.tuple (gs.map prd)) := by
  intro ds e
  injection e with e
  subst e
  refine ⟨by rw [List.length_map]; have := h.few; omega, fun x hx => ?_⟩
  obtain ⟨g, hg, rfl⟩ := List.mem_map.mp hx
  intro a b e
  injection e with e
  injection e with e1 e
  injection e with e2 e
  subst e1 e2
  exact ⟨by show g.1.length ≤ 100000; have := (gnames_ok _ (h.nms g hg)).2.1; omega, trivial⟩
def sp_Lmade (C : Addr) : Sp := fun vs H Q _ => ∃ (d : Addr) (c : Parts) (gs : Gs) (tl bl g : Addr) (tv bv gv : List V), vs = [.ref d] ∧ PartsAt H d c gs tl bl g tv bv gv ∧ CfgOk c gs ∧
  ∀ (x : Addr) (H' : Hp), H x = none → CfgAt C c g H' x → Same H H' → Q (.ref x) H'
section
variable {P : Program} {w : World} {K : PySem.W.Frag} {mg : Str → Option Value} {base : Heap}
theorem ok_L_made (T : Txt K mg) : FnOk P w K mg base CX0 8 T.f_L_made T.d_L_made ["parts"] (sp_Lmade T.C_Config) := by
  refine T.F_L_made.ok sc_L_made (fun vs H Q E h => ?_) (fun cdv A outer s H vs Q E hr h => ?_)
  · obtain ⟨d, c, gs, tl, bl, g, tv, bv, gv, rfl, _⟩ := h; rfl
  · obtain ⟨d, c, gs, tl, bl, g, tv, bv, gv, rfl, hp, hc, k⟩ := h
    have hu := hu_of hr
    refine ⟨_, (pss_one (ps_ret (pe_makeK0 T.mk_Config (ok_Config_init T) (hr.mono (by decide)) (by rfl) T.g_Config T.kb_Config_init pass0 (pk_cons (pe_dget hu (pv 0) pe_str (fun _ _ => rfl)) (pk_cons (pe_dget hu (pv 0) pe_str (fun _ _ => rfl)) (pk_cons (pe_dget hu (pv 0) pe_str (fun _ _ => rfl)) (pk_cons (pe_dget hu (pv 0) pe_str (fun _ _ => rfl)) (pk_cons (pe_dget hu (pv 0) pe_str (fun _ _ => rfl)) (pk_cons (pe_dget hu (pv 0) pe_str (fun _ _ => rfl)) (pk_cons (pe_dget hu (pv 0) pe_str (fun _ _ => rfl)) pk_nil)))))))))), ?_⟩
    (dsimp only [cxOf, Cx.nox, Cx.wish, L2.start, List.map, List.length, List.replicate, List.cons_append, List.nil_append, List.append_eq, Nat.reduceSub, Nat.reduceAdd])
    walk_at "my_rd"
    refine q_dGetS hp.dict (by (repeat first | rfl | rw [valV_cons, if_pos rfl] | rw [valV_cons, if_neg (by decide +kernel)])) ?_
    walk_at "my_rd"
    refine q_dGetS hp.dict (by (repeat first | rfl | rw [valV_cons, if_pos rfl] | rw [valV_cons, if_neg (by decide +kernel)])) ?_
    walk_at "my_rd"
    refine q_dGetS hp.dict (by (repeat first | rfl | rw [valV_cons, if_pos rfl] | rw [valV_cons, if_neg (by decide +kernel)])) ?_
    walk_at "my_rd"
    refine q_dGetS hp.dict (by (repeat first | rfl | rw [valV_cons, if_pos rfl] | rw [valV_cons, if_neg (by decide +kernel)])) ?_
    walk_at "my_rd"
    refine q_dGetS hp.dict (by (repeat first | rfl | rw [valV_cons, if_pos rfl] | rw [valV_cons, if_neg (by decide +kernel)])) ?_
    walk_at "my_rd"
    refine q_dGetS hp.dict (by (repeat first | rfl | rw [valV_cons, if_pos rfl] | rw [valV_cons, if_neg (by decide +kernel)])) ?_
    walk_at "my_rd"
    refine q_dGetS hp.dict (by (repeat first | rfl | rw [valV_cons, if_pos rfl] | rw [valV_cons, if_neg (by decide +kernel)])) ?_
    walk_at "my_rd"
    refine ⟨rfl, rfl, fun x dx nx ndx hdx => ?_⟩
    have sm : Same H (upd (upd H dx (.own x)) x (.ins T.C_Config dx [])) := Same.up (Same.up (Same.refl _) ndx) (upd_free hdx.symm nx)
    have hp2 := hp.same sm
    refine ⟨x, dx, tl, bl, g, tv, bv, .tuple (gs.map prd), c, rfl, upd_same, hp2.tl, hp2.bl, hp2.tr, hp2.br, .tup hp2.gt hp2.gp.tall, hc.gd.set, fineS_pairs hc.gd, hc.ok, fun H' hC kp => ?_⟩
    refine ⟨rfl, k x H' nx hC ?_⟩
    intro b o hb
    exact kp b o (sm b o hb) (ne_of_none hb nx)
end

local macro_rules | `(tactic| walk_at "my_rd") => `(tactic| (repeat first
  | with_reducible refine q_tCons ?_
  | ((with_reducible apply q_var); (focus (exact rfl)))
  | with_reducible refine q_c ?_
  | with_reducible refine q_nx ?_
  | with_reducible refine q_bK ?_
  | with_reducible refine q_call ?_
  | with_reducible refine q_callK ?_
  | with_reducible refine q_tNil ?_
  | with_reducible refine q_cb ?_
  | with_reducible refine q_seq ?_
  | with_reducible refine q_asg ?_
  | with_reducible refine q_gName ?_
  | with_reducible refine q_op ?_
  | with_reducible refine q_test ?_
  | with_reducible refine q_tB ?_
  | with_reducible refine q_ifS ?_
  | with_reducible refine q_ret ?_
  | with_reducible refine q_rt ?_
  | with_reducible refine q_next ?_
  | with_reducible refine q_ifF ?_
  | with_reducible refine q_ifT ?_
  | with_reducible refine q_drop ?_
  | with_reducible refine q_and ?_
  | with_reducible refine q_or ?_
  | with_reducible refine q_andT ?_
  | with_reducible refine q_andF ?_
  | with_reducible refine q_orF ?_
  | with_reducible refine q_orT ?_
  | with_reducible refine q_andV ?_
  | with_reducible refine q_andVT ?_
  | with_reducible refine q_andVF ?_
  | with_reducible refine q_orV ?_
  | with_reducible refine q_gCons ?_
  | with_reducible refine q_gNil ?_
  | with_reducible refine q_tup ?_
  | with_reducible refine q_lst ?_
  | with_reducible refine q_not ?_
  | with_reducible refine q_notKT ?_
  | with_reducible refine q_notKF ?_
  | with_reducible refine q_I0 ?_
  | with_reducible refine q_eqI ?_
  | with_reducible refine q_neI ?_
  | ((with_reducible refine q_I ?_ ?_); first | decide | omega | exact ⟨by omega, by omega⟩ | exact ⟨by decide, by decide⟩ | exact .inl ⟨by omega, by omega⟩ | exact .inr ⟨by omega, by omega⟩ | exact .inr ⟨by decide, by decide⟩)
  | with_reducible refine q_eqS ?_
  | with_reducible refine q_neS ?_
  | with_reducible refine q_brk ?_
  | with_reducible refine q_ct ?_
  | with_reducible refine q_bk ?_
  | with_reducible refine q_cn ?_
  | with_reducible refine q_retN ?_
  | with_reducible refine q_gSub ?_
  | with_reducible refine q_for ?_
  | with_reducible refine q_iList ?_
  | with_reducible refine q_iTup ?_
  | with_reducible refine q_iRng1 ?_
  | with_reducible refine q_notK ?_
  | with_reducible refine q_orVT ?_
  | with_reducible refine q_orVF ?_
  | with_reducible refine q_notV ?_
  | with_reducible refine q_notVK ?_
  | with_reducible refine q_ifE ?_
  | with_reducible refine q_ifET ?_
  | with_reducible refine q_ifEF ?_
  | with_reducible refine q_yes ?_
  | with_reducible refine q_un ?_
  | with_reducible refine q_rU ?_
  | with_reducible refine q_abs ?_
  | with_reducible refine q_int1 ?_
  | with_reducible refine q_bm ?_
  | with_reducible refine q_bm0 ?_
  | with_reducible refine q_lc ?_
  | with_reducible refine q_keepT ?_
  | with_reducible refine q_keepF ?_
  | ((with_reducible apply q_aug); (focus (exact rfl)))
  | with_reducible refine q_ipI ?_
  | with_reducible refine q_chain ?_
  | with_reducible refine q_pairC ?_
  | with_reducible refine q_pairsK ?_
  | with_reducible refine q_pairN ?_
  | with_reducible refine q_fld ?_
  | with_reducible refine q_sFld ?_
  | with_reducible refine q_meth ?_
  | with_reducible refine q_makeK ?_
  | with_reducible refine q_isBl ?_
  | with_reducible refine q_notBl ?_
  | with_reducible refine q_sl ?_
  | with_reducible refine q_noPart ?_
  | with_reducible refine q_part ?_
  | with_reducible refine q_partK ?_
  | ((with_reducible apply q_mulStr); (focus (decide +kernel)))
  | with_reducible refine q_chT ?_
  | with_reducible refine q_chF ?_
  | with_reducible refine q_ord ?_
  | with_reducible refine q_iStr0 ?_
  | with_reducible refine q_iStr ?_
  | with_reducible refine q_tDIn ?_
  | with_reducible refine q_tDNotIn ?_
  | with_reducible refine q_tDGet ?_
  | with_reducible refine q_tDGet2 ?_
  | with_reducible refine q_tDGet1 ?_
  | with_reducible refine q_tDSetd ?_
  | ((with_reducible apply q_dG2a); (focus ((repeat first | (with_reducible exact upd_same) | (with_reducible assumption) | (with_reducible apply upd_new (by assumption)) | (with_reducible apply upd_other (by first | assumption | exact Ne.symm (by assumption))) | (with_reducible refine' Kp.get (by assumption) ?_ (by first | assumption | exact Ne.symm (by assumption))) | (with_reducible apply Same.get (by assumption))); done)))
  | ((with_reducible apply q_dSda); (focus ((repeat first | (with_reducible exact upd_same) | (with_reducible assumption) | (with_reducible apply upd_new (by assumption)) | (with_reducible apply upd_other (by first | assumption | exact Ne.symm (by assumption))) | (with_reducible refine' Kp.get (by assumption) ?_ (by first | assumption | exact Ne.symm (by assumption))) | (with_reducible apply Same.get (by assumption))); done)))
  | with_reducible refine q_sDPut ?_
  | ((with_reducible apply q_dInS); (focus ((repeat first | (with_reducible exact upd_same) | (with_reducible assumption) | (with_reducible apply upd_new (by assumption)) | (with_reducible apply upd_other (by first | assumption | exact Ne.symm (by assumption))) | (with_reducible refine' Kp.get (by assumption) ?_ (by first | assumption | exact Ne.symm (by assumption))) | (with_reducible apply Same.get (by assumption))); done)))
  | ((with_reducible apply q_dNInS); (focus ((repeat first | (with_reducible exact upd_same) | (with_reducible assumption) | (with_reducible apply upd_new (by assumption)) | (with_reducible apply upd_other (by first | assumption | exact Ne.symm (by assumption))) | (with_reducible refine' Kp.get (by assumption) ?_ (by first | assumption | exact Ne.symm (by assumption))) | (with_reducible apply Same.get (by assumption))); done)))
  | ((with_reducible apply q_dInI); (focus ((repeat first | (with_reducible exact upd_same) | (with_reducible assumption) | (with_reducible apply upd_new (by assumption)) | (with_reducible apply upd_other (by first | assumption | exact Ne.symm (by assumption))) | (with_reducible refine' Kp.get (by assumption) ?_ (by first | assumption | exact Ne.symm (by assumption))) | (with_reducible apply Same.get (by assumption))); done)))
  | ((with_reducible apply q_dNInI); (focus ((repeat first | (with_reducible exact upd_same) | (with_reducible assumption) | (with_reducible apply upd_new (by assumption)) | (with_reducible apply upd_other (by first | assumption | exact Ne.symm (by assumption))) | (with_reducible refine' Kp.get (by assumption) ?_ (by first | assumption | exact Ne.symm (by assumption))) | (with_reducible apply Same.get (by assumption))); done)))
  | ((with_reducible apply q_bmL); (focus ((repeat first | (with_reducible exact upd_same) | (with_reducible assumption) | (with_reducible apply upd_new (by assumption)) | (with_reducible apply upd_other (by first | assumption | exact Ne.symm (by assumption))) | (with_reducible refine' Kp.get (by assumption) ?_ (by first | assumption | exact Ne.symm (by assumption))) | (with_reducible apply Same.get (by assumption))); done)))
  | ((with_reducible apply q_bmL0); (focus ((repeat first | (with_reducible exact upd_same) | (with_reducible assumption) | (with_reducible apply upd_new (by assumption)) | (with_reducible apply upd_other (by first | assumption | exact Ne.symm (by assumption))) | (with_reducible refine' Kp.get (by assumption) ?_ (by first | assumption | exact Ne.symm (by assumption))) | (with_reducible apply Same.get (by assumption))); done)))
  | ((with_reducible apply q_ixLt); (focus ((repeat first | (with_reducible exact upd_same) | (with_reducible assumption) | (with_reducible apply upd_new (by assumption)) | (with_reducible apply upd_other (by first | assumption | exact Ne.symm (by assumption))) | (with_reducible refine' Kp.get (by assumption) ?_ (by first | assumption | exact Ne.symm (by assumption))) | (with_reducible apply Same.get (by assumption))); done)); (focus (exact rfl)))
  | ((with_reducible apply q_ixTt); (focus ((repeat first | (with_reducible exact upd_same) | (with_reducible assumption) | (with_reducible apply upd_new (by assumption)) | (with_reducible apply upd_other (by first | assumption | exact Ne.symm (by assumption))) | (with_reducible refine' Kp.get (by assumption) ?_ (by first | assumption | exact Ne.symm (by assumption))) | (with_reducible apply Same.get (by assumption))); done)); (focus (exact rfl)))
  | ((with_reducible apply q_lenLt); (focus ((repeat first | (with_reducible exact upd_same) | (with_reducible assumption) | (with_reducible apply upd_new (by assumption)) | (with_reducible apply upd_other (by first | assumption | exact Ne.symm (by assumption))) | (with_reducible refine' Kp.get (by assumption) ?_ (by first | assumption | exact Ne.symm (by assumption))) | (with_reducible apply Same.get (by assumption))); done)))
  | ((with_reducible apply q_lenTt); (focus ((repeat first | (with_reducible exact upd_same) | (with_reducible assumption) | (with_reducible apply upd_new (by assumption)) | (with_reducible apply upd_other (by first | assumption | exact Ne.symm (by assumption))) | (with_reducible refine' Kp.get (by assumption) ?_ (by first | assumption | exact Ne.symm (by assumption))) | (with_reducible apply Same.get (by assumption))); done)))
  | ((with_reducible apply q_append); (focus ((repeat first | (with_reducible exact upd_same) | (with_reducible assumption) | (with_reducible apply upd_new (by assumption)) | (with_reducible apply upd_other (by first | assumption | exact Ne.symm (by assumption))) | (with_reducible refine' Kp.get (by assumption) ?_ (by first | assumption | exact Ne.symm (by assumption))) | (with_reducible apply Same.get (by assumption))); done)); (focus ((first | (exact Nat.lt_of_ble_eq_true rfl) | (simp only [List.length_append, List.length_cons, List.length_nil, List.length_map]; exact small1000 (by omega))))))
  | ((with_reducible apply q_setL); (focus ((repeat first | (with_reducible exact upd_same) | (with_reducible assumption) | (with_reducible apply upd_new (by assumption)) | (with_reducible apply upd_other (by first | assumption | exact Ne.symm (by assumption))) | (with_reducible refine' Kp.get (by assumption) ?_ (by first | assumption | exact Ne.symm (by assumption))) | (with_reducible apply Same.get (by assumption))); done)); (focus (exact rfl)))
  | with_reducible refine q_ifNT ?_
  | with_reducible refine q_ifNF ?_
  | with_reducible refine q_andNT ?_
  | with_reducible refine q_andNF ?_
  | with_reducible refine q_orNT ?_
  | with_reducible refine q_orNF ?_
  | with_reducible refine q_bKNT ?_
  | with_reducible refine q_bKNF ?_))
/-! a table of rows: by token, then by name -/
abbrev Row := List (Str × Int)
abbrev Tab2 := List (Str × Row)
def rowK (r : Row) : List (Key × V) := r.map fun p => (Sum.inr p.1, .int p.2)
def putRow (r : Row) (x : Str) (i : Int) : Row := if (r.any fun p => decide (p.1 = x)) = true then r.map (fun p => if p.1 = x then (p.1, i) else p) else r ++ [(x, i)]
def getRow (r : Row) (x : Str) : Int := ((r.find? fun p => decide (p.1 = x)).map (·.2)).getD 0
def tabAt (tb : Tab2) (t : Str) : Option Row := (tb.find? fun p => decide (p.1 = t)).map (·.2)
def rowOf (tb : Tab2) (t : Str) : Row := (tabAt tb t).getD []
def setRow : Tab2 → Str → Row → Tab2
  | [], t, r => [(t, r)]
  | (t', r') :: tb, t, r => if t' = t then (t, r) :: tb else (t', r') :: setRow tb t r
def heldT (tb : Tab2) (t x : Str) : Int := getRow (rowOf tb t) x
def putT (tb : Tab2) (t x : Str) (i : Int) : Tab2 := setRow tb t (putRow (rowOf tb t) x (getRow (rowOf tb t) x + i))
theorem inr_dec {s t : Str} : decide ((Sum.inr s : Key) = Sum.inr t) = decide (s = t) := by
  by_cases h : s = t
  · rw [h, decide_eq_true rfl, decide_eq_true rfl]
  · rw [decide_eq_false h, decide_eq_false (fun e => h (Sum.inr.inj e))]
theorem rowK_val (r : Row) (x : Str) : valV (rowK r) (Sum.inr x) = ((r.find? fun p => decide (p.1 = x)).map (·.2)).map V.int := by
  induction r with
  | nil => rfl
  | cons p r ih =>
    show valV ((Sum.inr p.1, V.int p.2) :: rowK r) (Sum.inr x) = _
    rw [valV_cons]
    by_cases h : p.1 = x
    · rw [if_pos (by rw [h]), List.find?_cons_of_pos (by rw [decide_eq_true h])]
      rfl
    · rw [if_neg (fun e => h (Sum.inr.inj e)), List.find?_cons_of_neg (by rw [decide_eq_false h]; exact Bool.false_ne_true), ih]
theorem rowK_get (r : Row) (x : Str) : (valV (rowK r) (Sum.inr x)).getD (.int 0) = .int (getRow r x) := by
  rw [rowK_val]
  unfold getRow
  cases (r.find? fun p => decide (p.1 = x)).map (·.2) <;> rfl
theorem rowK_any (r : Row) (x : Str) : ((rowK r).any fun kv => decide (kv.1 = Sum.inr x)) = r.any fun p => decide (p.1 = x) := by
  unfold rowK
  rw [List.any_map]
  congr 1
  funext p
  exact inr_dec
theorem rowK_put (r : Row) (x : Str) (i : Int) : putK (rowK r) (Sum.inr x) (.int i) = rowK (putRow r x i) := by
  unfold putK putRow
  rw [rowK_any]
  split
  · unfold rowK
    rw [List.map_map, List.map_map]
    congr 1
    funext p
    show (if (Sum.inr p.1 : Key) = Sum.inr x then ((Sum.inr p.1 : Key), V.int i) else (Sum.inr p.1, V.int p.2)) = _
    by_cases h : p.1 = x
    · rw [if_pos (by rw [h])]; show _ = ((Sum.inr (if p.1 = x then (p.1, i) else p).1 : Key), V.int (if p.1 = x then (p.1, i) else p).2); rw [if_pos h]
    · rw [if_neg (fun e => h (Sum.inr.inj e))]; show _ = ((Sum.inr (if p.1 = x then (p.1, i) else p).1 : Key), V.int (if p.1 = x then (p.1, i) else p).2); rw [if_neg h]
  · show _ = rowK (r ++ [(x, i)])
    unfold rowK
    rw [List.map_append]
    rfl
inductive TRows (H : Hp) : Tab2 → List Addr → List (Key × V) → Prop
  | nil : TRows H [] [] []
  | cons {t : Str} {r : Row} {a : Addr} {tb : Tab2} {as : List Addr} {kvs : List (Key × V)} : H a = some (.dK (rowK r)) → a ∉ as → TRows H tb as kvs → TRows H ((t, r) :: tb) (a :: as) ((Sum.inr t, .ref a) :: kvs)
theorem TRows.mono {H H' : Hp} {tb : Tab2} {as : List Addr} {kvs : List (Key × V)} (h : TRows H tb as kvs) (e : ∀ b ∈ as, ∀ o, H b = some o → H' b = some o) : TRows H' tb as kvs := by
  induction h with
  | nil => exact .nil
  | cons h1 h2 _ ih => exact .cons (e _ List.mem_cons_self _ h1) h2 (ih fun b hb => e b (List.mem_cons_of_mem _ hb))
theorem TRows.len {H : Hp} {tb : Tab2} {as : List Addr} {kvs : List (Key × V)} (h : TRows H tb as kvs) : kvs.length = tb.length := by
  induction h with
  | nil => rfl
  | cons _ _ _ ih => exact congrArg (· + 1) ih
theorem TRows.val {H : Hp} {tb : Tab2} {as : List Addr} {kvs : List (Key × V)} (h : TRows H tb as kvs) (t : Str) : (tabAt tb t = none ∧ valV kvs (Sum.inr t) = none) ∨ ∃ r a, tabAt tb t = some r ∧ valV kvs (Sum.inr t) = some (.ref a) ∧ a ∈ as ∧ H a = some (.dK (rowK r)) := by
  induction h with
  | nil => exact .inl ⟨rfl, rfl⟩
  | @cons t' r a tb as kvs h1 h2 _ ih =>
    rw [valV_cons]
    unfold tabAt
    by_cases e : t' = t
    · rw [if_pos (by rw [e]), List.find?_cons_of_pos (by rw [decide_eq_true e])]
      exact .inr ⟨r, a, rfl, rfl, List.mem_cons_self, h1⟩
    · rw [if_neg (fun z => e (Sum.inr.inj z)), List.find?_cons_of_neg (by rw [decide_eq_false e]; exact Bool.false_ne_true)]
      rcases ih with h | ⟨r', a', q1, q2, q3, q4⟩
      · exact .inl h
      · exact .inr ⟨r', a', q1, q2, List.mem_cons_of_mem _ q3, q4⟩
theorem TRows.mem {H : Hp} {tb : Tab2} {as : List Addr} {kvs : List (Key × V)} (h : TRows H tb as kvs) {a : Addr} (ha : a ∈ as) : ∃ r, H a = some (.dK (rowK r)) := by
  induction h with
  | nil => cases ha
  | cons h1 _ _ ih =>
    rcases List.mem_cons.mp ha with rfl | h
    · exact ⟨_, h1⟩
    · exact ih h
theorem TRows.set {H H' : Hp} {tb : Tab2} {as : List Addr} {kvs : List (Key × V)} (h : TRows H tb as kvs) {t : Str} {b : Addr} {r' : Row} (hv : valV kvs (Sum.inr t) = some (.ref b)) (hb : H' b = some (.dK (rowK r'))) (hk : ∀ c ∈ as, c ≠ b → ∀ o, H c = some o → H' c = some o) : TRows H' (setRow tb t r') as kvs := by
  induction h with
  | nil => cases hv
  | @cons t' r a tb as kvs h1 h2 h3 ih =>
    rw [valV_cons] at hv
    by_cases e : t' = t
    · subst e
      rw [if_pos rfl] at hv
      have e2 : a = b := by injection hv with z; injection z
      subst e2
      show TRows H' (if t' = t' then _ else _) _ _
      rw [if_pos rfl]
      exact .cons hb h2 (h3.mono fun c hc o q => hk c (List.mem_cons_of_mem _ hc) (fun z => h2 (z ▸ hc)) o q)
    · rw [if_neg (fun z => e (Sum.inr.inj z))] at hv
      have hm : b ∈ as := by
        rcases h3.val t with ⟨_, q⟩ | ⟨_, c, _, q, m, _⟩
        · rw [q] at hv; cases hv
        · rw [q] at hv
          have e2 : c = b := by injection hv with z; injection z
          exact e2 ▸ m
      show TRows H' (if t' = t then _ else _) _ _
      rw [if_neg e]
      exact .cons (hk a List.mem_cons_self (fun z => h2 (z ▸ hm)) _ h1) h2 (ih hv fun c hc => hk c (List.mem_cons_of_mem _ hc))
theorem TRows.snoc {H : Hp} {tb : Tab2} {as : List Addr} {kvs : List (Key × V)} (h : TRows H tb as kvs) {t : Str} {b : Addr} {r : Row} (hv : valV kvs (Sum.inr t) = none) (hb : H b = some (.dK (rowK r))) (hn : b ∉ as) : TRows H (setRow tb t r) (as ++ [b]) (kvs ++ [(Sum.inr t, .ref b)]) := by
  induction h with
  | nil => exact .cons hb (by simp) .nil
  | @cons t' r' a tb as kvs h1 h2 h3 ih =>
    rw [valV_cons] at hv
    by_cases e : t' = t
    · rw [if_pos (by rw [e])] at hv; cases hv
    · rw [if_neg (fun z => e (Sum.inr.inj z))] at hv
      show TRows H (if t' = t then _ else _) _ _
      rw [if_neg e]
      refine .cons h1 ?_ (ih hv fun z => hn (List.mem_cons_of_mem _ z))
      intro z
      rcases List.mem_append.mp z with z | z
      · exact h2 z
      · exact hn (List.mem_singleton.mp z ▸ List.mem_cons_self)
structure TblAt (H : Hp) (a : Addr) (tb : Tab2) (as : List Addr) : Prop where
  ex : ∃ kvs, H a = some (.dK kvs) ∧ TRows H tb as kvs
  out : a ∉ as
theorem TblAt.mono {H H' : Hp} {a : Addr} {tb : Tab2} {as : List Addr} (h : TblAt H a tb as) (ea : ∀ o, H a = some o → H' a = some o) (e : ∀ b ∈ as, ∀ o, H b = some o → H' b = some o) : TblAt H' a tb as := by
  obtain ⟨kvs, h1, h2⟩ := h.ex
  exact ⟨⟨kvs, ea _ h1, h2.mono e⟩, h.out⟩
theorem TblAt.same {H H' : Hp} {a : Addr} {tb : Tab2} {as : List Addr} (h : TblAt H a tb as) (e : Same H H') : TblAt H' a tb as := h.mono (fun o q => e a o q) fun b _ o q => e b o q
def sp_held : Sp := fun vs H Q _ => ∃ (a : Addr) (t x : Str) (tb : Tab2) (as : List Addr), vs = [.ref a, .str t, .str x] ∧ TblAt H a tb as ∧ ∀ H', Same H H' → Q (.int (heldT tb t x)) H'
/-- all but these addresses stays -/
def Kps (as : List Addr) (H H' : Hp) : Prop := ∀ b o, H b = some o → b ∉ as → H' b = some o
def sp_put : Sp := fun vs H Q _ => ∃ (a : Addr) (t x : Str) (i : Int) (tb : Tab2) (as : List Addr), vs = [.ref a, .str t, .str x, .int i] ∧ TblAt H a tb as ∧ tb.length < 1000 ∧ (rowOf tb t).length < 1000 ∧
  ∀ (H' : Hp) (as' : List Addr), TblAt H' a (putT tb t x i) as' → (∀ b ∈ as', b ∈ as ∨ H b = none) → Kps (a :: as) H H' → Q .non H'
section
variable {P : Program} {w : World} {K : PySem.W.Frag} {mg : Str → Option Value} {base : Heap}
theorem ok_held (T : Txt K mg) : FnOk P w K mg base CX0 1 T.f_held T.d_held ["table", "token", "name"] sp_held := by
  refine T.F_held.ok sc_held (fun vs H Q E h => ?_) (fun cdv A outer s H vs Q E hr h => ?_)
  · obtain ⟨a, t, x, tb, as, rfl, _⟩ := h; rfl
  · obtain ⟨a, t, x, tb, as, rfl, hT, k⟩ := h
    obtain ⟨kvs, ha, hR⟩ := hT.ex
    have hu := hu_of hr
    refine ⟨_, (pss_one (ps_ret (pe_dget2 hu (pe_dget2 hu (pv 0) (pv 1) pe_dnewK ⟨rfl, rfl, rfl, rfl⟩) (pv 2) pe_int ⟨rfl, rfl, rfl, rfl⟩))), ?_⟩
    (dsimp only [cxOf, Cx.nox, Cx.wish, L2.start, List.map, List.length, List.replicate, List.cons_append, List.nil_append, List.append_eq, Nat.reduceSub, Nat.reduceAdd])
    walk_at "my_rd"
    refine q_dNew fun d nd => ?_
    have ha2 := upd_new (w := .dK []) nd ha
    have sm : Same H (upd H d (.dK [])) := Same.up (Same.refl _) nd
    refine q_dG2S ha2 ?_
    rcases hR.val t with ⟨e1, e2⟩ | ⟨r, b, e1, e2, _, hb⟩
    · rw [e2]
      refine q_dG2a upd_same ?_
      walk_at "my_rd"
      refine q_dG2S upd_same ?_
      have e : heldT tb t x = 0 := by unfold heldT rowOf; rw [e1]; rfl
      have k2 := k _ sm
      rw [e] at k2
      exact k2
    · rw [e2]
      refine q_dG2a (sm _ _ hb) ?_
      walk_at "my_rd"
      refine q_dG2S (sm _ _ hb) ?_
      rw [rowK_get]
      have e : heldT tb t x = getRow r x := by unfold heldT rowOf; rw [e1]; rfl
      have k2 := k _ sm
      rw [e] at k2
      exact k2
theorem ok_put (T : Txt K mg) : FnOk P w K mg base CX0 1 T.f_put T.d_put ["table", "token", "name", "amount"] sp_put := by
  refine T.F_put.ok sc_put (fun vs H Q E h => ?_) (fun cdv A outer s H vs Q E hr h => ?_)
  · obtain ⟨a, t, x, i, tb, as, rfl, _⟩ := h; rfl
  · obtain ⟨a, t, x, i, tb, as, rfl, hT, hl1, hl2, k⟩ := h
    obtain ⟨kvs, ha, hR⟩ := hT.ex
    have hu := hu_of hr
    refine ⟨_, (pss_cons (ps_set (i := 4) sc_put.nd rfl (Or.inl rfl) (pe_dsetd (pv 0) (pv 1) pe_dnewK ⟨rfl, rfl, rfl, rfl⟩))
      (pss_one (ps_dput hu (pv 4) (pv 2) (pe_op op_add (pe_dget2 hu (pv 4) (pv 2) pe_int ⟨rfl, rfl, rfl, rfl⟩) (pv 3)) rfl))), ?_⟩
    (dsimp only [cxOf, Cx.nox, Cx.wish, L2.start, List.map, List.length, List.replicate, List.cons_append, List.nil_append, List.append_eq, Nat.reduceSub, Nat.reduceAdd])
    walk_at "my_rd"
    refine q_dNew fun d nd => ?_
    have ha2 := upd_new (w := .dK []) nd ha
    have nad : a ≠ d := ne_of_none ha nd
    have hda : d ∉ as := fun z => by
      obtain ⟨r, q⟩ := hR.mem z
      rw [nd] at q; cases q
    have sm : Same H (upd H d (.dK [])) := Same.up (Same.refl _) nd
    refine q_dSdS ha2 (by rw [hR.len]; exact small1000 (by omega)) (fun v hv => ?_) (fun hv => ?_)
    · rcases hR.val t with ⟨_, e2⟩ | ⟨r, b, e1, e2, hm, hb⟩
      · rw [e2] at hv; cases hv
      · rw [e2] at hv
        injection hv with hv
        subst hv
        have er : rowOf tb t = r := by unfold rowOf; rw [e1]; rfl
        have hb2 := sm _ _ hb
        have nba : b ≠ a := fun z => hT.out (z ▸ hm)
        have nbd : b ≠ d := fun z => hda (z ▸ hm)
        walk_at "my_rd"
        refine q_dG2S hb2 ?_
        rw [rowK_get]
        walk_at "my_rd"
        refine q_dPutS hb2 (by unfold rowK; rw [List.length_map, ← er]; exact small1000 (by omega)) ?_
        walk_at "my_rd"
        rw [rowK_put]
        refine k _ as ⟨⟨kvs, upd_other nba.symm ha2, ?_⟩, hT.out⟩ (fun c hc => .inl hc) ?_
        · unfold putT
          rw [er]
          exact hR.set e2 upd_same fun c _ hc o q => upd_other hc (sm _ _ q)
        · intro c o q hc
          exact upd_other (fun z => hc (List.mem_cons_of_mem _ (z ▸ hm))) (sm _ _ q)
    · rcases hR.val t with ⟨e1, e2⟩ | ⟨r, b, e1, e2, hm, hb⟩
      · have er : rowOf tb t = [] := by unfold rowOf; rw [e1]; rfl
        have hd2 : upd (upd H d (.dK [])) a (.dK (putK kvs (Sum.inr t) (.ref d))) d = some (.dK (rowK [])) := upd_other nad.symm upd_same
        walk_at "my_rd"
        refine q_dG2S hd2 ?_
        rw [rowK_get]
        walk_at "my_rd"
        refine q_dPutS hd2 (by show 0 < sizeLine; exact small1000 (by omega)) ?_
        walk_at "my_rd"
        rw [rowK_put, putK_new _ hv]
        refine k _ (as ++ [d]) ⟨⟨_, upd_other nad upd_same, ?_⟩, ?_⟩ (fun c hc => ?_) ?_
        · unfold putT
          rw [er]
          refine TRows.snoc (hR.mono fun c hc o q => ?_) e2 upd_same hda
          exact upd_other (fun z => hda (z ▸ hc)) (upd_other (fun z => hT.out (z ▸ hc)) (sm _ _ q))
        · intro z
          rcases List.mem_append.mp z with z | z
          · exact hT.out z
          · exact nad (List.mem_singleton.mp z)
        · rcases List.mem_append.mp hc with z | z
          · exact .inl z
          · exact .inr (List.mem_singleton.mp z ▸ nd)
        · intro c o q hc
          refine upd_other (ne_of_none q nd) (upd_other (fun z => hc (z ▸ List.mem_cons_self)) (sm _ _ q))
      · rw [e2] at hv; cases hv
end

local macro_rules | `(tactic| walk_at "my_rd") => `(tactic| (repeat first
  | with_reducible refine q_tCons ?_
  | ((with_reducible apply q_var); (focus (exact rfl)))
  | with_reducible refine q_c ?_
  | with_reducible refine q_nx ?_
  | with_reducible refine q_bK ?_
  | with_reducible refine q_call ?_
  | with_reducible refine q_callK ?_
  | with_reducible refine q_tNil ?_
  | with_reducible refine q_cb ?_
  | with_reducible refine q_seq ?_
  | with_reducible refine q_asg ?_
  | with_reducible refine q_gName ?_
  | with_reducible refine q_op ?_
  | with_reducible refine q_test ?_
  | with_reducible refine q_tB ?_
  | with_reducible refine q_ifS ?_
  | with_reducible refine q_ret ?_
  | with_reducible refine q_rt ?_
  | with_reducible refine q_next ?_
  | with_reducible refine q_ifF ?_
  | with_reducible refine q_ifT ?_
  | with_reducible refine q_drop ?_
  | with_reducible refine q_and ?_
  | with_reducible refine q_or ?_
  | with_reducible refine q_andT ?_
  | with_reducible refine q_andF ?_
  | with_reducible refine q_orF ?_
  | with_reducible refine q_orT ?_
  | with_reducible refine q_andV ?_
  | with_reducible refine q_andVT ?_
  | with_reducible refine q_andVF ?_
  | with_reducible refine q_orV ?_
  | with_reducible refine q_gCons ?_
  | with_reducible refine q_gNil ?_
  | with_reducible refine q_tup ?_
  | with_reducible refine q_lst ?_
  | with_reducible refine q_not ?_
  | with_reducible refine q_notKT ?_
  | with_reducible refine q_notKF ?_
  | with_reducible refine q_I0 ?_
  | with_reducible refine q_eqI ?_
  | with_reducible refine q_neI ?_
  | ((with_reducible refine q_I ?_ ?_); first | decide | omega | exact ⟨by omega, by omega⟩ | exact ⟨by decide, by decide⟩ | exact .inl ⟨by omega, by omega⟩ | exact .inr ⟨by omega, by omega⟩ | exact .inr ⟨by decide, by decide⟩)
  | with_reducible refine q_eqS ?_
  | with_reducible refine q_neS ?_
  | with_reducible refine q_brk ?_
  | with_reducible refine q_ct ?_
  | with_reducible refine q_bk ?_
  | with_reducible refine q_cn ?_
  | with_reducible refine q_retN ?_
  | with_reducible refine q_gSub ?_
  | with_reducible refine q_for ?_
  | with_reducible refine q_iList ?_
  | with_reducible refine q_iTup ?_
  | with_reducible refine q_iRng1 ?_
  | with_reducible refine q_notK ?_
  | with_reducible refine q_orVT ?_
  | with_reducible refine q_orVF ?_
  | with_reducible refine q_notV ?_
  | with_reducible refine q_notVK ?_
  | with_reducible refine q_ifE ?_
  | with_reducible refine q_ifET ?_
  | with_reducible refine q_ifEF ?_
  | with_reducible refine q_yes ?_
  | with_reducible refine q_un ?_
  | with_reducible refine q_rU ?_
  | with_reducible refine q_abs ?_
  | with_reducible refine q_int1 ?_
  | with_reducible refine q_bm ?_
  | with_reducible refine q_bm0 ?_
  | with_reducible refine q_lc ?_
  | with_reducible refine q_keepT ?_
  | with_reducible refine q_keepF ?_
  | ((with_reducible apply q_aug); (focus (exact rfl)))
  | with_reducible refine q_ipI ?_
  | with_reducible refine q_chain ?_
  | with_reducible refine q_pairC ?_
  | with_reducible refine q_pairsK ?_
  | with_reducible refine q_pairN ?_
  | with_reducible refine q_fld ?_
  | with_reducible refine q_sFld ?_
  | with_reducible refine q_meth ?_
  | with_reducible refine q_makeK ?_
  | with_reducible refine q_isBl ?_
  | with_reducible refine q_notBl ?_
  | with_reducible refine q_sl ?_
  | with_reducible refine q_noPart ?_
  | with_reducible refine q_part ?_
  | with_reducible refine q_partK ?_
  | ((with_reducible apply q_mulStr); (focus (decide +kernel)))
  | with_reducible refine q_chT ?_
  | with_reducible refine q_chF ?_
  | with_reducible refine q_ord ?_
  | with_reducible refine q_iStr0 ?_
  | with_reducible refine q_iStr ?_
  | with_reducible refine q_tDIn ?_
  | with_reducible refine q_tDNotIn ?_
  | with_reducible refine q_tDGet ?_
  | with_reducible refine q_tDGet2 ?_
  | with_reducible refine q_tDGet1 ?_
  | with_reducible refine q_tDSetd ?_
  | ((with_reducible apply q_dG2a); (focus ((repeat first | (with_reducible exact upd_same) | (with_reducible assumption) | (with_reducible apply upd_new (by assumption)) | (with_reducible apply upd_other (by first | assumption | exact Ne.symm (by assumption))) | (with_reducible refine' Kp.get (by assumption) ?_ (by first | assumption | exact Ne.symm (by assumption))) | (with_reducible apply Same.get (by assumption))); done)))
  | ((with_reducible apply q_dSda); (focus ((repeat first | (with_reducible exact upd_same) | (with_reducible assumption) | (with_reducible apply upd_new (by assumption)) | (with_reducible apply upd_other (by first | assumption | exact Ne.symm (by assumption))) | (with_reducible refine' Kp.get (by assumption) ?_ (by first | assumption | exact Ne.symm (by assumption))) | (with_reducible apply Same.get (by assumption))); done)))
  | with_reducible refine q_sDPut ?_
  | ((with_reducible apply q_dInS); (focus ((repeat first | (with_reducible exact upd_same) | (with_reducible assumption) | (with_reducible apply upd_new (by assumption)) | (with_reducible apply upd_other (by first | assumption | exact Ne.symm (by assumption))) | (with_reducible refine' Kp.get (by assumption) ?_ (by first | assumption | exact Ne.symm (by assumption))) | (with_reducible apply Same.get (by assumption))); done)))
  | ((with_reducible apply q_dNInS); (focus ((repeat first | (with_reducible exact upd_same) | (with_reducible assumption) | (with_reducible apply upd_new (by assumption)) | (with_reducible apply upd_other (by first | assumption | exact Ne.symm (by assumption))) | (with_reducible refine' Kp.get (by assumption) ?_ (by first | assumption | exact Ne.symm (by assumption))) | (with_reducible apply Same.get (by assumption))); done)))
  | ((with_reducible apply q_dInI); (focus ((repeat first | (with_reducible exact upd_same) | (with_reducible assumption) | (with_reducible apply upd_new (by assumption)) | (with_reducible apply upd_other (by first | assumption | exact Ne.symm (by assumption))) | (with_reducible refine' Kp.get (by assumption) ?_ (by first | assumption | exact Ne.symm (by assumption))) | (with_reducible apply Same.get (by assumption))); done)))
  | ((with_reducible apply q_dNInI); (focus ((repeat first | (with_reducible exact upd_same) | (with_reducible assumption) | (with_reducible apply upd_new (by assumption)) | (with_reducible apply upd_other (by first | assumption | exact Ne.symm (by assumption))) | (with_reducible refine' Kp.get (by assumption) ?_ (by first | assumption | exact Ne.symm (by assumption))) | (with_reducible apply Same.get (by assumption))); done)))
  | ((with_reducible apply q_bmL); (focus ((repeat first | (with_reducible exact upd_same) | (with_reducible assumption) | (with_reducible apply upd_new (by assumption)) | (with_reducible apply upd_other (by first | assumption | exact Ne.symm (by assumption))) | (with_reducible refine' Kp.get (by assumption) ?_ (by first | assumption | exact Ne.symm (by assumption))) | (with_reducible apply Same.get (by assumption))); done)))
  | ((with_reducible apply q_bmL0); (focus ((repeat first | (with_reducible exact upd_same) | (with_reducible assumption) | (with_reducible apply upd_new (by assumption)) | (with_reducible apply upd_other (by first | assumption | exact Ne.symm (by assumption))) | (with_reducible refine' Kp.get (by assumption) ?_ (by first | assumption | exact Ne.symm (by assumption))) | (with_reducible apply Same.get (by assumption))); done)))
  | ((with_reducible apply q_ixLt); (focus ((repeat first | (with_reducible exact upd_same) | (with_reducible assumption) | (with_reducible apply upd_new (by assumption)) | (with_reducible apply upd_other (by first | assumption | exact Ne.symm (by assumption))) | (with_reducible refine' Kp.get (by assumption) ?_ (by first | assumption | exact Ne.symm (by assumption))) | (with_reducible apply Same.get (by assumption))); done)); (focus (exact rfl)))
  | ((with_reducible apply q_ixTt); (focus ((repeat first | (with_reducible exact upd_same) | (with_reducible assumption) | (with_reducible apply upd_new (by assumption)) | (with_reducible apply upd_other (by first | assumption | exact Ne.symm (by assumption))) | (with_reducible refine' Kp.get (by assumption) ?_ (by first | assumption | exact Ne.symm (by assumption))) | (with_reducible apply Same.get (by assumption))); done)); (focus (exact rfl)))
  | ((with_reducible apply q_lenLt); (focus ((repeat first | (with_reducible exact upd_same) | (with_reducible assumption) | (with_reducible apply upd_new (by assumption)) | (with_reducible apply upd_other (by first | assumption | exact Ne.symm (by assumption))) | (with_reducible refine' Kp.get (by assumption) ?_ (by first | assumption | exact Ne.symm (by assumption))) | (with_reducible apply Same.get (by assumption))); done)))
  | ((with_reducible apply q_lenTt); (focus ((repeat first | (with_reducible exact upd_same) | (with_reducible assumption) | (with_reducible apply upd_new (by assumption)) | (with_reducible apply upd_other (by first | assumption | exact Ne.symm (by assumption))) | (with_reducible refine' Kp.get (by assumption) ?_ (by first | assumption | exact Ne.symm (by assumption))) | (with_reducible apply Same.get (by assumption))); done)))
  | ((with_reducible apply q_append); (focus ((repeat first | (with_reducible exact upd_same) | (with_reducible assumption) | (with_reducible apply upd_new (by assumption)) | (with_reducible apply upd_other (by first | assumption | exact Ne.symm (by assumption))) | (with_reducible refine' Kp.get (by assumption) ?_ (by first | assumption | exact Ne.symm (by assumption))) | (with_reducible apply Same.get (by assumption))); done)); (focus ((first | (exact Nat.lt_of_ble_eq_true rfl) | (simp only [List.length_append, List.length_cons, List.length_nil, List.length_map]; exact small1000 (by omega))))))
  | ((with_reducible apply q_setL); (focus ((repeat first | (with_reducible exact upd_same) | (with_reducible assumption) | (with_reducible apply upd_new (by assumption)) | (with_reducible apply upd_other (by first | assumption | exact Ne.symm (by assumption))) | (with_reducible refine' Kp.get (by assumption) ?_ (by first | assumption | exact Ne.symm (by assumption))) | (with_reducible apply Same.get (by assumption))); done)); (focus (exact rfl)))
  | with_reducible refine q_ifNT ?_
  | with_reducible refine q_ifNF ?_
  | with_reducible refine q_andNT ?_
  | with_reducible refine q_andNF ?_
  | with_reducible refine q_orNT ?_
  | with_reducible refine q_orNF ?_
  | with_reducible refine q_bKNT ?_
  | with_reducible refine q_bKNF ?_))
/-! Sheet.__init__ -/
theorem putRow_len (r : Row) (x : Str) (i : Int) : (putRow r x i).length ≤ r.length + 1 := by
  unfold putRow
  split
  · rw [List.length_map]; omega
  · rw [List.length_append]; exact Nat.le_refl _
theorem tabAt_cons (t' : Str) (r' : Row) (tb : Tab2) (t : Str) : tabAt ((t', r') :: tb) t = if t' = t then some r' else tabAt tb t := by
  unfold tabAt
  by_cases e : t' = t
  · rw [if_pos e, List.find?_cons_of_pos (by rw [decide_eq_true e])]; rfl
  · rw [if_neg e, List.find?_cons_of_neg (by rw [decide_eq_false e]; exact Bool.false_ne_true)]
theorem tabAt_set (tb : Tab2) (t : Str) (r : Row) (t2 : Str) : tabAt (setRow tb t r) t2 = if t = t2 then some r else tabAt tb t2 := by
  induction tb with
  | nil => exact tabAt_cons t r [] t2
  | cons p tb ih =>
    obtain ⟨t', r'⟩ := p
    show tabAt (if t' = t then _ else _) t2 = _
    by_cases e : t' = t
    · rw [if_pos e, tabAt_cons, tabAt_cons]
      subst e
      by_cases e2 : t' = t2
      · rw [if_pos e2, if_pos e2]
      · rw [if_neg e2, if_neg e2, if_neg e2]
    · rw [if_neg e, tabAt_cons, tabAt_cons, ih]
      by_cases e2 : t' = t2
      · rw [if_pos e2, if_pos e2, if_neg (fun z => e (e2.trans z.symm))]
      · rw [if_neg e2, if_neg e2]
theorem setRow_len (tb : Tab2) (t : Str) (r : Row) : (setRow tb t r).length ≤ tb.length + 1 := by
  induction tb with
  | nil => exact Nat.le_refl _
  | cons p tb ih =>
    obtain ⟨t', r'⟩ := p
    show (if t' = t then _ else _ : Tab2).length ≤ _
    split
    · exact Nat.le_succ _
    · exact Nat.succ_le_succ ih
/-- no more than n tokens, no row with more than n names -/
structure TabB (n : Nat) (tb : Tab2) : Prop where
  len : tb.length ≤ n
  row : ∀ t, (rowOf tb t).length ≤ n
theorem TabB.nil : TabB 0 [] := ⟨Nat.le_refl _, fun _ => Nat.le_refl _⟩
theorem rowOf_put (tb : Tab2) (t x : Str) (i : Int) (t2 : Str) : rowOf (putT tb t x i) t2 = if t = t2 then putRow (rowOf tb t) x (getRow (rowOf tb t) x + i) else rowOf tb t2 := by
  unfold putT
  show (tabAt (setRow tb t _) t2).getD [] = _
  rw [tabAt_set]
  split <;> rfl
theorem TabB.put {n : Nat} {tb : Tab2} (h : TabB n tb) (t x : Str) (i : Int) : TabB (n + 1) (putT tb t x i) := by
  refine ⟨Nat.le_trans (setRow_len _ _ _) (Nat.succ_le_succ h.len), fun t2 => ?_⟩
  rw [rowOf_put]
  split
  · exact Nat.le_trans (putRow_len _ _ _) (Nat.succ_le_succ (h.row t))
  · exact Nat.le_succ_of_le (h.row t2)
theorem TabB.mono {n m : Nat} {tb : Tab2} (h : TabB n tb) (e : n ≤ m) : TabB m tb := ⟨Nat.le_trans h.len e, fun t => Nat.le_trans (h.row t) e⟩
def openT (bs : List BalR) : Tab2 := bs.foldl (fun tb b => putT tb b.tok b.acc b.amt) []
theorem openT_snoc (bs : List BalR) (b : BalR) : openT (bs ++ [b]) = putT (openT bs) b.tok b.acc b.amt := by
  unfold openT
  rw [List.foldl_append]
  rfl
theorem openT_B (bs : List BalR) : ∀ n, n = bs.length → TabB n (openT bs) := by
  intro n
  induction n generalizing bs with
  | zero =>
    intro e
    have : bs = [] := List.length_eq_zero_iff.mp e.symm
    subst this
    exact TabB.nil
  | succ n ih =>
    intro e
    have hne : bs ≠ [] := by rintro rfl; cases e
    have e2 := List.dropLast_concat_getLast hne
    rw [← e2, openT_snoc]
    exact (ih _ (by rw [List.length_dropLast]; omega)).put _ _ _
/-- what a sheet holds, and where -/
structure Sh where
  cf : Addr
  side : Str
  ba : Addr
  bo : Addr
  va : Addr
  bal : Tab2
  bon : Tab2
  vau : Row
  bs : List Addr
  ds : List Addr
def Sh.foot (S : Sh) : List Addr := S.ba :: S.bs ++ (S.bo :: S.ds ++ [S.va])
def shNames : List Str := ["_config", "_side", "_balances", "_bonds", "_vaults"]
structure ShAt (C : Addr) (H : Hp) (x : Addr) (S : Sh) : Prop where
  ex : ∃ dx fs, H x = some (.ins C dx fs) ∧ fs.lookup ("_config" : Str) = some (.ref S.cf) ∧ fs.lookup ("_side" : Str) = some (.str S.side) ∧ fs.lookup ("_balances" : Str) = some (.ref S.ba) ∧ fs.lookup ("_bonds" : Str) = some (.ref S.bo) ∧ fs.lookup ("_vaults" : Str) = some (.ref S.va) ∧ (∀ m : Str, m ∉ shNames → fs.lookup m = none) ∧ fs.length ≤ 5
  b : TblAt H S.ba S.bal S.bs
  d : TblAt H S.bo S.bon S.ds
  v : H S.va = some (.dK (rowK S.vau))
  n1 : ∀ b ∈ S.ba :: S.bs, b ∉ S.bo :: S.ds
  n2 : S.va ∉ S.ba :: S.bs
  n3 : S.va ∉ S.bo :: S.ds
def sp_sheet (C Cc : Addr) : Sp := fun vs H Q _ => ∃ (x dx cf g : Addr) (c : Parts) (sd : Str), vs = [.ref x, .ref cf, .str sd] ∧ H x = some (.ins C dx []) ∧ CfgAt Cc c g H cf ∧ c.Ok ∧
  ∀ (H' : Hp) (S : Sh), ShAt C H' x S → S.cf = cf → S.side = sd → S.bal = openT (c.bals.filter fun b => decide (c.homeOf b.tok = sd)) → S.bon = [] → S.vau = [] → (∀ b ∈ S.foot, H b = none) → Kp x H H' → Q .non H'
theorem CfgAt.kp {C Cc : Addr} {c : Parts} {g : Addr} {H H' : Hp} {cf x dx : Addr} (h : CfgAt Cc c g H cf) (hx : H x = some (.ins C dx [])) (k : Kp x H H') : CfgAt Cc c g H' cf := by
  obtain ⟨dy, fs, td, bl, kvs, bv, h1, h2, h3, h4, h5, h6, h7, h8, h9, h10, h11, h12, h13⟩ := h.ex
  have ne : cf ≠ x := ne_of h1 hx (by
    intro z
    injection z with _ _ z
    subst z
    cases h2)
  exact ⟨dy, fs, td, bl, kvs, bv, k.get h1 ne, h2, h3, h4, h5, h6, h7, h8, h9, k.get h10 (ne_of h10 hx (by intro z; cases z)), h11.mono fun b ys q => k.get q (ne_of q hx (by intro z; cases z)), k.get h12 (ne_of h12 hx (by intro z; cases z)), h13.kp hx k⟩
section
variable {P : Program} {w : World} {K : PySem.W.Frag} {mg : Str → Option Value} {base : Heap}
theorem ok_Sheet_init (T : Txt K mg) : FnOk P w K mg base CX0 4 T.f_Sheet_init T.d_Sheet_init ["self", "config", "side"] (sp_sheet T.C_Sheet T.C_Config) := by
  refine T.F_Sheet_init.ok sc_Sheet_init (fun vs H Q E h => ?_) (fun cdv A outer s H vs Q E hr h => ?_)
  · obtain ⟨x, dx, cf, g, c, sd, rfl, _⟩ := h; rfl
  · obtain ⟨x, dx, cf, g, c, sd, rfl, hx, hC, hc, k⟩ := h
    have hu := hu_of hr
    refine ⟨_, (pss_cons (ps_fld (pv 0) (pv 1) rfl)
      (pss_cons (ps_fld (pv 0) (pv 2) rfl)
      (pss_cons (ps_fld (pv 0) pe_dnewK rfl)
      (pss_cons (ps_fld (pv 0) pe_dnewK rfl)
      (pss_cons (ps_fld (pv 0) pe_dnewK rfl)
      (pss_one (ps_for PassesOwn.never rfl (pi_list (pe_meth (pv 1) T.cl_Config T.m_Config_opening (ok_Config_opening T) (hr.mono (by decide)) T.b_Config_opening .nil pass0 (pa_cons (pv 2) pa_nil))) (pg_tup rfl (pgs_cons (pg_name (i := 3) sc_Sheet_init.nd rfl (Or.inl rfl)) (pgs_cons (pg_name (i := 4) sc_Sheet_init.nd rfl (Or.inl rfl)) (pgs_cons (pg_name (i := 5) sc_Sheet_init.nd rfl (Or.inl rfl)) pgs_nil))))
        (pss_one (ps_expr (pe_call (ok_put T) (hr.mono (by decide)) (by rfl) T.g_put T.F_put.kp T.b_put .nil pass0 (pa_cons (pe_fld (pv 0) rfl) (pa_cons (pv 4) (pa_cons (pv 3) (pa_cons (pv 5) pa_nil)))))))))))))), ?_⟩
    (dsimp only [cxOf, Cx.nox, Cx.wish, L2.start, List.map, List.length, List.replicate, List.cons_append, List.nil_append, List.append_eq, Nat.reduceSub, Nat.reduceAdd])
    walk_at "my_rd"
    refine q_fputK hx T.cl_Sheet T.n_Sheet_config (by show 0 < 1000; decide) ?_
    walk_at "my_rd"
    refine q_fputK upd_same T.cl_Sheet T.n_Sheet_side (Nat.lt_of_le_of_lt (q_fldlen (n := 0) (by show 0 ≤ 0; decide)) (by decide)) ?_
    walk_at "my_rd"
    rw [upd_upd]
    refine q_dNew fun ba nba => ?_
    have nxa : ba ≠ x := upd_none_ne nba
    have ba0 : H ba = none := upd_none_back nba
    walk_at "my_rd"
    refine q_fputK (upd_new nba upd_same) T.cl_Sheet T.n_Sheet_balances (Nat.lt_of_le_of_lt (q_fldlen (n := 1) (q_fldlen (n := 0) (by show 0 ≤ 0; decide))) (by decide)) ?_
    walk_at "my_rd"
    refine q_dNew fun bo nbo => ?_
    have nxo : bo ≠ x := upd_none_ne nbo
    have bo1 := upd_none_back nbo
    have nao : bo ≠ ba := upd_none_ne bo1
    have bo0 : H bo = none := upd_none_back (upd_none_back bo1)
    walk_at "my_rd"
    refine q_fputK (upd_new nbo upd_same) T.cl_Sheet T.n_Sheet_bonds (Nat.lt_of_le_of_lt (q_fldlen (n := 2) (q_fldlen (n := 1) (q_fldlen (n := 0) (by show 0 ≤ 0; decide)))) (by decide)) ?_
    walk_at "my_rd"
    refine q_dNew fun va nva => ?_
    have nxv : va ≠ x := upd_none_ne nva
    have va1 := upd_none_back nva
    have nvo : va ≠ bo := upd_none_ne va1
    have va2 := upd_none_back (upd_none_back va1)
    have nva2 : va ≠ ba := upd_none_ne va2
    have va0 : H va = none := upd_none_back (upd_none_back va2)
    walk_at "my_rd"
    refine q_fputK (upd_new nva upd_same) T.cl_Sheet T.n_Sheet_vaults (Nat.lt_of_le_of_lt (q_fldlen (n := 3) (q_fldlen (n := 2) (q_fldlen (n := 1) (q_fldlen (n := 0) (by show 0 ≤ 0; decide))))) (by decide)) ?_
    walk_at "my_rd"
    generalize hfs : putF (Str.ofString "_vaults") (V.ref va) _ = fs
    generalize hH5 : upd (upd _ va (.dK [])) x _ = H5
    have hx5 : H5 x = some (.ins T.C_Sheet dx fs) := by rw [← hH5]; exact upd_same
    have hv5 : H5 va = some (.dK []) := by rw [← hH5]; exact upd_other nxv upd_same
    have ho5 : H5 bo = some (.dK []) := by rw [← hH5]; exact upd_other nxo (upd_other nvo.symm (upd_other nxo upd_same))
    have ha5 : H5 ba = some (.dK []) := by rw [← hH5]; exact upd_other nxa (upd_other nva2.symm (upd_other nxa (upd_other nao.symm (upd_other nxa upd_same))))
    have kp5 : Kp x H H5 := by
      rw [← hH5]
      exact Kp.upd (Kp.new (Kp.upd (Kp.new (Kp.upd (Kp.new (Kp.upd Kp.refl) ba0)) bo0)) va0)
    have hf5 : ∀ z, H5 z = none → H z = none := fun z hz => Kp.fresh kp5 hx hz (fun e => by rw [e, hx5] at hz; cases hz)
    have hC5 : CfgAt T.C_Config c g H5 cf := hC.kp hx kp5
    clear hH5
    have lk1 : fs.lookup ("_config" : Str) = some (.ref cf) := by rw [← hfs]; (repeat first | rfl | rw [lookup_putF, if_pos rfl] | rw [lookup_putF, if_neg (by decide +kernel)])
    have lk2 : fs.lookup ("_side" : Str) = some (.str sd) := by rw [← hfs]; (repeat first | rfl | rw [lookup_putF, if_pos rfl] | rw [lookup_putF, if_neg (by decide +kernel)])
    have lk3 : fs.lookup ("_balances" : Str) = some (.ref ba) := by rw [← hfs]; (repeat first | rfl | rw [lookup_putF, if_pos rfl] | rw [lookup_putF, if_neg (by decide +kernel)])
    have lk4 : fs.lookup ("_bonds" : Str) = some (.ref bo) := by rw [← hfs]; (repeat first | rfl | rw [lookup_putF, if_pos rfl] | rw [lookup_putF, if_neg (by decide +kernel)])
    have lk5 : fs.lookup ("_vaults" : Str) = some (.ref va) := by rw [← hfs]; (repeat first | rfl | rw [lookup_putF, if_pos rfl] | rw [lookup_putF, if_neg (by decide +kernel)])
    have lk6 : ∀ m : Str, m ∉ shNames → fs.lookup m = none := by
      intro m hm
      have hne : ∀ z ∈ shNames, ¬ m = z := fun z hz e => hm (e ▸ hz)
      rw [← hfs, lookup_putF, if_neg (hne _ (by decide +kernel)), lookup_putF, if_neg (hne _ (by decide +kernel)), lookup_putF, if_neg (hne _ (by decide +kernel)), lookup_putF, if_neg (hne _ (by decide +kernel)), lookup_putF, if_neg (hne _ (by decide +kernel))]
      rfl
    have lk7 : fs.length ≤ 5 := by rw [← hfs]; exact q_fldlen (q_fldlen (q_fldlen (q_fldlen (q_fldlen (n := 0) (by show 0 ≤ 0; decide)))))
    clear hfs
    clear nva va1 va2 nbo bo1 nba
    obtain ⟨dy, gs, td, bl, kvs, bv, h1, h2, h3, h4, h5, h6, h7, h8, h9, h10, h11, h12, h13⟩ := hC5.ex
    walk_at "my_rd"
    refine q_methK h1 (h9 _ no_opening) fun R hR => ?_
    walk_at "my_rd"
    refine hR _ _ ⟨cf, g, c, sd, rfl, hC5, hc, fun p ys H6 np hp6 hR6 sm6 => ?_⟩
    have rsl : (c.bals.filter fun b => decide (c.homeOf b.tok = sd)).length ≤ c.bals.length := List.length_filter_le _ _
    generalize (c.bals.filter fun b => decide (c.homeOf b.tok = sd)) = rs at rsl k hR6
    have ha6 := sm6 _ _ ha5
    have ho6 := sm6 _ _ ho5
    have hv6 := sm6 _ _ hv5
    have hx6 := sm6 _ _ hx5
    have nxa6 : x ≠ ba := nxa.symm
    have npa : p ≠ ba := (ne_of_none ha5 np).symm
    have tab0 : TblAt H6 ba (openT (rs.take 0)) [] := ⟨⟨[], ha6, .nil⟩, by simp⟩
    refine q_forL (sqL hp6) (fun i σ H' => ∃ (as : List Addr) (v1 v2 v3 : Option V), σ = [some (.ref x), some (.ref cf), some (.str sd), v1, v2, v3] ∧ TblAt H' ba (openT (rs.take i)) as ∧ (∀ b ∈ as, H6 b = none) ∧ Kp ba H6 H')
      ⟨[], none, none, none, rfl, tab0, by simp, Kp.refl⟩ (fun i σ H' _ ⟨_, _, _, _, _, _, _, kp⟩ => sqL (Kp.get kp hp6 npa)) ?_ ?_
    · rintro i v σ H7 hv ⟨as, v1, v2, v3, rfl, hT7, hn7, kp7⟩
      obtain ⟨b, r, hb, rfl, hr0⟩ := hR6.item hv
      have hr1 : H7 r = some (.tup [.str b.acc, .str b.tok, .int b.amt]) := Kp.get kp7 hr0 (ne_of hr0 ha6 (by intro z; cases z))
      have hi : i < rs.length := (List.getElem?_eq_some_iff.mp hb).1
      have hB := openT_B (rs.take i) i (by rw [List.length_take]; omega)
      have hbl := hc.bl
      refine q_gTup (sqT hr1) rfl ?_
      walk_at "my_rd"
      refine q_fldK (Kp.get kp7 hx6 nxa6) T.cl_Sheet T.n_Sheet_balances lk3 ?_
      walk_at "my_rd"
      refine ⟨ba, b.tok, b.acc, b.amt, openT (rs.take i), as, rfl, hT7, by have := hB.len; omega, by have := hB.row b.tok; omega, fun H8 as' hT8 hn8 kp8 => ?_⟩
      walk_at "my_rd"
      refine ⟨as', _, _, _, rfl, ?_, ?_, ?_⟩
      · rw [take_snoc hb, openT_snoc]; exact hT8
      · intro z hz
        rcases hn8 z hz with m | m
        · exact hn7 z m
        · refine Kp.fresh kp7 ha6 m fun e => ?_
          obtain ⟨_, q, _⟩ := hT7.ex
          rw [e, q] at m
          cases m
      · intro z o q nz
        refine kp8 z o (kp7 z o q nz) fun m => ?_
        rcases List.mem_cons.mp m with m | m
        · exact nz m
        · rw [hn7 z m] at q; cases q
    · rintro σ H7 ⟨as, v1, v2, v3, rfl, hT7, hn7, kp7⟩
      rw [hR6.len, List.take_length] at hT7
      walk_at "my_rd"
      have out6 : ∀ z o, H6 z = some o → z ∉ as := fun z o q m => by rw [hn7 z m] at q; cases q
      have nva6 : va ≠ ba := nva2
      refine k H7 ⟨cf, sd, ba, bo, va, openT rs, [], [], as, []⟩ ⟨⟨dx, fs, Kp.get kp7 hx6 nxa6, lk1, lk2, lk3, lk4, lk5, lk6, lk7⟩, hT7, ⟨⟨[], Kp.get kp7 ho6 nao, .nil⟩, by simp⟩, Kp.get kp7 hv6 nva2, ?_, ?_, ?_⟩ rfl rfl rfl rfl rfl ?_ ?_
      · intro z hz m
        have e : z = bo := List.mem_singleton.mp m
        subst e
        rcases List.mem_cons.mp hz with e | e
        · exact nao e
        · exact out6 _ _ ho6 e
      · intro m
        rcases List.mem_cons.mp m with e | e
        · exact nva2 e
        · exact out6 _ _ hv6 e
      · intro m
        exact nvo (List.mem_singleton.mp m)
      · intro z hz
        have hz2 : z ∈ ba :: as ++ (bo :: [] ++ [va]) := hz
        rcases List.mem_append.mp hz2 with m | m
        · rcases List.mem_cons.mp m with e | e
          · exact e ▸ ba0
          · refine hf5 z ?_
            cases q : H5 z with
            | none => rfl
            | some o => exact absurd e (out6 _ _ (sm6 _ _ q))
        · rcases List.mem_cons.mp m with e | e
          · exact e ▸ bo0
          · exact List.mem_singleton.mp e ▸ va0
      · intro z o q nz
        exact kp7 z o (sm6 _ _ (kp5 z o q nz)) fun e => by rw [e, ba0] at q; cases q
end

local macro_rules | `(tactic| walk_at "my_rd") => `(tactic| (repeat first
  | with_reducible refine q_tCons ?_
  | ((with_reducible apply q_var); (focus (exact rfl)))
  | with_reducible refine q_c ?_
  | with_reducible refine q_nx ?_
  | with_reducible refine q_bK ?_
  | with_reducible refine q_call ?_
  | with_reducible refine q_callK ?_
  | with_reducible refine q_tNil ?_
  | with_reducible refine q_cb ?_
  | with_reducible refine q_seq ?_
  | with_reducible refine q_asg ?_
  | with_reducible refine q_gName ?_
  | with_reducible refine q_op ?_
  | with_reducible refine q_test ?_
  | with_reducible refine q_tB ?_
  | with_reducible refine q_ifS ?_
  | with_reducible refine q_ret ?_
  | with_reducible refine q_rt ?_
  | with_reducible refine q_next ?_
  | with_reducible refine q_ifF ?_
  | with_reducible refine q_ifT ?_
  | with_reducible refine q_drop ?_
  | with_reducible refine q_and ?_
  | with_reducible refine q_or ?_
  | with_reducible refine q_andT ?_
  | with_reducible refine q_andF ?_
  | with_reducible refine q_orF ?_
  | with_reducible refine q_orT ?_
  | with_reducible refine q_andV ?_
  | with_reducible refine q_andVT ?_
  | with_reducible refine q_andVF ?_
  | with_reducible refine q_orV ?_
  | with_reducible refine q_gCons ?_
  | with_reducible refine q_gNil ?_
  | with_reducible refine q_tup ?_
  | with_reducible refine q_lst ?_
  | with_reducible refine q_not ?_
  | with_reducible refine q_notKT ?_
  | with_reducible refine q_notKF ?_
  | with_reducible refine q_I0 ?_
  | with_reducible refine q_eqI ?_
  | with_reducible refine q_neI ?_
  | ((with_reducible refine q_I ?_ ?_); first | decide | omega | exact ⟨by omega, by omega⟩ | exact ⟨by decide, by decide⟩ | exact .inl ⟨by omega, by omega⟩ | exact .inr ⟨by omega, by omega⟩ | exact .inr ⟨by decide, by decide⟩)
  | with_reducible refine q_eqS ?_
  | with_reducible refine q_neS ?_
  | with_reducible refine q_brk ?_
  | with_reducible refine q_ct ?_
  | with_reducible refine q_bk ?_
  | with_reducible refine q_cn ?_
  | with_reducible refine q_retN ?_
  | with_reducible refine q_gSub ?_
  | with_reducible refine q_for ?_
  | with_reducible refine q_iList ?_
  | with_reducible refine q_iTup ?_
  | with_reducible refine q_iRng1 ?_
  | with_reducible refine q_notK ?_
  | with_reducible refine q_orVT ?_
  | with_reducible refine q_orVF ?_
  | with_reducible refine q_notV ?_
  | with_reducible refine q_notVK ?_
  | with_reducible refine q_ifE ?_
  | with_reducible refine q_ifET ?_
  | with_reducible refine q_ifEF ?_
  | with_reducible refine q_yes ?_
  | with_reducible refine q_un ?_
  | with_reducible refine q_rU ?_
  | with_reducible refine q_abs ?_
  | with_reducible refine q_int1 ?_
  | with_reducible refine q_bm ?_
  | with_reducible refine q_bm0 ?_
  | with_reducible refine q_lc ?_
  | with_reducible refine q_keepT ?_
  | with_reducible refine q_keepF ?_
  | ((with_reducible apply q_aug); (focus (exact rfl)))
  | with_reducible refine q_ipI ?_
  | with_reducible refine q_chain ?_
  | with_reducible refine q_pairC ?_
  | with_reducible refine q_pairsK ?_
  | with_reducible refine q_pairN ?_
  | with_reducible refine q_fld ?_
  | with_reducible refine q_sFld ?_
  | with_reducible refine q_meth ?_
  | with_reducible refine q_makeK ?_
  | with_reducible refine q_isBl ?_
  | with_reducible refine q_notBl ?_
  | with_reducible refine q_sl ?_
  | with_reducible refine q_noPart ?_
  | with_reducible refine q_part ?_
  | with_reducible refine q_partK ?_
  | ((with_reducible apply q_mulStr); (focus (decide +kernel)))
  | with_reducible refine q_chT ?_
  | with_reducible refine q_chF ?_
  | with_reducible refine q_ord ?_
  | with_reducible refine q_iStr0 ?_
  | with_reducible refine q_iStr ?_
  | with_reducible refine q_tDIn ?_
  | with_reducible refine q_tDNotIn ?_
  | with_reducible refine q_tDGet ?_
  | with_reducible refine q_tDGet2 ?_
  | with_reducible refine q_tDGet1 ?_
  | with_reducible refine q_tDSetd ?_
  | ((with_reducible apply q_dG2a); (focus ((repeat first | (with_reducible exact upd_same) | (with_reducible assumption) | (with_reducible apply upd_new (by assumption)) | (with_reducible apply upd_other (by first | assumption | exact Ne.symm (by assumption))) | (with_reducible refine' Kp.get (by assumption) ?_ (by first | assumption | exact Ne.symm (by assumption))) | (with_reducible apply Same.get (by assumption))); done)))
  | ((with_reducible apply q_dSda); (focus ((repeat first | (with_reducible exact upd_same) | (with_reducible assumption) | (with_reducible apply upd_new (by assumption)) | (with_reducible apply upd_other (by first | assumption | exact Ne.symm (by assumption))) | (with_reducible refine' Kp.get (by assumption) ?_ (by first | assumption | exact Ne.symm (by assumption))) | (with_reducible apply Same.get (by assumption))); done)))
  | with_reducible refine q_sDPut ?_
  | ((with_reducible apply q_dInS); (focus ((repeat first | (with_reducible exact upd_same) | (with_reducible assumption) | (with_reducible apply upd_new (by assumption)) | (with_reducible apply upd_other (by first | assumption | exact Ne.symm (by assumption))) | (with_reducible refine' Kp.get (by assumption) ?_ (by first | assumption | exact Ne.symm (by assumption))) | (with_reducible apply Same.get (by assumption))); done)))
  | ((with_reducible apply q_dNInS); (focus ((repeat first | (with_reducible exact upd_same) | (with_reducible assumption) | (with_reducible apply upd_new (by assumption)) | (with_reducible apply upd_other (by first | assumption | exact Ne.symm (by assumption))) | (with_reducible refine' Kp.get (by assumption) ?_ (by first | assumption | exact Ne.symm (by assumption))) | (with_reducible apply Same.get (by assumption))); done)))
  | ((with_reducible apply q_dInI); (focus ((repeat first | (with_reducible exact upd_same) | (with_reducible assumption) | (with_reducible apply upd_new (by assumption)) | (with_reducible apply upd_other (by first | assumption | exact Ne.symm (by assumption))) | (with_reducible refine' Kp.get (by assumption) ?_ (by first | assumption | exact Ne.symm (by assumption))) | (with_reducible apply Same.get (by assumption))); done)))
  | ((with_reducible apply q_dNInI); (focus ((repeat first | (with_reducible exact upd_same) | (with_reducible assumption) | (with_reducible apply upd_new (by assumption)) | (with_reducible apply upd_other (by first | assumption | exact Ne.symm (by assumption))) | (with_reducible refine' Kp.get (by assumption) ?_ (by first | assumption | exact Ne.symm (by assumption))) | (with_reducible apply Same.get (by assumption))); done)))
  | ((with_reducible apply q_bmL); (focus ((repeat first | (with_reducible exact upd_same) | (with_reducible assumption) | (with_reducible apply upd_new (by assumption)) | (with_reducible apply upd_other (by first | assumption | exact Ne.symm (by assumption))) | (with_reducible refine' Kp.get (by assumption) ?_ (by first | assumption | exact Ne.symm (by assumption))) | (with_reducible apply Same.get (by assumption))); done)))
  | ((with_reducible apply q_bmL0); (focus ((repeat first | (with_reducible exact upd_same) | (with_reducible assumption) | (with_reducible apply upd_new (by assumption)) | (with_reducible apply upd_other (by first | assumption | exact Ne.symm (by assumption))) | (with_reducible refine' Kp.get (by assumption) ?_ (by first | assumption | exact Ne.symm (by assumption))) | (with_reducible apply Same.get (by assumption))); done)))
  | ((with_reducible apply q_ixLt); (focus ((repeat first | (with_reducible exact upd_same) | (with_reducible assumption) | (with_reducible apply upd_new (by assumption)) | (with_reducible apply upd_other (by first | assumption | exact Ne.symm (by assumption))) | (with_reducible refine' Kp.get (by assumption) ?_ (by first | assumption | exact Ne.symm (by assumption))) | (with_reducible apply Same.get (by assumption))); done)); (focus (exact rfl)))
  | ((with_reducible apply q_ixTt); (focus ((repeat first | (with_reducible exact upd_same) | (with_reducible assumption) | (with_reducible apply upd_new (by assumption)) | (with_reducible apply upd_other (by first | assumption | exact Ne.symm (by assumption))) | (with_reducible refine' Kp.get (by assumption) ?_ (by first | assumption | exact Ne.symm (by assumption))) | (with_reducible apply Same.get (by assumption))); done)); (focus (exact rfl)))
  | ((with_reducible apply q_lenLt); (focus ((repeat first | (with_reducible exact upd_same) | (with_reducible assumption) | (with_reducible apply upd_new (by assumption)) | (with_reducible apply upd_other (by first | assumption | exact Ne.symm (by assumption))) | (with_reducible refine' Kp.get (by assumption) ?_ (by first | assumption | exact Ne.symm (by assumption))) | (with_reducible apply Same.get (by assumption))); done)))
  | ((with_reducible apply q_lenTt); (focus ((repeat first | (with_reducible exact upd_same) | (with_reducible assumption) | (with_reducible apply upd_new (by assumption)) | (with_reducible apply upd_other (by first | assumption | exact Ne.symm (by assumption))) | (with_reducible refine' Kp.get (by assumption) ?_ (by first | assumption | exact Ne.symm (by assumption))) | (with_reducible apply Same.get (by assumption))); done)))
  | ((with_reducible apply q_append); (focus ((repeat first | (with_reducible exact upd_same) | (with_reducible assumption) | (with_reducible apply upd_new (by assumption)) | (with_reducible apply upd_other (by first | assumption | exact Ne.symm (by assumption))) | (with_reducible refine' Kp.get (by assumption) ?_ (by first | assumption | exact Ne.symm (by assumption))) | (with_reducible apply Same.get (by assumption))); done)); (focus ((first | (exact Nat.lt_of_ble_eq_true rfl) | (simp only [List.length_append, List.length_cons, List.length_nil, List.length_map]; exact small1000 (by omega))))))
  | ((with_reducible apply q_setL); (focus ((repeat first | (with_reducible exact upd_same) | (with_reducible assumption) | (with_reducible apply upd_new (by assumption)) | (with_reducible apply upd_other (by first | assumption | exact Ne.symm (by assumption))) | (with_reducible refine' Kp.get (by assumption) ?_ (by first | assumption | exact Ne.symm (by assumption))) | (with_reducible apply Same.get (by assumption))); done)); (focus (exact rfl)))
  | with_reducible refine q_ifNT ?_
  | with_reducible refine q_ifNF ?_
  | with_reducible refine q_andNT ?_
  | with_reducible refine q_andNF ?_
  | with_reducible refine q_orNT ?_
  | with_reducible refine q_orNF ?_
  | with_reducible refine q_bKNT ?_
  | with_reducible refine q_bKNF ?_))
/-! Sheet's methods that raise nothing -/
theorem TblAt.free {H : Hp} {a : Addr} {tb : Tab2} {as : List Addr} (h : TblAt H a tb as) {z : Addr} (hz : z ∈ a :: as) : ∃ kvs, H z = some (.dK kvs) := by
  obtain ⟨kvs, h1, h2⟩ := h.ex
  rcases List.mem_cons.mp hz with e | e
  · exact ⟨kvs, e ▸ h1⟩
  · obtain ⟨r, q⟩ := h2.mem e
    exact ⟨_, q⟩
theorem TblAt.kps {H H' : Hp} {a : Addr} {tb : Tab2} {as zs : List Addr} (h : TblAt H a tb as) (k : Kps zs H H') (d : ∀ b ∈ a :: as, b ∉ zs) : TblAt H' a tb as :=
  h.mono (fun o q => k _ o q (d a List.mem_cons_self)) fun b hb o q => k b o q (d b (List.mem_cons_of_mem _ hb))
theorem ShAt.same {C : Addr} {H H' : Hp} {x : Addr} {S : Sh} (h : ShAt C H x S) (e : Same H H') : ShAt C H' x S := by
  obtain ⟨dx, fs, h1, h2⟩ := h.ex
  exact ⟨⟨dx, fs, e _ _ h1, h2⟩, h.b.same e, h.d.same e, e _ _ h.v, h.n1, h.n2, h.n3⟩
theorem ShAt.setB {C : Addr} {H H' : Hp} {x : Addr} {S : Sh} {tb : Tab2} {bs : List Addr} (h : ShAt C H x S) (hT : TblAt H' S.ba tb bs) (hn : ∀ b ∈ bs, b ∈ S.bs ∨ H b = none) (k : Kps (S.ba :: S.bs) H H') : ShAt C H' x { S with bal := tb, bs := bs } := by
  obtain ⟨dx, fs, h1, h2⟩ := h.ex
  have hm : ∀ z ∈ S.ba :: bs, z ∈ S.ba :: S.bs ∨ H z = none := by
    intro z hz
    rcases List.mem_cons.mp hz with e | e
    · exact .inl (e ▸ List.mem_cons_self)
    · rcases hn z e with e | e
      · exact .inl (List.mem_cons_of_mem _ e)
      · exact .inr e
  have hd : ∀ b ∈ S.bo :: S.ds, b ∉ S.ba :: S.bs := fun b hb m => h.n1 b m hb
  refine ⟨⟨dx, fs, k _ _ h1 (fun m => ?_), h2⟩, hT, h.d.kps k hd, k _ _ h.v h.n2, fun b hb m => ?_, fun m => ?_, h.n3⟩
  · obtain ⟨kvs, q⟩ := h.b.free m
    rw [q] at h1; cases h1
  · rcases hm b hb with e | e
    · exact h.n1 b e m
    · obtain ⟨kvs, q⟩ := h.d.free m
      rw [q] at e; cases e
  · rcases hm _ m with e | e
    · exact h.n2 e
    · have := h.v
      rw [e] at this; cases this
theorem ShAt.setD {C : Addr} {H H' : Hp} {x : Addr} {S : Sh} {tb : Tab2} {ds : List Addr} (h : ShAt C H x S) (hT : TblAt H' S.bo tb ds) (hn : ∀ b ∈ ds, b ∈ S.ds ∨ H b = none) (k : Kps (S.bo :: S.ds) H H') : ShAt C H' x { S with bon := tb, ds := ds } := by
  obtain ⟨dx, fs, h1, h2⟩ := h.ex
  have hm : ∀ z ∈ S.bo :: ds, z ∈ S.bo :: S.ds ∨ H z = none := by
    intro z hz
    rcases List.mem_cons.mp hz with e | e
    · exact .inl (e ▸ List.mem_cons_self)
    · rcases hn z e with e | e
      · exact .inl (List.mem_cons_of_mem _ e)
      · exact .inr e
  refine ⟨⟨dx, fs, k _ _ h1 (fun m => ?_), h2⟩, h.b.kps k h.n1, hT, k _ _ h.v h.n3, fun b hb m => ?_, h.n2, fun m => ?_⟩
  · obtain ⟨kvs, q⟩ := h.d.free m
    rw [q] at h1; cases h1
  · rcases hm b m with e | e
    · exact h.n1 b hb e
    · obtain ⟨kvs, q⟩ := h.b.free hb
      rw [q] at e; cases e
  · rcases hm _ m with e | e
    · exact h.n3 e
    · have := h.v
      rw [e] at this; cases this
def sp_heldB (C : Addr) : Sp := fun vs H Q _ => ∃ (x : Addr) (S : Sh) (a t : Str), vs = [.ref x, .str a, .str t] ∧ ShAt C H x S ∧ ∀ H', Same H H' → Q (.int (heldT S.bal t a)) H'
def sp_heldD (C : Addr) : Sp := fun vs H Q _ => ∃ (x : Addr) (S : Sh) (a t : Str), vs = [.ref x, .str a, .str t] ∧ ShAt C H x S ∧ ∀ H', Same H H' → Q (.int (heldT S.bon t a)) H'
def sp_vault (C : Addr) : Sp := fun vs H Q _ => ∃ (x : Addr) (S : Sh) (t : Str), vs = [.ref x, .str t] ∧ ShAt C H x S ∧ Q (.int (getRow S.vau t)) H
def sp_mint (C : Addr) : Sp := fun vs H Q _ => ∃ (x : Addr) (S : Sh) (a t : Str) (i : Int), vs = [.ref x, .str a, .str t, .int i] ∧ ShAt C H x S ∧ S.bal.length < 1000 ∧ (rowOf S.bal t).length < 1000 ∧
  ∀ (H' : Hp) (bs : List Addr), ShAt C H' x { S with bal := putT S.bal t a i, bs := bs } → (∀ b ∈ bs, b ∈ S.bs ∨ H b = none) → Kps (S.ba :: S.bs) H H' → Q .non H'
section
variable {P : Program} {w : World} {K : PySem.W.Frag} {mg : Str → Option Value} {base : Heap}
theorem ok_Sheet_balance (T : Txt K mg) : FnOk P w K mg base CX0 2 T.f_Sheet_balance T.d_Sheet_balance ["self", "account", "token"] (sp_heldB T.C_Sheet) := by
  refine T.F_Sheet_balance.ok sc_Sheet_balance (fun vs H Q E h => ?_) (fun cdv A outer s H vs Q E hr h => ?_)
  · obtain ⟨x, S, a, t, rfl, _⟩ := h; rfl
  · obtain ⟨x, S, a, t, rfl, hS, k⟩ := h
    obtain ⟨dx, fs, h1, h2, h3, h4, h5, h6, h7⟩ := hS.ex
    have hu := hu_of hr
    refine ⟨_, (pss_one (ps_ret (pe_call (ok_held T) (hr.mono (by decide)) (by rfl) T.g_held T.F_held.kp T.b_held .nil pass0 (pa_cons (pe_fld (pv 0) rfl) (pa_cons (pv 2) (pa_cons (pv 1) pa_nil)))))), ?_⟩
    (dsimp only [cxOf, Cx.nox, Cx.wish, L2.start, List.map, List.length, List.replicate, List.cons_append, List.nil_append, List.append_eq, Nat.reduceSub, Nat.reduceAdd])
    walk_at "my_rd"
    refine q_fldK h1 T.cl_Sheet T.n_Sheet_balances h4 ?_
    walk_at "my_rd"
    exact ⟨_, t, a, S.bal, S.bs, rfl, hS.b, k⟩
theorem ok_Sheet_bonded (T : Txt K mg) : FnOk P w K mg base CX0 2 T.f_Sheet_bonded T.d_Sheet_bonded ["self", "guard", "token"] (sp_heldD T.C_Sheet) := by
  refine T.F_Sheet_bonded.ok sc_Sheet_bonded (fun vs H Q E h => ?_) (fun cdv A outer s H vs Q E hr h => ?_)
  · obtain ⟨x, S, a, t, rfl, _⟩ := h; rfl
  · obtain ⟨x, S, a, t, rfl, hS, k⟩ := h
    obtain ⟨dx, fs, h1, h2, h3, h4, h5, h6, h7⟩ := hS.ex
    have hu := hu_of hr
    refine ⟨_, (pss_one (ps_ret (pe_call (ok_held T) (hr.mono (by decide)) (by rfl) T.g_held T.F_held.kp T.b_held .nil pass0 (pa_cons (pe_fld (pv 0) rfl) (pa_cons (pv 2) (pa_cons (pv 1) pa_nil)))))), ?_⟩
    (dsimp only [cxOf, Cx.nox, Cx.wish, L2.start, List.map, List.length, List.replicate, List.cons_append, List.nil_append, List.append_eq, Nat.reduceSub, Nat.reduceAdd])
    walk_at "my_rd"
    refine q_fldK h1 T.cl_Sheet T.n_Sheet_bonds h5 ?_
    walk_at "my_rd"
    exact ⟨_, t, a, S.bon, S.ds, rfl, hS.d, k⟩
theorem ok_Sheet_vault (T : Txt K mg) : FnOk P w K mg base CX0 1 T.f_Sheet_vault T.d_Sheet_vault ["self", "token"] (sp_vault T.C_Sheet) := by
  refine T.F_Sheet_vault.ok sc_Sheet_vault (fun vs H Q E h => ?_) (fun cdv A outer s H vs Q E hr h => ?_)
  · obtain ⟨x, S, t, rfl, _⟩ := h; rfl
  · obtain ⟨x, S, t, rfl, hS, k⟩ := h
    obtain ⟨dx, fs, h1, h2, h3, h4, h5, h6, h7⟩ := hS.ex
    have hu := hu_of hr
    refine ⟨_, (pss_one (ps_ret (pe_dget2 hu (pe_fld (pv 0) rfl) (pv 1) pe_int ⟨rfl, rfl, rfl, rfl⟩))), ?_⟩
    (dsimp only [cxOf, Cx.nox, Cx.wish, L2.start, List.map, List.length, List.replicate, List.cons_append, List.nil_append, List.append_eq, Nat.reduceSub, Nat.reduceAdd])
    walk_at "my_rd"
    refine q_fldK h1 T.cl_Sheet T.n_Sheet_vaults h6 ?_
    refine q_dG2a hS.v ?_
    walk_at "my_rd"
    refine q_dG2S hS.v ?_
    rw [rowK_get]
    exact k
theorem ok_Sheet_mint (T : Txt K mg) : FnOk P w K mg base CX0 2 T.f_Sheet_mint T.d_Sheet_mint ["self", "account", "token", "units"] (sp_mint T.C_Sheet) := by
  refine T.F_Sheet_mint.ok sc_Sheet_mint (fun vs H Q E h => ?_) (fun cdv A outer s H vs Q E hr h => ?_)
  · obtain ⟨x, S, a, t, i, rfl, _⟩ := h; rfl
  · obtain ⟨x, S, a, t, i, rfl, hS, hl1, hl2, k⟩ := h
    obtain ⟨dx, fs, h1, h2, h3, h4, h5, h6, h7⟩ := hS.ex
    have hu := hu_of hr
    refine ⟨_, (pss_one (ps_expr (pe_call (ok_put T) (hr.mono (by decide)) (by rfl) T.g_put T.F_put.kp T.b_put .nil pass0 (pa_cons (pe_fld (pv 0) rfl) (pa_cons (pv 2) (pa_cons (pv 1) (pa_cons (pv 3) pa_nil))))))), ?_⟩
    (dsimp only [cxOf, Cx.nox, Cx.wish, L2.start, List.map, List.length, List.replicate, List.cons_append, List.nil_append, List.append_eq, Nat.reduceSub, Nat.reduceAdd])
    walk_at "my_rd"
    refine q_fldK h1 T.cl_Sheet T.n_Sheet_balances h4 ?_
    walk_at "my_rd"
    refine ⟨_, t, a, i, S.bal, S.bs, rfl, hS.b, hl1, hl2, fun H' bs hT hn kp => ?_⟩
    walk_at "my_rd"
    exact k H' bs (hS.setB hT hn kp) hn kp
end

/-! taking away, which may raise -/
def sp_draw (CF : Addr) : Sp := fun vs H Q E => ∃ (a : Addr) (t x : Str) (i : Int) (tb : Tab2) (as : List Addr), vs = [.ref a, .str t, .str x, .int i] ∧ TblAt H a tb as ∧ tb.length < 1000 ∧ (rowOf tb t).length < 1000 ∧
  (heldT tb t x < i → ∀ H', Same H H' → E (.ref CF) none H') ∧
  (¬ heldT tb t x < i → ∀ (H' : Hp) (as' : List Addr), TblAt H' a (putT tb t x (-i)) as' → (∀ b ∈ as', b ∈ as ∨ H b = none) → Kps (a :: as) H H' → Q .non H')
section
variable {P : Program} {w : World} {K : PySem.W.Frag} {mg : Str → Option Value} {base : Heap}
theorem ok_draw (T : Txt K mg) : FnOk P w K mg base (L2.CX P w) 2 T.f_draw T.d_draw ["table", "token", "name", "amount"] (sp_draw T.C_NotEnoughBalance) := by
  refine T.F_draw.okX sc_draw (fun vs H Q E h => ?_) (fun cdv A outer s H vs Q E hr h => ?_)
  · obtain ⟨a, t, x, i, tb, as, rfl, _⟩ := h; rfl
  · obtain ⟨a, t, x, i, tb, as, rfl, hT, hl1, hl2, kE, kQ⟩ := h
    have hu := hu_of hr
    refine ⟨_, (pss_cons (ps_if (pt_cmpR op_lt (pe_call (ok_held T) (hr.mono (by decide)) (by rfl) T.g_held T.F_held.kp T.b_held .nil pass0 (pa_cons (pv 0) (pa_cons (pv 1) (pa_cons (pv 2) pa_nil)))) (pv 3) (nomark _)) (pss_one (ps_raise rfl (takes_of rfl rfl rfl rfl) (pmk_own PySem.F.excBase_ValueError T.xe_NotEnoughBalance T.g_NotEnoughBalance T.ke_NotEnoughBalance (raises_own T.be_NotEnoughBalance T.te_NotEnoughBalance) (by exact rfl)))) pss_nil)
      (pss_one (ps_expr (pe_call (ok_put T) (hr.mono (by decide)) (by rfl) T.g_put T.F_put.kp T.b_put .nil pass0 (pa_cons (pv 0) (pa_cons (pv 1) (pa_cons (pv 2) (pa_cons (pe_un un_neg (pv 3)) pa_nil)))))))), ?_⟩
    (dsimp only [cxOf, Cx.nox, Cx.wish, L2.start, List.map, List.length, List.replicate, List.cons_append, List.nil_append, List.append_eq, Nat.reduceSub, Nat.reduceAdd])
    walk_at "my_rd"
    refine ⟨a, t, x, tb, as, rfl, hT, fun H1 sm => ?_⟩
    walk_at "my_rd"
    by_cases hlt : heldT tb t x < i
    · rw [decide_eq_true hlt]
      walk_at "my_rd"
      exact kE hlt H1 sm
    · rw [decide_eq_false hlt]
      walk_at "my_rd"
      refine ⟨a, t, x, -i, tb, as, rfl, hT.same sm, hl1, hl2, fun H' as' hT' hn kp => ?_⟩
      walk_at "my_rd"
      exact kQ hlt H' as' hT' (fun b hb => (hn b hb).imp_right fun q => Same.free sm q) fun b o q n => kp b o (sm _ _ q) n
end

/-! a sheet that becomes another one -/
structure ShTo (C : Addr) (H : Hp) (x : Addr) (S : Sh) (H' : Hp) (S' : Sh) : Prop where
  at_ : ShAt C H' x S'
  cf : S'.cf = S.cf
  side : S'.side = S.side
  ft : ∀ b ∈ S'.foot, b ∈ S.foot ∨ H b = none
  kp : Kps S.foot H H'
theorem ShTo.trans {C x : Addr} {H H1 H2 : Hp} {S S1 S2 : Sh} (h1 : ShTo C H x S H1 S1) (h2 : ShTo C H1 x S1 H2 S2) : ShTo C H x S H2 S2 := by
  refine ⟨h2.at_, h2.cf.trans h1.cf, h2.side.trans h1.side, fun b hb => ?_, fun b o q n => ?_⟩
  · rcases h2.ft b hb with m | m
    · exact h1.ft b m
    · by_cases e : b ∈ S.foot
      · exact .inl e
      · refine .inr ?_
        cases q : H b with
        | none => rfl
        | some o => rw [h1.kp b o q e] at m; cases m
  · refine h2.kp b o (h1.kp b o q n) fun m => ?_
    rcases h1.ft b m with e | e
    · exact n e
    · rw [q] at e; cases e
theorem ShTo.pre {C x : Addr} {H H1 H2 : Hp} {S S2 : Sh} (sm : Same H H1) (h : ShTo C H1 x S H2 S2) : ShTo C H x S H2 S2 :=
  ⟨h.at_, h.cf, h.side, fun b hb => (h.ft b hb).imp_right fun q => Same.free sm q, fun b o q n => h.kp b o (sm _ _ q) n⟩
theorem foot_b {S : Sh} {b : Addr} (h : b ∈ S.ba :: S.bs) : b ∈ S.foot := List.mem_append.mpr (.inl h)
theorem foot_d {S : Sh} {b : Addr} (h : b ∈ S.bo :: S.ds) : b ∈ S.foot := List.mem_append.mpr (.inr (List.mem_append.mpr (.inl h)))
theorem foot_v {S : Sh} : S.va ∈ S.foot := List.mem_append.mpr (.inr (List.mem_append.mpr (.inr (List.mem_singleton.mpr rfl))))
theorem foot_of {S : Sh} {b : Addr} (h : b ∈ S.foot) : b ∈ S.ba :: S.bs ∨ b ∈ S.bo :: S.ds ∨ b = S.va := by
  rcases List.mem_append.mp h with m | m
  · exact .inl m
  · rcases List.mem_append.mp m with m | m
    · exact .inr (.inl m)
    · exact .inr (.inr (List.mem_singleton.mp m))
theorem ShAt.toB {C : Addr} {H H' : Hp} {x : Addr} {S : Sh} {tb : Tab2} {bs : List Addr} (h : ShAt C H x S) (hT : TblAt H' S.ba tb bs) (hn : ∀ b ∈ bs, b ∈ S.bs ∨ H b = none) (k : Kps (S.ba :: S.bs) H H') : ShTo C H x S H' { S with bal := tb, bs := bs } := by
  refine ⟨h.setB hT hn k, rfl, rfl, fun b hb => ?_, fun b o q n => k b o q fun m => n (foot_b m)⟩
  rcases foot_of hb with m | m | m
  · rcases List.mem_cons.mp m with e | e
    · exact .inl (foot_b (e ▸ List.mem_cons_self))
    · exact (hn b e).imp_left fun z => foot_b (List.mem_cons_of_mem _ z)
  · exact .inl (foot_d m)
  · subst m; exact .inl foot_v
theorem ShAt.toD {C : Addr} {H H' : Hp} {x : Addr} {S : Sh} {tb : Tab2} {ds : List Addr} (h : ShAt C H x S) (hT : TblAt H' S.bo tb ds) (hn : ∀ b ∈ ds, b ∈ S.ds ∨ H b = none) (k : Kps (S.bo :: S.ds) H H') : ShTo C H x S H' { S with bon := tb, ds := ds } := by
  refine ⟨h.setD hT hn k, rfl, rfl, fun b hb => ?_, fun b o q n => k b o q fun m => n (foot_d m)⟩
  rcases foot_of hb with m | m | m
  · exact .inl (foot_b m)
  · rcases List.mem_cons.mp m with e | e
    · exact .inl (foot_d (e ▸ List.mem_cons_self))
    · exact (hn b e).imp_left fun z => foot_d (List.mem_cons_of_mem _ z)
  · subst m; exact .inl foot_v
theorem ShAt.toV {C : Addr} {H : Hp} {x : Addr} {S : Sh} {r : Row} (h : ShAt C H x S) : ShTo C H x S (upd H S.va (.dK (rowK r))) { S with vau := r } := by
  obtain ⟨dx, fs, h1, h2⟩ := h.ex
  have nx : x ≠ S.va := ne_of h1 h.v (by intro z; cases z)
  have kv : Kps [S.va] H (upd H S.va (.dK (rowK r))) := fun b o q n => upd_other (fun e => n (List.mem_singleton.mpr e)) q
  refine ⟨⟨⟨dx, fs, upd_other nx h1, h2⟩, h.b.kps kv fun b hb m => h.n2 (List.mem_singleton.mp m ▸ hb), h.d.kps kv fun b hb m => h.n3 (List.mem_singleton.mp m ▸ hb), upd_same, h.n1, h.n2, h.n3⟩, rfl, rfl, fun b hb => .inl hb, fun b o q n => upd_other (fun e => n (e ▸ foot_v)) q⟩
def BigB (n : Nat) (S : Sh) : Prop := TabB n S.bal ∧ TabB n S.bon ∧ S.vau.length ≤ n
def sp_burn (C CF : Addr) : Sp := fun vs H Q E => ∃ (x : Addr) (S : Sh) (a t : Str) (i : Int), vs = [.ref x, .str a, .str t, .int i] ∧ ShAt C H x S ∧ TabB 999 S.bal ∧
  (heldT S.bal t a < i → ∀ H', Same H H' → E (.ref CF) none H') ∧
  (¬ heldT S.bal t a < i → ∀ (H' : Hp) (S' : Sh), ShTo C H x S H' S' → S'.bal = putT S.bal t a (-i) → S'.bon = S.bon → S'.vau = S.vau → Q .non H')
def sp_move (C CF : Addr) : Sp := fun vs H Q E => ∃ (x : Addr) (S : Sh) (a b t : Str) (i : Int), vs = [.ref x, .str a, .str b, .str t, .int i] ∧ ShAt C H x S ∧ TabB 998 S.bal ∧
  (heldT S.bal t a < i → ∀ H', Same H H' → E (.ref CF) none H') ∧
  (¬ heldT S.bal t a < i → ∀ (H' : Hp) (S' : Sh), ShTo C H x S H' S' → S'.bal = putT (putT S.bal t a (-i)) t b i → S'.bon = S.bon → S'.vau = S.vau → Q .non H')
def sp_bond (C CF : Addr) : Sp := fun vs H Q E => ∃ (x : Addr) (S : Sh) (a t : Str) (i : Int), vs = [.ref x, .str a, .str t, .int i] ∧ ShAt C H x S ∧ TabB 999 S.bal ∧ TabB 999 S.bon ∧
  (heldT S.bal t a < i → ∀ H', Same H H' → E (.ref CF) none H') ∧
  (¬ heldT S.bal t a < i → ∀ (H' : Hp) (S' : Sh), ShTo C H x S H' S' → S'.bal = putT S.bal t a (-i) → S'.bon = putT S.bon t a i → S'.vau = S.vau → Q .non H')
def sp_unbond (C CF : Addr) : Sp := fun vs H Q E => ∃ (x : Addr) (S : Sh) (a t : Str) (i : Int), vs = [.ref x, .str a, .str t, .int i] ∧ ShAt C H x S ∧ TabB 999 S.bal ∧ TabB 999 S.bon ∧
  (heldT S.bon t a < i → ∀ H', Same H H' → E (.ref CF) none H') ∧
  (¬ heldT S.bon t a < i → ∀ (H' : Hp) (S' : Sh), ShTo C H x S H' S' → S'.bal = putT S.bal t a i → S'.bon = putT S.bon t a (-i) → S'.vau = S.vau → Q .non H')
theorem lt1000 {n : Nat} (h : n ≤ 999) : n < 1000 := Nat.lt_succ_of_le h
section
variable {P : Program} {w : World} {K : PySem.W.Frag} {mg : Str → Option Value} {base : Heap}
theorem ok_Sheet_burn (T : Txt K mg) : FnOk P w K mg base (L2.CX P w) 3 T.f_Sheet_burn T.d_Sheet_burn ["self", "account", "token", "units"] (sp_burn T.C_Sheet T.C_NotEnoughBalance) := by
  refine T.F_Sheet_burn.okX sc_Sheet_burn (fun vs H Q E h => ?_) (fun cdv A outer s H vs Q E hr h => ?_)
  · obtain ⟨x, S, a, t, i, rfl, _⟩ := h; rfl
  · obtain ⟨x, S, a, t, i, rfl, hS, hB, kE, kQ⟩ := h
    obtain ⟨dx, fs, h1, h2, h3, h4, h5, h6, h7⟩ := hS.ex
    have hu := hu_of hr
    refine ⟨_, (pss_one (ps_expr (pe_call (ok_draw T) (hr.mono (by decide)) (by rfl) T.g_draw T.F_draw.kp T.b_draw .nil (passes_call (takes_of rfl rfl rfl rfl) fun _ _ _ _ h => h) (pa_cons (pe_fld (pv 0) rfl) (pa_cons (pv 2) (pa_cons (pv 1) (pa_cons (pv 3) pa_nil))))))), ?_⟩
    (dsimp only [cxOf, Cx.nox, Cx.wish, L2.start, List.map, List.length, List.replicate, List.cons_append, List.nil_append, List.append_eq, Nat.reduceSub, Nat.reduceAdd])
    walk_at "my_rd"
    refine q_fldK h1 T.cl_Sheet T.n_Sheet_balances h4 ?_
    walk_at "my_rd"
    refine ⟨_, t, a, i, S.bal, S.bs, rfl, hS.b, lt1000 hB.len, lt1000 (hB.row t), kE, fun hlt H' bs hT hn kp => ?_⟩
    walk_at "my_rd"
    exact kQ hlt H' _ (hS.toB hT hn kp) rfl rfl rfl
theorem ok_Sheet_move (T : Txt K mg) : FnOk P w K mg base (L2.CX P w) 3 T.f_Sheet_move T.d_Sheet_move ["self", "sender", "receiver", "token", "amount"] (sp_move T.C_Sheet T.C_NotEnoughBalance) := by
  refine T.F_Sheet_move.okX sc_Sheet_move (fun vs H Q E h => ?_) (fun cdv A outer s H vs Q E hr h => ?_)
  · obtain ⟨x, S, a, b, t, i, rfl, _⟩ := h; rfl
  · obtain ⟨x, S, a, b, t, i, rfl, hS, hB, kE, kQ⟩ := h
    obtain ⟨dx, fs, h1, h2, h3, h4, h5, h6, h7⟩ := hS.ex
    have hu := hu_of hr
    refine ⟨_, (pss_cons (ps_expr (pe_call (ok_draw T) (hr.mono (by decide)) (by rfl) T.g_draw T.F_draw.kp T.b_draw .nil (passes_call (takes_of rfl rfl rfl rfl) fun _ _ _ _ h => h) (pa_cons (pe_fld (pv 0) rfl) (pa_cons (pv 3) (pa_cons (pv 1) (pa_cons (pv 4) pa_nil))))))
      (pss_one (ps_expr (pe_call (ok_put T) (hr.mono (by decide)) (by rfl) T.g_put T.F_put.kp T.b_put .nil pass0 (pa_cons (pe_fld (pv 0) rfl) (pa_cons (pv 3) (pa_cons (pv 2) (pa_cons (pv 4) pa_nil)))))))), ?_⟩
    (dsimp only [cxOf, Cx.nox, Cx.wish, L2.start, List.map, List.length, List.replicate, List.cons_append, List.nil_append, List.append_eq, Nat.reduceSub, Nat.reduceAdd])
    walk_at "my_rd"
    refine q_fldK h1 T.cl_Sheet T.n_Sheet_balances h4 ?_
    walk_at "my_rd"
    refine ⟨_, t, a, i, S.bal, S.bs, rfl, hS.b, lt1000 (Nat.le_succ_of_le hB.len), lt1000 (Nat.le_succ_of_le (hB.row t)), kE, fun hlt H1 bs hT hn kp => ?_⟩
    have st := hS.toB hT hn kp
    have hS1 := st.at_
    obtain ⟨dx1, fs1, g1, g2, g3, g4, g5, g6, g7⟩ := hS1.ex
    have hB1 := hB.put t a (-i)
    walk_at "my_rd"
    refine q_fldK g1 T.cl_Sheet T.n_Sheet_balances g4 ?_
    walk_at "my_rd"
    refine ⟨_, t, b, i, putT S.bal t a (-i), bs, rfl, hS1.b, lt1000 hB1.len, lt1000 (hB1.row t), fun H2 bs2 hT2 hn2 kp2 => ?_⟩
    walk_at "my_rd"
    exact kQ hlt H2 _ (st.trans (hS1.toB hT2 hn2 kp2)) rfl rfl rfl
theorem ok_Sheet_bond (T : Txt K mg) : FnOk P w K mg base (L2.CX P w) 3 T.f_Sheet_bond T.d_Sheet_bond ["self", "guard", "token", "amount"] (sp_bond T.C_Sheet T.C_NotEnoughBalance) := by
  refine T.F_Sheet_bond.okX sc_Sheet_bond (fun vs H Q E h => ?_) (fun cdv A outer s H vs Q E hr h => ?_)
  · obtain ⟨x, S, a, t, i, rfl, _⟩ := h; rfl
  · obtain ⟨x, S, a, t, i, rfl, hS, hB, hD, kE, kQ⟩ := h
    obtain ⟨dx, fs, h1, h2, h3, h4, h5, h6, h7⟩ := hS.ex
    have hu := hu_of hr
    refine ⟨_, (pss_cons (ps_expr (pe_call (ok_draw T) (hr.mono (by decide)) (by rfl) T.g_draw T.F_draw.kp T.b_draw .nil (passes_call (takes_of rfl rfl rfl rfl) fun _ _ _ _ h => h) (pa_cons (pe_fld (pv 0) rfl) (pa_cons (pv 2) (pa_cons (pv 1) (pa_cons (pv 3) pa_nil))))))
      (pss_one (ps_expr (pe_call (ok_put T) (hr.mono (by decide)) (by rfl) T.g_put T.F_put.kp T.b_put .nil pass0 (pa_cons (pe_fld (pv 0) rfl) (pa_cons (pv 2) (pa_cons (pv 1) (pa_cons (pv 3) pa_nil)))))))), ?_⟩
    (dsimp only [cxOf, Cx.nox, Cx.wish, L2.start, List.map, List.length, List.replicate, List.cons_append, List.nil_append, List.append_eq, Nat.reduceSub, Nat.reduceAdd])
    walk_at "my_rd"
    refine q_fldK h1 T.cl_Sheet T.n_Sheet_balances h4 ?_
    walk_at "my_rd"
    refine ⟨_, t, a, i, S.bal, S.bs, rfl, hS.b, lt1000 hB.len, lt1000 (hB.row t), kE, fun hlt H1 bs hT hn kp => ?_⟩
    have st := hS.toB hT hn kp
    have hS1 := st.at_
    obtain ⟨dx1, fs1, g1, g2, g3, g4, g5, g6, g7⟩ := hS1.ex
    walk_at "my_rd"
    refine q_fldK g1 T.cl_Sheet T.n_Sheet_bonds g5 ?_
    walk_at "my_rd"
    refine ⟨_, t, a, i, S.bon, S.ds, rfl, hS1.d, lt1000 hD.len, lt1000 (hD.row t), fun H2 ds2 hT2 hn2 kp2 => ?_⟩
    walk_at "my_rd"
    exact kQ hlt H2 _ (st.trans (hS1.toD hT2 hn2 kp2)) rfl rfl rfl
theorem ok_Sheet_unbond (T : Txt K mg) : FnOk P w K mg base (L2.CX P w) 3 T.f_Sheet_unbond T.d_Sheet_unbond ["self", "guard", "token", "amount"] (sp_unbond T.C_Sheet T.C_NotEnoughBalance) := by
  refine T.F_Sheet_unbond.okX sc_Sheet_unbond (fun vs H Q E h => ?_) (fun cdv A outer s H vs Q E hr h => ?_)
  · obtain ⟨x, S, a, t, i, rfl, _⟩ := h; rfl
  · obtain ⟨x, S, a, t, i, rfl, hS, hB, hD, kE, kQ⟩ := h
    obtain ⟨dx, fs, h1, h2, h3, h4, h5, h6, h7⟩ := hS.ex
    have hu := hu_of hr
    refine ⟨_, (pss_cons (ps_expr (pe_call (ok_draw T) (hr.mono (by decide)) (by rfl) T.g_draw T.F_draw.kp T.b_draw .nil (passes_call (takes_of rfl rfl rfl rfl) fun _ _ _ _ h => h) (pa_cons (pe_fld (pv 0) rfl) (pa_cons (pv 2) (pa_cons (pv 1) (pa_cons (pv 3) pa_nil))))))
      (pss_one (ps_expr (pe_call (ok_put T) (hr.mono (by decide)) (by rfl) T.g_put T.F_put.kp T.b_put .nil pass0 (pa_cons (pe_fld (pv 0) rfl) (pa_cons (pv 2) (pa_cons (pv 1) (pa_cons (pv 3) pa_nil)))))))), ?_⟩
    (dsimp only [cxOf, Cx.nox, Cx.wish, L2.start, List.map, List.length, List.replicate, List.cons_append, List.nil_append, List.append_eq, Nat.reduceSub, Nat.reduceAdd])
    walk_at "my_rd"
    refine q_fldK h1 T.cl_Sheet T.n_Sheet_bonds h5 ?_
    walk_at "my_rd"
    refine ⟨_, t, a, i, S.bon, S.ds, rfl, hS.d, lt1000 hD.len, lt1000 (hD.row t), kE, fun hlt H1 ds hT hn kp => ?_⟩
    have st := hS.toD hT hn kp
    have hS1 := st.at_
    obtain ⟨dx1, fs1, g1, g2, g3, g4, g5, g6, g7⟩ := hS1.ex
    walk_at "my_rd"
    refine q_fldK g1 T.cl_Sheet T.n_Sheet_balances g4 ?_
    walk_at "my_rd"
    refine ⟨_, t, a, i, S.bal, S.bs, rfl, hS1.b, lt1000 hB.len, lt1000 (hB.row t), fun H2 bs2 hT2 hn2 kp2 => ?_⟩
    walk_at "my_rd"
    exact kQ hlt H2 _ (st.trans (hS1.toB hT2 hn2 kp2)) rfl rfl rfl
end

/-! lock and release -/
theorem no_vault : ("vault" : Str) ∉ shNames := by decide +kernel
def addRow (r : Row) (t : Str) (i : Int) : Row := putRow r t (getRow r t + i)
def sp_lock (C Cc CF : Addr) : Sp := fun vs H Q E => ∃ (x g : Addr) (S : Sh) (c : Parts) (a : Str) (t : TokR) (i : Int), vs = [.ref x, .str a, .str t.name, .int i] ∧ ShAt C H x S ∧ CfgAt Cc c g H S.cf ∧ t ∈ c.toks ∧ (0 ≤ t.scale ∧ t.scale ≤ 1000) ∧ TabB 999 S.bal ∧ S.vau.length ≤ 999 ∧
  (heldT S.bal t.name a < i * t.scale → ∀ H', Same H H' → E (.ref CF) none H') ∧
  (¬ heldT S.bal t.name a < i * t.scale → ∀ (H' : Hp) (S' : Sh), ShTo C H x S H' S' → S'.bal = putT S.bal t.name a (-(i * t.scale)) → S'.bon = S.bon → S'.vau = putRow S.vau t.name (getRow S.vau t.name + i * t.scale) → Q .non H')
def sp_release (C Cc CF : Addr) : Sp := fun vs H Q E => ∃ (x g : Addr) (S : Sh) (c : Parts) (a : Str) (t : TokR) (i : Int), vs = [.ref x, .str a, .str t.name, .int i] ∧ ShAt C H x S ∧ CfgAt Cc c g H S.cf ∧ t ∈ c.toks ∧ (0 ≤ t.scale ∧ t.scale ≤ 1000) ∧ TabB 999 S.bal ∧ S.vau.length ≤ 999 ∧
  (getRow S.vau t.name < i * t.scale → ∀ H', Same H H' → E (.ref CF) none H') ∧
  (¬ getRow S.vau t.name < i * t.scale → ∀ (H' : Hp) (S' : Sh), ShTo C H x S H' S' → S'.bal = putT S.bal t.name a (i * t.scale) → S'.bon = S.bon → S'.vau = putRow S.vau t.name (getRow S.vau t.name - i * t.scale) → Q .non H')
section
variable {P : Program} {w : World} {K : PySem.W.Frag} {mg : Str → Option Value} {base : Heap}
theorem ok_Sheet_lock (T : Txt K mg) : FnOk P w K mg base (L2.CX P w) 3 T.f_Sheet_lock T.d_Sheet_lock ["self", "account", "token", "units"] (sp_lock T.C_Sheet T.C_Config T.C_NotEnoughBalance) := by
  refine T.F_Sheet_lock.okX sc_Sheet_lock (fun vs H Q E h => ?_) (fun cdv A outer s H vs Q E hr h => ?_)
  · obtain ⟨x, g, S, c, a, t, i, rfl, _⟩ := h; rfl
  · obtain ⟨x, g, S, c, a, t, i, rfl, hS, hC, ht, ⟨hs0, hs1⟩, hB, hv, kE, kQ⟩ := h
    obtain ⟨dx, fs, h1, h2, h3, h4, h5, h6, h7⟩ := hS.ex
    obtain ⟨dy, gs, td, bl, kvs, bv, e1, e2, e3, e4, e5, e6, e7, e8, e9, e10⟩ := hC.ex
    have hu := hu_of hr
    refine ⟨_, (pss_cons (ps_set (i := 4) sc_Sheet_lock.nd rfl (Or.inl rfl) (pe_op op_mul (pv 3) (pe_meth (pe_fld (pv 0) rfl) T.cl_Config T.m_Config_scale (ok_Config_scale T) (hr.mono (by decide)) T.b_Config_scale .nil pass0 (pa_cons (pv 2) pa_nil))))
      (pss_cons (ps_expr (pe_call (ok_draw T) (hr.mono (by decide)) (by rfl) T.g_draw T.F_draw.kp T.b_draw .nil (passes_call (takes_of rfl rfl rfl rfl) fun _ _ _ _ h => h) (pa_cons (pe_fld (pv 0) rfl) (pa_cons (pv 2) (pa_cons (pv 1) (pa_cons (pv 4) pa_nil))))))
      (pss_one (ps_dput hu (pe_fld (pv 0) rfl) (pv 2) (pe_op op_add (pe_meth (pv 0) T.cl_Sheet T.m_Sheet_vault (ok_Sheet_vault T) (hr.mono (by decide)) T.b_Sheet_vault .nil pass0 (pa_cons (pv 2) pa_nil)) (pv 4)) rfl)))), ?_⟩
    (dsimp only [cxOf, Cx.nox, Cx.wish, L2.start, List.map, List.length, List.replicate, List.cons_append, List.nil_append, List.append_eq, Nat.reduceSub, Nat.reduceAdd])
    walk_at "my_rd"
    refine q_fldK h1 T.cl_Sheet T.n_Sheet_config h2 ?_
    refine q_methK e1 (e9 _ no_scale) fun R hR => ?_
    walk_at "my_rd"
    refine hR _ _ ⟨S.cf, g, c, t, rfl, hC, ht, ?_⟩
    refine q_I (C := CMul) (j := t.scale) (.inr ⟨by omega, by omega⟩) ?_
    walk_at "my_rd"
    refine q_fldK h1 T.cl_Sheet T.n_Sheet_balances h4 ?_
    walk_at "my_rd"
    refine ⟨_, t.name, a, i * t.scale, S.bal, S.bs, rfl, hS.b, lt1000 hB.len, lt1000 (hB.row _), kE, fun hlt H1 bs hT hn kp => ?_⟩
    have st := hS.toB hT hn kp
    have hS1 := st.at_
    obtain ⟨dx1, fs1, g1, g2, g3, g4, g5, g6, g7⟩ := hS1.ex
    walk_at "my_rd"
    refine q_methK g1 (g7.1 _ no_vault) fun R hR => ?_
    walk_at "my_rd"
    refine hR _ _ ⟨x, _, t.name, rfl, hS1, ?_⟩
    walk_at "my_rd"
    refine q_fldK g1 T.cl_Sheet T.n_Sheet_vaults g6 ?_
    walk_at "my_rd"
    refine q_dPutS hS1.v (by unfold rowK; rw [List.length_map]; exact small1000 (by show S.vau.length ≤ _; omega)) ?_
    walk_at "my_rd"
    rw [rowK_put]
    exact kQ hlt _ _ (st.trans hS1.toV) rfl rfl rfl
theorem ok_Sheet_release (T : Txt K mg) : FnOk P w K mg base (L2.CX P w) 3 T.f_Sheet_release T.d_Sheet_release ["self", "account", "token", "units"] (sp_release T.C_Sheet T.C_Config T.C_NotEnoughBalance) := by
  refine T.F_Sheet_release.okX sc_Sheet_release (fun vs H Q E h => ?_) (fun cdv A outer s H vs Q E hr h => ?_)
  · obtain ⟨x, g, S, c, a, t, i, rfl, _⟩ := h; rfl
  · obtain ⟨x, g, S, c, a, t, i, rfl, hS, hC, ht, ⟨hs0, hs1⟩, hB, hv, kE, kQ⟩ := h
    obtain ⟨dx, fs, h1, h2, h3, h4, h5, h6, h7⟩ := hS.ex
    obtain ⟨dy, gs, td, bl, kvs, bv, e1, e2, e3, e4, e5, e6, e7, e8, e9, e10⟩ := hC.ex
    have hu := hu_of hr
    refine ⟨_, (pss_cons (ps_set (i := 4) sc_Sheet_release.nd rfl (Or.inl rfl) (pe_op op_mul (pv 3) (pe_meth (pe_fld (pv 0) rfl) T.cl_Config T.m_Config_scale (ok_Config_scale T) (hr.mono (by decide)) T.b_Config_scale .nil pass0 (pa_cons (pv 2) pa_nil))))
      (pss_cons (ps_if (pt_cmpR op_lt (pe_meth (pv 0) T.cl_Sheet T.m_Sheet_vault (ok_Sheet_vault T) (hr.mono (by decide)) T.b_Sheet_vault .nil pass0 (pa_cons (pv 2) pa_nil)) (pv 4) (nomark _)) (pss_one (ps_raise rfl (takes_of rfl rfl rfl rfl) (pmk_own PySem.F.excBase_ValueError T.xe_NotEnoughBalance T.g_NotEnoughBalance T.ke_NotEnoughBalance (raises_own T.be_NotEnoughBalance T.te_NotEnoughBalance) (by exact rfl)))) pss_nil)
      (pss_cons (ps_dput hu (pe_fld (pv 0) rfl) (pv 2) (pe_op op_sub (pe_meth (pv 0) T.cl_Sheet T.m_Sheet_vault (ok_Sheet_vault T) (hr.mono (by decide)) T.b_Sheet_vault .nil pass0 (pa_cons (pv 2) pa_nil)) (pv 4)) rfl)
      (pss_one (ps_expr (pe_call (ok_put T) (hr.mono (by decide)) (by rfl) T.g_put T.F_put.kp T.b_put .nil pass0 (pa_cons (pe_fld (pv 0) rfl) (pa_cons (pv 2) (pa_cons (pv 1) (pa_cons (pv 4) pa_nil)))))))))), ?_⟩
    (dsimp only [cxOf, Cx.nox, Cx.wish, L2.start, List.map, List.length, List.replicate, List.cons_append, List.nil_append, List.append_eq, Nat.reduceSub, Nat.reduceAdd])
    walk_at "my_rd"
    refine q_fldK h1 T.cl_Sheet T.n_Sheet_config h2 ?_
    refine q_methK e1 (e9 _ no_scale) fun R hR => ?_
    walk_at "my_rd"
    refine hR _ _ ⟨S.cf, g, c, t, rfl, hC, ht, ?_⟩
    refine q_I (C := CMul) (j := t.scale) (.inr ⟨by omega, by omega⟩) ?_
    walk_at "my_rd"
    refine q_methK h1 (h7.1 _ no_vault) fun R hR => ?_
    walk_at "my_rd"
    refine hR _ _ ⟨x, _, t.name, rfl, hS, ?_⟩
    walk_at "my_rd"
    by_cases hlt : getRow S.vau t.name < i * t.scale
    · rw [decide_eq_true hlt]
      walk_at "my_rd"
      exact kE hlt H (Same.refl _)
    · rw [decide_eq_false hlt]
      walk_at "my_rd"
      refine q_methK h1 (h7.1 _ no_vault) fun R hR => ?_
      walk_at "my_rd"
      refine hR _ _ ⟨x, _, t.name, rfl, hS, ?_⟩
      walk_at "my_rd"
      refine q_fldK h1 T.cl_Sheet T.n_Sheet_vaults h6 ?_
      walk_at "my_rd"
      refine q_dPutS hS.v (by unfold rowK; rw [List.length_map]; exact small1000 (by omega)) ?_
      walk_at "my_rd"
      rw [rowK_put]
      have st := hS.toV (r := putRow S.vau t.name (getRow S.vau t.name - i * t.scale))
      have hS1 := st.at_
      obtain ⟨dx1, fs1, g1, g2, g3, g4, g5, g6, g7⟩ := hS1.ex
      refine q_fldK g1 T.cl_Sheet T.n_Sheet_balances g4 ?_
      walk_at "my_rd"
      refine ⟨_, t.name, a, i * t.scale, S.bal, S.bs, rfl, hS1.b, lt1000 hB.len, lt1000 (hB.row _), fun H2 bs2 hT2 hn2 kp2 => ?_⟩
      walk_at "my_rd"
      exact kQ hlt H2 _ (st.trans (hS1.toB hT2 hn2 kp2)) rfl rfl rfl
end

local macro_rules | `(tactic| walk_at "my_rd") => `(tactic| (repeat first
  | with_reducible refine q_tCons ?_
  | ((with_reducible apply q_var); (focus (exact rfl)))
  | with_reducible refine q_c ?_
  | with_reducible refine q_nx ?_
  | with_reducible refine q_bK ?_
  | with_reducible refine q_call ?_
  | with_reducible refine q_callK ?_
  | with_reducible refine q_tNil ?_
  | with_reducible refine q_cb ?_
  | with_reducible refine q_seq ?_
  | with_reducible refine q_asg ?_
  | with_reducible refine q_gName ?_
  | with_reducible refine q_op ?_
  | with_reducible refine q_test ?_
  | with_reducible refine q_tB ?_
  | with_reducible refine q_ifS ?_
  | with_reducible refine q_ret ?_
  | with_reducible refine q_rt ?_
  | with_reducible refine q_next ?_
  | with_reducible refine q_ifF ?_
  | with_reducible refine q_ifT ?_
  | with_reducible refine q_drop ?_
  | with_reducible refine q_and ?_
  | with_reducible refine q_or ?_
  | with_reducible refine q_andT ?_
  | with_reducible refine q_andF ?_
  | with_reducible refine q_orF ?_
  | with_reducible refine q_orT ?_
  | with_reducible refine q_andV ?_
  | with_reducible refine q_andVT ?_
  | with_reducible refine q_andVF ?_
  | with_reducible refine q_orV ?_
  | with_reducible refine q_gCons ?_
  | with_reducible refine q_gNil ?_
  | with_reducible refine q_tup ?_
  | with_reducible refine q_lst ?_
  | with_reducible refine q_not ?_
  | with_reducible refine q_notKT ?_
  | with_reducible refine q_notKF ?_
  | with_reducible refine q_I0 ?_
  | with_reducible refine q_eqI ?_
  | with_reducible refine q_neI ?_
  | ((with_reducible refine q_I ?_ ?_); first | decide | omega | exact ⟨by omega, by omega⟩ | exact ⟨by decide, by decide⟩ | exact .inl ⟨by omega, by omega⟩ | exact .inr ⟨by omega, by omega⟩ | exact .inr ⟨by decide, by decide⟩)
  | with_reducible refine q_eqS ?_
  | with_reducible refine q_neS ?_
  | with_reducible refine q_brk ?_
  | with_reducible refine q_ct ?_
  | with_reducible refine q_bk ?_
  | with_reducible refine q_cn ?_
  | with_reducible refine q_retN ?_
  | with_reducible refine q_gSub ?_
  | with_reducible refine q_for ?_
  | with_reducible refine q_iList ?_
  | with_reducible refine q_iTup ?_
  | with_reducible refine q_iRng1 ?_
  | with_reducible refine q_notK ?_
  | with_reducible refine q_orVT ?_
  | with_reducible refine q_orVF ?_
  | with_reducible refine q_notV ?_
  | with_reducible refine q_notVK ?_
  | with_reducible refine q_ifE ?_
  | with_reducible refine q_ifET ?_
  | with_reducible refine q_ifEF ?_
  | with_reducible refine q_yes ?_
  | with_reducible refine q_un ?_
  | with_reducible refine q_rU ?_
  | with_reducible refine q_abs ?_
  | with_reducible refine q_int1 ?_
  | with_reducible refine q_bm ?_
  | with_reducible refine q_bm0 ?_
  | with_reducible refine q_lc ?_
  | with_reducible refine q_keepT ?_
  | with_reducible refine q_keepF ?_
  | ((with_reducible apply q_aug); (focus (exact rfl)))
  | with_reducible refine q_ipI ?_
  | with_reducible refine q_chain ?_
  | with_reducible refine q_pairC ?_
  | with_reducible refine q_pairsK ?_
  | with_reducible refine q_pairN ?_
  | with_reducible refine q_fld ?_
  | with_reducible refine q_sFld ?_
  | with_reducible refine q_meth ?_
  | with_reducible refine q_makeK ?_
  | with_reducible refine q_isBl ?_
  | with_reducible refine q_notBl ?_
  | with_reducible refine q_sl ?_
  | with_reducible refine q_noPart ?_
  | with_reducible refine q_part ?_
  | with_reducible refine q_partK ?_
  | ((with_reducible apply q_mulStr); (focus (decide +kernel)))
  | with_reducible refine q_chT ?_
  | with_reducible refine q_chF ?_
  | with_reducible refine q_ord ?_
  | with_reducible refine q_iStr0 ?_
  | with_reducible refine q_iStr ?_
  | with_reducible refine q_tDIn ?_
  | with_reducible refine q_tDNotIn ?_
  | with_reducible refine q_tDGet ?_
  | with_reducible refine q_tDGet2 ?_
  | with_reducible refine q_tDGet1 ?_
  | with_reducible refine q_tDSetd ?_
  | ((with_reducible apply q_dG2a); (focus ((repeat first | (with_reducible exact upd_same) | (with_reducible assumption) | (with_reducible apply upd_new (by assumption)) | (with_reducible apply upd_other (by first | assumption | exact Ne.symm (by assumption))) | (with_reducible refine' Kp.get (by assumption) ?_ (by first | assumption | exact Ne.symm (by assumption))) | (with_reducible apply Same.get (by assumption))); done)))
  | ((with_reducible apply q_dSda); (focus ((repeat first | (with_reducible exact upd_same) | (with_reducible assumption) | (with_reducible apply upd_new (by assumption)) | (with_reducible apply upd_other (by first | assumption | exact Ne.symm (by assumption))) | (with_reducible refine' Kp.get (by assumption) ?_ (by first | assumption | exact Ne.symm (by assumption))) | (with_reducible apply Same.get (by assumption))); done)))
  | with_reducible refine q_sDPut ?_
  | ((with_reducible apply q_dInS); (focus ((repeat first | (with_reducible exact upd_same) | (with_reducible assumption) | (with_reducible apply upd_new (by assumption)) | (with_reducible apply upd_other (by first | assumption | exact Ne.symm (by assumption))) | (with_reducible refine' Kp.get (by assumption) ?_ (by first | assumption | exact Ne.symm (by assumption))) | (with_reducible apply Same.get (by assumption))); done)))
  | ((with_reducible apply q_dNInS); (focus ((repeat first | (with_reducible exact upd_same) | (with_reducible assumption) | (with_reducible apply upd_new (by assumption)) | (with_reducible apply upd_other (by first | assumption | exact Ne.symm (by assumption))) | (with_reducible refine' Kp.get (by assumption) ?_ (by first | assumption | exact Ne.symm (by assumption))) | (with_reducible apply Same.get (by assumption))); done)))
  | ((with_reducible apply q_dInI); (focus ((repeat first | (with_reducible exact upd_same) | (with_reducible assumption) | (with_reducible apply upd_new (by assumption)) | (with_reducible apply upd_other (by first | assumption | exact Ne.symm (by assumption))) | (with_reducible refine' Kp.get (by assumption) ?_ (by first | assumption | exact Ne.symm (by assumption))) | (with_reducible apply Same.get (by assumption))); done)))
  | ((with_reducible apply q_dNInI); (focus ((repeat first | (with_reducible exact upd_same) | (with_reducible assumption) | (with_reducible apply upd_new (by assumption)) | (with_reducible apply upd_other (by first | assumption | exact Ne.symm (by assumption))) | (with_reducible refine' Kp.get (by assumption) ?_ (by first | assumption | exact Ne.symm (by assumption))) | (with_reducible apply Same.get (by assumption))); done)))
  | ((with_reducible apply q_bmL); (focus ((repeat first | (with_reducible exact upd_same) | (with_reducible assumption) | (with_reducible apply upd_new (by assumption)) | (with_reducible apply upd_other (by first | assumption | exact Ne.symm (by assumption))) | (with_reducible refine' Kp.get (by assumption) ?_ (by first | assumption | exact Ne.symm (by assumption))) | (with_reducible apply Same.get (by assumption))); done)))
  | ((with_reducible apply q_bmL0); (focus ((repeat first | (with_reducible exact upd_same) | (with_reducible assumption) | (with_reducible apply upd_new (by assumption)) | (with_reducible apply upd_other (by first | assumption | exact Ne.symm (by assumption))) | (with_reducible refine' Kp.get (by assumption) ?_ (by first | assumption | exact Ne.symm (by assumption))) | (with_reducible apply Same.get (by assumption))); done)))
  | ((with_reducible apply q_ixLt); (focus ((repeat first | (with_reducible exact upd_same) | (with_reducible assumption) | (with_reducible apply upd_new (by assumption)) | (with_reducible apply upd_other (by first | assumption | exact Ne.symm (by assumption))) | (with_reducible refine' Kp.get (by assumption) ?_ (by first | assumption | exact Ne.symm (by assumption))) | (with_reducible apply Same.get (by assumption))); done)); (focus (exact rfl)))
  | ((with_reducible apply q_ixTt); (focus ((repeat first | (with_reducible exact upd_same) | (with_reducible assumption) | (with_reducible apply upd_new (by assumption)) | (with_reducible apply upd_other (by first | assumption | exact Ne.symm (by assumption))) | (with_reducible refine' Kp.get (by assumption) ?_ (by first | assumption | exact Ne.symm (by assumption))) | (with_reducible apply Same.get (by assumption))); done)); (focus (exact rfl)))
  | ((with_reducible apply q_lenLt); (focus ((repeat first | (with_reducible exact upd_same) | (with_reducible assumption) | (with_reducible apply upd_new (by assumption)) | (with_reducible apply upd_other (by first | assumption | exact Ne.symm (by assumption))) | (with_reducible refine' Kp.get (by assumption) ?_ (by first | assumption | exact Ne.symm (by assumption))) | (with_reducible apply Same.get (by assumption))); done)))
  | ((with_reducible apply q_lenTt); (focus ((repeat first | (with_reducible exact upd_same) | (with_reducible assumption) | (with_reducible apply upd_new (by assumption)) | (with_reducible apply upd_other (by first | assumption | exact Ne.symm (by assumption))) | (with_reducible refine' Kp.get (by assumption) ?_ (by first | assumption | exact Ne.symm (by assumption))) | (with_reducible apply Same.get (by assumption))); done)))
  | ((with_reducible apply q_append); (focus ((repeat first | (with_reducible exact upd_same) | (with_reducible assumption) | (with_reducible apply upd_new (by assumption)) | (with_reducible apply upd_other (by first | assumption | exact Ne.symm (by assumption))) | (with_reducible refine' Kp.get (by assumption) ?_ (by first | assumption | exact Ne.symm (by assumption))) | (with_reducible apply Same.get (by assumption))); done)); (focus ((first | (exact Nat.lt_of_ble_eq_true rfl) | (simp only [List.length_append, List.length_cons, List.length_nil, List.length_map]; exact small1000 (by omega))))))
  | ((with_reducible apply q_setL); (focus ((repeat first | (with_reducible exact upd_same) | (with_reducible assumption) | (with_reducible apply upd_new (by assumption)) | (with_reducible apply upd_other (by first | assumption | exact Ne.symm (by assumption))) | (with_reducible refine' Kp.get (by assumption) ?_ (by first | assumption | exact Ne.symm (by assumption))) | (with_reducible apply Same.get (by assumption))); done)); (focus (exact rfl)))
  | with_reducible refine q_ifNT ?_
  | with_reducible refine q_ifNF ?_
  | with_reducible refine q_andNT ?_
  | with_reducible refine q_andNF ?_
  | with_reducible refine q_orNT ?_
  | with_reducible refine q_orNF ?_
  | with_reducible refine q_bKNT ?_
  | with_reducible refine q_bKNF ?_))
/-! copies -/
theorem dc_it {J : It} {n : Nat} {G : Hp → Prop} {Y : Nat → Hp → V → Hp → Prop} (w : Walk J n G Y) {g : TG} {tt : TT} {tk tv : TE} {vs : List Nat} {σ : L2.St} {H1 : Hp} {D : Addr} {Qd : Hp → Prop} (Pv : Nat → Hp → Prop) (h0 : Pv 0 (upd H1 D (.dK []))) (hG : ∀ i H, i ≤ n → Pv i H → G H)
    (hs : ∀ i x H H', i < n → Pv i H → Y i H x H' → g x (wipe σ vs) H' fun σ2 H2 => wipe σ2 vs = wipe σ vs ∧ tt σ2 H2 fun b H3 =>
      if b = true then tk σ2 H3 fun y H4 => tv σ2 H4 fun z H5 => ∃ kvs k, y = kV k ∧ H5 D = some (.dK kvs) ∧ kvs.length < sizeLine ∧ Pv (i + 1) (upd H5 D (.dK (putK kvs k z))) else Pv (i + 1) H3) (hd : ∀ H, Pv n H → Qd H) :
    ∃ W : Nat → Nat → Hp → Prop, (∃ m, W 0 m (upd H1 D (.dK []))) ∧ ∀ i m H, W i m H →
      (J.stop i H ∧ Qd H) ∨ (J.go i H ∧ ∃ Nx : Hp → Prop, (∀ H', Nx H' → ∃ m', m' < m ∧ W (i + 1) m' H') ∧ ∀ x H', J.yld i H x H' → g x (wipe σ vs) H' fun σ2 H2 => wipe σ2 vs = wipe σ vs ∧ tt σ2 H2 fun b H3 =>
        if b = true then tk σ2 H3 fun y H4 => tv σ2 H4 fun z H5 => ∃ kvs k, y = kV k ∧ H5 D = some (.dK kvs) ∧ kvs.length < sizeLine ∧ Nx (upd H5 D (.dK (putK kvs k z))) else Nx H3) := by
  refine ⟨fun i m H => m = n - i ∧ i ≤ n ∧ Pv i H, ⟨n, by simp, Nat.zero_le _, h0⟩, ?_⟩
  rintro i m H ⟨rfl, hi, p⟩
  have q := hG i H hi p
  by_cases hlt : i < n
  · refine .inr ⟨w.goes i H hlt q, Pv (i + 1), fun H' p' => ⟨n - (i + 1), by omega, rfl, hlt, p'⟩, fun x H' y => hs i x H H' hlt p (w.yields i H x H' hlt q y)⟩
  · have e : i = n := by omega
    subst e
    exact .inl ⟨w.stops H q, hd H p⟩
theorem TRows.item {H : Hp} {tb : Tab2} {as : List Addr} {kvs : List (Key × V)} (h : TRows H tb as kvs) : ∀ {i : Nat} {k : Key} {v : V}, kvs[i]? = some (k, v) → ∃ t r b, tb[i]? = some (t, r) ∧ k = Sum.inr t ∧ v = .ref b ∧ b ∈ as ∧ H b = some (.dK (rowK r)) := by
  induction h with
  | nil => intro i k v q; simp at q
  | @cons t r a tb as kvs h1 h2 h3 ih =>
    intro i k v q
    cases i with
    | zero =>
      have e : (Sum.inr t, V.ref a) = (k, v) := Option.some.inj q
      injection e with e1 e2
      exact ⟨t, r, a, rfl, e1.symm, e2.symm, List.mem_cons_self, h1⟩
    | succ i =>
      obtain ⟨t', r', b, q1, q2, q3, q4, q5⟩ := ih (i := i) q
      exact ⟨t', r', b, q1, q2, q3, List.mem_cons_of_mem _ q4, q5⟩
theorem tabAt_none {tb : Tab2} {t : Str} (h : t ∉ tb.map (·.1)) : tabAt tb t = none := by
  induction tb with
  | nil => rfl
  | cons p tb ih =>
    obtain ⟨t', r'⟩ := p
    rw [List.map_cons, List.mem_cons, not_or] at h
    rw [tabAt_cons, if_neg (fun e => h.1 e.symm), ih h.2]
theorem tabAt_at {tb : Tab2} (hn : (tb.map (·.1)).Nodup) : ∀ {i : Nat} {t : Str} {r : Row}, tb[i]? = some (t, r) → tabAt tb t = some r := by
  induction tb with
  | nil => intro i t r h; simp at h
  | cons p tb ih =>
    obtain ⟨t', r'⟩ := p
    intro i t r h
    rw [List.map_cons, List.nodup_cons] at hn
    rw [tabAt_cons]
    cases i with
    | zero =>
      have e : (t', r') = (t, r) := Option.some.inj h
      injection e with e1 e2
      rw [if_pos e1, e2]
    | succ i =>
      have h' : tb[i]? = some (t, r) := h
      rw [if_neg (fun e : t' = t => hn.1 (by rw [e]; exact List.mem_map.mpr ⟨_, List.mem_of_getElem? h', rfl⟩)), ih hn.2 h']
theorem setRow_new {tb : Tab2} {t : Str} (h : tabAt tb t = none) (r : Row) : setRow tb t r = tb ++ [(t, r)] := by
  induction tb with
  | nil => rfl
  | cons p tb ih =>
    obtain ⟨t', r'⟩ := p
    rw [tabAt_cons] at h
    show (if t' = t then _ else _ : Tab2) = _
    by_cases e : t' = t
    · rw [if_pos e] at h; cases h
    · rw [if_neg e] at h
      rw [if_neg e, ih h]
      rfl
def sp_copied : Sp := fun vs H Q _ => ∃ (a : Addr) (tb : Tab2) (as : List Addr), vs = [.ref a] ∧ TblAt H a tb as ∧ tb.length ≤ 999 ∧ (tb.map (·.1)).Nodup ∧
  ∀ (d : Addr) (ds : List Addr) (H' : Hp), H d = none → TblAt H' d tb ds → (∀ b ∈ ds, H b = none) → Same H H' → Q (.ref d) H'
section
variable {P : Program} {w : World} {K : PySem.W.Frag} {mg : Str → Option Value} {base : Heap}
theorem ok_copied (T : Txt K mg) : FnOk P w K mg base CX0 1 T.f_copied T.d_copied ["table"] sp_copied := by
  refine T.F_copied.ok sc_copied (fun vs H Q E h => ?_) (fun cdv A outer s H vs Q E hr h => ?_)
  · obtain ⟨a, tb, as, rfl, _⟩ := h; rfl
  · obtain ⟨a, tb, as, rfl, hT, hl, hnd, k⟩ := h
    obtain ⟨kvs, ha, hR⟩ := hT.ex
    have hu := hu_of hr
    refine ⟨_, (pss_one (ps_ret (pe_lock (pe_dc (own := [("token", 1)]) (g := (gName 1)) (tt := tYes) rfl sc_copied.nd (pi_keys (pv 0)) (blkOk_by (own := [("token", 1)]) (N := ["table", "token"]) (sc := defScope s_copied) (by decide +kernel)) (fun _ _ _ _ _ => (pg_name (i := 1) sc_copied.nd rfl (Or.inl rfl))) (fun _ _ _ _ _ => pts_nil) (fun _ _ _ _ _ => (pv 1)) (fun _ _ _ _ _ => (pe_callTy call_dictD (by rfl) T.z_dict boot_dict (pa_cons (pe_dget hu (pv 0) (pv 1) (fun _ _ => rfl)) pa_nil))))))), ?_⟩
    (dsimp only [cxOf, Cx.nox, Cx.wish, L2.start, List.map, List.length, List.replicate, List.cons_append, List.nil_append, List.append_eq, Nat.reduceSub, Nat.reduceAdd])
    walk_at "my_rd"
    refine ⟨a, _, ha, trivial, fun od => ?_⟩
    have nda : ∀ {D : Addr}, upd H a (.frz od (.dK kvs)) D = none → D ≠ a ∧ H D = none := fun q => ⟨upd_none_ne q, upd_none_back q⟩
    have haf : ∀ b ∈ as, b ≠ a := fun b hb e => hT.out (e ▸ hb)
    unfold tDc iKeys
    refine q_var (v := .ref a) rfl ⟨a, od, rfl, .inl ⟨kvs, upd_same, fun D nD => ?_⟩⟩
    have hF : upd H a (.frz od (.dK kvs)) a = some (.frz od (.dK kvs)) := upd_same
    obtain ⟨nDa, hD0⟩ := nda nD
    generalize hHF : upd H a (.frz od (.dK kvs)) = HF at nD hF
    have keep : ∀ b o, H b = some o → b ≠ a → HF b = some o := fun b o q n => by rw [← hHF]; exact upd_other n q
    have none_ : ∀ b, HF b = none → H b = none := fun b q => by rw [← hHF] at q; exact upd_none_back q
    refine dc_it walk_keys (fun i H2 => ∃ (ds : List Addr) (kv2 : List (Key × V)), H2 D = some (.dK kv2) ∧ TRows H2 (tb.take i) ds kv2 ∧ (∀ b ∈ ds, HF b = none ∧ b ≠ D) ∧ Same HF H2)
      ⟨[], [], upd_same, .nil, by simp, Same.new (Same.refl _) nD⟩ (fun i H2 _ ⟨_, _, _, _, _, sm⟩ => sm _ _ hF) ?_ ?_
    · rintro i v H2 H3 hi ⟨ds, kv2, hD, hR2, hn, sm⟩ ⟨rfl, k2, v2, hkv, rfl⟩
      obtain ⟨t, r, b, htb, rfl, rfl, hb, hrb⟩ := hR.item hkv
      have hil : i < tb.length := (List.getElem?_eq_some_iff.mp htb).1
      have hnew : t ∉ (tb.take i).map (·.1) := by
        intro hm
        have h3 : ((tb.take (i + 1)).map (·.1)).Nodup := (List.Sublist.map _ (List.take_sublist _ _)).nodup hnd
        rw [take_snoc htb, List.map_append] at h3
        exact (List.nodup_append.mp h3).2.2 t hm t (by simp) rfl
      have htn := tabAt_none hnew
      obtain ⟨b', hvb, hb', hrb'⟩ : ∃ b', valV kvs (Sum.inr t) = some (.ref b') ∧ b' ∈ as ∧ H b' = some (.dK (rowK r)) := by
        rcases hR.val t with ⟨q, _⟩ | ⟨r', b', q1, q2, q3, q4⟩
        · rw [tabAt_at hnd htb] at q; cases q
        · rw [tabAt_at hnd htb] at q1
          cases q1
          exact ⟨b', q2, q3, q4⟩
      have hv2 : valV kv2 (Sum.inr t) = none := by
        rcases hR2.val t with ⟨_, q⟩ | ⟨_, _, q, _⟩
        · exact q
        · rw [htn] at q; cases q
      have hb3 : H3 b' = some (.dK (rowK r)) := sm _ _ (keep _ _ hrb' (haf _ hb'))
      refine q_gName ⟨rfl, ?_⟩
      refine q_yes ?_
      refine iteT ?_
      walk_at "my_rd"
      refine ⟨a, .ref b', rfl, .inl ⟨kvs, .inr t, .inr ⟨od, sm _ _ hF⟩, rfl, hvb.symm⟩, ?_⟩
      walk_at "my_rd"
      refine ⟨b', rowK r, rfl, .inl hb3, fun p np => ?_⟩
      have npD : p ≠ D := (ne_of_none hD np).symm
      refine ⟨kv2, .inr t, rfl, upd_new np hD, by rw [hR2.len, List.length_take]; exact small1000 (by omega), ds ++ [p], kv2 ++ [(.inr t, .ref p)], ?_, ?_, ?_, ?_⟩
      · rw [putK_new _ hv2]; exact upd_same
      · rw [take_snoc htb, ← setRow_new htn]
        refine TRows.snoc (hR2.mono fun c hc o q => upd_other (hn c hc).2 (upd_new np q)) hv2 (upd_other npD upd_same) fun m => ?_
        obtain ⟨_, q⟩ := hR2.mem m
        rw [np] at q; cases q
      · intro b hb
        rcases List.mem_append.mp hb with m | m
        · exact hn b m
        · rw [List.mem_singleton.mp m]
          exact ⟨Same.free sm np, npD⟩
      · intro b o q
        exact upd_other (ne_of_none q nD) (upd_new np (sm _ _ q))
    · rintro H2 ⟨ds, kv2, hD, hR2, hn, sm⟩
      rw [hR.len, List.take_length] at hR2
      have ha2 : H2 a = some (.frz od (.dK kvs)) := sm _ _ hF
      refine ⟨ha2, ?_⟩
      have sm2 : Same H (upd H2 a (.dK kvs)) := by
        intro b o q
        by_cases e : b = a
        · subst e
          rw [ha] at q
          cases q
          exact upd_same
        · exact upd_other e (sm _ _ (keep b o q e))
      exact k D ds _ hD0 ⟨⟨kv2, upd_other nDa hD, hR2.mono fun b hb o q => upd_other (fun e => by
        have := (hn b hb).1
        rw [e, hF] at this; cases this) q⟩, fun m => (hn D m).2 rfl⟩ (fun b hb => none_ b (hn b hb).1) sm2
end

local macro_rules | `(tactic| walk_at "my_rd") => `(tactic| (repeat first
  | with_reducible refine q_tCons ?_
  | ((with_reducible apply q_var); (focus (exact rfl)))
  | with_reducible refine q_c ?_
  | with_reducible refine q_nx ?_
  | with_reducible refine q_bK ?_
  | with_reducible refine q_call ?_
  | with_reducible refine q_callK ?_
  | with_reducible refine q_tNil ?_
  | with_reducible refine q_cb ?_
  | with_reducible refine q_seq ?_
  | with_reducible refine q_asg ?_
  | with_reducible refine q_gName ?_
  | with_reducible refine q_op ?_
  | with_reducible refine q_test ?_
  | with_reducible refine q_tB ?_
  | with_reducible refine q_ifS ?_
  | with_reducible refine q_ret ?_
  | with_reducible refine q_rt ?_
  | with_reducible refine q_next ?_
  | with_reducible refine q_ifF ?_
  | with_reducible refine q_ifT ?_
  | with_reducible refine q_drop ?_
  | with_reducible refine q_and ?_
  | with_reducible refine q_or ?_
  | with_reducible refine q_andT ?_
  | with_reducible refine q_andF ?_
  | with_reducible refine q_orF ?_
  | with_reducible refine q_orT ?_
  | with_reducible refine q_andV ?_
  | with_reducible refine q_andVT ?_
  | with_reducible refine q_andVF ?_
  | with_reducible refine q_orV ?_
  | with_reducible refine q_gCons ?_
  | with_reducible refine q_gNil ?_
  | with_reducible refine q_tup ?_
  | with_reducible refine q_lst ?_
  | with_reducible refine q_not ?_
  | with_reducible refine q_notKT ?_
  | with_reducible refine q_notKF ?_
  | with_reducible refine q_I0 ?_
  | with_reducible refine q_eqI ?_
  | with_reducible refine q_neI ?_
  | ((with_reducible refine q_I ?_ ?_); first | decide | omega | exact ⟨by omega, by omega⟩ | exact ⟨by decide, by decide⟩ | exact .inl ⟨by omega, by omega⟩ | exact .inr ⟨by omega, by omega⟩ | exact .inr ⟨by decide, by decide⟩)
  | with_reducible refine q_eqS ?_
  | with_reducible refine q_neS ?_
  | with_reducible refine q_brk ?_
  | with_reducible refine q_ct ?_
  | with_reducible refine q_bk ?_
  | with_reducible refine q_cn ?_
  | with_reducible refine q_retN ?_
  | with_reducible refine q_gSub ?_
  | with_reducible refine q_for ?_
  | with_reducible refine q_iList ?_
  | with_reducible refine q_iTup ?_
  | with_reducible refine q_iRng1 ?_
  | with_reducible refine q_notK ?_
  | with_reducible refine q_orVT ?_
  | with_reducible refine q_orVF ?_
  | with_reducible refine q_notV ?_
  | with_reducible refine q_notVK ?_
  | with_reducible refine q_ifE ?_
  | with_reducible refine q_ifET ?_
  | with_reducible refine q_ifEF ?_
  | with_reducible refine q_yes ?_
  | with_reducible refine q_un ?_
  | with_reducible refine q_rU ?_
  | with_reducible refine q_abs ?_
  | with_reducible refine q_int1 ?_
  | with_reducible refine q_bm ?_
  | with_reducible refine q_bm0 ?_
  | with_reducible refine q_lc ?_
  | with_reducible refine q_keepT ?_
  | with_reducible refine q_keepF ?_
  | ((with_reducible apply q_aug); (focus (exact rfl)))
  | with_reducible refine q_ipI ?_
  | with_reducible refine q_chain ?_
  | with_reducible refine q_pairC ?_
  | with_reducible refine q_pairsK ?_
  | with_reducible refine q_pairN ?_
  | with_reducible refine q_fld ?_
  | with_reducible refine q_sFld ?_
  | with_reducible refine q_meth ?_
  | with_reducible refine q_makeK ?_
  | with_reducible refine q_isBl ?_
  | with_reducible refine q_notBl ?_
  | with_reducible refine q_sl ?_
  | with_reducible refine q_noPart ?_
  | with_reducible refine q_part ?_
  | with_reducible refine q_partK ?_
  | ((with_reducible apply q_mulStr); (focus (decide +kernel)))
  | with_reducible refine q_chT ?_
  | with_reducible refine q_chF ?_
  | with_reducible refine q_ord ?_
  | with_reducible refine q_iStr0 ?_
  | with_reducible refine q_iStr ?_
  | with_reducible refine q_tDIn ?_
  | with_reducible refine q_tDNotIn ?_
  | with_reducible refine q_tDGet ?_
  | with_reducible refine q_tDGet2 ?_
  | with_reducible refine q_tDGet1 ?_
  | with_reducible refine q_tDSetd ?_
  | ((with_reducible apply q_dG2a); (focus ((repeat first | (with_reducible exact upd_same) | (with_reducible assumption) | (with_reducible apply upd_new (by assumption)) | (with_reducible apply upd_other (by first | assumption | exact Ne.symm (by assumption))) | (with_reducible refine' Kp.get (by assumption) ?_ (by first | assumption | exact Ne.symm (by assumption))) | (with_reducible apply Same.get (by assumption))); done)))
  | ((with_reducible apply q_dSda); (focus ((repeat first | (with_reducible exact upd_same) | (with_reducible assumption) | (with_reducible apply upd_new (by assumption)) | (with_reducible apply upd_other (by first | assumption | exact Ne.symm (by assumption))) | (with_reducible refine' Kp.get (by assumption) ?_ (by first | assumption | exact Ne.symm (by assumption))) | (with_reducible apply Same.get (by assumption))); done)))
  | with_reducible refine q_sDPut ?_
  | ((with_reducible apply q_dInS); (focus ((repeat first | (with_reducible exact upd_same) | (with_reducible assumption) | (with_reducible apply upd_new (by assumption)) | (with_reducible apply upd_other (by first | assumption | exact Ne.symm (by assumption))) | (with_reducible refine' Kp.get (by assumption) ?_ (by first | assumption | exact Ne.symm (by assumption))) | (with_reducible apply Same.get (by assumption))); done)))
  | ((with_reducible apply q_dNInS); (focus ((repeat first | (with_reducible exact upd_same) | (with_reducible assumption) | (with_reducible apply upd_new (by assumption)) | (with_reducible apply upd_other (by first | assumption | exact Ne.symm (by assumption))) | (with_reducible refine' Kp.get (by assumption) ?_ (by first | assumption | exact Ne.symm (by assumption))) | (with_reducible apply Same.get (by assumption))); done)))
  | ((with_reducible apply q_dInI); (focus ((repeat first | (with_reducible exact upd_same) | (with_reducible assumption) | (with_reducible apply upd_new (by assumption)) | (with_reducible apply upd_other (by first | assumption | exact Ne.symm (by assumption))) | (with_reducible refine' Kp.get (by assumption) ?_ (by first | assumption | exact Ne.symm (by assumption))) | (with_reducible apply Same.get (by assumption))); done)))
  | ((with_reducible apply q_dNInI); (focus ((repeat first | (with_reducible exact upd_same) | (with_reducible assumption) | (with_reducible apply upd_new (by assumption)) | (with_reducible apply upd_other (by first | assumption | exact Ne.symm (by assumption))) | (with_reducible refine' Kp.get (by assumption) ?_ (by first | assumption | exact Ne.symm (by assumption))) | (with_reducible apply Same.get (by assumption))); done)))
  | ((with_reducible apply q_bmL); (focus ((repeat first | (with_reducible exact upd_same) | (with_reducible assumption) | (with_reducible apply upd_new (by assumption)) | (with_reducible apply upd_other (by first | assumption | exact Ne.symm (by assumption))) | (with_reducible refine' Kp.get (by assumption) ?_ (by first | assumption | exact Ne.symm (by assumption))) | (with_reducible apply Same.get (by assumption))); done)))
  | ((with_reducible apply q_bmL0); (focus ((repeat first | (with_reducible exact upd_same) | (with_reducible assumption) | (with_reducible apply upd_new (by assumption)) | (with_reducible apply upd_other (by first | assumption | exact Ne.symm (by assumption))) | (with_reducible refine' Kp.get (by assumption) ?_ (by first | assumption | exact Ne.symm (by assumption))) | (with_reducible apply Same.get (by assumption))); done)))
  | ((with_reducible apply q_ixLt); (focus ((repeat first | (with_reducible exact upd_same) | (with_reducible assumption) | (with_reducible apply upd_new (by assumption)) | (with_reducible apply upd_other (by first | assumption | exact Ne.symm (by assumption))) | (with_reducible refine' Kp.get (by assumption) ?_ (by first | assumption | exact Ne.symm (by assumption))) | (with_reducible apply Same.get (by assumption))); done)); (focus (exact rfl)))
  | ((with_reducible apply q_ixTt); (focus ((repeat first | (with_reducible exact upd_same) | (with_reducible assumption) | (with_reducible apply upd_new (by assumption)) | (with_reducible apply upd_other (by first | assumption | exact Ne.symm (by assumption))) | (with_reducible refine' Kp.get (by assumption) ?_ (by first | assumption | exact Ne.symm (by assumption))) | (with_reducible apply Same.get (by assumption))); done)); (focus (exact rfl)))
  | ((with_reducible apply q_lenLt); (focus ((repeat first | (with_reducible exact upd_same) | (with_reducible assumption) | (with_reducible apply upd_new (by assumption)) | (with_reducible apply upd_other (by first | assumption | exact Ne.symm (by assumption))) | (with_reducible refine' Kp.get (by assumption) ?_ (by first | assumption | exact Ne.symm (by assumption))) | (with_reducible apply Same.get (by assumption))); done)))
  | ((with_reducible apply q_lenTt); (focus ((repeat first | (with_reducible exact upd_same) | (with_reducible assumption) | (with_reducible apply upd_new (by assumption)) | (with_reducible apply upd_other (by first | assumption | exact Ne.symm (by assumption))) | (with_reducible refine' Kp.get (by assumption) ?_ (by first | assumption | exact Ne.symm (by assumption))) | (with_reducible apply Same.get (by assumption))); done)))
  | ((with_reducible apply q_append); (focus ((repeat first | (with_reducible exact upd_same) | (with_reducible assumption) | (with_reducible apply upd_new (by assumption)) | (with_reducible apply upd_other (by first | assumption | exact Ne.symm (by assumption))) | (with_reducible refine' Kp.get (by assumption) ?_ (by first | assumption | exact Ne.symm (by assumption))) | (with_reducible apply Same.get (by assumption))); done)); (focus ((first | (exact Nat.lt_of_ble_eq_true rfl) | (simp only [List.length_append, List.length_cons, List.length_nil, List.length_map]; exact small1000 (by omega))))))
  | ((with_reducible apply q_setL); (focus ((repeat first | (with_reducible exact upd_same) | (with_reducible assumption) | (with_reducible apply upd_new (by assumption)) | (with_reducible apply upd_other (by first | assumption | exact Ne.symm (by assumption))) | (with_reducible refine' Kp.get (by assumption) ?_ (by first | assumption | exact Ne.symm (by assumption))) | (with_reducible apply Same.get (by assumption))); done)); (focus (exact rfl)))
  | with_reducible refine q_ifNT ?_
  | with_reducible refine q_ifNF ?_
  | with_reducible refine q_andNT ?_
  | with_reducible refine q_andNF ?_
  | with_reducible refine q_orNT ?_
  | with_reducible refine q_orNF ?_
  | with_reducible refine q_bKNT ?_
  | with_reducible refine q_bKNF ?_))
/-! Sheet.copy -/
theorem TblAt.kp {H H' : Hp} {a y C dx : Addr} {fs : List (Str × V)} {tb : Tab2} {as : List Addr} (h : TblAt H a tb as) (hy : H y = some (.ins C dx fs)) (k : Kp y H H') : TblAt H' a tb as := by
  have n : ∀ z ∈ a :: as, z ≠ y := fun z hz e => by
    obtain ⟨kvs, q⟩ := h.free hz
    rw [e, hy] at q; cases q
  exact h.mono (fun o q => k a o q (n a List.mem_cons_self)) fun b hb o q => k b o q (n b (List.mem_cons_of_mem _ hb))
theorem putF_len {f : Str} {v z : V} : ∀ {fs : List (Str × V)}, fs.lookup f = some z → (putF f v fs).length = fs.length
  | [], h => by cases h
  | (g, x) :: r, h => by
    show (if g = f then (g, v) :: r else (g, x) :: putF f v r).length = _
    by_cases e : g = f
    · rw [if_pos e]; rfl
    · rw [if_neg e]
      have h2 : r.lookup f = some z := by
        simp only [List.lookup] at h
        have : (f == g) = false := by
          cases q : f == g with
          | false => rfl
          | true => exact absurd (eq_of_beq q).symm e
        rw [this] at h
        exact h
      exact congrArg (· + 1) (putF_len h2)
def sp_copy (C Cc : Addr) : Sp := fun vs H Q _ => ∃ (x g : Addr) (S : Sh) (c : Parts), vs = [.ref x] ∧ ShAt C H x S ∧ CfgAt Cc c g H S.cf ∧ c.Ok ∧ S.bal.length ≤ 999 ∧ S.bon.length ≤ 999 ∧ (S.bal.map (·.1)).Nodup ∧ (S.bon.map (·.1)).Nodup ∧
  ∀ (y : Addr) (H' : Hp) (S' : Sh), H y = none → ShAt C H' y S' → S'.cf = S.cf → S'.side = S.side → S'.bal = S.bal → S'.bon = S.bon → S'.vau = S.vau → (∀ b ∈ S'.foot, H b = none) → Same H H' → Q (.ref y) H'
theorem q_make {C : Addr} {sp : Sp} {E : XK} {ta : TA} {σ : L2.St} {H : Hp} {Q : VK} (h : ta σ H fun vs H2 => ∀ x dx, H2 x = none → H2 dx = none → dx ≠ x → sp (.ref x :: vs) (upd (upd H2 dx (.own x)) x (.ins C dx [])) (fun v H3 => v = .non ∧ Q (.ref x) H3) E) : tMake C sp [] E ta σ H Q := by
  unfold tMake
  simp only [List.append_nil]
  exact h
section
variable {P : Program} {w : World} {K : PySem.W.Frag} {mg : Str → Option Value} {base : Heap}
theorem ok_Sheet_copy (T : Txt K mg) : FnOk P w K mg base CX0 6 T.f_Sheet_copy T.d_Sheet_copy ["self"] (sp_copy T.C_Sheet T.C_Config) := by
  refine T.F_Sheet_copy.ok sc_Sheet_copy (fun vs H Q E h => ?_) (fun cdv A outer s H vs Q E hr h => ?_)
  · obtain ⟨x, g, S, c, rfl, _⟩ := h; rfl
  · obtain ⟨x, g, S, c, rfl, hS, hC, hc, hl1, hl2, hn1, hn2, k⟩ := h
    obtain ⟨dx, fs, h1, h2, h3, h4, h5, h6, h7⟩ := hS.ex
    have hu := hu_of hr
    refine ⟨_, (pss_cons (ps_set (i := 1) sc_Sheet_copy.nd rfl (Or.inl rfl) (pe_make T.mk_Sheet (ok_Sheet_init T) (hr.mono (by decide)) (by rfl) T.g_Sheet T.b_Sheet_init .nil pass0 (pa_cons (pe_fld (pv 0) rfl) (pa_cons (pe_fld (pv 0) rfl) pa_nil))))
      (pss_cons (ps_fld (pv 1) (pe_call (ok_copied T) (hr.mono (by decide)) (by rfl) T.g_copied T.F_copied.kp T.b_copied .nil pass0 (pa_cons (pe_fld (pv 0) rfl) pa_nil)) rfl)
      (pss_cons (ps_fld (pv 1) (pe_call (ok_copied T) (hr.mono (by decide)) (by rfl) T.g_copied T.F_copied.kp T.b_copied .nil pass0 (pa_cons (pe_fld (pv 0) rfl) pa_nil)) rfl)
      (pss_cons (ps_fld (pv 1) (pe_callTy call_dictD (by rfl) T.z_dict boot_dict (pa_cons (pe_fld (pv 0) rfl) pa_nil)) rfl)
      (pss_one (ps_ret (pv 1))))))), ?_⟩
    (dsimp only [cxOf, Cx.nox, Cx.wish, L2.start, List.map, List.length, List.replicate, List.cons_append, List.nil_append, List.append_eq, Nat.reduceSub, Nat.reduceAdd])
    walk_at "my_rd"
    refine q_make ?_
    walk_at "my_rd"
    refine q_fldK h1 T.cl_Sheet T.n_Sheet_config h2 ?_
    walk_at "my_rd"
    refine q_fldK h1 T.cl_Sheet T.n_Sheet_side h3 ?_
    walk_at "my_rd"
    intro y dy ny ndy hne
    have smM : Same H (upd (upd H dy (.own y)) y (.ins T.C_Sheet dy [])) := Same.up (Same.up (Same.refl _) ndy) (upd_free hne.symm ny)
    refine ⟨y, dy, S.cf, g, c, S.side, rfl, upd_same, hC.same smM, hc, fun H1 S1 hS1 e1 e2 _ _ _ hfr kp1 => ⟨rfl, ?_⟩⟩
    have sm1 : Same H H1 := fun b o q => kp1 b o (smM _ _ q) (ne_of_none q ny)
    clear smM kp1 hfr
    obtain ⟨dz, gs, g1, g2, g3, g4, g5, g6, g7, g8⟩ := hS1.ex
    walk_at "my_rd"
    refine q_fldK (sm1 _ _ h1) T.cl_Sheet T.n_Sheet_balances h4 ?_
    walk_at "my_rd"
    refine ⟨S.ba, S.bal, S.bs, rfl, hS.b.same sm1, hl1, hn1, fun d1 ds1 H2 nd1 hT1 hf1 sm2 => ?_⟩
    have sm12 := Same.trans sm1 sm2
    walk_at "my_rd"
    refine q_fputK (sm2 _ _ g1) T.cl_Sheet T.n_Sheet_balances (by omega) ?_
    walk_at "my_rd"
    generalize hH3 : upd H2 y _ = H3
    have hy3 : H3 y = some (.ins T.C_Sheet dz (putF "_balances" (.ref d1) gs)) := by rw [← hH3]; exact upd_same
    have kp23 : Kp y H2 H3 := by rw [← hH3]; exact Kp.upd Kp.refl
    have smx3 : Same H H3 := fun b o q => kp23 b o (sm12 _ _ q) (ne_of_none q ny)
    clear hH3
    refine q_fldK (smx3 _ _ h1) T.cl_Sheet T.n_Sheet_bonds h5 ?_
    walk_at "my_rd"
    refine ⟨S.bo, S.bon, S.ds, rfl, hS.d.same smx3, hl2, hn2, fun d2 ds2 H4 nd2 hT2 hf2 sm4 => ?_⟩
    walk_at "my_rd"
    refine q_fputK (sm4 _ _ hy3) T.cl_Sheet T.n_Sheet_bonds (Nat.lt_of_le_of_lt (q_fldlen (n := 5) g8) (by decide)) ?_
    walk_at "my_rd"
    generalize hH5 : upd H4 y _ = H5
    have hy5 : H5 y = some (.ins T.C_Sheet dz (putF "_bonds" (.ref d2) (putF "_balances" (.ref d1) gs))) := by rw [← hH5]; exact upd_same
    have kp45 : Kp y H4 H5 := by rw [← hH5]; exact Kp.upd Kp.refl
    have smx5 : Same H H5 := fun b o q => kp45 b o (sm4 _ _ (smx3 _ _ q)) (ne_of_none q ny)
    clear hH5
    refine q_fldK (smx5 _ _ h1) T.cl_Sheet T.n_Sheet_vaults h6 ?_
    walk_at "my_rd"
    refine ⟨S.va, rowK S.vau, rfl, .inl (smx5 _ _ hS.v), fun d3 nd3 => ?_⟩
    walk_at "my_rd"
    refine q_fputK (upd_new nd3 hy5) T.cl_Sheet T.n_Sheet_vaults (Nat.lt_of_le_of_lt (q_fldlen (n := 6) (q_fldlen (n := 5) g8)) (by decide)) ?_
    walk_at "my_rd"
    generalize hH6 : upd (upd H5 d3 _) y _ = H6
    have n3y : d3 ≠ y := (ne_of_none hy5 nd3).symm
    have hy6 : H6 y = some (.ins T.C_Sheet dz (putF "_vaults" (.ref d3) (putF "_bonds" (.ref d2) (putF "_balances" (.ref d1) gs)))) := by rw [← hH6]; exact upd_same
    have hv6 : H6 d3 = some (.dK (rowK S.vau)) := by rw [← hH6]; exact upd_other n3y upd_same
    have kp56 : Kp y H5 H6 := by rw [← hH6]; exact Kp.upd (Kp.new Kp.refl nd3)
    clear hH6
    have kp46 : Kp y H4 H6 := Kp.trans kp45 kp56
    have kp25 : Kp y H2 H5 := Kp.trans kp23 (Kp.trans (Same.kp sm4) kp45)
    have hy2 := sm2 _ _ g1
    have hy4 := sm4 _ _ hy3
    refine k y H6 ⟨S.cf, S.side, d1, d2, d3, S.bal, S.bon, S.vau, ds1, ds2⟩ ny ⟨⟨dz, _, hy6, ?_, ?_, ?_, ?_, ?_, ?_, ?_⟩, hT1.kp hy2 (Kp.trans kp25 kp56), hT2.kp hy4 kp46, hv6, ?_, ?_, ?_⟩ rfl rfl rfl rfl rfl ?_ (fun b o q => kp56 b o (smx5 _ _ q) (ne_of_none q ny))
    · rw [lookup_putF, if_neg (by decide +kernel), lookup_putF, if_neg (by decide +kernel), lookup_putF, if_neg (by decide +kernel), g2, e1]
    · rw [lookup_putF, if_neg (by decide +kernel), lookup_putF, if_neg (by decide +kernel), lookup_putF, if_neg (by decide +kernel), g3, e2]
    · (repeat first | rfl | rw [lookup_putF, if_pos rfl] | rw [lookup_putF, if_neg (by decide +kernel)])
    · (repeat first | rfl | rw [lookup_putF, if_pos rfl] | rw [lookup_putF, if_neg (by decide +kernel)])
    · (repeat first | rfl | rw [lookup_putF, if_pos rfl] | rw [lookup_putF, if_neg (by decide +kernel)])
    · intro m hm
      have hne : ∀ z ∈ shNames, ¬ m = z := fun z hz e => hm (e ▸ hz)
      rw [lookup_putF, if_neg (hne _ (by decide +kernel)), lookup_putF, if_neg (hne _ (by decide +kernel)), lookup_putF, if_neg (hne _ (by decide +kernel))]
      exact g7 m hm
    · rw [putF_len (z := .ref S1.va) (by rw [lookup_putF, if_neg (by decide +kernel), lookup_putF, if_neg (by decide +kernel)]; exact g6), putF_len (z := .ref S1.bo) (by rw [lookup_putF, if_neg (by decide +kernel)]; exact g5), putF_len g4]
      exact g8
    · intro b hb m
      obtain ⟨_, q⟩ := (hT1.kp hy2 kp23).free hb
      rcases List.mem_cons.mp m with e | e
      · rw [e, nd2] at q; cases q
      · rw [hf2 b e] at q; cases q
    · intro m
      obtain ⟨_, q⟩ := (hT1.kp hy2 kp25).free m
      have nd3' : H5 d3 = none := nd3
      rw [nd3'] at q; cases q
    · intro m
      obtain ⟨_, q⟩ := (hT2.kp hy4 kp45).free m
      have nd3' : H5 d3 = none := nd3
      rw [nd3'] at q; cases q
    · intro b hb
      rcases foot_of hb with m | m | m
      · rcases List.mem_cons.mp m with e | e
        · subst e; exact Same.free sm1 nd1
        · exact Same.free sm1 (hf1 b e)
      · rcases List.mem_cons.mp m with e | e
        · subst e; exact Same.free smx3 nd2
        · exact Same.free smx3 (hf2 b e)
      · subst m; exact Same.free smx5 nd3
end

local macro_rules | `(tactic| walk_at "my_rd") => `(tactic| (repeat first
  | with_reducible refine q_tCons ?_
  | ((with_reducible apply q_var); (focus (exact rfl)))
  | with_reducible refine q_c ?_
  | with_reducible refine q_nx ?_
  | with_reducible refine q_bK ?_
  | with_reducible refine q_call ?_
  | with_reducible refine q_callK ?_
  | with_reducible refine q_tNil ?_
  | with_reducible refine q_cb ?_
  | with_reducible refine q_seq ?_
  | with_reducible refine q_asg ?_
  | with_reducible refine q_gName ?_
  | with_reducible refine q_op ?_
  | with_reducible refine q_test ?_
  | with_reducible refine q_tB ?_
  | with_reducible refine q_ifS ?_
  | with_reducible refine q_ret ?_
  | with_reducible refine q_rt ?_
  | with_reducible refine q_next ?_
  | with_reducible refine q_ifF ?_
  | with_reducible refine q_ifT ?_
  | with_reducible refine q_drop ?_
  | with_reducible refine q_and ?_
  | with_reducible refine q_or ?_
  | with_reducible refine q_andT ?_
  | with_reducible refine q_andF ?_
  | with_reducible refine q_orF ?_
  | with_reducible refine q_orT ?_
  | with_reducible refine q_andV ?_
  | with_reducible refine q_andVT ?_
  | with_reducible refine q_andVF ?_
  | with_reducible refine q_orV ?_
  | with_reducible refine q_gCons ?_
  | with_reducible refine q_gNil ?_
  | with_reducible refine q_tup ?_
  | with_reducible refine q_lst ?_
  | with_reducible refine q_not ?_
  | with_reducible refine q_notKT ?_
  | with_reducible refine q_notKF ?_
  | with_reducible refine q_I0 ?_
  | with_reducible refine q_eqI ?_
  | with_reducible refine q_neI ?_
  | ((with_reducible refine q_I ?_ ?_); first | decide | omega | exact ⟨by omega, by omega⟩ | exact ⟨by decide, by decide⟩ | exact .inl ⟨by omega, by omega⟩ | exact .inr ⟨by omega, by omega⟩ | exact .inr ⟨by decide, by decide⟩)
  | with_reducible refine q_eqS ?_
  | with_reducible refine q_neS ?_
  | with_reducible refine q_brk ?_
  | with_reducible refine q_ct ?_
  | with_reducible refine q_bk ?_
  | with_reducible refine q_cn ?_
  | with_reducible refine q_retN ?_
  | with_reducible refine q_gSub ?_
  | with_reducible refine q_for ?_
  | with_reducible refine q_iList ?_
  | with_reducible refine q_iTup ?_
  | with_reducible refine q_iRng1 ?_
  | with_reducible refine q_notK ?_
  | with_reducible refine q_orVT ?_
  | with_reducible refine q_orVF ?_
  | with_reducible refine q_notV ?_
  | with_reducible refine q_notVK ?_
  | with_reducible refine q_ifE ?_
  | with_reducible refine q_ifET ?_
  | with_reducible refine q_ifEF ?_
  | with_reducible refine q_yes ?_
  | with_reducible refine q_un ?_
  | with_reducible refine q_rU ?_
  | with_reducible refine q_abs ?_
  | with_reducible refine q_int1 ?_
  | with_reducible refine q_bm ?_
  | with_reducible refine q_bm0 ?_
  | with_reducible refine q_lc ?_
  | with_reducible refine q_keepT ?_
  | with_reducible refine q_keepF ?_
  | ((with_reducible apply q_aug); (focus (exact rfl)))
  | with_reducible refine q_ipI ?_
  | with_reducible refine q_chain ?_
  | with_reducible refine q_pairC ?_
  | with_reducible refine q_pairsK ?_
  | with_reducible refine q_pairN ?_
  | with_reducible refine q_fld ?_
  | with_reducible refine q_sFld ?_
  | with_reducible refine q_meth ?_
  | with_reducible refine q_makeK ?_
  | with_reducible refine q_isBl ?_
  | with_reducible refine q_notBl ?_
  | with_reducible refine q_sl ?_
  | with_reducible refine q_noPart ?_
  | with_reducible refine q_part ?_
  | with_reducible refine q_partK ?_
  | ((with_reducible apply q_mulStr); (focus (decide +kernel)))
  | with_reducible refine q_chT ?_
  | with_reducible refine q_chF ?_
  | with_reducible refine q_ord ?_
  | with_reducible refine q_iStr0 ?_
  | with_reducible refine q_iStr ?_
  | with_reducible refine q_tDIn ?_
  | with_reducible refine q_tDNotIn ?_
  | with_reducible refine q_tDGet ?_
  | with_reducible refine q_tDGet2 ?_
  | with_reducible refine q_tDGet1 ?_
  | with_reducible refine q_tDSetd ?_
  | ((with_reducible apply q_dG2a); (focus ((repeat first | (with_reducible exact upd_same) | (with_reducible assumption) | (with_reducible apply upd_new (by assumption)) | (with_reducible apply upd_other (by first | assumption | exact Ne.symm (by assumption))) | (with_reducible refine' Kp.get (by assumption) ?_ (by first | assumption | exact Ne.symm (by assumption))) | (with_reducible apply Same.get (by assumption))); done)))
  | ((with_reducible apply q_dSda); (focus ((repeat first | (with_reducible exact upd_same) | (with_reducible assumption) | (with_reducible apply upd_new (by assumption)) | (with_reducible apply upd_other (by first | assumption | exact Ne.symm (by assumption))) | (with_reducible refine' Kp.get (by assumption) ?_ (by first | assumption | exact Ne.symm (by assumption))) | (with_reducible apply Same.get (by assumption))); done)))
  | with_reducible refine q_sDPut ?_
  | ((with_reducible apply q_dInS); (focus ((repeat first | (with_reducible exact upd_same) | (with_reducible assumption) | (with_reducible apply upd_new (by assumption)) | (with_reducible apply upd_other (by first | assumption | exact Ne.symm (by assumption))) | (with_reducible refine' Kp.get (by assumption) ?_ (by first | assumption | exact Ne.symm (by assumption))) | (with_reducible apply Same.get (by assumption))); done)))
  | ((with_reducible apply q_dNInS); (focus ((repeat first | (with_reducible exact upd_same) | (with_reducible assumption) | (with_reducible apply upd_new (by assumption)) | (with_reducible apply upd_other (by first | assumption | exact Ne.symm (by assumption))) | (with_reducible refine' Kp.get (by assumption) ?_ (by first | assumption | exact Ne.symm (by assumption))) | (with_reducible apply Same.get (by assumption))); done)))
  | ((with_reducible apply q_dInI); (focus ((repeat first | (with_reducible exact upd_same) | (with_reducible assumption) | (with_reducible apply upd_new (by assumption)) | (with_reducible apply upd_other (by first | assumption | exact Ne.symm (by assumption))) | (with_reducible refine' Kp.get (by assumption) ?_ (by first | assumption | exact Ne.symm (by assumption))) | (with_reducible apply Same.get (by assumption))); done)))
  | ((with_reducible apply q_dNInI); (focus ((repeat first | (with_reducible exact upd_same) | (with_reducible assumption) | (with_reducible apply upd_new (by assumption)) | (with_reducible apply upd_other (by first | assumption | exact Ne.symm (by assumption))) | (with_reducible refine' Kp.get (by assumption) ?_ (by first | assumption | exact Ne.symm (by assumption))) | (with_reducible apply Same.get (by assumption))); done)))
  | ((with_reducible apply q_bmL); (focus ((repeat first | (with_reducible exact upd_same) | (with_reducible assumption) | (with_reducible apply upd_new (by assumption)) | (with_reducible apply upd_other (by first | assumption | exact Ne.symm (by assumption))) | (with_reducible refine' Kp.get (by assumption) ?_ (by first | assumption | exact Ne.symm (by assumption))) | (with_reducible apply Same.get (by assumption))); done)))
  | ((with_reducible apply q_bmL0); (focus ((repeat first | (with_reducible exact upd_same) | (with_reducible assumption) | (with_reducible apply upd_new (by assumption)) | (with_reducible apply upd_other (by first | assumption | exact Ne.symm (by assumption))) | (with_reducible refine' Kp.get (by assumption) ?_ (by first | assumption | exact Ne.symm (by assumption))) | (with_reducible apply Same.get (by assumption))); done)))
  | ((with_reducible apply q_ixLt); (focus ((repeat first | (with_reducible exact upd_same) | (with_reducible assumption) | (with_reducible apply upd_new (by assumption)) | (with_reducible apply upd_other (by first | assumption | exact Ne.symm (by assumption))) | (with_reducible refine' Kp.get (by assumption) ?_ (by first | assumption | exact Ne.symm (by assumption))) | (with_reducible apply Same.get (by assumption))); done)); (focus (exact rfl)))
  | ((with_reducible apply q_ixTt); (focus ((repeat first | (with_reducible exact upd_same) | (with_reducible assumption) | (with_reducible apply upd_new (by assumption)) | (with_reducible apply upd_other (by first | assumption | exact Ne.symm (by assumption))) | (with_reducible refine' Kp.get (by assumption) ?_ (by first | assumption | exact Ne.symm (by assumption))) | (with_reducible apply Same.get (by assumption))); done)); (focus (exact rfl)))
  | ((with_reducible apply q_lenLt); (focus ((repeat first | (with_reducible exact upd_same) | (with_reducible assumption) | (with_reducible apply upd_new (by assumption)) | (with_reducible apply upd_other (by first | assumption | exact Ne.symm (by assumption))) | (with_reducible refine' Kp.get (by assumption) ?_ (by first | assumption | exact Ne.symm (by assumption))) | (with_reducible apply Same.get (by assumption))); done)))
  | ((with_reducible apply q_lenTt); (focus ((repeat first | (with_reducible exact upd_same) | (with_reducible assumption) | (with_reducible apply upd_new (by assumption)) | (with_reducible apply upd_other (by first | assumption | exact Ne.symm (by assumption))) | (with_reducible refine' Kp.get (by assumption) ?_ (by first | assumption | exact Ne.symm (by assumption))) | (with_reducible apply Same.get (by assumption))); done)))
  | ((with_reducible apply q_append); (focus ((repeat first | (with_reducible exact upd_same) | (with_reducible assumption) | (with_reducible apply upd_new (by assumption)) | (with_reducible apply upd_other (by first | assumption | exact Ne.symm (by assumption))) | (with_reducible refine' Kp.get (by assumption) ?_ (by first | assumption | exact Ne.symm (by assumption))) | (with_reducible apply Same.get (by assumption))); done)); (focus ((first | (exact Nat.lt_of_ble_eq_true rfl) | (simp only [List.length_append, List.length_cons, List.length_nil, List.length_map]; exact small1000 (by omega))))))
  | ((with_reducible apply q_setL); (focus ((repeat first | (with_reducible exact upd_same) | (with_reducible assumption) | (with_reducible apply upd_new (by assumption)) | (with_reducible apply upd_other (by first | assumption | exact Ne.symm (by assumption))) | (with_reducible refine' Kp.get (by assumption) ?_ (by first | assumption | exact Ne.symm (by assumption))) | (with_reducible apply Same.get (by assumption))); done)); (focus (exact rfl)))
  | with_reducible refine q_ifNT ?_
  | with_reducible refine q_ifNF ?_
  | with_reducible refine q_andNT ?_
  | with_reducible refine q_andNF ?_
  | with_reducible refine q_orNT ?_
  | with_reducible refine q_orNF ?_
  | with_reducible refine q_bKNT ?_
  | with_reducible refine q_bKNF ?_))
/-! the law's own table, and what it says of a sheet -/
abbrev TTab := List (List Key × V)
def tget (kvs : TTab) (k : List Key) : Int := match valV kvs k with | some (.int i) => i | _ => 0
def TInts (kvs : TTab) : Prop := ∀ k v, valV kvs k = some v → ∃ i, v = .int i
theorem tget_getD {kvs : TTab} (h : TInts kvs) (k : List Key) : (valV kvs k).getD (.int 0) = .int (tget kvs k) := by
  unfold tget
  cases e : valV kvs k with
  | none => rfl
  | some v =>
    obtain ⟨i, rfl⟩ := h k v e
    rfl
def tput (kvs : TTab) (k : List Key) (i : Int) : TTab := putK kvs k (.int i)
theorem tget_put (kvs : TTab) (k k2 : List Key) (i : Int) : tget (tput kvs k i) k2 = if k2 = k then i else tget kvs k2 := by
  unfold tget tput
  rw [L2.valV_put]
  split
  · rename_i h
    by_cases e : k2 = k
    · rw [if_pos e] at h ⊢
      injection h with h
      injection h with h
      exact h.symm
    · rw [if_neg e] at h ⊢
      rw [h]
  · rename_i h
    by_cases e : k2 = k
    · rw [if_pos e] at h
      exact absurd rfl (h i)
    · rw [if_neg e] at h ⊢
      split
      · rename_i j q
        exact absurd q (h j)
      · rfl
theorem TInts.put {kvs : TTab} (h : TInts kvs) (k : List Key) (i : Int) : TInts (tput kvs k i) := by
  intro k2 v e
  unfold tput at e
  rw [L2.valV_put] at e
  split at e
  · exact ⟨i, (Option.some.inj e).symm⟩
  · exact h k2 v e
theorem tput_len (kvs : TTab) (k : List Key) (i : Int) : (tput kvs k i).length ≤ kvs.length + 1 := by
  unfold tput putK
  split
  · rw [List.length_map]; omega
  · rw [List.length_append]; exact Nat.le_refl _
def kB (a t : Str) : List Key := [.inr a, .inr t]
def kD (a t : Str) : List Key := [.inr a, .inr t, .inl 1]
theorem kB_inj {a t a' t' : Str} : kB a t = kB a' t' ↔ a = a' ∧ t = t' := by
  constructor
  · intro h
    injection h with h1 h2
    injection h2 with h2 _
    exact ⟨Sum.inr.inj h1, Sum.inr.inj h2⟩
  · rintro ⟨rfl, rfl⟩; rfl
theorem kD_inj {a t a' t' : Str} : kD a t = kD a' t' ↔ a = a' ∧ t = t' := by
  constructor
  · intro h
    injection h with h1 h2
    injection h2 with h2 _
    exact ⟨Sum.inr.inj h1, Sum.inr.inj h2⟩
  · rintro ⟨rfl, rfl⟩; rfl
theorem kBD {a t a' t' : Str} : kB a t ≠ kD a' t' := by
  intro h
  injection h with _ h
  injection h with _ h
  cases h
theorem getRow_put (r : Row) (x : Str) (i : Int) (y : Str) : getRow (putRow r x i) y = if x = y then i else getRow r y := by
  have h := rowK_get (putRow r x i) y
  rw [← rowK_put, L2.valV_put] at h
  by_cases e : x = y
  · subst e
    rw [if_pos rfl] at h
    rw [if_pos rfl]
    injection h with h
    exact h.symm
  · rw [if_neg (fun q => e (Sum.inr.inj q).symm), rowK_get] at h
    rw [if_neg e]
    injection h with h
    exact h.symm
theorem heldT_put (tb : Tab2) (t x : Str) (i : Int) (t2 x2 : Str) : heldT (putT tb t x i) t2 x2 = if t = t2 ∧ x = x2 then heldT tb t x + i else heldT tb t2 x2 := by
  unfold heldT
  rw [rowOf_put]
  by_cases e : t = t2
  · subst e
    rw [if_pos rfl, getRow_put]
    by_cases e2 : x = x2
    · subst e2
      rw [if_pos rfl, if_pos ⟨rfl, rfl⟩]
    · rw [if_neg e2, if_neg (fun q => e2 q.2)]
  · rw [if_neg e, if_neg (fun q => e q.1)]
/-- the names of a row are among ns, each once -/
structure RowIn (ns : List Str) (r : Row) : Prop where
  sub : ∀ p ∈ r, p.1 ∈ ns
  nd : (r.map (·.1)).Nodup
theorem any_mem {r : Row} {x : Str} : (r.any fun p => decide (p.1 = x)) = true ↔ x ∈ r.map (·.1) := by
  rw [List.any_eq_true, List.mem_map]
  constructor
  · rintro ⟨p, h, e⟩; exact ⟨p, h, of_decide_eq_true e⟩
  · rintro ⟨p, h, e⟩; exact ⟨p, h, decide_eq_true e⟩
theorem RowIn.put {ns : List Str} {r : Row} (h : RowIn ns r) {x : Str} (hx : x ∈ ns) (i : Int) : RowIn ns (putRow r x i) := by
  unfold putRow
  by_cases e : (r.any fun p => decide (p.1 = x)) = true
  · rw [if_pos e]
    refine ⟨fun p hp => ?_, ?_⟩
    · obtain ⟨q, hq, rfl⟩ := List.mem_map.mp hp
      split
      · exact h.sub q hq
      · exact h.sub q hq
    · rw [List.map_map]
      have e2 : ((fun p : Str × Int => p.1) ∘ fun p => if p.1 = x then (p.1, i) else p) = fun p => p.1 := by
        funext p
        show (if p.1 = x then (p.1, i) else p).1 = p.1
        split <;> rfl
      rw [e2]
      exact h.nd
  · rw [if_neg e]
    refine ⟨fun p hp => ?_, ?_⟩
    · rcases List.mem_append.mp hp with m | m
      · exact h.sub p m
      · rw [List.mem_singleton.mp m]; exact hx
    · rw [List.map_append]
      refine List.nodup_append.mpr ⟨h.nd, by simp, fun a ha b hb => ?_⟩
      rw [List.mem_singleton.mp hb]
      rintro rfl
      exact e (any_mem.mpr ha)
def rowSum (r : Row) : Int := (r.map (·.2)).sum
theorem getRow_cons (a : Str) (i : Int) (r : Row) (x : Str) : getRow ((a, i) :: r) x = if a = x then i else getRow r x := by
  unfold getRow
  by_cases e : a = x
  · rw [if_pos e, List.find?_cons_of_pos (by rw [decide_eq_true e])]; rfl
  · rw [if_neg e, List.find?_cons_of_neg (by rw [decide_eq_false e]; exact Bool.false_ne_true)]
theorem sum_split (ns : List Str) (a : Str) (i : Int) (f : Str → Int) (hf : f a = 0) (hn : ns.Nodup) (ha : a ∈ ns) : (ns.map fun x => if a = x then i else f x).sum = i + (ns.map f).sum := by
  induction ns with
  | nil => cases ha
  | cons b ns ih =>
    rw [List.map_cons, List.map_cons, List.sum_cons, List.sum_cons]
    rw [List.nodup_cons] at hn
    by_cases e : a = b
    · subst e
      rw [if_pos rfl, hf]
      have e2 : (ns.map fun x => if a = x then i else f x) = ns.map f := by
        apply List.map_congr_left
        intro x hx
        rw [if_neg]
        rintro rfl
        exact hn.1 hx
      rw [e2]
      omega
    · rw [if_neg e]
      have := ih hn.2 ((List.mem_cons.mp ha).resolve_left e)
      omega
theorem getRow_no {r : Row} {x : Str} (h : x ∉ r.map (·.1)) : getRow r x = 0 := by
  induction r with
  | nil => rfl
  | cons p r ih =>
    obtain ⟨a, i⟩ := p
    rw [getRow_cons, if_neg (show ¬ a = x from fun e => h (by rw [← e]; exact List.mem_cons_self))]
    exact ih fun m => h (List.mem_cons_of_mem _ m)
theorem zero_sum (ns : List Str) : (ns.map fun _ => (0 : Int)).sum = 0 := by
  induction ns with
  | nil => rfl
  | cons b ns ih => rw [List.map_cons, List.sum_cons, ih]; rfl
theorem rowSum_names {ns : List Str} (hn : ns.Nodup) : ∀ {r : Row}, RowIn ns r → rowSum r = (ns.map (getRow r)).sum
  | [], _ => by
    have : (ns.map (getRow [])) = ns.map fun _ => (0 : Int) := List.map_congr_left fun _ _ => rfl
    rw [this, zero_sum]
    rfl
  | (a, i) :: r, h => by
    have h2 : RowIn ns r := ⟨fun p hp => h.sub p (List.mem_cons_of_mem _ hp), (List.nodup_cons.mp h.nd).2⟩
    have ha : a ∉ r.map (·.1) := (List.nodup_cons.mp h.nd).1
    have e : (ns.map (getRow ((a, i) :: r))) = ns.map fun x => if a = x then i else getRow r x := List.map_congr_left fun x _ => getRow_cons a i r x
    rw [e, sum_split ns a i (getRow r) (getRow_no ha) hn (h.sub (a, i) List.mem_cons_self)]
    show i + rowSum r = _
    rw [rowSum_names hn h2]
/-- the table says what the sheet says, for the names ns -/
structure Rel (ns : List Str) (bal bon : Tab2) (vau : Row) (kvs : TTab) : Prop where
  i : TInts kvs
  b : ∀ a ∈ ns, ∀ t, tget kvs (kB a t) = heldT bal t a
  d : ∀ a ∈ ns, ∀ t, tget kvs (kD a t) = heldT bon t a
  v : ∀ t, tget kvs (kB "" t) = getRow vau t
  e : ("" : Str) ∉ ns
  rb : ∀ t, RowIn ns (rowOf bal t)
  rd : ∀ t, RowIn ns (rowOf bon t)
  nb : (bal.map (·.1)).Nodup
  nd : (bon.map (·.1)).Nodup
theorem setRow_keys (tb : Tab2) (t : Str) (r : Row) : (setRow tb t r).map (·.1) = if t ∈ tb.map (·.1) then tb.map (·.1) else tb.map (·.1) ++ [t] := by
  induction tb with
  | nil => rfl
  | cons p tb ih =>
    obtain ⟨t', r'⟩ := p
    show (if t' = t then (t, r) :: tb else (t', r') :: setRow tb t r : Tab2).map (·.1) = _
    by_cases e : t' = t
    · subst e
      rw [if_pos rfl, if_pos (by exact List.mem_cons_self)]
      rfl
    · rw [if_neg e, List.map_cons, ih]
      by_cases m : t ∈ tb.map (·.1)
      · rw [if_pos m, if_pos (by exact List.mem_cons_of_mem _ m)]
        rfl
      · rw [if_neg m, if_neg (by
          intro q
          rcases List.mem_cons.mp q with q | q
          · exact e q.symm
          · exact m q)]
        rfl
theorem putT_nd {tb : Tab2} (h : (tb.map (·.1)).Nodup) (t x : Str) (i : Int) : ((putT tb t x i).map (·.1)).Nodup := by
  unfold putT
  rw [setRow_keys]
  split
  · exact h
  · rename_i m
    refine List.nodup_append.mpr ⟨h, by simp, fun a ha b hb => ?_⟩
    rw [List.mem_singleton.mp hb]
    rintro rfl
    exact m ha
theorem rowIn_put {ns : List Str} {tb : Tab2} (h : ∀ t, RowIn ns (rowOf tb t)) {t x : Str} (hx : x ∈ ns) (i : Int) (t2 : Str) : RowIn ns (rowOf (putT tb t x i) t2) := by
  rw [rowOf_put]
  split
  · exact (h t).put hx _
  · exact h t2
section
variable {ns : List Str} {bal bon : Tab2} {vau : Row} {kvs : TTab}
theorem Rel.putB (h : Rel ns bal bon vau kvs) {a : Str} (ha : a ∈ ns) (t : Str) (i j : Int) (ej : j = tget kvs (kB a t) + i) : Rel ns (putT bal t a i) bon vau (tput kvs (kB a t) j) where
  i := h.i.put _ _
  b := fun a2 h2 t2 => by
    rw [tget_put, heldT_put]
    by_cases e : t = t2 ∧ a = a2
    · obtain ⟨rfl, rfl⟩ := e
      rw [if_pos rfl, if_pos ⟨rfl, rfl⟩, ej, h.b a ha]
    · rw [if_neg (fun q => e (by rw [kB_inj] at q; exact ⟨q.2.symm, q.1.symm⟩)), if_neg e, h.b a2 h2]
  d := fun a2 h2 t2 => by rw [tget_put, if_neg (fun q => kBD q.symm), h.d a2 h2]
  v := fun t2 => by rw [tget_put, if_neg (show ¬ kB "" t2 = kB a t from fun q => h.e (by rw [(kB_inj.mp q).1]; exact ha)), h.v]
  e := h.e
  rb := rowIn_put h.rb ha i
  rd := h.rd
  nb := putT_nd h.nb _ _ _
  nd := h.nd
theorem Rel.putD (h : Rel ns bal bon vau kvs) {a : Str} (ha : a ∈ ns) (t : Str) (i j : Int) (ej : j = tget kvs (kD a t) + i) : Rel ns bal (putT bon t a i) vau (tput kvs (kD a t) j) where
  i := h.i.put _ _
  b := fun a2 h2 t2 => by rw [tget_put, if_neg kBD, h.b a2 h2]
  d := fun a2 h2 t2 => by
    rw [tget_put, heldT_put]
    by_cases e : t = t2 ∧ a = a2
    · obtain ⟨rfl, rfl⟩ := e
      rw [if_pos rfl, if_pos ⟨rfl, rfl⟩, ej, h.d a ha]
    · rw [if_neg (fun q => e (by rw [kD_inj] at q; exact ⟨q.2.symm, q.1.symm⟩)), if_neg e, h.d a2 h2]
  v := fun t2 => by rw [tget_put, if_neg kBD, h.v]
  e := h.e
  rb := h.rb
  rd := rowIn_put h.rd ha i
  nb := h.nb
  nd := putT_nd h.nd _ _ _
theorem Rel.putV (h : Rel ns bal bon vau kvs) (t : Str) (i j : Int) (ei : i = j) : Rel ns bal bon (putRow vau t i) (tput kvs (kB "" t) j) where
  i := h.i.put _ _
  b := fun a2 h2 t2 => by rw [tget_put, if_neg (show ¬ kB a2 t2 = kB "" t from fun q => h.e (by rw [← (kB_inj.mp q).1]; exact h2)), h.b a2 h2]
  d := fun a2 h2 t2 => by rw [tget_put, if_neg (fun q => kBD q.symm), h.d a2 h2]
  v := fun t2 => by
    rw [tget_put, getRow_put]
    by_cases e : t = t2
    · subst e
      rw [if_pos rfl, if_pos rfl, ei]
    · rw [if_neg (fun q => e (kB_inj.mp q).2.symm), if_neg e, h.v]
  e := h.e
  rb := h.rb
  rd := h.rd
  nb := h.nb
  nd := h.nd
theorem Rel.nil (he : ("" : Str) ∉ ns) : Rel ns [] [] [] [] where
  i := fun _ _ e => by cases e
  b := fun _ _ _ => rfl
  d := fun _ _ _ => rfl
  v := fun _ => rfl
  e := he
  rb := fun _ => ⟨fun _ hp => (by cases hp), List.nodup_nil⟩
  rd := fun _ => ⟨fun _ hp => (by cases hp), List.nodup_nil⟩
  nb := List.nodup_nil
  nd := List.nodup_nil
end

/-! Sheet.circulating -/
theorem TblAt.rowAt {H : Hp} {a : Addr} {tb : Tab2} {as : List Addr} (h : TblAt H a tb as) : ∃ kvs, H a = some (.dK kvs) ∧ ∀ (t : Str) (d : Addr) (H' : Hp), Same H H' → H' d = some (.dK []) → ∃ b, (valV kvs (Sum.inr t)).getD (.ref d) = .ref b ∧ H' b = some (.dK (rowK (rowOf tb t))) := by
  obtain ⟨kvs, ha, hR⟩ := h.ex
  refine ⟨kvs, ha, fun t d H' sm hd => ?_⟩
  unfold rowOf
  rcases hR.val t with ⟨e1, e2⟩ | ⟨r, b, e1, e2, _, hb⟩
  · rw [e1, e2]; exact ⟨d, rfl, hd⟩
  · rw [e1, e2]; exact ⟨b, rfl, sm _ _ hb⟩
theorem rowK_vals (r : Row) : (rowK r).map (·.2) = (r.map (·.2)).map V.int := by
  unfold rowK
  rw [List.map_map, List.map_map]
  rfl
def sp_circ (C : Addr) : Sp := fun vs H Q _ => ∃ (x : Addr) (S : Sh) (t : Str), vs = [.ref x, .str t] ∧ ShAt C H x S ∧ ∀ H', Same H H' → Q (.int (rowSum (rowOf S.bal t) + rowSum (rowOf S.bon t))) H'
section
variable {P : Program} {w : World} {K : PySem.W.Frag} {mg : Str → Option Value} {base : Heap}
theorem ok_Sheet_circulating (T : Txt K mg) : FnOk P w K mg base CX0 1 T.f_Sheet_circulating T.d_Sheet_circulating ["self", "token"] (sp_circ T.C_Sheet) := by
  refine T.F_Sheet_circulating.ok sc_Sheet_circulating (fun vs H Q E h => ?_) (fun cdv A outer s H vs Q E hr h => ?_)
  · obtain ⟨x, S, t, rfl, _⟩ := h; rfl
  · obtain ⟨x, S, t, rfl, hS, k⟩ := h
    obtain ⟨dx, fs, h1, h2, h3, h4, h5, h6, h7⟩ := hS.ex
    obtain ⟨kb, hb, hbr⟩ := hS.b.rowAt
    obtain ⟨kd, hd, hdr⟩ := hS.d.rowAt
    have hu := hu_of hr
    refine ⟨_, (pss_cons (ps_set (i := 2) sc_Sheet_circulating.nd rfl (Or.inl rfl) (pe_dget2 hu (pe_fld (pv 0) rfl) (pv 1) pe_dnewK ⟨rfl, rfl, rfl, rfl⟩))
      (pss_cons (ps_set (i := 3) sc_Sheet_circulating.nd rfl (Or.inl rfl) (pe_dget2 hu (pe_fld (pv 0) rfl) (pv 1) pe_dnewK ⟨rfl, rfl, rfl, rfl⟩))
      (pss_one (ps_ret (pe_op op_add (pe_sumVals rfl (by rfl) T.z_sum (pv 2)) (pe_sumVals rfl (by rfl) T.z_sum (pv 3))))))), ?_⟩
    (dsimp only [cxOf, Cx.nox, Cx.wish, L2.start, List.map, List.length, List.replicate, List.cons_append, List.nil_append, List.append_eq, Nat.reduceSub, Nat.reduceAdd])
    walk_at "my_rd"
    refine q_fldK h1 T.cl_Sheet T.n_Sheet_balances h4 ?_
    refine q_dG2a hb ?_
    walk_at "my_rd"
    refine q_dNew fun d1 nd1 => ?_
    have sm1 : Same H (upd H d1 (.dK [])) := Same.up (Same.refl _) nd1
    refine q_dG2S (sm1 _ _ hb) ?_
    obtain ⟨b1, e1, hb1⟩ := hbr t d1 _ sm1 upd_same
    rw [e1]
    generalize upd H d1 (.dK []) = H1 at sm1 hb1
    walk_at "my_rd"
    refine q_fldK (sm1 _ _ h1) T.cl_Sheet T.n_Sheet_bonds h5 ?_
    refine q_dG2a (sm1 _ _ hd) ?_
    walk_at "my_rd"
    refine q_dNew fun d2 nd2 => ?_
    have sm12 : Same H1 (upd H1 d2 (.dK [])) := Same.up (Same.refl _) nd2
    have sm2 := Same.trans sm1 sm12
    refine q_dG2S (sm2 _ _ hd) ?_
    obtain ⟨b2, e2, hb2⟩ := hdr t d2 _ sm2 upd_same
    rw [e2]
    have hb1 := sm12 _ _ hb1
    generalize upd H1 d2 (.dK []) = H2 at sm2 hb1 hb2
    walk_at "my_rd"
    refine q_sumVals ?_
    walk_at "my_rd"
    refine q_sumK hb1 (rowK_vals _) ?_
    refine q_sumVals ?_
    walk_at "my_rd"
    refine q_sumK hb2 (rowK_vals _) ?_
    walk_at "my_rd"
    exact k _ sm2
end

local macro_rules | `(tactic| walk_at "my_rd") => `(tactic| (repeat first
  | with_reducible refine q_tCons ?_
  | ((with_reducible apply q_var); (focus (exact rfl)))
  | with_reducible refine q_c ?_
  | with_reducible refine q_nx ?_
  | with_reducible refine q_bK ?_
  | with_reducible refine q_call ?_
  | with_reducible refine q_callK ?_
  | with_reducible refine q_tNil ?_
  | with_reducible refine q_cb ?_
  | with_reducible refine q_seq ?_
  | with_reducible refine q_asg ?_
  | with_reducible refine q_gName ?_
  | with_reducible refine q_op ?_
  | with_reducible refine q_test ?_
  | with_reducible refine q_tB ?_
  | with_reducible refine q_ifS ?_
  | with_reducible refine q_ret ?_
  | with_reducible refine q_rt ?_
  | with_reducible refine q_next ?_
  | with_reducible refine q_ifF ?_
  | with_reducible refine q_ifT ?_
  | with_reducible refine q_drop ?_
  | with_reducible refine q_and ?_
  | with_reducible refine q_or ?_
  | with_reducible refine q_andT ?_
  | with_reducible refine q_andF ?_
  | with_reducible refine q_orF ?_
  | with_reducible refine q_orT ?_
  | with_reducible refine q_andV ?_
  | with_reducible refine q_andVT ?_
  | with_reducible refine q_andVF ?_
  | with_reducible refine q_orV ?_
  | with_reducible refine q_gCons ?_
  | with_reducible refine q_gNil ?_
  | with_reducible refine q_tup ?_
  | with_reducible refine q_lst ?_
  | with_reducible refine q_not ?_
  | with_reducible refine q_notKT ?_
  | with_reducible refine q_notKF ?_
  | with_reducible refine q_I0 ?_
  | with_reducible refine q_eqI ?_
  | with_reducible refine q_neI ?_
  | ((with_reducible refine q_I ?_ ?_); first | decide | omega | exact ⟨by omega, by omega⟩ | exact ⟨by decide, by decide⟩ | exact .inl ⟨by omega, by omega⟩ | exact .inr ⟨by omega, by omega⟩ | exact .inr ⟨by decide, by decide⟩)
  | with_reducible refine q_eqS ?_
  | with_reducible refine q_neS ?_
  | with_reducible refine q_brk ?_
  | with_reducible refine q_ct ?_
  | with_reducible refine q_bk ?_
  | with_reducible refine q_cn ?_
  | with_reducible refine q_retN ?_
  | with_reducible refine q_gSub ?_
  | with_reducible refine q_for ?_
  | with_reducible refine q_iList ?_
  | with_reducible refine q_iTup ?_
  | with_reducible refine q_iRng1 ?_
  | with_reducible refine q_notK ?_
  | with_reducible refine q_orVT ?_
  | with_reducible refine q_orVF ?_
  | with_reducible refine q_notV ?_
  | with_reducible refine q_notVK ?_
  | with_reducible refine q_ifE ?_
  | with_reducible refine q_ifET ?_
  | with_reducible refine q_ifEF ?_
  | with_reducible refine q_yes ?_
  | with_reducible refine q_un ?_
  | with_reducible refine q_rU ?_
  | with_reducible refine q_abs ?_
  | with_reducible refine q_int1 ?_
  | with_reducible refine q_bm ?_
  | with_reducible refine q_bm0 ?_
  | with_reducible refine q_lc ?_
  | with_reducible refine q_keepT ?_
  | with_reducible refine q_keepF ?_
  | ((with_reducible apply q_aug); (focus (exact rfl)))
  | with_reducible refine q_ipI ?_
  | with_reducible refine q_chain ?_
  | with_reducible refine q_pairC ?_
  | with_reducible refine q_pairsK ?_
  | with_reducible refine q_pairN ?_
  | with_reducible refine q_fld ?_
  | with_reducible refine q_sFld ?_
  | with_reducible refine q_meth ?_
  | with_reducible refine q_makeK ?_
  | with_reducible refine q_isBl ?_
  | with_reducible refine q_notBl ?_
  | with_reducible refine q_sl ?_
  | with_reducible refine q_noPart ?_
  | with_reducible refine q_part ?_
  | with_reducible refine q_partK ?_
  | ((with_reducible apply q_mulStr); (focus (decide +kernel)))
  | with_reducible refine q_chT ?_
  | with_reducible refine q_chF ?_
  | with_reducible refine q_ord ?_
  | with_reducible refine q_iStr0 ?_
  | with_reducible refine q_iStr ?_
  | with_reducible refine q_tDIn ?_
  | with_reducible refine q_tDNotIn ?_
  | with_reducible refine q_tDGet ?_
  | with_reducible refine q_tDGet2 ?_
  | with_reducible refine q_tDGet1 ?_
  | with_reducible refine q_tDSetd ?_
  | ((with_reducible apply q_dG2a); (focus ((repeat first | (with_reducible exact upd_same) | (with_reducible assumption) | (with_reducible apply upd_new (by assumption)) | (with_reducible apply upd_other (by first | assumption | exact Ne.symm (by assumption))) | (with_reducible refine' Kp.get (by assumption) ?_ (by first | assumption | exact Ne.symm (by assumption))) | (with_reducible apply Same.get (by assumption))); done)))
  | ((with_reducible apply q_dSda); (focus ((repeat first | (with_reducible exact upd_same) | (with_reducible assumption) | (with_reducible apply upd_new (by assumption)) | (with_reducible apply upd_other (by first | assumption | exact Ne.symm (by assumption))) | (with_reducible refine' Kp.get (by assumption) ?_ (by first | assumption | exact Ne.symm (by assumption))) | (with_reducible apply Same.get (by assumption))); done)))
  | with_reducible refine q_sDPut ?_
  | ((with_reducible apply q_dInS); (focus ((repeat first | (with_reducible exact upd_same) | (with_reducible assumption) | (with_reducible apply upd_new (by assumption)) | (with_reducible apply upd_other (by first | assumption | exact Ne.symm (by assumption))) | (with_reducible refine' Kp.get (by assumption) ?_ (by first | assumption | exact Ne.symm (by assumption))) | (with_reducible apply Same.get (by assumption))); done)))
  | ((with_reducible apply q_dNInS); (focus ((repeat first | (with_reducible exact upd_same) | (with_reducible assumption) | (with_reducible apply upd_new (by assumption)) | (with_reducible apply upd_other (by first | assumption | exact Ne.symm (by assumption))) | (with_reducible refine' Kp.get (by assumption) ?_ (by first | assumption | exact Ne.symm (by assumption))) | (with_reducible apply Same.get (by assumption))); done)))
  | ((with_reducible apply q_dInI); (focus ((repeat first | (with_reducible exact upd_same) | (with_reducible assumption) | (with_reducible apply upd_new (by assumption)) | (with_reducible apply upd_other (by first | assumption | exact Ne.symm (by assumption))) | (with_reducible refine' Kp.get (by assumption) ?_ (by first | assumption | exact Ne.symm (by assumption))) | (with_reducible apply Same.get (by assumption))); done)))
  | ((with_reducible apply q_dNInI); (focus ((repeat first | (with_reducible exact upd_same) | (with_reducible assumption) | (with_reducible apply upd_new (by assumption)) | (with_reducible apply upd_other (by first | assumption | exact Ne.symm (by assumption))) | (with_reducible refine' Kp.get (by assumption) ?_ (by first | assumption | exact Ne.symm (by assumption))) | (with_reducible apply Same.get (by assumption))); done)))
  | ((with_reducible apply q_bmL); (focus ((repeat first | (with_reducible exact upd_same) | (with_reducible assumption) | (with_reducible apply upd_new (by assumption)) | (with_reducible apply upd_other (by first | assumption | exact Ne.symm (by assumption))) | (with_reducible refine' Kp.get (by assumption) ?_ (by first | assumption | exact Ne.symm (by assumption))) | (with_reducible apply Same.get (by assumption))); done)))
  | ((with_reducible apply q_bmL0); (focus ((repeat first | (with_reducible exact upd_same) | (with_reducible assumption) | (with_reducible apply upd_new (by assumption)) | (with_reducible apply upd_other (by first | assumption | exact Ne.symm (by assumption))) | (with_reducible refine' Kp.get (by assumption) ?_ (by first | assumption | exact Ne.symm (by assumption))) | (with_reducible apply Same.get (by assumption))); done)))
  | ((with_reducible apply q_ixLt); (focus ((repeat first | (with_reducible exact upd_same) | (with_reducible assumption) | (with_reducible apply upd_new (by assumption)) | (with_reducible apply upd_other (by first | assumption | exact Ne.symm (by assumption))) | (with_reducible refine' Kp.get (by assumption) ?_ (by first | assumption | exact Ne.symm (by assumption))) | (with_reducible apply Same.get (by assumption))); done)); (focus (exact rfl)))
  | ((with_reducible apply q_ixTt); (focus ((repeat first | (with_reducible exact upd_same) | (with_reducible assumption) | (with_reducible apply upd_new (by assumption)) | (with_reducible apply upd_other (by first | assumption | exact Ne.symm (by assumption))) | (with_reducible refine' Kp.get (by assumption) ?_ (by first | assumption | exact Ne.symm (by assumption))) | (with_reducible apply Same.get (by assumption))); done)); (focus (exact rfl)))
  | ((with_reducible apply q_lenLt); (focus ((repeat first | (with_reducible exact upd_same) | (with_reducible assumption) | (with_reducible apply upd_new (by assumption)) | (with_reducible apply upd_other (by first | assumption | exact Ne.symm (by assumption))) | (with_reducible refine' Kp.get (by assumption) ?_ (by first | assumption | exact Ne.symm (by assumption))) | (with_reducible apply Same.get (by assumption))); done)))
  | ((with_reducible apply q_lenTt); (focus ((repeat first | (with_reducible exact upd_same) | (with_reducible assumption) | (with_reducible apply upd_new (by assumption)) | (with_reducible apply upd_other (by first | assumption | exact Ne.symm (by assumption))) | (with_reducible refine' Kp.get (by assumption) ?_ (by first | assumption | exact Ne.symm (by assumption))) | (with_reducible apply Same.get (by assumption))); done)))
  | ((with_reducible apply q_append); (focus ((repeat first | (with_reducible exact upd_same) | (with_reducible assumption) | (with_reducible apply upd_new (by assumption)) | (with_reducible apply upd_other (by first | assumption | exact Ne.symm (by assumption))) | (with_reducible refine' Kp.get (by assumption) ?_ (by first | assumption | exact Ne.symm (by assumption))) | (with_reducible apply Same.get (by assumption))); done)); (focus ((first | (exact Nat.lt_of_ble_eq_true rfl) | (simp only [List.length_append, List.length_cons, List.length_nil, List.length_map]; exact small1000 (by omega))))))
  | ((with_reducible apply q_setL); (focus ((repeat first | (with_reducible exact upd_same) | (with_reducible assumption) | (with_reducible apply upd_new (by assumption)) | (with_reducible apply upd_other (by first | assumption | exact Ne.symm (by assumption))) | (with_reducible refine' Kp.get (by assumption) ?_ (by first | assumption | exact Ne.symm (by assumption))) | (with_reducible apply Same.get (by assumption))); done)); (focus (exact rfl)))
  | with_reducible refine q_ifNT ?_
  | with_reducible refine q_ifNF ?_
  | with_reducible refine q_andNT ?_
  | with_reducible refine q_andNF ?_
  | with_reducible refine q_orNT ?_
  | with_reducible refine q_orNF ?_
  | with_reducible refine q_bKNT ?_
  | with_reducible refine q_bKNF ?_))
/-! the law's own comparison: plain values, and lists of them -/
def scV : V → Bool
  | .non => true
  | .bl _ => true
  | .int _ => true
  | .str _ => true
  | _ => false
theorem scV_ty {K : PySem.W.Frag} {H : Hp} {x : V} (h : scV x = true) : (x = .non ∧ TyX K H x (.type "NoneType")) ∨ (∃ b, x = .bl b ∧ TyX K H x (.type "bool")) ∨ (∃ i, x = .int i ∧ TyX K H x (.type "int")) ∨ (∃ s, x = .str s ∧ TyX K H x (.type "str")) := by
  cases x with
  | non => exact .inl ⟨rfl, .base .non⟩
  | bl b => exact .inr (.inl ⟨b, rfl, .base (.bl b)⟩)
  | int i => exact .inr (.inr (.inl ⟨i, rfl, .base (.int i)⟩))
  | str s => exact .inr (.inr (.inr ⟨s, rfl, .base (.str s)⟩))
  | byt => cases h
  | flt => cases h
  | ref => cases h
  | ty => cases h
theorem q_is {K : PySem.W.Frag} {H : Hp} {Q : VK} {x : V} {t : String} {n : String} {b : Bool} (ht : TyX K H x (.type t)) (hk : kitB t n = some b) (k : Q (.bl b) H) : rIsi K [x, .ty n] H Q := q_isi ht (kit_ty hk) k
def sp_isint (K : PySem.W.Frag) : Sp := fun vs H Q _ => ∃ x : V, vs = [x] ∧ scV x = true ∧ Q (.bl (match x with | .int _ => true | _ => false)) H
def sp_same1 (K : PySem.W.Frag) : Sp := fun vs H Q _ => ∃ x : V, vs = [x, x] ∧ scV x = true ∧ Q (.bl true) H
def sp_same (K : PySem.W.Frag) : Sp := fun vs H Q _ => (∃ x : V, vs = [x, x] ∧ scV x = true ∧ Q (.bl true) H) ∨
  ∃ (a b : Addr) (xs : List V), vs = [.ref a, .ref b] ∧ H a = some (.lst xs) ∧ H b = some (.lst xs) ∧ xs.all scV = true ∧ xs.length ≤ 1000 ∧ ∀ H', Same H H' → Q (.bl true) H'
theorem dec_ref {b : Addr} : decide (V.ref b = V.non) = false := decide_eq_false (by intro z; cases z)
theorem all_true (n : Nat) : (List.replicate n true).all id = true := by
  induction n with
  | zero => rfl
  | succ n ih => rw [List.replicate_succ, List.all_cons, ih]; rfl
section
variable {P : Program} {w : World} {K : PySem.W.Frag} {mg : Str → Option Value} {base : Heap}
theorem ok_L_is_int (T : Txt K mg) : FnOk P w K mg base CX0 1 T.f_L_is_int T.d_L_is_int ["value"] (sp_isint K) := by
  refine T.F_L_is_int.ok sc_L_is_int (fun vs H Q E h => ?_) (fun cdv A outer s H vs Q E hr h => ?_)
  · obtain ⟨x, rfl, _⟩ := h; rfl
  · obtain ⟨x, rfl, hx, k⟩ := h
    refine ⟨_, (pss_one (ps_ret (pe_and (pe_callB call_isi (by rfl) T.z_isinstance boot_isinstance (pa_cons (pv 0) (pa_cons (pe_bltn (v := .ty "int") (by rfl) T.z_int boot_int rfl) pa_nil))) (pe_one (pe_not (pe_callB call_isi (by rfl) T.z_isinstance boot_isinstance (pa_cons (pv 0) (pa_cons (pe_bltn (v := .ty "bool") (by rfl) T.z_bool boot_bool rfl) pa_nil)))))))), ?_⟩
    (dsimp only [cxOf, Cx.nox, Cx.wish, L2.start, List.map, List.length, List.replicate, List.cons_append, List.nil_append, List.append_eq, Nat.reduceSub, Nat.reduceAdd])
    walk_at "my_rd"
    rcases scV_ty (K := K) (H := H) hx with ⟨rfl, ht⟩ | ⟨b, rfl, ht⟩ | ⟨i, rfl, ht⟩ | ⟨z, rfl, ht⟩
    · refine q_is ht (b := false) (by decide +kernel) ?_
      walk_at "my_rd"
      exact k
    · refine q_is ht (b := true) (by decide +kernel) ?_
      walk_at "my_rd"
      refine q_is ht (b := true) (by decide +kernel) ?_
      walk_at "my_rd"
      exact k
    · refine q_is ht (b := true) (by decide +kernel) ?_
      walk_at "my_rd"
      refine q_is ht (b := false) (by decide +kernel) ?_
      walk_at "my_rd"
      exact k
    · refine q_is ht (b := false) (by decide +kernel) ?_
      walk_at "my_rd"
      exact k
theorem ok_L_same1 (T : Txt K mg) : FnOk P w K mg base CX0 2 T.f_L_same T.d_L_same ["found", "value"] (sp_same1 K) := by
  refine T.F_L_same.ok sc_L_same (fun vs H Q E h => ?_) (fun cdv A outer s H vs Q E hr h => ?_)
  · obtain ⟨x, rfl, _⟩ := h; rfl
  · obtain ⟨x, rfl, hx, k⟩ := h
    refine ⟨_, (pss_cons (ps_if (pt_cmpR op_isN (pv 1) pe_non (nomark _)) (pss_one (ps_ret (pe_cmpR op_isN (pv 0) pe_non (nomark _)))) pss_nil)
      (pss_cons (ps_if (pt_val (pe_callB call_isi (by rfl) T.z_isinstance boot_isinstance (pa_cons (pv 1) (pa_cons (pe_bltn (v := .ty "bool") (by rfl) T.z_bool boot_bool rfl) pa_nil)))) (pss_one (ps_ret (pe_and (pe_callB call_isi (by rfl) T.z_isinstance boot_isinstance (pa_cons (pv 0) (pa_cons (pe_bltn (v := .ty "bool") (by rfl) T.z_bool boot_bool rfl) pa_nil))) (pe_one (pe_cmpR op_eq (pv 0) (pv 1) (nomark _)))))) pss_nil)
      (pss_cons (ps_if (pt_val (pe_callB call_isi (by rfl) T.z_isinstance boot_isinstance (pa_cons (pv 1) (pa_cons (pe_bltn (v := .ty "int") (by rfl) T.z_int boot_int rfl) pa_nil)))) (pss_one (ps_ret (pe_and (pe_call (ok_L_is_int T) (hr.mono (by decide)) (by rfl) T.g_L_is_int T.F_L_is_int.kp T.b_L_is_int .nil pass0 (pa_cons (pv 0) pa_nil)) (pe_one (pe_cmpR op_eq (pv 0) (pv 1) (nomark _)))))) pss_nil)
      (pss_cons (ps_if (pt_val (pe_callB call_isi (by rfl) T.z_isinstance boot_isinstance (pa_cons (pv 1) (pa_cons (pe_bltn (v := .ty "str") (by rfl) T.z_str boot_str rfl) pa_nil)))) (pss_one (ps_ret (pe_and (pe_callB call_isi (by rfl) T.z_isinstance boot_isinstance (pa_cons (pv 0) (pa_cons (pe_bltn (v := .ty "str") (by rfl) T.z_str boot_str rfl) pa_nil))) (pe_one (pe_cmpR op_eq (pv 0) (pv 1) (nomark _)))))) pss_nil)
      (pss_cons ps_never
      (pss_one ps_never)))))), ?_⟩
    (dsimp only [cxOf, Cx.nox, Cx.wish, L2.start, List.map, List.length, List.replicate, List.cons_append, List.nil_append, List.append_eq, Nat.reduceSub, Nat.reduceAdd])
    walk_at "my_rd"
    rcases scV_ty (K := K) (H := H) hx with ⟨rfl, ht⟩ | ⟨b, rfl, ht⟩ | ⟨i, rfl, ht⟩ | ⟨z, rfl, ht⟩
    · refine q_isN' ?_
      rw [decide_eq_true rfl]
      walk_at "my_rd"
      refine q_isN' ?_
      rw [decide_eq_true rfl]
      walk_at "my_rd"
      exact k
    · refine q_isN' ?_
      rw [decide_eq_false (show ¬ V.bl b = V.non by intro z; cases z)]
      walk_at "my_rd"
      refine q_is ht (b := true) (by decide +kernel) ?_
      walk_at "my_rd"
      refine q_is ht (b := true) (by decide +kernel) ?_
      walk_at "my_rd"
      refine q_eq rfl ?_
      rw [decide_eq_true rfl]
      walk_at "my_rd"
      exact k
    · refine q_isN' ?_
      rw [decide_eq_false (show ¬ V.int i = V.non by intro z; cases z)]
      walk_at "my_rd"
      refine q_is ht (b := false) (by decide +kernel) ?_
      walk_at "my_rd"
      refine q_is ht (b := true) (by decide +kernel) ?_
      walk_at "my_rd"
      refine ⟨.int i, rfl, rfl, ?_⟩
      walk_at "my_rd"
      rw [decide_eq_true rfl]
      walk_at "my_rd"
      exact k
    · refine q_isN' ?_
      rw [decide_eq_false (show ¬ V.str z = V.non by intro z; cases z)]
      walk_at "my_rd"
      refine q_is ht (b := false) (by decide +kernel) ?_
      walk_at "my_rd"
      refine q_is ht (b := false) (by decide +kernel) ?_
      walk_at "my_rd"
      refine q_is ht (b := true) (by decide +kernel) ?_
      walk_at "my_rd"
      refine q_is ht (b := true) (by decide +kernel) ?_
      walk_at "my_rd"
      rw [decide_eq_true rfl]
      walk_at "my_rd"
      exact k
theorem ok_L_same (T : Txt K mg) : FnOk P w K mg base CX0 3 T.f_L_same T.d_L_same ["found", "value"] (sp_same K) := by
  refine T.F_L_same.ok sc_L_same (fun vs H Q E h => ?_) (fun cdv A outer s H vs Q E hr h => ?_)
  · rcases h with ⟨x, rfl, _⟩ | ⟨a, b, xs, rfl, _⟩ <;> rfl
  · rcases h with ⟨x, rfl, hx, k⟩ | ⟨a, b, xs, rfl, ha, hb, hxs, hl, k⟩
    · refine ⟨_, (pss_cons (ps_if (pt_cmpR op_isN (pv 1) pe_non (nomark _)) (pss_one (ps_ret (pe_cmpR op_isN (pv 0) pe_non (nomark _)))) pss_nil)
      (pss_cons (ps_if (pt_val (pe_callB call_isi (by rfl) T.z_isinstance boot_isinstance (pa_cons (pv 1) (pa_cons (pe_bltn (v := .ty "bool") (by rfl) T.z_bool boot_bool rfl) pa_nil)))) (pss_one (ps_ret (pe_and (pe_callB call_isi (by rfl) T.z_isinstance boot_isinstance (pa_cons (pv 0) (pa_cons (pe_bltn (v := .ty "bool") (by rfl) T.z_bool boot_bool rfl) pa_nil))) (pe_one (pe_cmpR op_eq (pv 0) (pv 1) (nomark _)))))) pss_nil)
      (pss_cons (ps_if (pt_val (pe_callB call_isi (by rfl) T.z_isinstance boot_isinstance (pa_cons (pv 1) (pa_cons (pe_bltn (v := .ty "int") (by rfl) T.z_int boot_int rfl) pa_nil)))) (pss_one (ps_ret (pe_and (pe_call (ok_L_is_int T) (hr.mono (by decide)) (by rfl) T.g_L_is_int T.F_L_is_int.kp T.b_L_is_int .nil pass0 (pa_cons (pv 0) pa_nil)) (pe_one (pe_cmpR op_eq (pv 0) (pv 1) (nomark _)))))) pss_nil)
      (pss_cons (ps_if (pt_val (pe_callB call_isi (by rfl) T.z_isinstance boot_isinstance (pa_cons (pv 1) (pa_cons (pe_bltn (v := .ty "str") (by rfl) T.z_str boot_str rfl) pa_nil)))) (pss_one (ps_ret (pe_and (pe_callB call_isi (by rfl) T.z_isinstance boot_isinstance (pa_cons (pv 0) (pa_cons (pe_bltn (v := .ty "str") (by rfl) T.z_str boot_str rfl) pa_nil))) (pe_one (pe_cmpR op_eq (pv 0) (pv 1) (nomark _)))))) pss_nil)
      (pss_cons ps_never
      (pss_one ps_never)))))), ?_⟩
      (dsimp only [cxOf, Cx.nox, Cx.wish, L2.start, List.map, List.length, List.replicate, List.cons_append, List.nil_append, List.append_eq, Nat.reduceSub, Nat.reduceAdd])
      walk_at "my_rd"
      rcases scV_ty (K := K) (H := H) hx with ⟨rfl, ht⟩ | ⟨b, rfl, ht⟩ | ⟨i, rfl, ht⟩ | ⟨z, rfl, ht⟩
      · refine q_isN' ?_
        rw [decide_eq_true rfl]
        walk_at "my_rd"
        refine q_isN' ?_
        rw [decide_eq_true rfl]
        walk_at "my_rd"
        exact k
      · refine q_isN' ?_
        rw [decide_eq_false (show ¬ V.bl b = V.non by intro z; cases z)]
        walk_at "my_rd"
        refine q_is ht (b := true) (by decide +kernel) ?_
        walk_at "my_rd"
        refine q_is ht (b := true) (by decide +kernel) ?_
        walk_at "my_rd"
        refine q_eq rfl ?_
        rw [decide_eq_true rfl]
        walk_at "my_rd"
        exact k
      · refine q_isN' ?_
        rw [decide_eq_false (show ¬ V.int i = V.non by intro z; cases z)]
        walk_at "my_rd"
        refine q_is ht (b := false) (by decide +kernel) ?_
        walk_at "my_rd"
        refine q_is ht (b := true) (by decide +kernel) ?_
        walk_at "my_rd"
        refine ⟨.int i, rfl, rfl, ?_⟩
        walk_at "my_rd"
        rw [decide_eq_true rfl]
        walk_at "my_rd"
        exact k
      · refine q_isN' ?_
        rw [decide_eq_false (show ¬ V.str z = V.non by intro z; cases z)]
        walk_at "my_rd"
        refine q_is ht (b := false) (by decide +kernel) ?_
        walk_at "my_rd"
        refine q_is ht (b := false) (by decide +kernel) ?_
        walk_at "my_rd"
        refine q_is ht (b := true) (by decide +kernel) ?_
        walk_at "my_rd"
        refine q_is ht (b := true) (by decide +kernel) ?_
        walk_at "my_rd"
        rw [decide_eq_true rfl]
        walk_at "my_rd"
        exact k
    · refine ⟨_, (pss_cons (ps_if (pt_cmpR op_isN (pv 1) pe_non (nomark _)) (pss_one (ps_ret (pe_cmpR op_isN (pv 0) pe_non (nomark _)))) pss_nil)
      (pss_cons (ps_if (pt_val (pe_callB call_isi (by rfl) T.z_isinstance boot_isinstance (pa_cons (pv 1) (pa_cons (pe_bltn (v := .ty "bool") (by rfl) T.z_bool boot_bool rfl) pa_nil)))) (pss_one (ps_ret (pe_and (pe_callB call_isi (by rfl) T.z_isinstance boot_isinstance (pa_cons (pv 0) (pa_cons (pe_bltn (v := .ty "bool") (by rfl) T.z_bool boot_bool rfl) pa_nil))) (pe_one (pe_cmpR op_eq (pv 0) (pv 1) (nomark _)))))) pss_nil)
      (pss_cons (ps_if (pt_val (pe_callB call_isi (by rfl) T.z_isinstance boot_isinstance (pa_cons (pv 1) (pa_cons (pe_bltn (v := .ty "int") (by rfl) T.z_int boot_int rfl) pa_nil)))) (pss_one (ps_ret (pe_and (pe_call (ok_L_is_int T) (hr.mono (by decide)) (by rfl) T.g_L_is_int T.F_L_is_int.kp T.b_L_is_int .nil pass0 (pa_cons (pv 0) pa_nil)) (pe_one (pe_cmpR op_eq (pv 0) (pv 1) (nomark _)))))) pss_nil)
      (pss_cons (ps_if (pt_val (pe_callB call_isi (by rfl) T.z_isinstance boot_isinstance (pa_cons (pv 1) (pa_cons (pe_bltn (v := .ty "str") (by rfl) T.z_str boot_str rfl) pa_nil)))) (pss_one (ps_ret (pe_and (pe_callB call_isi (by rfl) T.z_isinstance boot_isinstance (pa_cons (pv 0) (pa_cons (pe_bltn (v := .ty "str") (by rfl) T.z_str boot_str rfl) pa_nil))) (pe_one (pe_cmpR op_eq (pv 0) (pv 1) (nomark _)))))) pss_nil)
      (pss_cons (ps_if (PW.pt (pw_or (pt_cmpR op_ne (pe_callB call_isi (by rfl) T.z_isinstance boot_isinstance (pa_cons (pv 1) (pa_cons (pe_bltn (v := .ty "list") (by rfl) T.z_list boot_list rfl) pa_nil))) (pe_callB call_isi (by rfl) T.z_isinstance boot_isinstance (pa_cons (pv 0) (pa_cons (pe_bltn (v := .ty "list") (by rfl) T.z_list boot_list rfl) pa_nil))) (nomark _)) (pw_or1 (pt_cmpR op_ne (pe_callB call_isi (by rfl) T.z_isinstance boot_isinstance (pa_cons (pv 1) (pa_cons (pe_bltn (v := .ty "tuple") (by rfl) T.z_tuple boot_tuple rfl) pa_nil))) (pe_callB call_isi (by rfl) T.z_isinstance boot_isinstance (pa_cons (pv 0) (pa_cons (pe_bltn (v := .ty "tuple") (by rfl) T.z_tuple boot_tuple rfl) pa_nil))) (nomark _))))) (pss_one (ps_ret pe_bl)) pss_nil)
      (pss_one (ps_ret (pe_and (pe_cmpR op_eq (pe_callB cq_len (by rfl) T.z_len boot_len (pa_cons (pv 0) pa_nil)) (pe_callB cq_len (by rfl) T.z_len boot_len (pa_cons (pv 1) pa_nil)) (nomark _)) (pe_one (pe_callB (cr_all rfl) (by rfl) T.z_all boot_all (pa_cons (pe_lc (own := [("k", 2)]) (g := (gName 2)) (tt := tYes) (te := (tCall (sp_same1 K) [] E0 (tCons (tOp (rIxL K) (tVar 0) (tVar 2)) (tCons (tOp (rIxL K) (tVar 1) (tVar 2)) tNil)))) rfl sc_L_same.nd (pi_range1 (by rfl) T.z_range (pa_cons (pe_callB cq_len (by rfl) T.z_len boot_len (pa_cons (pv 1) pa_nil)) pa_nil)) (blkOk_by (own := [("k", 2)]) (N := ["found", "value", "k"]) (sc := defScope s_L_same) (by decide +kernel)) (fun _ _ _ _ _ => (pg_name (i := 2) sc_L_same.nd rfl (Or.inl rfl))) (fun _ _ _ _ _ => pts_nil) (fun _ _ _ _ _ => (pe_call (ok_L_same1 T) (hr.mono (by decide)) (by rfl) T.g_L_same T.F_L_same.kp T.b_L_same .nil pass0 (pa_cons (pe_ix ix_list (pv 0) (pv 2) (fun _ _ => rfl)) (pa_cons (pe_ix ix_list (pv 1) (pv 2) (fun _ _ => rfl)) pa_nil))))) pa_nil))))))))))), ?_⟩
      (dsimp only [cxOf, Cx.nox, Cx.wish, L2.start, List.map, List.length, List.replicate, List.cons_append, List.nil_append, List.append_eq, Nat.reduceSub, Nat.reduceAdd])
      walk_at "my_rd"
      have ta : TyX K H (.ref a) (.type "list") := .base (.lst ha)
      have tb : TyX K H (.ref b) (.type "list") := .base (.lst hb)
      refine q_isN' ?_
      rw [dec_ref]
      walk_at "my_rd"
      refine q_is tb (b := false) (by decide +kernel) ?_
      walk_at "my_rd"
      refine q_is tb (b := false) (by decide +kernel) ?_
      walk_at "my_rd"
      refine q_is tb (b := false) (by decide +kernel) ?_
      walk_at "my_rd"
      refine q_is tb (b := true) (by decide +kernel) ?_
      walk_at "my_rd"
      refine q_is ta (b := true) (by decide +kernel) ?_
      refine q_neBs ?_
      walk_at "my_rd"
      refine q_is tb (b := false) (by decide +kernel) ?_
      walk_at "my_rd"
      refine q_is ta (b := false) (by decide +kernel) ?_
      refine q_neBs ?_
      walk_at "my_rd"
      rw [decide_eq_true rfl]
      walk_at "my_rd"
      refine q_lcR ⟨by omega, by omega⟩ (fun D nD => ⟨fun i H2 => Same H H2 ∧ H2 D = some (.lst ((List.replicate i true).map V.bl)), ⟨Same.new (Same.refl _) nD, upd_same⟩, ?_, ?_⟩)
      · rintro i H2 hi ⟨sm, hD⟩
        have hi2 : i < xs.length := by omega
        walk_at "my_rd"
        refine ⟨rfl, ?_⟩
        walk_at "my_rd"
        refine q_ixLt (sm _ _ ha) (at_int rfl (List.getElem?_eq_getElem hi2)) ?_
        walk_at "my_rd"
        refine q_ixLt (sm _ _ hb) (at_int rfl (List.getElem?_eq_getElem hi2)) ?_
        walk_at "my_rd"
        refine ⟨_, rfl, List.all_eq_true.mp hxs _ (List.getElem_mem hi2), ?_⟩
        refine q_accK hD (by rw [List.length_map, List.length_replicate]; exact small1000 (by omega)) ⟨Same.new sm nD, ?_⟩
        rw [upd_same, List.replicate_succ', List.map_append]
        rfl
      · rintro H2 ⟨sm, hD⟩
        walk_at "my_rd"
        refine q_all (sqL hD) ?_
        walk_at "my_rd"
        rw [all_true]
        exact k _ sm
end

/-! the law's own call of a sheet -/
def rfd (S : Sh) (kd : Int) (a : Str) (t : TokR) (i : Int) : Prop :=
  (kd = 0 ∧ heldT S.bal t.name a < i) ∨ (kd = 1 ∧ heldT S.bal t.name a < i * t.scale) ∨ (kd = 2 ∧ getRow S.vau t.name < i * t.scale) ∨ (kd = 4 ∧ heldT S.bal t.name a < i) ∨ (kd = 5 ∧ heldT S.bal t.name a < i) ∨ (kd = 6 ∧ heldT S.bon t.name a < i)
/-- what a call leaves -/
inductive Nxt (a b : Str) (t : TokR) (i : Int) : Int → Sh → Sh → Prop
  | move {S S' : Sh} : ¬ heldT S.bal t.name a < i → S'.bal = putT (putT S.bal t.name a (-i)) t.name b i → S'.bon = S.bon → S'.vau = S.vau → Nxt a b t i 0 S S'
  | lock {S S' : Sh} : ¬ heldT S.bal t.name a < i * t.scale → S'.bal = putT S.bal t.name a (-(i * t.scale)) → S'.bon = S.bon → S'.vau = putRow S.vau t.name (getRow S.vau t.name + i * t.scale) → Nxt a b t i 1 S S'
  | rel {S S' : Sh} : ¬ getRow S.vau t.name < i * t.scale → S'.bal = putT S.bal t.name a (i * t.scale) → S'.bon = S.bon → S'.vau = putRow S.vau t.name (getRow S.vau t.name - i * t.scale) → Nxt a b t i 2 S S'
  | mint {S S' : Sh} : S'.bal = putT S.bal t.name a i → S'.bon = S.bon → S'.vau = S.vau → Nxt a b t i 3 S S'
  | burn {S S' : Sh} : ¬ heldT S.bal t.name a < i → S'.bal = putT S.bal t.name a (-i) → S'.bon = S.bon → S'.vau = S.vau → Nxt a b t i 4 S S'
  | bond {S S' : Sh} : ¬ heldT S.bal t.name a < i → S'.bal = putT S.bal t.name a (-i) → S'.bon = putT S.bon t.name a i → S'.vau = S.vau → Nxt a b t i 5 S S'
  | unbond {S S' : Sh} : ¬ heldT S.bon t.name a < i → S'.bal = putT S.bal t.name a i → S'.bon = putT S.bon t.name a (-i) → S'.vau = S.vau → Nxt a b t i 6 S S'
def sp_Ldo (C Cc : Addr) : Sp := fun vs H Q _ => ∃ (x g : Addr) (S : Sh) (c : Parts) (a b : Str) (t : TokR) (kd i : Int), vs = [.ref x, .int kd, .str a, .str b, .str t.name, .int i] ∧ ShAt C H x S ∧ CfgAt Cc c g H S.cf ∧ t ∈ c.toks ∧ (0 ≤ t.scale ∧ t.scale ≤ 1000) ∧ TabB 998 S.bal ∧ TabB 999 S.bon ∧ S.vau.length ≤ 999 ∧ (0 ≤ kd ∧ kd ≤ 6) ∧
  (rfd S kd a t i → ∀ H', Same H H' → Q (.bl true) H') ∧
  (∀ (H' : Hp) (S' : Sh), Nxt a b t i kd S S' → ShTo C H x S H' S' → Q .non H')
section
variable {P : Program} {w : World} {K : PySem.W.Frag} {mg : Str → Option Value} {base : Heap}
theorem ok_L_do (T : Txt K mg) : FnOk P w K mg base CX0 4 T.f_L_do T.d_L_do ["sheet", "kind", "one", "other", "token", "amount"] (sp_Ldo T.C_Sheet T.C_Config) := by
  refine T.F_L_do.ok sc_L_do (fun vs H Q E h => ?_) (fun cdv A outer s H vs Q E hr h => ?_)
  · obtain ⟨x, g, S, c, a, b, t, kd, i, rfl, _⟩ := h; rfl
  · obtain ⟨x, g, S, c, a, b, t, kd, i, rfl, hS, hC, ht, hsc, hB, hD, hV, ⟨hk0, hk6⟩, kE, kQ⟩ := h
    obtain ⟨dx, fs, ho, h2, h3, h4, h5, h6, h7, h8⟩ := hS.ex
    have hB9 : TabB 999 S.bal := hB.mono (by omega)
    refine ⟨_, (pss_one (ps_try_as (i := 6) rfl rfl sc_L_do.nd rfl rfl ⟨rfl, by decide, .inl T.g_BridgeError⟩ takes0 (fun W pn xe tk _ => (pss_cons (ps_if (pt_cmpR op_eq (pv 1) pe_int (nomark _)) (pss_one (ps_ret (pe_methA (pv 0) T.cl_Sheet T.m_Sheet_move (ok_Sheet_move T) (hr.mono (by decide)) T.b_Sheet_move (fun σ => passAt tk σ) (pa_cons (pv 2) (pa_cons (pv 3) (pa_cons (pv 4) (pa_cons (pv 5) pa_nil))))))) pss_nil)
      (pss_cons (ps_if (pt_cmpR op_eq (pv 1) pe_int (nomark _)) (pss_one (ps_ret (pe_methA (pv 0) T.cl_Sheet T.m_Sheet_lock (ok_Sheet_lock T) (hr.mono (by decide)) T.b_Sheet_lock (fun σ => passAt tk σ) (pa_cons (pv 2) (pa_cons (pv 4) (pa_cons (pv 5) pa_nil)))))) pss_nil)
      (pss_cons (ps_if (pt_cmpR op_eq (pv 1) pe_int (nomark _)) (pss_one (ps_ret (pe_methA (pv 0) T.cl_Sheet T.m_Sheet_release (ok_Sheet_release T) (hr.mono (by decide)) T.b_Sheet_release (fun σ => passAt tk σ) (pa_cons (pv 2) (pa_cons (pv 4) (pa_cons (pv 5) pa_nil)))))) pss_nil)
      (pss_cons (ps_if (pt_cmpR op_eq (pv 1) pe_int (nomark _)) (pss_one (ps_ret (pe_meth (pv 0) T.cl_Sheet T.m_Sheet_mint (ok_Sheet_mint T) (hr.mono (by decide)) T.b_Sheet_mint .nil pass0 (pa_cons (pv 2) (pa_cons (pv 4) (pa_cons (pv 5) pa_nil)))))) pss_nil)
      (pss_cons (ps_if (pt_cmpR op_eq (pv 1) pe_int (nomark _)) (pss_one (ps_ret (pe_methA (pv 0) T.cl_Sheet T.m_Sheet_bond (ok_Sheet_bond T) (hr.mono (by decide)) T.b_Sheet_bond (fun σ => passAt tk σ) (pa_cons (pv 2) (pa_cons (pv 4) (pa_cons (pv 5) pa_nil)))))) pss_nil)
      (pss_cons (ps_if (pt_cmpR op_eq (pv 1) pe_int (nomark _)) (pss_one (ps_ret (pe_methA (pv 0) T.cl_Sheet T.m_Sheet_unbond (ok_Sheet_unbond T) (hr.mono (by decide)) T.b_Sheet_unbond (fun σ => passAt tk σ) (pa_cons (pv 2) (pa_cons (pv 4) (pa_cons (pv 5) pa_nil)))))) pss_nil)
      (pss_one (ps_ret (pe_methA (pv 0) T.cl_Sheet T.m_Sheet_burn (ok_Sheet_burn T) (hr.mono (by decide)) T.b_Sheet_burn (fun σ => passAt tk σ) (pa_cons (pv 2) (pa_cons (pv 4) (pa_cons (pv 5) pa_nil)))))))))))))
      (fun a oe cls d pn hz hf => (pss_cls (C := T.C_NotEnoughBalance) hz fun hz => (pss_one (ps_ret (pe_callB (call_isE (T.ec_NotEnoughBalance) hz hf) (by rfl) T.z_isinstance boot_isinstance (pa_cons (pv 6) (pa_cons (pe_glob (v := .ref T.C_NotEnoughBalance) (by rfl) T.g_NotEnoughBalance rfl) pa_nil))))))))), ?_⟩
    (dsimp only [cxOf, Cx.nox, Cx.wish, L2.start, List.map, List.length, List.replicate, List.cons_append, List.nil_append, List.append_eq, Nat.reduceSub, Nat.reduceAdd])
    walk_at "my_rd"
    refine q_if2 (fun h => ?_) (fun h0 => ?_)
    · have h := dec_t h
      subst h
      walk_at "my_rd"
      refine q_methA ?_
      walk_at "my_rd"
      refine q_methAK ho (h7 _ (by decide +kernel)) ?_
      walk_at "my_rd"
      refine ⟨x, S, a, b, t.name, i, rfl, hS, hB, fun hlt H1 sm => ⟨true, T.ex_NotEnoughBalance, fun _ e he => ⟨⟨rfl, rfl⟩, ?_⟩, fun q => nomatch q⟩, fun hlt H1 S1 st e1 e2 e3 => ?_⟩
      · walk_at "my_rd"
        refine q_isE T.hi_NotEnoughBalance ?_
        walk_at "my_rd"
        exact kE (.inl ⟨rfl, hlt⟩) H1 sm
      · walk_at "my_rd"
        exact kQ H1 S1 (.move hlt e1 e2 e3) st
    · have h0 := dec_f h0
      walk_at "my_rd"
      refine q_if2 (fun h => ?_) (fun h1 => ?_)
      · have h := dec_t h
        subst h
        walk_at "my_rd"
        refine q_methA ?_
        walk_at "my_rd"
        refine q_methAK ho (h7 _ (by decide +kernel)) ?_
        walk_at "my_rd"
        refine ⟨x, g, S, c, a, t, i, rfl, hS, hC, ht, hsc, hB9, hV, fun hlt H1 sm => ⟨true, T.ex_NotEnoughBalance, fun _ e he => ⟨⟨rfl, rfl⟩, ?_⟩, fun q => nomatch q⟩, fun hlt H1 S1 st e1 e2 e3 => ?_⟩
        · walk_at "my_rd"
          refine q_isE T.hi_NotEnoughBalance ?_
          walk_at "my_rd"
          exact kE (.inr (.inl ⟨rfl, hlt⟩)) H1 sm
        · walk_at "my_rd"
          exact kQ H1 S1 (.lock hlt e1 e2 e3) st
      · have h1 := dec_f h1
        walk_at "my_rd"
        refine q_if2 (fun h => ?_) (fun h2 => ?_)
        · have h := dec_t h
          subst h
          walk_at "my_rd"
          refine q_methA ?_
          walk_at "my_rd"
          refine q_methAK ho (h7 _ (by decide +kernel)) ?_
          walk_at "my_rd"
          refine ⟨x, g, S, c, a, t, i, rfl, hS, hC, ht, hsc, hB9, hV, fun hlt H1 sm => ⟨true, T.ex_NotEnoughBalance, fun _ e he => ⟨⟨rfl, rfl⟩, ?_⟩, fun q => nomatch q⟩, fun hlt H1 S1 st e1 e2 e3 => ?_⟩
          · walk_at "my_rd"
            refine q_isE T.hi_NotEnoughBalance ?_
            walk_at "my_rd"
            exact kE (.inr (.inr (.inl ⟨rfl, hlt⟩))) H1 sm
          · walk_at "my_rd"
            exact kQ H1 S1 (.rel hlt e1 e2 e3) st
        · have h2 := dec_f h2
          walk_at "my_rd"
          refine q_if2 (fun h => ?_) (fun h3 => ?_)
          · have h := dec_t h
            subst h
            walk_at "my_rd"
            refine q_methK ho (h7 _ (by decide +kernel)) fun R hR => ?_
            walk_at "my_rd"
            refine hR _ _ ⟨x, S, a, t.name, i, rfl, hS, lt1000 hB9.len, lt1000 (hB9.row _), fun H1 bs hS1 hn kp => ?_⟩
            walk_at "my_rd"
            exact kQ _ { S with bal := putT S.bal t.name a i, bs := bs } (.mint rfl rfl rfl) (hS.toB (tb := putT S.bal t.name a i) (bs := bs) hS1.b hn kp)
          · have h3 := dec_f h3
            walk_at "my_rd"
            refine q_if2 (fun h => ?_) (fun h5 => ?_)
            · have h := dec_t h
              subst h
              walk_at "my_rd"
              refine q_methA ?_
              walk_at "my_rd"
              refine q_methAK ho (h7 _ (by decide +kernel)) ?_
              walk_at "my_rd"
              refine ⟨x, S, a, t.name, i, rfl, hS, hB9, hD, fun hlt H1 sm => ⟨true, T.ex_NotEnoughBalance, fun _ e he => ⟨⟨rfl, rfl⟩, ?_⟩, fun q => nomatch q⟩, fun hlt H1 S1 st e1 e2 e3 => ?_⟩
              · walk_at "my_rd"
                refine q_isE T.hi_NotEnoughBalance ?_
                walk_at "my_rd"
                exact kE (.inr (.inr (.inr (.inr (.inl ⟨rfl, hlt⟩))))) H1 sm
              · walk_at "my_rd"
                exact kQ H1 S1 (.bond hlt e1 e2 e3) st
            · have h5 := dec_f h5
              walk_at "my_rd"
              refine q_if2 (fun h => ?_) (fun h6 => ?_)
              · have h := dec_t h
                subst h
                walk_at "my_rd"
                refine q_methA ?_
                walk_at "my_rd"
                refine q_methAK ho (h7 _ (by decide +kernel)) ?_
                walk_at "my_rd"
                refine ⟨x, S, a, t.name, i, rfl, hS, hB9, hD, fun hlt H1 sm => ⟨true, T.ex_NotEnoughBalance, fun _ e he => ⟨⟨rfl, rfl⟩, ?_⟩, fun q => nomatch q⟩, fun hlt H1 S1 st e1 e2 e3 => ?_⟩
                · walk_at "my_rd"
                  refine q_isE T.hi_NotEnoughBalance ?_
                  walk_at "my_rd"
                  exact kE (.inr (.inr (.inr (.inr (.inr ⟨rfl, hlt⟩))))) H1 sm
                · walk_at "my_rd"
                  exact kQ H1 S1 (.unbond hlt e1 e2 e3) st
              · have h6 := dec_f h6
                walk_at "my_rd"
                obtain rfl : kd = 4 := by omega
                refine q_methA ?_
                walk_at "my_rd"
                refine q_methAK ho (h7 _ (by decide +kernel)) ?_
                walk_at "my_rd"
                refine ⟨x, S, a, t.name, i, rfl, hS, hB9, fun hlt H1 sm => ⟨true, T.ex_NotEnoughBalance, fun _ e he => ⟨⟨rfl, rfl⟩, ?_⟩, fun q => nomatch q⟩, fun hlt H1 S1 st e1 e2 e3 => ?_⟩
                · walk_at "my_rd"
                  refine q_isE T.hi_NotEnoughBalance ?_
                  walk_at "my_rd"
                  exact kE (.inr (.inr (.inr (.inl ⟨rfl, hlt⟩)))) H1 sm
                · walk_at "my_rd"
                  exact kQ H1 S1 (.burn hlt e1 e2 e3) st
end

/-! the law's own table -/
def rfdT (kvs : TTab) (kd : Int) (a : Str) (t : TokR) (i : Int) : Prop :=
  (kd = 0 ∧ tget kvs (kB a t.name) < i) ∨ (kd = 1 ∧ tget kvs (kB a t.name) < i * t.scale) ∨ (kd = 2 ∧ tget kvs (kB "" t.name) < i * t.scale) ∨ (kd = 4 ∧ tget kvs (kB a t.name) < i) ∨ (kd = 5 ∧ tget kvs (kB a t.name) < i) ∨ (kd = 6 ∧ tget kvs (kD a t.name) < i)
def tAdd (kvs : TTab) (k : List Key) (i : Int) : TTab := tput kvs k (tget kvs k + i)
def tSub (kvs : TTab) (k : List Key) (i : Int) : TTab := tput kvs k (tget kvs k - i)
inductive TNx (a b : Str) (t : TokR) (i : Int) (kvs : TTab) : Int → TTab → Prop
  | move : ¬ tget kvs (kB a t.name) < i → TNx a b t i kvs 0 (tAdd (tSub kvs (kB a t.name) i) (kB b t.name) i)
  | lock : ¬ tget kvs (kB a t.name) < i * t.scale → TNx a b t i kvs 1 (tAdd (tSub kvs (kB a t.name) (i * t.scale)) (kB "" t.name) (i * t.scale))
  | rel : ¬ tget kvs (kB "" t.name) < i * t.scale → TNx a b t i kvs 2 (tAdd (tSub kvs (kB "" t.name) (i * t.scale)) (kB a t.name) (i * t.scale))
  | mint : TNx a b t i kvs 3 (tAdd kvs (kB a t.name) i)
  | burn : ¬ tget kvs (kB a t.name) < i → TNx a b t i kvs 4 (tSub kvs (kB a t.name) i)
  | bond : ¬ tget kvs (kB a t.name) < i → TNx a b t i kvs 5 (tAdd (tSub kvs (kB a t.name) i) (kD a t.name) i)
  | unbond : ¬ tget kvs (kD a t.name) < i → TNx a b t i kvs 6 (tSub (tAdd kvs (kB a t.name) i) (kD a t.name) i)
theorem TInts.add {kvs : TTab} (h : TInts kvs) (k : List Key) (i : Int) : TInts (tAdd kvs k i) := h.put _ _
theorem TInts.sub {kvs : TTab} (h : TInts kvs) (k : List Key) (i : Int) : TInts (tSub kvs k i) := h.put _ _
theorem tAdd_len (kvs : TTab) (k : List Key) (i : Int) : (tAdd kvs k i).length ≤ kvs.length + 1 := tput_len _ _ _
theorem tSub_len (kvs : TTab) (k : List Key) (i : Int) : (tSub kvs k i).length ≤ kvs.length + 1 := tput_len _ _ _
def sp_Ldue : Sp := fun vs H Q _ => ∃ (d tk : Addr) (kvs : TTab) (a b : Str) (t : TokR) (kd i : Int), vs = [.ref d, .int kd, .str a, .str b, .ref tk, .int i] ∧ H d = some (.dT kvs) ∧ TInts kvs ∧ kvs.length ≤ 900 ∧ H tk = some (.tup t.v) ∧ (0 ≤ t.scale ∧ t.scale ≤ 1000) ∧ (0 ≤ kd ∧ kd ≤ 6) ∧
  (rfdT kvs kd a t i → ∀ H', Same H H' → Q (.bl true) H') ∧
  (∀ (H' : Hp) (kvs' : TTab), TNx a b t i kvs kd kvs' → H' d = some (.dT kvs') → Kp d H H' → Q .non H')
theorem dT_ne {H : Hp} {d e : Addr} {kvs : TTab} {xs : List V} (h : H d = some (.dT kvs)) (k : H e = some (.tup xs)) : e ≠ d := ne_of k h (by intro z; cases z)
section
variable {P : Program} {w : World} {K : PySem.W.Frag} {mg : Str → Option Value} {base : Heap}
theorem ok_L_due (T : Txt K mg) : FnOk P w K mg base CX0 1 T.f_L_due T.d_L_due ["table", "kind", "one", "other", "token", "amount"] sp_Ldue := by
  refine T.F_L_due.ok sc_L_due (fun vs H Q E h => ?_) (fun cdv A outer s H vs Q E hr h => ?_)
  · obtain ⟨d, tk, kvs, a, b, t, kd, i, rfl, _⟩ := h; rfl
  · obtain ⟨d, tk, kvs, a, b, t, kd, i, rfl, hT, hI, hl, hk, ⟨hs0, hs1⟩, ⟨hk0, hk6⟩, kE, kQ⟩ := h
    have hu := hu_of hr
    have hdt : tk ≠ d := dT_ne hT hk
    refine ⟨_, (pss_cons (ps_set (i := 6) sc_L_due.nd rfl (Or.inl rfl) (pe_op op_mul (pv 5) (pe_ix ix_tup (pv 4) pe_int (fun _ _ => rfl))))
      (pss_cons (ps_if (PW.pt (pw_and (pt_cmpR op_eq (pv 1) pe_int (nomark _)) (pw_and1 (pt_cmpR op_ge (pe_dget2 hu (pv 0) (pe_tup (pa_cons (pv 2) (pa_cons (pe_ix ix_tup (pv 4) pe_int (fun _ _ => rfl)) pa_nil))) pe_int ⟨rfl, rfl, rfl, rfl⟩) (pv 5) (nomark _))))) (pss_cons (ps_dput hu (pv 0) (pe_tup (pa_cons (pv 2) (pa_cons (pe_ix ix_tup (pv 4) pe_int (fun _ _ => rfl)) pa_nil))) (pe_op op_sub (pe_dget2 hu (pv 0) (pe_tup (pa_cons (pv 2) (pa_cons (pe_ix ix_tup (pv 4) pe_int (fun _ _ => rfl)) pa_nil))) pe_int ⟨rfl, rfl, rfl, rfl⟩) (pv 5)) rfl)
      (pss_one (ps_dput hu (pv 0) (pe_tup (pa_cons (pv 3) (pa_cons (pe_ix ix_tup (pv 4) pe_int (fun _ _ => rfl)) pa_nil))) (pe_op op_add (pe_dget2 hu (pv 0) (pe_tup (pa_cons (pv 3) (pa_cons (pe_ix ix_tup (pv 4) pe_int (fun _ _ => rfl)) pa_nil))) pe_int ⟨rfl, rfl, rfl, rfl⟩) (pv 5)) rfl))) (pss_one (ps_if (PW.pt (pw_and (pt_cmpR op_eq (pv 1) pe_int (nomark _)) (pw_and1 (pt_cmpR op_ge (pe_dget2 hu (pv 0) (pe_tup (pa_cons (pv 2) (pa_cons (pe_ix ix_tup (pv 4) pe_int (fun _ _ => rfl)) pa_nil))) pe_int ⟨rfl, rfl, rfl, rfl⟩) (pv 6) (nomark _))))) (pss_cons (ps_dput hu (pv 0) (pe_tup (pa_cons (pv 2) (pa_cons (pe_ix ix_tup (pv 4) pe_int (fun _ _ => rfl)) pa_nil))) (pe_op op_sub (pe_dget2 hu (pv 0) (pe_tup (pa_cons (pv 2) (pa_cons (pe_ix ix_tup (pv 4) pe_int (fun _ _ => rfl)) pa_nil))) pe_int ⟨rfl, rfl, rfl, rfl⟩) (pv 6)) rfl)
      (pss_one (ps_dput hu (pv 0) (pe_tup (pa_cons pe_str (pa_cons (pe_ix ix_tup (pv 4) pe_int (fun _ _ => rfl)) pa_nil))) (pe_op op_add (pe_dget2 hu (pv 0) (pe_tup (pa_cons pe_str (pa_cons (pe_ix ix_tup (pv 4) pe_int (fun _ _ => rfl)) pa_nil))) pe_int ⟨rfl, rfl, rfl, rfl⟩) (pv 6)) rfl))) (pss_one (ps_if (PW.pt (pw_and (pt_cmpR op_eq (pv 1) pe_int (nomark _)) (pw_and1 (pt_cmpR op_ge (pe_dget2 hu (pv 0) (pe_tup (pa_cons pe_str (pa_cons (pe_ix ix_tup (pv 4) pe_int (fun _ _ => rfl)) pa_nil))) pe_int ⟨rfl, rfl, rfl, rfl⟩) (pv 6) (nomark _))))) (pss_cons (ps_dput hu (pv 0) (pe_tup (pa_cons pe_str (pa_cons (pe_ix ix_tup (pv 4) pe_int (fun _ _ => rfl)) pa_nil))) (pe_op op_sub (pe_dget2 hu (pv 0) (pe_tup (pa_cons pe_str (pa_cons (pe_ix ix_tup (pv 4) pe_int (fun _ _ => rfl)) pa_nil))) pe_int ⟨rfl, rfl, rfl, rfl⟩) (pv 6)) rfl)
      (pss_one (ps_dput hu (pv 0) (pe_tup (pa_cons (pv 2) (pa_cons (pe_ix ix_tup (pv 4) pe_int (fun _ _ => rfl)) pa_nil))) (pe_op op_add (pe_dget2 hu (pv 0) (pe_tup (pa_cons (pv 2) (pa_cons (pe_ix ix_tup (pv 4) pe_int (fun _ _ => rfl)) pa_nil))) pe_int ⟨rfl, rfl, rfl, rfl⟩) (pv 6)) rfl))) (pss_one (ps_if (pt_cmpR op_eq (pv 1) pe_int (nomark _)) (pss_one (ps_dput hu (pv 0) (pe_tup (pa_cons (pv 2) (pa_cons (pe_ix ix_tup (pv 4) pe_int (fun _ _ => rfl)) pa_nil))) (pe_op op_add (pe_dget2 hu (pv 0) (pe_tup (pa_cons (pv 2) (pa_cons (pe_ix ix_tup (pv 4) pe_int (fun _ _ => rfl)) pa_nil))) pe_int ⟨rfl, rfl, rfl, rfl⟩) (pv 5)) rfl)) (pss_one (ps_if (PW.pt (pw_and (pt_cmpR op_eq (pv 1) pe_int (nomark _)) (pw_and1 (pt_cmpR op_ge (pe_dget2 hu (pv 0) (pe_tup (pa_cons (pv 2) (pa_cons (pe_ix ix_tup (pv 4) pe_int (fun _ _ => rfl)) pa_nil))) pe_int ⟨rfl, rfl, rfl, rfl⟩) (pv 5) (nomark _))))) (pss_one (ps_dput hu (pv 0) (pe_tup (pa_cons (pv 2) (pa_cons (pe_ix ix_tup (pv 4) pe_int (fun _ _ => rfl)) pa_nil))) (pe_op op_sub (pe_dget2 hu (pv 0) (pe_tup (pa_cons (pv 2) (pa_cons (pe_ix ix_tup (pv 4) pe_int (fun _ _ => rfl)) pa_nil))) pe_int ⟨rfl, rfl, rfl, rfl⟩) (pv 5)) rfl)) (pss_one (ps_if (PW.pt (pw_and (pt_cmpR op_eq (pv 1) pe_int (nomark _)) (pw_and1 (pt_cmpR op_ge (pe_dget2 hu (pv 0) (pe_tup (pa_cons (pv 2) (pa_cons (pe_ix ix_tup (pv 4) pe_int (fun _ _ => rfl)) pa_nil))) pe_int ⟨rfl, rfl, rfl, rfl⟩) (pv 5) (nomark _))))) (pss_cons (ps_dput hu (pv 0) (pe_tup (pa_cons (pv 2) (pa_cons (pe_ix ix_tup (pv 4) pe_int (fun _ _ => rfl)) pa_nil))) (pe_op op_sub (pe_dget2 hu (pv 0) (pe_tup (pa_cons (pv 2) (pa_cons (pe_ix ix_tup (pv 4) pe_int (fun _ _ => rfl)) pa_nil))) pe_int ⟨rfl, rfl, rfl, rfl⟩) (pv 5)) rfl)
      (pss_one (ps_dput hu (pv 0) (pe_tup (pa_cons (pv 2) (pa_cons (pe_ix ix_tup (pv 4) pe_int (fun _ _ => rfl)) (pa_cons pe_int pa_nil)))) (pe_op op_add (pe_dget2 hu (pv 0) (pe_tup (pa_cons (pv 2) (pa_cons (pe_ix ix_tup (pv 4) pe_int (fun _ _ => rfl)) (pa_cons pe_int pa_nil)))) pe_int ⟨rfl, rfl, rfl, rfl⟩) (pv 5)) rfl))) (pss_one (ps_if (PW.pt (pw_and (pt_cmpR op_eq (pv 1) pe_int (nomark _)) (pw_and1 (pt_cmpR op_ge (pe_dget2 hu (pv 0) (pe_tup (pa_cons (pv 2) (pa_cons (pe_ix ix_tup (pv 4) pe_int (fun _ _ => rfl)) (pa_cons pe_int pa_nil)))) pe_int ⟨rfl, rfl, rfl, rfl⟩) (pv 5) (nomark _))))) (pss_cons (ps_dput hu (pv 0) (pe_tup (pa_cons (pv 2) (pa_cons (pe_ix ix_tup (pv 4) pe_int (fun _ _ => rfl)) pa_nil))) (pe_op op_add (pe_dget2 hu (pv 0) (pe_tup (pa_cons (pv 2) (pa_cons (pe_ix ix_tup (pv 4) pe_int (fun _ _ => rfl)) pa_nil))) pe_int ⟨rfl, rfl, rfl, rfl⟩) (pv 5)) rfl)
      (pss_one (ps_dput hu (pv 0) (pe_tup (pa_cons (pv 2) (pa_cons (pe_ix ix_tup (pv 4) pe_int (fun _ _ => rfl)) (pa_cons pe_int pa_nil)))) (pe_op op_sub (pe_dget2 hu (pv 0) (pe_tup (pa_cons (pv 2) (pa_cons (pe_ix ix_tup (pv 4) pe_int (fun _ _ => rfl)) (pa_cons pe_int pa_nil)))) pe_int ⟨rfl, rfl, rfl, rfl⟩) (pv 5)) rfl))) (pss_one (ps_ret pe_bl)))))))))))))))
      (pss_one (ps_ret pe_non)))), ?_⟩
    (dsimp only [cxOf, Cx.nox, Cx.wish, L2.start, List.map, List.length, List.replicate, List.cons_append, List.nil_append, List.append_eq, Nat.reduceSub, Nat.reduceAdd])
    walk_at "my_rd"
    have cs : kd = 0 ∨ kd = 1 ∨ kd = 2 ∨ kd = 3 ∨ kd = 4 ∨ kd = 5 ∨ kd = 6 := by omega
    have hl9 : kvs.length < 999 := by omega
    rcases cs with rfl | rfl | rfl | rfl | rfl | rfl | rfl
    · rw [show decide ((0 : Int) = 0) = true from rfl]
      walk_at "my_rd"
      refine q_dG2aT hT ?_
      walk_at "my_rd"
      refine q_tupK (Nat.le_of_ble_eq_true rfl) fun k1 nk1 => ?_
      generalize hg : upd H k1 _ = H2
      have smk1 : Same H H2 := by rw [← hg]; exact Same.up (Same.refl _) nk1
      have htk1 : H2 k1 = some (.tup ((kB a t.name).map kV)) := by rw [← hg]; exact upd_same
      clear hg
      have hTk1 := smk1 _ _ hT
      have hkk1 := smk1 _ _ hk
      walk_at "my_rd"
      refine q_dG2T (k := kB a t.name) hTk1 htk1 ?_
      rw [tget_getD hI]
      have sm3 := smk1
      walk_at "my_rd"
      refine q_if2 (fun hc => ?_) (fun hc => ?_)
      · have hc := dec_t hc
        walk_at "my_rd"
        refine q_dG2aT hTk1 ?_
        walk_at "my_rd"
        refine q_tupK (Nat.le_of_ble_eq_true rfl) fun k4 nk4 => ?_
        generalize hg : upd H2 k4 _ = H5
        have smk4 : Same H2 H5 := by rw [← hg]; exact Same.up (Same.refl _) nk4
        have htk4 : H5 k4 = some (.tup ((kB a t.name).map kV)) := by rw [← hg]; exact upd_same
        clear hg
        have hTk4 := smk4 _ _ hTk1
        have hkk4 := smk4 _ _ hkk1
        walk_at "my_rd"
        refine q_dG2T (k := kB a t.name) hTk4 htk4 ?_
        rw [tget_getD hI]
        have sm6 := Same.trans sm3 smk4
        walk_at "my_rd"
        refine q_tupK (Nat.le_of_ble_eq_true rfl) fun k7 nk7 => ?_
        generalize hg : upd H5 k7 _ = H8
        have smk7 : Same H5 H8 := by rw [← hg]; exact Same.up (Same.refl _) nk7
        have htk7 : H8 k7 = some (.tup ((kB a t.name).map kV)) := by rw [← hg]; exact upd_same
        clear hg
        have hTk7 := smk7 _ _ hTk4
        have hkk7 := smk7 _ _ hkk4
        walk_at "my_rd"
        refine q_dPutT (k := kB a t.name) hTk7 htk7 (small1000 (by omega)) ?_
        generalize hg : upd H8 d _ = H10
        have kp9 : Kp d H H10 := by rw [← hg]; exact Kp.upd (Kp.trans (Same.kp sm6) (Same.kp smk7))
        have hTkp9 : H10 d = some (.dT (tSub kvs (kB a t.name) (i))) := by rw [← hg]; exact upd_same
        have hkkp9 : H10 tk = some (.tup t.v) := by rw [← hg]; exact upd_other hdt hkk7
        clear hg
        have hI11 : TInts (tSub kvs (kB a t.name) (i)) := (hI).sub _ _
        have hl12 : ((tSub kvs (kB a t.name) (i))).length < 1000 := by have := tSub_len kvs (kB a t.name) (i); have := (by omega : kvs.length < 1000); omega
        walk_at "my_rd"
        refine q_dG2aT hTkp9 ?_
        walk_at "my_rd"
        refine q_tupK (Nat.le_of_ble_eq_true rfl) fun k13 nk13 => ?_
        generalize hg : upd H10 k13 _ = H14
        have smk13 : Same H10 H14 := by rw [← hg]; exact Same.up (Same.refl _) nk13
        have htk13 : H14 k13 = some (.tup ((kB b t.name).map kV)) := by rw [← hg]; exact upd_same
        clear hg
        have hTk13 := smk13 _ _ hTkp9
        have hkk13 := smk13 _ _ hkkp9
        walk_at "my_rd"
        refine q_dG2T (k := kB b t.name) hTk13 htk13 ?_
        rw [tget_getD hI11]
        have sm15 := Kp.trans kp9 (Same.kp smk13)
        walk_at "my_rd"
        refine q_tupK (Nat.le_of_ble_eq_true rfl) fun k16 nk16 => ?_
        generalize hg : upd H14 k16 _ = H17
        have smk16 : Same H14 H17 := by rw [← hg]; exact Same.up (Same.refl _) nk16
        have htk16 : H17 k16 = some (.tup ((kB b t.name).map kV)) := by rw [← hg]; exact upd_same
        clear hg
        have hTk16 := smk16 _ _ hTk13
        have hkk16 := smk16 _ _ hkk13
        walk_at "my_rd"
        refine q_dPutT (k := kB b t.name) hTk16 htk16 (small1000 (Nat.le_of_lt hl12)) ?_
        generalize hg : upd H17 d _ = H19
        have kp18 : Kp d H H19 := by rw [← hg]; exact Kp.upd (Kp.trans sm15 (Same.kp smk16))
        have hTkp18 : H19 d = some (.dT (tAdd (tSub kvs (kB a t.name) (i)) (kB b t.name) (i))) := by rw [← hg]; exact upd_same
        have hkkp18 : H19 tk = some (.tup t.v) := by rw [← hg]; exact upd_other hdt hkk16
        clear hg
        have hI20 : TInts (tAdd (tSub kvs (kB a t.name) (i)) (kB b t.name) (i)) := (hI11).add _ _
        have hl21 : True := trivial
        walk_at "my_rd"
        exact kQ _ _ (.move (by omega)) hTkp18 kp18
      · have hc := dec_f hc
        walk_at "my_rd"
        rw [show decide ((0 : Int) = 1) = false from rfl]
        walk_at "my_rd"
        rw [show decide ((0 : Int) = 2) = false from rfl]
        walk_at "my_rd"
        rw [show decide ((0 : Int) = 3) = false from rfl]
        walk_at "my_rd"
        rw [show decide ((0 : Int) = 4) = false from rfl]
        walk_at "my_rd"
        rw [show decide ((0 : Int) = 5) = false from rfl]
        walk_at "my_rd"
        rw [show decide ((0 : Int) = 6) = false from rfl]
        walk_at "my_rd"
        exact kE (.inl ⟨rfl, by omega⟩) _ sm3
    · rw [show decide ((1 : Int) = 0) = false from rfl]
      walk_at "my_rd"
      rw [show decide ((1 : Int) = 1) = true from rfl]
      walk_at "my_rd"
      refine q_dG2aT hT ?_
      walk_at "my_rd"
      refine q_tupK (Nat.le_of_ble_eq_true rfl) fun k22 nk22 => ?_
      generalize hg : upd H k22 _ = H23
      have smk22 : Same H H23 := by rw [← hg]; exact Same.up (Same.refl _) nk22
      have htk22 : H23 k22 = some (.tup ((kB a t.name).map kV)) := by rw [← hg]; exact upd_same
      clear hg
      have hTk22 := smk22 _ _ hT
      have hkk22 := smk22 _ _ hk
      walk_at "my_rd"
      refine q_dG2T (k := kB a t.name) hTk22 htk22 ?_
      rw [tget_getD hI]
      have sm24 := smk22
      walk_at "my_rd"
      refine q_if2 (fun hc => ?_) (fun hc => ?_)
      · have hc := dec_t hc
        walk_at "my_rd"
        refine q_dG2aT hTk22 ?_
        walk_at "my_rd"
        refine q_tupK (Nat.le_of_ble_eq_true rfl) fun k25 nk25 => ?_
        generalize hg : upd H23 k25 _ = H26
        have smk25 : Same H23 H26 := by rw [← hg]; exact Same.up (Same.refl _) nk25
        have htk25 : H26 k25 = some (.tup ((kB a t.name).map kV)) := by rw [← hg]; exact upd_same
        clear hg
        have hTk25 := smk25 _ _ hTk22
        have hkk25 := smk25 _ _ hkk22
        walk_at "my_rd"
        refine q_dG2T (k := kB a t.name) hTk25 htk25 ?_
        rw [tget_getD hI]
        have sm27 := Same.trans sm24 smk25
        walk_at "my_rd"
        refine q_tupK (Nat.le_of_ble_eq_true rfl) fun k28 nk28 => ?_
        generalize hg : upd H26 k28 _ = H29
        have smk28 : Same H26 H29 := by rw [← hg]; exact Same.up (Same.refl _) nk28
        have htk28 : H29 k28 = some (.tup ((kB a t.name).map kV)) := by rw [← hg]; exact upd_same
        clear hg
        have hTk28 := smk28 _ _ hTk25
        have hkk28 := smk28 _ _ hkk25
        walk_at "my_rd"
        refine q_dPutT (k := kB a t.name) hTk28 htk28 (small1000 (by omega)) ?_
        generalize hg : upd H29 d _ = H31
        have kp30 : Kp d H H31 := by rw [← hg]; exact Kp.upd (Kp.trans (Same.kp sm27) (Same.kp smk28))
        have hTkp30 : H31 d = some (.dT (tSub kvs (kB a t.name) (i * t.scale))) := by rw [← hg]; exact upd_same
        have hkkp30 : H31 tk = some (.tup t.v) := by rw [← hg]; exact upd_other hdt hkk28
        clear hg
        have hI32 : TInts (tSub kvs (kB a t.name) (i * t.scale)) := (hI).sub _ _
        have hl33 : ((tSub kvs (kB a t.name) (i * t.scale))).length < 1000 := by have := tSub_len kvs (kB a t.name) (i * t.scale); have := (by omega : kvs.length < 1000); omega
        walk_at "my_rd"
        refine q_dG2aT hTkp30 ?_
        walk_at "my_rd"
        refine q_tupK (Nat.le_of_ble_eq_true rfl) fun k34 nk34 => ?_
        generalize hg : upd H31 k34 _ = H35
        have smk34 : Same H31 H35 := by rw [← hg]; exact Same.up (Same.refl _) nk34
        have htk34 : H35 k34 = some (.tup ((kB "" t.name).map kV)) := by rw [← hg]; exact upd_same
        clear hg
        have hTk34 := smk34 _ _ hTkp30
        have hkk34 := smk34 _ _ hkkp30
        walk_at "my_rd"
        refine q_dG2T (k := kB "" t.name) hTk34 htk34 ?_
        rw [tget_getD hI32]
        have sm36 := Kp.trans kp30 (Same.kp smk34)
        walk_at "my_rd"
        refine q_tupK (Nat.le_of_ble_eq_true rfl) fun k37 nk37 => ?_
        generalize hg : upd H35 k37 _ = H38
        have smk37 : Same H35 H38 := by rw [← hg]; exact Same.up (Same.refl _) nk37
        have htk37 : H38 k37 = some (.tup ((kB "" t.name).map kV)) := by rw [← hg]; exact upd_same
        clear hg
        have hTk37 := smk37 _ _ hTk34
        have hkk37 := smk37 _ _ hkk34
        walk_at "my_rd"
        refine q_dPutT (k := kB "" t.name) hTk37 htk37 (small1000 (Nat.le_of_lt hl33)) ?_
        generalize hg : upd H38 d _ = H40
        have kp39 : Kp d H H40 := by rw [← hg]; exact Kp.upd (Kp.trans sm36 (Same.kp smk37))
        have hTkp39 : H40 d = some (.dT (tAdd (tSub kvs (kB a t.name) (i * t.scale)) (kB "" t.name) (i * t.scale))) := by rw [← hg]; exact upd_same
        have hkkp39 : H40 tk = some (.tup t.v) := by rw [← hg]; exact upd_other hdt hkk37
        clear hg
        have hI41 : TInts (tAdd (tSub kvs (kB a t.name) (i * t.scale)) (kB "" t.name) (i * t.scale)) := (hI32).add _ _
        have hl42 : True := trivial
        walk_at "my_rd"
        exact kQ _ _ (.lock (by omega)) hTkp39 kp39
      · have hc := dec_f hc
        walk_at "my_rd"
        rw [show decide ((1 : Int) = 2) = false from rfl]
        walk_at "my_rd"
        rw [show decide ((1 : Int) = 3) = false from rfl]
        walk_at "my_rd"
        rw [show decide ((1 : Int) = 4) = false from rfl]
        walk_at "my_rd"
        rw [show decide ((1 : Int) = 5) = false from rfl]
        walk_at "my_rd"
        rw [show decide ((1 : Int) = 6) = false from rfl]
        walk_at "my_rd"
        exact kE (.inr (.inl ⟨rfl, by omega⟩)) _ sm24
    · rw [show decide ((2 : Int) = 0) = false from rfl]
      walk_at "my_rd"
      rw [show decide ((2 : Int) = 1) = false from rfl]
      walk_at "my_rd"
      rw [show decide ((2 : Int) = 2) = true from rfl]
      walk_at "my_rd"
      refine q_dG2aT hT ?_
      walk_at "my_rd"
      refine q_tupK (Nat.le_of_ble_eq_true rfl) fun k43 nk43 => ?_
      generalize hg : upd H k43 _ = H44
      have smk43 : Same H H44 := by rw [← hg]; exact Same.up (Same.refl _) nk43
      have htk43 : H44 k43 = some (.tup ((kB "" t.name).map kV)) := by rw [← hg]; exact upd_same
      clear hg
      have hTk43 := smk43 _ _ hT
      have hkk43 := smk43 _ _ hk
      walk_at "my_rd"
      refine q_dG2T (k := kB "" t.name) hTk43 htk43 ?_
      rw [tget_getD hI]
      have sm45 := smk43
      walk_at "my_rd"
      refine q_if2 (fun hc => ?_) (fun hc => ?_)
      · have hc := dec_t hc
        walk_at "my_rd"
        refine q_dG2aT hTk43 ?_
        walk_at "my_rd"
        refine q_tupK (Nat.le_of_ble_eq_true rfl) fun k46 nk46 => ?_
        generalize hg : upd H44 k46 _ = H47
        have smk46 : Same H44 H47 := by rw [← hg]; exact Same.up (Same.refl _) nk46
        have htk46 : H47 k46 = some (.tup ((kB "" t.name).map kV)) := by rw [← hg]; exact upd_same
        clear hg
        have hTk46 := smk46 _ _ hTk43
        have hkk46 := smk46 _ _ hkk43
        walk_at "my_rd"
        refine q_dG2T (k := kB "" t.name) hTk46 htk46 ?_
        rw [tget_getD hI]
        have sm48 := Same.trans sm45 smk46
        walk_at "my_rd"
        refine q_tupK (Nat.le_of_ble_eq_true rfl) fun k49 nk49 => ?_
        generalize hg : upd H47 k49 _ = H50
        have smk49 : Same H47 H50 := by rw [← hg]; exact Same.up (Same.refl _) nk49
        have htk49 : H50 k49 = some (.tup ((kB "" t.name).map kV)) := by rw [← hg]; exact upd_same
        clear hg
        have hTk49 := smk49 _ _ hTk46
        have hkk49 := smk49 _ _ hkk46
        walk_at "my_rd"
        refine q_dPutT (k := kB "" t.name) hTk49 htk49 (small1000 (by omega)) ?_
        generalize hg : upd H50 d _ = H52
        have kp51 : Kp d H H52 := by rw [← hg]; exact Kp.upd (Kp.trans (Same.kp sm48) (Same.kp smk49))
        have hTkp51 : H52 d = some (.dT (tSub kvs (kB "" t.name) (i * t.scale))) := by rw [← hg]; exact upd_same
        have hkkp51 : H52 tk = some (.tup t.v) := by rw [← hg]; exact upd_other hdt hkk49
        clear hg
        have hI53 : TInts (tSub kvs (kB "" t.name) (i * t.scale)) := (hI).sub _ _
        have hl54 : ((tSub kvs (kB "" t.name) (i * t.scale))).length < 1000 := by have := tSub_len kvs (kB "" t.name) (i * t.scale); have := (by omega : kvs.length < 1000); omega
        walk_at "my_rd"
        refine q_dG2aT hTkp51 ?_
        walk_at "my_rd"
        refine q_tupK (Nat.le_of_ble_eq_true rfl) fun k55 nk55 => ?_
        generalize hg : upd H52 k55 _ = H56
        have smk55 : Same H52 H56 := by rw [← hg]; exact Same.up (Same.refl _) nk55
        have htk55 : H56 k55 = some (.tup ((kB a t.name).map kV)) := by rw [← hg]; exact upd_same
        clear hg
        have hTk55 := smk55 _ _ hTkp51
        have hkk55 := smk55 _ _ hkkp51
        walk_at "my_rd"
        refine q_dG2T (k := kB a t.name) hTk55 htk55 ?_
        rw [tget_getD hI53]
        have sm57 := Kp.trans kp51 (Same.kp smk55)
        walk_at "my_rd"
        refine q_tupK (Nat.le_of_ble_eq_true rfl) fun k58 nk58 => ?_
        generalize hg : upd H56 k58 _ = H59
        have smk58 : Same H56 H59 := by rw [← hg]; exact Same.up (Same.refl _) nk58
        have htk58 : H59 k58 = some (.tup ((kB a t.name).map kV)) := by rw [← hg]; exact upd_same
        clear hg
        have hTk58 := smk58 _ _ hTk55
        have hkk58 := smk58 _ _ hkk55
        walk_at "my_rd"
        refine q_dPutT (k := kB a t.name) hTk58 htk58 (small1000 (Nat.le_of_lt hl54)) ?_
        generalize hg : upd H59 d _ = H61
        have kp60 : Kp d H H61 := by rw [← hg]; exact Kp.upd (Kp.trans sm57 (Same.kp smk58))
        have hTkp60 : H61 d = some (.dT (tAdd (tSub kvs (kB "" t.name) (i * t.scale)) (kB a t.name) (i * t.scale))) := by rw [← hg]; exact upd_same
        have hkkp60 : H61 tk = some (.tup t.v) := by rw [← hg]; exact upd_other hdt hkk58
        clear hg
        have hI62 : TInts (tAdd (tSub kvs (kB "" t.name) (i * t.scale)) (kB a t.name) (i * t.scale)) := (hI53).add _ _
        have hl63 : True := trivial
        walk_at "my_rd"
        exact kQ _ _ (.rel (by omega)) hTkp60 kp60
      · have hc := dec_f hc
        walk_at "my_rd"
        rw [show decide ((2 : Int) = 3) = false from rfl]
        walk_at "my_rd"
        rw [show decide ((2 : Int) = 4) = false from rfl]
        walk_at "my_rd"
        rw [show decide ((2 : Int) = 5) = false from rfl]
        walk_at "my_rd"
        rw [show decide ((2 : Int) = 6) = false from rfl]
        walk_at "my_rd"
        exact kE (.inr (.inr (.inl ⟨rfl, by omega⟩))) _ sm45
    · rw [show decide ((3 : Int) = 0) = false from rfl]
      walk_at "my_rd"
      rw [show decide ((3 : Int) = 1) = false from rfl]
      walk_at "my_rd"
      rw [show decide ((3 : Int) = 2) = false from rfl]
      walk_at "my_rd"
      rw [show decide ((3 : Int) = 3) = true from rfl]
      walk_at "my_rd"
      refine q_dG2aT hT ?_
      walk_at "my_rd"
      refine q_tupK (Nat.le_of_ble_eq_true rfl) fun k64 nk64 => ?_
      generalize hg : upd H k64 _ = H65
      have smk64 : Same H H65 := by rw [← hg]; exact Same.up (Same.refl _) nk64
      have htk64 : H65 k64 = some (.tup ((kB a t.name).map kV)) := by rw [← hg]; exact upd_same
      clear hg
      have hTk64 := smk64 _ _ hT
      have hkk64 := smk64 _ _ hk
      walk_at "my_rd"
      refine q_dG2T (k := kB a t.name) hTk64 htk64 ?_
      rw [tget_getD hI]
      have sm66 := Same.trans (Same.refl H) smk64
      walk_at "my_rd"
      refine q_tupK (Nat.le_of_ble_eq_true rfl) fun k67 nk67 => ?_
      generalize hg : upd H65 k67 _ = H68
      have smk67 : Same H65 H68 := by rw [← hg]; exact Same.up (Same.refl _) nk67
      have htk67 : H68 k67 = some (.tup ((kB a t.name).map kV)) := by rw [← hg]; exact upd_same
      clear hg
      have hTk67 := smk67 _ _ hTk64
      have hkk67 := smk67 _ _ hkk64
      walk_at "my_rd"
      refine q_dPutT (k := kB a t.name) hTk67 htk67 (small1000 (by omega)) ?_
      generalize hg : upd H68 d _ = H70
      have kp69 : Kp d H H70 := by rw [← hg]; exact Kp.upd (Kp.trans (Same.kp sm66) (Same.kp smk67))
      have hTkp69 : H70 d = some (.dT (tAdd kvs (kB a t.name) (i))) := by rw [← hg]; exact upd_same
      have hkkp69 : H70 tk = some (.tup t.v) := by rw [← hg]; exact upd_other hdt hkk67
      clear hg
      have hI71 : TInts (tAdd kvs (kB a t.name) (i)) := (hI).add _ _
      have hl72 : ((tAdd kvs (kB a t.name) (i))).length < 1000 := by have := tAdd_len kvs (kB a t.name) (i); have := (by omega : kvs.length < 1000); omega
      walk_at "my_rd"
      exact kQ _ _ .mint hTkp69 kp69
    · rw [show decide ((4 : Int) = 0) = false from rfl]
      walk_at "my_rd"
      rw [show decide ((4 : Int) = 1) = false from rfl]
      walk_at "my_rd"
      rw [show decide ((4 : Int) = 2) = false from rfl]
      walk_at "my_rd"
      rw [show decide ((4 : Int) = 3) = false from rfl]
      walk_at "my_rd"
      rw [show decide ((4 : Int) = 4) = true from rfl]
      walk_at "my_rd"
      refine q_dG2aT hT ?_
      walk_at "my_rd"
      refine q_tupK (Nat.le_of_ble_eq_true rfl) fun k73 nk73 => ?_
      generalize hg : upd H k73 _ = H74
      have smk73 : Same H H74 := by rw [← hg]; exact Same.up (Same.refl _) nk73
      have htk73 : H74 k73 = some (.tup ((kB a t.name).map kV)) := by rw [← hg]; exact upd_same
      clear hg
      have hTk73 := smk73 _ _ hT
      have hkk73 := smk73 _ _ hk
      walk_at "my_rd"
      refine q_dG2T (k := kB a t.name) hTk73 htk73 ?_
      rw [tget_getD hI]
      have sm75 := smk73
      walk_at "my_rd"
      refine q_if2 (fun hc => ?_) (fun hc => ?_)
      · have hc := dec_t hc
        walk_at "my_rd"
        refine q_dG2aT hTk73 ?_
        walk_at "my_rd"
        refine q_tupK (Nat.le_of_ble_eq_true rfl) fun k76 nk76 => ?_
        generalize hg : upd H74 k76 _ = H77
        have smk76 : Same H74 H77 := by rw [← hg]; exact Same.up (Same.refl _) nk76
        have htk76 : H77 k76 = some (.tup ((kB a t.name).map kV)) := by rw [← hg]; exact upd_same
        clear hg
        have hTk76 := smk76 _ _ hTk73
        have hkk76 := smk76 _ _ hkk73
        walk_at "my_rd"
        refine q_dG2T (k := kB a t.name) hTk76 htk76 ?_
        rw [tget_getD hI]
        have sm78 := Same.trans sm75 smk76
        walk_at "my_rd"
        refine q_tupK (Nat.le_of_ble_eq_true rfl) fun k79 nk79 => ?_
        generalize hg : upd H77 k79 _ = H80
        have smk79 : Same H77 H80 := by rw [← hg]; exact Same.up (Same.refl _) nk79
        have htk79 : H80 k79 = some (.tup ((kB a t.name).map kV)) := by rw [← hg]; exact upd_same
        clear hg
        have hTk79 := smk79 _ _ hTk76
        have hkk79 := smk79 _ _ hkk76
        walk_at "my_rd"
        refine q_dPutT (k := kB a t.name) hTk79 htk79 (small1000 (by omega)) ?_
        generalize hg : upd H80 d _ = H82
        have kp81 : Kp d H H82 := by rw [← hg]; exact Kp.upd (Kp.trans (Same.kp sm78) (Same.kp smk79))
        have hTkp81 : H82 d = some (.dT (tSub kvs (kB a t.name) (i))) := by rw [← hg]; exact upd_same
        have hkkp81 : H82 tk = some (.tup t.v) := by rw [← hg]; exact upd_other hdt hkk79
        clear hg
        have hI83 : TInts (tSub kvs (kB a t.name) (i)) := (hI).sub _ _
        have hl84 : ((tSub kvs (kB a t.name) (i))).length < 1000 := by have := tSub_len kvs (kB a t.name) (i); have := (by omega : kvs.length < 1000); omega
        walk_at "my_rd"
        exact kQ _ _ (.burn (by omega)) hTkp81 kp81
      · have hc := dec_f hc
        walk_at "my_rd"
        rw [show decide ((4 : Int) = 5) = false from rfl]
        walk_at "my_rd"
        rw [show decide ((4 : Int) = 6) = false from rfl]
        walk_at "my_rd"
        exact kE (.inr (.inr (.inr (.inl ⟨rfl, by omega⟩)))) _ sm75
    · rw [show decide ((5 : Int) = 0) = false from rfl]
      walk_at "my_rd"
      rw [show decide ((5 : Int) = 1) = false from rfl]
      walk_at "my_rd"
      rw [show decide ((5 : Int) = 2) = false from rfl]
      walk_at "my_rd"
      rw [show decide ((5 : Int) = 3) = false from rfl]
      walk_at "my_rd"
      rw [show decide ((5 : Int) = 4) = false from rfl]
      walk_at "my_rd"
      rw [show decide ((5 : Int) = 5) = true from rfl]
      walk_at "my_rd"
      refine q_dG2aT hT ?_
      walk_at "my_rd"
      refine q_tupK (Nat.le_of_ble_eq_true rfl) fun k85 nk85 => ?_
      generalize hg : upd H k85 _ = H86
      have smk85 : Same H H86 := by rw [← hg]; exact Same.up (Same.refl _) nk85
      have htk85 : H86 k85 = some (.tup ((kB a t.name).map kV)) := by rw [← hg]; exact upd_same
      clear hg
      have hTk85 := smk85 _ _ hT
      have hkk85 := smk85 _ _ hk
      walk_at "my_rd"
      refine q_dG2T (k := kB a t.name) hTk85 htk85 ?_
      rw [tget_getD hI]
      have sm87 := smk85
      walk_at "my_rd"
      refine q_if2 (fun hc => ?_) (fun hc => ?_)
      · have hc := dec_t hc
        walk_at "my_rd"
        refine q_dG2aT hTk85 ?_
        walk_at "my_rd"
        refine q_tupK (Nat.le_of_ble_eq_true rfl) fun k88 nk88 => ?_
        generalize hg : upd H86 k88 _ = H89
        have smk88 : Same H86 H89 := by rw [← hg]; exact Same.up (Same.refl _) nk88
        have htk88 : H89 k88 = some (.tup ((kB a t.name).map kV)) := by rw [← hg]; exact upd_same
        clear hg
        have hTk88 := smk88 _ _ hTk85
        have hkk88 := smk88 _ _ hkk85
        walk_at "my_rd"
        refine q_dG2T (k := kB a t.name) hTk88 htk88 ?_
        rw [tget_getD hI]
        have sm90 := Same.trans sm87 smk88
        walk_at "my_rd"
        refine q_tupK (Nat.le_of_ble_eq_true rfl) fun k91 nk91 => ?_
        generalize hg : upd H89 k91 _ = H92
        have smk91 : Same H89 H92 := by rw [← hg]; exact Same.up (Same.refl _) nk91
        have htk91 : H92 k91 = some (.tup ((kB a t.name).map kV)) := by rw [← hg]; exact upd_same
        clear hg
        have hTk91 := smk91 _ _ hTk88
        have hkk91 := smk91 _ _ hkk88
        walk_at "my_rd"
        refine q_dPutT (k := kB a t.name) hTk91 htk91 (small1000 (by omega)) ?_
        generalize hg : upd H92 d _ = H94
        have kp93 : Kp d H H94 := by rw [← hg]; exact Kp.upd (Kp.trans (Same.kp sm90) (Same.kp smk91))
        have hTkp93 : H94 d = some (.dT (tSub kvs (kB a t.name) (i))) := by rw [← hg]; exact upd_same
        have hkkp93 : H94 tk = some (.tup t.v) := by rw [← hg]; exact upd_other hdt hkk91
        clear hg
        have hI95 : TInts (tSub kvs (kB a t.name) (i)) := (hI).sub _ _
        have hl96 : ((tSub kvs (kB a t.name) (i))).length < 1000 := by have := tSub_len kvs (kB a t.name) (i); have := (by omega : kvs.length < 1000); omega
        walk_at "my_rd"
        refine q_dG2aT hTkp93 ?_
        walk_at "my_rd"
        refine q_tupK (Nat.le_of_ble_eq_true rfl) fun k97 nk97 => ?_
        generalize hg : upd H94 k97 _ = H98
        have smk97 : Same H94 H98 := by rw [← hg]; exact Same.up (Same.refl _) nk97
        have htk97 : H98 k97 = some (.tup ((kD a t.name).map kV)) := by rw [← hg]; exact upd_same
        clear hg
        have hTk97 := smk97 _ _ hTkp93
        have hkk97 := smk97 _ _ hkkp93
        walk_at "my_rd"
        refine q_dG2T (k := kD a t.name) hTk97 htk97 ?_
        rw [tget_getD hI95]
        have sm99 := Kp.trans kp93 (Same.kp smk97)
        walk_at "my_rd"
        refine q_tupK (Nat.le_of_ble_eq_true rfl) fun k100 nk100 => ?_
        generalize hg : upd H98 k100 _ = H101
        have smk100 : Same H98 H101 := by rw [← hg]; exact Same.up (Same.refl _) nk100
        have htk100 : H101 k100 = some (.tup ((kD a t.name).map kV)) := by rw [← hg]; exact upd_same
        clear hg
        have hTk100 := smk100 _ _ hTk97
        have hkk100 := smk100 _ _ hkk97
        walk_at "my_rd"
        refine q_dPutT (k := kD a t.name) hTk100 htk100 (small1000 (Nat.le_of_lt hl96)) ?_
        generalize hg : upd H101 d _ = H103
        have kp102 : Kp d H H103 := by rw [← hg]; exact Kp.upd (Kp.trans sm99 (Same.kp smk100))
        have hTkp102 : H103 d = some (.dT (tAdd (tSub kvs (kB a t.name) (i)) (kD a t.name) (i))) := by rw [← hg]; exact upd_same
        have hkkp102 : H103 tk = some (.tup t.v) := by rw [← hg]; exact upd_other hdt hkk100
        clear hg
        have hI104 : TInts (tAdd (tSub kvs (kB a t.name) (i)) (kD a t.name) (i)) := (hI95).add _ _
        have hl105 : True := trivial
        walk_at "my_rd"
        exact kQ _ _ (.bond (by omega)) hTkp102 kp102
      · have hc := dec_f hc
        walk_at "my_rd"
        rw [show decide ((5 : Int) = 6) = false from rfl]
        walk_at "my_rd"
        exact kE (.inr (.inr (.inr (.inr (.inl ⟨rfl, by omega⟩))))) _ sm87
    · rw [show decide ((6 : Int) = 0) = false from rfl]
      walk_at "my_rd"
      rw [show decide ((6 : Int) = 1) = false from rfl]
      walk_at "my_rd"
      rw [show decide ((6 : Int) = 2) = false from rfl]
      walk_at "my_rd"
      rw [show decide ((6 : Int) = 3) = false from rfl]
      walk_at "my_rd"
      rw [show decide ((6 : Int) = 4) = false from rfl]
      walk_at "my_rd"
      rw [show decide ((6 : Int) = 5) = false from rfl]
      walk_at "my_rd"
      rw [show decide ((6 : Int) = 6) = true from rfl]
      walk_at "my_rd"
      refine q_dG2aT hT ?_
      walk_at "my_rd"
      refine q_tupK (Nat.le_of_ble_eq_true rfl) fun k106 nk106 => ?_
      generalize hg : upd H k106 _ = H107
      have smk106 : Same H H107 := by rw [← hg]; exact Same.up (Same.refl _) nk106
      have htk106 : H107 k106 = some (.tup ((kD a t.name).map kV)) := by rw [← hg]; exact upd_same
      clear hg
      have hTk106 := smk106 _ _ hT
      have hkk106 := smk106 _ _ hk
      walk_at "my_rd"
      refine q_dG2T (k := kD a t.name) hTk106 htk106 ?_
      rw [tget_getD hI]
      have sm108 := smk106
      walk_at "my_rd"
      refine q_if2 (fun hc => ?_) (fun hc => ?_)
      · have hc := dec_t hc
        walk_at "my_rd"
        refine q_dG2aT hTk106 ?_
        walk_at "my_rd"
        refine q_tupK (Nat.le_of_ble_eq_true rfl) fun k109 nk109 => ?_
        generalize hg : upd H107 k109 _ = H110
        have smk109 : Same H107 H110 := by rw [← hg]; exact Same.up (Same.refl _) nk109
        have htk109 : H110 k109 = some (.tup ((kB a t.name).map kV)) := by rw [← hg]; exact upd_same
        clear hg
        have hTk109 := smk109 _ _ hTk106
        have hkk109 := smk109 _ _ hkk106
        walk_at "my_rd"
        refine q_dG2T (k := kB a t.name) hTk109 htk109 ?_
        rw [tget_getD hI]
        have sm111 := Same.trans sm108 smk109
        walk_at "my_rd"
        refine q_tupK (Nat.le_of_ble_eq_true rfl) fun k112 nk112 => ?_
        generalize hg : upd H110 k112 _ = H113
        have smk112 : Same H110 H113 := by rw [← hg]; exact Same.up (Same.refl _) nk112
        have htk112 : H113 k112 = some (.tup ((kB a t.name).map kV)) := by rw [← hg]; exact upd_same
        clear hg
        have hTk112 := smk112 _ _ hTk109
        have hkk112 := smk112 _ _ hkk109
        walk_at "my_rd"
        refine q_dPutT (k := kB a t.name) hTk112 htk112 (small1000 (by omega)) ?_
        generalize hg : upd H113 d _ = H115
        have kp114 : Kp d H H115 := by rw [← hg]; exact Kp.upd (Kp.trans (Same.kp sm111) (Same.kp smk112))
        have hTkp114 : H115 d = some (.dT (tAdd kvs (kB a t.name) (i))) := by rw [← hg]; exact upd_same
        have hkkp114 : H115 tk = some (.tup t.v) := by rw [← hg]; exact upd_other hdt hkk112
        clear hg
        have hI116 : TInts (tAdd kvs (kB a t.name) (i)) := (hI).add _ _
        have hl117 : ((tAdd kvs (kB a t.name) (i))).length < 1000 := by have := tAdd_len kvs (kB a t.name) (i); have := (by omega : kvs.length < 1000); omega
        walk_at "my_rd"
        refine q_dG2aT hTkp114 ?_
        walk_at "my_rd"
        refine q_tupK (Nat.le_of_ble_eq_true rfl) fun k118 nk118 => ?_
        generalize hg : upd H115 k118 _ = H119
        have smk118 : Same H115 H119 := by rw [← hg]; exact Same.up (Same.refl _) nk118
        have htk118 : H119 k118 = some (.tup ((kD a t.name).map kV)) := by rw [← hg]; exact upd_same
        clear hg
        have hTk118 := smk118 _ _ hTkp114
        have hkk118 := smk118 _ _ hkkp114
        walk_at "my_rd"
        refine q_dG2T (k := kD a t.name) hTk118 htk118 ?_
        rw [tget_getD hI116]
        have sm120 := Kp.trans kp114 (Same.kp smk118)
        walk_at "my_rd"
        refine q_tupK (Nat.le_of_ble_eq_true rfl) fun k121 nk121 => ?_
        generalize hg : upd H119 k121 _ = H122
        have smk121 : Same H119 H122 := by rw [← hg]; exact Same.up (Same.refl _) nk121
        have htk121 : H122 k121 = some (.tup ((kD a t.name).map kV)) := by rw [← hg]; exact upd_same
        clear hg
        have hTk121 := smk121 _ _ hTk118
        have hkk121 := smk121 _ _ hkk118
        walk_at "my_rd"
        refine q_dPutT (k := kD a t.name) hTk121 htk121 (small1000 (Nat.le_of_lt hl117)) ?_
        generalize hg : upd H122 d _ = H124
        have kp123 : Kp d H H124 := by rw [← hg]; exact Kp.upd (Kp.trans sm120 (Same.kp smk121))
        have hTkp123 : H124 d = some (.dT (tSub (tAdd kvs (kB a t.name) (i)) (kD a t.name) (i))) := by rw [← hg]; exact upd_same
        have hkkp123 : H124 tk = some (.tup t.v) := by rw [← hg]; exact upd_other hdt hkk121
        clear hg
        have hI125 : TInts (tSub (tAdd kvs (kB a t.name) (i)) (kD a t.name) (i)) := (hI116).sub _ _
        have hl126 : True := trivial
        walk_at "my_rd"
        exact kQ _ _ (.unbond (by omega)) hTkp123 kp123
      · have hc := dec_f hc
        walk_at "my_rd"
        exact kE (.inr (.inr (.inr (.inr (.inr ⟨rfl, by omega⟩))))) _ sm108
end

/-! the law's own look at a sheet -/
def nsL (z : Str) : List Str := ["ann", "bob", "cyd", z]
theorem nsL_ok : ∀ z ∈ allNames, (nsL z).Nodup ∧ ("" : Str) ∉ nsL z ∧ ("nobody" : Str) ∉ nsL z := by decide +kernel
theorem str_at {ss : List Str} {i : Nat} {x : V} (h : (ss.map V.str)[i]? = some x) : ∃ s, ss[i]? = some s ∧ x = .str s := by
  rw [List.getElem?_map] at h
  cases q : ss[i]? with
  | none => rw [q] at h; cases h
  | some s => rw [q] at h; exact ⟨s, rfl, (Option.some.inj h).symm⟩
theorem ints_all (ns : List Int) : PyData.canLayAll0 (ns.map PyData.int) = true ∧ PyData.depthAll (ns.map PyData.int) = 0 := by
  induction ns with
  | nil => exact ⟨by simp [PyData.canLayAll0], by simp [PyData.depthAll]⟩
  | cons x r ih => exact ⟨by simp [PyData.canLayAll0, PyData.canLay0, ih.1], by simp [PyData.depthAll, PyData.depth, ih.2]⟩
theorem ints_lay (ns : List Int) : (PyData.list (ns.map PyData.int)).canLay0 = true := by
  simp only [PyData.canLay0]
  exact (ints_all ns).1
theorem ints_shaped (ns : List Int) : SeqAt.shaped (.list (ns.map PyData.int)) = true := by
  show ((PyData.list (ns.map PyData.int)).canLay0 && decide ((PyData.list (ns.map PyData.int)).depth ≤ 64)) = true
  rw [ints_lay]
  simp [PyData.depth, (ints_all ns).2]
theorem ints_dp {K : PySem.W.Frag} {H : Hp} : ∀ ns : List Int, DpAll K H (ns.map V.int) (ns.map PyData.int)
  | [] => .nil
  | x :: r => .cons (.int x) (ints_dp r)
def sp_Lright (C : Addr) : Sp := fun vs H Q _ => ∃ (d x tb : Addr) (c : Parts) (gs : Gs) (tl bl g : Addr) (tv bv gv : List V) (S : Sh) (kvs : TTab) (z : Str), vs = [.ref d, .ref x, .ref tb] ∧ PartsAt H d c gs tl bl g tv bv gv ∧ CfgOk c gs ∧ (gs[0]?).map (·.1) = some z ∧ ShAt C H x S ∧ H tb = some (.dT kvs) ∧ Rel (nsL z) S.bal S.bon S.vau kvs ∧
  ∀ H', Same H H' → Q (.bl true) H'
section
variable {P : Program} {w : World} {K : PySem.W.Frag} {mg : Str → Option Value} {base : Heap}
theorem ok_L_right (T : Txt K mg) : FnOk P w K mg base CX0 4 T.f_L_right T.d_L_right ["parts", "sheet", "table"] (sp_Lright T.C_Sheet) := by
  refine T.F_L_right.ok sc_L_right (fun vs H Q E h => ?_) (fun cdv A outer s H vs Q E hr h => ?_)
  · obtain ⟨d, x, tb, c, gs, tl, bl, g, tv, bv, gv, S, kvs, z, rfl, _⟩ := h; rfl
  · obtain ⟨d, x, tb, c, gs, tl, bl, g, tv, bv, gv, S, kvs, z, rfl, hp, hc, hz, hS, hT, hR, k⟩ := h
    have hu := hu_of hr
    obtain ⟨g0, hg0, hgz⟩ := Option.map_eq_some_iff.mp hz
    obtain ⟨ga, hga, hgb⟩ := hp.gp.at_ 0 g0 hg0
    have hzn : z ∈ allNames := by rw [← hgz]; exact hc.gd.nms g0 (List.mem_of_getElem? hg0)
    obtain ⟨nd, _, nob⟩ := nsL_ok z hzn
    refine ⟨_, (pss_cons (ps_for PassesOwn.never rfl (pi_list (pe_dget hu (pv 0) pe_str (fun _ _ => rfl))) (pg_name (i := 3) sc_L_right.nd rfl (Or.inr rfl))
        (pss_cons (ps_set (i := 4) sc_L_right.nd rfl (Or.inl rfl) (pe_lst (pa_cons pe_str (pa_cons pe_str (pa_cons pe_str (pa_cons (pe_ix ix_tup (pe_ix ix_tup (pe_dget hu (pv 0) pe_str (fun _ _ => rfl)) pe_int (fun _ _ => rfl)) pe_int (fun _ _ => rfl)) pa_nil))))))
      (pss_cons (ps_setLc (i := 5) (own := [("account", 7)]) (g := (gName 7)) (tt := tYes) (te := (tDGet2 (tVar 2) (tTup (tCons (tVar 7) (tCons (tOp (rIxT K) (tVar 3) (tC (.int 0))) (tCons (tC (.int 1)) tNil)))) (tC (.int 0)))) rfl sc_L_right.nd rfl rfl (sw_true rfl rfl rfl (by decide +kernel)) (pi_list (pv 4)) (blkOk_by (own := [("account", 7)]) (N := ["parts", "sheet", "table", "token", "names", "bonds", "amounts", "account"]) (sc := defScope s_L_right) (by decide +kernel)) (fun _ _ _ _ _ => (pg_name (i := 7) sc_L_right.nd rfl (Or.inl rfl))) (fun _ _ _ _ _ => pts_nil) (fun _ _ _ _ _ => (pe_dget2 hu (pv 2) (pe_tup (pa_cons (pv 7) (pa_cons (pe_ix ix_tup (pv 3) pe_int (fun _ _ => rfl)) (pa_cons pe_int pa_nil)))) pe_int ⟨rfl, rfl, rfl, rfl⟩)))
      (pss_cons (ps_if (pt_cmpR (op_neD hr.units) (pe_lc (own := [("account", 7)]) (g := (gName 7)) (tt := tYes) (te := (tMeth T.C_Sheet "bonded" (sp_heldD T.C_Sheet) [] E0 (tVar 1) (tCons (tVar 7) (tCons (tOp (rIxT K) (tVar 3) (tC (.int 0))) tNil)))) rfl sc_L_right.nd (pi_list (pv 4)) (blkOk_by (own := [("account", 7)]) (N := ["parts", "sheet", "table", "token", "names", "bonds", "amounts", "account"]) (sc := defScope s_L_right) (by decide +kernel)) (fun _ _ _ _ _ => (pg_name (i := 7) sc_L_right.nd rfl (Or.inl rfl))) (fun _ _ _ _ _ => pts_nil) (fun _ _ _ _ _ => (pe_meth (pv 1) T.cl_Sheet T.m_Sheet_bonded (ok_Sheet_bonded T) (hr.mono (by decide)) T.b_Sheet_bonded .nil pass0 (pa_cons (pv 7) (pa_cons (pe_ix ix_tup (pv 3) pe_int (fun _ _ => rfl)) pa_nil))))) (pv 5) (nomark _)) (pss_one (ps_ret pe_bl)) pss_nil)
      (pss_cons (ps_setLc (i := 6) (own := [("account", 7)]) (g := (gName 7)) (tt := tYes) (te := (tDGet2 (tVar 2) (tTup (tCons (tVar 7) (tCons (tOp (rIxT K) (tVar 3) (tC (.int 0))) tNil))) (tC (.int 0)))) rfl sc_L_right.nd rfl rfl (sw_true rfl rfl rfl (by decide +kernel)) (pi_list (pv 4)) (blkOk_by (own := [("account", 7)]) (N := ["parts", "sheet", "table", "token", "names", "bonds", "amounts", "account"]) (sc := defScope s_L_right) (by decide +kernel)) (fun _ _ _ _ _ => (pg_name (i := 7) sc_L_right.nd rfl (Or.inl rfl))) (fun _ _ _ _ _ => pts_nil) (fun _ _ _ _ _ => (pe_dget2 hu (pv 2) (pe_tup (pa_cons (pv 7) (pa_cons (pe_ix ix_tup (pv 3) pe_int (fun _ _ => rfl)) pa_nil))) pe_int ⟨rfl, rfl, rfl, rfl⟩)))
      (pss_cons (ps_if (pt_cmpR (op_neD hr.units) (pe_lc (own := [("account", 7)]) (g := (gName 7)) (tt := tYes) (te := (tMeth T.C_Sheet "balance" (sp_heldB T.C_Sheet) [] E0 (tVar 1) (tCons (tVar 7) (tCons (tOp (rIxT K) (tVar 3) (tC (.int 0))) tNil)))) rfl sc_L_right.nd (pi_list (pv 4)) (blkOk_by (own := [("account", 7)]) (N := ["parts", "sheet", "table", "token", "names", "bonds", "amounts", "account"]) (sc := defScope s_L_right) (by decide +kernel)) (fun _ _ _ _ _ => (pg_name (i := 7) sc_L_right.nd rfl (Or.inl rfl))) (fun _ _ _ _ _ => pts_nil) (fun _ _ _ _ _ => (pe_meth (pv 1) T.cl_Sheet T.m_Sheet_balance (ok_Sheet_balance T) (hr.mono (by decide)) T.b_Sheet_balance .nil pass0 (pa_cons (pv 7) (pa_cons (pe_ix ix_tup (pv 3) pe_int (fun _ _ => rfl)) pa_nil))))) (pv 6) (nomark _)) (pss_one (ps_ret pe_bl)) pss_nil)
      (pss_cons (ps_if (pt_not (pt_val (pe_call (ok_L_same T) (hr.mono (by decide)) (by rfl) T.g_L_same T.F_L_same.kp T.b_L_same .nil pass0 (pa_cons (pe_meth (pv 1) T.cl_Sheet T.m_Sheet_circulating (ok_Sheet_circulating T) (hr.mono (by decide)) T.b_Sheet_circulating .nil pass0 (pa_cons (pe_ix ix_tup (pv 3) pe_int (fun _ _ => rfl)) pa_nil)) (pa_cons (pe_op op_add (pe_callB (cr_sum rfl) (by rfl) T.z_sum boot_sum (pa_cons (pv 6) pa_nil)) (pe_callB (cr_sum rfl) (by rfl) T.z_sum boot_sum (pa_cons (pv 5) pa_nil))) pa_nil))))) (pss_one (ps_ret pe_bl)) pss_nil)
      (pss_one (ps_if (pt_not (pt_val (pe_call (ok_L_same T) (hr.mono (by decide)) (by rfl) T.g_L_same T.F_L_same.kp T.b_L_same .nil pass0 (pa_cons (pe_meth (pv 1) T.cl_Sheet T.m_Sheet_vault (ok_Sheet_vault T) (hr.mono (by decide)) T.b_Sheet_vault .nil pass0 (pa_cons (pe_ix ix_tup (pv 3) pe_int (fun _ _ => rfl)) pa_nil)) (pa_cons (pe_dget2 hu (pv 2) (pe_tup (pa_cons pe_str (pa_cons (pe_ix ix_tup (pv 3) pe_int (fun _ _ => rfl)) pa_nil))) pe_int ⟨rfl, rfl, rfl, rfl⟩) pa_nil))))) (pss_one (ps_ret pe_bl)) pss_nil)))))))))
      (pss_one (ps_ret (pe_cmpR op_eq (pe_meth (pv 1) T.cl_Sheet T.m_Sheet_balance (ok_Sheet_balance T) (hr.mono (by decide)) T.b_Sheet_balance .nil pass0 (pa_cons pe_str (pa_cons (pe_ix ix_tup (pe_ix ix_list (pe_dget hu (pv 0) pe_str (fun _ _ => rfl)) pe_int (fun _ _ => rfl)) pe_int (fun _ _ => rfl)) pa_nil))) pe_int (nomark _))))), ?_⟩
    (dsimp only [cxOf, Cx.nox, Cx.wish, L2.start, List.map, List.length, List.replicate, List.cons_append, List.nil_append, List.append_eq, Nat.reduceSub, Nat.reduceAdd])
    walk_at "my_rd"
    refine q_dGetS hp.dict (by (repeat first | rfl | rw [valV_cons, if_pos rfl] | rw [valV_cons, if_neg (by decide +kernel)])) ?_
    refine q_forL (sqL hp.tl) (fun i σ H' => ∃ (v3 v4 v5 v6 v7 : Option V), σ = [some (.ref d), some (.ref x), some (.ref tb), v3, v4, v5, v6, v7] ∧ Same H H') ⟨_, _, _, _, _, rfl, Same.refl _⟩ (fun i σ H' _ ⟨_, _, _, _, _, _, sm⟩ => sqL (sm _ _ hp.tl)) ?_ ?_
    · rintro i v σ H1 hv ⟨v3, v4, v5, v6, v7, rfl, sm⟩
      obtain ⟨t, tk, ht, rfl, htk0⟩ := hp.tr.item hv
      have htk : H1 tk = some (.tup [.str t.name, .str t.home, .int t.scale, .int t.limit, .int t.large]) := sm _ _ htk0
      have hgb1 : H1 ga = some (.tup [.str g0.1, .int g0.2]) := sm _ _ hgb
      walk_at "my_rd"
      refine q_dGetS (sm _ _ hp.dict) (by (repeat first | rfl | rw [valV_cons, if_pos rfl] | rw [valV_cons, if_neg (by decide +kernel)])) ?_
      walk_at "my_rd"
      refine q_ixTt (sm _ _ hp.gt) (at_int (n := 0) rfl hga) ?_
      walk_at "my_rd"
      rw [hgz]
      refine q_lstK (Nat.le_of_ble_eq_true rfl) fun NM nNM => ?_
      walk_at "my_rd"
      have smA := Same.trans sm (Same.up (w := .lst [.str "ann", .str "bob", .str "cyd", .str z]) (Same.refl H1) nNM)
      have hNM : upd H1 NM (.lst [.str "ann", .str "bob", .str "cyd", .str z]) NM = some (.lst ((nsL z).map V.str)) := upd_same
      have htk := upd_new (w := .lst [.str "ann", .str "bob", .str "cyd", .str z]) nNM htk
      generalize upd H1 NM (.lst [.str "ann", .str "bob", .str "cyd", .str z]) = H2 at smA hNM htk
      refine q_lcL (sqL hNM) (fun D nD => ⟨fun j H3 => Same H2 H3 ∧ H3 D = some (.lst ((((nsL z).take j).map fun a => tget kvs (kD a t.name)).map V.int)), ⟨Same.new (Same.refl _) nD, upd_same⟩, fun j H3 _ h => sqL (h.1 _ _ hNM), ?_, ?_⟩)
      · rintro j v H3 hv ⟨sm3, hD⟩
        obtain ⟨a, ha, rfl⟩ := str_at hv
        have htk3 := sm3 _ _ htk
        walk_at "my_rd"
        refine ⟨rfl, ?_⟩
        walk_at "my_rd"
        refine q_dG2aT (sm3 _ _ (smA _ _ hT)) ?_
        walk_at "my_rd"
        refine q_tupK (Nat.le_of_ble_eq_true rfl) fun k1 nk1 => ?_
        walk_at "my_rd"
        refine q_dG2T (k := kD a t.name) (upd_new nk1 (sm3 _ _ (smA _ _ hT))) upd_same ?_
        rw [tget_getD hR.i]
        refine q_accK (upd_new nk1 hD) (by rw [List.length_map, List.length_map, List.length_take]; exact small1000 (by show min j 4 ≤ 1000; omega)) ⟨Same.new (Same.up sm3 nk1) nD, ?_⟩
        rw [upd_same, take_snoc ha, List.map_append, List.map_append]
        rfl
      · rintro H3 ⟨sm3, hD⟩
        change H3 D = some (.lst (((nsL z).map fun a => tget kvs (kD a t.name)).map V.int)) at hD
        have hNM := sm3 _ _ hNM
        have smA := Same.trans smA sm3
        have htk := sm3 _ _ htk
        walk_at "my_rd"
        refine q_lcL (sqL hNM) (fun F nF => ⟨fun j H4 => Same H3 H4 ∧ H4 F = some (.lst ((((nsL z).take j).map fun a => heldT S.bon t.name a).map V.int)), ⟨Same.new (Same.refl _) nF, upd_same⟩, fun j H4 _ h => sqL (h.1 _ _ hNM), ?_, ?_⟩)
        · rintro j v H4 hv ⟨sm4, hF⟩
          obtain ⟨a, ha, rfl⟩ := str_at hv
          have htk4 := sm4 _ _ htk
          have hS4 := hS.same (Same.trans smA sm4)
          obtain ⟨dx, fs, ho, h2, h3, h4, h5, h6, h7, h8⟩ := hS4.ex
          walk_at "my_rd"
          refine ⟨rfl, ?_⟩
          walk_at "my_rd"
          refine q_methK ho (h7 _ (by decide +kernel)) fun R hRR => ?_
          walk_at "my_rd"
          refine hRR _ _ ⟨x, S, a, t.name, rfl, hS4, fun H5 sm5 => ?_⟩
          refine q_accK (sm5 _ _ hF) (by rw [List.length_map, List.length_map, List.length_take]; exact small1000 (by show min j 4 ≤ 1000; omega)) ⟨Same.new (Same.trans sm4 sm5) nF, ?_⟩
          rw [upd_same, take_snoc ha, List.map_append, List.map_append]
          rfl
        · rintro H4 ⟨sm4, hF⟩
          change H4 F = some (.lst (((nsL z).map fun a => heldT S.bon t.name a).map V.int)) at hF
          have e1 : ((nsL z).map fun a => heldT S.bon t.name a) = (nsL z).map fun a => tget kvs (kD a t.name) := List.map_congr_left fun a ha => (hR.d a ha t.name).symm
          rw [e1] at hF
          have hNM := sm4 _ _ hNM
          have smA := Same.trans smA sm4
          have htk := sm4 _ _ htk
          have hD := sm4 _ _ hD
          walk_at "my_rd"
          refine q_neD (d := .list (((nsL z).map fun a => tget kvs (kD a t.name)).map PyData.int)) (e := .list (((nsL z).map fun a => tget kvs (kD a t.name)).map PyData.int)) (.lst (sqL hF) (ints_dp _)) (.lst (sqL hD) (ints_dp _)) (ints_shaped _) (ints_shaped _) ?_
          rw [SeqAt.eqv_refl _ (ints_lay _)]
          walk_at "my_rd"
          refine q_lcL (sqL hNM) (fun B nB => ⟨fun j H5 => Same H4 H5 ∧ H5 B = some (.lst ((((nsL z).take j).map fun a => tget kvs (kB a t.name)).map V.int)), ⟨Same.new (Same.refl _) nB, upd_same⟩, fun j H5 _ h => sqL (h.1 _ _ hNM), ?_, ?_⟩)
          · rintro j v H5 hv ⟨sm5, hB⟩
            obtain ⟨a, ha, rfl⟩ := str_at hv
            have htk5 := sm5 _ _ htk
            walk_at "my_rd"
            refine ⟨rfl, ?_⟩
            walk_at "my_rd"
            refine q_dG2aT (sm5 _ _ (smA _ _ hT)) ?_
            walk_at "my_rd"
            refine q_tupK (Nat.le_of_ble_eq_true rfl) fun k1 nk1 => ?_
            walk_at "my_rd"
            refine q_dG2T (k := kB a t.name) (upd_new nk1 (sm5 _ _ (smA _ _ hT))) upd_same ?_
            rw [tget_getD hR.i]
            refine q_accK (upd_new nk1 hB) (by rw [List.length_map, List.length_map, List.length_take]; exact small1000 (by show min j 4 ≤ 1000; omega)) ⟨Same.new (Same.up sm5 nk1) nB, ?_⟩
            rw [upd_same, take_snoc ha, List.map_append, List.map_append]
            rfl
          · rintro H5 ⟨sm5, hB⟩
            change H5 B = some (.lst (((nsL z).map fun a => tget kvs (kB a t.name)).map V.int)) at hB
            have hNM := sm5 _ _ hNM
            have smA := Same.trans smA sm5
            have htk := sm5 _ _ htk
            have hD := sm5 _ _ hD
            walk_at "my_rd"
            refine q_lcL (sqL hNM) (fun G nG => ⟨fun j H6 => Same H5 H6 ∧ H6 G = some (.lst ((((nsL z).take j).map fun a => heldT S.bal t.name a).map V.int)), ⟨Same.new (Same.refl _) nG, upd_same⟩, fun j H6 _ h => sqL (h.1 _ _ hNM), ?_, ?_⟩)
            · rintro j v H6 hv ⟨sm6, hG⟩
              obtain ⟨a, ha, rfl⟩ := str_at hv
              have htk6 := sm6 _ _ htk
              have hS6 := hS.same (Same.trans smA sm6)
              obtain ⟨dx, fs, ho, h2, h3, h4, h5, h6, h7, h8⟩ := hS6.ex
              walk_at "my_rd"
              refine ⟨rfl, ?_⟩
              walk_at "my_rd"
              refine q_methK ho (h7 _ (by decide +kernel)) fun R hRR => ?_
              walk_at "my_rd"
              refine hRR _ _ ⟨x, S, a, t.name, rfl, hS6, fun H7 sm7 => ?_⟩
              refine q_accK (sm7 _ _ hG) (by rw [List.length_map, List.length_map, List.length_take]; exact small1000 (by show min j 4 ≤ 1000; omega)) ⟨Same.new (Same.trans sm6 sm7) nG, ?_⟩
              rw [upd_same, take_snoc ha, List.map_append, List.map_append]
              rfl
            · rintro H6 ⟨sm6, hG⟩
              change H6 G = some (.lst (((nsL z).map fun a => heldT S.bal t.name a).map V.int)) at hG
              have e2 : ((nsL z).map fun a => heldT S.bal t.name a) = (nsL z).map fun a => tget kvs (kB a t.name) := List.map_congr_left fun a ha => (hR.b a ha t.name).symm
              rw [e2] at hG
              have smA := Same.trans smA sm6
              have htk := sm6 _ _ htk
              have hD := sm6 _ _ hD
              have hB := sm6 _ _ hB
              have hS6 := hS.same smA
              obtain ⟨dx, fs, ho, h2, h3, h4, h5, h6, h7, h8⟩ := hS6.ex
              walk_at "my_rd"
              refine q_neD (d := .list (((nsL z).map fun a => tget kvs (kB a t.name)).map PyData.int)) (e := .list (((nsL z).map fun a => tget kvs (kB a t.name)).map PyData.int)) (.lst (sqL hG) (ints_dp _)) (.lst (sqL hB) (ints_dp _)) (ints_shaped _) (ints_shaped _) ?_
              rw [SeqAt.eqv_refl _ (ints_lay _)]
              walk_at "my_rd"
              refine q_methK ho (h7 _ (by decide +kernel)) fun R hRR => ?_
              walk_at "my_rd"
              refine hRR _ _ ⟨x, S, t.name, rfl, hS6, fun H7 sm7 => ?_⟩
              walk_at "my_rd"
              refine q_sum (sqL (sm7 _ _ hB)) ?_
              walk_at "my_rd"
              refine q_sum (sqL (sm7 _ _ hD)) ?_
              walk_at "my_rd"
              have e3 : rowSum (rowOf S.bal t.name) + rowSum (rowOf S.bon t.name) = ((nsL z).map fun a => tget kvs (kB a t.name)).sum + ((nsL z).map fun a => tget kvs (kD a t.name)).sum := by
                rw [rowSum_names nd (hR.rb t.name), rowSum_names nd (hR.rd t.name), ← e1, ← e2]
                rfl
              rw [e3]
              refine .inl ⟨_, rfl, rfl, ?_⟩
              walk_at "my_rd"
              have smA := Same.trans smA sm7
              have htk := sm7 _ _ htk
              have hS7 := hS.same smA
              obtain ⟨dx, fs, ho, h2, h3, h4, h5, h6, h7, h8⟩ := hS7.ex
              refine q_methK ho (h7 _ (by decide +kernel)) fun R hRR => ?_
              walk_at "my_rd"
              refine hRR _ _ ⟨x, S, t.name, rfl, hS7, ?_⟩
              walk_at "my_rd"
              refine q_dG2aT (smA _ _ hT) ?_
              walk_at "my_rd"
              refine q_tupK (Nat.le_of_ble_eq_true rfl) fun k1 nk1 => ?_
              walk_at "my_rd"
              refine q_dG2T (k := kB "" t.name) (upd_new nk1 (smA _ _ hT)) upd_same ?_
              rw [tget_getD hR.i, hR.v]
              walk_at "my_rd"
              refine .inl ⟨_, rfl, rfl, ?_⟩
              walk_at "my_rd"
              exact ⟨_, _, _, _, _, rfl, Same.up smA nk1⟩
    · rintro σ H1 ⟨v3, v4, v5, v6, v7, rfl, sm⟩
      have hS1 := hS.same sm
      obtain ⟨dx, fs, ho, h2, h3, h4, h5, h6, h7, h8⟩ := hS1.ex
      obtain ⟨t0, ht0⟩ : ∃ t0, c.toks[0]? = some t0 := by
        cases q : c.toks with
        | nil => exact absurd q hc.ne
        | cons a r => exact ⟨a, rfl⟩
      obtain ⟨ta, hta, htb0⟩ := hp.tr.at_ 0 t0 ht0
      have htb : H1 ta = some (.tup [.str t0.name, .str t0.home, .int t0.scale, .int t0.limit, .int t0.large]) := sm _ _ htb0
      walk_at "my_rd"
      refine q_methK ho (h7 _ (by decide +kernel)) fun R hRR => ?_
      walk_at "my_rd"
      refine q_dGetS (sm _ _ hp.dict) (by (repeat first | rfl | rw [valV_cons, if_pos rfl] | rw [valV_cons, if_neg (by decide +kernel)])) ?_
      walk_at "my_rd"
      refine q_ixLt (sm _ _ hp.tl) (at_int (n := 0) rfl hta) ?_
      walk_at "my_rd"
      refine hRR _ _ ⟨x, S, "nobody", t0.name, rfl, hS1, fun H2 sm2 => ?_⟩
      walk_at "my_rd"
      have e0 : heldT S.bal t0.name "nobody" = 0 := getRow_no fun m => by
        obtain ⟨q, hq, e⟩ := List.mem_map.mp m
        exact nob (e ▸ (hR.rb t0.name).sub q hq)
      rw [e0]
      exact k _ (Same.trans sm sm2)
end

/-! what stays -/
theorem rows_ne {α : Type} {f : α → List V} {H : Hp} {a p l : Addr} {xs : List V} {rs : List α} (h : RowsAt f H xs rs) (ha : H a = some (.lst xs)) (pot : PotAt H p l) : a ≠ p := by
  rintro rfl
  obtain ⟨ns, i, c, s, h1, _⟩ := pot
  rw [ha] at h1
  injection h1 with h1
  injection h1 with h1
  subst h1
  obtain ⟨r, b, _, e, _⟩ := h.item (i := 1) rfl
  cases e
theorem PotAt.lst {H : Hp} {p l : Addr} (h : PotAt H p l) : ∃ xs, H p = some (.lst xs) := by
  obtain ⟨ns, i, c, s, h1, _⟩ := h; exact ⟨_, h1⟩
theorem PotAt.keep {H H' : Hp} {p l : Addr} (h : PotAt H p l) (k : ∀ b xs, H b = some (.lst xs) → H' b = some (.lst xs)) : PotAt H' p l := by
  obtain ⟨ns, i, c, s, h1, h2, r⟩ := h; exact ⟨ns, i, c, s, k _ _ h1, k _ _ h2, r⟩
theorem PartsAt.pot {H H' : Hp} {d : Addr} {c : Parts} {gs : Gs} {tl bl g : Addr} {tv bv gv : List V} {p l : Addr} (h : PartsAt H d c gs tl bl g tv bv gv) (pot : PotAt H p l) (k : Kp p H H') : PartsAt H' d c gs tl bl g tv bv gv := by
  obtain ⟨xs, hx⟩ := pot.lst
  exact ⟨k.get h.dict (ne_of h.dict hx (by intro z; cases z)), k.get h.tl (rows_ne h.tr h.tl pot), h.tr.pot pot k, k.get h.bl (rows_ne h.br h.bl pot), h.br.pot pot k, k.tup pot h.gt, h.gp.kp pot k⟩
theorem CfgAt.pot {C : Addr} {c : Parts} {g : Addr} {H H' : Hp} {x p l : Addr} (h : CfgAt C c g H x) (pot : PotAt H p l) (k : Kp p H H') : CfgAt C c g H' x := by
  obtain ⟨xs, hx⟩ := pot.lst
  obtain ⟨dx, fs, td, bl, kvs, bv, h1, h2, h3, h4, h5, h6, h7, h8, h9, h10, h11, h12, h13⟩ := h.ex
  exact ⟨dx, fs, td, bl, kvs, bv, k.get h1 (ne_of h1 hx (by intro z; cases z)), h2, h3, h4, h5, h6, h7, h8, h9, k.get h10 (ne_of h10 hx (by intro z; cases z)), h11.mono fun b ys q => k.tup pot q, k.get h12 (rows_ne h13 h12 pot), h13.pot pot k⟩
theorem ShAt.footK {C x : Addr} {H : Hp} {S : Sh} (h : ShAt C H x S) {b : Addr} (hb : b ∈ S.foot) : ∃ kvs, H b = some (.dK kvs) := by
  rcases foot_of hb with m | m | m
  · exact h.b.free m
  · exact h.d.free m
  · subst m; exact ⟨_, h.v⟩
theorem ShAt.keep {C x : Addr} {H H' : Hp} {S : Sh} (h : ShAt C H x S) (hx : ∀ o, H x = some o → H' x = some o) (hf : ∀ b ∈ S.foot, ∀ o, H b = some o → H' b = some o) : ShAt C H' x S := by
  obtain ⟨dx, fs, h1, h2⟩ := h.ex
  exact ⟨⟨dx, fs, hx _ h1, h2⟩, h.b.mono (fun o q => hf _ (foot_b List.mem_cons_self) o q) (fun b hb o q => hf _ (foot_b (List.mem_cons_of_mem _ hb)) o q),
    h.d.mono (fun o q => hf _ (foot_d List.mem_cons_self) o q) (fun b hb o q => hf _ (foot_d (List.mem_cons_of_mem _ hb)) o q), hf _ foot_v _ h.v, h.n1, h.n2, h.n3⟩
theorem ShAt.out {C x a : Addr} {H H' : Hp} {S : Sh} {o : HO} (h : ShAt C H x S) (ha : H a = some o) (n1 : ∀ dx fs, o ≠ .ins C dx fs) (n2 : ∀ kvs, o ≠ .dK kvs) (k : Kp a H H') : ShAt C H' x S := by
  obtain ⟨dx, fs, h1, h2⟩ := h.ex
  refine h.keep (fun o' q => k.get q fun e => ?_) (fun b hb o' q => k.get q fun e => ?_)
  · subst e
    rw [h1] at ha
    exact n1 dx fs (Option.some.inj ha).symm
  · subst e
    obtain ⟨kvs, q2⟩ := h.footK hb
    rw [q2] at ha
    exact n2 kvs (Option.some.inj ha).symm
/-- what the law's loop keeps -/
structure LI (C : Addr) (H0 : Hp) (p l x tb kl y t1 cf : Addr) (S S1 : Sh) (kvs kvs1 : TTab) (H : Hp) : Prop where
  pot : PotAt H p l
  kp : Kp p H0 H
  sh : ShAt C H x S
  sc : S.cf = cf
  sf : ∀ b ∈ S.foot, H0 b = none
  tb : H tb = some (.dT kvs)
  kl : H kl = some (.lst [.ref y, .ref t1])
  s1 : ShAt C H y S1
  t1 : H t1 = some (.dT kvs1)
  dj : ∀ b ∈ S1.foot, b ∉ S.foot
section
variable {C p l x tb kl y t1 cf : Addr} {H0 H H' : Hp} {S S1 : Sh} {kvs kvs1 : TTab}
theorem LI.same (h : LI C H0 p l x tb kl y t1 cf S S1 kvs kvs1 H) (e : Same H H') : LI C H0 p l x tb kl y t1 cf S S1 kvs kvs1 H' :=
  ⟨h.pot.same e, Kp.trans h.kp (Same.kp e), h.sh.same e, h.sc, h.sf, e _ _ h.tb, e _ _ h.kl, h.s1.same e, e _ _ h.t1, h.dj⟩
theorem LI.next (h : LI C H0 p l x tb kl y t1 cf S S1 kvs kvs1 H) (n : kl ≠ p) (k : Kp p H H') (pot : PotAt H' p l) : LI C H0 p l x tb kl y t1 cf S S1 kvs kvs1 H' := by
  obtain ⟨xs, hx⟩ := h.pot.lst
  exact ⟨pot, Kp.trans h.kp k, h.sh.out hx (fun _ _ => by intro z; cases z) (fun _ => by intro z; cases z) k, h.sc, h.sf, k.get h.tb (ne_of h.tb hx (by intro z; cases z)), k.get h.kl n,
    h.s1.out hx (fun _ _ => by intro z; cases z) (fun _ => by intro z; cases z) k, k.get h.t1 (ne_of h.t1 hx (by intro z; cases z)), h.dj⟩
theorem LI.tab {kvs' : TTab} (h : LI C H0 p l x tb kl y t1 cf S S1 kvs kvs1 H) (n : t1 ≠ tb) (f : H0 tb = none) (k : Kp tb H H') (e : H' tb = some (.dT kvs')) : LI C H0 p l x tb kl y t1 cf S S1 kvs' kvs1 H' := by
  refine ⟨h.pot.keep fun b xs q => k.get q (ne_of q h.tb (by intro z; cases z)), fun b o q n2 => k.get (h.kp b o q n2) (ne_of_none q f), h.sh.out h.tb (fun _ _ => by intro z; cases z) (fun _ => by intro z; cases z) k, h.sc, h.sf, e, k.get h.kl (ne_of h.kl h.tb (by intro z; cases z)),
    h.s1.out h.tb (fun _ _ => by intro z; cases z) (fun _ => by intro z; cases z) k, k.get h.t1 n, h.dj⟩
theorem LI.none0 (h : LI C H0 p l x tb kl y t1 cf S S1 kvs kvs1 H) {b : Addr} (q : H b = none) : H0 b = none := by
  cases e : H0 b with
  | none => rfl
  | some o =>
    obtain ⟨xs, hx⟩ := h.pot.lst
    rw [h.kp b o e (fun z => by rw [z, hx] at q; cases q)] at q
    cases q
theorem LI.sheet {S' : Sh} (h : LI C H0 p l x tb kl y t1 cf S S1 kvs kvs1 H) (st : ShTo C H x S H' S') : LI C H0 p l x tb kl y t1 cf S' S1 kvs kvs1 H' := by
  have out : ∀ b o, H b = some o → (∀ kvs, o ≠ .dK kvs) → H' b = some o := fun b o q n => st.kp b o q fun m => by
    obtain ⟨kvs, e⟩ := h.sh.footK m
    rw [e] at q
    exact n kvs (Option.some.inj q).symm
  obtain ⟨dy, fy, hy, _⟩ := h.s1.ex
  refine ⟨h.pot.keep fun b xs q => out _ _ q (by intro _ z; cases z), fun b o q n2 => st.kp b o (h.kp b o q n2) (fun m => absurd (h.sf b m) (by rw [q]; intro z; cases z)), st.at_, st.cf.trans h.sc, fun b hb => ?_, out _ _ h.tb (by intro _ z; cases z), out _ _ h.kl (by intro _ z; cases z),
    h.s1.keep (fun o q => out _ _ q fun kvs z => (by rw [hy] at q; injection q with q; rw [← q] at z; cases z)) (fun b hb o q => st.kp b o q (h.dj b hb)), out _ _ h.t1 (by intro _ z; cases z), fun b hb m => ?_⟩
  · rcases st.ft b hb with m | m
    · exact h.sf b m
    · exact h.none0 m
  · rcases st.ft b m with q | q
    · exact h.dj b hb q
    · obtain ⟨kvs, e⟩ := h.s1.footK hb
      rw [e] at q; cases q
theorem LI.copy {x' : Addr} {S' : Sh} (h : LI C H0 p l x tb kl y t1 cf S S1 kvs kvs1 H) (e : Same H H') (a : ShAt C H' x' S') (ec : S'.cf = S.cf) (f : ∀ b ∈ S'.foot, H b = none) : LI C H0 p l x' tb kl y t1 cf S' S1 kvs kvs1 H' :=
  ⟨h.pot.same e, Kp.trans h.kp (Same.kp e), a, ec.trans h.sc, fun b hb => h.none0 (f b hb), e _ _ h.tb, e _ _ h.kl, h.s1.same e, e _ _ h.t1, fun b hb m => by
    obtain ⟨kvs, q⟩ := h.s1.footK hb
    rw [f b m] at q; cases q⟩
end
/-! calls and the table together -/
theorem rfd_T {z a : Str} {t : TokR} {S : Sh} {kvs : TTab} {kd i : Int} (h : Rel (nsL z) S.bal S.bon S.vau kvs) (ha : a ∈ nsL z) : rfdT kvs kd a t i ↔ rfd S kd a t i := by
  unfold rfdT rfd
  rw [h.b a ha, h.d a ha, h.v]
theorem Nxt.nr {a b : Str} {t : TokR} {i kd : Int} {S S' : Sh} (h : Nxt a b t i kd S S') : ¬ rfd S kd a t i := by
  unfold rfd
  cases h <;> omega
theorem Nxt.big {a b : Str} {t : TokR} {i kd : Int} {S S' : Sh} (h : Nxt a b t i kd S S') {n m : Nat} (hB : TabB n S.bal) (hD : TabB n S.bon) (hV : S.vau.length ≤ m) : TabB (n + 2) S'.bal ∧ TabB (n + 2) S'.bon ∧ S'.vau.length ≤ m + 1 := by
  have put : ∀ (r : Row) (x : Str) (j : Int), r.length ≤ m → (putRow r x j).length ≤ m + 1 := fun r x j q => Nat.le_trans (putRow_len _ _ _) (Nat.succ_le_succ q)
  cases h with
  | move _ e1 e2 e3 => rw [e1, e2, e3]; exact ⟨(hB.put _ _ _).put _ _ _, hD.mono (by omega), by omega⟩
  | lock _ e1 e2 e3 => rw [e1, e2, e3]; exact ⟨(hB.put _ _ _).mono (by omega), hD.mono (by omega), put _ _ _ hV⟩
  | rel _ e1 e2 e3 => rw [e1, e2, e3]; exact ⟨(hB.put _ _ _).mono (by omega), hD.mono (by omega), put _ _ _ hV⟩
  | mint e1 e2 e3 => rw [e1, e2, e3]; exact ⟨(hB.put _ _ _).mono (by omega), hD.mono (by omega), by omega⟩
  | burn _ e1 e2 e3 => rw [e1, e2, e3]; exact ⟨(hB.put _ _ _).mono (by omega), hD.mono (by omega), by omega⟩
  | bond _ e1 e2 e3 => rw [e1, e2, e3]; exact ⟨(hB.put _ _ _).mono (by omega), (hD.put _ _ _).mono (by omega), by omega⟩
  | unbond _ e1 e2 e3 => rw [e1, e2, e3]; exact ⟨(hB.put _ _ _).mono (by omega), (hD.put _ _ _).mono (by omega), by omega⟩
theorem TNx.len {a b : Str} {t : TokR} {i kd : Int} {kvs kvs' : TTab} (h : TNx a b t i kvs kd kvs') : kvs'.length ≤ kvs.length + 2 := by
  cases h with
  | move _ => have := tAdd_len (tSub kvs (kB a t.name) i) (kB b t.name) i; have := tSub_len kvs (kB a t.name) i; omega
  | lock _ => have := tAdd_len (tSub kvs (kB a t.name) (i * t.scale)) (kB "" t.name) (i * t.scale); have := tSub_len kvs (kB a t.name) (i * t.scale); omega
  | rel _ => have := tAdd_len (tSub kvs (kB "" t.name) (i * t.scale)) (kB a t.name) (i * t.scale); have := tSub_len kvs (kB "" t.name) (i * t.scale); omega
  | mint => have := tAdd_len kvs (kB a t.name) i; omega
  | burn _ => have := tSub_len kvs (kB a t.name) i; omega
  | bond _ => have := tAdd_len (tSub kvs (kB a t.name) i) (kD a t.name) i; have := tSub_len kvs (kB a t.name) i; omega
  | unbond _ => have := tSub_len (tAdd kvs (kB a t.name) i) (kD a t.name) i; have := tAdd_len kvs (kB a t.name) i; omega
theorem TNx.nr {a b : Str} {t : TokR} {i kd : Int} {kvs kvs' : TTab} (h : TNx a b t i kvs kd kvs') : ¬ rfdT kvs kd a t i := by
  unfold rfdT
  cases h <;> omega
theorem TNx.rel' {z a b : Str} {t : TokR} {i kd : Int} {S S' : Sh} {kvs kvs' : TTab} (h : Rel (nsL z) S.bal S.bon S.vau kvs) (ha : a ∈ nsL z) (hb : b ∈ nsL z) (n : Nxt a b t i kd S S') (m : TNx a b t i kvs kd kvs') : Rel (nsL z) S'.bal S'.bon S'.vau kvs' := by
  cases m with
  | move _ =>
    cases n with
    | move _ e1 e2 e3 => rw [e1, e2, e3]; exact (h.putB ha t.name (-i) _ (by omega)).putB hb t.name i _ rfl
  | lock _ =>
    cases n with
    | lock _ e1 e2 e3 =>
      rw [e1, e2, e3]
      have h1 := h.putB ha t.name (-(i * t.scale)) (tget kvs (kB a t.name) - i * t.scale) (by omega)
      exact h1.putV t.name _ _ (by rw [show tget (tSub kvs (kB a t.name) (i * t.scale)) (kB "" t.name) = getRow S.vau t.name from h1.v t.name])
  | rel _ =>
    cases n with
    | rel _ e1 e2 e3 =>
      rw [e1, e2, e3]
      have h1 := h.putV t.name (getRow S.vau t.name - i * t.scale) (tget kvs (kB "" t.name) - i * t.scale) (by rw [h.v])
      exact h1.putB ha t.name (i * t.scale) _ rfl
  | mint =>
    cases n with
    | mint e1 e2 e3 => rw [e1, e2, e3]; exact h.putB ha t.name i _ rfl
  | burn _ =>
    cases n with
    | burn _ e1 e2 e3 => rw [e1, e2, e3]; exact h.putB ha t.name (-i) _ (by omega)
  | bond _ =>
    cases n with
    | bond _ e1 e2 e3 => rw [e1, e2, e3]; exact (h.putB ha t.name (-i) _ (by omega)).putD ha t.name i _ rfl
  | unbond _ =>
    cases n with
    | unbond _ e1 e2 e3 => rw [e1, e2, e3]; exact (h.putB ha t.name i _ rfl).putD ha t.name (-i) _ Int.sub_eq_add_neg
theorem Rel.copy {ns : List Str} {bal bon : Tab2} {vau : Row} {kvs kvs1 : TTab} (h : Rel ns bal bon vau kvs) (e : ∀ k, valV kvs1 k = valV kvs k) : Rel ns bal bon vau kvs1 := by
  have e2 : ∀ k, tget kvs1 k = tget kvs k := fun k => by unfold tget; rw [e]
  exact ⟨fun k v q => h.i k v (by rw [← e]; exact q), fun a ha t => by rw [e2]; exact h.b a ha t, fun a ha t => by rw [e2]; exact h.d a ha t, fun t => by rw [e2]; exact h.v t, h.e, h.rb, h.rd, h.nb, h.nd⟩
theorem filter_tok {ts : List TokR} (h : (ts.map TokR.name).Nodup) {t : TokR} (ht : t ∈ ts) : (ts.filter fun u => decide (u.name = t.name)) = [t] := by
  induction ts with
  | nil => cases ht
  | cons u r ih =>
    rw [List.map_cons, List.nodup_cons] at h
    rcases List.mem_cons.mp ht with e | e
    · subst e
      rw [List.filter_cons_of_pos (by rw [decide_eq_true rfl])]
      have : (r.filter fun u => decide (u.name = t.name)) = [] := List.filter_eq_nil_iff.mpr fun u hu => by
        rw [decide_eq_false]
        · exact Bool.false_ne_true
        · intro q
          exact h.1 (List.mem_map.mpr ⟨u, hu, q⟩)
      rw [this]
    · rw [List.filter_cons_of_neg, ih h.2 e]
      rw [decide_eq_false]
      · exact Bool.false_ne_true
      · intro q
        exact h.1 (List.mem_map.mpr ⟨t, e, q.symm⟩)

local macro_rules | `(tactic| walk_at "my_rd") => `(tactic| (repeat first
  | with_reducible refine q_tCons ?_
  | ((with_reducible apply q_var); (focus (exact rfl)))
  | with_reducible refine q_c ?_
  | with_reducible refine q_nx ?_
  | with_reducible refine q_bK ?_
  | with_reducible refine q_call ?_
  | with_reducible refine q_callK ?_
  | with_reducible refine q_tNil ?_
  | with_reducible refine q_cb ?_
  | with_reducible refine q_seq ?_
  | with_reducible refine q_asg ?_
  | with_reducible refine q_gName ?_
  | with_reducible refine q_op ?_
  | with_reducible refine q_test ?_
  | with_reducible refine q_tB ?_
  | with_reducible refine q_ifS ?_
  | with_reducible refine q_ret ?_
  | with_reducible refine q_rt ?_
  | with_reducible refine q_next ?_
  | with_reducible refine q_ifF ?_
  | with_reducible refine q_ifT ?_
  | with_reducible refine q_drop ?_
  | with_reducible refine q_and ?_
  | with_reducible refine q_or ?_
  | with_reducible refine q_andT ?_
  | with_reducible refine q_andF ?_
  | with_reducible refine q_orF ?_
  | with_reducible refine q_orT ?_
  | with_reducible refine q_andV ?_
  | with_reducible refine q_andVT ?_
  | with_reducible refine q_andVF ?_
  | with_reducible refine q_orV ?_
  | with_reducible refine q_gCons ?_
  | with_reducible refine q_gNil ?_
  | with_reducible refine q_tup ?_
  | with_reducible refine q_lst ?_
  | with_reducible refine q_not ?_
  | with_reducible refine q_notKT ?_
  | with_reducible refine q_notKF ?_
  | with_reducible refine q_I0 ?_
  | with_reducible refine q_eqI ?_
  | with_reducible refine q_neI ?_
  | ((with_reducible refine q_I ?_ ?_); first | decide | omega | exact ⟨by omega, by omega⟩ | exact ⟨by decide, by decide⟩ | exact .inl ⟨by omega, by omega⟩ | exact .inr ⟨by omega, by omega⟩ | exact .inr ⟨by decide, by decide⟩)
  | with_reducible refine q_eqS ?_
  | with_reducible refine q_neS ?_
  | with_reducible refine q_brk ?_
  | with_reducible refine q_ct ?_
  | with_reducible refine q_bk ?_
  | with_reducible refine q_cn ?_
  | with_reducible refine q_retN ?_
  | with_reducible refine q_gSub ?_
  | with_reducible refine q_for ?_
  | with_reducible refine q_iList ?_
  | with_reducible refine q_iTup ?_
  | with_reducible refine q_iRng1 ?_
  | with_reducible refine q_notK ?_
  | with_reducible refine q_orVT ?_
  | with_reducible refine q_orVF ?_
  | with_reducible refine q_notV ?_
  | with_reducible refine q_notVK ?_
  | with_reducible refine q_ifE ?_
  | with_reducible refine q_ifET ?_
  | with_reducible refine q_ifEF ?_
  | with_reducible refine q_yes ?_
  | with_reducible refine q_un ?_
  | with_reducible refine q_rU ?_
  | with_reducible refine q_abs ?_
  | with_reducible refine q_int1 ?_
  | with_reducible refine q_bm ?_
  | with_reducible refine q_bm0 ?_
  | with_reducible refine q_lc ?_
  | with_reducible refine q_keepT ?_
  | with_reducible refine q_keepF ?_
  | ((with_reducible apply q_aug); (focus (exact rfl)))
  | with_reducible refine q_ipI ?_
  | with_reducible refine q_chain ?_
  | with_reducible refine q_pairC ?_
  | with_reducible refine q_pairsK ?_
  | with_reducible refine q_pairN ?_
  | with_reducible refine q_fld ?_
  | with_reducible refine q_sFld ?_
  | with_reducible refine q_meth ?_
  | with_reducible refine q_makeK ?_
  | with_reducible refine q_isBl ?_
  | with_reducible refine q_notBl ?_
  | with_reducible refine q_sl ?_
  | with_reducible refine q_noPart ?_
  | with_reducible refine q_part ?_
  | with_reducible refine q_partK ?_
  | ((with_reducible apply q_mulStr); (focus (decide +kernel)))
  | with_reducible refine q_chT ?_
  | with_reducible refine q_chF ?_
  | with_reducible refine q_ord ?_
  | with_reducible refine q_iStr0 ?_
  | with_reducible refine q_iStr ?_
  | with_reducible refine q_tDIn ?_
  | with_reducible refine q_tDNotIn ?_
  | with_reducible refine q_tDGet ?_
  | with_reducible refine q_tDGet2 ?_
  | with_reducible refine q_tDGet1 ?_
  | with_reducible refine q_tDSetd ?_
  | ((with_reducible apply q_dG2a); (focus ((repeat first | (with_reducible exact upd_same) | (with_reducible assumption) | (with_reducible apply upd_new (by assumption)) | (with_reducible apply upd_other (by first | assumption | exact Ne.symm (by assumption))) | (with_reducible refine' Kp.get (by assumption) ?_ (by first | assumption | exact Ne.symm (by assumption))) | (with_reducible apply Same.get (by assumption))); done)))
  | ((with_reducible apply q_dSda); (focus ((repeat first | (with_reducible exact upd_same) | (with_reducible assumption) | (with_reducible apply upd_new (by assumption)) | (with_reducible apply upd_other (by first | assumption | exact Ne.symm (by assumption))) | (with_reducible refine' Kp.get (by assumption) ?_ (by first | assumption | exact Ne.symm (by assumption))) | (with_reducible apply Same.get (by assumption))); done)))
  | with_reducible refine q_sDPut ?_
  | ((with_reducible apply q_dInS); (focus ((repeat first | (with_reducible exact upd_same) | (with_reducible assumption) | (with_reducible apply upd_new (by assumption)) | (with_reducible apply upd_other (by first | assumption | exact Ne.symm (by assumption))) | (with_reducible refine' Kp.get (by assumption) ?_ (by first | assumption | exact Ne.symm (by assumption))) | (with_reducible apply Same.get (by assumption))); done)))
  | ((with_reducible apply q_dNInS); (focus ((repeat first | (with_reducible exact upd_same) | (with_reducible assumption) | (with_reducible apply upd_new (by assumption)) | (with_reducible apply upd_other (by first | assumption | exact Ne.symm (by assumption))) | (with_reducible refine' Kp.get (by assumption) ?_ (by first | assumption | exact Ne.symm (by assumption))) | (with_reducible apply Same.get (by assumption))); done)))
  | ((with_reducible apply q_dInI); (focus ((repeat first | (with_reducible exact upd_same) | (with_reducible assumption) | (with_reducible apply upd_new (by assumption)) | (with_reducible apply upd_other (by first | assumption | exact Ne.symm (by assumption))) | (with_reducible refine' Kp.get (by assumption) ?_ (by first | assumption | exact Ne.symm (by assumption))) | (with_reducible apply Same.get (by assumption))); done)))
  | ((with_reducible apply q_dNInI); (focus ((repeat first | (with_reducible exact upd_same) | (with_reducible assumption) | (with_reducible apply upd_new (by assumption)) | (with_reducible apply upd_other (by first | assumption | exact Ne.symm (by assumption))) | (with_reducible refine' Kp.get (by assumption) ?_ (by first | assumption | exact Ne.symm (by assumption))) | (with_reducible apply Same.get (by assumption))); done)))
  | ((with_reducible apply q_bmL); (focus ((repeat first | (with_reducible exact upd_same) | (with_reducible assumption) | (with_reducible apply upd_new (by assumption)) | (with_reducible apply upd_other (by first | assumption | exact Ne.symm (by assumption))) | (with_reducible refine' Kp.get (by assumption) ?_ (by first | assumption | exact Ne.symm (by assumption))) | (with_reducible apply Same.get (by assumption))); done)))
  | ((with_reducible apply q_bmL0); (focus ((repeat first | (with_reducible exact upd_same) | (with_reducible assumption) | (with_reducible apply upd_new (by assumption)) | (with_reducible apply upd_other (by first | assumption | exact Ne.symm (by assumption))) | (with_reducible refine' Kp.get (by assumption) ?_ (by first | assumption | exact Ne.symm (by assumption))) | (with_reducible apply Same.get (by assumption))); done)))
  | ((with_reducible apply q_ixLt); (focus ((repeat first | (with_reducible exact upd_same) | (with_reducible assumption) | (with_reducible apply upd_new (by assumption)) | (with_reducible apply upd_other (by first | assumption | exact Ne.symm (by assumption))) | (with_reducible refine' Kp.get (by assumption) ?_ (by first | assumption | exact Ne.symm (by assumption))) | (with_reducible apply Same.get (by assumption))); done)); (focus (exact rfl)))
  | ((with_reducible apply q_ixTt); (focus ((repeat first | (with_reducible exact upd_same) | (with_reducible assumption) | (with_reducible apply upd_new (by assumption)) | (with_reducible apply upd_other (by first | assumption | exact Ne.symm (by assumption))) | (with_reducible refine' Kp.get (by assumption) ?_ (by first | assumption | exact Ne.symm (by assumption))) | (with_reducible apply Same.get (by assumption))); done)); (focus (exact rfl)))
  | ((with_reducible apply q_lenLt); (focus ((repeat first | (with_reducible exact upd_same) | (with_reducible assumption) | (with_reducible apply upd_new (by assumption)) | (with_reducible apply upd_other (by first | assumption | exact Ne.symm (by assumption))) | (with_reducible refine' Kp.get (by assumption) ?_ (by first | assumption | exact Ne.symm (by assumption))) | (with_reducible apply Same.get (by assumption))); done)))
  | ((with_reducible apply q_lenTt); (focus ((repeat first | (with_reducible exact upd_same) | (with_reducible assumption) | (with_reducible apply upd_new (by assumption)) | (with_reducible apply upd_other (by first | assumption | exact Ne.symm (by assumption))) | (with_reducible refine' Kp.get (by assumption) ?_ (by first | assumption | exact Ne.symm (by assumption))) | (with_reducible apply Same.get (by assumption))); done)))
  | ((with_reducible apply q_append); (focus ((repeat first | (with_reducible exact upd_same) | (with_reducible assumption) | (with_reducible apply upd_new (by assumption)) | (with_reducible apply upd_other (by first | assumption | exact Ne.symm (by assumption))) | (with_reducible refine' Kp.get (by assumption) ?_ (by first | assumption | exact Ne.symm (by assumption))) | (with_reducible apply Same.get (by assumption))); done)); (focus ((first | (exact Nat.lt_of_ble_eq_true rfl) | (simp only [List.length_append, List.length_cons, List.length_nil, List.length_map]; exact small1000 (by omega))))))
  | ((with_reducible apply q_setL); (focus ((repeat first | (with_reducible exact upd_same) | (with_reducible assumption) | (with_reducible apply upd_new (by assumption)) | (with_reducible apply upd_other (by first | assumption | exact Ne.symm (by assumption))) | (with_reducible refine' Kp.get (by assumption) ?_ (by first | assumption | exact Ne.symm (by assumption))) | (with_reducible apply Same.get (by assumption))); done)); (focus (exact rfl)))
  | with_reducible refine q_ifNT ?_
  | with_reducible refine q_ifNF ?_
  | with_reducible refine q_andNT ?_
  | with_reducible refine q_andNF ?_
  | with_reducible refine q_orNT ?_
  | with_reducible refine q_orNF ?_
  | with_reducible refine q_bKNT ?_
  | with_reducible refine q_bKNF ?_))
/-! the law of sheets -/
def spLaw (K : PySem.W.Frag) : Sp := fun vs H Q _ => ∃ (a : Addr) (ns : List Int), vs = [.ref a] ∧ SqL K H a (ns.map V.int) ∧ ns.length ≤ 63 ∧ ∀ H', Q (.bl true) H'
theorem sqL_same {K : PySem.W.Frag} {H H' : Hp} {a : Addr} {xs : List V} (e : Same H H') (h : SqL K H a xs) : SqL K H' a xs := by
  rcases h with (h | ⟨o, h⟩) | h
  · exact .inl (.inl (e _ _ h))
  · exact .inl (.inr ⟨o, e _ _ h⟩)
  · exact .inr h
theorem side_sh : ∀ s ∈ sideNames, SeqAt.shaped (.list [.str s]) = true := by decide +kernel
theorem side_eq : ∀ s ∈ sideNames, ∀ s' ∈ sideNames, PyData.eqv (.list [.str s]) (.list [.str s']) = decide (s = s') := by decide +kernel
theorem valV_mem {kvs : TTab} {k : List Key} (h : k ∈ kvs.map (·.1)) : ∃ v, valV kvs k = some v := by
  induction kvs with
  | nil => cases h
  | cons p r ih =>
    obtain ⟨k', v'⟩ := p
    rw [valV_cons]
    by_cases e : k' = k
    · rw [if_pos e]; exact ⟨_, rfl⟩
    · rw [if_neg e]
      exact ih ((List.mem_cons.mp h).resolve_left fun q => e q.symm)
theorem filter_st {α : Type} {p : α → Bool} {xs : List α} {x : α} (h : p x = true) : (xs ++ [x]).filter p = xs.filter p ++ [x] := by
  rw [List.filter_append, List.filter_cons_of_pos h]; rfl
theorem filter_sf {α : Type} {p : α → Bool} {xs : List α} {x : α} (h : p x = false) : (xs ++ [x]).filter p = xs.filter p := by
  rw [List.filter_append, List.filter_cons_of_neg (by rw [h]; exact Bool.false_ne_true), List.filter_nil, List.append_nil]
theorem filter_b {c : Parts} {sd : Str} {b : BalR} {bs : List BalR} : (bs ++ [b]).filter (fun b => decide (c.homeOf b.tok = sd)) = bs.filter (fun b => decide (c.homeOf b.tok = sd)) ++ (if c.homeOf b.tok = sd then [b] else []) := by
  rw [List.filter_append]
  congr 1
  by_cases e : c.homeOf b.tok = sd
  · rw [if_pos e, List.filter_cons_of_pos (by rw [decide_eq_true e])]; rfl
  · rw [if_neg e, List.filter_cons_of_neg (by rw [decide_eq_false e]; exact Bool.false_ne_true)]; rfl
section
variable {P : Program} {w : World} {K : PySem.W.Frag} {mg : Str → Option Value} {base : Heap}
set_option maxHeartbeats 6000000 in
theorem ok_law (T : Txt K mg) : FnOk P w K mg base CX0 9 T.f_law T.d_law ["script"] (spLaw K) := by
  refine T.F_law.ok sc_law (fun vs H Q E h => ?_) (fun cdv A outer s H vs Q E hr h => ?_)
  · obtain ⟨a, ns, rfl, _⟩ := h; rfl
  · obtain ⟨a0, ns0, rfl, hS, hlen, k⟩ := h
    have hu := hu_of hr
    refine ⟨_, (pss_cons (ps_set (i := 1) sc_law.nd rfl (Or.inl rfl) (pe_call (ok_L_pot T) (hr.mono (by decide)) (by rfl) T.g_L_pot T.F_L_pot.kp T.b_L_pot .nil pass0 (pa_cons (pv 0) pa_nil)))
      (pss_cons (ps_set (i := 2) sc_law.nd rfl (Or.inl rfl) (pe_call (ok_L_config T) (hr.mono (by decide)) (by rfl) T.g_L_config T.F_L_config.kp T.b_L_config .nil pass0 (pa_cons (pv 1) pa_nil)))
      (pss_cons (ps_set (i := 3) sc_law.nd rfl (Or.inl rfl) (pe_ix ix_list (pe_lst (pa_cons pe_str (pa_cons pe_str pa_nil))) (pe_call (ok_L_next T) (hr.mono (by decide)) (by rfl) T.g_L_next T.F_L_next.kp T.b_L_next .nil pass0 (pa_cons (pv 1) (pa_cons pe_int pa_nil))) (fun _ _ => rfl)))
      (pss_cons (ps_set (i := 4) sc_law.nd rfl (Or.inl rfl) (pe_make T.mk_Sheet (ok_Sheet_init T) (hr.mono (by decide)) (by rfl) T.g_Sheet T.b_Sheet_init .nil pass0 (pa_cons (pe_call (ok_L_made T) (hr.mono (by decide)) (by rfl) T.g_L_made T.F_L_made.kp T.b_L_made .nil pass0 (pa_cons (pv 2) pa_nil)) (pa_cons (pv 3) pa_nil))))
      (pss_cons (ps_set (i := 5) sc_law.nd rfl (Or.inl rfl) pe_dnewT)
      (pss_cons (ps_for PassesOwn.never rfl (pi_list (pe_dget hu (pv 2) pe_str (fun _ _ => rfl))) (pg_name (i := 6) sc_law.nd rfl (Or.inr rfl))
        (pss_one (ps_if (pt_cmpR (op_eqD hr.units) (pe_lc (own := [("token", 10)]) (g := (gName 10)) (tt := (tTest (tOp rEq (tOp (rIxT K) (tVar 10) (tC (.int 0))) (tOp (rIxT K) (tVar 6) (tC (.int 1)))))) (te := (tOp (rIxT K) (tVar 10) (tC (.int 1)))) rfl sc_law.nd (pi_list (pe_dget hu (pv 2) pe_str (fun _ _ => rfl))) (blkOk_by (own := [("token", 10)]) (N := ["script", "pot", "parts", "side", "sheet", "table", "row", "kept", "place", "k", "token", "kind", "one", "other", "held_v", "amount", "due", "found"]) (sc := defScope s_law) (by decide +kernel)) (fun _ _ _ _ _ => (pg_name (i := 10) sc_law.nd rfl (Or.inl rfl))) (fun _ _ _ _ _ => (pts_one (pt_cmpR op_eq (pe_ix ix_tup (pv 10) pe_int (fun _ _ => rfl)) (pe_ix ix_tup (pv 6) pe_int (fun _ _ => rfl)) (nomark _)))) (fun _ _ _ _ _ => (pe_ix ix_tup (pv 10) pe_int (fun _ _ => rfl)))) (pe_lst (pa_cons (pv 3) pa_nil)) (nomark _)) (pss_one (ps_dput hu (pv 5) (pe_tup (pa_cons (pe_ix ix_tup (pv 6) pe_int (fun _ _ => rfl)) (pa_cons (pe_ix ix_tup (pv 6) pe_int (fun _ _ => rfl)) pa_nil))) (pe_op op_add (pe_dget2 hu (pv 5) (pe_tup (pa_cons (pe_ix ix_tup (pv 6) pe_int (fun _ _ => rfl)) (pa_cons (pe_ix ix_tup (pv 6) pe_int (fun _ _ => rfl)) pa_nil))) pe_int ⟨rfl, rfl, rfl, rfl⟩) (pe_ix ix_tup (pv 6) pe_int (fun _ _ => rfl))) rfl)) pss_nil)))
      (pss_cons (ps_set (i := 7) sc_law.nd rfl (Or.inl rfl) (pe_lst (pa_cons (pv 4) (pa_cons pe_dnewT pa_nil))))
      (pss_cons (ps_lock (ps_for PassesOwn.never rfl (pi_keys (pv 5)) (pg_name (i := 8) sc_law.nd rfl (Or.inl rfl))
        (pss_one (ps_dput hu (pe_ix ix_list (pv 7) pe_int (fun _ _ => rfl)) (pv 8) (pe_dget hu (pv 5) (pv 8) (fun _ _ => rfl)) rfl))))
      (pss_cons (ps_asg (pe_meth0 (pv 4) T.cl_Sheet T.m_Sheet_copy (ok_Sheet_copy T) (hr.mono (by decide)) T.b_Sheet_copy .nil pass0) (pg_sub (pv 7) pe_int set_list))
      (pss_cons (ps_for PassesOwn.never rfl (pi_range1 (by rfl) T.z_range (pa_cons (pe_op op_add pe_int (pe_callB (call_min2 rfl) (by rfl) T.z_min boot_min (pa_cons (pe_op op_fdiv (pe_callB cq_len (by rfl) T.z_len boot_len (pa_cons (pv 0) pa_nil)) pe_int) (pa_cons pe_int pa_nil)))) pa_nil)) (pg_name (i := 9) sc_law.nd rfl (Or.inl rfl))
        (pss_cons (ps_set (i := 10) sc_law.nd rfl (Or.inl rfl) (pe_ix ix_list (pe_dget hu (pv 2) pe_str (fun _ _ => rfl)) (pe_call (ok_L_next T) (hr.mono (by decide)) (by rfl) T.g_L_next T.F_L_next.kp T.b_L_next .nil pass0 (pa_cons (pv 1) (pa_cons (pe_callB cq_len (by rfl) T.z_len boot_len (pa_cons (pe_dget hu (pv 2) pe_str (fun _ _ => rfl)) pa_nil)) pa_nil))) (fun _ _ => rfl)))
      (pss_cons (ps_set (i := 11) sc_law.nd rfl (Or.inl rfl) (pe_ix ix_list (pe_lst (pa_cons pe_int (pa_cons pe_int (pa_cons pe_int (pa_cons pe_int (pa_cons pe_int pa_nil)))))) (pe_call (ok_L_next T) (hr.mono (by decide)) (by rfl) T.g_L_next T.F_L_next.kp T.b_L_next .nil pass0 (pa_cons (pv 1) (pa_cons pe_int pa_nil))) (fun _ _ => rfl)))
      (Evl.pss_cut (ps_if (pt_cmpR op_ne (pe_ix ix_tup (pv 10) pe_int (fun _ _ => rfl)) (pv 3) (nomark _)) (pss_one (ps_set (i := 11) sc_law.nd rfl (Or.inl rfl) (pe_ix ix_list (pe_lst (pa_cons pe_int (pa_cons pe_int (pa_cons pe_int (pa_cons pe_int (pa_cons pe_int pa_nil)))))) (pe_call (ok_L_next T) (hr.mono (by decide)) (by rfl) T.g_L_next T.F_L_next.kp T.b_L_next .nil pass0 (pa_cons (pv 1) (pa_cons pe_int pa_nil))) (fun _ _ => rfl)))) pss_nil)
      (pss_cons (ps_set (i := 12) sc_law.nd rfl (Or.inl rfl) (pe_ix ix_list (pe_lst (pa_cons pe_str (pa_cons pe_str (pa_cons pe_str pa_nil)))) (pe_call (ok_L_next T) (hr.mono (by decide)) (by rfl) T.g_L_next T.F_L_next.kp T.b_L_next .nil pass0 (pa_cons (pv 1) (pa_cons pe_int pa_nil))) (fun _ _ => rfl)))
      (pss_cons (ps_set (i := 13) sc_law.nd rfl (Or.inl rfl) (pe_ix ix_list (pe_lst (pa_cons pe_str (pa_cons pe_str (pa_cons pe_str pa_nil)))) (pe_call (ok_L_next T) (hr.mono (by decide)) (by rfl) T.g_L_next T.F_L_next.kp T.b_L_next .nil pass0 (pa_cons (pv 1) (pa_cons pe_int pa_nil))) (fun _ _ => rfl)))
      (pss_cons (ps_set (i := 14) sc_law.nd rfl (Or.inl rfl) (pe_dget2 hu (pv 5) (pe_tup (pa_cons (pv 12) (pa_cons (pe_ix ix_tup (pv 10) pe_int (fun _ _ => rfl)) pa_nil))) pe_int ⟨rfl, rfl, rfl, rfl⟩))
      (pss_cons (ps_set (i := 15) sc_law.nd rfl (Or.inl rfl) (pe_ix ix_list (pe_lst (pa_cons pe_int (pa_cons pe_int (pa_cons (pv 14) (pa_cons (pe_op op_add (pv 14) pe_int) (pa_cons (pe_op op_fdiv (pv 14) (pe_ix ix_tup (pv 10) pe_int (fun _ _ => rfl))) (pa_cons (pe_op op_add (pe_op op_fdiv (pv 14) (pe_ix ix_tup (pv 10) pe_int (fun _ _ => rfl))) pe_int) (pa_cons pe_int pa_nil)))))))) (pe_call (ok_L_next T) (hr.mono (by decide)) (by rfl) T.g_L_next T.F_L_next.kp T.b_L_next .nil pass0 (pa_cons (pv 1) (pa_cons pe_int pa_nil))) (fun _ _ => rfl)))
      (Evl.pss_cut (ps_set (i := 16) sc_law.nd rfl (Or.inl rfl) (pe_call (ok_L_due T) (hr.mono (by decide)) (by rfl) T.g_L_due T.F_L_due.kp T.b_L_due .nil pass0 (pa_cons (pv 5) (pa_cons (pv 11) (pa_cons (pv 12) (pa_cons (pv 13) (pa_cons (pv 10) (pa_cons (pv 15) pa_nil))))))))
      (Evl.pss_cut (ps_set (i := 17) sc_law.nd rfl (Or.inl rfl) (pe_call (ok_L_do T) (hr.mono (by decide)) (by rfl) T.g_L_do T.F_L_do.kp T.b_L_do .nil pass0 (pa_cons (pv 4) (pa_cons (pv 11) (pa_cons (pv 12) (pa_cons (pv 13) (pa_cons (pe_ix ix_tup (pv 10) pe_int (fun _ _ => rfl)) (pa_cons (pv 15) pa_nil))))))))
      (pss_cons (ps_if (PW.pt (pw_or (pt_not (pt_val (pe_call (ok_L_same T) (hr.mono (by decide)) (by rfl) T.g_L_same T.F_L_same.kp T.b_L_same .nil pass0 (pa_cons (pv 17) (pa_cons (pv 16) pa_nil))))) (pw_or1 (pt_not (pt_val (pe_call (ok_L_right T) (hr.mono (by decide)) (by rfl) T.g_L_right T.F_L_right.kp T.b_L_right .nil pass0 (pa_cons (pv 2) (pa_cons (pv 4) (pa_cons (pv 5) pa_nil))))))))) (pss_one (ps_ret pe_bl)) pss_nil)
      (pss_one (ps_if (pt_cmpR op_eq (pe_call (ok_L_next T) (hr.mono (by decide)) (by rfl) T.g_L_next T.F_L_next.kp T.b_L_next .nil pass0 (pa_cons (pv 1) (pa_cons pe_int pa_nil))) pe_int (nomark _)) (pss_one (ps_set (i := 4) sc_law.nd rfl (Or.inl rfl) (pe_meth0 (pv 4) T.cl_Sheet T.m_Sheet_copy (ok_Sheet_copy T) (hr.mono (by decide)) T.b_Sheet_copy .nil pass0))) pss_nil)))))))))))))
      (pss_one (ps_ret (pe_call (ok_L_right T) (hr.mono (by decide)) (by rfl) T.g_L_right T.F_L_right.kp T.b_L_right .nil pass0 (pa_cons (pv 2) (pa_cons (pe_ix ix_list (pv 7) pe_int (fun _ _ => rfl)) (pa_cons (pe_ix ix_list (pv 7) pe_int (fun _ _ => rfl)) pa_nil)))))))))))))))), ?_⟩
    (dsimp only [cxOf, Cx.nox, Cx.wish, L2.start, List.map, List.length, List.replicate, List.cons_append, List.nil_append, List.append_eq, Nat.reduceSub, Nat.reduceAdd])
    walk_at "my_rd"
    refine ⟨a0, ns0, rfl, hS, hlen, fun p l H1 np nl pot1 sm1 => ?_⟩
    walk_at "my_rd"
    refine ⟨p, l, rfl, pot1, fun d c gs tl bl g tv bv gv H2 nd ntl nbl hp2 hc pot2 kp2 => ?_⟩
    walk_at "my_rd"
    refine q_lstK (Nat.le_of_ble_eq_true rfl) fun SD nSD => ?_
    walk_at "my_rd"
    refine ⟨p, l, 2, rfl, pot2.new nSD, by omega, by omega, fun r H3 r0 r1 pot3 kp3 => ?_⟩
    obtain ⟨sd, hsd, hsdm⟩ := menuS (ss := sideNames) r0 (by show r < 2; omega)
    walk_at "my_rd"
    refine q_ixLt (Kp.get kp3 upd_same (pot2.nep nSD)) hsd ?_
    walk_at "my_rd"
    have kp23 : Kp p H2 H3 := Kp.trans (Same.kp (Same.up (Same.refl _) nSD)) kp3
    have hp3 := hp2.pot pot2 kp23
    have sm03 : Same H H3 := fun b o q => kp23 b o (kp2 b o (sm1 _ _ q) (ne_of_none q np)) (ne_of_none q np)
    refine q_make ?_
    walk_at "my_rd"
    refine ⟨d, c, gs, tl, bl, g, tv, bv, gv, rfl, hp3, hc, fun cf H4 ncf hC4 sm4 => ?_⟩
    walk_at "my_rd"
    have pot4 := pot3.same sm4
    have hp4 := hp3.same sm4
    intro x0 dx nx ndx hne
    have smM : Same H4 (upd (upd H4 dx (.own x0)) x0 (.ins T.C_Sheet dx [])) := Same.up (Same.up (Same.refl _) ndx) (upd_free hne.symm nx)
    refine ⟨x0, dx, cf, g, c, sd, rfl, upd_same, hC4.same smM, hc.ok, fun H5 S0 hS5 ec es eb ed ev hfr kp5 => ⟨rfl, ?_⟩⟩
    have sm5 : Same H4 H5 := fun b o q => kp5 b o (smM _ _ q) (ne_of_none q nx)
    have hfr4 : ∀ b ∈ S0.foot, H4 b = none := fun b hb => Same.free smM (hfr b hb)
    walk_at "my_rd"
    refine q_dNewT fun tb ntb => ?_
    have sm56 : Same H5 (upd H5 tb (.dT [])) := Same.up (Same.refl _) ntb
    have hTB6 : upd H5 tb (.dT []) tb = some (.dT []) := upd_same
    generalize upd H5 tb (.dT []) = H6 at sm56 hTB6
    have hp6 := hp4.same (Same.trans sm5 sm56)
    obtain ⟨z, hz⟩ : ∃ z, (gs[0]?).map (·.1) = some z := by
      cases q : gs with
      | nil => exact absurd q hc.gd.ne
      | cons a r => exact ⟨a.1, rfl⟩
    have hzn : z ∈ allNames := by
      obtain ⟨g0, hg0, hgz⟩ := Option.map_eq_some_iff.mp hz
      rw [← hgz]; exact hc.gd.nms g0 (List.mem_of_getElem? hg0)
    have hacc : ∀ b ∈ c.bals, b.acc ∈ nsL z := fun b hb => by
      rcases hc.ba b hb with m | m
      · show b.acc ∈ accNames ++ [z]
        exact List.mem_append.mpr (.inl m)
      · rw [hz] at m
        show b.acc ∈ accNames ++ [z]
        exact List.mem_append.mpr (.inr (by rw [Option.some.inj m]; exact List.mem_singleton.mpr rfl))
    have htvl : tv.length = c.toks.length := hp6.tr.len
    walk_at "my_rd"
    refine q_dGetS hp6.dict (by (repeat first | rfl | rw [valV_cons, if_pos rfl] | rw [valV_cons, if_neg (by decide +kernel)])) ?_
    refine q_forL (sqL hp6.bl) (fun i σ H' => ∃ (v6 : Option V) (kvs : TTab), σ = [some (.ref a0), some (.ref p), some (.ref d), some (.str sd), some (.ref x0), some (.ref tb), v6, none, none, none, none, none, none, none, none, none, none, none] ∧ Kp tb H6 H' ∧ H' tb = some (.dT kvs) ∧ kvs.length ≤ i ∧
        Rel (nsL z) (openT ((c.bals.take i).filter fun b => decide (c.homeOf b.tok = sd))) [] [] kvs) ⟨none, [], rfl, Kp.refl, hTB6, Nat.le_refl _, Rel.nil (nsL_ok z hzn).2.1⟩
      (fun i σ H' _ ⟨_, _, _, kp, _⟩ => sqL (kp.get hp6.bl (ne_of hp6.bl hTB6 (by intro z; cases z)))) ?_ ?_
    · rintro i v σ H7 hv ⟨v6, kvs, rfl, kp7, hT7, hl7, hR7⟩
      obtain ⟨b, rb, hb, rfl, hrb6⟩ := hp6.br.item hv
      have hbm := List.mem_of_getElem? hb
      have hrb : H7 rb = some (.tup [.str b.acc, .str b.tok, .int b.amt]) := kp7.get hrb6 (ne_of hrb6 hTB6 (by intro z; cases z))
      have hd7 := kp7.get hp6.dict (ne_of hp6.dict hTB6 (by intro z; cases z))
      have htl7 := kp7.get hp6.tl (ne_of hp6.tl hTB6 (by intro z; cases z))
      obtain ⟨t, ht, hte⟩ := List.mem_map.mp (hc.ok.b b hbm).tm
      have eho : c.homeOf b.tok = t.home := by rw [← hte]; exact Parts.home_eq hc.ok ht
      have hil : i ≤ 10 := by
        have h1 := (List.getElem?_eq_some_iff.mp hb).1
        have h2 := hc.bl
        omega
      walk_at "my_rd"
      refine q_dGetS hd7 (by (repeat first | rfl | rw [valV_cons, if_pos rfl] | rw [valV_cons, if_neg (by decide +kernel)])) ?_
      refine q_lcL (sqL htl7) (fun D nD => ⟨fun j H8 => Same H7 H8 ∧ H8 D = some (.lst ((((c.toks.take j).filter fun u => decide (u.name = b.tok)).map TokR.home).map V.str)), ⟨Same.new (Same.refl _) nD, upd_same⟩, fun j H8 _ h => sqL (h.1 _ _ htl7), ?_, ?_⟩)
      · rintro j w H8 hw ⟨sm8, hD8⟩
        obtain ⟨u, ub, huj, rfl, hub0⟩ := hp6.tr.item hw
        have hub : H8 ub = some (.tup [.str u.name, .str u.home, .int u.scale, .int u.limit, .int u.large]) := sm8 _ _ (kp7.get hub0 (ne_of hub0 hTB6 (by intro z; cases z)))
        have hrb8 := sm8 _ _ hrb
        walk_at "my_rd"
        refine ⟨rfl, ?_⟩
        walk_at "my_rd"
        have hjl : j < c.toks.length := (List.getElem?_eq_some_iff.mp huj).1
        have h3 := hc.tl
        refine q_keep2 (fun h => ?_) (fun h => ?_)
        · walk_at "my_rd"
          refine q_accK hD8 (by rw [List.length_map, List.length_map]; have := List.length_filter_le (fun u : TokR => decide (u.name = b.tok)) (c.toks.take j); rw [List.length_take] at this; exact small1000 (by omega)) ⟨Same.new sm8 nD, ?_⟩
          rw [upd_same, take_snoc huj, filter_st (p := fun u : TokR => decide (u.name = b.tok)) h, List.map_append, List.map_append]
          rfl
        · refine ⟨sm8, ?_⟩
          rw [take_snoc huj, filter_sf (p := fun u : TokR => decide (u.name = b.tok)) h]
          exact hD8
      · rintro H8 ⟨sm8, hD8⟩
        rw [List.take_of_length_le (by rw [htvl]; exact Nat.le_refl _), ← hte, filter_tok hc.ok.tn ht] at hD8
        have hrb8 := sm8 _ _ hrb
        have hT8 := sm8 _ _ hT7
        walk_at "my_rd"
        refine q_lstK (Nat.le_of_ble_eq_true rfl) fun SL nSL => ?_
        walk_at "my_rd"
        refine q_eqD (d := .list [.str t.home]) (e := .list [.str sd]) (.lst (sqL (upd_new nSL hD8)) (.cons (.str _) .nil)) (.lst (sqL upd_same) (.cons (.str _) .nil)) (side_sh _ (hc.th t ht)) (side_sh _ hsdm) ?_
        rw [side_eq _ (hc.th t ht) _ hsdm]
        walk_at "my_rd"
        have sm8' : Same H7 (upd H8 SL (.lst [.str sd])) := Same.up sm8 nSL
        generalize upd H8 SL (.lst [.str sd]) = H9 at sm8'
        have hrb9 := sm8' _ _ hrb
        have hT9 := sm8' _ _ hT7
        refine q_if2 (fun h => ?_) (fun h => ?_)
        · have h := dec_t h
          walk_at "my_rd"
          refine q_dG2aT hT9 ?_
          walk_at "my_rd"
          refine q_tupK (Nat.le_of_ble_eq_true rfl) fun k1 nk1 => ?_
          walk_at "my_rd"
          refine q_dG2T (k := kB b.acc b.tok) (upd_new nk1 hT9) upd_same ?_
          rw [tget_getD hR7.i]
          have hrb10 := upd_new (w := .tup [.str b.acc, .str b.tok]) nk1 hrb9
          have hT10 := upd_new (w := .tup [.str b.acc, .str b.tok]) nk1 hT9
          have sm10 := Same.trans sm8' (Same.up (w := .tup [.str b.acc, .str b.tok]) (Same.refl _) nk1)
          generalize upd H9 k1 _ = H10 at hrb10 hT10 sm10
          walk_at "my_rd"
          refine q_tupK (Nat.le_of_ble_eq_true rfl) fun k2 nk2 => ?_
          walk_at "my_rd"
          refine q_dPutT (k := kB b.acc b.tok) (upd_new nk2 hT10) upd_same (small1000 (by omega)) ?_
          refine ⟨_, tAdd kvs (kB b.acc b.tok) b.amt, rfl, Kp.upd (Kp.trans kp7 (Same.kp (Same.up sm10 nk2))), upd_same, ?_, ?_⟩
          · have := tAdd_len kvs (kB b.acc b.tok) b.amt; omega
          · rw [take_snoc hb, filter_b, if_pos (eho.trans h), openT_snoc]
            exact hR7.putB (hacc b hbm) b.tok b.amt _ rfl
        · have h := dec_f h
          walk_at "my_rd"
          refine ⟨_, kvs, rfl, Kp.trans kp7 (Same.kp sm8'), hT9, by omega, ?_⟩
          rw [take_snoc hb, filter_b, if_neg (fun q => h (eho.symm.trans q)), List.append_nil]
          exact hR7
    · rintro σ H7 ⟨v6, kvs0, rfl, kp7, hT7, hl7, hR7⟩
      rw [hp6.br.len] at hl7 hR7
      rw [List.take_length, ← eb] at hR7
      have hl10 : kvs0.length ≤ 10 := Nat.le_trans hl7 hc.bl
      have sm57 : Same H5 H7 := fun b o q => kp7 b o (sm56 _ _ q) (ne_of_none q ntb)
      walk_at "my_rd"
      refine q_dNewT fun t1 nt1 => ?_
      walk_at "my_rd"
      refine q_lstK (Nat.le_of_ble_eq_true rfl) fun kl nkl => ?_
      have ntt : t1 ≠ tb := (ne_of_none hT7 nt1).symm
      have sm78 : Same H7 (upd (upd H7 t1 (.dT [])) kl (.lst [.ref x0, .ref t1])) := Same.up (Same.up (Same.refl _) nt1) nkl
      have ht8 : upd (upd H7 t1 (.dT [])) kl (.lst [.ref x0, .ref t1]) t1 = some (.dT []) := upd_new nkl upd_same
      have hk8 : upd (upd H7 t1 (.dT [])) kl (.lst [.ref x0, .ref t1]) kl = some (.lst [.ref x0, .ref t1]) := upd_same
      have nk7 : H7 kl = none := upd_none_back nkl
      generalize upd (upd H7 t1 (.dT [])) kl (.lst [.ref x0, .ref t1]) = H8 at sm78 ht8 hk8
      have hT8 := sm78 _ _ hT7
      walk_at "my_rd"
      refine ⟨tb, _, hT8, trivial, fun od => ?_⟩
      refine q_for ?_
      unfold iKeys
      refine q_var (v := .ref tb) rfl ⟨tb, od, rfl, .inr ⟨kvs0, upd_same, ?_⟩⟩
      have hF : upd H8 tb (.frz od (.dT kvs0)) tb = some (.frz od (.dT kvs0)) := upd_same
      have htF : upd H8 tb (.frz od (.dT kvs0)) t1 = some (.dT []) := upd_other ntt ht8
      have hkF : upd H8 tb (.frz od (.dT kvs0)) kl = some (.lst [.ref x0, .ref t1]) := upd_other (ne_of hk8 hT8 (by intro z; cases z)) hk8
      have keepF : ∀ b o, H8 b = some o → b ≠ tb → upd H8 tb (.frz od (.dT kvs0)) b = some o := fun b o q n => upd_other n q
      generalize upd H8 tb (.frz od (.dT kvs0)) = HF at hF htF hkF keepF
      refine for_it walk_keysT (fun i σ H' => ∃ (v8 : Option V) (kvs1 : TTab), σ = [some (.ref a0), some (.ref p), some (.ref d), some (.str sd), some (.ref x0), some (.ref tb), v6, some (.ref kl), v8, none, none, none, none, none, none, none, none, none] ∧ Kp t1 HF H' ∧ H' t1 = some (.dT kvs1) ∧ kvs1.length ≤ i ∧
          ∀ k : List Key, (k ∈ (kvs0.take i).map Prod.fst → valV kvs1 k = valV kvs0 k) ∧ (k ∉ (kvs0.take i).map Prod.fst → valV kvs1 k = none)) ⟨none, [], rfl, Kp.refl, htF, Nat.le_refl _, fun k => ⟨fun m => by simp at m, fun _ => rfl⟩⟩ (fun i σ H' _ ⟨_, _, _, kp, _⟩ => kp.get hF ntt.symm) ?_ ?_
      · rintro i v σ H9 H9' hi ⟨v8, kvs1, rfl, kp9, ht9, hl9, hv9⟩ ⟨rfl, ky, vv, q, hkv, rfl, hq⟩
        obtain ⟨v', hv'⟩ := valV_mem (kvs := kvs0) (k := ky) (List.mem_map.mpr ⟨_, List.mem_of_getElem? hkv, rfl⟩)
        have hkl9 := kp9.get hkF (ne_of hkF htF (by intro z; cases z))
        have hF9 := kp9.get hF ntt.symm
        walk_at "my_rd"
        refine ⟨tb, v', rfl, .inr ⟨kvs0, ky, q, .inr ⟨od, hF9⟩, rfl, hq, hv'.symm⟩, ?_⟩
        walk_at "my_rd"
        refine q_dPutT (k := ky) ht9 hq (small1000 (by omega)) ?_
        refine ⟨_, putK kvs1 ky v', rfl, Kp.upd kp9, upd_same, ?_, ?_⟩
        · unfold putK
          split
          · rw [List.length_map]; omega
          · rw [List.length_append]; show kvs1.length + 1 ≤ i + 1; omega
        · intro k2
          rw [L2.valV_put, take_snoc hkv, List.map_append]
          by_cases e : k2 = ky
          · subst e
            rw [if_pos rfl]
            exact ⟨fun _ => hv'.symm, fun m => absurd (List.mem_append.mpr (.inr (List.mem_singleton.mpr rfl))) m⟩
          · rw [if_neg e]
            refine ⟨fun m => (hv9 k2).1 ?_, fun m => (hv9 k2).2 fun q2 => m (List.mem_append.mpr (.inl q2))⟩
            rcases List.mem_append.mp m with q2 | q2
            · exact q2
            · exact absurd (List.mem_singleton.mp q2) e
      · rintro σ H9 ⟨v8, kvs1, rfl, kp9, ht9, hl9, hv9⟩
        refine ⟨kp9.get hF ntt.symm, ?_⟩
        have hR1 : Rel (nsL z) S0.bal [] [] kvs1 := hR7.copy fun k => by
          have h9 := hv9 k
          rw [List.take_length] at h9
          by_cases m : valV kvs0 k = none
          · rw [m]
            refine h9.2 fun q => ?_
            obtain ⟨v, e⟩ := valV_mem (kvs := kvs0) q
            rw [e] at m; cases m
          · refine h9.1 ?_
            cases q : valV kvs0 k with
            | none => exact absurd q m
            | some v => exact valV_in q
        have hT10 : upd H9 tb (.dT kvs0) tb = some (.dT kvs0) := upd_same
        have ht10 : upd H9 tb (.dT kvs0) t1 = some (.dT kvs1) := upd_other ntt ht9
        have kp10 : ∀ b o, H8 b = some o → b ≠ t1 → upd H9 tb (.dT kvs0) b = some o := fun b o q n => by
          by_cases e : b = tb
          · subst e; rw [upd_same, ← q, hT8]
          · exact upd_other e (kp9 b o (keepF b o q e) n)
        generalize upd H9 tb (.dT kvs0) = H10 at hT10 ht10 kp10
        have sm510 : Same H5 H10 := fun b o q => kp10 b o (sm78 _ _ (sm57 _ _ q)) (ne_of_none (sm57 _ _ q) nt1)
        have hkl10 : H10 kl = some (.lst [.ref x0, .ref t1]) := kp10 _ _ hk8 (ne_of hk8 ht8 (by intro z; cases z))
        have hS10 := hS5.same sm510
        have hC10 := hC4.same (Same.trans sm5 sm510)
        obtain ⟨dx1, fs1, ho, h2, h3, h4, h5, h6, h7, h8⟩ := hS10.ex
        have lb : S0.bal.length ≤ 10 := by
          rw [eb]
          have := (openT_B (c.bals.filter fun b => decide (c.homeOf b.tok = sd)) _ rfl).len
          have h1 := List.length_filter_le (fun b => decide (c.homeOf b.tok = sd)) c.bals
          have h2 := hc.bl
          omega
        walk_at "my_rd"
        refine q_methK ho (h7 _ (by decide +kernel)) fun R hRR => ?_
        walk_at "my_rd"
        refine hRR _ _ ⟨x0, g, S0, c, rfl, hS10, by rw [ec]; exact hC10, hc.ok, by omega, by rw [ed]; exact Nat.zero_le _, hR7.nb, by rw [ed]; exact List.nodup_nil, fun y H11 S1 ny hS1 e1 e2 e3 e4 e5 hfr1 sm11 => ?_⟩
        have hklc : H11 kl = some (.lst [.ref x0, .ref t1]) := sm11 _ _ hkl10
        walk_at "my_rd"
        rw [show ([V.ref x0, V.ref t1].set (Int.toNat 0) (V.ref y)) = [.ref y, .ref t1] from rfl]
        have hkl12 : upd H11 kl (.lst [.ref y, .ref t1]) kl = some (.lst [.ref y, .ref t1]) := upd_same
        have kp12 : Kp kl H11 (upd H11 kl (.lst [.ref y, .ref t1])) := Kp.upd Kp.refl
        generalize upd H11 kl (.lst [.ref y, .ref t1]) = H12 at hkl12 kp12
        have nkl5 : H5 kl = none := Same.free sm57 nk7
        have sm512 : Same H5 H12 := fun b o q => kp12 b o (sm11 _ _ (sm510 _ _ q)) (ne_of_none q nkl5)
        have sm412 := Same.trans sm5 sm512
        have I0 : LI T.C_Sheet H4 p l x0 tb kl y t1 cf S0 S1 kvs0 kvs1 H12 :=
          ⟨pot4.same sm412, Same.kp sm412, hS5.same sm512, ec, hfr4, kp12.get (sm11 _ _ hT10) (ne_of (sm11 _ _ hT10) hklc (by intro z; cases z)), hkl12, hS1.out hklc (fun _ _ => by intro z; cases z) (fun _ => by intro z; cases z) kp12,
            kp12.get (sm11 _ _ ht10) (ne_of (sm11 _ _ ht10) hklc (by intro z; cases z)), fun b hb m => by
              obtain ⟨kv, q⟩ := hS10.footK m
              rw [hfr1 b hb] at q; cases q⟩
        have hR0 : Rel (nsL z) S0.bal S0.bon S0.vau kvs0 := by rw [ed, ev]; exact hR7
        have hR1 : Rel (nsL z) S1.bal S1.bon S1.vau kvs1 := by rw [e3, e4, e5, ed, ev]; exact hR1
        have ntb4 : H4 tb = none := Same.free sm5 ntb
        have nklp : kl ≠ p := pot4.nep (Same.free sm5 nkl5)
        have hB0 : TabB 10 S0.bal := by
          rw [eb]
          refine (openT_B _ _ rfl).mono ?_
          have h1 := List.length_filter_le (fun b => decide (c.homeOf b.tok = sd)) c.bals
          have h2 := hc.bl
          omega
        have hD0 : TabB 10 S0.bon := by rw [ed]; exact TabB.nil.mono (by omega)
        have hV0 : S0.vau.length ≤ 0 := by rw [ev]; exact Nat.le_refl _
        have hSA : SqL K H12 a0 (ns0.map V.int) := sqL_same (Same.trans sm03 (Same.trans sm4 sm412)) hS
        clear kp10 kp12 kp9 kp7 kp5 sm512 sm510 sm57 sm56 sm78 keepF
        walk_at "my_rd"
        refine q_lenL hSA ?_
        walk_at "my_rd"
        refine ⟨_, _, rfl, ?_⟩
        walk_at "my_rd"
        rw [List.length_map]
        have hN : 0 ≤ (3 : Int) + (if (27 : Int) < (ns0.length : Int) / 2 then 27 else (ns0.length : Int) / 2) ∧ (3 : Int) + (if (27 : Int) < (ns0.length : Int) / 2 then 27 else (ns0.length : Int) / 2) ≤ 30 := by split <;> omega
        generalize (3 : Int) + (if (27 : Int) < (ns0.length : Int) / 2 then 27 else (ns0.length : Int) / 2) = N at hN
        have ht3 := hc.tl
        have htv0 : 0 < tv.length := by
          rw [htvl]
          cases q : c.toks with
          | nil => exact absurd q hc.ne
          | cons a r => exact Nat.succ_pos _
        refine q_forR ⟨hN.1, by omega⟩ (fun i σ H' => ∃ (x : Addr) (S : Sh) (kvs : TTab) (v6 v8 v9 v10 v11 v12 v13 v14 v15 v16 v17 : Option V), σ = [some (.ref a0), some (.ref p), some (.ref d), some (.str sd), some (.ref x), some (.ref tb), v6, some (.ref kl), v8, v9, v10, v11, v12, v13, v14, v15, v16, v17] ∧
            LI T.C_Sheet H4 p l x tb kl y t1 cf S S1 kvs kvs1 H' ∧ Rel (nsL z) S.bal S.bon S.vau kvs ∧ TabB (10 + 2 * i) S.bal ∧ TabB (10 + 2 * i) S.bon ∧ S.vau.length ≤ i ∧ kvs.length ≤ 10 + 2 * i)
          ⟨x0, S0, kvs0, _, _, _, _, _, _, _, _, _, _, _, rfl, I0, hR0, hB0, hD0, hV0, hl10⟩ ?_ ?_
        · rintro i σ H13 hi ⟨x, S, kvs, v6, v8, v9, v10, v11, v12, v13, v14, v15, v16, v17, rfl, I, hR, hB, hD, hV, hL⟩
          have hi' : i < 30 := by omega
          have pa := hp4.pot pot4 I.kp
          have hpd := pa.dict
          have hptl := pa.tl
          walk_at "my_rd"
          refine q_dGetS hpd (by (repeat first | rfl | rw [valV_cons, if_pos rfl] | rw [valV_cons, if_neg (by decide +kernel)])) ?_
          walk_at "my_rd"
          refine q_dGetS hpd (by (repeat first | rfl | rw [valV_cons, if_pos rfl] | rw [valV_cons, if_neg (by decide +kernel)])) ?_
          walk_at "my_rd"
          refine ⟨p, l, _, rfl, I.pot, by omega, by omega, fun r H14 r0 r1 pot14 kp14 => ?_⟩
          have I := I.next nklp kp14 pot14
          obtain ⟨t, ht⟩ : ∃ t, c.toks[r.toNat]? = some t := ⟨_, List.getElem?_eq_getElem (by omega)⟩
          have htm := List.mem_of_getElem? ht
          have hsc1 := (hc.ok.t t htm).sc
          have hsc2 := hc.ts t htm
          obtain ⟨tk, htk, htk0⟩ := hp4.tr.at_ _ t ht
          have tkAt : ∀ {H'}, Kp p H4 H' → H' tk = some (.tup [.str t.name, .str t.home, .int t.scale, .int t.limit, .int t.large]) := fun k => k.tup pot4 htk0
          walk_at "my_rd"
          refine q_ixLt (hp4.pot pot4 I.kp).tl (at_int (n := r.toNat) (by omega) htk) ?_
          walk_at "my_rd"
          refine q_lstK (Nat.le_of_ble_eq_true rfl) fun K1 nK1 => ?_
          walk_at "my_rd"
          have I1 := I.same (Same.up (w := .lst [.int 0, .int 1, .int 2, .int 5, .int 6]) (Same.refl _) nK1)
          refine ⟨p, l, 5, rfl, I1.pot, by omega, by omega, fun r2 H15 r20 r21 pot15 kp15 => ?_⟩
          obtain ⟨kd0, hkd, hkdm⟩ := menuI (ss := [0, 1, 2, 5, 6]) r20 (by show r2 < 5; omega)
          have K1p := I.pot.nep nK1
          have I := I1.next nklp kp15 pot15
          walk_at "my_rd"
          refine q_ixLt (Kp.get kp15 upd_same K1p) hkd ?_
          walk_at "my_rd"
          clear I1 kp14 pot14
          refine q_cut (Mid := fun σ' H' => ∃ kd : Int, 0 ≤ kd ∧ kd ≤ 6 ∧ σ' = [some (.ref a0), some (.ref p), some (.ref d), some (.str sd), some (.ref x), some (.ref tb), v6, some (.ref kl), v8, some (.int (i : Nat)), some (.ref tk), some (.int kd), v12, v13, v14, v15, v16, v17] ∧ LI T.C_Sheet H4 p l x tb kl y t1 cf S S1 kvs kvs1 H') ?_ ?_
          · have tk15 := tkAt I.kp
            walk_at "my_rd"
            refine q_if2 (fun h => ?_) (fun h => ?_)
            · walk_at "my_rd"
              refine q_lstK (Nat.le_of_ble_eq_true rfl) fun K2 nK2 => ?_
              walk_at "my_rd"
              have I1 := I.same (Same.up (w := .lst [.int 0, .int 3, .int 4, .int 5, .int 6]) (Same.refl _) nK2)
              refine ⟨p, l, 5, rfl, I1.pot, by omega, by omega, fun r3 H16 r30 r31 pot16 kp16 => ?_⟩
              obtain ⟨kd1, hkd1, hkdm1⟩ := menuI (ss := [0, 3, 4, 5, 6]) r30 (by show r3 < 5; omega)
              walk_at "my_rd"
              refine q_ixLt (Kp.get kp16 upd_same (I.pot.nep nK2)) hkd1 ?_
              walk_at "my_rd"
              have hb : ∀ z ∈ ([0, 3, 4, 5, 6] : List Int), 0 ≤ z ∧ z ≤ 6 := by decide
              exact ⟨kd1, (hb _ hkdm1).1, (hb _ hkdm1).2, rfl, I1.next nklp kp16 pot16⟩
            · walk_at "my_rd"
              have hb : ∀ z ∈ ([0, 1, 2, 5, 6] : List Int), 0 ≤ z ∧ z ≤ 6 := by decide
              exact ⟨kd0, (hb _ hkdm).1, (hb _ hkdm).2, rfl, I⟩
          · rintro σ H16 ⟨kd, hk0, hk6, rfl, I⟩
            have hmN : ∀ a ∈ accNames, a ∈ nsL z := fun a h => by
              show a ∈ accNames ++ [z]
              exact List.mem_append.mpr (.inl h)
            walk_at "my_rd"
            refine q_lstK (Nat.le_of_ble_eq_true rfl) fun K3 nK3 => ?_
            walk_at "my_rd"
            have I1 := I.same (Same.up (w := .lst [.str "ann", .str "bob", .str "cyd"]) (Same.refl _) nK3)
            refine ⟨p, l, 3, rfl, I1.pot, by omega, by omega, fun r4 H17 r40 r41 pot17 kp17 => ?_⟩
            obtain ⟨a, ha1, ham⟩ := menuS (ss := accNames) r40 (by show r4 < 3; omega)
            have ha := hmN a ham
            have K3p := I.pot.nep nK3
            have I := I1.next nklp kp17 pot17
            walk_at "my_rd"
            refine q_ixLt (Kp.get kp17 upd_same K3p) ha1 ?_
            walk_at "my_rd"
            refine q_lstK (Nat.le_of_ble_eq_true rfl) fun K4 nK4 => ?_
            walk_at "my_rd"
            have I1 := I.same (Same.up (w := .lst [.str "ann", .str "bob", .str "cyd"]) (Same.refl _) nK4)
            refine ⟨p, l, 3, rfl, I1.pot, by omega, by omega, fun r5 H18 r50 r51 pot18 kp18 => ?_⟩
            obtain ⟨b, hb1, hbm⟩ := menuS (ss := accNames) r50 (by show r5 < 3; omega)
            have hb := hmN b hbm
            have K4p := I.pot.nep nK4
            have I := I1.next nklp kp18 pot18
            walk_at "my_rd"
            refine q_ixLt (Kp.get kp18 upd_same K4p) hb1 ?_
            have tk18 := tkAt I.kp
            walk_at "my_rd"
            refine q_dG2aT I.tb ?_
            walk_at "my_rd"
            refine q_tupK (Nat.le_of_ble_eq_true rfl) fun k1 nk1 => ?_
            walk_at "my_rd"
            refine q_dG2T (k := kB a t.name) (upd_new nk1 I.tb) upd_same ?_
            rw [tget_getD hR.i]
            have I := I.same (Same.up (w := .tup [.str a, .str t.name]) (Same.refl _) nk1)
            generalize upd H18 k1 _ = H19 at I
            have tk19 := tkAt I.kp
            generalize tget kvs (kB a t.name) = hd
            walk_at "my_rd"
            refine q_lstK (Nat.le_of_ble_eq_true rfl) fun K5 nK5 => ?_
            walk_at "my_rd"
            have I1 := I.same (Same.up (w := .lst [.int 0, .int 1, .int hd, .int (hd + 1), .int (hd / t.scale), .int (hd / t.scale + 1), .int 3]) (Same.refl _) nK5)
            refine ⟨p, l, 7, rfl, I1.pot, by omega, by omega, fun r6 H20 r60 r61 pot20 kp20 => ?_⟩
            obtain ⟨am, ham1, _⟩ := menuI (ss := [0, 1, hd, hd + 1, hd / t.scale, hd / t.scale + 1, 3]) r60 (by show r6 < 7; omega)
            have K5p := I.pot.nep nK5
            have I := I1.next nklp kp20 pot20
            walk_at "my_rd"
            refine q_ixLt (Kp.get kp20 upd_same K5p) ham1 ?_
            walk_at "my_rd"
            clear I1 kp18 pot18 kp17 pot17 kp20 pot20
            refine q_cut (Mid := fun σ' H' => ∃ (v : V) (kvs' : TTab), σ' = [some (.ref a0), some (.ref p), some (.ref d), some (.str sd), some (.ref x), some (.ref tb), v6, some (.ref kl), v8, some (.int (i : Nat)), some (.ref tk), some (.int kd), some (.str a), some (.str b), some (.int hd), some (.int am), some v, v17] ∧
              LI T.C_Sheet H4 p l x tb kl y t1 cf S S1 kvs' kvs1 H' ∧ ((v = .bl true ∧ kvs' = kvs ∧ rfd S kd a t am) ∨ (v = .non ∧ TNx a b t am kvs kd kvs'))) ?_ ?_
            · walk_at "my_rd"
              refine ⟨tb, tk, kvs, a, b, t, kd, am, rfl, I.tb, hR.i, by omega, tkAt I.kp, ⟨by omega, hsc2⟩, ⟨hk0, hk6⟩, fun hq H' sm => ?_, fun H' kvs' hn hT' kp' => ?_⟩
              · walk_at "my_rd"
                exact ⟨_, kvs, rfl, I.same sm, .inl ⟨rfl, rfl, (rfd_T hR ha).mp hq⟩⟩
              · walk_at "my_rd"
                exact ⟨_, kvs', rfl, I.tab ntt ntb4 kp' hT', .inr ⟨rfl, hn⟩⟩
            · rintro σ H21 ⟨v, kvs', rfl, I21, hv⟩
              refine q_cut (Mid := fun σ' H' => ∃ (v : V) (S' : Sh), scV v = true ∧ σ' = [some (.ref a0), some (.ref p), some (.ref d), some (.str sd), some (.ref x), some (.ref tb), v6, some (.ref kl), v8, some (.int (i : Nat)), some (.ref tk), some (.int kd), some (.str a), some (.str b), some (.int hd), some (.int am), some v, some v] ∧
                LI T.C_Sheet H4 p l x tb kl y t1 cf S' S1 kvs' kvs1 H' ∧ Rel (nsL z) S'.bal S'.bon S'.vau kvs' ∧ TabB (10 + 2 * (i + 1)) S'.bal ∧ TabB (10 + 2 * (i + 1)) S'.bon ∧ S'.vau.length ≤ i + 1 ∧ kvs'.length ≤ 10 + 2 * (i + 1)) ?_ ?_
              · have tk21 := tkAt I21.kp
                walk_at "my_rd"
                refine ⟨x, g, S, c, a, b, t, kd, am, rfl, I21.sh, by rw [I21.sc]; exact hC4.pot pot4 I21.kp, htm, ⟨by omega, hsc2⟩, hB.mono (by omega), hD.mono (by omega), by omega, ⟨hk0, hk6⟩, fun hq H' sm => ?_, fun H' S' hn st => ?_⟩
                · rcases hv with ⟨rfl, rfl, _⟩ | ⟨_, hm⟩
                  · walk_at "my_rd"
                    exact ⟨_, S, rfl, rfl, I21.same sm, hR, hB.mono (by omega), hD.mono (by omega), by omega, by omega⟩
                  · exact absurd ((rfd_T hR ha).mpr hq) hm.nr
                · rcases hv with ⟨_, _, hq⟩ | ⟨rfl, hm⟩
                  · exact absurd hq hn.nr
                  · have big := hn.big hB hD hV
                    have := hm.len
                    walk_at "my_rd"
                    exact ⟨_, S', rfl, rfl, I21.sheet st, TNx.rel' hR ha hb hn hm, big.1.mono (by omega), big.2.1.mono (by omega), big.2.2, by omega⟩
              · rintro σ H22 ⟨v, S', hvs, rfl, I, hR, hB, hD, hV, hL⟩
                walk_at "my_rd"
                refine .inl ⟨v, rfl, hvs, ?_⟩
                walk_at "my_rd"
                refine ⟨d, x, tb, c, gs, tl, bl, g, tv, bv, gv, S', kvs', z, rfl, hp4.pot pot4 I.kp, hc, hz, I.sh, I.tb, hR, fun H23 sm => ?_⟩
                have I := I.same sm
                walk_at "my_rd"
                refine ⟨p, l, 6, rfl, I.pot, by omega, by omega, fun r7 H24 r70 r71 pot24 kp24 => ?_⟩
                have I := I.next nklp kp24 pot24
                walk_at "my_rd"
                refine q_if2 (fun h => ?_) (fun h => ?_)
                · obtain ⟨dx2, fs2, go, g2, g3, g4, g5, g6, g7, g8⟩ := I.sh.ex
                  walk_at "my_rd"
                  refine q_methK go (g7 _ (by decide +kernel)) fun R hRR => ?_
                  walk_at "my_rd"
                  refine hRR _ _ ⟨x, g, S', c, rfl, I.sh, by rw [I.sc]; exact hC4.pot pot4 I.kp, hc.ok, by have := hB.len; omega, by have := hD.len; omega, hR.nb, hR.nd, fun y' H25 S2 ny' hS2 q1 q2 q3 q4 q5 hfr2 sm25 => ?_⟩
                  walk_at "my_rd"
                  exact ⟨y', S2, kvs', _, _, _, _, _, _, _, _, _, _, _, rfl, I.copy sm25 hS2 q1 hfr2, by rw [q3, q4, q5]; exact hR, by rw [q3]; exact hB, by rw [q4]; exact hD, by rw [q5]; exact hV, hL⟩
                · walk_at "my_rd"
                  exact ⟨x, S', kvs', _, _, _, _, _, _, _, _, _, _, _, rfl, I, hR, hB, hD, hV, hL⟩
        · rintro σ H13 ⟨x, S, kvs, v6, v8, v9, v10, v11, v12, v13, v14, v15, v16, v17, rfl, I, hR, hB, hD, hV, hL⟩
          have hklz := I.kl
          walk_at "my_rd"
          refine ⟨d, y, t1, c, gs, tl, bl, g, tv, bv, gv, S1, kvs1, z, rfl, hp4.pot pot4 I.kp, hc, hz, I.s1, I.t1, hR1, fun H' _ => ?_⟩
          walk_at "my_rd"
          exact k H'
end

def txt_mk {K : PySem.W.Frag} {h : Heap} {mg : Str → Option Value} (X : K.In h) (G : h.Ns mainGlobals mg)
    {f0 f1 f2 f3 f4 f5 f6 f7 f8 f9 f10 f11 f12 f13 f14 f15 f16 f17 f18 f19 f20 f21 f22 f23 f24 f25 f26 f27 f28 f29 f30 f31 f32 f33 f34 f35 f36 f37 f38 f39 f40 f41 f42 f43 f44 f45 f46 f47 f48 f49 f50 f51 f52 f53 f54 C0 C1 C2 C3 C4 C5 g5 : Addr} {od0 an0 od1 an1 od2 an2 od3 an3 od4 an4 od5 an5 od6 an6 od7 an7 od8 an8 od9 an9 od10 an10 od11 an11 od12 an12 od13 an13 od14 an14 od15 an15 od16 an16 od17 an17 od18 an18 od19 an19 od20 an20 od21 an21 od22 an22 od23 an23 od24 an24 od25 an25 od26 an26 od27 an27 od28 an28 od29 an29 od30 an30 od31 an31 od32 an32 od33 an33 od34 an34 od35 an35 od36 an36 od37 an37 od38 an38 od39 an39 od40 an40 od41 an41 od42 an42 od43 an43 od44 an44 od45 an45 od46 an46 od47 an47 od48 an48 od49 an49 od50 an50 od51 an51 od52 an52 od53 an53 od54 an54 : Option Addr} {sl0 sl1 sl2 sl3 sl4 sl5 sl6 sl7 sl8 sl9 sl10 sl11 sl12 sl13 sl14 sl15 sl16 sl17 sl18 sl19 sl20 sl21 sl22 sl23 sl24 sl25 sl26 sl27 sl28 sl29 sl30 sl31 sl32 sl33 sl34 sl35 sl36 sl37 sl38 sl39 sl40 sl41 sl42 sl43 sl44 sl45 sl46 sl47 sl48 sl49 sl50 sl51 sl52 sl53 sl54 : Array (Option Value)} {oc0 kV0 dc0 pm0 cd0 ct0 oc1 kV1 dc1 pm1 cd1 ct1 oc2 kV2 dc2 pm2 cd2 ct2 oc3 kV3 dc3 pm3 cd3 ct3 oc4 kV4 dc4 pm4 cd4 ct4 oc5 kV5 dc5 pm5 cd5 ct5 oc6 kV6 dc6 pm6 cd6 ct6 oc7 kV7 dc7 pm7 cd7 ct7 oc8 kV8 dc8 pm8 cd8 ct8 oc9 kV9 dc9 pm9 cd9 ct9 oc10 kV10 dc10 pm10 cd10 ct10 oc11 kV11 dc11 pm11 cd11 ct11 oc12 kV12 dc12 pm12 cd12 ct12 oc13 kV13 dc13 pm13 cd13 ct13 oc14 kV14 dc14 pm14 cd14 ct14 oc15 kV15 dc15 pm15 cd15 ct15 oc16 kV16 dc16 pm16 cd16 ct16 oc17 kV17 dc17 pm17 cd17 ct17 oc18 kV18 dc18 pm18 cd18 ct18 oc19 kV19 dc19 pm19 cd19 ct19 oc20 kV20 dc20 pm20 cd20 ct20 oc21 kV21 dc21 pm21 cd21 ct21 oc22 kV22 dc22 pm22 cd22 ct22 oc23 kV23 dc23 pm23 cd23 ct23 oc24 kV24 dc24 pm24 cd24 ct24 oc25 kV25 dc25 pm25 cd25 ct25 oc26 kV26 dc26 pm26 cd26 ct26 oc27 kV27 dc27 pm27 cd27 ct27 oc28 kV28 dc28 pm28 cd28 ct28 oc29 kV29 dc29 pm29 cd29 ct29 oc30 kV30 dc30 pm30 cd30 ct30 oc31 kV31 dc31 pm31 cd31 ct31 oc32 kV32 dc32 pm32 cd32 ct32 oc33 kV33 dc33 pm33 cd33 ct33 oc34 kV34 dc34 pm34 cd34 ct34 oc35 kV35 dc35 pm35 cd35 ct35 oc36 kV36 dc36 pm36 cd36 ct36 oc37 kV37 dc37 pm37 cd37 ct37 oc38 kV38 dc38 pm38 cd38 ct38 oc39 kV39 dc39 pm39 cd39 ct39 oc40 kV40 dc40 pm40 cd40 ct40 oc41 kV41 dc41 pm41 cd41 ct41 oc42 kV42 dc42 pm42 cd42 ct42 oc43 kV43 dc43 pm43 cd43 ct43 oc44 kV44 dc44 pm44 cd44 ct44 oc45 kV45 dc45 pm45 cd45 ct45 oc46 kV46 dc46 pm46 cd46 ct46 oc47 kV47 dc47 pm47 cd47 ct47 oc48 kV48 dc48 pm48 cd48 ct48 oc49 kV49 dc49 pm49 cd49 ct49 oc50 kV50 dc50 pm50 cd50 ct50 oc51 kV51 dc51 pm51 cd51 ct51 oc52 kV52 dc52 pm52 cd52 ct52 oc53 kV53 dc53 pm53 cd53 ct53 oc54 kV54 dc54 pm54 cd54 ct54 : Value} {tk0 tk1 tk2 tk3 tk4 tk6 : Tok} {odg5 : Option Addr} {itg5 : Array Value} {ng5 : Nat} {slg5 : Array (Option Value)}
    (a0 : PySem.W.nsIn K mainGlobals "_wall" = some (some (.ref f0)))
    (a15 : PySem.W.nsIn K mainGlobals "copied" = some (some (.ref f15)))
    (a16 : PySem.W.nsIn K mainGlobals "held" = some (some (.ref f16)))
    (a17 : PySem.W.nsIn K mainGlobals "put" = some (some (.ref f17)))
    (a18 : PySem.W.nsIn K mainGlobals "draw" = some (some (.ref f18)))
    (a19 : PySem.W.nsIn K mainGlobals "is_integer" = some (some (.ref f19)))
    (a20 : PySem.W.nsIn K mainGlobals "is_at_least" = some (some (.ref f20)))
    (a21 : PySem.W.nsIn K mainGlobals "is_text" = some (some (.ref f21)))
    (a22 : PySem.W.nsIn K mainGlobals "is_short_text" = some (some (.ref f22)))
    (a23 : PySem.W.nsIn K mainGlobals "is_account" = some (some (.ref f23)))
    (a24 : PySem.W.nsIn K mainGlobals "is_side" = some (some (.ref f24)))
    (a25 : PySem.W.nsIn K mainGlobals "is_set" = some (some (.ref f25)))
    (a26 : PySem.W.nsIn K mainGlobals "is_pair" = some (some (.ref f26)))
    (a40 : PySem.W.nsIn K mainGlobals "check_list" = some (some (.ref f40)))
    (a41 : PySem.W.nsIn K mainGlobals "check_least" = some (some (.ref f41)))
    (a42 : PySem.W.nsIn K mainGlobals "check_token_row" = some (some (.ref f42)))
    (a43 : PySem.W.nsIn K mainGlobals "check_balance_row" = some (some (.ref f43)))
    (a44 : PySem.W.nsIn K mainGlobals "_law_pot" = some (some (.ref f44)))
    (a45 : PySem.W.nsIn K mainGlobals "_law_next" = some (some (.ref f45)))
    (a46 : PySem.W.nsIn K mainGlobals "_law_is_int" = some (some (.ref f46)))
    (a47 : PySem.W.nsIn K mainGlobals "_law_same" = some (some (.ref f47)))
    (a48 : PySem.W.nsIn K mainGlobals "_law_set" = some (some (.ref f48)))
    (a49 : PySem.W.nsIn K mainGlobals "_law_config" = some (some (.ref f49)))
    (a50 : PySem.W.nsIn K mainGlobals "_law_made" = some (some (.ref f50)))
    (a51 : PySem.W.nsIn K mainGlobals "_law_do" = some (some (.ref f51)))
    (a52 : PySem.W.nsIn K mainGlobals "_law_due" = some (some (.ref f52)))
    (a53 : PySem.W.nsIn K mainGlobals "_law_right" = some (some (.ref f53)))
    (a54 : PySem.W.nsIn K mainGlobals "law" = some (some (.ref f54)))
    (aC0 : PySem.W.nsIn K mainGlobals "BridgeError" = some (some (.ref C0)))
    (aC1 : PySem.W.nsIn K mainGlobals "InvalidArgument" = some (some (.ref C1)))
    (aC2 : PySem.W.nsIn K mainGlobals "UnknownToken" = some (some (.ref C2)))
    (aC3 : PySem.W.nsIn K mainGlobals "NotEnoughBalance" = some (some (.ref C3)))
    (aC4 : PySem.W.nsIn K mainGlobals "Sheet" = some (some (.ref C4)))
    (aC5 : PySem.W.nsIn K mainGlobals "Config" = some (some (.ref C5)))
    (m1 : PySem.W.findIn K (.ref C4) "__init__" = some (some (.ref f1)))
    (m2 : PySem.W.findIn K (.ref C4) "copy" = some (some (.ref f2)))
    (m3 : PySem.W.findIn K (.ref C4) "balance" = some (some (.ref f3)))
    (m4 : PySem.W.findIn K (.ref C4) "vault" = some (some (.ref f4)))
    (m5 : PySem.W.findIn K (.ref C4) "bonded" = some (some (.ref f5)))
    (m6 : PySem.W.findIn K (.ref C4) "bonders" = some (some (.ref f6)))
    (m7 : PySem.W.findIn K (.ref C4) "circulating" = some (some (.ref f7)))
    (m8 : PySem.W.findIn K (.ref C4) "move" = some (some (.ref f8)))
    (m9 : PySem.W.findIn K (.ref C4) "lock" = some (some (.ref f9)))
    (m10 : PySem.W.findIn K (.ref C4) "release" = some (some (.ref f10)))
    (m11 : PySem.W.findIn K (.ref C4) "mint" = some (some (.ref f11)))
    (m12 : PySem.W.findIn K (.ref C4) "burn" = some (some (.ref f12)))
    (m13 : PySem.W.findIn K (.ref C4) "bond" = some (some (.ref f13)))
    (m14 : PySem.W.findIn K (.ref C4) "unbond" = some (some (.ref f14)))
    (m27 : PySem.W.findIn K (.ref C5) "__init__" = some (some (.ref f27)))
    (m28 : PySem.W.findIn K (.ref C5) "token_names" = some (some (.ref f28)))
    (m29 : PySem.W.findIn K (.ref C5) "check_token" = some (some (.ref f29)))
    (m30 : PySem.W.findIn K (.ref C5) "home" = some (some (.ref f30)))
    (m31 : PySem.W.findIn K (.ref C5) "scale" = some (some (.ref f31)))
    (m32 : PySem.W.findIn K (.ref C5) "limit" = some (some (.ref f32)))
    (m33 : PySem.W.findIn K (.ref C5) "large" = some (some (.ref f33)))
    (m34 : PySem.W.findIn K (.ref C5) "opening" = some (some (.ref f34)))
    (m35 : PySem.W.findIn K (.ref C5) "guards" = some (some (.ref f35)))
    (m36 : PySem.W.findIn K (.ref C5) "depth" = some (some (.ref f36)))
    (m37 : PySem.W.findIn K (.ref C5) "window" = some (some (.ref f37)))
    (m38 : PySem.W.findIn K (.ref C5) "delay" = some (some (.ref f38)))
    (m39 : PySem.W.findIn K (.ref C5) "bundle" = some (some (.ref f39)))
    (l0 : K.lookup f0 = some ⟨oc0, od0, .func (PySem.W.fnOf "_wall" "_wall" (defArgs s__wall) (defBody s__wall) (defScope s__wall) .none kV0 dc0 pm0 an0 cd0 ct0), sl0⟩)
    (c0 : PySem.W.codeIn K cd0 "_wall" = true)
    (k0 : PySem.W.keepIn K (.ref f0) = true)
    (l1 : K.lookup f1 = some ⟨oc1, od1, .func (PySem.W.fnOf "__init__" "Sheet.__init__" (defArgs s_Sheet_init) (defBody s_Sheet_init) (defScope s_Sheet_init) .none kV1 dc1 pm1 an1 cd1 ct1), sl1⟩)
    (c1 : PySem.W.codeIn K cd1 "Sheet.__init__" = true)
    (k1 : PySem.W.keepIn K (.ref f1) = true)
    (l2 : K.lookup f2 = some ⟨oc2, od2, .func (PySem.W.fnOf "copy" "Sheet.copy" (defArgs s_Sheet_copy) (defBody s_Sheet_copy) (defScope s_Sheet_copy) .none kV2 dc2 pm2 an2 cd2 ct2), sl2⟩)
    (c2 : PySem.W.codeIn K cd2 "Sheet.copy" = true)
    (k2 : PySem.W.keepIn K (.ref f2) = true)
    (l3 : K.lookup f3 = some ⟨oc3, od3, .func (PySem.W.fnOf "balance" "Sheet.balance" (defArgs s_Sheet_balance) (defBody s_Sheet_balance) (defScope s_Sheet_balance) .none kV3 dc3 pm3 an3 cd3 ct3), sl3⟩)
    (c3 : PySem.W.codeIn K cd3 "Sheet.balance" = true)
    (k3 : PySem.W.keepIn K (.ref f3) = true)
    (l4 : K.lookup f4 = some ⟨oc4, od4, .func (PySem.W.fnOf "vault" "Sheet.vault" (defArgs s_Sheet_vault) (defBody s_Sheet_vault) (defScope s_Sheet_vault) .none kV4 dc4 pm4 an4 cd4 ct4), sl4⟩)
    (c4 : PySem.W.codeIn K cd4 "Sheet.vault" = true)
    (k4 : PySem.W.keepIn K (.ref f4) = true)
    (l5 : K.lookup f5 = some ⟨oc5, od5, .func (PySem.W.fnOf "bonded" "Sheet.bonded" (defArgs s_Sheet_bonded) (defBody s_Sheet_bonded) (defScope s_Sheet_bonded) .none kV5 dc5 pm5 an5 cd5 ct5), sl5⟩)
    (c5 : PySem.W.codeIn K cd5 "Sheet.bonded" = true)
    (k5 : PySem.W.keepIn K (.ref f5) = true)
    (l6 : K.lookup f6 = some ⟨oc6, od6, .func (PySem.W.fnOf "bonders" "Sheet.bonders" (defArgs s_Sheet_bonders) (defBody s_Sheet_bonders) (defScope s_Sheet_bonders) .none kV6 dc6 pm6 an6 cd6 ct6), sl6⟩)
    (c6 : PySem.W.codeIn K cd6 "Sheet.bonders" = true)
    (k6 : PySem.W.keepIn K (.ref f6) = true)
    (l7 : K.lookup f7 = some ⟨oc7, od7, .func (PySem.W.fnOf "circulating" "Sheet.circulating" (defArgs s_Sheet_circulating) (defBody s_Sheet_circulating) (defScope s_Sheet_circulating) .none kV7 dc7 pm7 an7 cd7 ct7), sl7⟩)
    (c7 : PySem.W.codeIn K cd7 "Sheet.circulating" = true)
    (k7 : PySem.W.keepIn K (.ref f7) = true)
    (l8 : K.lookup f8 = some ⟨oc8, od8, .func (PySem.W.fnOf "move" "Sheet.move" (defArgs s_Sheet_move) (defBody s_Sheet_move) (defScope s_Sheet_move) .none kV8 dc8 pm8 an8 cd8 ct8), sl8⟩)
    (c8 : PySem.W.codeIn K cd8 "Sheet.move" = true)
    (k8 : PySem.W.keepIn K (.ref f8) = true)
    (l9 : K.lookup f9 = some ⟨oc9, od9, .func (PySem.W.fnOf "lock" "Sheet.lock" (defArgs s_Sheet_lock) (defBody s_Sheet_lock) (defScope s_Sheet_lock) .none kV9 dc9 pm9 an9 cd9 ct9), sl9⟩)
    (c9 : PySem.W.codeIn K cd9 "Sheet.lock" = true)
    (k9 : PySem.W.keepIn K (.ref f9) = true)
    (l10 : K.lookup f10 = some ⟨oc10, od10, .func (PySem.W.fnOf "release" "Sheet.release" (defArgs s_Sheet_release) (defBody s_Sheet_release) (defScope s_Sheet_release) .none kV10 dc10 pm10 an10 cd10 ct10), sl10⟩)
    (c10 : PySem.W.codeIn K cd10 "Sheet.release" = true)
    (k10 : PySem.W.keepIn K (.ref f10) = true)
    (l11 : K.lookup f11 = some ⟨oc11, od11, .func (PySem.W.fnOf "mint" "Sheet.mint" (defArgs s_Sheet_mint) (defBody s_Sheet_mint) (defScope s_Sheet_mint) .none kV11 dc11 pm11 an11 cd11 ct11), sl11⟩)
    (c11 : PySem.W.codeIn K cd11 "Sheet.mint" = true)
    (k11 : PySem.W.keepIn K (.ref f11) = true)
    (l12 : K.lookup f12 = some ⟨oc12, od12, .func (PySem.W.fnOf "burn" "Sheet.burn" (defArgs s_Sheet_burn) (defBody s_Sheet_burn) (defScope s_Sheet_burn) .none kV12 dc12 pm12 an12 cd12 ct12), sl12⟩)
    (c12 : PySem.W.codeIn K cd12 "Sheet.burn" = true)
    (k12 : PySem.W.keepIn K (.ref f12) = true)
    (l13 : K.lookup f13 = some ⟨oc13, od13, .func (PySem.W.fnOf "bond" "Sheet.bond" (defArgs s_Sheet_bond) (defBody s_Sheet_bond) (defScope s_Sheet_bond) .none kV13 dc13 pm13 an13 cd13 ct13), sl13⟩)
    (c13 : PySem.W.codeIn K cd13 "Sheet.bond" = true)
    (k13 : PySem.W.keepIn K (.ref f13) = true)
    (l14 : K.lookup f14 = some ⟨oc14, od14, .func (PySem.W.fnOf "unbond" "Sheet.unbond" (defArgs s_Sheet_unbond) (defBody s_Sheet_unbond) (defScope s_Sheet_unbond) .none kV14 dc14 pm14 an14 cd14 ct14), sl14⟩)
    (c14 : PySem.W.codeIn K cd14 "Sheet.unbond" = true)
    (k14 : PySem.W.keepIn K (.ref f14) = true)
    (l15 : K.lookup f15 = some ⟨oc15, od15, .func (PySem.W.fnOf "copied" "copied" (defArgs s_copied) (defBody s_copied) (defScope s_copied) .none kV15 dc15 pm15 an15 cd15 ct15), sl15⟩)
    (c15 : PySem.W.codeIn K cd15 "copied" = true)
    (k15 : PySem.W.keepIn K (.ref f15) = true)
    (l16 : K.lookup f16 = some ⟨oc16, od16, .func (PySem.W.fnOf "held" "held" (defArgs s_held) (defBody s_held) (defScope s_held) .none kV16 dc16 pm16 an16 cd16 ct16), sl16⟩)
    (c16 : PySem.W.codeIn K cd16 "held" = true)
    (k16 : PySem.W.keepIn K (.ref f16) = true)
    (l17 : K.lookup f17 = some ⟨oc17, od17, .func (PySem.W.fnOf "put" "put" (defArgs s_put) (defBody s_put) (defScope s_put) .none kV17 dc17 pm17 an17 cd17 ct17), sl17⟩)
    (c17 : PySem.W.codeIn K cd17 "put" = true)
    (k17 : PySem.W.keepIn K (.ref f17) = true)
    (l18 : K.lookup f18 = some ⟨oc18, od18, .func (PySem.W.fnOf "draw" "draw" (defArgs s_draw) (defBody s_draw) (defScope s_draw) .none kV18 dc18 pm18 an18 cd18 ct18), sl18⟩)
    (c18 : PySem.W.codeIn K cd18 "draw" = true)
    (k18 : PySem.W.keepIn K (.ref f18) = true)
    (l19 : K.lookup f19 = some ⟨oc19, od19, .func (PySem.W.fnOf "is_integer" "is_integer" (defArgs s_is_integer) (defBody s_is_integer) (defScope s_is_integer) .none kV19 dc19 pm19 an19 cd19 ct19), sl19⟩)
    (c19 : PySem.W.codeIn K cd19 "is_integer" = true)
    (k19 : PySem.W.keepIn K (.ref f19) = true)
    (l20 : K.lookup f20 = some ⟨oc20, od20, .func (PySem.W.fnOf "is_at_least" "is_at_least" (defArgs s_is_at_least) (defBody s_is_at_least) (defScope s_is_at_least) .none kV20 dc20 pm20 an20 cd20 ct20), sl20⟩)
    (c20 : PySem.W.codeIn K cd20 "is_at_least" = true)
    (k20 : PySem.W.keepIn K (.ref f20) = true)
    (l21 : K.lookup f21 = some ⟨oc21, od21, .func (PySem.W.fnOf "is_text" "is_text" (defArgs s_is_text) (defBody s_is_text) (defScope s_is_text) .none kV21 dc21 pm21 an21 cd21 ct21), sl21⟩)
    (c21 : PySem.W.codeIn K cd21 "is_text" = true)
    (k21 : PySem.W.keepIn K (.ref f21) = true)
    (l22 : K.lookup f22 = some ⟨oc22, od22, .func (PySem.W.fnOf "is_short_text" "is_short_text" (defArgs s_is_short_text) (defBody s_is_short_text) (defScope s_is_short_text) .none kV22 dc22 pm22 an22 cd22 ct22), sl22⟩)
    (c22 : PySem.W.codeIn K cd22 "is_short_text" = true)
    (k22 : PySem.W.keepIn K (.ref f22) = true)
    (l23 : K.lookup f23 = some ⟨oc23, od23, .func (PySem.W.fnOf "is_account" "is_account" (defArgs s_is_account) (defBody s_is_account) (defScope s_is_account) .none kV23 dc23 pm23 an23 cd23 ct23), sl23⟩)
    (c23 : PySem.W.codeIn K cd23 "is_account" = true)
    (k23 : PySem.W.keepIn K (.ref f23) = true)
    (l24 : K.lookup f24 = some ⟨oc24, od24, .func (PySem.W.fnOf "is_side" "is_side" (defArgs s_is_side) (defBody s_is_side) (defScope s_is_side) .none kV24 dc24 pm24 an24 cd24 ct24), sl24⟩)
    (c24 : PySem.W.codeIn K cd24 "is_side" = true)
    (k24 : PySem.W.keepIn K (.ref f24) = true)
    (l25 : K.lookup f25 = some ⟨oc25, od25, .func (PySem.W.fnOf "is_set" "is_set" (defArgs s_is_set) (defBody s_is_set) (defScope s_is_set) .none kV25 dc25 pm25 an25 cd25 ct25), sl25⟩)
    (c25 : PySem.W.codeIn K cd25 "is_set" = true)
    (k25 : PySem.W.keepIn K (.ref f25) = true)
    (l26 : K.lookup f26 = some ⟨oc26, od26, .func (PySem.W.fnOf "is_pair" "is_pair" (defArgs s_is_pair) (defBody s_is_pair) (defScope s_is_pair) .none kV26 dc26 pm26 an26 cd26 ct26), sl26⟩)
    (c26 : PySem.W.codeIn K cd26 "is_pair" = true)
    (k26 : PySem.W.keepIn K (.ref f26) = true)
    (l27 : K.lookup f27 = some ⟨oc27, od27, .func (PySem.W.fnOf "__init__" "Config.__init__" (defArgs s_Config_init) (defBody s_Config_init) (defScope s_Config_init) .none kV27 dc27 pm27 an27 cd27 ct27), sl27⟩)
    (c27 : PySem.W.codeIn K cd27 "Config.__init__" = true)
    (k27 : PySem.W.keepIn K (.ref f27) = true)
    (l28 : K.lookup f28 = some ⟨oc28, od28, .func (PySem.W.fnOf "token_names" "Config.token_names" (defArgs s_Config_token_names) (defBody s_Config_token_names) (defScope s_Config_token_names) .none kV28 dc28 pm28 an28 cd28 ct28), sl28⟩)
    (c28 : PySem.W.codeIn K cd28 "Config.token_names" = true)
    (k28 : PySem.W.keepIn K (.ref f28) = true)
    (l29 : K.lookup f29 = some ⟨oc29, od29, .func (PySem.W.fnOf "check_token" "Config.check_token" (defArgs s_Config_check_token) (defBody s_Config_check_token) (defScope s_Config_check_token) .none kV29 dc29 pm29 an29 cd29 ct29), sl29⟩)
    (c29 : PySem.W.codeIn K cd29 "Config.check_token" = true)
    (k29 : PySem.W.keepIn K (.ref f29) = true)
    (l30 : K.lookup f30 = some ⟨oc30, od30, .func (PySem.W.fnOf "home" "Config.home" (defArgs s_Config_home) (defBody s_Config_home) (defScope s_Config_home) .none kV30 dc30 pm30 an30 cd30 ct30), sl30⟩)
    (c30 : PySem.W.codeIn K cd30 "Config.home" = true)
    (k30 : PySem.W.keepIn K (.ref f30) = true)
    (l31 : K.lookup f31 = some ⟨oc31, od31, .func (PySem.W.fnOf "scale" "Config.scale" (defArgs s_Config_scale) (defBody s_Config_scale) (defScope s_Config_scale) .none kV31 dc31 pm31 an31 cd31 ct31), sl31⟩)
    (c31 : PySem.W.codeIn K cd31 "Config.scale" = true)
    (k31 : PySem.W.keepIn K (.ref f31) = true)
    (l32 : K.lookup f32 = some ⟨oc32, od32, .func (PySem.W.fnOf "limit" "Config.limit" (defArgs s_Config_limit) (defBody s_Config_limit) (defScope s_Config_limit) .none kV32 dc32 pm32 an32 cd32 ct32), sl32⟩)
    (c32 : PySem.W.codeIn K cd32 "Config.limit" = true)
    (k32 : PySem.W.keepIn K (.ref f32) = true)
    (l33 : K.lookup f33 = some ⟨oc33, od33, .func (PySem.W.fnOf "large" "Config.large" (defArgs s_Config_large) (defBody s_Config_large) (defScope s_Config_large) .none kV33 dc33 pm33 an33 cd33 ct33), sl33⟩)
    (c33 : PySem.W.codeIn K cd33 "Config.large" = true)
    (k33 : PySem.W.keepIn K (.ref f33) = true)
    (l34 : K.lookup f34 = some ⟨oc34, od34, .func (PySem.W.fnOf "opening" "Config.opening" (defArgs s_Config_opening) (defBody s_Config_opening) (defScope s_Config_opening) .none kV34 dc34 pm34 an34 cd34 ct34), sl34⟩)
    (c34 : PySem.W.codeIn K cd34 "Config.opening" = true)
    (k34 : PySem.W.keepIn K (.ref f34) = true)
    (l35 : K.lookup f35 = some ⟨oc35, od35, .func (PySem.W.fnOf "guards" "Config.guards" (defArgs s_Config_guards) (defBody s_Config_guards) (defScope s_Config_guards) .none kV35 dc35 pm35 an35 cd35 ct35), sl35⟩)
    (c35 : PySem.W.codeIn K cd35 "Config.guards" = true)
    (k35 : PySem.W.keepIn K (.ref f35) = true)
    (l36 : K.lookup f36 = some ⟨oc36, od36, .func (PySem.W.fnOf "depth" "Config.depth" (defArgs s_Config_depth) (defBody s_Config_depth) (defScope s_Config_depth) .none kV36 dc36 pm36 an36 cd36 ct36), sl36⟩)
    (c36 : PySem.W.codeIn K cd36 "Config.depth" = true)
    (k36 : PySem.W.keepIn K (.ref f36) = true)
    (l37 : K.lookup f37 = some ⟨oc37, od37, .func (PySem.W.fnOf "window" "Config.window" (defArgs s_Config_window) (defBody s_Config_window) (defScope s_Config_window) .none kV37 dc37 pm37 an37 cd37 ct37), sl37⟩)
    (c37 : PySem.W.codeIn K cd37 "Config.window" = true)
    (k37 : PySem.W.keepIn K (.ref f37) = true)
    (l38 : K.lookup f38 = some ⟨oc38, od38, .func (PySem.W.fnOf "delay" "Config.delay" (defArgs s_Config_delay) (defBody s_Config_delay) (defScope s_Config_delay) .none kV38 dc38 pm38 an38 cd38 ct38), sl38⟩)
    (c38 : PySem.W.codeIn K cd38 "Config.delay" = true)
    (k38 : PySem.W.keepIn K (.ref f38) = true)
    (l39 : K.lookup f39 = some ⟨oc39, od39, .func (PySem.W.fnOf "bundle" "Config.bundle" (defArgs s_Config_bundle) (defBody s_Config_bundle) (defScope s_Config_bundle) .none kV39 dc39 pm39 an39 cd39 ct39), sl39⟩)
    (c39 : PySem.W.codeIn K cd39 "Config.bundle" = true)
    (k39 : PySem.W.keepIn K (.ref f39) = true)
    (l40 : K.lookup f40 = some ⟨oc40, od40, .func (PySem.W.fnOf "check_list" "check_list" (defArgs s_check_list) (defBody s_check_list) (defScope s_check_list) .none kV40 dc40 pm40 an40 cd40 ct40), sl40⟩)
    (c40 : PySem.W.codeIn K cd40 "check_list" = true)
    (k40 : PySem.W.keepIn K (.ref f40) = true)
    (l41 : K.lookup f41 = some ⟨oc41, od41, .func (PySem.W.fnOf "check_least" "check_least" (defArgs s_check_least) (defBody s_check_least) (defScope s_check_least) .none kV41 dc41 pm41 an41 cd41 ct41), sl41⟩)
    (c41 : PySem.W.codeIn K cd41 "check_least" = true)
    (k41 : PySem.W.keepIn K (.ref f41) = true)
    (l42 : K.lookup f42 = some ⟨oc42, od42, .func (PySem.W.fnOf "check_token_row" "check_token_row" (defArgs s_check_token_row) (defBody s_check_token_row) (defScope s_check_token_row) .none kV42 dc42 pm42 an42 cd42 ct42), sl42⟩)
    (c42 : PySem.W.codeIn K cd42 "check_token_row" = true)
    (k42 : PySem.W.keepIn K (.ref f42) = true)
    (l43 : K.lookup f43 = some ⟨oc43, od43, .func (PySem.W.fnOf "check_balance_row" "check_balance_row" (defArgs s_check_balance_row) (defBody s_check_balance_row) (defScope s_check_balance_row) .none kV43 dc43 pm43 an43 cd43 ct43), sl43⟩)
    (c43 : PySem.W.codeIn K cd43 "check_balance_row" = true)
    (k43 : PySem.W.keepIn K (.ref f43) = true)
    (l44 : K.lookup f44 = some ⟨oc44, od44, .func (PySem.W.fnOf "_law_pot" "_law_pot" (defArgs s_L_pot) (defBody s_L_pot) (defScope s_L_pot) .none kV44 dc44 pm44 an44 cd44 ct44), sl44⟩)
    (c44 : PySem.W.codeIn K cd44 "_law_pot" = true)
    (k44 : PySem.W.keepIn K (.ref f44) = true)
    (l45 : K.lookup f45 = some ⟨oc45, od45, .func (PySem.W.fnOf "_law_next" "_law_next" (defArgs s_L_next) (defBody s_L_next) (defScope s_L_next) .none kV45 dc45 pm45 an45 cd45 ct45), sl45⟩)
    (c45 : PySem.W.codeIn K cd45 "_law_next" = true)
    (k45 : PySem.W.keepIn K (.ref f45) = true)
    (l46 : K.lookup f46 = some ⟨oc46, od46, .func (PySem.W.fnOf "_law_is_int" "_law_is_int" (defArgs s_L_is_int) (defBody s_L_is_int) (defScope s_L_is_int) .none kV46 dc46 pm46 an46 cd46 ct46), sl46⟩)
    (c46 : PySem.W.codeIn K cd46 "_law_is_int" = true)
    (k46 : PySem.W.keepIn K (.ref f46) = true)
    (l47 : K.lookup f47 = some ⟨oc47, od47, .func (PySem.W.fnOf "_law_same" "_law_same" (defArgs s_L_same) (defBody s_L_same) (defScope s_L_same) .none kV47 dc47 pm47 an47 cd47 ct47), sl47⟩)
    (c47 : PySem.W.codeIn K cd47 "_law_same" = true)
    (k47 : PySem.W.keepIn K (.ref f47) = true)
    (l48 : K.lookup f48 = some ⟨oc48, od48, .func (PySem.W.fnOf "_law_set" "_law_set" (defArgs s_L_set) (defBody s_L_set) (defScope s_L_set) .none kV48 dc48 pm48 an48 cd48 ct48), sl48⟩)
    (c48 : PySem.W.codeIn K cd48 "_law_set" = true)
    (k48 : PySem.W.keepIn K (.ref f48) = true)
    (l49 : K.lookup f49 = some ⟨oc49, od49, .func (PySem.W.fnOf "_law_config" "_law_config" (defArgs s_L_config) (defBody s_L_config) (defScope s_L_config) .none kV49 dc49 pm49 an49 cd49 ct49), sl49⟩)
    (c49 : PySem.W.codeIn K cd49 "_law_config" = true)
    (k49 : PySem.W.keepIn K (.ref f49) = true)
    (l50 : K.lookup f50 = some ⟨oc50, od50, .func (PySem.W.fnOf "_law_made" "_law_made" (defArgs s_L_made) (defBody s_L_made) (defScope s_L_made) .none kV50 dc50 pm50 an50 cd50 ct50), sl50⟩)
    (c50 : PySem.W.codeIn K cd50 "_law_made" = true)
    (k50 : PySem.W.keepIn K (.ref f50) = true)
    (l51 : K.lookup f51 = some ⟨oc51, od51, .func (PySem.W.fnOf "_law_do" "_law_do" (defArgs s_L_do) (defBody s_L_do) (defScope s_L_do) .none kV51 dc51 pm51 an51 cd51 ct51), sl51⟩)
    (c51 : PySem.W.codeIn K cd51 "_law_do" = true)
    (k51 : PySem.W.keepIn K (.ref f51) = true)
    (l52 : K.lookup f52 = some ⟨oc52, od52, .func (PySem.W.fnOf "_law_due" "_law_due" (defArgs s_L_due) (defBody s_L_due) (defScope s_L_due) .none kV52 dc52 pm52 an52 cd52 ct52), sl52⟩)
    (c52 : PySem.W.codeIn K cd52 "_law_due" = true)
    (k52 : PySem.W.keepIn K (.ref f52) = true)
    (l53 : K.lookup f53 = some ⟨oc53, od53, .func (PySem.W.fnOf "_law_right" "_law_right" (defArgs s_L_right) (defBody s_L_right) (defScope s_L_right) .none kV53 dc53 pm53 an53 cd53 ct53), sl53⟩)
    (c53 : PySem.W.codeIn K cd53 "_law_right" = true)
    (k53 : PySem.W.keepIn K (.ref f53) = true)
    (l54 : K.lookup f54 = some ⟨oc54, od54, .func (PySem.W.fnOf "law" "law" (defArgs s_law) (defBody s_law) (defScope s_law) .none kV54 dc54 pm54 an54 cd54 ct54), sl54⟩)
    (c54 : PySem.W.codeIn K cd54 "law" = true)
    (k54 : PySem.W.keepIn K (.ref f54) = true)
    (xe0 : PySem.W.excIn K C0 [.type "ValueError", .type "Exception", .type "BaseException", .type "object"] "ValueError.__new__" = true)
    (ke0 : PySem.W.keepIn K (.ref C0) = true)
    (be0 : PySem.W.subIn K (.ref C0) (.type "BaseException") = some true)
    (te0 : PySem.W.typeIn K (.ref C0) = some (.type "type"))
    (ie0 : PySem.W.isClsIn K C0 = true)
    (se0 : PySem.W.subIn K (.ref C0) (.ref C0) = some true)
    (hd0 : PySem.W.hasDictIn K C0 = true)
    (xe1 : PySem.W.excIn K C1 [.type "ValueError", .type "Exception", .type "BaseException", .type "object"] "ValueError.__new__" = true)
    (ke1 : PySem.W.keepIn K (.ref C1) = true)
    (be1 : PySem.W.subIn K (.ref C1) (.type "BaseException") = some true)
    (te1 : PySem.W.typeIn K (.ref C1) = some (.type "type"))
    (ie1 : PySem.W.isClsIn K C1 = true)
    (se1 : PySem.W.subIn K (.ref C1) (.ref C1) = some true)
    (ue1 : PySem.W.subIn K (.ref C1) (.ref C0) = some true)
    (xe2 : PySem.W.excIn K C2 [.type "ValueError", .type "Exception", .type "BaseException", .type "object"] "ValueError.__new__" = true)
    (ke2 : PySem.W.keepIn K (.ref C2) = true)
    (be2 : PySem.W.subIn K (.ref C2) (.type "BaseException") = some true)
    (te2 : PySem.W.typeIn K (.ref C2) = some (.type "type"))
    (ie2 : PySem.W.isClsIn K C2 = true)
    (se2 : PySem.W.subIn K (.ref C2) (.ref C2) = some true)
    (ue2 : PySem.W.subIn K (.ref C2) (.ref C0) = some true)
    (xe3 : PySem.W.excIn K C3 [.type "ValueError", .type "Exception", .type "BaseException", .type "object"] "ValueError.__new__" = true)
    (ke3 : PySem.W.keepIn K (.ref C3) = true)
    (be3 : PySem.W.subIn K (.ref C3) (.type "BaseException") = some true)
    (te3 : PySem.W.typeIn K (.ref C3) = some (.type "type"))
    (ie3 : PySem.W.isClsIn K C3 = true)
    (se3 : PySem.W.subIn K (.ref C3) (.ref C3) = some true)
    (hg3 : PySem.W.findIn K (.ref C3) "__getattribute__" = some (some (.builtin "BaseException.__getattribute__")))
    (hk3 : PySem.W.findIn K (.ref C3) "__getattr__" = some none)
    (hd3 : PySem.W.hasDictIn K C3 = true)
    (ha3 : PySem.W.findIn K (.ref C3) "__class__" = some (some (.builtin "object.__class__")))
    (hm3 : PySem.W.mroIn K C3 (.type "object") = some true)
    (hn3 : PySem.W.specialIn K (.builtin "object.__class__") "__get__" = some (some (.builtin "getset_descriptor.__get__")))
    (ht3 : PySem.W.takesIn K (.builtin "object.__class__") = some true)
    (ue3 : PySem.W.subIn K (.ref C3) (.ref C0) = some true)
    (pg4 : PySem.W.plainGet K C4 Str.empty = true)
    (hd4 : PySem.W.hasDictIn K C4 = true)
    (po4 : PySem.W.plainOver K C4 = true)
    (sa4 : PySem.W.findIn K (.ref C4) "__setattr__" = some (some (.builtin "object.__setattr__")))
    (mk4 : PySem.W.makesIn K C4 = true)
    (kc4 : PySem.W.keepIn K (.ref C4) = true)
    (i1 : PySem.W.isFn K (.ref f1) = true)
    (i2 : PySem.W.isFn K (.ref f2) = true)
    (i3 : PySem.W.isFn K (.ref f3) = true)
    (i4 : PySem.W.isFn K (.ref f4) = true)
    (i5 : PySem.W.isFn K (.ref f5) = true)
    (i6 : PySem.W.isFn K (.ref f6) = true)
    (i7 : PySem.W.isFn K (.ref f7) = true)
    (i8 : PySem.W.isFn K (.ref f8) = true)
    (i9 : PySem.W.isFn K (.ref f9) = true)
    (i10 : PySem.W.isFn K (.ref f10) = true)
    (i11 : PySem.W.isFn K (.ref f11) = true)
    (i12 : PySem.W.isFn K (.ref f12) = true)
    (i13 : PySem.W.isFn K (.ref f13) = true)
    (i14 : PySem.W.isFn K (.ref f14) = true)
    (n4_0 : PySem.W.findIn K (.ref C4) "_config" = some none)
    (n4_1 : PySem.W.findIn K (.ref C4) "_side" = some none)
    (n4_2 : PySem.W.findIn K (.ref C4) "_balances" = some none)
    (n4_3 : PySem.W.findIn K (.ref C4) "_bonds" = some none)
    (n4_4 : PySem.W.findIn K (.ref C4) "_vaults" = some none)
    (pg5 : PySem.W.plainGet K C5 Str.empty = true)
    (hd5 : PySem.W.hasDictIn K C5 = true)
    (po5 : PySem.W.plainOver K C5 = true)
    (sa5 : PySem.W.findIn K (.ref C5) "__setattr__" = some (some (.builtin "object.__setattr__")))
    (mk5 : PySem.W.makesIn K C5 = true)
    (kc5 : PySem.W.keepIn K (.ref C5) = true)
    (i27 : PySem.W.isFn K (.ref f27) = true)
    (i28 : PySem.W.isFn K (.ref f28) = true)
    (i29 : PySem.W.isFn K (.ref f29) = true)
    (i30 : PySem.W.isFn K (.ref f30) = true)
    (i31 : PySem.W.isFn K (.ref f31) = true)
    (i32 : PySem.W.isFn K (.ref f32) = true)
    (i33 : PySem.W.isFn K (.ref f33) = true)
    (i34 : PySem.W.isFn K (.ref f34) = true)
    (i35 : PySem.W.isFn K (.ref f35) = true)
    (i36 : PySem.W.isFn K (.ref f36) = true)
    (i37 : PySem.W.isFn K (.ref f37) = true)
    (i38 : PySem.W.isFn K (.ref f38) = true)
    (i39 : PySem.W.isFn K (.ref f39) = true)
    (n5_0 : PySem.W.findIn K (.ref C5) "_tokens" = some none)
    (n5_1 : PySem.W.findIn K (.ref C5) "_balances" = some none)
    (n5_2 : PySem.W.findIn K (.ref C5) "_guards" = some none)
    (n5_3 : PySem.W.findIn K (.ref C5) "_depth" = some none)
    (n5_4 : PySem.W.findIn K (.ref C5) "_window" = some none)
    (n5_5 : PySem.W.findIn K (.ref C5) "_delay" = some none)
    (n5_6 : PySem.W.findIn K (.ref C5) "_bundle" = some none)
    (q0 : PySem.W.nsIn K mainGlobals "ACCOUNT_LENGTH" = some (some (.int 20 tk0)))
    (q1 : PySem.W.nsIn K mainGlobals "BARRED_CODE" = some (some (.int 37 tk1)))
    (q2 : PySem.W.nsIn K mainGlobals "FIRST_CODE" = some (some (.int 32 tk2)))
    (q3 : PySem.W.nsIn K mainGlobals "LAST_CODE" = some (some (.int 126 tk3)))
    (q4 : PySem.W.nsIn K mainGlobals "MOST_IN_BUNDLE" = some (some (.int 8 tk4)))
    (q5 : PySem.W.nsIn K mainGlobals "SIDES" = some (some (.ref g5)))
    (r5 : K.lookup g5 = some ⟨.type "tuple", odg5, .seq itg5 ng5, slg5⟩)
    (v5 : ValsB [.str "west", .str "east"] itg5.toList = true)
    (q6 : PySem.W.nsIn K mainGlobals "TOKEN_LENGTH" = some (some (.int 12 tk6)))
    (z0 : PySem.W.nsIn K mainGlobals "abs" = some none)
    (z1 : PySem.W.nsIn K mainGlobals "all" = some none)
    (z2 : PySem.W.nsIn K mainGlobals "bool" = some none)
    (z3 : PySem.W.nsIn K mainGlobals "dict" = some none)
    (z4 : PySem.W.nsIn K mainGlobals "int" = some none)
    (z5 : PySem.W.nsIn K mainGlobals "isinstance" = some none)
    (z6 : PySem.W.nsIn K mainGlobals "len" = some none)
    (z7 : PySem.W.nsIn K mainGlobals "list" = some none)
    (z8 : PySem.W.nsIn K mainGlobals "min" = some none)
    (z9 : PySem.W.nsIn K mainGlobals "ord" = some none)
    (z10 : PySem.W.nsIn K mainGlobals "range" = some none)
    (z11 : PySem.W.nsIn K mainGlobals "str" = some none)
    (z12 : PySem.W.nsIn K mainGlobals "sum" = some none)
    (z13 : PySem.W.nsIn K mainGlobals "tuple" = some none) : Txt K mg where
  f__wall := f0
  d__wall := PySem.W.fnOf "_wall" "_wall" (defArgs s__wall) (defBody s__wall) (defScope s__wall) .none kV0 dc0 pm0 an0 cd0 ct0
  F__wall := fun_mk (st := s__wall) l0 c0 k0
  b__wall := Fun.binds (fun_mk (st := s__wall) l0 c0 k0) (ps := ["k"]) fun _ _ _ _ _ _ us hl => match us, hl with | [_], _ => rfl
  g__wall := PySem.W.mg_of X G a0
  f_Sheet_init := f1
  d_Sheet_init := PySem.W.fnOf "__init__" "Sheet.__init__" (defArgs s_Sheet_init) (defBody s_Sheet_init) (defScope s_Sheet_init) .none kV1 dc1 pm1 an1 cd1 ct1
  F_Sheet_init := fun_mk (st := s_Sheet_init) l1 c1 k1
  b_Sheet_init := Fun.binds (fun_mk (st := s_Sheet_init) l1 c1 k1) (ps := ["self", "config", "side"]) fun _ _ _ _ _ _ us hl => match us, hl with | [_, _, _], _ => rfl
  f_Sheet_copy := f2
  d_Sheet_copy := PySem.W.fnOf "copy" "Sheet.copy" (defArgs s_Sheet_copy) (defBody s_Sheet_copy) (defScope s_Sheet_copy) .none kV2 dc2 pm2 an2 cd2 ct2
  F_Sheet_copy := fun_mk (st := s_Sheet_copy) l2 c2 k2
  b_Sheet_copy := Fun.binds (fun_mk (st := s_Sheet_copy) l2 c2 k2) (ps := ["self"]) fun _ _ _ _ _ _ us hl => match us, hl with | [_], _ => rfl
  f_Sheet_balance := f3
  d_Sheet_balance := PySem.W.fnOf "balance" "Sheet.balance" (defArgs s_Sheet_balance) (defBody s_Sheet_balance) (defScope s_Sheet_balance) .none kV3 dc3 pm3 an3 cd3 ct3
  F_Sheet_balance := fun_mk (st := s_Sheet_balance) l3 c3 k3
  b_Sheet_balance := Fun.binds (fun_mk (st := s_Sheet_balance) l3 c3 k3) (ps := ["self", "account", "token"]) fun _ _ _ _ _ _ us hl => match us, hl with | [_, _, _], _ => rfl
  f_Sheet_vault := f4
  d_Sheet_vault := PySem.W.fnOf "vault" "Sheet.vault" (defArgs s_Sheet_vault) (defBody s_Sheet_vault) (defScope s_Sheet_vault) .none kV4 dc4 pm4 an4 cd4 ct4
  F_Sheet_vault := fun_mk (st := s_Sheet_vault) l4 c4 k4
  b_Sheet_vault := Fun.binds (fun_mk (st := s_Sheet_vault) l4 c4 k4) (ps := ["self", "token"]) fun _ _ _ _ _ _ us hl => match us, hl with | [_, _], _ => rfl
  f_Sheet_bonded := f5
  d_Sheet_bonded := PySem.W.fnOf "bonded" "Sheet.bonded" (defArgs s_Sheet_bonded) (defBody s_Sheet_bonded) (defScope s_Sheet_bonded) .none kV5 dc5 pm5 an5 cd5 ct5
  F_Sheet_bonded := fun_mk (st := s_Sheet_bonded) l5 c5 k5
  b_Sheet_bonded := Fun.binds (fun_mk (st := s_Sheet_bonded) l5 c5 k5) (ps := ["self", "guard", "token"]) fun _ _ _ _ _ _ us hl => match us, hl with | [_, _, _], _ => rfl
  f_Sheet_bonders := f6
  d_Sheet_bonders := PySem.W.fnOf "bonders" "Sheet.bonders" (defArgs s_Sheet_bonders) (defBody s_Sheet_bonders) (defScope s_Sheet_bonders) .none kV6 dc6 pm6 an6 cd6 ct6
  F_Sheet_bonders := fun_mk (st := s_Sheet_bonders) l6 c6 k6
  b_Sheet_bonders := Fun.binds (fun_mk (st := s_Sheet_bonders) l6 c6 k6) (ps := ["self", "token"]) fun _ _ _ _ _ _ us hl => match us, hl with | [_, _], _ => rfl
  f_Sheet_circulating := f7
  d_Sheet_circulating := PySem.W.fnOf "circulating" "Sheet.circulating" (defArgs s_Sheet_circulating) (defBody s_Sheet_circulating) (defScope s_Sheet_circulating) .none kV7 dc7 pm7 an7 cd7 ct7
  F_Sheet_circulating := fun_mk (st := s_Sheet_circulating) l7 c7 k7
  b_Sheet_circulating := Fun.binds (fun_mk (st := s_Sheet_circulating) l7 c7 k7) (ps := ["self", "token"]) fun _ _ _ _ _ _ us hl => match us, hl with | [_, _], _ => rfl
  f_Sheet_move := f8
  d_Sheet_move := PySem.W.fnOf "move" "Sheet.move" (defArgs s_Sheet_move) (defBody s_Sheet_move) (defScope s_Sheet_move) .none kV8 dc8 pm8 an8 cd8 ct8
  F_Sheet_move := fun_mk (st := s_Sheet_move) l8 c8 k8
  b_Sheet_move := Fun.binds (fun_mk (st := s_Sheet_move) l8 c8 k8) (ps := ["self", "sender", "receiver", "token", "amount"]) fun _ _ _ _ _ _ us hl => match us, hl with | [_, _, _, _, _], _ => rfl
  f_Sheet_lock := f9
  d_Sheet_lock := PySem.W.fnOf "lock" "Sheet.lock" (defArgs s_Sheet_lock) (defBody s_Sheet_lock) (defScope s_Sheet_lock) .none kV9 dc9 pm9 an9 cd9 ct9
  F_Sheet_lock := fun_mk (st := s_Sheet_lock) l9 c9 k9
  b_Sheet_lock := Fun.binds (fun_mk (st := s_Sheet_lock) l9 c9 k9) (ps := ["self", "account", "token", "units"]) fun _ _ _ _ _ _ us hl => match us, hl with | [_, _, _, _], _ => rfl
  f_Sheet_release := f10
  d_Sheet_release := PySem.W.fnOf "release" "Sheet.release" (defArgs s_Sheet_release) (defBody s_Sheet_release) (defScope s_Sheet_release) .none kV10 dc10 pm10 an10 cd10 ct10
  F_Sheet_release := fun_mk (st := s_Sheet_release) l10 c10 k10
  b_Sheet_release := Fun.binds (fun_mk (st := s_Sheet_release) l10 c10 k10) (ps := ["self", "account", "token", "units"]) fun _ _ _ _ _ _ us hl => match us, hl with | [_, _, _, _], _ => rfl
  f_Sheet_mint := f11
  d_Sheet_mint := PySem.W.fnOf "mint" "Sheet.mint" (defArgs s_Sheet_mint) (defBody s_Sheet_mint) (defScope s_Sheet_mint) .none kV11 dc11 pm11 an11 cd11 ct11
  F_Sheet_mint := fun_mk (st := s_Sheet_mint) l11 c11 k11
  b_Sheet_mint := Fun.binds (fun_mk (st := s_Sheet_mint) l11 c11 k11) (ps := ["self", "account", "token", "units"]) fun _ _ _ _ _ _ us hl => match us, hl with | [_, _, _, _], _ => rfl
  f_Sheet_burn := f12
  d_Sheet_burn := PySem.W.fnOf "burn" "Sheet.burn" (defArgs s_Sheet_burn) (defBody s_Sheet_burn) (defScope s_Sheet_burn) .none kV12 dc12 pm12 an12 cd12 ct12
  F_Sheet_burn := fun_mk (st := s_Sheet_burn) l12 c12 k12
  b_Sheet_burn := Fun.binds (fun_mk (st := s_Sheet_burn) l12 c12 k12) (ps := ["self", "account", "token", "units"]) fun _ _ _ _ _ _ us hl => match us, hl with | [_, _, _, _], _ => rfl
  f_Sheet_bond := f13
  d_Sheet_bond := PySem.W.fnOf "bond" "Sheet.bond" (defArgs s_Sheet_bond) (defBody s_Sheet_bond) (defScope s_Sheet_bond) .none kV13 dc13 pm13 an13 cd13 ct13
  F_Sheet_bond := fun_mk (st := s_Sheet_bond) l13 c13 k13
  b_Sheet_bond := Fun.binds (fun_mk (st := s_Sheet_bond) l13 c13 k13) (ps := ["self", "guard", "token", "amount"]) fun _ _ _ _ _ _ us hl => match us, hl with | [_, _, _, _], _ => rfl
  f_Sheet_unbond := f14
  d_Sheet_unbond := PySem.W.fnOf "unbond" "Sheet.unbond" (defArgs s_Sheet_unbond) (defBody s_Sheet_unbond) (defScope s_Sheet_unbond) .none kV14 dc14 pm14 an14 cd14 ct14
  F_Sheet_unbond := fun_mk (st := s_Sheet_unbond) l14 c14 k14
  b_Sheet_unbond := Fun.binds (fun_mk (st := s_Sheet_unbond) l14 c14 k14) (ps := ["self", "guard", "token", "amount"]) fun _ _ _ _ _ _ us hl => match us, hl with | [_, _, _, _], _ => rfl
  f_copied := f15
  d_copied := PySem.W.fnOf "copied" "copied" (defArgs s_copied) (defBody s_copied) (defScope s_copied) .none kV15 dc15 pm15 an15 cd15 ct15
  F_copied := fun_mk (st := s_copied) l15 c15 k15
  b_copied := Fun.binds (fun_mk (st := s_copied) l15 c15 k15) (ps := ["table"]) fun _ _ _ _ _ _ us hl => match us, hl with | [_], _ => rfl
  g_copied := PySem.W.mg_of X G a15
  f_held := f16
  d_held := PySem.W.fnOf "held" "held" (defArgs s_held) (defBody s_held) (defScope s_held) .none kV16 dc16 pm16 an16 cd16 ct16
  F_held := fun_mk (st := s_held) l16 c16 k16
  b_held := Fun.binds (fun_mk (st := s_held) l16 c16 k16) (ps := ["table", "token", "name"]) fun _ _ _ _ _ _ us hl => match us, hl with | [_, _, _], _ => rfl
  g_held := PySem.W.mg_of X G a16
  f_put := f17
  d_put := PySem.W.fnOf "put" "put" (defArgs s_put) (defBody s_put) (defScope s_put) .none kV17 dc17 pm17 an17 cd17 ct17
  F_put := fun_mk (st := s_put) l17 c17 k17
  b_put := Fun.binds (fun_mk (st := s_put) l17 c17 k17) (ps := ["table", "token", "name", "amount"]) fun _ _ _ _ _ _ us hl => match us, hl with | [_, _, _, _], _ => rfl
  g_put := PySem.W.mg_of X G a17
  f_draw := f18
  d_draw := PySem.W.fnOf "draw" "draw" (defArgs s_draw) (defBody s_draw) (defScope s_draw) .none kV18 dc18 pm18 an18 cd18 ct18
  F_draw := fun_mk (st := s_draw) l18 c18 k18
  b_draw := Fun.binds (fun_mk (st := s_draw) l18 c18 k18) (ps := ["table", "token", "name", "amount"]) fun _ _ _ _ _ _ us hl => match us, hl with | [_, _, _, _], _ => rfl
  g_draw := PySem.W.mg_of X G a18
  f_is_integer := f19
  d_is_integer := PySem.W.fnOf "is_integer" "is_integer" (defArgs s_is_integer) (defBody s_is_integer) (defScope s_is_integer) .none kV19 dc19 pm19 an19 cd19 ct19
  F_is_integer := fun_mk (st := s_is_integer) l19 c19 k19
  b_is_integer := Fun.binds (fun_mk (st := s_is_integer) l19 c19 k19) (ps := ["value"]) fun _ _ _ _ _ _ us hl => match us, hl with | [_], _ => rfl
  g_is_integer := PySem.W.mg_of X G a19
  f_is_at_least := f20
  d_is_at_least := PySem.W.fnOf "is_at_least" "is_at_least" (defArgs s_is_at_least) (defBody s_is_at_least) (defScope s_is_at_least) .none kV20 dc20 pm20 an20 cd20 ct20
  F_is_at_least := fun_mk (st := s_is_at_least) l20 c20 k20
  b_is_at_least := Fun.binds (fun_mk (st := s_is_at_least) l20 c20 k20) (ps := ["value", "least"]) fun _ _ _ _ _ _ us hl => match us, hl with | [_, _], _ => rfl
  g_is_at_least := PySem.W.mg_of X G a20
  f_is_text := f21
  d_is_text := PySem.W.fnOf "is_text" "is_text" (defArgs s_is_text) (defBody s_is_text) (defScope s_is_text) .none kV21 dc21 pm21 an21 cd21 ct21
  F_is_text := fun_mk (st := s_is_text) l21 c21 k21
  b_is_text := Fun.binds (fun_mk (st := s_is_text) l21 c21 k21) (ps := ["value"]) fun _ _ _ _ _ _ us hl => match us, hl with | [_], _ => rfl
  g_is_text := PySem.W.mg_of X G a21
  f_is_short_text := f22
  d_is_short_text := PySem.W.fnOf "is_short_text" "is_short_text" (defArgs s_is_short_text) (defBody s_is_short_text) (defScope s_is_short_text) .none kV22 dc22 pm22 an22 cd22 ct22
  F_is_short_text := fun_mk (st := s_is_short_text) l22 c22 k22
  b_is_short_text := Fun.binds (fun_mk (st := s_is_short_text) l22 c22 k22) (ps := ["value", "most"]) fun _ _ _ _ _ _ us hl => match us, hl with | [_, _], _ => rfl
  g_is_short_text := PySem.W.mg_of X G a22
  f_is_account := f23
  d_is_account := PySem.W.fnOf "is_account" "is_account" (defArgs s_is_account) (defBody s_is_account) (defScope s_is_account) .none kV23 dc23 pm23 an23 cd23 ct23
  F_is_account := fun_mk (st := s_is_account) l23 c23 k23
  b_is_account := Fun.binds (fun_mk (st := s_is_account) l23 c23 k23) (ps := ["value"]) fun _ _ _ _ _ _ us hl => match us, hl with | [_], _ => rfl
  g_is_account := PySem.W.mg_of X G a23
  f_is_side := f24
  d_is_side := PySem.W.fnOf "is_side" "is_side" (defArgs s_is_side) (defBody s_is_side) (defScope s_is_side) .none kV24 dc24 pm24 an24 cd24 ct24
  F_is_side := fun_mk (st := s_is_side) l24 c24 k24
  b_is_side := Fun.binds (fun_mk (st := s_is_side) l24 c24 k24) (ps := ["value"]) fun _ _ _ _ _ _ us hl => match us, hl with | [_], _ => rfl
  g_is_side := PySem.W.mg_of X G a24
  f_is_set := f25
  d_is_set := PySem.W.fnOf "is_set" "is_set" (defArgs s_is_set) (defBody s_is_set) (defScope s_is_set) .none kV25 dc25 pm25 an25 cd25 ct25
  F_is_set := fun_mk (st := s_is_set) l25 c25 k25
  b_is_set := Fun.binds (fun_mk (st := s_is_set) l25 c25 k25) (ps := ["value"]) fun _ _ _ _ _ _ us hl => match us, hl with | [_], _ => rfl
  g_is_set := PySem.W.mg_of X G a25
  f_is_pair := f26
  d_is_pair := PySem.W.fnOf "is_pair" "is_pair" (defArgs s_is_pair) (defBody s_is_pair) (defScope s_is_pair) .none kV26 dc26 pm26 an26 cd26 ct26
  F_is_pair := fun_mk (st := s_is_pair) l26 c26 k26
  b_is_pair := Fun.binds (fun_mk (st := s_is_pair) l26 c26 k26) (ps := ["part"]) fun _ _ _ _ _ _ us hl => match us, hl with | [_], _ => rfl
  g_is_pair := PySem.W.mg_of X G a26
  f_Config_init := f27
  d_Config_init := PySem.W.fnOf "__init__" "Config.__init__" (defArgs s_Config_init) (defBody s_Config_init) (defScope s_Config_init) .none kV27 dc27 pm27 an27 cd27 ct27
  F_Config_init := fun_mk (st := s_Config_init) l27 c27 k27
  kb_Config_init := ⟨fun s us ws X l1 l2 => match us, ws, l1, l2 with | [_], [_, _, _, _, _, _, _], _, _ => .of_eq rfl, fun r rz => Vals.append r rz⟩
  f_Config_token_names := f28
  d_Config_token_names := PySem.W.fnOf "token_names" "Config.token_names" (defArgs s_Config_token_names) (defBody s_Config_token_names) (defScope s_Config_token_names) .none kV28 dc28 pm28 an28 cd28 ct28
  F_Config_token_names := fun_mk (st := s_Config_token_names) l28 c28 k28
  b_Config_token_names := Fun.binds (fun_mk (st := s_Config_token_names) l28 c28 k28) (ps := ["self"]) fun _ _ _ _ _ _ us hl => match us, hl with | [_], _ => rfl
  f_Config_check_token := f29
  d_Config_check_token := PySem.W.fnOf "check_token" "Config.check_token" (defArgs s_Config_check_token) (defBody s_Config_check_token) (defScope s_Config_check_token) .none kV29 dc29 pm29 an29 cd29 ct29
  F_Config_check_token := fun_mk (st := s_Config_check_token) l29 c29 k29
  b_Config_check_token := Fun.binds (fun_mk (st := s_Config_check_token) l29 c29 k29) (ps := ["self", "token"]) fun _ _ _ _ _ _ us hl => match us, hl with | [_, _], _ => rfl
  f_Config_home := f30
  d_Config_home := PySem.W.fnOf "home" "Config.home" (defArgs s_Config_home) (defBody s_Config_home) (defScope s_Config_home) .none kV30 dc30 pm30 an30 cd30 ct30
  F_Config_home := fun_mk (st := s_Config_home) l30 c30 k30
  b_Config_home := Fun.binds (fun_mk (st := s_Config_home) l30 c30 k30) (ps := ["self", "token"]) fun _ _ _ _ _ _ us hl => match us, hl with | [_, _], _ => rfl
  f_Config_scale := f31
  d_Config_scale := PySem.W.fnOf "scale" "Config.scale" (defArgs s_Config_scale) (defBody s_Config_scale) (defScope s_Config_scale) .none kV31 dc31 pm31 an31 cd31 ct31
  F_Config_scale := fun_mk (st := s_Config_scale) l31 c31 k31
  b_Config_scale := Fun.binds (fun_mk (st := s_Config_scale) l31 c31 k31) (ps := ["self", "token"]) fun _ _ _ _ _ _ us hl => match us, hl with | [_, _], _ => rfl
  f_Config_limit := f32
  d_Config_limit := PySem.W.fnOf "limit" "Config.limit" (defArgs s_Config_limit) (defBody s_Config_limit) (defScope s_Config_limit) .none kV32 dc32 pm32 an32 cd32 ct32
  F_Config_limit := fun_mk (st := s_Config_limit) l32 c32 k32
  b_Config_limit := Fun.binds (fun_mk (st := s_Config_limit) l32 c32 k32) (ps := ["self", "token"]) fun _ _ _ _ _ _ us hl => match us, hl with | [_, _], _ => rfl
  f_Config_large := f33
  d_Config_large := PySem.W.fnOf "large" "Config.large" (defArgs s_Config_large) (defBody s_Config_large) (defScope s_Config_large) .none kV33 dc33 pm33 an33 cd33 ct33
  F_Config_large := fun_mk (st := s_Config_large) l33 c33 k33
  b_Config_large := Fun.binds (fun_mk (st := s_Config_large) l33 c33 k33) (ps := ["self", "token"]) fun _ _ _ _ _ _ us hl => match us, hl with | [_, _], _ => rfl
  f_Config_opening := f34
  d_Config_opening := PySem.W.fnOf "opening" "Config.opening" (defArgs s_Config_opening) (defBody s_Config_opening) (defScope s_Config_opening) .none kV34 dc34 pm34 an34 cd34 ct34
  F_Config_opening := fun_mk (st := s_Config_opening) l34 c34 k34
  b_Config_opening := Fun.binds (fun_mk (st := s_Config_opening) l34 c34 k34) (ps := ["self", "side"]) fun _ _ _ _ _ _ us hl => match us, hl with | [_, _], _ => rfl
  f_Config_guards := f35
  d_Config_guards := PySem.W.fnOf "guards" "Config.guards" (defArgs s_Config_guards) (defBody s_Config_guards) (defScope s_Config_guards) .none kV35 dc35 pm35 an35 cd35 ct35
  F_Config_guards := fun_mk (st := s_Config_guards) l35 c35 k35
  b_Config_guards := Fun.binds (fun_mk (st := s_Config_guards) l35 c35 k35) (ps := ["self"]) fun _ _ _ _ _ _ us hl => match us, hl with | [_], _ => rfl
  f_Config_depth := f36
  d_Config_depth := PySem.W.fnOf "depth" "Config.depth" (defArgs s_Config_depth) (defBody s_Config_depth) (defScope s_Config_depth) .none kV36 dc36 pm36 an36 cd36 ct36
  F_Config_depth := fun_mk (st := s_Config_depth) l36 c36 k36
  b_Config_depth := Fun.binds (fun_mk (st := s_Config_depth) l36 c36 k36) (ps := ["self"]) fun _ _ _ _ _ _ us hl => match us, hl with | [_], _ => rfl
  f_Config_window := f37
  d_Config_window := PySem.W.fnOf "window" "Config.window" (defArgs s_Config_window) (defBody s_Config_window) (defScope s_Config_window) .none kV37 dc37 pm37 an37 cd37 ct37
  F_Config_window := fun_mk (st := s_Config_window) l37 c37 k37
  b_Config_window := Fun.binds (fun_mk (st := s_Config_window) l37 c37 k37) (ps := ["self"]) fun _ _ _ _ _ _ us hl => match us, hl with | [_], _ => rfl
  f_Config_delay := f38
  d_Config_delay := PySem.W.fnOf "delay" "Config.delay" (defArgs s_Config_delay) (defBody s_Config_delay) (defScope s_Config_delay) .none kV38 dc38 pm38 an38 cd38 ct38
  F_Config_delay := fun_mk (st := s_Config_delay) l38 c38 k38
  b_Config_delay := Fun.binds (fun_mk (st := s_Config_delay) l38 c38 k38) (ps := ["self"]) fun _ _ _ _ _ _ us hl => match us, hl with | [_], _ => rfl
  f_Config_bundle := f39
  d_Config_bundle := PySem.W.fnOf "bundle" "Config.bundle" (defArgs s_Config_bundle) (defBody s_Config_bundle) (defScope s_Config_bundle) .none kV39 dc39 pm39 an39 cd39 ct39
  F_Config_bundle := fun_mk (st := s_Config_bundle) l39 c39 k39
  b_Config_bundle := Fun.binds (fun_mk (st := s_Config_bundle) l39 c39 k39) (ps := ["self"]) fun _ _ _ _ _ _ us hl => match us, hl with | [_], _ => rfl
  f_check_list := f40
  d_check_list := PySem.W.fnOf "check_list" "check_list" (defArgs s_check_list) (defBody s_check_list) (defScope s_check_list) .none kV40 dc40 pm40 an40 cd40 ct40
  F_check_list := fun_mk (st := s_check_list) l40 c40 k40
  b_check_list := Fun.binds (fun_mk (st := s_check_list) l40 c40 k40) (ps := ["name", "value"]) fun _ _ _ _ _ _ us hl => match us, hl with | [_, _], _ => rfl
  g_check_list := PySem.W.mg_of X G a40
  f_check_least := f41
  d_check_least := PySem.W.fnOf "check_least" "check_least" (defArgs s_check_least) (defBody s_check_least) (defScope s_check_least) .none kV41 dc41 pm41 an41 cd41 ct41
  F_check_least := fun_mk (st := s_check_least) l41 c41 k41
  b_check_least := Fun.binds (fun_mk (st := s_check_least) l41 c41 k41) (ps := ["name", "value", "least"]) fun _ _ _ _ _ _ us hl => match us, hl with | [_, _, _], _ => rfl
  g_check_least := PySem.W.mg_of X G a41
  f_check_token_row := f42
  d_check_token_row := PySem.W.fnOf "check_token_row" "check_token_row" (defArgs s_check_token_row) (defBody s_check_token_row) (defScope s_check_token_row) .none kV42 dc42 pm42 an42 cd42 ct42
  F_check_token_row := fun_mk (st := s_check_token_row) l42 c42 k42
  b_check_token_row := Fun.binds (fun_mk (st := s_check_token_row) l42 c42 k42) (ps := ["row"]) fun _ _ _ _ _ _ us hl => match us, hl with | [_], _ => rfl
  g_check_token_row := PySem.W.mg_of X G a42
  f_check_balance_row := f43
  d_check_balance_row := PySem.W.fnOf "check_balance_row" "check_balance_row" (defArgs s_check_balance_row) (defBody s_check_balance_row) (defScope s_check_balance_row) .none kV43 dc43 pm43 an43 cd43 ct43
  F_check_balance_row := fun_mk (st := s_check_balance_row) l43 c43 k43
  b_check_balance_row := Fun.binds (fun_mk (st := s_check_balance_row) l43 c43 k43) (ps := ["row", "tokens"]) fun _ _ _ _ _ _ us hl => match us, hl with | [_, _], _ => rfl
  g_check_balance_row := PySem.W.mg_of X G a43
  f_L_pot := f44
  d_L_pot := PySem.W.fnOf "_law_pot" "_law_pot" (defArgs s_L_pot) (defBody s_L_pot) (defScope s_L_pot) .none kV44 dc44 pm44 an44 cd44 ct44
  F_L_pot := fun_mk (st := s_L_pot) l44 c44 k44
  b_L_pot := Fun.binds (fun_mk (st := s_L_pot) l44 c44 k44) (ps := ["script"]) fun _ _ _ _ _ _ us hl => match us, hl with | [_], _ => rfl
  g_L_pot := PySem.W.mg_of X G a44
  f_L_next := f45
  d_L_next := PySem.W.fnOf "_law_next" "_law_next" (defArgs s_L_next) (defBody s_L_next) (defScope s_L_next) .none kV45 dc45 pm45 an45 cd45 ct45
  F_L_next := fun_mk (st := s_L_next) l45 c45 k45
  b_L_next := Fun.binds (fun_mk (st := s_L_next) l45 c45 k45) (ps := ["pot", "limit"]) fun _ _ _ _ _ _ us hl => match us, hl with | [_, _], _ => rfl
  g_L_next := PySem.W.mg_of X G a45
  f_L_is_int := f46
  d_L_is_int := PySem.W.fnOf "_law_is_int" "_law_is_int" (defArgs s_L_is_int) (defBody s_L_is_int) (defScope s_L_is_int) .none kV46 dc46 pm46 an46 cd46 ct46
  F_L_is_int := fun_mk (st := s_L_is_int) l46 c46 k46
  b_L_is_int := Fun.binds (fun_mk (st := s_L_is_int) l46 c46 k46) (ps := ["value"]) fun _ _ _ _ _ _ us hl => match us, hl with | [_], _ => rfl
  g_L_is_int := PySem.W.mg_of X G a46
  f_L_same := f47
  d_L_same := PySem.W.fnOf "_law_same" "_law_same" (defArgs s_L_same) (defBody s_L_same) (defScope s_L_same) .none kV47 dc47 pm47 an47 cd47 ct47
  F_L_same := fun_mk (st := s_L_same) l47 c47 k47
  b_L_same := Fun.binds (fun_mk (st := s_L_same) l47 c47 k47) (ps := ["found", "value"]) fun _ _ _ _ _ _ us hl => match us, hl with | [_, _], _ => rfl
  g_L_same := PySem.W.mg_of X G a47
  f_L_set := f48
  d_L_set := PySem.W.fnOf "_law_set" "_law_set" (defArgs s_L_set) (defBody s_L_set) (defScope s_L_set) .none kV48 dc48 pm48 an48 cd48 ct48
  F_L_set := fun_mk (st := s_L_set) l48 c48 k48
  b_L_set := Fun.binds (fun_mk (st := s_L_set) l48 c48 k48) (ps := ["pot", "most"]) fun _ _ _ _ _ _ us hl => match us, hl with | [_, _], _ => rfl
  g_L_set := PySem.W.mg_of X G a48
  f_L_config := f49
  d_L_config := PySem.W.fnOf "_law_config" "_law_config" (defArgs s_L_config) (defBody s_L_config) (defScope s_L_config) .none kV49 dc49 pm49 an49 cd49 ct49
  F_L_config := fun_mk (st := s_L_config) l49 c49 k49
  b_L_config := Fun.binds (fun_mk (st := s_L_config) l49 c49 k49) (ps := ["pot"]) fun _ _ _ _ _ _ us hl => match us, hl with | [_], _ => rfl
  g_L_config := PySem.W.mg_of X G a49
  f_L_made := f50
  d_L_made := PySem.W.fnOf "_law_made" "_law_made" (defArgs s_L_made) (defBody s_L_made) (defScope s_L_made) .none kV50 dc50 pm50 an50 cd50 ct50
  F_L_made := fun_mk (st := s_L_made) l50 c50 k50
  b_L_made := Fun.binds (fun_mk (st := s_L_made) l50 c50 k50) (ps := ["parts"]) fun _ _ _ _ _ _ us hl => match us, hl with | [_], _ => rfl
  g_L_made := PySem.W.mg_of X G a50
  f_L_do := f51
  d_L_do := PySem.W.fnOf "_law_do" "_law_do" (defArgs s_L_do) (defBody s_L_do) (defScope s_L_do) .none kV51 dc51 pm51 an51 cd51 ct51
  F_L_do := fun_mk (st := s_L_do) l51 c51 k51
  b_L_do := Fun.binds (fun_mk (st := s_L_do) l51 c51 k51) (ps := ["sheet", "kind", "one", "other", "token", "amount"]) fun _ _ _ _ _ _ us hl => match us, hl with | [_, _, _, _, _, _], _ => rfl
  g_L_do := PySem.W.mg_of X G a51
  f_L_due := f52
  d_L_due := PySem.W.fnOf "_law_due" "_law_due" (defArgs s_L_due) (defBody s_L_due) (defScope s_L_due) .none kV52 dc52 pm52 an52 cd52 ct52
  F_L_due := fun_mk (st := s_L_due) l52 c52 k52
  b_L_due := Fun.binds (fun_mk (st := s_L_due) l52 c52 k52) (ps := ["table", "kind", "one", "other", "token", "amount"]) fun _ _ _ _ _ _ us hl => match us, hl with | [_, _, _, _, _, _], _ => rfl
  g_L_due := PySem.W.mg_of X G a52
  f_L_right := f53
  d_L_right := PySem.W.fnOf "_law_right" "_law_right" (defArgs s_L_right) (defBody s_L_right) (defScope s_L_right) .none kV53 dc53 pm53 an53 cd53 ct53
  F_L_right := fun_mk (st := s_L_right) l53 c53 k53
  b_L_right := Fun.binds (fun_mk (st := s_L_right) l53 c53 k53) (ps := ["parts", "sheet", "table"]) fun _ _ _ _ _ _ us hl => match us, hl with | [_, _, _], _ => rfl
  g_L_right := PySem.W.mg_of X G a53
  f_law := f54
  d_law := PySem.W.fnOf "law" "law" (defArgs s_law) (defBody s_law) (defScope s_law) .none kV54 dc54 pm54 an54 cd54 ct54
  F_law := fun_mk (st := s_law) l54 c54 k54
  b_law := Fun.binds (fun_mk (st := s_law) l54 c54 k54) (ps := ["script"]) fun _ _ _ _ _ _ us hl => match us, hl with | [_], _ => rfl
  g_law := PySem.W.mg_of X G a54
  C_BridgeError := C0
  g_BridgeError := PySem.W.mg_of X G aC0
  xe_BridgeError := xe0
  ke_BridgeError := ke0
  be_BridgeError := be0
  te_BridgeError := te0
  ie_BridgeError := ie0
  se_BridgeError := se0
  hd_BridgeError := hd0
  C_InvalidArgument := C1
  g_InvalidArgument := PySem.W.mg_of X G aC1
  xe_InvalidArgument := xe1
  ke_InvalidArgument := ke1
  be_InvalidArgument := be1
  te_InvalidArgument := te1
  ie_InvalidArgument := ie1
  se_InvalidArgument := se1
  ue_InvalidArgument := ue1
  C_UnknownToken := C2
  g_UnknownToken := PySem.W.mg_of X G aC2
  xe_UnknownToken := xe2
  ke_UnknownToken := ke2
  be_UnknownToken := be2
  te_UnknownToken := te2
  ie_UnknownToken := ie2
  se_UnknownToken := se2
  ue_UnknownToken := ue2
  C_NotEnoughBalance := C3
  g_NotEnoughBalance := PySem.W.mg_of X G aC3
  xe_NotEnoughBalance := xe3
  ke_NotEnoughBalance := ke3
  be_NotEnoughBalance := be3
  te_NotEnoughBalance := te3
  ie_NotEnoughBalance := ie3
  se_NotEnoughBalance := se3
  hg_NotEnoughBalance := hg3
  hk_NotEnoughBalance := hk3
  hd_NotEnoughBalance := hd3
  ha_NotEnoughBalance := ha3
  hm_NotEnoughBalance := hm3
  hn_NotEnoughBalance := hn3
  ht_NotEnoughBalance := ht3
  ue_NotEnoughBalance := ue3
  C_Sheet := C4
  cl_Sheet := ⟨pg4, hd4, po4, sa4⟩
  g_Sheet := PySem.W.mg_of X G aC4
  mk_Sheet := ⟨mk4, m1, i1, kc4⟩
  m_Sheet_copy := ⟨m2, i2, k2⟩
  m_Sheet_balance := ⟨m3, i3, k3⟩
  m_Sheet_vault := ⟨m4, i4, k4⟩
  m_Sheet_bonded := ⟨m5, i5, k5⟩
  m_Sheet_bonders := ⟨m6, i6, k6⟩
  m_Sheet_circulating := ⟨m7, i7, k7⟩
  m_Sheet_move := ⟨m8, i8, k8⟩
  m_Sheet_lock := ⟨m9, i9, k9⟩
  m_Sheet_release := ⟨m10, i10, k10⟩
  m_Sheet_mint := ⟨m11, i11, k11⟩
  m_Sheet_burn := ⟨m12, i12, k12⟩
  m_Sheet_bond := ⟨m13, i13, k13⟩
  m_Sheet_unbond := ⟨m14, i14, k14⟩
  n_Sheet_config := n4_0
  n_Sheet_side := n4_1
  n_Sheet_balances := n4_2
  n_Sheet_bonds := n4_3
  n_Sheet_vaults := n4_4
  C_Config := C5
  cl_Config := ⟨pg5, hd5, po5, sa5⟩
  g_Config := PySem.W.mg_of X G aC5
  mk_Config := ⟨mk5, m27, i27, kc5⟩
  m_Config_token_names := ⟨m28, i28, k28⟩
  m_Config_check_token := ⟨m29, i29, k29⟩
  m_Config_home := ⟨m30, i30, k30⟩
  m_Config_scale := ⟨m31, i31, k31⟩
  m_Config_limit := ⟨m32, i32, k32⟩
  m_Config_large := ⟨m33, i33, k33⟩
  m_Config_opening := ⟨m34, i34, k34⟩
  m_Config_guards := ⟨m35, i35, k35⟩
  m_Config_depth := ⟨m36, i36, k36⟩
  m_Config_window := ⟨m37, i37, k37⟩
  m_Config_delay := ⟨m38, i38, k38⟩
  m_Config_bundle := ⟨m39, i39, k39⟩
  n_Config_tokens := n5_0
  n_Config_balances := n5_1
  n_Config_guards := n5_2
  n_Config_depth := n5_3
  n_Config_window := n5_4
  n_Config_delay := n5_5
  n_Config_bundle := n5_6
  t_ACCOUNT_LENGTH := tk0
  c_ACCOUNT_LENGTH := PySem.W.mg_of X G q0
  t_BARRED_CODE := tk1
  c_BARRED_CODE := PySem.W.mg_of X G q1
  t_FIRST_CODE := tk2
  c_FIRST_CODE := PySem.W.mg_of X G q2
  t_LAST_CODE := tk3
  c_LAST_CODE := PySem.W.mg_of X G q3
  t_MOST_IN_BUNDLE := tk4
  c_MOST_IN_BUNDLE := PySem.W.mg_of X G q4
  a_SIDES := g5
  c_SIDES := PySem.W.mg_of X G q5
  k_SIDES := ⟨_, _, _, r5, rfl, rfl, (ValsB.size v5 (by decide)), ValsB.vals v5⟩
  t_TOKEN_LENGTH := tk6
  c_TOKEN_LENGTH := PySem.W.mg_of X G q6
  z_abs := PySem.W.mg_none_of X G z0
  z_all := PySem.W.mg_none_of X G z1
  z_bool := PySem.W.mg_none_of X G z2
  z_dict := PySem.W.mg_none_of X G z3
  z_int := PySem.W.mg_none_of X G z4
  z_isinstance := PySem.W.mg_none_of X G z5
  z_len := PySem.W.mg_none_of X G z6
  z_list := PySem.W.mg_none_of X G z7
  z_min := PySem.W.mg_none_of X G z8
  z_ord := PySem.W.mg_none_of X G z9
  z_range := PySem.W.mg_none_of X G z10
  z_str := PySem.W.mg_none_of X G z11
  z_sum := PySem.W.mg_none_of X G z12
  z_tuple := PySem.W.mg_none_of X G z13
theorem all_mk {l : PySem.W.OpenLaw} {w : World} {K : PySem.W.Frag} {h : Heap} {mg : Str → Option Value} {fa : Addr} (X : K.In h) (G : h.Ns mainGlobals mg) (hfa : mg "law" = some (.ref fa))
    {f0 f1 f2 f3 f4 f5 f6 f7 f8 f9 f10 f11 f12 f13 f14 f15 f16 f17 f18 f19 f20 f21 f22 f23 f24 f25 f26 f27 f28 f29 f30 f31 f32 f33 f34 f35 f36 f37 f38 f39 f40 f41 f42 f43 f44 f45 f46 f47 f48 f49 f50 f51 f52 f53 f54 C0 C1 C2 C3 C4 C5 g5 : Addr} {od0 an0 od1 an1 od2 an2 od3 an3 od4 an4 od5 an5 od6 an6 od7 an7 od8 an8 od9 an9 od10 an10 od11 an11 od12 an12 od13 an13 od14 an14 od15 an15 od16 an16 od17 an17 od18 an18 od19 an19 od20 an20 od21 an21 od22 an22 od23 an23 od24 an24 od25 an25 od26 an26 od27 an27 od28 an28 od29 an29 od30 an30 od31 an31 od32 an32 od33 an33 od34 an34 od35 an35 od36 an36 od37 an37 od38 an38 od39 an39 od40 an40 od41 an41 od42 an42 od43 an43 od44 an44 od45 an45 od46 an46 od47 an47 od48 an48 od49 an49 od50 an50 od51 an51 od52 an52 od53 an53 od54 an54 : Option Addr} {sl0 sl1 sl2 sl3 sl4 sl5 sl6 sl7 sl8 sl9 sl10 sl11 sl12 sl13 sl14 sl15 sl16 sl17 sl18 sl19 sl20 sl21 sl22 sl23 sl24 sl25 sl26 sl27 sl28 sl29 sl30 sl31 sl32 sl33 sl34 sl35 sl36 sl37 sl38 sl39 sl40 sl41 sl42 sl43 sl44 sl45 sl46 sl47 sl48 sl49 sl50 sl51 sl52 sl53 sl54 : Array (Option Value)} {oc0 kV0 dc0 pm0 cd0 ct0 oc1 kV1 dc1 pm1 cd1 ct1 oc2 kV2 dc2 pm2 cd2 ct2 oc3 kV3 dc3 pm3 cd3 ct3 oc4 kV4 dc4 pm4 cd4 ct4 oc5 kV5 dc5 pm5 cd5 ct5 oc6 kV6 dc6 pm6 cd6 ct6 oc7 kV7 dc7 pm7 cd7 ct7 oc8 kV8 dc8 pm8 cd8 ct8 oc9 kV9 dc9 pm9 cd9 ct9 oc10 kV10 dc10 pm10 cd10 ct10 oc11 kV11 dc11 pm11 cd11 ct11 oc12 kV12 dc12 pm12 cd12 ct12 oc13 kV13 dc13 pm13 cd13 ct13 oc14 kV14 dc14 pm14 cd14 ct14 oc15 kV15 dc15 pm15 cd15 ct15 oc16 kV16 dc16 pm16 cd16 ct16 oc17 kV17 dc17 pm17 cd17 ct17 oc18 kV18 dc18 pm18 cd18 ct18 oc19 kV19 dc19 pm19 cd19 ct19 oc20 kV20 dc20 pm20 cd20 ct20 oc21 kV21 dc21 pm21 cd21 ct21 oc22 kV22 dc22 pm22 cd22 ct22 oc23 kV23 dc23 pm23 cd23 ct23 oc24 kV24 dc24 pm24 cd24 ct24 oc25 kV25 dc25 pm25 cd25 ct25 oc26 kV26 dc26 pm26 cd26 ct26 oc27 kV27 dc27 pm27 cd27 ct27 oc28 kV28 dc28 pm28 cd28 ct28 oc29 kV29 dc29 pm29 cd29 ct29 oc30 kV30 dc30 pm30 cd30 ct30 oc31 kV31 dc31 pm31 cd31 ct31 oc32 kV32 dc32 pm32 cd32 ct32 oc33 kV33 dc33 pm33 cd33 ct33 oc34 kV34 dc34 pm34 cd34 ct34 oc35 kV35 dc35 pm35 cd35 ct35 oc36 kV36 dc36 pm36 cd36 ct36 oc37 kV37 dc37 pm37 cd37 ct37 oc38 kV38 dc38 pm38 cd38 ct38 oc39 kV39 dc39 pm39 cd39 ct39 oc40 kV40 dc40 pm40 cd40 ct40 oc41 kV41 dc41 pm41 cd41 ct41 oc42 kV42 dc42 pm42 cd42 ct42 oc43 kV43 dc43 pm43 cd43 ct43 oc44 kV44 dc44 pm44 cd44 ct44 oc45 kV45 dc45 pm45 cd45 ct45 oc46 kV46 dc46 pm46 cd46 ct46 oc47 kV47 dc47 pm47 cd47 ct47 oc48 kV48 dc48 pm48 cd48 ct48 oc49 kV49 dc49 pm49 cd49 ct49 oc50 kV50 dc50 pm50 cd50 ct50 oc51 kV51 dc51 pm51 cd51 ct51 oc52 kV52 dc52 pm52 cd52 ct52 oc53 kV53 dc53 pm53 cd53 ct53 oc54 kV54 dc54 pm54 cd54 ct54 : Value} {tk0 tk1 tk2 tk3 tk4 tk6 : Tok} {odg5 : Option Addr} {itg5 : Array Value} {ng5 : Nat} {slg5 : Array (Option Value)}
    (a0 : PySem.W.nsIn K mainGlobals "_wall" = some (some (.ref f0)))
    (a15 : PySem.W.nsIn K mainGlobals "copied" = some (some (.ref f15)))
    (a16 : PySem.W.nsIn K mainGlobals "held" = some (some (.ref f16)))
    (a17 : PySem.W.nsIn K mainGlobals "put" = some (some (.ref f17)))
    (a18 : PySem.W.nsIn K mainGlobals "draw" = some (some (.ref f18)))
    (a19 : PySem.W.nsIn K mainGlobals "is_integer" = some (some (.ref f19)))
    (a20 : PySem.W.nsIn K mainGlobals "is_at_least" = some (some (.ref f20)))
    (a21 : PySem.W.nsIn K mainGlobals "is_text" = some (some (.ref f21)))
    (a22 : PySem.W.nsIn K mainGlobals "is_short_text" = some (some (.ref f22)))
    (a23 : PySem.W.nsIn K mainGlobals "is_account" = some (some (.ref f23)))
    (a24 : PySem.W.nsIn K mainGlobals "is_side" = some (some (.ref f24)))
    (a25 : PySem.W.nsIn K mainGlobals "is_set" = some (some (.ref f25)))
    (a26 : PySem.W.nsIn K mainGlobals "is_pair" = some (some (.ref f26)))
    (a40 : PySem.W.nsIn K mainGlobals "check_list" = some (some (.ref f40)))
    (a41 : PySem.W.nsIn K mainGlobals "check_least" = some (some (.ref f41)))
    (a42 : PySem.W.nsIn K mainGlobals "check_token_row" = some (some (.ref f42)))
    (a43 : PySem.W.nsIn K mainGlobals "check_balance_row" = some (some (.ref f43)))
    (a44 : PySem.W.nsIn K mainGlobals "_law_pot" = some (some (.ref f44)))
    (a45 : PySem.W.nsIn K mainGlobals "_law_next" = some (some (.ref f45)))
    (a46 : PySem.W.nsIn K mainGlobals "_law_is_int" = some (some (.ref f46)))
    (a47 : PySem.W.nsIn K mainGlobals "_law_same" = some (some (.ref f47)))
    (a48 : PySem.W.nsIn K mainGlobals "_law_set" = some (some (.ref f48)))
    (a49 : PySem.W.nsIn K mainGlobals "_law_config" = some (some (.ref f49)))
    (a50 : PySem.W.nsIn K mainGlobals "_law_made" = some (some (.ref f50)))
    (a51 : PySem.W.nsIn K mainGlobals "_law_do" = some (some (.ref f51)))
    (a52 : PySem.W.nsIn K mainGlobals "_law_due" = some (some (.ref f52)))
    (a53 : PySem.W.nsIn K mainGlobals "_law_right" = some (some (.ref f53)))
    (a54 : PySem.W.nsIn K mainGlobals "law" = some (some (.ref f54)))
    (aC0 : PySem.W.nsIn K mainGlobals "BridgeError" = some (some (.ref C0)))
    (aC1 : PySem.W.nsIn K mainGlobals "InvalidArgument" = some (some (.ref C1)))
    (aC2 : PySem.W.nsIn K mainGlobals "UnknownToken" = some (some (.ref C2)))
    (aC3 : PySem.W.nsIn K mainGlobals "NotEnoughBalance" = some (some (.ref C3)))
    (aC4 : PySem.W.nsIn K mainGlobals "Sheet" = some (some (.ref C4)))
    (aC5 : PySem.W.nsIn K mainGlobals "Config" = some (some (.ref C5)))
    (m1 : PySem.W.findIn K (.ref C4) "__init__" = some (some (.ref f1)))
    (m2 : PySem.W.findIn K (.ref C4) "copy" = some (some (.ref f2)))
    (m3 : PySem.W.findIn K (.ref C4) "balance" = some (some (.ref f3)))
    (m4 : PySem.W.findIn K (.ref C4) "vault" = some (some (.ref f4)))
    (m5 : PySem.W.findIn K (.ref C4) "bonded" = some (some (.ref f5)))
    (m6 : PySem.W.findIn K (.ref C4) "bonders" = some (some (.ref f6)))
    (m7 : PySem.W.findIn K (.ref C4) "circulating" = some (some (.ref f7)))
    (m8 : PySem.W.findIn K (.ref C4) "move" = some (some (.ref f8)))
    (m9 : PySem.W.findIn K (.ref C4) "lock" = some (some (.ref f9)))
    (m10 : PySem.W.findIn K (.ref C4) "release" = some (some (.ref f10)))
    (m11 : PySem.W.findIn K (.ref C4) "mint" = some (some (.ref f11)))
    (m12 : PySem.W.findIn K (.ref C4) "burn" = some (some (.ref f12)))
    (m13 : PySem.W.findIn K (.ref C4) "bond" = some (some (.ref f13)))
    (m14 : PySem.W.findIn K (.ref C4) "unbond" = some (some (.ref f14)))
    (m27 : PySem.W.findIn K (.ref C5) "__init__" = some (some (.ref f27)))
    (m28 : PySem.W.findIn K (.ref C5) "token_names" = some (some (.ref f28)))
    (m29 : PySem.W.findIn K (.ref C5) "check_token" = some (some (.ref f29)))
    (m30 : PySem.W.findIn K (.ref C5) "home" = some (some (.ref f30)))
    (m31 : PySem.W.findIn K (.ref C5) "scale" = some (some (.ref f31)))
    (m32 : PySem.W.findIn K (.ref C5) "limit" = some (some (.ref f32)))
    (m33 : PySem.W.findIn K (.ref C5) "large" = some (some (.ref f33)))
    (m34 : PySem.W.findIn K (.ref C5) "opening" = some (some (.ref f34)))
    (m35 : PySem.W.findIn K (.ref C5) "guards" = some (some (.ref f35)))
    (m36 : PySem.W.findIn K (.ref C5) "depth" = some (some (.ref f36)))
    (m37 : PySem.W.findIn K (.ref C5) "window" = some (some (.ref f37)))
    (m38 : PySem.W.findIn K (.ref C5) "delay" = some (some (.ref f38)))
    (m39 : PySem.W.findIn K (.ref C5) "bundle" = some (some (.ref f39)))
    (l0 : K.lookup f0 = some ⟨oc0, od0, .func (PySem.W.fnOf "_wall" "_wall" (defArgs s__wall) (defBody s__wall) (defScope s__wall) .none kV0 dc0 pm0 an0 cd0 ct0), sl0⟩)
    (c0 : PySem.W.codeIn K cd0 "_wall" = true)
    (k0 : PySem.W.keepIn K (.ref f0) = true)
    (l1 : K.lookup f1 = some ⟨oc1, od1, .func (PySem.W.fnOf "__init__" "Sheet.__init__" (defArgs s_Sheet_init) (defBody s_Sheet_init) (defScope s_Sheet_init) .none kV1 dc1 pm1 an1 cd1 ct1), sl1⟩)
    (c1 : PySem.W.codeIn K cd1 "Sheet.__init__" = true)
    (k1 : PySem.W.keepIn K (.ref f1) = true)
    (l2 : K.lookup f2 = some ⟨oc2, od2, .func (PySem.W.fnOf "copy" "Sheet.copy" (defArgs s_Sheet_copy) (defBody s_Sheet_copy) (defScope s_Sheet_copy) .none kV2 dc2 pm2 an2 cd2 ct2), sl2⟩)
    (c2 : PySem.W.codeIn K cd2 "Sheet.copy" = true)
    (k2 : PySem.W.keepIn K (.ref f2) = true)
    (l3 : K.lookup f3 = some ⟨oc3, od3, .func (PySem.W.fnOf "balance" "Sheet.balance" (defArgs s_Sheet_balance) (defBody s_Sheet_balance) (defScope s_Sheet_balance) .none kV3 dc3 pm3 an3 cd3 ct3), sl3⟩)
    (c3 : PySem.W.codeIn K cd3 "Sheet.balance" = true)
    (k3 : PySem.W.keepIn K (.ref f3) = true)
    (l4 : K.lookup f4 = some ⟨oc4, od4, .func (PySem.W.fnOf "vault" "Sheet.vault" (defArgs s_Sheet_vault) (defBody s_Sheet_vault) (defScope s_Sheet_vault) .none kV4 dc4 pm4 an4 cd4 ct4), sl4⟩)
    (c4 : PySem.W.codeIn K cd4 "Sheet.vault" = true)
    (k4 : PySem.W.keepIn K (.ref f4) = true)
    (l5 : K.lookup f5 = some ⟨oc5, od5, .func (PySem.W.fnOf "bonded" "Sheet.bonded" (defArgs s_Sheet_bonded) (defBody s_Sheet_bonded) (defScope s_Sheet_bonded) .none kV5 dc5 pm5 an5 cd5 ct5), sl5⟩)
    (c5 : PySem.W.codeIn K cd5 "Sheet.bonded" = true)
    (k5 : PySem.W.keepIn K (.ref f5) = true)
    (l6 : K.lookup f6 = some ⟨oc6, od6, .func (PySem.W.fnOf "bonders" "Sheet.bonders" (defArgs s_Sheet_bonders) (defBody s_Sheet_bonders) (defScope s_Sheet_bonders) .none kV6 dc6 pm6 an6 cd6 ct6), sl6⟩)
    (c6 : PySem.W.codeIn K cd6 "Sheet.bonders" = true)
    (k6 : PySem.W.keepIn K (.ref f6) = true)
    (l7 : K.lookup f7 = some ⟨oc7, od7, .func (PySem.W.fnOf "circulating" "Sheet.circulating" (defArgs s_Sheet_circulating) (defBody s_Sheet_circulating) (defScope s_Sheet_circulating) .none kV7 dc7 pm7 an7 cd7 ct7), sl7⟩)
    (c7 : PySem.W.codeIn K cd7 "Sheet.circulating" = true)
    (k7 : PySem.W.keepIn K (.ref f7) = true)
    (l8 : K.lookup f8 = some ⟨oc8, od8, .func (PySem.W.fnOf "move" "Sheet.move" (defArgs s_Sheet_move) (defBody s_Sheet_move) (defScope s_Sheet_move) .none kV8 dc8 pm8 an8 cd8 ct8), sl8⟩)
    (c8 : PySem.W.codeIn K cd8 "Sheet.move" = true)
    (k8 : PySem.W.keepIn K (.ref f8) = true)
    (l9 : K.lookup f9 = some ⟨oc9, od9, .func (PySem.W.fnOf "lock" "Sheet.lock" (defArgs s_Sheet_lock) (defBody s_Sheet_lock) (defScope s_Sheet_lock) .none kV9 dc9 pm9 an9 cd9 ct9), sl9⟩)
    (c9 : PySem.W.codeIn K cd9 "Sheet.lock" = true)
    (k9 : PySem.W.keepIn K (.ref f9) = true)
    (l10 : K.lookup f10 = some ⟨oc10, od10, .func (PySem.W.fnOf "release" "Sheet.release" (defArgs s_Sheet_release) (defBody s_Sheet_release) (defScope s_Sheet_release) .none kV10 dc10 pm10 an10 cd10 ct10), sl10⟩)
    (c10 : PySem.W.codeIn K cd10 "Sheet.release" = true)
    (k10 : PySem.W.keepIn K (.ref f10) = true)
    (l11 : K.lookup f11 = some ⟨oc11, od11, .func (PySem.W.fnOf "mint" "Sheet.mint" (defArgs s_Sheet_mint) (defBody s_Sheet_mint) (defScope s_Sheet_mint) .none kV11 dc11 pm11 an11 cd11 ct11), sl11⟩)
    (c11 : PySem.W.codeIn K cd11 "Sheet.mint" = true)
    (k11 : PySem.W.keepIn K (.ref f11) = true)
    (l12 : K.lookup f12 = some ⟨oc12, od12, .func (PySem.W.fnOf "burn" "Sheet.burn" (defArgs s_Sheet_burn) (defBody s_Sheet_burn) (defScope s_Sheet_burn) .none kV12 dc12 pm12 an12 cd12 ct12), sl12⟩)
    (c12 : PySem.W.codeIn K cd12 "Sheet.burn" = true)
    (k12 : PySem.W.keepIn K (.ref f12) = true)
    (l13 : K.lookup f13 = some ⟨oc13, od13, .func (PySem.W.fnOf "bond" "Sheet.bond" (defArgs s_Sheet_bond) (defBody s_Sheet_bond) (defScope s_Sheet_bond) .none kV13 dc13 pm13 an13 cd13 ct13), sl13⟩)
    (c13 : PySem.W.codeIn K cd13 "Sheet.bond" = true)
    (k13 : PySem.W.keepIn K (.ref f13) = true)
    (l14 : K.lookup f14 = some ⟨oc14, od14, .func (PySem.W.fnOf "unbond" "Sheet.unbond" (defArgs s_Sheet_unbond) (defBody s_Sheet_unbond) (defScope s_Sheet_unbond) .none kV14 dc14 pm14 an14 cd14 ct14), sl14⟩)
    (c14 : PySem.W.codeIn K cd14 "Sheet.unbond" = true)
    (k14 : PySem.W.keepIn K (.ref f14) = true)
    (l15 : K.lookup f15 = some ⟨oc15, od15, .func (PySem.W.fnOf "copied" "copied" (defArgs s_copied) (defBody s_copied) (defScope s_copied) .none kV15 dc15 pm15 an15 cd15 ct15), sl15⟩)
    (c15 : PySem.W.codeIn K cd15 "copied" = true)
    (k15 : PySem.W.keepIn K (.ref f15) = true)
    (l16 : K.lookup f16 = some ⟨oc16, od16, .func (PySem.W.fnOf "held" "held" (defArgs s_held) (defBody s_held) (defScope s_held) .none kV16 dc16 pm16 an16 cd16 ct16), sl16⟩)
    (c16 : PySem.W.codeIn K cd16 "held" = true)
    (k16 : PySem.W.keepIn K (.ref f16) = true)
    (l17 : K.lookup f17 = some ⟨oc17, od17, .func (PySem.W.fnOf "put" "put" (defArgs s_put) (defBody s_put) (defScope s_put) .none kV17 dc17 pm17 an17 cd17 ct17), sl17⟩)
    (c17 : PySem.W.codeIn K cd17 "put" = true)
    (k17 : PySem.W.keepIn K (.ref f17) = true)
    (l18 : K.lookup f18 = some ⟨oc18, od18, .func (PySem.W.fnOf "draw" "draw" (defArgs s_draw) (defBody s_draw) (defScope s_draw) .none kV18 dc18 pm18 an18 cd18 ct18), sl18⟩)
    (c18 : PySem.W.codeIn K cd18 "draw" = true)
    (k18 : PySem.W.keepIn K (.ref f18) = true)
    (l19 : K.lookup f19 = some ⟨oc19, od19, .func (PySem.W.fnOf "is_integer" "is_integer" (defArgs s_is_integer) (defBody s_is_integer) (defScope s_is_integer) .none kV19 dc19 pm19 an19 cd19 ct19), sl19⟩)
    (c19 : PySem.W.codeIn K cd19 "is_integer" = true)
    (k19 : PySem.W.keepIn K (.ref f19) = true)
    (l20 : K.lookup f20 = some ⟨oc20, od20, .func (PySem.W.fnOf "is_at_least" "is_at_least" (defArgs s_is_at_least) (defBody s_is_at_least) (defScope s_is_at_least) .none kV20 dc20 pm20 an20 cd20 ct20), sl20⟩)
    (c20 : PySem.W.codeIn K cd20 "is_at_least" = true)
    (k20 : PySem.W.keepIn K (.ref f20) = true)
    (l21 : K.lookup f21 = some ⟨oc21, od21, .func (PySem.W.fnOf "is_text" "is_text" (defArgs s_is_text) (defBody s_is_text) (defScope s_is_text) .none kV21 dc21 pm21 an21 cd21 ct21), sl21⟩)
    (c21 : PySem.W.codeIn K cd21 "is_text" = true)
    (k21 : PySem.W.keepIn K (.ref f21) = true)
    (l22 : K.lookup f22 = some ⟨oc22, od22, .func (PySem.W.fnOf "is_short_text" "is_short_text" (defArgs s_is_short_text) (defBody s_is_short_text) (defScope s_is_short_text) .none kV22 dc22 pm22 an22 cd22 ct22), sl22⟩)
    (c22 : PySem.W.codeIn K cd22 "is_short_text" = true)
    (k22 : PySem.W.keepIn K (.ref f22) = true)
    (l23 : K.lookup f23 = some ⟨oc23, od23, .func (PySem.W.fnOf "is_account" "is_account" (defArgs s_is_account) (defBody s_is_account) (defScope s_is_account) .none kV23 dc23 pm23 an23 cd23 ct23), sl23⟩)
    (c23 : PySem.W.codeIn K cd23 "is_account" = true)
    (k23 : PySem.W.keepIn K (.ref f23) = true)
    (l24 : K.lookup f24 = some ⟨oc24, od24, .func (PySem.W.fnOf "is_side" "is_side" (defArgs s_is_side) (defBody s_is_side) (defScope s_is_side) .none kV24 dc24 pm24 an24 cd24 ct24), sl24⟩)
    (c24 : PySem.W.codeIn K cd24 "is_side" = true)
    (k24 : PySem.W.keepIn K (.ref f24) = true)
    (l25 : K.lookup f25 = some ⟨oc25, od25, .func (PySem.W.fnOf "is_set" "is_set" (defArgs s_is_set) (defBody s_is_set) (defScope s_is_set) .none kV25 dc25 pm25 an25 cd25 ct25), sl25⟩)
    (c25 : PySem.W.codeIn K cd25 "is_set" = true)
    (k25 : PySem.W.keepIn K (.ref f25) = true)
    (l26 : K.lookup f26 = some ⟨oc26, od26, .func (PySem.W.fnOf "is_pair" "is_pair" (defArgs s_is_pair) (defBody s_is_pair) (defScope s_is_pair) .none kV26 dc26 pm26 an26 cd26 ct26), sl26⟩)
    (c26 : PySem.W.codeIn K cd26 "is_pair" = true)
    (k26 : PySem.W.keepIn K (.ref f26) = true)
    (l27 : K.lookup f27 = some ⟨oc27, od27, .func (PySem.W.fnOf "__init__" "Config.__init__" (defArgs s_Config_init) (defBody s_Config_init) (defScope s_Config_init) .none kV27 dc27 pm27 an27 cd27 ct27), sl27⟩)
    (c27 : PySem.W.codeIn K cd27 "Config.__init__" = true)
    (k27 : PySem.W.keepIn K (.ref f27) = true)
    (l28 : K.lookup f28 = some ⟨oc28, od28, .func (PySem.W.fnOf "token_names" "Config.token_names" (defArgs s_Config_token_names) (defBody s_Config_token_names) (defScope s_Config_token_names) .none kV28 dc28 pm28 an28 cd28 ct28), sl28⟩)
    (c28 : PySem.W.codeIn K cd28 "Config.token_names" = true)
    (k28 : PySem.W.keepIn K (.ref f28) = true)
    (l29 : K.lookup f29 = some ⟨oc29, od29, .func (PySem.W.fnOf "check_token" "Config.check_token" (defArgs s_Config_check_token) (defBody s_Config_check_token) (defScope s_Config_check_token) .none kV29 dc29 pm29 an29 cd29 ct29), sl29⟩)
    (c29 : PySem.W.codeIn K cd29 "Config.check_token" = true)
    (k29 : PySem.W.keepIn K (.ref f29) = true)
    (l30 : K.lookup f30 = some ⟨oc30, od30, .func (PySem.W.fnOf "home" "Config.home" (defArgs s_Config_home) (defBody s_Config_home) (defScope s_Config_home) .none kV30 dc30 pm30 an30 cd30 ct30), sl30⟩)
    (c30 : PySem.W.codeIn K cd30 "Config.home" = true)
    (k30 : PySem.W.keepIn K (.ref f30) = true)
    (l31 : K.lookup f31 = some ⟨oc31, od31, .func (PySem.W.fnOf "scale" "Config.scale" (defArgs s_Config_scale) (defBody s_Config_scale) (defScope s_Config_scale) .none kV31 dc31 pm31 an31 cd31 ct31), sl31⟩)
    (c31 : PySem.W.codeIn K cd31 "Config.scale" = true)
    (k31 : PySem.W.keepIn K (.ref f31) = true)
    (l32 : K.lookup f32 = some ⟨oc32, od32, .func (PySem.W.fnOf "limit" "Config.limit" (defArgs s_Config_limit) (defBody s_Config_limit) (defScope s_Config_limit) .none kV32 dc32 pm32 an32 cd32 ct32), sl32⟩)
    (c32 : PySem.W.codeIn K cd32 "Config.limit" = true)
    (k32 : PySem.W.keepIn K (.ref f32) = true)
    (l33 : K.lookup f33 = some ⟨oc33, od33, .func (PySem.W.fnOf "large" "Config.large" (defArgs s_Config_large) (defBody s_Config_large) (defScope s_Config_large) .none kV33 dc33 pm33 an33 cd33 ct33), sl33⟩)
    (c33 : PySem.W.codeIn K cd33 "Config.large" = true)
    (k33 : PySem.W.keepIn K (.ref f33) = true)
    (l34 : K.lookup f34 = some ⟨oc34, od34, .func (PySem.W.fnOf "opening" "Config.opening" (defArgs s_Config_opening) (defBody s_Config_opening) (defScope s_Config_opening) .none kV34 dc34 pm34 an34 cd34 ct34), sl34⟩)
    (c34 : PySem.W.codeIn K cd34 "Config.opening" = true)
    (k34 : PySem.W.keepIn K (.ref f34) = true)
    (l35 : K.lookup f35 = some ⟨oc35, od35, .func (PySem.W.fnOf "guards" "Config.guards" (defArgs s_Config_guards) (defBody s_Config_guards) (defScope s_Config_guards) .none kV35 dc35 pm35 an35 cd35 ct35), sl35⟩)
    (c35 : PySem.W.codeIn K cd35 "Config.guards" = true)
    (k35 : PySem.W.keepIn K (.ref f35) = true)
    (l36 : K.lookup f36 = some ⟨oc36, od36, .func (PySem.W.fnOf "depth" "Config.depth" (defArgs s_Config_depth) (defBody s_Config_depth) (defScope s_Config_depth) .none kV36 dc36 pm36 an36 cd36 ct36), sl36⟩)
    (c36 : PySem.W.codeIn K cd36 "Config.depth" = true)
    (k36 : PySem.W.keepIn K (.ref f36) = true)
    (l37 : K.lookup f37 = some ⟨oc37, od37, .func (PySem.W.fnOf "window" "Config.window" (defArgs s_Config_window) (defBody s_Config_window) (defScope s_Config_window) .none kV37 dc37 pm37 an37 cd37 ct37), sl37⟩)
    (c37 : PySem.W.codeIn K cd37 "Config.window" = true)
    (k37 : PySem.W.keepIn K (.ref f37) = true)
    (l38 : K.lookup f38 = some ⟨oc38, od38, .func (PySem.W.fnOf "delay" "Config.delay" (defArgs s_Config_delay) (defBody s_Config_delay) (defScope s_Config_delay) .none kV38 dc38 pm38 an38 cd38 ct38), sl38⟩)
    (c38 : PySem.W.codeIn K cd38 "Config.delay" = true)
    (k38 : PySem.W.keepIn K (.ref f38) = true)
    (l39 : K.lookup f39 = some ⟨oc39, od39, .func (PySem.W.fnOf "bundle" "Config.bundle" (defArgs s_Config_bundle) (defBody s_Config_bundle) (defScope s_Config_bundle) .none kV39 dc39 pm39 an39 cd39 ct39), sl39⟩)
    (c39 : PySem.W.codeIn K cd39 "Config.bundle" = true)
    (k39 : PySem.W.keepIn K (.ref f39) = true)
    (l40 : K.lookup f40 = some ⟨oc40, od40, .func (PySem.W.fnOf "check_list" "check_list" (defArgs s_check_list) (defBody s_check_list) (defScope s_check_list) .none kV40 dc40 pm40 an40 cd40 ct40), sl40⟩)
    (c40 : PySem.W.codeIn K cd40 "check_list" = true)
    (k40 : PySem.W.keepIn K (.ref f40) = true)
    (l41 : K.lookup f41 = some ⟨oc41, od41, .func (PySem.W.fnOf "check_least" "check_least" (defArgs s_check_least) (defBody s_check_least) (defScope s_check_least) .none kV41 dc41 pm41 an41 cd41 ct41), sl41⟩)
    (c41 : PySem.W.codeIn K cd41 "check_least" = true)
    (k41 : PySem.W.keepIn K (.ref f41) = true)
    (l42 : K.lookup f42 = some ⟨oc42, od42, .func (PySem.W.fnOf "check_token_row" "check_token_row" (defArgs s_check_token_row) (defBody s_check_token_row) (defScope s_check_token_row) .none kV42 dc42 pm42 an42 cd42 ct42), sl42⟩)
    (c42 : PySem.W.codeIn K cd42 "check_token_row" = true)
    (k42 : PySem.W.keepIn K (.ref f42) = true)
    (l43 : K.lookup f43 = some ⟨oc43, od43, .func (PySem.W.fnOf "check_balance_row" "check_balance_row" (defArgs s_check_balance_row) (defBody s_check_balance_row) (defScope s_check_balance_row) .none kV43 dc43 pm43 an43 cd43 ct43), sl43⟩)
    (c43 : PySem.W.codeIn K cd43 "check_balance_row" = true)
    (k43 : PySem.W.keepIn K (.ref f43) = true)
    (l44 : K.lookup f44 = some ⟨oc44, od44, .func (PySem.W.fnOf "_law_pot" "_law_pot" (defArgs s_L_pot) (defBody s_L_pot) (defScope s_L_pot) .none kV44 dc44 pm44 an44 cd44 ct44), sl44⟩)
    (c44 : PySem.W.codeIn K cd44 "_law_pot" = true)
    (k44 : PySem.W.keepIn K (.ref f44) = true)
    (l45 : K.lookup f45 = some ⟨oc45, od45, .func (PySem.W.fnOf "_law_next" "_law_next" (defArgs s_L_next) (defBody s_L_next) (defScope s_L_next) .none kV45 dc45 pm45 an45 cd45 ct45), sl45⟩)
    (c45 : PySem.W.codeIn K cd45 "_law_next" = true)
    (k45 : PySem.W.keepIn K (.ref f45) = true)
    (l46 : K.lookup f46 = some ⟨oc46, od46, .func (PySem.W.fnOf "_law_is_int" "_law_is_int" (defArgs s_L_is_int) (defBody s_L_is_int) (defScope s_L_is_int) .none kV46 dc46 pm46 an46 cd46 ct46), sl46⟩)
    (c46 : PySem.W.codeIn K cd46 "_law_is_int" = true)
    (k46 : PySem.W.keepIn K (.ref f46) = true)
    (l47 : K.lookup f47 = some ⟨oc47, od47, .func (PySem.W.fnOf "_law_same" "_law_same" (defArgs s_L_same) (defBody s_L_same) (defScope s_L_same) .none kV47 dc47 pm47 an47 cd47 ct47), sl47⟩)
    (c47 : PySem.W.codeIn K cd47 "_law_same" = true)
    (k47 : PySem.W.keepIn K (.ref f47) = true)
    (l48 : K.lookup f48 = some ⟨oc48, od48, .func (PySem.W.fnOf "_law_set" "_law_set" (defArgs s_L_set) (defBody s_L_set) (defScope s_L_set) .none kV48 dc48 pm48 an48 cd48 ct48), sl48⟩)
    (c48 : PySem.W.codeIn K cd48 "_law_set" = true)
    (k48 : PySem.W.keepIn K (.ref f48) = true)
    (l49 : K.lookup f49 = some ⟨oc49, od49, .func (PySem.W.fnOf "_law_config" "_law_config" (defArgs s_L_config) (defBody s_L_config) (defScope s_L_config) .none kV49 dc49 pm49 an49 cd49 ct49), sl49⟩)
    (c49 : PySem.W.codeIn K cd49 "_law_config" = true)
    (k49 : PySem.W.keepIn K (.ref f49) = true)
    (l50 : K.lookup f50 = some ⟨oc50, od50, .func (PySem.W.fnOf "_law_made" "_law_made" (defArgs s_L_made) (defBody s_L_made) (defScope s_L_made) .none kV50 dc50 pm50 an50 cd50 ct50), sl50⟩)
    (c50 : PySem.W.codeIn K cd50 "_law_made" = true)
    (k50 : PySem.W.keepIn K (.ref f50) = true)
    (l51 : K.lookup f51 = some ⟨oc51, od51, .func (PySem.W.fnOf "_law_do" "_law_do" (defArgs s_L_do) (defBody s_L_do) (defScope s_L_do) .none kV51 dc51 pm51 an51 cd51 ct51), sl51⟩)
    (c51 : PySem.W.codeIn K cd51 "_law_do" = true)
    (k51 : PySem.W.keepIn K (.ref f51) = true)
    (l52 : K.lookup f52 = some ⟨oc52, od52, .func (PySem.W.fnOf "_law_due" "_law_due" (defArgs s_L_due) (defBody s_L_due) (defScope s_L_due) .none kV52 dc52 pm52 an52 cd52 ct52), sl52⟩)
    (c52 : PySem.W.codeIn K cd52 "_law_due" = true)
    (k52 : PySem.W.keepIn K (.ref f52) = true)
    (l53 : K.lookup f53 = some ⟨oc53, od53, .func (PySem.W.fnOf "_law_right" "_law_right" (defArgs s_L_right) (defBody s_L_right) (defScope s_L_right) .none kV53 dc53 pm53 an53 cd53 ct53), sl53⟩)
    (c53 : PySem.W.codeIn K cd53 "_law_right" = true)
    (k53 : PySem.W.keepIn K (.ref f53) = true)
    (l54 : K.lookup f54 = some ⟨oc54, od54, .func (PySem.W.fnOf "law" "law" (defArgs s_law) (defBody s_law) (defScope s_law) .none kV54 dc54 pm54 an54 cd54 ct54), sl54⟩)
    (c54 : PySem.W.codeIn K cd54 "law" = true)
    (k54 : PySem.W.keepIn K (.ref f54) = true)
    (xe0 : PySem.W.excIn K C0 [.type "ValueError", .type "Exception", .type "BaseException", .type "object"] "ValueError.__new__" = true)
    (ke0 : PySem.W.keepIn K (.ref C0) = true)
    (be0 : PySem.W.subIn K (.ref C0) (.type "BaseException") = some true)
    (te0 : PySem.W.typeIn K (.ref C0) = some (.type "type"))
    (ie0 : PySem.W.isClsIn K C0 = true)
    (se0 : PySem.W.subIn K (.ref C0) (.ref C0) = some true)
    (hd0 : PySem.W.hasDictIn K C0 = true)
    (xe1 : PySem.W.excIn K C1 [.type "ValueError", .type "Exception", .type "BaseException", .type "object"] "ValueError.__new__" = true)
    (ke1 : PySem.W.keepIn K (.ref C1) = true)
    (be1 : PySem.W.subIn K (.ref C1) (.type "BaseException") = some true)
    (te1 : PySem.W.typeIn K (.ref C1) = some (.type "type"))
    (ie1 : PySem.W.isClsIn K C1 = true)
    (se1 : PySem.W.subIn K (.ref C1) (.ref C1) = some true)
    (ue1 : PySem.W.subIn K (.ref C1) (.ref C0) = some true)
    (xe2 : PySem.W.excIn K C2 [.type "ValueError", .type "Exception", .type "BaseException", .type "object"] "ValueError.__new__" = true)
    (ke2 : PySem.W.keepIn K (.ref C2) = true)
    (be2 : PySem.W.subIn K (.ref C2) (.type "BaseException") = some true)
    (te2 : PySem.W.typeIn K (.ref C2) = some (.type "type"))
    (ie2 : PySem.W.isClsIn K C2 = true)
    (se2 : PySem.W.subIn K (.ref C2) (.ref C2) = some true)
    (ue2 : PySem.W.subIn K (.ref C2) (.ref C0) = some true)
    (xe3 : PySem.W.excIn K C3 [.type "ValueError", .type "Exception", .type "BaseException", .type "object"] "ValueError.__new__" = true)
    (ke3 : PySem.W.keepIn K (.ref C3) = true)
    (be3 : PySem.W.subIn K (.ref C3) (.type "BaseException") = some true)
    (te3 : PySem.W.typeIn K (.ref C3) = some (.type "type"))
    (ie3 : PySem.W.isClsIn K C3 = true)
    (se3 : PySem.W.subIn K (.ref C3) (.ref C3) = some true)
    (hg3 : PySem.W.findIn K (.ref C3) "__getattribute__" = some (some (.builtin "BaseException.__getattribute__")))
    (hk3 : PySem.W.findIn K (.ref C3) "__getattr__" = some none)
    (hd3 : PySem.W.hasDictIn K C3 = true)
    (ha3 : PySem.W.findIn K (.ref C3) "__class__" = some (some (.builtin "object.__class__")))
    (hm3 : PySem.W.mroIn K C3 (.type "object") = some true)
    (hn3 : PySem.W.specialIn K (.builtin "object.__class__") "__get__" = some (some (.builtin "getset_descriptor.__get__")))
    (ht3 : PySem.W.takesIn K (.builtin "object.__class__") = some true)
    (ue3 : PySem.W.subIn K (.ref C3) (.ref C0) = some true)
    (pg4 : PySem.W.plainGet K C4 Str.empty = true)
    (hd4 : PySem.W.hasDictIn K C4 = true)
    (po4 : PySem.W.plainOver K C4 = true)
    (sa4 : PySem.W.findIn K (.ref C4) "__setattr__" = some (some (.builtin "object.__setattr__")))
    (mk4 : PySem.W.makesIn K C4 = true)
    (kc4 : PySem.W.keepIn K (.ref C4) = true)
    (i1 : PySem.W.isFn K (.ref f1) = true)
    (i2 : PySem.W.isFn K (.ref f2) = true)
    (i3 : PySem.W.isFn K (.ref f3) = true)
    (i4 : PySem.W.isFn K (.ref f4) = true)
    (i5 : PySem.W.isFn K (.ref f5) = true)
    (i6 : PySem.W.isFn K (.ref f6) = true)
    (i7 : PySem.W.isFn K (.ref f7) = true)
    (i8 : PySem.W.isFn K (.ref f8) = true)
    (i9 : PySem.W.isFn K (.ref f9) = true)
    (i10 : PySem.W.isFn K (.ref f10) = true)
    (i11 : PySem.W.isFn K (.ref f11) = true)
    (i12 : PySem.W.isFn K (.ref f12) = true)
    (i13 : PySem.W.isFn K (.ref f13) = true)
    (i14 : PySem.W.isFn K (.ref f14) = true)
    (n4_0 : PySem.W.findIn K (.ref C4) "_config" = some none)
    (n4_1 : PySem.W.findIn K (.ref C4) "_side" = some none)
    (n4_2 : PySem.W.findIn K (.ref C4) "_balances" = some none)
    (n4_3 : PySem.W.findIn K (.ref C4) "_bonds" = some none)
    (n4_4 : PySem.W.findIn K (.ref C4) "_vaults" = some none)
    (pg5 : PySem.W.plainGet K C5 Str.empty = true)
    (hd5 : PySem.W.hasDictIn K C5 = true)
    (po5 : PySem.W.plainOver K C5 = true)
    (sa5 : PySem.W.findIn K (.ref C5) "__setattr__" = some (some (.builtin "object.__setattr__")))
    (mk5 : PySem.W.makesIn K C5 = true)
    (kc5 : PySem.W.keepIn K (.ref C5) = true)
    (i27 : PySem.W.isFn K (.ref f27) = true)
    (i28 : PySem.W.isFn K (.ref f28) = true)
    (i29 : PySem.W.isFn K (.ref f29) = true)
    (i30 : PySem.W.isFn K (.ref f30) = true)
    (i31 : PySem.W.isFn K (.ref f31) = true)
    (i32 : PySem.W.isFn K (.ref f32) = true)
    (i33 : PySem.W.isFn K (.ref f33) = true)
    (i34 : PySem.W.isFn K (.ref f34) = true)
    (i35 : PySem.W.isFn K (.ref f35) = true)
    (i36 : PySem.W.isFn K (.ref f36) = true)
    (i37 : PySem.W.isFn K (.ref f37) = true)
    (i38 : PySem.W.isFn K (.ref f38) = true)
    (i39 : PySem.W.isFn K (.ref f39) = true)
    (n5_0 : PySem.W.findIn K (.ref C5) "_tokens" = some none)
    (n5_1 : PySem.W.findIn K (.ref C5) "_balances" = some none)
    (n5_2 : PySem.W.findIn K (.ref C5) "_guards" = some none)
    (n5_3 : PySem.W.findIn K (.ref C5) "_depth" = some none)
    (n5_4 : PySem.W.findIn K (.ref C5) "_window" = some none)
    (n5_5 : PySem.W.findIn K (.ref C5) "_delay" = some none)
    (n5_6 : PySem.W.findIn K (.ref C5) "_bundle" = some none)
    (q0 : PySem.W.nsIn K mainGlobals "ACCOUNT_LENGTH" = some (some (.int 20 tk0)))
    (q1 : PySem.W.nsIn K mainGlobals "BARRED_CODE" = some (some (.int 37 tk1)))
    (q2 : PySem.W.nsIn K mainGlobals "FIRST_CODE" = some (some (.int 32 tk2)))
    (q3 : PySem.W.nsIn K mainGlobals "LAST_CODE" = some (some (.int 126 tk3)))
    (q4 : PySem.W.nsIn K mainGlobals "MOST_IN_BUNDLE" = some (some (.int 8 tk4)))
    (q5 : PySem.W.nsIn K mainGlobals "SIDES" = some (some (.ref g5)))
    (r5 : K.lookup g5 = some ⟨.type "tuple", odg5, .seq itg5 ng5, slg5⟩)
    (v5 : ValsB [.str "west", .str "east"] itg5.toList = true)
    (q6 : PySem.W.nsIn K mainGlobals "TOKEN_LENGTH" = some (some (.int 12 tk6)))
    (z0 : PySem.W.nsIn K mainGlobals "abs" = some none)
    (z1 : PySem.W.nsIn K mainGlobals "all" = some none)
    (z2 : PySem.W.nsIn K mainGlobals "bool" = some none)
    (z3 : PySem.W.nsIn K mainGlobals "dict" = some none)
    (z4 : PySem.W.nsIn K mainGlobals "int" = some none)
    (z5 : PySem.W.nsIn K mainGlobals "isinstance" = some none)
    (z6 : PySem.W.nsIn K mainGlobals "len" = some none)
    (z7 : PySem.W.nsIn K mainGlobals "list" = some none)
    (z8 : PySem.W.nsIn K mainGlobals "min" = some none)
    (z9 : PySem.W.nsIn K mainGlobals "ord" = some none)
    (z10 : PySem.W.nsIn K mainGlobals "range" = some none)
    (z11 : PySem.W.nsIn K mainGlobals "str" = some none)
    (z12 : PySem.W.nsIn K mainGlobals "sum" = some none)
    (z13 : PySem.W.nsIn K mainGlobals "tuple" = some none) :
    ∃ fd : FuncData, (∀ (s : Shared) (v : Value), BindsTo s fd ⟨[v], []⟩ [("script", v)]) ∧ ∀ base : Heap, K.In base → base.Ns mainGlobals mg → FnOk l.prog w K mg base CX0 9 fa fd ["script"] (spLaw K) := by
  have e := hfa.symm.trans (PySem.W.mg_of X G a54)
  cases e
  exact ⟨PySem.W.fnOf "law" "law" (defArgs s_law) (defBody s_law) (defScope s_law) .none kV54 dc54 pm54 an54 cd54 ct54, fun s v => .of_eq rfl, fun base _ _ => ok_law (txt_mk X G a0 a15 a16 a17 a18 a19 a20 a21 a22 a23 a24 a25 a26 a40 a41 a42 a43 a44 a45 a46 a47 a48 a49 a50 a51 a52 a53 a54 aC0 aC1 aC2 aC3 aC4 aC5 m1 m2 m3 m4 m5 m6 m7 m8 m9 m10 m11 m12 m13 m14 m27 m28 m29 m30 m31 m32 m33 m34 m35 m36 m37 m38 m39 l0 c0 k0 l1 c1 k1 l2 c2 k2 l3 c3 k3 l4 c4 k4 l5 c5 k5 l6 c6 k6 l7 c7 k7 l8 c8 k8 l9 c9 k9 l10 c10 k10 l11 c11 k11 l12 c12 k12 l13 c13 k13 l14 c14 k14 l15 c15 k15 l16 c16 k16 l17 c17 k17 l18 c18 k18 l19 c19 k19 l20 c20 k20 l21 c21 k21 l22 c22 k22 l23 c23 k23 l24 c24 k24 l25 c25 k25 l26 c26 k26 l27 c27 k27 l28 c28 k28 l29 c29 k29 l30 c30 k30 l31 c31 k31 l32 c32 k32 l33 c33 k33 l34 c34 k34 l35 c35 k35 l36 c36 k36 l37 c37 k37 l38 c38 k38 l39 c39 k39 l40 c40 k40 l41 c41 k41 l42 c42 k42 l43 c43 k43 l44 c44 k44 l45 c45 k45 l46 c46 k46 l47 c47 k47 l48 c48 k48 l49 c49 k49 l50 c50 k50 l51 c51 k51 l52 c52 k52 l53 c53 k53 l54 c54 k54 xe0 ke0 be0 te0 ie0 se0 hd0 xe1 ke1 be1 te1 ie1 se1 ue1 xe2 ke2 be2 te2 ie2 se2 ue2 xe3 ke3 be3 te3 ie3 se3 hg3 hk3 hd3 ha3 hm3 hn3 ht3 ue3 pg4 hd4 po4 sa4 mk4 kc4 i1 i2 i3 i4 i5 i6 i7 i8 i9 i10 i11 i12 i13 i14 n4_0 n4_1 n4_2 n4_3 n4_4 pg5 hd5 po5 sa5 mk5 kc5 i27 i28 i29 i30 i31 i32 i33 i34 i35 i36 i37 i38 i39 n5_0 n5_1 n5_2 n5_3 n5_4 n5_5 n5_6 q0 q1 q2 q3 q4 q5 r5 v5 q6 z0 z1 z2 z3 z4 z5 z6 z7 z8 z9 z10 z11 z12 z13)⟩
end Pf
open PySem PySem.W PyProof.Rows
set_option maxRecDepth 100000 in
set_option maxHeartbeats 0 in
theorem PySem.Challenge.cw_vaultbridge_k10_sheet_holds : PySem.Challenge.rw_vaultbridge_k10_sheet.Holds := by
  w_on; o_law; k_head; (case hw => w_witness2)
  k_fill
  refine L2.walk_of (l := PySem.Challenge.rw_vaultbridge_k10_sheet) (n := 63) (k := 9) (x := "script") (CX := fun _ => L2.CX0) (sp := fun w => Pf.spLaw _) rfl (by decide) rfl ⟨rfl, by decide, by decide⟩ (fun w h Y => PySem.W.kIn_of Y) ?F (fun _ _ a ns hl _ hS => ⟨a, ns, rfl, hS, hl, fun _ => rfl⟩) (fun _ _ _ _ _ h => h)
  case F =>
    intro w mg fa h KX G hmg
    refine' Pf.all_mk KX G hmg ?a0 ?a15 ?a16 ?a17 ?a18 ?a19 ?a20 ?a21 ?a22 ?a23 ?a24 ?a25 ?a26 ?a40 ?a41 ?a42 ?a43 ?a44 ?a45 ?a46 ?a47 ?a48 ?a49 ?a50 ?a51 ?a52 ?a53 ?a54 ?aC0 ?aC1 ?aC2 ?aC3 ?aC4 ?aC5 ?m1 ?m2 ?m3 ?m4 ?m5 ?m6 ?m7 ?m8 ?m9 ?m10 ?m11 ?m12 ?m13 ?m14 ?m27 ?m28 ?m29 ?m30 ?m31 ?m32 ?m33 ?m34 ?m35 ?m36 ?m37 ?m38 ?m39 ?l0 ?c0 ?k0 ?l1 ?c1 ?k1 ?l2 ?c2 ?k2 ?l3 ?c3 ?k3 ?l4 ?c4 ?k4 ?l5 ?c5 ?k5 ?l6 ?c6 ?k6 ?l7 ?c7 ?k7 ?l8 ?c8 ?k8 ?l9 ?c9 ?k9 ?l10 ?c10 ?k10 ?l11 ?c11 ?k11 ?l12 ?c12 ?k12 ?l13 ?c13 ?k13 ?l14 ?c14 ?k14 ?l15 ?c15 ?k15 ?l16 ?c16 ?k16 ?l17 ?c17 ?k17 ?l18 ?c18 ?k18 ?l19 ?c19 ?k19 ?l20 ?c20 ?k20 ?l21 ?c21 ?k21 ?l22 ?c22 ?k22 ?l23 ?c23 ?k23 ?l24 ?c24 ?k24 ?l25 ?c25 ?k25 ?l26 ?c26 ?k26 ?l27 ?c27 ?k27 ?l28 ?c28 ?k28 ?l29 ?c29 ?k29 ?l30 ?c30 ?k30 ?l31 ?c31 ?k31 ?l32 ?c32 ?k32 ?l33 ?c33 ?k33 ?l34 ?c34 ?k34 ?l35 ?c35 ?k35 ?l36 ?c36 ?k36 ?l37 ?c37 ?k37 ?l38 ?c38 ?k38 ?l39 ?c39 ?k39 ?l40 ?c40 ?k40 ?l41 ?c41 ?k41 ?l42 ?c42 ?k42 ?l43 ?c43 ?k43 ?l44 ?c44 ?k44 ?l45 ?c45 ?k45 ?l46 ?c46 ?k46 ?l47 ?c47 ?k47 ?l48 ?c48 ?k48 ?l49 ?c49 ?k49 ?l50 ?c50 ?k50 ?l51 ?c51 ?k51 ?l52 ?c52 ?k52 ?l53 ?c53 ?k53 ?l54 ?c54 ?k54 ?xe0 ?ke0 ?be0 ?te0 ?ie0 ?se0 ?hd0 ?xe1 ?ke1 ?be1 ?te1 ?ie1 ?se1 ?ue1 ?xe2 ?ke2 ?be2 ?te2 ?ie2 ?se2 ?ue2 ?xe3 ?ke3 ?be3 ?te3 ?ie3 ?se3 ?hg3 ?hk3 ?hd3 ?ha3 ?hm3 ?hn3 ?ht3 ?ue3 ?pg4 ?hd4 ?po4 ?sa4 ?mk4 ?kc4 ?i1 ?i2 ?i3 ?i4 ?i5 ?i6 ?i7 ?i8 ?i9 ?i10 ?i11 ?i12 ?i13 ?i14 ?n4_0 ?n4_1 ?n4_2 ?n4_3 ?n4_4 ?pg5 ?hd5 ?po5 ?sa5 ?mk5 ?kc5 ?i27 ?i28 ?i29 ?i30 ?i31 ?i32 ?i33 ?i34 ?i35 ?i36 ?i37 ?i38 ?i39 ?n5_0 ?n5_1 ?n5_2 ?n5_3 ?n5_4 ?n5_5 ?n5_6 ?q0 ?q1 ?q2 ?q3 ?q4 ?q5 ?r5 ?v5 ?q6 ?z0 ?z1 ?z2 ?z3 ?z4 ?z5 ?z6 ?z7 ?z8 ?z9 ?z10 ?z11 ?z12 ?z13
    (case a0 => k_is)
    (case a15 => k_is)
    (case a16 => k_is)
    (case a17 => k_is)
    (case a18 => k_is)
    (case a19 => k_is)
    (case a20 => k_is)
    (case a21 => k_is)
    (case a22 => k_is)
    (case a23 => k_is)
    (case a24 => k_is)
    (case a25 => k_is)
    (case a26 => k_is)
    (case a40 => k_is)
    (case a41 => k_is)
    (case a42 => k_is)
    (case a43 => k_is)
    (case a44 => k_is)
    (case a45 => k_is)
    (case a46 => k_is)
    (case a47 => k_is)
    (case a48 => k_is)
    (case a49 => k_is)
    (case a50 => k_is)
    (case a51 => k_is)
    (case a52 => k_is)
    (case a53 => k_is)
    (case a54 => k_is)
    (case aC0 => k_is)
    (case aC1 => k_is)
    (case aC2 => k_is)
    (case aC3 => k_is)
    (case aC4 => k_is)
    (case aC5 => k_is)
    (case m1 => k_is)
    (case m2 => k_is)
    (case m3 => k_is)
    (case m4 => k_is)
    (case m5 => k_is)
    (case m6 => k_is)
    (case m7 => k_is)
    (case m8 => k_is)
    (case m9 => k_is)
    (case m10 => k_is)
    (case m11 => k_is)
    (case m12 => k_is)
    (case m13 => k_is)
    (case m14 => k_is)
    (case m27 => k_is)
    (case m28 => k_is)
    (case m29 => k_is)
    (case m30 => k_is)
    (case m31 => k_is)
    (case m32 => k_is)
    (case m33 => k_is)
    (case m34 => k_is)
    (case m35 => k_is)
    (case m36 => k_is)
    (case m37 => k_is)
    (case m38 => k_is)
    (case m39 => k_is)
    (case l0 => k_is)
    (case c0 => k_is)
    (case k0 => k_is)
    (case l1 => k_is)
    (case c1 => k_is)
    (case k1 => k_is)
    (case l2 => k_is)
    (case c2 => k_is)
    (case k2 => k_is)
    (case l3 => k_is)
    (case c3 => k_is)
    (case k3 => k_is)
    (case l4 => k_is)
    (case c4 => k_is)
    (case k4 => k_is)
    (case l5 => k_is)
    (case c5 => k_is)
    (case k5 => k_is)
    (case l6 => k_is)
    (case c6 => k_is)
    (case k6 => k_is)
    (case l7 => k_is)
    (case c7 => k_is)
    (case k7 => k_is)
    (case l8 => k_is)
    (case c8 => k_is)
    (case k8 => k_is)
    (case l9 => k_is)
    (case c9 => k_is)
    (case k9 => k_is)
    (case l10 => k_is)
    (case c10 => k_is)
    (case k10 => k_is)
    (case l11 => k_is)
    (case c11 => k_is)
    (case k11 => k_is)
    (case l12 => k_is)
    (case c12 => k_is)
    (case k12 => k_is)
    (case l13 => k_is)
    (case c13 => k_is)
    (case k13 => k_is)
    (case l14 => k_is)
    (case c14 => k_is)
    (case k14 => k_is)
    (case l15 => k_is)
    (case c15 => k_is)
    (case k15 => k_is)
    (case l16 => k_is)
    (case c16 => k_is)
    (case k16 => k_is)
    (case l17 => k_is)
    (case c17 => k_is)
    (case k17 => k_is)
    (case l18 => k_is)
    (case c18 => k_is)
    (case k18 => k_is)
    (case l19 => k_is)
    (case c19 => k_is)
    (case k19 => k_is)
    (case l20 => k_is)
    (case c20 => k_is)
    (case k20 => k_is)
    (case l21 => k_is)
    (case c21 => k_is)
    (case k21 => k_is)
    (case l22 => k_is)
    (case c22 => k_is)
    (case k22 => k_is)
    (case l23 => k_is)
    (case c23 => k_is)
    (case k23 => k_is)
    (case l24 => k_is)
    (case c24 => k_is)
    (case k24 => k_is)
    (case l25 => k_is)
    (case c25 => k_is)
    (case k25 => k_is)
    (case l26 => k_is)
    (case c26 => k_is)
    (case k26 => k_is)
    (case l27 => k_is)
    (case c27 => k_is)
    (case k27 => k_is)
    (case l28 => k_is)
    (case c28 => k_is)
    (case k28 => k_is)
    (case l29 => k_is)
    (case c29 => k_is)
    (case k29 => k_is)
    (case l30 => k_is)
    (case c30 => k_is)
    (case k30 => k_is)
    (case l31 => k_is)
    (case c31 => k_is)
    (case k31 => k_is)
    (case l32 => k_is)
    (case c32 => k_is)
    (case k32 => k_is)
    (case l33 => k_is)
    (case c33 => k_is)
    (case k33 => k_is)
    (case l34 => k_is)
    (case c34 => k_is)
    (case k34 => k_is)
    (case l35 => k_is)
    (case c35 => k_is)
    (case k35 => k_is)
    (case l36 => k_is)
    (case c36 => k_is)
    (case k36 => k_is)
    (case l37 => k_is)
    (case c37 => k_is)
    (case k37 => k_is)
    (case l38 => k_is)
    (case c38 => k_is)
    (case k38 => k_is)
    (case l39 => k_is)
    (case c39 => k_is)
    (case k39 => k_is)
    (case l40 => k_is)
    (case c40 => k_is)
    (case k40 => k_is)
    (case l41 => k_is)
    (case c41 => k_is)
    (case k41 => k_is)
    (case l42 => k_is)
    (case c42 => k_is)
    (case k42 => k_is)
    (case l43 => k_is)
    (case c43 => k_is)
    (case k43 => k_is)
    (case l44 => k_is)
    (case c44 => k_is)
    (case k44 => k_is)
    (case l45 => k_is)
    (case c45 => k_is)
    (case k45 => k_is)
    (case l46 => k_is)
    (case c46 => k_is)
    (case k46 => k_is)
    (case l47 => k_is)
    (case c47 => k_is)
    (case k47 => k_is)
    (case l48 => k_is)
    (case c48 => k_is)
    (case k48 => k_is)
    (case l49 => k_is)
    (case c49 => k_is)
    (case k49 => k_is)
    (case l50 => k_is)
    (case c50 => k_is)
    (case k50 => k_is)
    (case l51 => k_is)
    (case c51 => k_is)
    (case k51 => k_is)
    (case l52 => k_is)
    (case c52 => k_is)
    (case k52 => k_is)
    (case l53 => k_is)
    (case c53 => k_is)
    (case k53 => k_is)
    (case l54 => k_is)
    (case c54 => k_is)
    (case k54 => k_is)
    (case xe0 => k_exc)
    (case ke0 => k_is)
    (case be0 => k_is)
    (case te0 => k_is)
    (case ie0 => k_is)
    (case se0 => k_is)
    (case hd0 => k_is)
    (case xe1 => k_exc)
    (case ke1 => k_is)
    (case be1 => k_is)
    (case te1 => k_is)
    (case ie1 => k_is)
    (case se1 => k_is)
    (case ue1 => k_is)
    (case xe2 => k_exc)
    (case ke2 => k_is)
    (case be2 => k_is)
    (case te2 => k_is)
    (case ie2 => k_is)
    (case se2 => k_is)
    (case ue2 => k_is)
    (case xe3 => k_exc)
    (case ke3 => k_is)
    (case be3 => k_is)
    (case te3 => k_is)
    (case ie3 => k_is)
    (case se3 => k_is)
    (case hg3 => k_is)
    (case hk3 => k_is)
    (case hd3 => k_is)
    (case ha3 => k_is)
    (case hm3 => k_is)
    (case hn3 => k_is)
    (case ht3 => k_is)
    (case ue3 => k_is)
    (case pg4 => k_is)
    (case hd4 => k_is)
    (case po4 => k_is)
    (case sa4 => k_is)
    (case mk4 => k_is)
    (case kc4 => k_is)
    (case i1 => k_is)
    (case i2 => k_is)
    (case i3 => k_is)
    (case i4 => k_is)
    (case i5 => k_is)
    (case i6 => k_is)
    (case i7 => k_is)
    (case i8 => k_is)
    (case i9 => k_is)
    (case i10 => k_is)
    (case i11 => k_is)
    (case i12 => k_is)
    (case i13 => k_is)
    (case i14 => k_is)
    (case n4_0 => k_is)
    (case n4_1 => k_is)
    (case n4_2 => k_is)
    (case n4_3 => k_is)
    (case n4_4 => k_is)
    (case pg5 => k_is)
    (case hd5 => k_is)
    (case po5 => k_is)
    (case sa5 => k_is)
    (case mk5 => k_is)
    (case kc5 => k_is)
    (case i27 => k_is)
    (case i28 => k_is)
    (case i29 => k_is)
    (case i30 => k_is)
    (case i31 => k_is)
    (case i32 => k_is)
    (case i33 => k_is)
    (case i34 => k_is)
    (case i35 => k_is)
    (case i36 => k_is)
    (case i37 => k_is)
    (case i38 => k_is)
    (case i39 => k_is)
    (case n5_0 => k_is)
    (case n5_1 => k_is)
    (case n5_2 => k_is)
    (case n5_3 => k_is)
    (case n5_4 => k_is)
    (case n5_5 => k_is)
    (case n5_6 => k_is)
    (case q0 => k_is)
    (case q1 => k_is)
    (case q2 => k_is)
    (case q3 => k_is)
    (case q4 => k_is)
    (case q5 => k_is)
    (case r5 => k_is)
    (case v5 => decide +kernel)
    (case q6 => k_is)
    (case z0 => k_is)
    (case z1 => k_is)
    (case z2 => k_is)
    (case z3 => k_is)
    (case z4 => k_is)
    (case z5 => k_is)
    (case z6 => k_is)
    (case z7 => k_is)
    (case z8 => k_is)
    (case z9 => k_is)
    (case z10 => k_is)
    (case z11 => k_is)
    (case z12 => k_is)
    (case z13 => k_is)
