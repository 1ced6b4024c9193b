
import PyProof.Rows.All
import Wide.All
import OpenK.AllK
import Wide.FinOn
import HandS.ForMost
import HandS.TupAny
import HandS.Deep
import HandS.IsInst
import HandS.Style
import HandS.Steps
import HandS.Evl
import HandS.Defaults
import HandS.MakeKwOnly
import PySem.Challenge.RW_vaultbridge_k01_quorums_meet
set_option Elab.async false
set_option linter.all false
set_option maxRecDepth 100000
set_option maxHeartbeats 1000000
namespace Pf
open PySem PySem.Spec PyProof.Rows L2

/-! readings, one step a lemma -/
section
open PySem PySem.Spec PyProof.Rows L2
variable {K : PySem.W.Frag} {σ : L2.St} {H H1 H' : Hp} {Q : VK} {D : Ends} {t u : TS} {ta tb tc te : TE} {tt tu : TT} {tr : TA} {g : TG} {v x y : V} {i j : Int} {a b p l : Addr} {xs ys : List V} {o : HO}

/-! heaps -/
theorem upd_new {c : Addr} {w : HO} (hb : H b = none) (h : H c = some o) : upd H b w c = some o := by
  rw [upd_ne (ne_of_none h hb)]; exact h
theorem upd_other {c : Addr} {w : HO} (hb : c ≠ b) (h : H c = some o) : upd H b w c = some o := by
  rw [upd_ne hb]; exact h
theorem upd_free {c : Addr} {w : HO} (hb : c ≠ b) (h : H c = none) : upd H b w c = none := by
  rw [upd_ne hb]; exact h
theorem upd_none_ne {c : Addr} {w : HO} (h : upd H b w c = none) : c ≠ b := fun e => by rw [e, upd_same] at h; cases h
theorem upd_none_back {c : Addr} {w : HO} (h : upd H b w c = none) : H c = none := by rw [upd_ne (upd_none_ne h)] at h; exact h
/-- everything but p stays -/
def Kp (p : Addr) (H H' : Hp) : Prop := ∀ b o, H b = some o → b ≠ p → H' b = some o
theorem Kp.get {c : Addr} (k : Kp p H H') (h : H c = some o) (n : c ≠ p) : H' c = some o := k c o h n
theorem Kp.refl : Kp p H H := fun _ _ h _ => h
theorem Kp.trans (k : Kp p H H1) (k2 : Kp p H1 H') : Kp p H H' := fun b o h n => k2 b o (k b o h n) n
theorem Kp.upd {w : HO} (k : Kp p H H') : Kp p H (upd H' p w) := fun b o h n => upd_other n (k b o h n)
theorem Kp.new {w : HO} (k : Kp p H H') (h : H a = none) : Kp p H (L2.upd H' a w) := fun b o hb n => upd_other (ne_of_none hb h) (k b o hb n)
theorem Kp.fresh (k : Kp p H H') (hp : H p = some o) (h : H' a = none) (n : a ≠ p) : H a = none := by
  cases q : H a with
  | none => rfl
  | some w => rw [k a w q n] at h; cases h
theorem Same.get {c : Addr} (k : Same H H') (h : H c = some o) : H' c = some o := k c o h
theorem Same.new {w : HO} (k : Same H H') (h : H a = none) : Same H (L2.upd H' a w) := fun b o hb => upd_other (ne_of_none hb h) (k b o hb)
theorem Same.up {w : HO} (k : Same H H') (h : H' a = none) : Same H (L2.upd H' a w) := Same.new k (Same.free k h)
theorem Same.kp (k : Same H H') : Kp p H H' := fun b o h _ => k b o h
theorem sqL (h : H a = some (.lst xs)) : SqL K H a xs := .inl (.inl h)
theorem sqT (h : H a = some (.tup xs)) : SqT K H a xs := .inl (.inl h)

/-- a tuple of the written part -/
def SqTK (K : PySem.W.Frag) (a : Addr) (xs : List V) : Prop := ∃ (o : Obj) (its : Array Value) (n : Nat), K.lookup a = some o ∧ o.cls = .type "tuple" ∧ o.data = .seq its n ∧ its.size ≤ sizeLine ∧ Vals xs its.toList
theorem SqTK.sq {xs : List V} (h : SqTK K a xs) : SqT K H a xs := .inr h
def relB : V → Value → Bool
  | .str x, .str z _ => decide (x = z)
  | .int i, .int k _ => decide (i = k)
  | _, _ => false
theorem relB_rel : ∀ {x : V} {u : Value}, relB x u = true → RelV x u := by
  intro x u h
  cases x <;> cases u <;> first | (cases h; done) | skip
  · have e := of_decide_eq_true h
    subst e
    exact ⟨_, rfl⟩
  · have e := of_decide_eq_true h
    subst e
    exact ⟨_, rfl⟩
def ValsB : List V → List Value → Bool
  | [], [] => true
  | x :: xs, u :: us => relB x u && ValsB xs us
  | _, _ => false
theorem ValsB.vals : ∀ {xs : List V} {us : List Value}, ValsB xs us = true → Vals xs us
  | [], [], _ => .nil
  | [], _ :: _, h => by cases h
  | _ :: _, [], h => by cases h
  | x :: xs, u :: us, h => by
    have h : (relB x u && ValsB xs us) = true := h
    rw [Bool.and_eq_true] at h
    exact .cons (relB_rel h.1) (ValsB.vals h.2)
theorem ValsB.size {xs : List V} {its : Array Value} (h : ValsB xs its.toList = true) (hl : xs.length ≤ sizeLine) : its.size ≤ sizeLine := by
  have e := (ValsB.vals h).length
  have : its.toList.length = its.size := rfl
  omega
theorem hr65 {A : Around} {k : Nat} (hr : Room k A) : A.units + 65 < cLine := by have := hr.un; omega
theorem Same.sqT {xs : List V} (e : Same H H') (h : SqT K H a xs) : SqT K H' a xs := by
  rcases h with (h | ⟨o, h⟩) | h
  · exact .inl (.inl (e _ _ h))
  · exact .inl (.inr ⟨o, e _ _ h⟩)
  · exact .inr h
/-! statements -/
theorem q_seq (h : t { D with nx := u D } σ H) : tSeq t u D σ H := h
theorem q_next (h : D.nx σ H) : tNext D σ H := h
theorem q_brk (h : D.bk σ H) : tBreak D σ H := h
theorem q_ct (h : D.ct σ H) : tCont D σ H := h
theorem q_nx {f : L2.St → Hp → Prop} {r : VK} {b c : L2.St → Hp → Prop} (h : f σ H) : Ends.nx ⟨f, r, b, c⟩ σ H := h
theorem q_bk {f : L2.St → Hp → Prop} {r : VK} {b c : L2.St → Hp → Prop} (h : b σ H) : Ends.bk ⟨f, r, b, c⟩ σ H := h
theorem q_cn {f : L2.St → Hp → Prop} {r : VK} {b c : L2.St → Hp → Prop} (h : c σ H) : Ends.ct ⟨f, r, b, c⟩ σ H := h
theorem q_rt {f : L2.St → Hp → Prop} {r : VK} {b c : L2.St → Hp → Prop} (h : r v H) : Ends.rt ⟨f, r, b, c⟩ v H := h
theorem q_drop (h : te σ H fun _ H1 => D.nx σ H1) : tDrop te D σ H := h
theorem q_ret (h : te σ H D.rt) : tRet te D σ H := h
theorem q_retN (h : D.rt .non H) : tRetN D σ H := h
def ifK (D : Ends) (t u : TS) (σ : L2.St) : Bool → Hp → Prop := fun b H => if b = true then t D σ H else u D σ H
theorem q_ifS (h : tt σ H (ifK D t u σ)) : tIfS tt t u D σ H := h
theorem q_ifT (h : t D σ H) : ifK D t u σ true H := iteT h
theorem q_ifF (h : u D σ H) : ifK D t u σ false H := iteF h
theorem q_if2 {c : Bool} (h : c = true → t D σ H) (h2 : c = false → u D σ H) : ifK D t u σ c H := by
  cases c with
  | true => exact iteT (h rfl)
  | false => exact iteF (h2 rfl)
theorem q_asg (h : te σ H fun x H1 => g x σ H1 D.nx) : tAsg te g D σ H := h
theorem q_gName {n : Nat} {R : L2.St → Hp → Prop} (h : R (σ.set n (some v)) H) : gName n v σ H R := h
theorem q_gTup {n : Nat} {tg : TGs} {R : L2.St → Hp → Prop} (h : SqT K H a xs) (hn : xs.length = n) (k : tg xs σ H R) : gTup K n tg (.ref a) σ H R := ⟨a, xs, rfl, h, hn, k⟩
theorem q_gCons {tg : TGs} {R : L2.St → Hp → Prop} (k : g v σ H fun σ' H' => tg xs σ' H' R) : gCons g tg (v :: xs) σ H R := ⟨v, xs, rfl, k⟩
theorem q_gNil {R : L2.St → Hp → Prop} (k : R σ H) : gNil [] σ H R := ⟨rfl, k⟩
theorem q_gSub {to ti : TE} {ts : TSet} {R : L2.St → Hp → Prop} (k : to σ H fun o H1 => ti σ H1 fun i H2 => ts o i v H2 fun H3 => R σ H3) : gSub to ti ts v σ H R := k
theorem q_setL {R : Hp → Prop} {n : Nat} (h : H p = some (.lst xs)) (hi : ixN xs.length i = some n) (k : R (upd H p (.lst (xs.set n v)))) : rSetL (.ref p) (.int i) v H R := ⟨p, xs, i, n, rfl, rfl, h, hi, k⟩
theorem q_aug {n : Nat} {ti : TIp} (hx : σ[n]? = some (some x)) (h : te σ H fun y H1 => ti x y H1 fun z H2 => D.nx (σ.set n (some z)) H2) : tAug n te ti D σ H := ⟨x, hx, h⟩
theorem q_ipI {f : Int → Int → Int} (k : Q (.int (f i j)) H) : ipI f (.int i) (.int j) H Q := ⟨i, j, rfl, rfl, k⟩
theorem q_cut {Mid : L2.St → Hp → Prop} (h : t { D with nx := Mid } σ H) (k : ∀ σ' H', Mid σ' H' → u D σ' H') : Evl.tCut t u D σ H := ⟨Mid, h, k⟩
theorem dec_t {c : Prop} [Decidable c] (h : decide c = true) : c := of_decide_eq_true h
theorem dec_f {c : Prop} [Decidable c] (h : decide c = false) : ¬ c := of_decide_eq_false h
theorem ndec_t {c : Prop} [Decidable c] (h : (!decide c) = true) : ¬ c := fun q => by rw [decide_eq_true q] at h; cases h
theorem ndec_f {c : Prop} [Decidable c] (h : (!decide c) = false) : c := by
  by_cases q : c
  · exact q
  · rw [decide_eq_false q] at h; cases h
def forK (g : TG) (tb : TS) (D : Ends) (σ : L2.St) : It → Hp → Prop := fun J H1 => ∃ W : Nat → Nat → L2.St → Hp → Prop, (∃ m, W 0 m σ H1) ∧ ∀ i m σ H, W i m σ H →
  (J.stop i H ∧ D.nx σ H) ∨ (J.go i H ∧ ∃ N : L2.St → Hp → Prop, (∀ σ' H', N σ' H' → ∃ m', m' < m ∧ W (i + 1) m' σ' H') ∧ ∀ x H', J.yld i H x H' → g x σ H' fun σ2 H2 => tb { D with nx := N, ct := N, bk := D.nx } σ2 H2)
theorem q_for {wi : TI} (h : wi σ H (forK g t D σ)) : tFor wi g t D σ H := h
theorem q_iList {R : It → Hp → Prop} (h : te σ H fun x H1 => ∃ a, x = .ref a ∧ (∃ xs, SqL K H1 a xs) ∧ R (Itl K a) H1) : iList K te σ H R := h
theorem q_iTup {R : It → Hp → Prop} (h : te σ H fun x H1 => ∃ a, x = .ref a ∧ (∃ xs, SqT K H1 a xs) ∧ R (Itt K a) H1) : iTup K te σ H R := h
theorem q_forL {S : List V} (h : SqL K H a S) (Pv : Nat → L2.St → Hp → Prop) (h0 : Pv 0 σ H) (hl : ∀ i σ H, i ≤ S.length → Pv i σ H → SqL K H a S)
    (hs : ∀ i x σ H, S[i]? = some x → Pv i σ H → g x σ H fun σ2 H2 => t { D with nx := Pv (i + 1), ct := Pv (i + 1), bk := D.nx } σ2 H2) (hd : ∀ σ H, Pv S.length σ H → D.nx σ H) :
    ∃ b, V.ref a = .ref b ∧ (∃ xs, SqL K H b xs) ∧ forK g t D σ (Itl K b) H := ⟨a, rfl, ⟨S, h⟩, for_list Pv h0 hl hs hd⟩
theorem q_forT {S : List V} (h : SqT K H a S) (Pv : Nat → L2.St → Hp → Prop) (h0 : Pv 0 σ H) (hl : ∀ i σ H, i ≤ S.length → Pv i σ H → SqT K H a S)
    (hs : ∀ i x σ H, S[i]? = some x → Pv i σ H → g x σ H fun σ2 H2 => t { D with nx := Pv (i + 1), ct := Pv (i + 1), bk := D.nx } σ2 H2) (hd : ∀ σ H, Pv S.length σ H → D.nx σ H) :
    ∃ b, V.ref a = .ref b ∧ (∃ xs, SqT K H b xs) ∧ forK g t D σ (Itt K b) H := ⟨a, rfl, ⟨S, h⟩, for_tup Pv h0 hl hs hd⟩
def rg1K (R : It → Hp → Prop) : List V → Hp → Prop := fun vs H1 => ∃ j : Int, vs = [.int j] ∧ -(2 ^ 62) ≤ j ∧ j < 2 ^ 62 ∧ R (Itr 0 j.toNat) H1
theorem q_iRng1 {R : It → Hp → Prop} (h : tr σ H (rg1K R)) : iRng1 tr σ H R := h
theorem q_forR (hj : 0 ≤ j ∧ j < 1000000000000000) (Pv : Nat → L2.St → Hp → Prop) (h0 : Pv 0 σ H)
    (hs : ∀ (i : Nat) σ H, (i : Int) < j → Pv i σ H → g (.int i) σ H fun σ2 H2 => t { D with nx := Pv (i + 1), ct := Pv (i + 1), bk := D.nx } σ2 H2) (hd : ∀ σ H, Pv j.toNat σ H → D.nx σ H) :
    rg1K (forK g t D σ) [.int j] H := ⟨j, rfl, by omega, by omega, for_range Pv h0 (fun i σ H hi hp => by have e : (0 : Int) + (i : Int) = (i : Int) := Int.zero_add _; rw [e]; exact hs i σ H (by omega) hp) hd⟩

/-! tests and values -/
def bK (Q : Bool → Hp → Prop) : VK := fun x H => ∃ k, x = .bl k ∧ Q k H
theorem q_test {R : Bool → Hp → Prop} (h : te σ H (bK R)) : tTest te σ H R := h
theorem q_tB {R : Bool → Hp → Prop} (h : te σ H (bK R)) : tB te σ H R := h
theorem q_bK {R : Bool → Hp → Prop} {c : Bool} (k : R c H) : bK R (.bl c) H := ⟨c, rfl, k⟩
def andK (u : TT) (σ : L2.St) (R : Bool → Hp → Prop) : Bool → Hp → Prop := fun c H1 => if c = true then u σ H1 R else R false H1
def orK (u : TT) (σ : L2.St) (R : Bool → Hp → Prop) : Bool → Hp → Prop := fun c H1 => if c = true then R true H1 else u σ H1 R
theorem q_and {R : Bool → Hp → Prop} (h : tt σ H (andK tu σ R)) : tAnd tt tu σ H R := h
theorem q_or {R : Bool → Hp → Prop} (h : tt σ H (orK tu σ R)) : tOr tt tu σ H R := h
theorem q_andT {R : Bool → Hp → Prop} (h : tu σ H R) : andK tu σ R true H := iteT h
theorem q_andF {R : Bool → Hp → Prop} (h : R false H) : andK tu σ R false H := iteF h
theorem q_orT {R : Bool → Hp → Prop} (h : R true H) : orK tu σ R true H := iteT h
theorem q_orF {R : Bool → Hp → Prop} (h : tu σ H R) : orK tu σ R false H := iteF h
theorem q_and2 {R : Bool → Hp → Prop} {c : Bool} (h : c = true → tu σ H R) (h2 : c = false → R false H) : andK tu σ R c H := by
  cases c with
  | true => exact iteT (h rfl)
  | false => exact iteF (h2 rfl)
theorem q_or2 {R : Bool → Hp → Prop} {c : Bool} (h : c = true → R true H) (h2 : c = false → tu σ H R) : orK tu σ R c H := by
  cases c with
  | true => exact iteT (h rfl)
  | false => exact iteF (h2 rfl)
def notK (R : Bool → Hp → Prop) : Bool → Hp → Prop := fun c H1 => R (!c) H1
theorem q_not {R : Bool → Hp → Prop} (h : tt σ H (notK R)) : tNot tt σ H R := h
theorem q_notKT {R : Bool → Hp → Prop} (h : R false H) : notK R true H := h
theorem q_notKF {R : Bool → Hp → Prop} (h : R true H) : notK R false H := h
theorem q_notK {R : Bool → Hp → Prop} {c : Bool} (h : R (!c) H) : notK R c H := h
def andVK (tb : TE) (σ : L2.St) (Q : VK) : VK := fun x H1 => ∃ c, x = .bl c ∧ if c = true then tb σ H1 Q else Q (.bl false) H1
def orVK (tb : TE) (σ : L2.St) (Q : VK) : VK := fun x H1 => ∃ c, x = .bl c ∧ if c = true then Q (.bl true) H1 else tb σ H1 Q
theorem q_andV (h : ta σ H (andVK tb σ Q)) : tAndV ta tb σ H Q := h
theorem q_orV (h : ta σ H (orVK tb σ Q)) : tOrV ta tb σ H Q := h
theorem q_andVT (h : tb σ H Q) : andVK tb σ Q (.bl true) H := ⟨true, rfl, iteT h⟩
theorem q_andVF (h : Q (.bl false) H) : andVK tb σ Q (.bl false) H := ⟨false, rfl, iteF h⟩
theorem q_orVT (h : Q (.bl true) H) : orVK tb σ Q (.bl true) H := ⟨true, rfl, iteT h⟩
theorem q_orVF (h : tb σ H Q) : orVK tb σ Q (.bl false) H := ⟨false, rfl, iteF h⟩
theorem q_andV2 {c : Bool} (h : c = true → tb σ H Q) (h2 : c = false → Q (.bl false) H) : andVK tb σ Q (.bl c) H := by
  cases c with
  | true => exact q_andVT (h rfl)
  | false => exact q_andVF (h2 rfl)
theorem q_orV2 {c : Bool} (h : c = true → Q (.bl true) H) (h2 : c = false → tb σ H Q) : orVK tb σ Q (.bl c) H := by
  cases c with
  | true => exact q_orVT (h rfl)
  | false => exact q_orVF (h2 rfl)
def notVK (Q : VK) : VK := fun x H1 => ∃ c, x = .bl c ∧ Q (.bl (!c)) H1
theorem q_notV (h : ta σ H (notVK Q)) : tNotV ta σ H Q := h
theorem q_notVK {c : Bool} (k : Q (.bl (!c)) H) : notVK Q (.bl c) H := ⟨c, rfl, k⟩
def ifEK (ta tb : TE) (σ : L2.St) (Q : VK) : Bool → Hp → Prop := fun c H1 => if c = true then ta σ H1 Q else tb σ H1 Q
theorem q_ifE (h : tt σ H (ifEK ta tb σ Q)) : tIf tt ta tb σ H Q := h
theorem q_ifET (h : ta σ H Q) : ifEK ta tb σ Q true H := iteT h
theorem q_ifEF (h : tb σ H Q) : ifEK ta tb σ Q false H := iteF h
theorem q_ifE2 {c : Bool} (h : c = true → ta σ H Q) (h2 : c = false → tb σ H Q) : ifEK ta tb σ Q c H := by
  cases c with
  | true => exact iteT (h rfl)
  | false => exact iteF (h2 rfl)
theorem q_yes {R : Bool → Hp → Prop} (k : R true H) : tYes σ H R := k
theorem q_var {n : Nat} (h : σ[n]? = some (some v)) (k : Q v H) : tVar n σ H Q := ⟨v, h, k⟩
theorem q_c (k : Q v H) : tC v σ H Q := k
theorem q_op {r : R2} (h : ta σ H fun x H1 => tb σ H1 fun y H2 => r x y H2 Q) : tOp r ta tb σ H Q := h
theorem q_un {r : V → Hp → VK → Prop} (h : ta σ H fun x H1 => r x H1 Q) : tUn r ta σ H Q := h
theorem q_rU {f : Int → V} (k : Q (f i) H) : rU f (.int i) H Q := ⟨i, rfl, k⟩
theorem q_I0 {f : Int → Int → V} (k : Q (f i j) H) : rI0 f (.int i) (.int j) H Q := ⟨i, j, rfl, rfl, k⟩
theorem q_I {C : Int → Int → Prop} {f : Int → Int → V} (hc : C i j) (k : Q (f i j) H) : rI C f (.int i) (.int j) H Q := ⟨i, j, rfl, rfl, hc, k⟩
theorem q_eq (hs : scal x y = true) (k : Q (.bl (decide (x = y))) H) : rEq x y H Q := ⟨hs, k⟩
theorem q_ne (hs : scal x y = true) (k : Q (.bl (!decide (x = y))) H) : rNe x y H Q := ⟨hs, k⟩
theorem dec_int (i j : Int) : decide (V.int i = V.int j) = decide (i = j) := by
  by_cases h : i = j
  · subst h; simp
  · rw [decide_eq_false h, decide_eq_false (fun e => h (V.int.inj e))]
theorem q_eqI (k : Q (.bl (decide (i = j))) H) : rEq (.int i) (.int j) H Q := ⟨rfl, by rw [dec_int]; exact k⟩
theorem q_neI (k : Q (.bl (!decide (i = j))) H) : rNe (.int i) (.int j) H Q := ⟨rfl, by rw [dec_int]; exact k⟩
theorem dec_str (i j : Str) : decide (V.str i = V.str j) = decide (i = j) := by
  by_cases h : i = j
  · subst h; simp
  · rw [decide_eq_false h, decide_eq_false (fun e => h (V.str.inj e))]
theorem q_eqS {s z : Str} (k : Q (.bl (decide (s = z))) H) : rEq (.str s) (.str z) H Q := ⟨rfl, by rw [dec_str]; exact k⟩
theorem q_neS {s z : Str} (k : Q (.bl (!decide (s = z))) H) : rNe (.str s) (.str z) H Q := ⟨rfl, by rw [dec_str]; exact k⟩
theorem q_ixL (h : SqL K H p xs) (ha : atI xs i = some v) (k : Q v H) : rIxL K (.ref p) (.int i) H Q := ⟨p, xs, i, v, rfl, rfl, h, ha, k⟩
theorem q_ixT (h : SqT K H p xs) (ha : atI xs i = some v) (k : Q v H) : rIxT K (.ref p) (.int i) H Q := ⟨p, xs, i, v, rfl, rfl, h, ha, k⟩
theorem q_ixLt (h : H p = some (.lst xs)) (ha : atI xs i = some v) (k : Q v H) : rIxL K (.ref p) (.int i) H Q := q_ixL (sqL h) ha k
theorem q_ixTt (h : H p = some (.tup xs)) (ha : atI xs i = some v) (k : Q v H) : rIxT K (.ref p) (.int i) H Q := q_ixT (sqT h) ha k
theorem q_ixSL (h : SqL K H p xs) (ha : atI xs i = some v) (k : Q v H) : rIx K (.ref p) (.int i) H Q := .inl ⟨p, xs, i, v, rfl, rfl, h, ha, k⟩
theorem q_ixST (h : SqT K H p xs) (ha : atI xs i = some v) (k : Q v H) : rIx K (.ref p) (.int i) H Q := .inr (.inl ⟨p, xs, i, v, rfl, rfl, h, ha, k⟩)
theorem at_int {α : Type} {xs : List α} {i : Int} {x : α} {n : Nat} (e : i = (n : Int)) (h : xs[n]? = some x) : atI xs i = some x := by rw [e]; exact atI_nat h
theorem q_tNil {R : List V → Hp → Prop} (k : R [] H) : tNil σ H R := k
theorem q_tCons {R : List V → Hp → Prop} (h : ta σ H fun x H1 => tr σ H1 fun xs H2 => R (x :: xs) H2) : tCons ta tr σ H R := h
def tupK (Q : VK) : List V → Hp → Prop := fun xs H1 => xs.length ≤ sizeLine ∧ ∀ p, H1 p = none → Q (.ref p) (upd H1 p (.tup xs))
def lstK (Q : VK) : List V → Hp → Prop := fun xs H1 => xs.length ≤ sizeLine ∧ ∀ p, H1 p = none → Q (.ref p) (upd H1 p (.lst xs))
theorem q_tup (h : tr σ H (tupK Q)) : tTup tr σ H Q := h
theorem q_lst (h : tr σ H (lstK Q)) : tLst tr σ H Q := h
theorem q_tupK (hl : xs.length ≤ sizeLine) (k : ∀ p, H p = none → Q (.ref p) (upd H p (.tup xs))) : tupK Q xs H := ⟨hl, k⟩
theorem q_lstK (hl : xs.length ≤ sizeLine) (k : ∀ p, H p = none → Q (.ref p) (upd H p (.lst xs))) : lstK Q xs H := ⟨hl, k⟩
theorem q_cb {r : List V → Hp → VK → Prop} (h : tr σ H fun vs H1 => r vs H1 Q) : tCB r tr σ H Q := h
def callK (sp : Sp) (dvs : List V) (E : XK) (Q : VK) : List V → Hp → Prop := fun vs H1 => sp (vs ++ dvs) H1 Q E
theorem q_call {sp : Sp} {dvs : List V} {E : XK} (h : tr σ H (callK sp dvs E Q)) : tCall sp dvs E tr σ H Q := h
theorem q_callK {sp : Sp} {E : XK} (h : sp xs H Q E) : callK sp [] E Q xs H := by unfold callK; rw [List.append_nil]; exact h

/-! built-ins, by names of our own -/
def rLenQ (K : PySem.W.Frag) : List V → Hp → VK → Prop := fun xs H Q => ∃ p ys, xs = [.ref p] ∧ (SqL K H p ys ∨ SqT K H p ys) ∧ Q (.int ys.length) H
theorem cq_len {X : Cx} : CallR X (.builtin "len") (rLenQ X.K) := call_len_seq
theorem q_lenL (h : SqL K H p xs) (k : Q (.int xs.length) H) : rLenQ K [.ref p] H Q := ⟨p, xs, rfl, .inl h, k⟩
theorem q_lenT (h : SqT K H p xs) (k : Q (.int xs.length) H) : rLenQ K [.ref p] H Q := ⟨p, xs, rfl, .inr h, k⟩
theorem q_lenLt (h : H p = some (.lst xs)) (k : Q (.int xs.length) H) : rLenQ K [.ref p] H Q := q_lenL (sqL h) k
theorem q_lenTt (h : H p = some (.tup xs)) (k : Q (.int xs.length) H) : rLenQ K [.ref p] H Q := q_lenT (sqT h) k
def rLenD : List V → Hp → VK → Prop := fun xs H Q => ∃ a kvs, xs = [V.ref a] ∧ H a = some (.dK kvs) ∧ Q (.int kvs.length) H
def rLenS : List V → Hp → VK → Prop := fun xs H Q => ∃ x : Str, xs = [.str x] ∧ x.length ≤ sizeLine ∧ Q (.int x.length) H
theorem cq_lenS {X : Cx} : CallR X (.builtin "len") rLenS := by
  intro pins s σ H xs us Q I r h
  obtain ⟨x, e, hl, q⟩ := h
  exact call_len pins s σ H xs us Q I r ⟨.str x, x.length, e, ⟨hl, rfl⟩, q⟩
theorem q_lenS {x : Str} (hl : x.length ≤ sizeLine) (k : Q (.int x.length) H) : rLenS [.str x] H Q := ⟨x, rfl, hl, k⟩
def rAbs : List V → Hp → VK → Prop := fun xs H Q => ∃ i, xs = [.int i] ∧ Q (.int (if i < 0 then -i else i)) H
theorem cq_abs {X : Cx} : CallR X (.builtin "abs") rAbs := call_abs
theorem q_abs (k : Q (.int (if i < 0 then -i else i)) H) : rAbs [.int i] H Q := ⟨i, rfl, k⟩
def rInt1 : List V → Hp → VK → Prop := fun xs H Q => (∃ i, xs = [.int i] ∧ Q (.int i) H) ∨ ∃ k, xs = [.bl k] ∧ Q (.int (if k then 1 else 0)) H
theorem cq_int1 {X : Cx} : CallR X (.type "int") rInt1 := call_int1
theorem q_int1 (k : Q (.int i) H) : rInt1 [.int i] H Q := .inl ⟨i, rfl, k⟩
def rStrInt : List V → Hp → VK → Prop := fun xs H Q => ∃ i, xs = [.int i] ∧ i.natAbs.log2 < 1920 ∧ Q (.str (toString i)) H
theorem cq_strInt {X : Cx} : CallR X (.type "str") rStrInt := call_str_int
theorem q_strInt (hb : i.natAbs.log2 < 1920) (k : Q (.str (toString i)) H) : rStrInt [.int i] H Q := ⟨i, rfl, hb, k⟩
def rListOf (K : PySem.W.Frag) : List V → Hp → VK → Prop := fun xs H Q => ∃ p ys, xs = [.ref p] ∧ (SqL K H p ys ∨ SqT K H p ys) ∧ ∀ l, H l = none → Q (.ref l) (upd H l (.lst ys))
theorem cq_listOf {X : Cx} : CallR X (.type "list") (rListOf X.K) := call_list_of
theorem q_listL (h : SqL K H p xs) (k : ∀ l, H l = none → Q (.ref l) (upd H l (.lst xs))) : rListOf K [.ref p] H Q := ⟨p, xs, rfl, .inl h, k⟩
theorem q_listT (h : SqT K H p xs) (k : ∀ l, H l = none → Q (.ref l) (upd H l (.lst xs))) : rListOf K [.ref p] H Q := ⟨p, xs, rfl, .inr h, k⟩
def rTupOf (K : PySem.W.Frag) : List V → Hp → VK → Prop := fun xs H Q => ∃ p ys, xs = [.ref p] ∧ ((SqL K H p ys ∧ ∀ l, H l = none → Q (.ref l) (upd H l (.tup ys))) ∨ (SqT K H p ys ∧ Q (.ref p) H))
theorem cq_tupOf {X : Cx} : CallR X (.type "tuple") (rTupOf X.K) := call_tuple_of
theorem q_tupL (h : SqL K H p xs) (k : ∀ l, H l = none → Q (.ref l) (upd H l (.tup xs))) : rTupOf K [.ref p] H Q := ⟨p, xs, rfl, .inl ⟨h, k⟩⟩
theorem q_sum {ns : List Int} (h : SqL K H a (ns.map V.int)) (k : Q (.int ns.sum) H) : rSum K [.ref a] H Q := ⟨a, ns, rfl, h, k⟩
theorem q_all {bs : List Bool} (h : SqL K H a (bs.map V.bl)) (k : Q (.bl (bs.all id)) H) : rAll K [.ref a] H Q := ⟨a, bs, rfl, h, k⟩
theorem q_any {bs : List Bool} (h : SqL K H a (bs.map V.bl)) (k : Q (.bl (bs.any id)) H) : rAny K [.ref a] H Q := ⟨a, bs, rfl, h, k⟩
def rAddStr : R2 := fun x y H Q => ∃ i j, x = .str i ∧ y = .str j ∧ i.length + j.length ≤ sizeLine ∧ Q (.str (i ++ j)) H
theorem oq_addStr {X : Cx} : OpR X (binaryOp .Add) rAddStr := op_add_str
theorem q_addStr {s z : Str} (hl : s.length + z.length ≤ sizeLine) (k : Q (.str (s ++ z)) H) : rAddStr (.str s) (.str z) H Q := ⟨s, z, rfl, rfl, hl, k⟩
theorem q_isN' (k : Q (.bl (decide (x = .non))) H) : rIsN x .non H Q := ⟨rfl, k⟩
theorem q_notN' (k : Q (.bl (!decide (x = .non))) H) : rNotN x .non H Q := ⟨rfl, k⟩
theorem q_inD {d : PyData} {ds : List PyData} (hd : Dp K H x d) (hy : Dp K H y (.list ds)) (s1 : SeqAt.shaped d = true) (s2 : SeqAt.shaped (.list ds) = true) (k : Q (.bl (ds.any fun z => PyData.eqv z d)) H) : rInD K x y H Q := ⟨d, ds, hd, hy, s1, s2, k⟩
theorem q_notInD {d : PyData} {ds : List PyData} (hd : Dp K H x d) (hy : Dp K H y (.list ds)) (s1 : SeqAt.shaped d = true) (s2 : SeqAt.shaped (.list ds) = true) (k : Q (.bl (!ds.any fun z => PyData.eqv z d)) H) : rNotInD K x y H Q := ⟨d, ds, hd, hy, s1, s2, k⟩
theorem q_ifNT (h : u D σ H) : ifK D t u σ (!true) H := q_ifF h
theorem q_ifNF (h : t D σ H) : ifK D t u σ (!false) H := q_ifT h
theorem q_andNT {R : Bool → Hp → Prop} (h : R false H) : andK tu σ R (!true) H := q_andF h
theorem q_andNF {R : Bool → Hp → Prop} (h : tu σ H R) : andK tu σ R (!false) H := q_andT h
theorem q_orNT {R : Bool → Hp → Prop} (h : tu σ H R) : orK tu σ R (!true) H := q_orF h
theorem q_orNF {R : Bool → Hp → Prop} (h : R true H) : orK tu σ R (!false) H := q_orT h
theorem q_bKNT {R : Bool → Hp → Prop} (h : R false H) : bK R (.bl (!true)) H := q_bK h
theorem q_bKNF {R : Bool → Hp → Prop} (h : R true H) : bK R (.bl (!false)) H := q_bK h
/-! chains, isinstance, texts, dicts -/
def chK2 (r' : R2) (y : V) (tc : TE) (σ : L2.St) (Q : VK) : VK := fun z H3 => ∃ k, z = .bl k ∧ (if k = true then tc σ H3 fun w' H4 => r' y w' H4 Q else Q (.bl false) H3)
theorem q_chain {r r' : R2} (h : ta σ H fun x H1 => tb σ H1 fun y H2 => r x y H2 (chK2 r' y tc σ Q)) : tChain r r' ta tb tc σ H Q := h
theorem q_chT {r' : R2} (h : tc σ H fun w' H4 => r' y w' H4 Q) : chK2 r' y tc σ Q (.bl true) H := ⟨true, rfl, iteT h⟩
theorem q_chF {r' : R2} (h : Q (.bl false) H) : chK2 r' y tc σ Q (.bl false) H := ⟨false, rfl, iteF h⟩
theorem q_ch2 {r' : R2} {c : Bool} (h : c = true → tc σ H fun w' H4 => r' y w' H4 Q) (h2 : c = false → Q (.bl false) H) : chK2 r' y tc σ Q (.bl c) H := by
  cases c with
  | true => exact q_chT (h rfl)
  | false => exact q_chF (h2 rfl)
def rIsiQ (K : PySem.W.Frag) : List V → Hp → VK → Prop := rIsi K
theorem q_isi {n : String} {t : Value} {c : Bool} (ht : TyX K H x t) (hk : PySem.W.kitOne K t (.type n) = some c) (k : Q (.bl c) H) : rIsi K [x, .ty n] H Q := ⟨x, .ty n, t, .type n, c, rfl, .ty n, ht, hk, k⟩
def rOrd : List V → Hp → VK → Prop := fun xs H Q => ∃ x, xs = [.str x] ∧ x.length = 1 ∧ Q (.int (x.cps.getD 0 0 : Nat)) H
theorem cq_ord {X : Cx} : CallR X (.builtin "ord") rOrd := call_ord
theorem q_ord {c : Nat} (k : Q (.int c) H) : rOrd [.str ⟨#[c]⟩] H Q := ⟨_, rfl, rfl, k⟩
theorem q_forS {s : Str} (Pv : Nat → L2.St → Hp → Prop) (h0 : Pv 0 σ H)
    (hs : ∀ i c σ H, s.cps[i]? = some c → Pv i σ H → g (.str ⟨#[c]⟩) σ H fun σ2 H2 => t { D with nx := Pv (i + 1), ct := Pv (i + 1), bk := D.nx } σ2 H2) (hd : ∀ σ H, Pv s.cps.size σ H → D.nx σ H) : forK g t D σ (Its s) H := by
  refine ⟨fun i m σ H => i + m = s.cps.size ∧ Pv i σ H, ⟨s.cps.size, Nat.zero_add _, h0⟩, fun i m σ H hW => ?_⟩
  obtain ⟨e, hp⟩ := hW
  by_cases hi : i < s.cps.size
  · refine .inr ⟨hi, Pv (i + 1), fun σ' H' hN => ⟨m - 1, by omega, by omega, hN⟩, fun x H' hy => ?_⟩
    obtain ⟨rfl, c, hc, rfl⟩ := hy
    exact hs i c σ H' hc hp
  · have e2 : i = s.cps.size := by omega
    subst e2
    exact .inl ⟨Nat.le_refl _, hd σ H hp⟩
theorem q_iStr {s : Str} {R : It → Hp → Prop} (k : R (Its s) H) : ∃ z, V.str s = .str z ∧ R (Its z) H := ⟨s, rfl, k⟩
theorem q_iStr0 {R : It → Hp → Prop} (h : te σ H fun v H1 => ∃ x, v = .str x ∧ R (Its x) H1) : iStr te σ H R := h
def dInK (Q : VK) (y : V) : VK := fun x H2 => ∃ a o, x = .ref a ∧ DGet H2 a y o ∧ Q (.bl o.isSome) H2
def dNInK (Q : VK) (y : V) : VK := fun x H2 => ∃ a o, x = .ref a ∧ DGet H2 a y o ∧ Q (.bl (!o.isSome)) H2
theorem q_tDIn {ty td : TE} (h : ty σ H fun y H1 => td σ H1 (dInK Q y)) : tDIn ty td σ H Q := h
theorem q_tDNotIn {ty td : TE} (h : ty σ H fun y H1 => td σ H1 (dNInK Q y)) : tDNotIn ty td σ H Q := h
theorem q_dInS {kvs : List (Key × V)} {s : Str} (h : H a = some (.dK kvs)) (k : Q (.bl (valV kvs (.inr s)).isSome) H) : dInK Q (.str s) (.ref a) H := ⟨a, _, rfl, DGet.k (k := Sum.inr s) h, k⟩
theorem q_dNInS {kvs : List (Key × V)} {s : Str} (h : H a = some (.dK kvs)) (k : Q (.bl (!(valV kvs (.inr s)).isSome)) H) : dNInK Q (.str s) (.ref a) H := ⟨a, _, rfl, DGet.k (k := Sum.inr s) h, k⟩
theorem q_dInI {kvs : List (Key × V)} (h : H a = some (.dK kvs)) (k : Q (.bl (valV kvs (.inl i)).isSome) H) : dInK Q (.int i) (.ref a) H := ⟨a, _, rfl, DGet.k (k := Sum.inl i) h, k⟩
theorem q_dNInI {kvs : List (Key × V)} (h : H a = some (.dK kvs)) (k : Q (.bl (!(valV kvs (.inl i)).isSome)) H) : dNInK Q (.int i) (.ref a) H := ⟨a, _, rfl, DGet.k (k := Sum.inl i) h, k⟩
def dGetK (Q : VK) (x : V) : VK := fun y H2 => ∃ a v, x = .ref a ∧ DGet H2 a y (some v) ∧ Q v H2
theorem q_tDGet {ty td : TE} (h : td σ H fun x H1 => ty σ H1 (dGetK Q x)) : tDGet td ty σ H Q := h
theorem q_dGetS {kvs : List (Key × V)} {s : Str} (h : H a = some (.dK kvs)) (e : valV kvs (.inr s) = some v) (k : Q v H) : dGetK Q (.ref a) (.str s) H := ⟨a, v, rfl, by rw [← e]; exact DGet.k (k := Sum.inr s) h, k⟩
theorem q_dGetI {kvs : List (Key × V)} (h : H a = some (.dK kvs)) (e : valV kvs (.inl i) = some v) (k : Q v H) : dGetK Q (.ref a) (.int i) H := ⟨a, v, rfl, by rw [← e]; exact DGet.k (k := Sum.inl i) h, k⟩
theorem q_dNew (k : ∀ p, H p = none → Q (.ref p) (upd H p (.dK []))) : tDNewK σ H Q := k
def dPutK (D : Ends) (σ : L2.St) (v x : V) : VK := fun y H3 => ∃ a H4, x = .ref a ∧ DPut H3 a y v H4 ∧ D.nx σ H4
theorem q_sDPut {td ty tv : TE} (h : tv σ H fun v H1 => td σ H1 fun x H2 => ty σ H2 (dPutK D σ v x)) : sDPut td ty tv D σ H := h
theorem q_dPutS {kvs : List (Key × V)} {s : Str} (h : H a = some (.dK kvs)) (hl : kvs.length < sizeLine) (k : D.nx σ (upd H a (.dK (putK kvs (.inr s) v)))) : dPutK D σ v (.ref a) (.str s) H := ⟨a, _, rfl, DPut.k (k := Sum.inr s) h hl, k⟩
theorem q_dPutI {kvs : List (Key × V)} (h : H a = some (.dK kvs)) (hl : kvs.length < sizeLine) (k : D.nx σ (upd H a (.dK (putK kvs (.inl i) v)))) : dPutK D σ v (.ref a) (.int i) H := ⟨a, _, rfl, DPut.k (k := Sum.inl i) h hl, k⟩
def truK (K : PySem.W.Frag) (R : Bool → Hp → Prop) : VK := fun x H' => ∃ k, TruV K x H' k ∧ R k H'
theorem q_tru {R : Bool → Hp → Prop} (h : te σ H (truK K R)) : (fun (σ : L2.St) (H : Hp) (Q : Bool → Hp → Prop) => te σ H fun x H' => ∃ k, TruV K x H' k ∧ Q k H') σ H R := h
theorem q_isBl {c d : Bool} (k : Q (.bl (decide (c = d))) H) : rIsB (.bl c) (.bl d) H Q := ⟨c, d, rfl, rfl, k⟩
theorem q_notBl {c d : Bool} (k : Q (.bl (!decide (c = d))) H) : rNotB (.bl c) (.bl d) H Q := ⟨c, d, rfl, rfl, k⟩
theorem q_inT (h : SqT K H p xs) (hx : flatV x = true) (ha : xs.all flatV = true) (k : Q (.bl (inV x xs)) H) : rIn K false x (.ref p) H Q := ⟨p, xs, rfl, .inr h, hx, ha, k⟩
theorem q_inL (h : SqL K H p xs) (hx : flatV x = true) (ha : xs.all flatV = true) (k : Q (.bl (inV x xs)) H) : rIn K false x (.ref p) H Q := ⟨p, xs, rfl, .inl h, hx, ha, k⟩
theorem q_eqD {d e : PyData} (hd : Dp K H x d) (he : Dp K H y e) (s1 : SeqAt.shaped d = true) (s2 : SeqAt.shaped e = true) (k : Q (.bl (PyData.eqv d e)) H) : rEqD K x y H Q := ⟨d, e, hd, he, s1, s2, k⟩
theorem q_neD {d e : PyData} (hd : Dp K H x d) (he : Dp K H y e) (s1 : SeqAt.shaped d = true) (s2 : SeqAt.shaped e = true) (k : Q (.bl (!PyData.eqv d e)) H) : rNeD K x y H Q := ⟨d, e, hd, he, s1, s2, k⟩
theorem q_catA (h1 : H a = some (.tup xs)) (h2 : H b = some (.tup ys)) (hl : xs.length + ys.length ≤ sizeLine) (k : ∀ p H', Same H H' → H' p = some (.tup (xs ++ ys)) → Q (.ref p) H') : rCatA K (.ref a) (.ref b) H Q := by
  refine ⟨a, b, xs, ys, rfl, rfl, sqT h1, sqT h2, hl, fun e => ?_, fun _ e => ?_, fun _ _ p hp => k p _ (Same.new (Same.refl _) hp) upd_same⟩
  · subst e; exact k b H (Same.refl _) h2
  · subst e; exact k a H (Same.refl _) (by rw [List.append_nil]; exact h1)
theorem q_slA {lo hi : Option Int} (h : H a = some (.tup xs)) (k : ∀ p H', Same H H' → H' p = some (.tup (cutV xs lo hi)) → Q (.ref p) H') : rSlA K (.ref a) lo hi H Q := by
  refine ⟨a, xs, rfl, sqT h, fun e => ?_, fun _ p hp => k p _ (Same.new (Same.refl _) hp) upd_same⟩
  refine k a H (Same.refl _) ?_
  unfold cutV
  rw [e.1, e.2, List.drop_zero, Nat.sub_zero, List.take_length]
  exact h
theorem cut_take {n : Nat} (hn : n ≤ xs.length) : cutV xs none (some (n : Int)) = xs.take n := by
  unfold cutV
  rw [HT.sIx_none, show HT.sIx xs.length xs.length (some (n : Int)) = min n xs.length from HT.sIx_nat xs.length xs.length n, Nat.min_eq_left hn, List.drop_zero, Nat.sub_zero]
theorem cut_drop {n : Nat} (hn : n ≤ xs.length) : cutV xs (some (n : Int)) none = xs.drop n := by
  unfold cutV
  rw [HT.sIx_none, show HT.sIx xs.length 0 (some (n : Int)) = min n xs.length from HT.sIx_nat xs.length 0 n, Nat.min_eq_left hn]
  exact List.take_of_length_le (by rw [List.length_drop]; exact Nat.le_refl _)
theorem q_sl {r : V → Option Int → Option Int → Hp → VK → Prop} {tl th : TO} (h : te σ H fun x H1 => tl σ H1 fun l H2 => th σ H2 fun u H3 => r x l u H3 Q) : tSl r te tl th σ H Q := h
theorem q_noPart {R : Option Int → Hp → Prop} (k : R none H) : tNoPart σ H R := k
def partK (R : Option Int → Hp → Prop) : VK := fun x H1 => ∃ i, x = .int i ∧ R (some i) H1
theorem q_part {R : Option Int → Hp → Prop} (h : te σ H (partK R)) : tPart te σ H R := h
theorem q_partK {R : Option Int → Hp → Prop} (k : R (some i) H) : partK R (.int i) H := ⟨i, rfl, k⟩
/-! a text times a number -/
def repS (s : Str) (n : Int) : Str := ⟨(List.replicate n.toNat s.cps).foldl (· ++ ·) #[]⟩
def mulOk (s : Str) (n : Int) : Bool := decide (2 ≤ n) && decide (n ≤ 1000) && decide (s.length = 1) && decide ((repS s n).length ≤ 1000)
def rMulStr : R2 := fun x y H Q => ∃ s n, x = .str s ∧ y = .int n ∧ mulOk s n = true ∧ Q (.str (repS s n)) H
theorem oq_mulStr {X : Cx} : OpR X (binaryOp .Mult) rMulStr := by
  intro pins s σ H x y v u Q I rx ry h
  obtain ⟨z, n, rfl, rfl, hm, q⟩ := h
  obtain ⟨t, rfl⟩ := rx
  obtain ⟨t', rfl⟩ := ry
  unfold mulOk at hm
  simp only [Bool.and_eq_true, decide_eq_true_eq] at hm
  obtain ⟨⟨⟨h1, h2⟩, h3⟩, h4⟩ := hm
  have e1 : (n == 1 || z.length == 0) = false := by
    rw [h3]
    have : (n == 1) = false := beq_eq_false_iff_ne.mpr (by omega)
    rw [this]
    rfl
  refine PySem.P.mul_str ?_ (fun _ _ => ?_) (fun _ _ => ?_) ?_
  · rw [decide_eq_false (show ¬ n < -(2 ^ 63) by omega), decide_eq_false (show ¬ n ≥ 2 ^ 63 by omega)]
    rfl
  · rw [h3]
    have : (1 : Int) ≤ (2 ^ 63 - 1) / n := Int.le_ediv_of_mul_le (by omega) (by omega)
    exact Int.not_lt.mpr this
  · rw [h3, Nat.one_mul]
    exact decide_eq_false (by
      have : sizeLine = 16777216 := sizeLine_eq
      omega)
  · rw [if_neg (show ¬ n < 1 by omega), if_neg (by rw [e1]; exact Bool.false_ne_true)]
    exact ⟨Nat.le_trans h4 (by decide), .str (repS z n), H, I.tok _, ⟨_, rfl⟩, q⟩
theorem q_mulStr {s : Str} (hm : mulOk s i = true) (k : Q (.str (repS s i)) H) : rMulStr (.str s) (.int i) H Q := ⟨s, i, rfl, rfl, hm, k⟩
/-! methods of lists -/
def bmK (K : PySem.W.Frag) (T : String) (r : V → List V → Hp → VK → Prop) (t : TA) (σ : L2.St) (Q : VK) : VK := fun x H1 => tyV K T x H1 ∧ t σ H1 fun xs H2 => r x xs H2 Q
def bmK0 (K : PySem.W.Frag) (T : String) (r : V → List V → Hp → VK → Prop) (Q : VK) : VK := fun x H1 => tyV K T x H1 ∧ r x [] H1 Q
theorem q_bm {T : String} {r : V → List V → Hp → VK → Prop} (h : te σ H (bmK K T r tr σ Q)) : tBM K T r te tr σ H Q := h
theorem q_bm0 {T : String} {r : V → List V → Hp → VK → Prop} (h : te σ H (bmK0 K T r Q)) : tBM0 K T r te σ H Q := h
theorem q_bmL {r : V → List V → Hp → VK → Prop} (h : H l = some (.lst xs)) (k : tr σ H fun vs H2 => r (.ref l) vs H2 Q) : bmK K "list" r tr σ Q (.ref l) H := ⟨.inl ⟨rfl, xs, sqL h⟩, k⟩
theorem q_bmL0 {r : V → List V → Hp → VK → Prop} (h : H l = some (.lst xs)) (k : r (.ref l) [] H Q) : bmK0 K "list" r Q (.ref l) H := ⟨.inl ⟨rfl, xs, sqL h⟩, k⟩
theorem q_append (h : H l = some (.lst xs)) (hl : xs.length < sizeLine) (k : Q .non (upd H l (.lst (xs ++ [y])))) : rAppend (.ref l) [y] H Q := ⟨l, xs, y, rfl, rfl, h, hl, k⟩
theorem q_popAt {n : Nat} (h : H l = some (.lst xs)) (e : i = (n : Int)) (hn : n < xs.length) (hb : i < 2 ^ 63) (hv : xs[n]? = some v) (k : Q v (upd H l (.lst (xs.eraseIdx n)))) : rPopAt (.ref l) [.int i] H Q := by
  refine ⟨l, xs, i, n, v, rfl, rfl, h, by omega, hb, ?_, hv, k⟩
  subst e
  unfold seqIndex?
  have h1 : ¬ ((n : Int) < 0) := by omega
  have h2 : (n : Int) < (xs.length : Int) := by omega
  have h3 : (0 : Int) ≤ (n : Int) := by omega
  simp [h1, h2, h3]
/-! a walk over a list or a tuple -/
theorem pi_or {X : Cx} {tg e : Expr} {w1 w2 : TI} (h1 : PI X tg e w1) (h2 : PI X tg e w2) : PI X tg e (fun σ H R => w1 σ H R ∨ w2 σ H R) :=
  ⟨fun pins s σ H R I h => h.elim (h1.run pins s σ H R I) (h2.run pins s σ H R I)⟩
def iSeq (K : PySem.W.Frag) (te : TE) : TI := fun σ H R => iList K te σ H R ∨ iTup K te σ H R
theorem pi_seq {X : Cx} {tg e : Expr} {te : TE} (h : PE X e te) : PI X tg e (iSeq X.K te) := pi_or (pi_list h) (pi_tup h)
theorem q_iSeqL {R : It → Hp → Prop} (h : te σ H fun x H1 => ∃ a, x = .ref a ∧ (∃ xs, SqL K H1 a xs) ∧ R (Itl K a) H1) : iSeq K te σ H R := .inl h
theorem q_iSeqT {R : It → Hp → Prop} (h : te σ H fun x H1 => ∃ a, x = .ref a ∧ (∃ xs, SqT K H1 a xs) ∧ R (Itt K a) H1) : iSeq K te σ H R := .inr h
/-! a written dict -/
def pairsK (σ : L2.St) (r : List (TE × TE)) (x : V) (Q : List (V × V) → Hp → Prop) : VK := fun y H2 => tPairs r σ H2 fun ps H3 => Q ((x, y) :: ps) H3
theorem q_pairC {tk tv : TE} {r : List (TE × TE)} {R : List (V × V) → Hp → Prop} (h : tk σ H fun x H1 => tv σ H1 (pairsK σ r x R)) : tPairs ((tk, tv) :: r) σ H R := h
theorem q_pairsK {r : List (TE × TE)} {R : List (V × V) → Hp → Prop} (h : tPairs r σ H fun ps H3 => R ((x, y) :: ps) H3) : pairsK σ r x R y H := h
theorem q_pairN {R : List (V × V) → Hp → Prop} (h : R [] H) : tPairs [] σ H R := h
def dispK (Q : VK) (p : Addr) : List (V × V) → Hp → Prop := fun ps H2 => H2 p = some (.dK []) ∧ ∃ kvs : List (Key × V), ps = kvs.map (fun kv => (kV kv.1, kv.2)) ∧ kvs.length ≤ 15 ∧ Q (.ref p) (upd H2 p (.dK (mergeK [] kvs)))
theorem q_disp {trs : List (TE × TE)} (k : ∀ p, H p = none → tPairs trs σ (upd H p (.dK [])) (dispK Q p)) : tDisp trs σ H Q := k
theorem valV_cons {κ : Type} [DecidableEq κ] {kvs : List (κ × V)} {k k' : κ} {v : V} : valV ((k, v) :: kvs) k' = if k = k' then some v else valV kvs k' := by
  unfold valV
  rw [List.find?_cons]
  by_cases e : k = k'
  · rw [if_pos e, decide_eq_true e]; rfl
  · rw [if_neg e, decide_eq_false e]
theorem valV_nomem {κ : Type} [DecidableEq κ] {kvs : List (κ × V)} {k : κ} (h : k ∉ kvs.map (·.1)) : valV kvs k = none := by
  cases q : valV kvs k with
  | none => rfl
  | some v => exact absurd (valV_in q) h
theorem merge_app : ∀ (kvs acc : List (Key × V)), ((acc ++ kvs).map (·.1)).Nodup → mergeK acc kvs = acc ++ kvs
  | [], acc, _ => by rw [List.append_nil]; rfl
  | (k, v) :: r, acc, h => by
    have hk : k ∉ acc.map (·.1) := by
      rw [List.map_append] at h
      intro m
      exact (List.nodup_append.mp h).2.2 k m k (by simp) rfl
    show mergeK (putK acc k v) r = _
    rw [putK_new v (valV_nomem hk), merge_app r (acc ++ [(k, v)]) (by rw [List.append_assoc]; exact h), List.append_assoc]
    rfl
theorem q_dispK {kvs : List (Key × V)} {ps : List (V × V)} (h : H p = some (.dK [])) (e : ps = kvs.map (fun kv => (kV kv.1, kv.2))) (hl : kvs.length ≤ 15) (hn : (kvs.map (·.1)).Nodup) (k : Q (.ref p) (upd H p (.dK kvs))) : dispK Q p ps H :=
  ⟨h, kvs, e, hl, by rw [merge_app kvs [] hn]; exact k⟩
theorem q_slL {lo hi : Option Int} (h : SqL K H a xs) (k : ∀ p, H p = none → Q (.ref p) (upd H p (.lst (cutV xs lo hi)))) : rSlL K (.ref a) lo hi H Q := ⟨a, xs, rfl, h, k⟩
/-! attributes and methods -/
def fldK (K : PySem.W.Frag) (f : Str) (Q : VK) : VK := fun x H1 => ∃ a C dx fs v, x = .ref a ∧ H1 a = some (.ins C dx fs) ∧ Cls K C ∧ NoAttr K C f ∧ fs.lookup f = some v ∧ Q v H1
theorem q_fld {f : Str} (h : te σ H (fldK K f Q)) : tFld K te f σ H Q := h
theorem q_fldK {f : Str} {C dx : Addr} {fs : List (Str × V)} (h : H a = some (.ins C dx fs)) (hc : Cls K C) (hn : NoAttr K C f) (hl : fs.lookup f = some v) (k : Q v H) : fldK K f Q (.ref a) H := ⟨a, C, dx, fs, v, rfl, h, hc, hn, hl, k⟩
def fputK (K : PySem.W.Frag) (f : Str) (D : Ends) (σ : L2.St) (y : V) : VK := fun x H2 => ∃ a C dx fs, x = .ref a ∧ H2 a = some (.ins C dx fs) ∧ Cls K C ∧ NoAttr K C f ∧ fs.length < 1000 ∧ D.nx σ (upd H2 a (.ins C dx (putF f y fs)))
theorem q_sFld {f : Str} (h : tb σ H fun y H1 => te σ H1 (fputK K f D σ y)) : sFld K te tb f D σ H := h
theorem q_fputK {f : Str} {C dx : Addr} {fs : List (Str × V)} (h : H a = some (.ins C dx fs)) (hc : Cls K C) (hn : NoAttr K C f) (hl : fs.length < 1000) (k : D.nx σ (upd H a (.ins C dx (putF f y fs)))) : fputK K f D σ y (.ref a) H := ⟨a, C, dx, fs, rfl, h, hc, hn, hl, k⟩
def methK (m : Str) (C : Addr) (sp : Sp) (dvs : List V) (E : XK) (tr : TA) (σ : L2.St) (Q : VK) : VK := fun x H1 => ∃ a dx fs, x = .ref a ∧ H1 a = some (.ins C dx fs) ∧ fs.lookup m = none ∧ tr σ H1 fun vs H2 => sp (x :: (vs ++ dvs)) H2 Q E
theorem q_meth {m : Str} {C : Addr} {sp : Sp} {dvs : List V} {E : XK} (h : te σ H (methK m C sp dvs E tr σ Q)) : tMeth C m sp dvs E te tr σ H Q := h
def selfK (sp : Sp) (x : V) (E : XK) (Q : VK) : List V → Hp → Prop := fun vs H2 => sp (x :: vs) H2 Q E
theorem q_methK {m : Str} {C dx : Addr} {sp : Sp} {E : XK} {fs : List (Str × V)} (h : H a = some (.ins C dx fs)) (hn : fs.lookup m = none) (k : ∀ (R : List V → Hp → Prop), (∀ vs H2, sp (.ref a :: vs) H2 Q E → R vs H2) → tr σ H R) : methK m C sp [] E tr σ Q (.ref a) H :=
  ⟨a, dx, fs, rfl, h, hn, k _ fun vs H2 q => by rw [List.append_nil]; exact q⟩
theorem q_fldlen {f : Str} {fs : List (Str × V)} {y : V} {n : Nat} (h : fs.length ≤ n) : (putF f y fs).length ≤ n + 1 := by
  induction fs generalizing n with
  | nil => exact Nat.succ_le_succ (Nat.zero_le _)
  | cons p r ih =>
    obtain ⟨g, x⟩ := p
    show (if g = f then (g, y) :: r else (g, x) :: putF f y r).length ≤ n + 1
    by_cases e : g = f
    · rw [if_pos e]; exact Nat.le_succ_of_le h
    · rw [if_neg e]
      cases n with
      | zero => exact absurd h (by simp)
      | succ n => exact Nat.succ_le_succ (ih (Nat.le_of_succ_le_succ h))
theorem q_never {σ : L2.St} (h : False) : tNever D σ H := h
def mkK (C : Addr) (n m : Nat) (sp : Sp) (gV : List V → List V → List V) (E : XK) (vs : List V) (Q : VK) : List V → Hp → Prop := fun zs H2 => vs.length = n ∧ zs.length = m ∧ ∀ x dx, H2 x = none → H2 dx = none → dx ≠ x →
  sp (gV (.ref x :: vs) zs) (upd (upd H2 dx (.own x)) x (.ins C dx [])) (fun v H3 => v = .non ∧ Q (.ref x) H3) E
theorem q_makeK {C : Addr} {n m : Nat} {sp : Sp} {gV : List V → List V → List V} {E : XK} {tk : TA} (h : tr σ H fun vs H1 => tk σ H1 (mkK C n m sp gV E vs Q)) : tMakeK C n m sp gV E tr tk σ H Q := h
/-! comprehensions -/
def lcK (g : TG) (tt : TT) (te : TE) (vs : List Nat) (σ : L2.St) (Q : VK) : It → Hp → Prop := fun J H1 => ∀ D, H1 D = none → ∃ W : Nat → Nat → Hp → Prop, (∃ m, W 0 m (upd H1 D (.lst []))) ∧ ∀ i m H, W i m H →
  (J.stop i H ∧ Q (.ref D) H) ∨ (J.go i H ∧ ∃ Nx : Hp → Prop, (∀ H', Nx H' → ∃ m', m' < m ∧ W (i + 1) m' H') ∧ ∀ x H', J.yld i H x H' → g x (wipe σ vs) H' fun σ2 H2 => wipe σ2 vs = wipe σ vs ∧ tt σ2 H2 fun b H3 =>
    if b = true then te σ2 H3 fun y H4 => ∃ acc, H4 D = some (.lst acc) ∧ acc.length < sizeLine ∧ Nx (upd H4 D (.lst (acc ++ [y]))) else Nx H3)
theorem q_lc {wi : TI} {vs : List Nat} (h : wi σ H (lcK g tt te vs σ Q)) : tLc wi g tt te vs σ H Q := h
def keepK (te : TE) (σ : L2.St) (D : Addr) (Nx : Hp → Prop) : Bool → Hp → Prop := fun b H3 => if b = true then te σ H3 fun y H4 => ∃ acc, H4 D = some (.lst acc) ∧ acc.length < sizeLine ∧ Nx (upd H4 D (.lst (acc ++ [y]))) else Nx H3
def accK (D : Addr) (Nx : Hp → Prop) : VK := fun y H4 => ∃ acc, H4 D = some (.lst acc) ∧ acc.length < sizeLine ∧ Nx (upd H4 D (.lst (acc ++ [y])))
theorem q_keepT {Nx : Hp → Prop} (h : te σ H (accK l Nx)) : keepK te σ l Nx true H := iteT h
theorem q_keepF {Nx : Hp → Prop} (h : Nx H) : keepK te σ l Nx false H := iteF h
theorem q_keep2 {Nx : Hp → Prop} {c : Bool} (h : c = true → te σ H (accK l Nx)) (h2 : c = false → Nx H) : keepK te σ l Nx c H := by
  cases c with
  | true => exact iteT (h rfl)
  | false => exact iteF (h2 rfl)
theorem q_accK {Nx : Hp → Prop} (h : H l = some (.lst xs)) (hl : xs.length < sizeLine) (k : Nx (upd H l (.lst (xs ++ [y])))) : accK l Nx y H := ⟨xs, h, hl, k⟩
theorem q_lcL {S : List V} {vs : List Nat} (h : SqL K H a S) (k : ∀ D, H D = none → ∃ Pv : Nat → Hp → Prop, Pv 0 (upd H D (.lst [])) ∧ (∀ i H, i ≤ S.length → Pv i H → SqL K H a S) ∧
      (∀ i x H, S[i]? = some x → Pv i H → g x (wipe σ vs) H fun σ2 H2 => wipe σ2 vs = wipe σ vs ∧ tt σ2 H2 (keepK te σ2 D (Pv (i + 1)))) ∧ ∀ H, Pv S.length H → Q (.ref D) H) :
    ∃ b, V.ref a = .ref b ∧ (∃ xs, SqL K H b xs) ∧ lcK g tt te vs σ Q (Itl K b) H := ⟨a, rfl, ⟨S, h⟩, fun D hD => by
      obtain ⟨Pv, h0, hl, hs, hd⟩ := k D hD
      exact lc_list Pv h0 hl hs hd⟩
theorem q_lcT {S : List V} {vs : List Nat} (h : SqT K H a S) (k : ∀ D, H D = none → ∃ Pv : Nat → Hp → Prop, Pv 0 (upd H D (.lst [])) ∧ (∀ i H, i ≤ S.length → Pv i H → SqT K H a S) ∧
      (∀ i x H, S[i]? = some x → Pv i H → g x (wipe σ vs) H fun σ2 H2 => wipe σ2 vs = wipe σ vs ∧ tt σ2 H2 (keepK te σ2 D (Pv (i + 1)))) ∧ ∀ H, Pv S.length H → Q (.ref D) H) :
    ∃ b, V.ref a = .ref b ∧ (∃ xs, SqT K H b xs) ∧ lcK g tt te vs σ Q (Itt K b) H := ⟨a, rfl, ⟨S, h⟩, fun D hD => by
      obtain ⟨Pv, h0, hl, hs, hd⟩ := k D hD
      exact lc_tup Pv h0 hl hs hd⟩
theorem q_lcR {vs : List Nat} (hj : 0 ≤ j ∧ j < 1000000000000000) (k : ∀ D, H D = none → ∃ Pv : Nat → Hp → Prop, Pv 0 (upd H D (.lst [])) ∧
      (∀ (i : Nat) H, (i : Int) < j → Pv i H → g (.int i) (wipe σ vs) H fun σ2 H2 => wipe σ2 vs = wipe σ vs ∧ tt σ2 H2 (keepK te σ2 D (Pv (i + 1)))) ∧ ∀ H, Pv j.toNat H → Q (.ref D) H) :
    rg1K (lcK g tt te vs σ Q) [.int j] H := ⟨j, rfl, by omega, by omega, fun D hD => by
      obtain ⟨Pv, h0, hs, hd⟩ := k D hD
      refine lc_range Pv h0 (fun i H hi hp => ?_) hd
      have e : (0 : Int) + (i : Int) = (i : Int) := Int.zero_add _
      rw [e]
      exact hs i H (by omega) hp⟩
end

local macro_rules | `(tactic| walk_at "my_rd") => `(tactic| (repeat first
  | with_reducible refine q_tCons ?_
  | ((with_reducible apply q_var); (focus (exact rfl)))
  | with_reducible refine q_c ?_
  | with_reducible refine q_nx ?_
  | with_reducible refine q_bK ?_
  | with_reducible refine q_call ?_
  | with_reducible refine q_callK ?_
  | with_reducible refine q_tNil ?_
  | with_reducible refine q_cb ?_
  | with_reducible refine q_seq ?_
  | with_reducible refine q_asg ?_
  | with_reducible refine q_gName ?_
  | with_reducible refine q_op ?_
  | with_reducible refine q_test ?_
  | with_reducible refine q_tB ?_
  | with_reducible refine q_ifS ?_
  | with_reducible refine q_ret ?_
  | with_reducible refine q_rt ?_
  | with_reducible refine q_next ?_
  | with_reducible refine q_ifF ?_
  | with_reducible refine q_ifT ?_
  | with_reducible refine q_drop ?_
  | with_reducible refine q_and ?_
  | with_reducible refine q_or ?_
  | with_reducible refine q_andT ?_
  | with_reducible refine q_andF ?_
  | with_reducible refine q_orF ?_
  | with_reducible refine q_orT ?_
  | with_reducible refine q_andV ?_
  | with_reducible refine q_andVT ?_
  | with_reducible refine q_andVF ?_
  | with_reducible refine q_orV ?_
  | with_reducible refine q_gCons ?_
  | with_reducible refine q_gNil ?_
  | with_reducible refine q_tup ?_
  | with_reducible refine q_lst ?_
  | with_reducible refine q_not ?_
  | with_reducible refine q_notKT ?_
  | with_reducible refine q_notKF ?_
  | with_reducible refine q_I0 ?_
  | with_reducible refine q_eqI ?_
  | with_reducible refine q_neI ?_
  | ((with_reducible refine q_I ?_ ?_); first | decide | omega | exact ⟨by omega, by omega⟩ | exact ⟨by decide, by decide⟩ | exact .inl ⟨by omega, by omega⟩ | exact .inr ⟨by omega, by omega⟩ | exact .inr ⟨by decide, by decide⟩)
  | with_reducible refine q_eqS ?_
  | with_reducible refine q_neS ?_
  | with_reducible refine q_brk ?_
  | with_reducible refine q_ct ?_
  | with_reducible refine q_bk ?_
  | with_reducible refine q_cn ?_
  | with_reducible refine q_retN ?_
  | with_reducible refine q_gSub ?_
  | with_reducible refine q_for ?_
  | with_reducible refine q_iList ?_
  | with_reducible refine q_iTup ?_
  | with_reducible refine q_iRng1 ?_
  | with_reducible refine q_notK ?_
  | with_reducible refine q_orVT ?_
  | with_reducible refine q_orVF ?_
  | with_reducible refine q_notV ?_
  | with_reducible refine q_notVK ?_
  | with_reducible refine q_ifE ?_
  | with_reducible refine q_ifET ?_
  | with_reducible refine q_ifEF ?_
  | with_reducible refine q_yes ?_
  | with_reducible refine q_un ?_
  | with_reducible refine q_rU ?_
  | with_reducible refine q_abs ?_
  | with_reducible refine q_int1 ?_
  | with_reducible refine q_bm ?_
  | with_reducible refine q_bm0 ?_
  | with_reducible refine q_lc ?_
  | with_reducible refine q_keepT ?_
  | with_reducible refine q_keepF ?_
  | ((with_reducible apply q_aug); (focus (exact rfl)))
  | with_reducible refine q_ipI ?_
  | with_reducible refine q_chain ?_
  | with_reducible refine q_pairC ?_
  | with_reducible refine q_pairsK ?_
  | with_reducible refine q_pairN ?_
  | with_reducible refine q_fld ?_
  | with_reducible refine q_sFld ?_
  | with_reducible refine q_meth ?_
  | with_reducible refine q_makeK ?_
  | with_reducible refine q_isBl ?_
  | with_reducible refine q_notBl ?_
  | with_reducible refine q_sl ?_
  | with_reducible refine q_noPart ?_
  | with_reducible refine q_part ?_
  | with_reducible refine q_partK ?_
  | ((with_reducible apply q_mulStr); (focus (decide +kernel)))
  | with_reducible refine q_chT ?_
  | with_reducible refine q_chF ?_
  | with_reducible refine q_ord ?_
  | with_reducible refine q_iStr0 ?_
  | with_reducible refine q_iStr ?_
  | with_reducible refine q_tDIn ?_
  | with_reducible refine q_tDNotIn ?_
  | with_reducible refine q_tDGet ?_
  | with_reducible refine q_tDGet2 ?_
  | with_reducible refine q_tDGet1 ?_
  | with_reducible refine q_tDSetd ?_
  | ((with_reducible apply q_dG2a); (focus ((repeat first | (with_reducible exact upd_same) | (with_reducible assumption) | (with_reducible apply upd_new (by assumption)) | (with_reducible apply upd_other (by first | assumption | exact Ne.symm (by assumption))) | (with_reducible refine' Kp.get (by assumption) ?_ (by first | assumption | exact Ne.symm (by assumption))) | (with_reducible apply Same.get (by assumption))); done)))
  | ((with_reducible apply q_dSda); (focus ((repeat first | (with_reducible exact upd_same) | (with_reducible assumption) | (with_reducible apply upd_new (by assumption)) | (with_reducible apply upd_other (by first | assumption | exact Ne.symm (by assumption))) | (with_reducible refine' Kp.get (by assumption) ?_ (by first | assumption | exact Ne.symm (by assumption))) | (with_reducible apply Same.get (by assumption))); done)))
  | with_reducible refine q_sDPut ?_
  | ((with_reducible apply q_dInS); (focus ((repeat first | (with_reducible exact upd_same) | (with_reducible assumption) | (with_reducible apply upd_new (by assumption)) | (with_reducible apply upd_other (by first | assumption | exact Ne.symm (by assumption))) | (with_reducible refine' Kp.get (by assumption) ?_ (by first | assumption | exact Ne.symm (by assumption))) | (with_reducible apply Same.get (by assumption))); done)))
  | ((with_reducible apply q_dNInS); (focus ((repeat first | (with_reducible exact upd_same) | (with_reducible assumption) | (with_reducible apply upd_new (by assumption)) | (with_reducible apply upd_other (by first | assumption | exact Ne.symm (by assumption))) | (with_reducible refine' Kp.get (by assumption) ?_ (by first | assumption | exact Ne.symm (by assumption))) | (with_reducible apply Same.get (by assumption))); done)))
  | ((with_reducible apply q_dInI); (focus ((repeat first | (with_reducible exact upd_same) | (with_reducible assumption) | (with_reducible apply upd_new (by assumption)) | (with_reducible apply upd_other (by first | assumption | exact Ne.symm (by assumption))) | (with_reducible refine' Kp.get (by assumption) ?_ (by first | assumption | exact Ne.symm (by assumption))) | (with_reducible apply Same.get (by assumption))); done)))
  | ((with_reducible apply q_dNInI); (focus ((repeat first | (with_reducible exact upd_same) | (with_reducible assumption) | (with_reducible apply upd_new (by assumption)) | (with_reducible apply upd_other (by first | assumption | exact Ne.symm (by assumption))) | (with_reducible refine' Kp.get (by assumption) ?_ (by first | assumption | exact Ne.symm (by assumption))) | (with_reducible apply Same.get (by assumption))); done)))
  | ((with_reducible apply q_bmL); (focus ((repeat first | (with_reducible exact upd_same) | (with_reducible assumption) | (with_reducible apply upd_new (by assumption)) | (with_reducible apply upd_other (by first | assumption | exact Ne.symm (by assumption))) | (with_reducible refine' Kp.get (by assumption) ?_ (by first | assumption | exact Ne.symm (by assumption))) | (with_reducible apply Same.get (by assumption))); done)))
  | ((with_reducible apply q_bmL0); (focus ((repeat first | (with_reducible exact upd_same) | (with_reducible assumption) | (with_reducible apply upd_new (by assumption)) | (with_reducible apply upd_other (by first | assumption | exact Ne.symm (by assumption))) | (with_reducible refine' Kp.get (by assumption) ?_ (by first | assumption | exact Ne.symm (by assumption))) | (with_reducible apply Same.get (by assumption))); done)))
  | ((with_reducible apply q_ixLt); (focus ((repeat first | (with_reducible exact upd_same) | (with_reducible assumption) | (with_reducible apply upd_new (by assumption)) | (with_reducible apply upd_other (by first | assumption | exact Ne.symm (by assumption))) | (with_reducible refine' Kp.get (by assumption) ?_ (by first | assumption | exact Ne.symm (by assumption))) | (with_reducible apply Same.get (by assumption))); done)); (focus (exact rfl)))
  | ((with_reducible apply q_ixTt); (focus ((repeat first | (with_reducible exact upd_same) | (with_reducible assumption) | (with_reducible apply upd_new (by assumption)) | (with_reducible apply upd_other (by first | assumption | exact Ne.symm (by assumption))) | (with_reducible refine' Kp.get (by assumption) ?_ (by first | assumption | exact Ne.symm (by assumption))) | (with_reducible apply Same.get (by assumption))); done)); (focus (exact rfl)))
  | ((with_reducible apply q_lenLt); (focus ((repeat first | (with_reducible exact upd_same) | (with_reducible assumption) | (with_reducible apply upd_new (by assumption)) | (with_reducible apply upd_other (by first | assumption | exact Ne.symm (by assumption))) | (with_reducible refine' Kp.get (by assumption) ?_ (by first | assumption | exact Ne.symm (by assumption))) | (with_reducible apply Same.get (by assumption))); done)))
  | ((with_reducible apply q_lenTt); (focus ((repeat first | (with_reducible exact upd_same) | (with_reducible assumption) | (with_reducible apply upd_new (by assumption)) | (with_reducible apply upd_other (by first | assumption | exact Ne.symm (by assumption))) | (with_reducible refine' Kp.get (by assumption) ?_ (by first | assumption | exact Ne.symm (by assumption))) | (with_reducible apply Same.get (by assumption))); done)))
  | ((with_reducible apply q_append); (focus ((repeat first | (with_reducible exact upd_same) | (with_reducible assumption) | (with_reducible apply upd_new (by assumption)) | (with_reducible apply upd_other (by first | assumption | exact Ne.symm (by assumption))) | (with_reducible refine' Kp.get (by assumption) ?_ (by first | assumption | exact Ne.symm (by assumption))) | (with_reducible apply Same.get (by assumption))); done)); (focus ((first | (exact Nat.lt_of_ble_eq_true rfl) | (simp only [List.length_append, List.length_cons, List.length_nil, List.length_map]; exact small1000 (by omega))))))
  | ((with_reducible apply q_setL); (focus ((repeat first | (with_reducible exact upd_same) | (with_reducible assumption) | (with_reducible apply upd_new (by assumption)) | (with_reducible apply upd_other (by first | assumption | exact Ne.symm (by assumption))) | (with_reducible refine' Kp.get (by assumption) ?_ (by first | assumption | exact Ne.symm (by assumption))) | (with_reducible apply Same.get (by assumption))); done)); (focus (exact rfl)))
  | with_reducible refine q_ifNT ?_
  | with_reducible refine q_ifNF ?_
  | with_reducible refine q_andNT ?_
  | with_reducible refine q_andNF ?_
  | with_reducible refine q_orNT ?_
  | with_reducible refine q_orNF ?_
  | with_reducible refine q_bKNT ?_
  | with_reducible refine q_bKNF ?_))
def top (i : Nat) : Stmt := PySem.Challenge.pw_vaultbridge_k01_quorums_meet.main.body.getD i (.Pass ⟨0, 0, 0, 0⟩)
abbrev s_total : Stmt := top 1
theorem sc_total : FnScope ["guards", "_", "weight"] ["guards"] (defScope s_total) := ⟨rfl, rfl, rfl, by decide +kernel, rfl, by decide +kernel, by decide +kernel⟩
abbrev s_threshold : Stmt := top 2
theorem sc_threshold : FnScope ["guards"] ["guards"] (defScope s_threshold) := ⟨rfl, rfl, rfl, by decide +kernel, rfl, by decide +kernel, by decide +kernel⟩
abbrev s_minority : Stmt := top 3
theorem sc_minority : FnScope ["guards"] ["guards"] (defScope s_minority) := ⟨rfl, rfl, rfl, by decide +kernel, rfl, by decide +kernel, by decide +kernel⟩
abbrev s_L_pot : Stmt := top 5
theorem sc_L_pot : FnScope ["script", "seed", "cell"] ["script"] (defScope s_L_pot) := ⟨rfl, rfl, rfl, by decide +kernel, rfl, by decide +kernel, by decide +kernel⟩
abbrev s_L_next : Stmt := top 6
theorem sc_L_next : FnScope ["pot", "limit", "mixed", "cell", "found"] ["pot", "limit"] (defScope s_L_next) := ⟨rfl, rfl, rfl, by decide +kernel, rfl, by decide +kernel, by decide +kernel⟩
abbrev s_L_set : Stmt := top 7
theorem sc_L_set : FnScope ["pot", "most", "names", "found", "k"] ["pot", "most"] (defScope s_L_set) := ⟨rfl, rfl, rfl, by decide +kernel, rfl, by decide +kernel, by decide +kernel⟩
abbrev s_L_total : Stmt := top 8
theorem sc_L_total : FnScope ["guards", "pair"] ["guards"] (defScope s_L_total) := ⟨rfl, rfl, rfl, by decide +kernel, rfl, by decide +kernel, by decide +kernel⟩
abbrev s_L_group : Stmt := top 10
theorem sc_L_group : FnScope ["pot", "guards", "group", "pair"] ["pot", "guards"] (defScope s_L_group) := ⟨rfl, rfl, rfl, by decide +kernel, rfl, by decide +kernel, by decide +kernel⟩
abbrev s_law : Stmt := top 11
theorem sc_law : FnScope ["script", "pot", "guards", "whole", "first", "second", "common", "pair"] ["script"] (defScope s_law) := ⟨rfl, rfl, rfl, by decide +kernel, rfl, by decide +kernel, by decide +kernel⟩
structure Txt (K : PySem.W.Frag) (mg : Str → Option Value) where
  f_total : Addr
  d_total : FuncData
  F_total : Fun K "total" "total" s_total f_total d_total
  b_total : Binds K d_total ["guards"] []
  g_total : mg "total" = some (.ref f_total)
  f_threshold : Addr
  d_threshold : FuncData
  F_threshold : Fun K "threshold" "threshold" s_threshold f_threshold d_threshold
  b_threshold : Binds K d_threshold ["guards"] []
  g_threshold : mg "threshold" = some (.ref f_threshold)
  f_minority : Addr
  d_minority : FuncData
  F_minority : Fun K "minority" "minority" s_minority f_minority d_minority
  b_minority : Binds K d_minority ["guards"] []
  g_minority : mg "minority" = some (.ref f_minority)
  f_L_pot : Addr
  d_L_pot : FuncData
  F_L_pot : Fun K "_law_pot" "_law_pot" s_L_pot f_L_pot d_L_pot
  b_L_pot : Binds K d_L_pot ["script"] []
  g_L_pot : mg "_law_pot" = some (.ref f_L_pot)
  f_L_next : Addr
  d_L_next : FuncData
  F_L_next : Fun K "_law_next" "_law_next" s_L_next f_L_next d_L_next
  b_L_next : Binds K d_L_next ["pot", "limit"] []
  g_L_next : mg "_law_next" = some (.ref f_L_next)
  f_L_set : Addr
  d_L_set : FuncData
  F_L_set : Fun K "_law_set" "_law_set" s_L_set f_L_set d_L_set
  b_L_set : Binds K d_L_set ["pot", "most"] []
  g_L_set : mg "_law_set" = some (.ref f_L_set)
  f_L_total : Addr
  d_L_total : FuncData
  F_L_total : Fun K "_law_total" "_law_total" s_L_total f_L_total d_L_total
  b_L_total : Binds K d_L_total ["guards"] []
  g_L_total : mg "_law_total" = some (.ref f_L_total)
  f_L_group : Addr
  d_L_group : FuncData
  F_L_group : Fun K "_law_group" "_law_group" s_L_group f_L_group d_L_group
  b_L_group : Binds K d_L_group ["pot", "guards"] []
  g_L_group : mg "_law_group" = some (.ref f_L_group)
  f_law : Addr
  d_law : FuncData
  F_law : Fun K "law" "law" s_law f_law d_law
  b_law : Binds K d_law ["script"] []
  g_law : mg "law" = some (.ref f_law)
  z_abs : mg "abs" = none
  z_int : mg "int" = none
  z_len : mg "len" = none
  z_list : mg "list" = none
  z_range : mg "range" = none
  z_str : mg "str" = none
  z_sum : mg "sum" = none
  z_tuple : mg "tuple" = none
/-! the law's own numbers -/
def PotAt (H : Hp) (p l : Addr) : Prop := ∃ (ns : List Int) (i c s : Int), H p = some (.lst [.ref l, .int i, .int c, .int s]) ∧ H l = some (.lst (ns.map V.int)) ∧ 0 ≤ i ∧ 0 ≤ c ∧ 0 ≤ s ∧ s < 2147483647 ∧ ns.length ≤ 1000 ∧ p ≠ l
theorem PotAt.at {H : Hp} {p l : Addr} (h : PotAt H p l) : ∃ o, H p = some o := by
  obtain ⟨ns, i, c, s, h1, _⟩ := h; exact ⟨_, h1⟩
theorem PotAt.atl {H : Hp} {p l : Addr} (h : PotAt H p l) : ∃ o, H l = some o := by
  obtain ⟨ns, i, c, s, _, h1, _⟩ := h; exact ⟨_, h1⟩
theorem PotAt.same {H H' : Hp} {p l : Addr} (h : PotAt H p l) (e : Same H H') : PotAt H' p l := by
  obtain ⟨ns, i, c, s, h1, h2, r⟩ := h; exact ⟨ns, i, c, s, e _ _ h1, e _ _ h2, r⟩
theorem PotAt.upd {H : Hp} {p l a : Addr} {o : HO} (h : PotAt H p l) (n1 : a ≠ p) (n2 : a ≠ l) : PotAt (L2.upd H a o) p l := by
  obtain ⟨ns, i, c, s, h1, h2, r⟩ := h; exact ⟨ns, i, c, s, upd_other n1.symm h1, upd_other n2.symm h2, r⟩
theorem PotAt.new {H : Hp} {p l a : Addr} {o : HO} (h : PotAt H p l) (n : H a = none) : PotAt (L2.upd H a o) p l := by
  obtain ⟨ns, i, c, s, h1, h2, r⟩ := h; exact ⟨ns, i, c, s, upd_new n h1, upd_new n h2, r⟩
theorem PotAt.nep {H : Hp} {p l a : Addr} (h : PotAt H p l) (n : H a = none) : a ≠ p := by
  obtain ⟨o, h1⟩ := h.at; exact (ne_of_none h1 n).symm
theorem PotAt.nel {H : Hp} {p l a : Addr} (h : PotAt H p l) (n : H a = none) : a ≠ l := by
  obtain ⟨o, h1⟩ := h.atl; exact (ne_of_none h1 n).symm
def sp_pot (K : PySem.W.Frag) : Sp := fun vs H Q _ => ∃ (a : Addr) (ns : List Int), vs = [.ref a] ∧ SqL K H a (ns.map V.int) ∧ ns.length ≤ 63 ∧ ∀ (p l : Addr) (H' : Hp), H p = none → H l = none → PotAt H' p l → Same H H' → Q (.ref p) H'
def sp_next : Sp := fun vs H Q _ => ∃ (p l : Addr) (n : Int), vs = [.ref p, .int n] ∧ PotAt H p l ∧ 0 < n ∧ n < 1000000000 ∧ ∀ (r : Int) (H' : Hp), 0 ≤ r → r < n → PotAt H' p l → Kp p H H' → Q (.int r) H'
section
variable {P : Program} {w : World} {K : PySem.W.Frag} {mg : Str → Option Value} {base : Heap}
theorem map_at {ns : List Int} {i : Nat} {x : V} (h : (ns.map V.int)[i]? = some x) : ∃ z, x = .int z := by
  rw [List.getElem?_map] at h
  cases e : ns[i]? with
  | none => rw [e] at h; cases h
  | some z => rw [e] at h; exact ⟨z, (Option.some.inj h).symm⟩
theorem ok_L_pot (T : Txt K mg) : FnOk P w K mg base CX0 1 T.f_L_pot T.d_L_pot ["script"] (sp_pot K) := by
  refine T.F_L_pot.ok sc_L_pot (fun vs H Q E h => ?_) (fun cdv A outer s H vs Q E hr h => ?_)
  · obtain ⟨a, ns, rfl, _⟩ := h; rfl
  · obtain ⟨a, ns, rfl, hS, hlen, k⟩ := h
    refine ⟨_, (pss_cons (ps_set (i := 1) sc_L_pot.nd rfl (Or.inl rfl) pe_int)
      (pss_cons (ps_for PassesOwn.never rfl (pi_list (pv 0)) (pg_name (i := 2) sc_L_pot.nd rfl (Or.inl rfl))
        (pss_one (ps_set (i := 1) sc_L_pot.nd rfl (Or.inl rfl) (pe_op op_mod (pe_callTy cq_int1 (by rfl) T.z_int boot_int (pa_cons (pe_op op_add (pe_op op_mul (pv 1) pe_int) (pv 2)) pa_nil)) pe_int))))
      (pss_one (ps_ret (pe_lst (pa_cons (pe_callTy cq_listOf (by rfl) T.z_list boot_list (pa_cons (pv 0) pa_nil)) (pa_cons pe_int (pa_cons pe_int (pa_cons (pv 1) pa_nil))))))))), ?_⟩
    (dsimp only [cxOf, Cx.nox, Cx.wish, L2.start, List.map, List.length, List.replicate, List.cons_append, List.nil_append, List.append_eq, Nat.reduceSub, Nat.reduceAdd])
    walk_at "my_rd"
    refine q_forL hS (fun i σ H2 => ∃ (z : Int) (v : Option V), σ = [some (.ref a), some (.int z), v] ∧ H2 = H ∧ 0 ≤ z ∧ z < 2147483647) ⟨1, none, rfl, rfl, by omega, by omega⟩ (fun i σ H2 _ ⟨_, _, _, e, _⟩ => e ▸ hS) ?_ ?_
    · rintro i x σ H2 hx ⟨z, v, rfl, rfl, h0, h1⟩
      obtain ⟨y, rfl⟩ := map_at hx
      walk_at "my_rd"
      exact ⟨_, _, rfl, rfl, Int.emod_nonneg _ (by decide), Int.emod_lt_of_pos _ (by decide)⟩
    · rintro σ H2 ⟨z, v, rfl, rfl, h0, h1⟩
      walk_at "my_rd"
      refine q_listL hS fun l nl => ?_
      walk_at "my_rd"
      refine q_lstK (Nat.le_of_ble_eq_true rfl) fun p np => ?_
      walk_at "my_rd"
      refine k p l _ (upd_none_back np) nl ⟨ns, 0, 0, z, upd_same, upd_new np upd_same, by omega, by omega, h0, h1, by omega, ?_⟩ (Same.new (Same.new (Same.refl _) nl) (upd_none_back np))
      exact upd_none_ne np
theorem ok_L_next (T : Txt K mg) : FnOk P w K mg base CX0 1 T.f_L_next T.d_L_next ["pot", "limit"] sp_next := by
  refine T.F_L_next.ok sc_L_next (fun vs H Q E h => ?_) (fun cdv A outer s H vs Q E hr h => ?_)
  · obtain ⟨p, l, n, rfl, _⟩ := h; rfl
  · obtain ⟨p, l, n, rfl, ⟨ns, i, c, z, hp, hl, hi, hc, hz0, hz1, hns, hpl⟩, hn, hn2, k⟩ := h
    refine ⟨_, (Evl.pss_cut (ps_if (PW.pt (pw_and (pt_cmpR op_eq (pe_ix ix_list (pv 0) pe_int (fun _ _ => rfl)) pe_int (nomark _)) (pw_and1 (pt_cmpR op_lt (pe_ix ix_list (pv 0) pe_int (fun _ _ => rfl)) (pe_callB cq_len (by rfl) T.z_len boot_len (pa_cons (pe_ix ix_list (pv 0) pe_int (fun _ _ => rfl)) pa_nil)) (nomark _))))) (pss_cons (ps_set (i := 3) sc_L_next.nd rfl (Or.inl rfl) (pe_callB cq_abs (by rfl) T.z_abs boot_abs (pa_cons (pe_callTy cq_int1 (by rfl) T.z_int boot_int (pa_cons (pe_ix ix_list (pe_ix ix_list (pv 0) pe_int (fun _ _ => rfl)) (pe_ix ix_list (pv 0) pe_int (fun _ _ => rfl)) (fun _ _ => rfl)) pa_nil)) pa_nil)))
      (pss_cons (ps_asg (pe_op op_add (pe_ix ix_list (pv 0) pe_int (fun _ _ => rfl)) pe_int) (pg_sub (pv 0) pe_int set_list))
      (pss_cons (ps_if (pt_cmpR op_lt (pv 3) (pe_op op_pow pe_int pe_int) (nomark _)) (pss_one (ps_ret (pe_op op_mod (pe_callTy cq_int1 (by rfl) T.z_int boot_int (pa_cons (pv 3) pa_nil)) (pv 1)))) pss_nil)
      (pss_one (ps_asg (pv 3) (pg_sub (pv 0) pe_int set_list)))))) pss_nil)
      (pss_cons (ps_if (pt_cmpR op_gt (pe_ix ix_list (pv 0) pe_int (fun _ _ => rfl)) pe_int (nomark _)) (pss_cons (ps_set (i := 4) sc_L_next.nd rfl (Or.inl rfl) (pe_op op_mod (pe_callTy cq_int1 (by rfl) T.z_int boot_int (pa_cons (pe_ix ix_list (pv 0) pe_int (fun _ _ => rfl)) pa_nil)) (pv 1)))
      (pss_cons (ps_asg (pe_op op_fdiv (pe_ix ix_list (pv 0) pe_int (fun _ _ => rfl)) (pv 1)) (pg_sub (pv 0) pe_int set_list))
      (pss_one (ps_ret (pv 4))))) pss_nil)
      (pss_cons (ps_asg (pe_op op_mod (pe_callTy cq_int1 (by rfl) T.z_int boot_int (pa_cons (pe_op op_add (pe_op op_mul (pe_ix ix_list (pv 0) pe_int (fun _ _ => rfl)) pe_int) pe_int) pa_nil)) pe_int) (pg_sub (pv 0) pe_int set_list))
      (pss_cons (ps_set (i := 2) sc_L_next.nd rfl (Or.inl rfl) (pe_op op_mod (pe_callTy cq_int1 (by rfl) T.z_int boot_int (pa_cons (pe_op op_add (pe_op op_mul (pe_ix ix_list (pv 0) pe_int (fun _ _ => rfl)) pe_int) (pe_op op_fdiv (pe_ix ix_list (pv 0) pe_int (fun _ _ => rfl)) pe_int)) pa_nil)) pe_int))
      (pss_one (ps_ret (pe_op op_mod (pe_callTy cq_int1 (by rfl) T.z_int boot_int (pa_cons (pv 2) pa_nil)) (pv 1)))))))), ?_⟩
    (dsimp only [cxOf, Cx.nox, Cx.wish, L2.start, List.map, List.length, List.replicate, List.cons_append, List.nil_append, List.append_eq, Nat.reduceSub, Nat.reduceAdd])
    refine q_cut (Mid := fun σ' H' => ∃ (cell : Option V) (i c : Int), σ' = [some (.ref p), some (.int n), none, cell, none] ∧ H' p = some (.lst [.ref l, .int i, .int c, .int z]) ∧ H' l = some (.lst (ns.map V.int)) ∧ 0 ≤ i ∧ 0 ≤ c ∧ Kp p H H') ?_ ?_
    · walk_at "my_rd"
      refine q_and2 (fun h1 => ?_) (fun _ => ?_)
      · walk_at "my_rd"
        refine q_if2 (fun h2 => ?_) (fun _ => ?_)
        · have h2 := dec_t h2
          rw [List.length_map] at h2
          have hi2 : i.toNat < ns.length := by omega
          have ha : atI (ns.map V.int) i = some (V.int ns[i.toNat]) := at_int (n := i.toNat) (by omega) (by rw [List.getElem?_map, List.getElem?_eq_getElem hi2]; rfl)
          walk_at "my_rd"
          refine q_ixLt hl ha ?_
          walk_at "my_rd"
          refine q_if2 (fun h3 => ?_) (fun h3 => ?_)
          · walk_at "my_rd"
            refine k _ _ (Int.emod_nonneg _ (by omega)) (Int.emod_lt_of_pos _ hn) ⟨ns, i + 1, c, z, upd_same, upd_other hpl.symm hl, by omega, hc, hz0, hz1, hns, hpl⟩ (Kp.upd Kp.refl)
          · walk_at "my_rd"
            refine ⟨_, i + 1, _, rfl, upd_same, upd_other hpl.symm (upd_other hpl.symm hl), by omega, ?_, Kp.upd (Kp.upd Kp.refl)⟩
            split <;> omega
        · walk_at "my_rd"
          exact ⟨none, i, c, rfl, hp, hl, hi, hc, Kp.refl⟩
      · walk_at "my_rd"
        exact ⟨none, i, c, rfl, hp, hl, hi, hc, Kp.refl⟩
    · clear hp hl hi hc i c
      rintro σ' H2 ⟨cell, i, c, rfl, hp, hl, hi, hc, kp⟩
      walk_at "my_rd"
      refine q_if2 (fun h1 => ?_) (fun h1 => ?_)
      · have h1 := dec_t h1
        walk_at "my_rd"
        refine k _ _ (Int.emod_nonneg _ (by omega)) (Int.emod_lt_of_pos _ hn) ⟨ns, i, c / n, z, upd_same, upd_other hpl.symm hl, hi, Int.ediv_nonneg hc (by omega), hz0, hz1, hns, hpl⟩ (Kp.upd kp)
      · walk_at "my_rd"
        refine k _ _ (Int.emod_nonneg _ (by omega)) (Int.emod_lt_of_pos _ hn) ⟨ns, i, c, _, upd_same, upd_other hpl.symm hl, hi, hc, Int.emod_nonneg _ (by decide), Int.emod_lt_of_pos _ (by decide), hns, hpl⟩ (Kp.upd kp)
end

/-! sets of guards as data: names with weights -/
abbrev Gs := List (Str × Int)
def wsum (gs : Gs) : Int := (gs.map (·.2)).sum
structure PairsAt (H : Hp) (xs : List V) (gs : Gs) : Prop where
  len : xs.length = gs.length
  at_ : ∀ (i : Nat) (g : Str × Int), gs[i]? = some g → ∃ a, xs[i]? = some (.ref a) ∧ H a = some (.tup [.str g.1, .int g.2])
theorem PairsAt.nil {H : Hp} : PairsAt H [] [] := ⟨rfl, fun i g h => by simp at h⟩
theorem PairsAt.mono {H H' : Hp} {xs : List V} {gs : Gs} (h : PairsAt H xs gs) (e : ∀ b ys, H b = some (.tup ys) → H' b = some (.tup ys)) : PairsAt H' xs gs :=
  ⟨h.len, fun i g hg => by obtain ⟨a, h1, h2⟩ := h.at_ i g hg; exact ⟨a, h1, e _ _ h2⟩⟩
theorem PairsAt.same {H H' : Hp} {xs : List V} {gs : Gs} (h : PairsAt H xs gs) (e : Same H H') : PairsAt H' xs gs := h.mono fun b ys q => e b _ q
theorem PairsAt.item {H : Hp} {xs : List V} {gs : Gs} (h : PairsAt H xs gs) {i : Nat} {x : V} (hx : xs[i]? = some x) : ∃ g a, gs[i]? = some g ∧ x = .ref a ∧ H a = some (.tup [.str g.1, .int g.2]) := by
  have hi : i < gs.length := by rw [← h.len]; exact (List.getElem?_eq_some_iff.mp hx).1
  obtain ⟨a, h1, h2⟩ := h.at_ i gs[i] (List.getElem?_eq_getElem hi)
  exact ⟨gs[i], a, List.getElem?_eq_getElem hi, Option.some.inj (hx.symm.trans h1), h2⟩
theorem PairsAt.snoc {H : Hp} {xs : List V} {gs : Gs} {a : Addr} {g : Str × Int} (h : PairsAt H xs gs) (ha : H a = some (.tup [.str g.1, .int g.2])) : PairsAt H (xs ++ [.ref a]) (gs ++ [g]) := by
  refine ⟨by rw [List.length_append, List.length_append, h.len]; rfl, fun i g' hg => ?_⟩
  by_cases hi : i < gs.length
  · rw [List.getElem?_append_left hi] at hg
    rw [List.getElem?_append_left (by rw [h.len]; exact hi)]
    exact h.at_ i g' hg
  · have hi' : i = gs.length := by
      have := (List.getElem?_eq_some_iff.mp hg).1
      rw [List.length_append] at this
      simp at this
      omega
    subst hi'
    rw [List.getElem?_append_right (Nat.le_refl _)] at hg
    simp at hg
    subst hg
    refine ⟨a, ?_, ha⟩
    rw [List.getElem?_append_right (by rw [h.len]; exact Nat.le_refl _), h.len]
    simp
theorem take_snoc {α : Type} {l : List α} {i : Nat} {x : α} (h : l[i]? = some x) : l.take (i + 1) = l.take i ++ [x] := by
  rw [List.take_add_one, h]; rfl
theorem wsum_snoc (gs : Gs) (g : Str × Int) : wsum (gs ++ [g]) = wsum gs + g.2 := by
  unfold wsum; rw [List.map_append, List.sum_append]; simp
theorem wsum_nonneg {gs : Gs} (h : ∀ g ∈ gs, 1 ≤ g.2) : 0 ≤ wsum gs := by
  induction gs with
  | nil => exact Int.le_refl _
  | cons g r ih =>
    have h1 := h g (List.mem_cons_self ..)
    have h2 := ih fun x hx => h x (List.mem_cons_of_mem _ hx)
    show 0 ≤ (g.2 :: r.map (·.2)).sum
    rw [List.sum_cons]
    have h3 : 0 ≤ (r.map (·.2)).sum := h2
    omega
theorem wsum_pos {gs : Gs} (h : ∀ g ∈ gs, 1 ≤ g.2) (hn : gs ≠ []) : 1 ≤ wsum gs := by
  cases gs with
  | nil => exact absurd rfl hn
  | cons g r =>
    have h1 := h g (List.mem_cons_self ..)
    have h2 : 0 ≤ wsum r := wsum_nonneg fun x hx => h x (List.mem_cons_of_mem _ hx)
    show 1 ≤ (g.2 :: r.map (·.2)).sum
    rw [List.sum_cons]
    have h3 : 0 ≤ (r.map (·.2)).sum := h2
    omega
theorem wsum_le {gs : Gs} {m : Int} (h : ∀ g ∈ gs, g.2 ≤ m) : wsum gs ≤ m * gs.length := by
  induction gs with
  | nil => show (0 : Int) ≤ m * 0; omega
  | cons g r ih =>
    have h1 := h g (List.mem_cons_self ..)
    have h2 := ih fun x hx => h x (List.mem_cons_of_mem _ hx)
    have e : wsum (g :: r) = g.2 + wsum r := by show (g.2 :: r.map (·.2)).sum = _; rw [List.sum_cons]; rfl
    rw [e, List.length_cons, Int.natCast_add, Int.mul_add]
    omega
def thr (gs : Gs) : Int := wsum gs * 2 / 3 + 1
/-- a set's total, its bounds -/
structure GsOk (gs : Gs) : Prop where
  pos : ∀ g ∈ gs, 1 ≤ g.2
  top : ∀ g ∈ gs, g.2 ≤ 1000000
  few : gs.length ≤ 1000
theorem GsOk.lo {gs : Gs} (h : GsOk gs) : 0 ≤ wsum gs := wsum_nonneg h.pos
theorem GsOk.hi {gs : Gs} (h : GsOk gs) : wsum gs ≤ 1000000000 := by
  have h1 := wsum_le h.top
  have h2 := h.few
  omega
theorem GsOk.take {gs : Gs} (h : GsOk gs) (i : Nat) : GsOk (gs.take i) :=
  ⟨fun g hg => h.pos g (List.mem_of_mem_take hg), fun g hg => h.top g (List.mem_of_mem_take hg), by rw [List.length_take]; have := h.few; omega⟩
def sp_total (K : PySem.W.Frag) : Sp := fun vs H Q _ => ∃ (a : Addr) (xs : List V) (gs : Gs), vs = [.ref a] ∧ SqT K H a xs ∧ PairsAt H xs gs ∧ GsOk gs ∧ ∀ H', Same H H' → Q (.int (wsum gs)) H'
def sp_threshold (K : PySem.W.Frag) : Sp := fun vs H Q _ => ∃ (a : Addr) (xs : List V) (gs : Gs), vs = [.ref a] ∧ SqT K H a xs ∧ PairsAt H xs gs ∧ GsOk gs ∧ ∀ H', Same H H' → Q (.int (thr gs)) H'
def sp_minority (K : PySem.W.Frag) : Sp := fun vs H Q _ => ∃ (a : Addr) (xs : List V) (gs : Gs), vs = [.ref a] ∧ SqT K H a xs ∧ PairsAt H xs gs ∧ GsOk gs ∧ ∀ H', Same H H' → Q (.int (wsum gs - thr gs + 1)) H'
section
variable {P : Program} {w : World} {K : PySem.W.Frag} {mg : Str → Option Value} {base : Heap}
theorem ok_total (T : Txt K mg) : FnOk P w K mg base CX0 1 T.f_total T.d_total ["guards"] (sp_total K) := by
  refine T.F_total.ok sc_total (fun vs H Q E h => ?_) (fun cdv A outer s H vs Q E hr h => ?_)
  · obtain ⟨a, xs, gs, rfl, _⟩ := h; rfl
  · obtain ⟨a, xs, gs, rfl, hT, hP, hG, k⟩ := h
    refine ⟨_, (pss_one (ps_ret (pe_callB (cr_sum rfl) (by rfl) T.z_sum boot_sum (pa_cons (pe_lc (own := [("_", 1), ("weight", 2)]) (g := (gTup K 2 (gCons (gName 1) (gCons (gName 2) gNil)))) (tt := tYes) (te := (tVar 2)) rfl sc_total.nd (pi_tup (pv 0)) (blkOk_by (own := [("_", 1), ("weight", 2)]) (N := ["guards", "_", "weight"]) (sc := defScope s_total) (by decide +kernel)) (fun _ _ _ _ _ => (pg_tup rfl (pgs_cons (pg_name (i := 1) sc_total.nd rfl (Or.inl rfl)) (pgs_cons (pg_name (i := 2) sc_total.nd rfl (Or.inl rfl)) pgs_nil)))) (fun _ _ _ _ _ => pts_nil) (fun _ _ _ _ _ => (pv 2))) pa_nil)))), ?_⟩
    (dsimp only [cxOf, Cx.nox, Cx.wish, L2.start, List.map, List.length, List.replicate, List.cons_append, List.nil_append, List.append_eq, Nat.reduceSub, Nat.reduceAdd])
    walk_at "my_rd"
    refine q_lcT hT (fun D nD => ⟨fun i H2 => Same H H2 ∧ H2 D = some (.lst (((gs.take i).map (·.2)).map V.int)), ⟨Same.new (Same.refl _) nD, upd_same⟩, fun i H2 _ h => Same.sqT h.1 hT, ?_, ?_⟩)
    · rintro i x H2 hx ⟨sm, hD⟩
      obtain ⟨g, b, hg, rfl, hb⟩ := hP.item hx
      refine q_gTup (sqT (sm _ _ hb)) rfl ?_
      walk_at "my_rd"
      refine ⟨rfl, ?_⟩
      walk_at "my_rd"
      refine q_accK hD (by rw [List.length_map, List.length_map, List.length_take]; exact small1000 (by have := hG.few; omega)) ⟨Same.new sm nD, ?_⟩
      rw [upd_same, take_snoc hg, List.map_append, List.map_append]
      rfl
    · rintro H2 ⟨sm, hD⟩
      have e : gs.take xs.length = gs := List.take_of_length_le (by rw [hP.len]; exact Nat.le_refl _)
      rw [e] at hD
      walk_at "my_rd"
      refine q_sum (sqL hD) ?_
      walk_at "my_rd"
      exact k H2 sm
theorem ok_threshold (T : Txt K mg) : FnOk P w K mg base CX0 2 T.f_threshold T.d_threshold ["guards"] (sp_threshold K) := by
  refine T.F_threshold.ok sc_threshold (fun vs H Q E h => ?_) (fun cdv A outer s H vs Q E hr h => ?_)
  · obtain ⟨a, xs, gs, rfl, _⟩ := h; rfl
  · obtain ⟨a, xs, gs, rfl, hT, hP, hG, k⟩ := h
    have h0 := hG.lo
    have h1 := hG.hi
    refine ⟨_, (pss_one (ps_ret (pe_op op_add (pe_op op_fdiv (pe_op op_mul (pe_call (ok_total T) (hr.mono (by decide)) (by rfl) T.g_total T.F_total.kp T.b_total .nil pass0 (pa_cons (pv 0) pa_nil)) pe_int) pe_int) pe_int))), ?_⟩
    (dsimp only [cxOf, Cx.nox, Cx.wish, L2.start, List.map, List.length, List.replicate, List.cons_append, List.nil_append, List.append_eq, Nat.reduceSub, Nat.reduceAdd])
    walk_at "my_rd"
    refine ⟨a, xs, gs, rfl, hT, hP, hG, fun H2 sm => ?_⟩
    walk_at "my_rd"
    exact k H2 sm
theorem ok_minority (T : Txt K mg) : FnOk P w K mg base CX0 3 T.f_minority T.d_minority ["guards"] (sp_minority K) := by
  refine T.F_minority.ok sc_minority (fun vs H Q E h => ?_) (fun cdv A outer s H vs Q E hr h => ?_)
  · obtain ⟨a, xs, gs, rfl, _⟩ := h; rfl
  · obtain ⟨a, xs, gs, rfl, hT, hP, hG, k⟩ := h
    refine ⟨_, (pss_one (ps_ret (pe_op op_add (pe_op op_sub (pe_call (ok_total T) (hr.mono (by decide)) (by rfl) T.g_total T.F_total.kp T.b_total .nil pass0 (pa_cons (pv 0) pa_nil)) (pe_call (ok_threshold T) (hr.mono (by decide)) (by rfl) T.g_threshold T.F_threshold.kp T.b_threshold .nil pass0 (pa_cons (pv 0) pa_nil))) pe_int))), ?_⟩
    (dsimp only [cxOf, Cx.nox, Cx.wish, L2.start, List.map, List.length, List.replicate, List.cons_append, List.nil_append, List.append_eq, Nat.reduceSub, Nat.reduceAdd])
    walk_at "my_rd"
    refine ⟨a, xs, gs, rfl, hT, hP, hG, fun H2 sm => ?_⟩
    walk_at "my_rd"
    refine ⟨a, xs, gs, rfl, Same.sqT sm hT, hP.same sm, hG, fun H3 sm2 => ?_⟩
    walk_at "my_rd"
    exact k H3 (sm.trans sm2)
end

/-! the law's sets -/
def nm (k : Nat) : Str := ("g" : Str) ++ (toString (k : Int) : Str)
def allNames : List Str := (List.range 7).map nm
theorem allNames_nodup : allNames.Nodup := by decide +kernel
theorem allNames_len : allNames.length = 7 := rfl
/-- a drawn set -/
structure Drawn (gs : Gs) : Prop where
  ne : gs ≠ []
  few : gs.length ≤ 7
  nd : (gs.map (·.1)).Nodup
  nms : ∀ g ∈ gs, g.1 ∈ allNames
  pos : ∀ g ∈ gs, 1 ≤ g.2
  top : ∀ g ∈ gs, g.2 ≤ 50
theorem Drawn.ok {gs : Gs} (h : Drawn gs) : GsOk gs := ⟨h.pos, fun g hg => by have := h.top g hg; omega, by have := h.few; omega⟩
def sp_Lset : Sp := fun vs H Q _ => ∃ (p l : Addr) (m : Int), vs = [.ref p, .int m] ∧ PotAt H p l ∧ 0 < m ∧ m ≤ 7 ∧ ∀ (a : Addr) (xs : List V) (gs : Gs) (H' : Hp), H a = none → H' a = some (.tup xs) → PairsAt H' xs gs → Drawn gs → (gs.length : Int) ≤ m → PotAt H' p l → Kp p H H' → Q (.ref a) H'
theorem perm_eraseIdx {α : Type} : ∀ {l : List α} {n : Nat} {x : α}, l[n]? = some x → (x :: l.eraseIdx n).Perm l
  | [], _, _, h => by simp at h
  | a :: r, 0, x, h => by
    have e : a = x := Option.some.inj h
    subst e
    exact List.Perm.refl _
  | a :: r, n + 1, x, h => by
    have ih := perm_eraseIdx (l := r) (n := n) (x := x) h
    show (x :: a :: r.eraseIdx n).Perm (a :: r)
    exact (List.Perm.swap a x _).trans (List.Perm.cons a ih)
theorem map_erase {α β : Type} (f : α → β) : ∀ (l : List α) (n : Nat), (l.map f).eraseIdx n = (l.eraseIdx n).map f
  | [], _ => rfl
  | _ :: _, 0 => rfl
  | a :: r, n + 1 => by
    show f a :: (r.map f).eraseIdx n = f a :: (r.eraseIdx n).map f
    rw [map_erase f r n]
theorem PairsAt.updL {H : Hp} {xs zs ys : List V} {gs : Gs} {F : Addr} (h : PairsAt H xs gs) (hF : H F = some (.lst ys)) : PairsAt (upd H F (.lst zs)) xs gs :=
  h.mono fun b ws q => upd_other (ne_of q hF (by intro z; cases z)) q
theorem PairsAt.new {H : Hp} {xs : List V} {gs : Gs} {F : Addr} {o : HO} (h : PairsAt H xs gs) (hF : H F = none) : PairsAt (upd H F o) xs gs :=
  h.mono fun b ws q => upd_new hF q
theorem PairsAt.kp {H H' : Hp} {xs : List V} {gs : Gs} {p l : Addr} (h : PairsAt H xs gs) (pot : PotAt H p l) (kp : Kp p H H') : PairsAt H' xs gs :=
  h.mono fun b ws q => by
    obtain ⟨ns, i, c, s, h1, _⟩ := pot
    exact kp _ _ q (ne_of q h1 (by intro z; cases z))
theorem nm_short : ∀ k : Nat, k < 7 → (Str.ofString (toString (k : Int))).length ≤ 5 := by decide +kernel
theorem names_pop {gn ss : List Str} {x : Str} {n : Nat} (hx : ss[n]? = some x) (h : (gn ++ ss).Nodup) : ((gn ++ [x]) ++ ss.eraseIdx n).Nodup := by
  obtain ⟨hn, e⟩ := List.getElem?_eq_some_iff.mp hx
  have hp : (x :: ss.eraseIdx n).Perm ss := perm_eraseIdx hx
  rw [List.append_assoc]
  exact (List.Perm.append_left gn hp).nodup_iff.mpr h
section
variable {P : Program} {w : World} {K : PySem.W.Frag} {mg : Str → Option Value} {base : Heap}
theorem ok_L_set (T : Txt K mg) : FnOk P w K mg base CX0 2 T.f_L_set T.d_L_set ["pot", "most"] sp_Lset := by
  refine T.F_L_set.ok sc_L_set (fun vs H Q E h => ?_) (fun cdv A outer s H vs Q E hr h => ?_)
  · obtain ⟨p, l, m, rfl, _⟩ := h; rfl
  · obtain ⟨p, l, m, rfl, pot, hm, hm7, k⟩ := h
    refine ⟨_, (pss_cons (ps_setLc (i := 2) (own := [("k", 4)]) (g := (gName 4)) (tt := tYes) (te := (tOp rAddStr (tC (.str "g")) (tCB rStrInt (tCons (tVar 4) tNil)))) rfl sc_L_set.nd rfl rfl (sw_true rfl rfl rfl (by decide +kernel)) (pi_range1 (by rfl) T.z_range (pa_cons pe_int pa_nil)) (blkOk_by (own := [("k", 4)]) (N := ["pot", "most", "names", "found", "k"]) (sc := defScope s_L_set) (by decide +kernel)) (fun _ _ _ _ _ => (pg_name (i := 4) sc_L_set.nd rfl (Or.inl rfl))) (fun _ _ _ _ _ => pts_nil) (fun _ _ _ _ _ => (pe_op oq_addStr pe_str (pe_callTy cq_strInt (by rfl) T.z_str boot_str (pa_cons (pv 4) pa_nil)))))
      (pss_cons (ps_set (i := 3) sc_L_set.nd rfl (Or.inl rfl) (pe_lst pa_nil))
      (pss_cons (ps_for PassesOwn.never rfl (pi_range1 (by rfl) T.z_range (pa_cons (pe_op op_add pe_int (pe_call (ok_L_next T) (hr.mono (by decide)) (by rfl) T.g_L_next T.F_L_next.kp T.b_L_next .nil pass0 (pa_cons (pv 0) (pa_cons (pv 1) pa_nil)))) pa_nil)) (pg_name (i := 4) sc_L_set.nd rfl (Or.inl rfl))
        (pss_one (ps_expr (pe_bm PySem.F.plainAttrs_list PySem.F.slot_list_append PySem.F.type_list_append mt_append (pv 3) (pa_cons (pe_tup (pa_cons (pe_bm PySem.F.plainAttrs_list PySem.F.slot_list_pop PySem.F.type_list_pop mt_popAt (pv 2) (pa_cons (pe_call (ok_L_next T) (hr.mono (by decide)) (by rfl) T.g_L_next T.F_L_next.kp T.b_L_next .nil pass0 (pa_cons (pv 0) (pa_cons (pe_callB cq_len (by rfl) T.z_len boot_len (pa_cons (pv 2) pa_nil)) pa_nil))) pa_nil)) (pa_cons (pe_op op_add pe_int (pe_call (ok_L_next T) (hr.mono (by decide)) (by rfl) T.g_L_next T.F_L_next.kp T.b_L_next .nil pass0 (pa_cons (pv 0) (pa_cons (pe_ix ix_list (pe_lst (pa_cons pe_int (pa_cons pe_int (pa_cons pe_int pa_nil)))) (pe_call (ok_L_next T) (hr.mono (by decide)) (by rfl) T.g_L_next T.F_L_next.kp T.b_L_next .nil pass0 (pa_cons (pv 0) (pa_cons pe_int pa_nil))) (fun _ _ => rfl)) pa_nil)))) pa_nil))) pa_nil)))))
      (pss_one (ps_ret (pe_callTy cq_tupOf (by rfl) T.z_tuple boot_tuple (pa_cons (pv 3) pa_nil))))))), ?_⟩
    (dsimp only [cxOf, Cx.nox, Cx.wish, L2.start, List.map, List.length, List.replicate, List.cons_append, List.nil_append, List.append_eq, Nat.reduceSub, Nat.reduceAdd])
    walk_at "my_rd"
    refine q_lcR ⟨by decide, by decide⟩ (fun N nN => ⟨fun i H2 => Same H H2 ∧ H2 N = some (.lst (((List.range i).map nm).map V.str)), ⟨Same.new (Same.refl _) nN, upd_same⟩, ?_, ?_⟩)
    · rintro i H2 hi ⟨sm, hD⟩
      have hi7 : i < 7 := by omega
      walk_at "my_rd"
      refine ⟨rfl, ?_⟩
      walk_at "my_rd"
      refine q_strInt (Nat.lt_of_le_of_lt (Nat.log2_le_self _) (by omega)) ?_
      refine q_addStr ?_ ?_
      · have := nm_short i hi7
        have h1 : (Str.ofString "g").length = 1 := rfl
        exact Nat.le_of_lt (small1000 (by omega))
      · walk_at "my_rd"
        refine q_accK hD (by rw [List.length_map, List.length_map, List.length_range]; exact small1000 (by omega)) ⟨Same.new sm nN, ?_⟩
        rw [upd_same, List.range_succ, List.map_append, List.map_append]
        rfl
    · rintro H2 ⟨sm, hN⟩
      have hN : H2 N = some (.lst (allNames.map V.str)) := hN
      walk_at "my_rd"
      refine q_lstK (Nat.zero_le _) fun F nF => ?_
      have nNF : N ≠ F := ne_of_none hN nF
      have hF0 : H F = none := Same.free sm nF
      have nNp : N ≠ p := pot.nep nN
      have nNl : N ≠ l := pot.nel nN
      have nFp : F ≠ p := pot.nep hF0
      have nFl : F ≠ l := pot.nel hF0
      walk_at "my_rd"
      refine ⟨p, l, m, rfl, (pot.same sm).new nF, hm, by omega, fun r H4 r0 r1 pot4 kp4 => ?_⟩
      have hN4 : H4 N = some (.lst (allNames.map V.str)) := Kp.get kp4 (upd_new nF hN) nNp
      have hF4 : H4 F = some (.lst []) := Kp.get kp4 upd_same nFp
      have kp0 : Kp p H H4 := Kp.trans (Kp.new (Same.kp sm) hF0) kp4
      walk_at "my_rd"
      refine q_forR ⟨by omega, by omega⟩ (fun i σ H5 => ∃ (ss : List Str) (xs : List V) (gs : Gs) (kv : Option V), σ = [some (.ref p), some (.int m), some (.ref N), some (.ref F), kv] ∧ H5 N = some (.lst (ss.map V.str)) ∧ H5 F = some (.lst xs) ∧ PairsAt H5 xs gs ∧ gs.length = i ∧ ss.length + i = 7 ∧ (gs.map (·.1) ++ ss).Nodup ∧ (∀ g ∈ gs, g.1 ∈ allNames) ∧ (∀ s ∈ ss, s ∈ allNames) ∧ (∀ g ∈ gs, 1 ≤ g.2) ∧ (∀ g ∈ gs, g.2 ≤ 50) ∧ PotAt H5 p l ∧ Kp p H H5)
        ⟨allNames, [], [], none, rfl, hN4, hF4, PairsAt.nil, rfl, allNames_len, allNames_nodup, by simp, fun s hs => hs, by simp, by simp, pot4, kp0⟩ ?_ ?_
      · rintro i σ H5 hi ⟨ss, xs, gs, kv, rfl, hN5, hF5, hP5, hl, hsl, hnd, hnm, hss, hpos, htop, pot5, kp5⟩
        walk_at "my_rd"
        refine ⟨p, l, _, rfl, pot5, by rw [List.length_map]; omega, by rw [List.length_map]; omega, fun r2 H6 a0 a1 pot6 kp6 => ?_⟩
        rw [List.length_map] at a1
        have hN6 : H6 N = some (.lst (ss.map V.str)) := Kp.get kp6 hN5 nNp
        have hF6 : H6 F = some (.lst xs) := Kp.get kp6 hF5 nFp
        have hP6 := hP5.kp pot5 kp6
        have hr2 : r2.toNat < ss.length := by omega
        have hx : ss[r2.toNat]? = some ss[r2.toNat] := List.getElem?_eq_getElem hr2
        walk_at "my_rd"
        refine q_popAt (n := r2.toNat) hN6 (by omega) (by rw [List.length_map]; exact hr2) (by omega) (v := .str ss[r2.toNat]) (by rw [List.getElem?_map, hx]; rfl) ?_
        rw [map_erase]
        generalize hH7 : upd H6 N (HO.lst ((ss.eraseIdx r2.toNat).map V.str)) = H7
        have hN7 : H7 N = some (.lst ((ss.eraseIdx r2.toNat).map V.str)) := by rw [← hH7]; exact upd_same
        have hF7 : H7 F = some (.lst xs) := by rw [← hH7]; exact upd_other nNF.symm hF6
        have hP7 : PairsAt H7 xs gs := by rw [← hH7]; exact hP6.updL hN6
        have pot7 : PotAt H7 p l := by rw [← hH7]; exact pot6.upd nNp nNl
        have kp7 : Kp p H H7 := by rw [← hH7]; exact Kp.new (Kp.trans kp5 kp6) nN
        walk_at "my_rd"
        refine q_lstK (by decide) fun M nM => ?_
        walk_at "my_rd"
        refine ⟨p, l, 3, rfl, pot7.new nM, by omega, by omega, fun r3 H8 b0 b1 pot8 kp8 => ?_⟩
        have hM8 : H8 M = some (.lst [.int 1, .int 4, .int 50]) := Kp.get kp8 upd_same (pot7.nep nM)
        obtain ⟨lim, hlim, l0, l1⟩ : ∃ lim : Int, atI [V.int 1, V.int 4, V.int 50] r3 = some (.int lim) ∧ 1 ≤ lim ∧ lim ≤ 50 := by
          have : r3 = 0 ∨ r3 = 1 ∨ r3 = 2 := by omega
          rcases this with rfl | rfl | rfl
          · exact ⟨1, rfl, by omega, by omega⟩
          · exact ⟨4, rfl, by omega, by omega⟩
          · exact ⟨50, rfl, by omega, by omega⟩
        walk_at "my_rd"
        refine q_ixLt hM8 hlim ?_
        walk_at "my_rd"
        refine ⟨p, l, lim, rfl, pot8, by omega, by omega, fun r4 H9 c0 c1 pot9 kp9 => ?_⟩
        have kp79 : Kp p (upd H7 M (.lst [.int 1, .int 4, .int 50])) H9 := Kp.trans kp8 kp9
        have hN9 : H9 N = some (.lst ((ss.eraseIdx r2.toNat).map V.str)) := Kp.get kp79 (upd_new nM hN7) nNp
        have hF9 : H9 F = some (.lst xs) := Kp.get kp79 (upd_new nM hF7) nFp
        have hP9 : PairsAt H9 xs gs := (hP7.new nM).kp (pot7.new nM) kp79
        have hM0 : H M = none := Kp.fresh kp7 pot.at.choose_spec nM (pot7.nep nM)
        have kp09 : Kp p H H9 := Kp.trans (Kp.new kp7 hM0) kp79
        walk_at "my_rd"
        refine q_tupK (by show 2 ≤ sizeLine; decide) fun U nU => ?_
        have hU0 : H U = none := Kp.fresh kp09 pot.at.choose_spec nU (pot9.nep nU)
        have nFU : F ≠ U := ne_of_none hF9 nU
        have nNU : N ≠ U := ne_of_none hN9 nU
        walk_at "my_rd"
        refine q_append (upd_new nU hF9) (by rw [hP9.len]; exact small1000 (by omega)) ?_
        walk_at "my_rd"
        refine ⟨ss.eraseIdx r2.toNat, xs ++ [.ref U], gs ++ [(ss[r2.toNat], 1 + r4)], _, rfl, upd_other nNF (upd_new nU hN9), upd_same, ?_, by rw [List.length_append, hl]; rfl, ?_, ?_, ?_, ?_, ?_, ?_, (pot9.new nU).upd nFp nFl, Kp.new (Kp.new kp09 hU0) hF0⟩
        · exact ((hP9.new nU).snoc (g := (ss[r2.toNat], 1 + r4)) upd_same).updL (upd_new nU hF9)
        · rw [List.length_eraseIdx_of_lt hr2]; omega
        · rw [List.map_append]
          exact names_pop hx hnd
        · intro g hg
          rcases List.mem_append.mp hg with h | h
          · exact hnm g h
          · rw [List.mem_singleton.mp h]; exact hss _ (List.mem_of_getElem? hx)
        · intro z hz
          exact hss z (List.mem_of_mem_eraseIdx hz)
        · intro g hg
          rcases List.mem_append.mp hg with h | h
          · exact hpos g h
          · rw [List.mem_singleton.mp h]; show 1 ≤ 1 + r4; omega
        · intro g hg
          rcases List.mem_append.mp hg with h | h
          · exact htop g h
          · rw [List.mem_singleton.mp h]; show 1 + r4 ≤ 50; omega
      · rintro σ H5 ⟨ss, xs, gs, kv, rfl, hN5, hF5, hP5, hl, hsl, hnd, hnm, hss, hpos, htop, pot5, kp5⟩
        walk_at "my_rd"
        refine q_tupL (sqL hF5) fun a na => ?_
        walk_at "my_rd"
        refine k a xs gs _ (Kp.fresh kp5 pot.at.choose_spec na (pot5.nep na)) upd_same (hP5.new na) ⟨?_, by omega, (List.nodup_append.mp hnd).1, hnm, hpos, htop⟩ (by omega) (pot5.new na) (Kp.new kp5 (Kp.fresh kp5 pot.at.choose_spec na (pot5.nep na)))
        rintro rfl
        simp at hl
        omega
end

/-! pairs as data -/
def prd (g : Str × Int) : PyData := .tuple [.str g.1, .int g.2]
theorem prd_lay (z : Str × Int) (h : PyData.strOk z.1 = true) : (prd z).canLay0 = true := by simp [prd, PyData.canLay0, PyData.canLayAll0, h]
theorem names_ok : ∀ z ∈ allNames, PyData.strOk z = true := by decide +kernel
theorem Drawn.sok {gs : Gs} (h : Drawn gs) : ∀ z ∈ gs, PyData.strOk z.1 = true := fun z hz => names_ok _ (h.nms z hz)
theorem prd_depth (z : Str × Int) : (prd z).depth = 1 := by simp [prd, PyData.depth, PyData.depthAll]
theorem prds_lay : ∀ zs : Gs, (∀ z ∈ zs, PyData.strOk z.1 = true) → PyData.canLayAll0 (zs.map prd) = true
  | [], _ => by simp [PyData.canLayAll0]
  | z :: zs, h => by simp [PyData.canLayAll0, prd_lay z (h z (List.mem_cons_self ..)), prds_lay zs fun y hy => h y (List.mem_cons_of_mem _ hy)]
theorem prds_depth : ∀ zs : Gs, PyData.depthAll (zs.map prd) ≤ 1
  | [] => by simp [PyData.depthAll]
  | z :: zs => by
    have h1 := prds_depth zs
    have h2 := prd_depth z
    simp only [List.map_cons, PyData.depthAll]
    omega
theorem prd_shaped (z : Str × Int) (ok : PyData.strOk z.1 = true) : SeqAt.shaped (prd z) = true := by
  have h := prd_depth z
  show ((prd z).canLay0 && decide ((prd z).depth ≤ 64)) = true
  rw [Bool.and_eq_true]
  exact ⟨prd_lay z ok, decide_eq_true (by omega)⟩
theorem prds_shaped (zs : Gs) (ok : ∀ z ∈ zs, PyData.strOk z.1 = true) : SeqAt.shaped (.list (zs.map prd)) = true := by
  have h1 := prds_depth zs
  have h2 : PyData.depth (.list (zs.map prd)) ≤ 64 := by
    simp only [PyData.depth]
    omega
  show (PyData.canLay0 (.list (zs.map prd)) && decide (PyData.depth (.list (zs.map prd)) ≤ 64)) = true
  rw [Bool.and_eq_true]
  exact ⟨by simp only [PyData.canLay0]; exact prds_lay zs ok, decide_eq_true h2⟩
theorem prd_eqv (z g : Str × Int) : PyData.eqv (prd z) (prd g) = decide (z = g) := by
  obtain ⟨a, b⟩ := z
  obtain ⟨a', b'⟩ := g
  have e : PyData.eqv (prd (a, b)) (prd (a', b')) = ((a == a') && ((b == b') && true)) := by simp only [prd, PyData.eqv, PyData.eqvAll]
  rw [e]
  by_cases h : ((a, b) : Str × Int) = (a', b')
  · cases h
    simp
  · rw [decide_eq_false h]
    by_cases h1 : a = a'
    · by_cases h2 : b = b'
      · exact absurd (by rw [h1, h2]) h
      · have q : (b == b') = false := beq_eq_false_iff_ne.mpr h2
        rw [q, Bool.false_and, Bool.and_false]
    · have q : (a == a') = false := beq_eq_false_iff_ne.mpr h1
      rw [q, Bool.false_and]
theorem in_dec (gs : Gs) (g : Str × Int) : ((gs.map prd).any fun z => PyData.eqv z (prd g)) = decide (g ∈ gs) := by
  induction gs with
  | nil => simp
  | cons a r ih =>
    rw [List.map_cons, List.any_cons, ih, prd_eqv]
    by_cases h : a = g
    · subst h; simp
    · have h' : ¬ g = a := fun e => h e.symm
      simp [h, h']
theorem PairsAt.tail {H : Hp} {x : V} {xs : List V} {g : Str × Int} {gs : Gs} (h : PairsAt H (x :: xs) (g :: gs)) : PairsAt H xs gs :=
  ⟨by have := h.len; simpa using this, fun i g' hg => by have := h.at_ (i + 1) g' (by simpa using hg); simpa using this⟩
theorem PairsAt.dp {K : PySem.W.Frag} {H : Hp} : ∀ {xs : List V} {gs : Gs}, PairsAt H xs gs → DpAll K H xs (gs.map prd)
  | [], [], _ => .nil
  | [], g :: gs, h => by have := h.len; simp at this
  | x :: xs, [], h => by have := h.len; simp at this
  | x :: xs, g :: gs, h => by
    obtain ⟨a, e, ha⟩ := h.at_ 0 g rfl
    have e : x = .ref a := Option.some.inj e
    subst e
    exact .cons (.tup (sqT ha) (.cons (.str _) (.cons (.int _) .nil))) h.tail.dp
theorem pair_dp {K : PySem.W.Frag} {H : Hp} {a : Addr} {g : Str × Int} (ha : H a = some (.tup [.str g.1, .int g.2])) : Dp K H (.ref a) (prd g) := .tup (sqT ha) (.cons (.str _) (.cons (.int _) .nil))
/-! weights -/
theorem wsum_cons (g : Str × Int) (gs : Gs) : wsum (g :: gs) = g.2 + wsum gs := by show (g.2 :: gs.map (·.2)).sum = _; rw [List.sum_cons]; rfl
theorem wsum_app (a b : Gs) : wsum (a ++ b) = wsum a + wsum b := by
  induction a with
  | nil => show wsum b = 0 + wsum b; omega
  | cons g r ih => rw [List.cons_append, wsum_cons, wsum_cons, ih]; omega
theorem wsum_perm {a b : Gs} (h : a.Perm b) : wsum a = wsum b := by
  induction h with
  | nil => rfl
  | cons x _ ih => rw [wsum_cons, wsum_cons, ih]
  | swap x y l => rw [wsum_cons, wsum_cons, wsum_cons, wsum_cons]; omega
  | trans _ _ h1 h2 => rw [h1, h2]
theorem wsum_sub : ∀ (l : Gs) {gs : Gs}, (∀ g ∈ gs, 1 ≤ g.2) → l.Nodup → (∀ g ∈ l, g ∈ gs) → wsum l ≤ wsum gs
  | [], gs, hp, _, _ => wsum_nonneg hp
  | x :: r, gs, hp, hn, hs => by
    obtain ⟨hx, hr⟩ := List.nodup_cons.mp hn
    have hm : x ∈ gs := hs x (List.mem_cons_self ..)
    have e := wsum_perm (List.perm_cons_erase hm)
    rw [wsum_cons] at e
    have ih := wsum_sub r (gs := gs.erase x) (fun g hg => hp g (List.mem_of_mem_erase hg)) hr fun g hg => (List.mem_erase_of_ne (fun q => hx (by rw [← q]; exact hg))).mpr (hs g (List.mem_cons_of_mem _ hg))
    rw [wsum_cons, e]
    omega
theorem wsum_split (p : Str × Int → Bool) (l : Gs) : wsum l = wsum (l.filter p) + wsum (l.filter fun g => !p g) := by
  induction l with
  | nil => rfl
  | cons g r ih =>
    rw [wsum_cons, ih, List.filter_cons, List.filter_cons]
    cases h : p g
    · simp only [Bool.false_eq_true, if_false, Bool.not_false, if_true, wsum_cons]; omega
    · simp only [if_true, Bool.not_true, Bool.false_eq_true, if_false, wsum_cons]; omega
/-- what two groups have in common -/
theorem wsum_meet {gs a b : Gs} (hp : ∀ g ∈ gs, 1 ≤ g.2) (ha : a.Nodup) (hb : b.Nodup) (sa : ∀ g ∈ a, g ∈ gs) (sb : ∀ g ∈ b, g ∈ gs) : wsum a + wsum b ≤ wsum gs + wsum (a.filter fun g => decide (g ∈ b)) := by
  have h1 := wsum_split (fun g => decide (g ∈ b)) a
  have h2 : wsum ((a.filter fun g => !decide (g ∈ b)) ++ b) ≤ wsum gs := by
    refine wsum_sub _ hp ?_ ?_
    · refine List.nodup_append.mpr ⟨ha.filter _, hb, ?_⟩
      intro x hx y hy e
      subst e
      have := (List.mem_filter.mp hx).2
      simp [hy] at this
    · intro g hg
      rcases List.mem_append.mp hg with h | h
      · exact sa g (List.mem_filter.mp h).1
      · exact sb g h
  rw [wsum_app] at h2
  omega
theorem Drawn.ndp {gs : Gs} (h : Drawn gs) : gs.Nodup := by
  have h1 := h.nd
  have : ∀ l : Gs, (l.map (·.1)).Nodup → l.Nodup := fun l => by
    induction l with
    | nil => exact fun _ => List.nodup_nil
    | cons g r ih =>
      intro q
      obtain ⟨q1, q2⟩ := List.nodup_cons.mp (show (g.1 :: r.map (·.1)).Nodup from q)
      exact List.nodup_cons.mpr ⟨fun m => q1 (List.mem_map.mpr ⟨g, m, rfl⟩), ih q2⟩
  exact this gs h1
/-- a group of a set -/
structure Grp (gs l : Gs) : Prop where
  nd : l.Nodup
  sub : ∀ g ∈ l, g ∈ gs
theorem Grp.few {gs l : Gs} (h : Grp gs l) : l.length ≤ gs.length := by
  have : ∀ (l gs : Gs), l.Nodup → (∀ g ∈ l, g ∈ gs) → l.length ≤ gs.length := fun l => by
    induction l with
    | nil => exact fun _ _ _ => Nat.zero_le _
    | cons x r ih =>
      intro gs hn hs
      obtain ⟨hx, hr⟩ := List.nodup_cons.mp hn
      have hm : x ∈ gs := hs x (List.mem_cons_self ..)
      have e := (List.perm_cons_erase hm).length_eq
      have := ih (gs.erase x) hr fun g hg => (List.mem_erase_of_ne (fun q => hx (by rw [← q]; exact hg))).mpr (hs g (List.mem_cons_of_mem _ hg))
      rw [List.length_cons] at e ⊢
      omega
  exact this l gs h.nd h.sub
theorem Grp.ok {gs l : Gs} (h : Grp gs l) (d : Drawn gs) : GsOk l := ⟨fun g hg => d.pos g (h.sub g hg), fun g hg => by have := d.top g (h.sub g hg); omega, by have := h.few; have := d.few; omega⟩
def sp_Ltotal (K : PySem.W.Frag) : Sp := fun vs H Q _ => ∃ (a : Addr) (xs : List V) (gs : Gs), vs = [.ref a] ∧ (SqL K H a xs ∨ SqT K H a xs) ∧ PairsAt H xs gs ∧ GsOk gs ∧ ∀ H', Same H H' → Q (.int (wsum gs)) H'
def sp_Lgroup : Sp := fun vs H Q _ => ∃ (p l a : Addr) (xs : List V) (gs : Gs), vs = [.ref p, .ref a] ∧ PotAt H p l ∧ H a = some (.tup xs) ∧ PairsAt H xs gs ∧ Drawn gs ∧
  ∀ (b : Addr) (ys : List V) (l' : Gs) (H' : Hp), H b = none → H' b = some (.lst ys) → PairsAt H' ys l' → Grp gs l' → PotAt H' p l → Kp p H H' → Q (.ref b) H'
def spLaw (K : PySem.W.Frag) : Sp := fun vs H Q _ => ∃ (a : Addr) (ns : List Int), vs = [.ref a] ∧ SqL K H a (ns.map V.int) ∧ ns.length ≤ 63 ∧ ∀ H', Q (.bl true) H'
section
variable {P : Program} {w : World} {K : PySem.W.Frag} {mg : Str → Option Value} {base : Heap}
theorem ok_L_total (T : Txt K mg) : FnOk P w K mg base CX0 1 T.f_L_total T.d_L_total ["guards"] (sp_Ltotal K) := by
  refine T.F_L_total.ok sc_L_total (fun vs H Q E h => ?_) (fun cdv A outer s H vs Q E hr h => ?_)
  · obtain ⟨a, xs, gs, rfl, _⟩ := h; rfl
  · obtain ⟨a, xs, gs, rfl, hT, hP, hG, k⟩ := h
    refine ⟨_, (pss_one (ps_ret (pe_callB (cr_sum rfl) (by rfl) T.z_sum boot_sum (pa_cons (pe_lc (own := [("pair", 1)]) (g := (gName 1)) (tt := tYes) (te := (tOp (rIxT K) (tVar 1) (tC (.int 1)))) rfl sc_L_total.nd (pi_seq (pv 0)) (blkOk_by (own := [("pair", 1)]) (N := ["guards", "pair"]) (sc := defScope s_L_total) (by decide +kernel)) (fun _ _ _ _ _ => (pg_name (i := 1) sc_L_total.nd rfl (Or.inl rfl))) (fun _ _ _ _ _ => pts_nil) (fun _ _ _ _ _ => (pe_ix ix_tup (pv 1) pe_int (fun _ _ => rfl)))) pa_nil)))), ?_⟩
    (dsimp only [cxOf, Cx.nox, Cx.wish, L2.start, List.map, List.length, List.replicate, List.cons_append, List.nil_append, List.append_eq, Nat.reduceSub, Nat.reduceAdd])
    walk_at "my_rd"
    rcases hT with hT | hT
    · refine q_iSeqL ?_
      walk_at "my_rd"
      refine q_lcL hT (fun D nD => ⟨fun i H2 => Same H H2 ∧ H2 D = some (.lst (((gs.take i).map (·.2)).map V.int)), ⟨Same.new (Same.refl _) nD, upd_same⟩, fun i H2 _ h => Same.seq h.1 hT, ?_, ?_⟩)
      · rintro i x H2 hx ⟨sm, hD⟩
        obtain ⟨g, b, hg, rfl, hb⟩ := hP.item hx
        have hb2 := sm _ _ hb
        walk_at "my_rd"
        refine ⟨rfl, ?_⟩
        walk_at "my_rd"
        refine q_accK hD (by rw [List.length_map, List.length_map, List.length_take]; exact small1000 (by have := hG.few; omega)) ⟨Same.new sm nD, ?_⟩
        rw [upd_same, take_snoc hg, List.map_append, List.map_append]
        rfl
      · rintro H2 ⟨sm, hD⟩
        have e : gs.take xs.length = gs := List.take_of_length_le (by rw [hP.len]; exact Nat.le_refl _)
        rw [e] at hD
        walk_at "my_rd"
        refine q_sum (sqL hD) ?_
        walk_at "my_rd"
        exact k H2 sm
    · refine q_iSeqT ?_
      walk_at "my_rd"
      refine q_lcT hT (fun D nD => ⟨fun i H2 => Same H H2 ∧ H2 D = some (.lst (((gs.take i).map (·.2)).map V.int)), ⟨Same.new (Same.refl _) nD, upd_same⟩, fun i H2 _ h => Same.sqT h.1 hT, ?_, ?_⟩)
      · rintro i x H2 hx ⟨sm, hD⟩
        obtain ⟨g, b, hg, rfl, hb⟩ := hP.item hx
        have hb2 := sm _ _ hb
        walk_at "my_rd"
        refine ⟨rfl, ?_⟩
        walk_at "my_rd"
        refine q_accK hD (by rw [List.length_map, List.length_map, List.length_take]; exact small1000 (by have := hG.few; omega)) ⟨Same.new sm nD, ?_⟩
        rw [upd_same, take_snoc hg, List.map_append, List.map_append]
        rfl
      · rintro H2 ⟨sm, hD⟩
        have e : gs.take xs.length = gs := List.take_of_length_le (by rw [hP.len]; exact Nat.le_refl _)
        rw [e] at hD
        walk_at "my_rd"
        refine q_sum (sqL hD) ?_
        walk_at "my_rd"
        exact k H2 sm
theorem ok_L_group (T : Txt K mg) : FnOk P w K mg base CX0 3 T.f_L_group T.d_L_group ["pot", "guards"] sp_Lgroup := by
  refine T.F_L_group.ok sc_L_group (fun vs H Q E h => ?_) (fun cdv A outer s H vs Q E hr h => ?_)
  · obtain ⟨p, l, a, xs, gs, rfl, _⟩ := h; rfl
  · obtain ⟨p, l, a, xs, gs, rfl, pot, ha, hP, hD, k⟩ := h
    have hap : a ≠ p := by
      obtain ⟨_, _, _, _, h1, _⟩ := pot
      exact ne_of ha h1 (by intro z; cases z)
    refine ⟨_, (pss_cons (ps_setLc (i := 2) (own := [("pair", 3)]) (g := (gName 3)) (tt := (tTest (tOp (rI0 fun i j => .bl (decide (j < i))) (tCall sp_next [] E0 (tCons (tVar 0) (tCons (tC (.int 3)) tNil))) (tC (.int 0))))) (te := (tVar 3)) rfl sc_L_group.nd rfl rfl (sw_true rfl rfl rfl (by decide +kernel)) (pi_tup (pv 1)) (blkOk_by (own := [("pair", 3)]) (N := ["pot", "guards", "group", "pair"]) (sc := defScope s_L_group) (by decide +kernel)) (fun _ _ _ _ _ => (pg_name (i := 3) sc_L_group.nd rfl (Or.inl rfl))) (fun _ _ _ _ _ => (pts_one (pt_cmpR op_gt (pe_call (ok_L_next T) (hr.mono (by decide)) (by rfl) T.g_L_next T.F_L_next.kp T.b_L_next .nil pass0 (pa_cons (pv 0) (pa_cons pe_int pa_nil))) pe_int (nomark _)))) (fun _ _ _ _ _ => (pv 3)))
      (pss_cons (ps_if (pt_cmpR op_eq (pe_call (ok_L_next T) (hr.mono (by decide)) (by rfl) T.g_L_next T.F_L_next.kp T.b_L_next .nil pass0 (pa_cons (pv 0) (pa_cons pe_int pa_nil))) pe_int (nomark _)) (pss_one (ps_for PassesOwn.never rfl (pi_tup (pv 1)) (pg_name (i := 3) sc_L_group.nd rfl (Or.inl rfl))
        (pss_one (ps_if (PW.pt (pw_and (pt_cmpR op_lt (pe_call (ok_L_total T) (hr.mono (by decide)) (by rfl) T.g_L_total T.F_L_total.kp T.b_L_total .nil pass0 (pa_cons (pv 2) pa_nil)) (pe_call (ok_threshold T) (hr.mono (by decide)) (by rfl) T.g_threshold T.F_threshold.kp T.b_threshold .nil pass0 (pa_cons (pv 1) pa_nil)) (nomark _)) (pw_and1 (pt_cmpR (op_notInD (hr65 hr)) (pv 3) (pv 2) (by rfl))))) (pss_one (ps_expr (pe_bm PySem.F.plainAttrs_list PySem.F.slot_list_append PySem.F.type_list_append mt_append (pv 2) (pa_cons (pv 3) pa_nil)))) pss_nil)))) pss_nil)
      (pss_one (ps_ret (pv 2))))), ?_⟩
    (dsimp only [cxOf, Cx.nox, Cx.wish, L2.start, List.map, List.length, List.replicate, List.cons_append, List.nil_append, List.append_eq, Nat.reduceSub, Nat.reduceAdd])
    walk_at "my_rd"
    refine q_lcT (sqT ha) (fun F nF => ⟨fun i H2 => ∃ (ys : List V) (l' : Gs), H2 F = some (.lst ys) ∧ PairsAt H2 ys l' ∧ List.Sublist l' (gs.take i) ∧ PotAt H2 p l ∧ Kp p H H2, ⟨[], [], upd_same, PairsAt.nil, List.Sublist.refl _, pot.new nF, Kp.new Kp.refl nF⟩, fun i H2 _ ⟨_, _, _, _, _, _, kp⟩ => sqT (Kp.get kp ha hap), ?_, ?_⟩)
    · rintro i x H2 hx ⟨ys, l', hF, hP2, hsub, pot2, kp⟩
      obtain ⟨g, b, hg, rfl, hb⟩ := hP.item hx
      have nFp : F ≠ p := pot.nep nF
      walk_at "my_rd"
      refine ⟨rfl, ?_⟩
      walk_at "my_rd"
      refine ⟨p, l, 3, rfl, pot2, by omega, by omega, fun r H3 r0 r1 pot3 kp3 => ?_⟩
      have hF3 : H3 F = some (.lst ys) := Kp.get kp3 hF nFp
      have hP3 := hP2.kp pot2 kp3
      have hb3 : H3 b = some (.tup [.str g.1, .int g.2]) := Kp.get (Kp.trans kp kp3) hb (by
        obtain ⟨_, _, _, _, h1, _⟩ := pot
        exact ne_of hb h1 (by intro z; cases z))
      walk_at "my_rd"
      refine q_keep2 (fun _ => ?_) (fun _ => ?_)
      · walk_at "my_rd"
        refine q_accK hF3 ?_ ?_
        · have h1 := hsub.length_le
          rw [List.length_take] at h1
          have h2 := hD.few
          rw [hP3.len]
          exact small1000 (by omega)
        · refine ⟨_, l' ++ [g], upd_same, (hP3.snoc hb3).updL hF3, ?_, pot3.upd nFp (pot.nel nF), Kp.new (Kp.trans kp kp3) nF⟩
          rw [take_snoc hg]
          exact List.Sublist.append hsub (List.Sublist.refl _)
      · refine ⟨ys, l', hF3, hP3, ?_, pot3, Kp.trans kp kp3⟩
        rw [take_snoc hg]
        exact hsub.trans (List.sublist_append_left _ _)
    · rintro H2 ⟨ys, l', hF, hP2, hsub, pot2, kp⟩
      have nFp : F ≠ p := pot.nep nF
      have nFl : F ≠ l := pot.nel nF
      have hg0 : Grp gs l' := ⟨(hsub.trans (List.take_sublist _ _)).nodup hD.ndp, fun g hg => (hsub.trans (List.take_sublist _ _)).mem hg⟩
      walk_at "my_rd"
      refine ⟨p, l, 2, rfl, pot2, by omega, by omega, fun r H3 r0 r1 pot3 kp3 => ?_⟩
      have hF3 : H3 F = some (.lst ys) := Kp.get kp3 hF nFp
      have hP3 := hP2.kp pot2 kp3
      have kp03 := Kp.trans kp kp3
      have ha3 : H3 a = some (.tup xs) := Kp.get kp03 ha hap
      have hPx3 : PairsAt H3 xs gs := hP.kp pot kp03
      walk_at "my_rd"
      refine q_if2 (fun _ => ?_) (fun _ => ?_)
      · walk_at "my_rd"
        refine q_forT (sqT ha3) (fun i σ H4 => ∃ (ys : List V) (l' : Gs) (pv : Option V), σ = [some (.ref p), some (.ref a), some (.ref F), pv] ∧ H4 F = some (.lst ys) ∧ PairsAt H4 ys l' ∧ Grp gs l' ∧ PotAt H4 p l ∧ Kp p H H4 ∧ H4 a = some (.tup xs) ∧ PairsAt H4 xs gs)
          ⟨ys, l', _, rfl, hF3, hP3, hg0, pot3, kp03, ha3, hPx3⟩ (fun i σ H4 _ ⟨_, _, _, _, _, _, _, _, _, h, _⟩ => sqT h) ?_ ?_
        · rintro i x σ H4 hx ⟨ys, l', pv, rfl, hF4, hP4, hg4, pot4, kp4, ha4, hPx4⟩
          obtain ⟨g, b, hg, rfl, hb⟩ := hPx4.item hx
          walk_at "my_rd"
          refine ⟨F, ys, l', rfl, .inl (sqL hF4), hP4, hg4.ok hD, fun H5 sm5 => ?_⟩
          walk_at "my_rd"
          refine ⟨a, xs, gs, rfl, sqT (sm5 _ _ ha4), hPx4.same sm5, hD.ok, fun H6 sm6 => ?_⟩
          have sm := Same.trans sm5 sm6
          have hF6 : H6 F = some (.lst ys) := sm _ _ hF4
          have hP6 := hP4.same sm
          have hb6 := sm _ _ hb
          walk_at "my_rd"
          refine q_and2 (fun _ => ?_) (fun _ => ?_)
          · walk_at "my_rd"
            refine q_notInD (pair_dp hb6) (.lst (sqL hF6) hP6.dp) (prd_shaped _ (hD.sok _ (List.mem_of_getElem? hg))) (prds_shaped _ fun z hz => hD.sok _ (hg4.sub z hz)) ?_
            rw [in_dec]
            walk_at "my_rd"
            refine q_if2 (fun hn => ?_) (fun _ => ?_)
            · have hn := ndec_t hn
              walk_at "my_rd"
              refine q_append hF6 (by rw [hP6.len]; have h1 := hg4.few; have h2 := hD.few; exact small1000 (by omega)) ?_
              walk_at "my_rd"
              refine ⟨_, l' ++ [g], _, rfl, upd_same, (hP6.snoc hb6).updL hF6, ⟨?_, ?_⟩, (pot4.same sm).upd nFp nFl, Kp.new (Kp.trans kp4 (Same.kp sm)) nF, upd_other (ne_of ha4 hF4 (by intro z; cases z)) (sm _ _ ha4), (hPx4.same sm).updL hF6⟩
              · exact nd_snoc hg4.nd hn
              · intro z hz
                rcases List.mem_append.mp hz with h | h
                · exact hg4.sub z h
                · rw [List.mem_singleton.mp h]; exact List.mem_of_getElem? hg
            · walk_at "my_rd"
              exact ⟨_, l', _, rfl, hF6, hP6, hg4, pot4.same sm, Kp.trans kp4 (Same.kp sm), sm _ _ ha4, hPx4.same sm⟩
          · walk_at "my_rd"
            exact ⟨_, l', _, rfl, hF6, hP6, hg4, pot4.same sm, Kp.trans kp4 (Same.kp sm), sm _ _ ha4, hPx4.same sm⟩
        · rintro σ H4 ⟨ys, l', pv, rfl, hF4, hP4, hg4, pot4, kp4, ha4, hPx4⟩
          walk_at "my_rd"
          exact k F ys l' _ nF hF4 hP4 hg4 pot4 kp4
      · walk_at "my_rd"
        exact k F ys l' _ nF hF3 hP3 hg0 pot3 kp03
theorem ok_law (T : Txt K mg) : FnOk P w K mg base CX0 4 T.f_law T.d_law ["script"] (spLaw K) := by
  refine T.F_law.ok sc_law (fun vs H Q E h => ?_) (fun cdv A outer s H vs Q E hr h => ?_)
  · obtain ⟨a, ns, rfl, _⟩ := h; rfl
  · obtain ⟨a, ns, rfl, hS, hlen, k⟩ := h
    refine ⟨_, (pss_cons (ps_set (i := 1) sc_law.nd rfl (Or.inl rfl) (pe_call (ok_L_pot T) (hr.mono (by decide)) (by rfl) T.g_L_pot T.F_L_pot.kp T.b_L_pot .nil pass0 (pa_cons (pv 0) pa_nil)))
      (pss_cons (ps_set (i := 2) sc_law.nd rfl (Or.inl rfl) (pe_call (ok_L_set T) (hr.mono (by decide)) (by rfl) T.g_L_set T.F_L_set.kp T.b_L_set .nil pass0 (pa_cons (pv 1) (pa_cons pe_int pa_nil))))
      (pss_cons (ps_set (i := 3) sc_law.nd rfl (Or.inl rfl) (pe_call (ok_L_total T) (hr.mono (by decide)) (by rfl) T.g_L_total T.F_L_total.kp T.b_L_total .nil pass0 (pa_cons (pv 2) pa_nil)))
      (pss_cons (ps_set (i := 4) sc_law.nd rfl (Or.inl rfl) (pe_call (ok_L_group T) (hr.mono (by decide)) (by rfl) T.g_L_group T.F_L_group.kp T.b_L_group .nil pass0 (pa_cons (pv 1) (pa_cons (pv 2) pa_nil))))
      (pss_cons (ps_set (i := 5) sc_law.nd rfl (Or.inr rfl) (pe_call (ok_L_group T) (hr.mono (by decide)) (by rfl) T.g_L_group T.F_L_group.kp T.b_L_group .nil pass0 (pa_cons (pv 1) (pa_cons (pv 2) pa_nil))))
      (pss_cons (ps_set (i := 6) sc_law.nd rfl (Or.inl rfl) (pe_call (ok_L_total T) (hr.mono (by decide)) (by rfl) T.g_L_total T.F_L_total.kp T.b_L_total .nil pass0 (pa_cons (pe_lc (own := [("pair", 7)]) (g := (gName 7)) (tt := (tTest (tOp (rInD K) (tVar 7) (tVar 5)))) (te := (tVar 7)) rfl sc_law.nd (pi_list (pv 4)) (blkOk_by (own := [("pair", 7)]) (N := ["script", "pot", "guards", "whole", "first", "second", "common", "pair"]) (sc := defScope s_law) (by decide +kernel)) (fun _ _ _ _ _ => (pg_name (i := 7) sc_law.nd rfl (Or.inl rfl))) (fun _ _ _ _ _ => (pts_one (pt_cmpR (op_inD (hr65 hr)) (pv 7) (pv 5) (by rfl)))) (fun _ _ _ _ _ => (pv 7))) pa_nil)))
      (Evl.pss_cut (ps_if (PW.pt (pw_and (pt_cmpR op_ge (pe_call (ok_L_total T) (hr.mono (by decide)) (by rfl) T.g_L_total T.F_L_total.kp T.b_L_total .nil pass0 (pa_cons (pv 4) pa_nil)) (pe_call (ok_threshold T) (hr.mono (by decide)) (by rfl) T.g_threshold T.F_threshold.kp T.b_threshold .nil pass0 (pa_cons (pv 2) pa_nil)) (nomark _)) (pw_and (pt_cmpR op_ge (pe_call (ok_L_total T) (hr.mono (by decide)) (by rfl) T.g_L_total T.F_L_total.kp T.b_L_total .nil pass0 (pa_cons (pv 5) pa_nil)) (pe_call (ok_threshold T) (hr.mono (by decide)) (by rfl) T.g_threshold T.F_threshold.kp T.b_threshold .nil pass0 (pa_cons (pv 2) pa_nil)) (nomark _)) (pw_and1 (pt_cmpR op_le (pe_op op_mul pe_int (pv 6)) (pv 3) (nomark _)))))) (pss_one (ps_ret pe_bl)) pss_nil)
      (Evl.pss_cut (ps_if (PW.pt (pw_and (pt_cmpR op_lt (pe_call (ok_L_total T) (hr.mono (by decide)) (by rfl) T.g_L_total T.F_L_total.kp T.b_L_total .nil pass0 (pa_cons (pv 4) pa_nil)) (pe_call (ok_minority T) (hr.mono (by decide)) (by rfl) T.g_minority T.F_minority.kp T.b_minority .nil pass0 (pa_cons (pv 2) pa_nil)) (nomark _)) (pw_and1 (pt_cmpR op_lt (pe_op op_sub (pv 3) (pe_call (ok_L_total T) (hr.mono (by decide)) (by rfl) T.g_L_total T.F_L_total.kp T.b_L_total .nil pass0 (pa_cons (pv 4) pa_nil))) (pe_call (ok_threshold T) (hr.mono (by decide)) (by rfl) T.g_threshold T.F_threshold.kp T.b_threshold .nil pass0 (pa_cons (pv 2) pa_nil)) (nomark _))))) (pss_one (ps_ret pe_bl)) pss_nil)
      (pss_one (ps_ret (pe_and (pe_cmpR op_ge (pv 3) (pe_call (ok_threshold T) (hr.mono (by decide)) (by rfl) T.g_threshold T.F_threshold.kp T.b_threshold .nil pass0 (pa_cons (pv 2) pa_nil)) (nomark _)) (pe_and (pe_cmpR op_ge (pe_call (ok_threshold T) (hr.mono (by decide)) (by rfl) T.g_threshold T.F_threshold.kp T.b_threshold .nil pass0 (pa_cons (pv 2) pa_nil)) pe_int (nomark _)) (pe_one (pe_cmpR op_ge (pe_call (ok_minority T) (hr.mono (by decide)) (by rfl) T.g_minority T.F_minority.kp T.b_minority .nil pass0 (pa_cons (pv 2) pa_nil)) pe_int (nomark _))))))))))))))), ?_⟩
    (dsimp only [cxOf, Cx.nox, Cx.wish, L2.start, List.map, List.length, List.replicate, List.cons_append, List.nil_append, List.append_eq, Nat.reduceSub, Nat.reduceAdd])
    walk_at "my_rd"
    refine ⟨a, ns, rfl, hS, hlen, fun p l H1 np nl pot1 sm1 => ?_⟩
    walk_at "my_rd"
    refine ⟨p, l, 7, rfl, pot1, by omega, by omega, fun g xs gs H2 ng hg2 hP2 hD _ pot2 kp2 => ?_⟩
    have h0 := hD.ok.lo
    have h1 := hD.ok.hi
    have h2 := wsum_pos hD.pos hD.ne
    walk_at "my_rd"
    refine ⟨g, xs, gs, rfl, .inr (sqT hg2), hP2, hD.ok, fun H3 sm3 => ?_⟩
    walk_at "my_rd"
    refine ⟨p, l, g, xs, gs, rfl, pot2.same sm3, sm3 _ _ hg2, hP2.same sm3, hD, fun b1 ys1 l1 H4 nb1 hb1 hP1 hg1 pot4 kp4 => ?_⟩
    have ngp : g ≠ p := pot1.nep ng
    have hg4 : H4 g = some (.tup xs) := Kp.get kp4 (sm3 _ _ hg2) ngp
    have hP4 : PairsAt H4 xs gs := (hP2.same sm3).kp (pot2.same sm3) kp4
    walk_at "my_rd"
    refine ⟨p, l, g, xs, gs, rfl, pot4, hg4, hP4, hD, fun b2 ys2 l2 H5 nb2 hb2 hPb2 hg2' pot5 kp5 => ?_⟩
    have hg5 : H5 g = some (.tup xs) := Kp.get kp5 hg4 ngp
    have hP5 : PairsAt H5 xs gs := hP4.kp pot4 kp5
    have nb1p : b1 ≠ p := (pot2.same sm3).nep nb1
    have hb15 : H5 b1 = some (.lst ys1) := Kp.get kp5 hb1 nb1p
    have hP15 : PairsAt H5 ys1 l1 := hP1.kp pot4 kp5
    walk_at "my_rd"
    refine q_lcL (sqL hb15) (fun F nF => ⟨fun i H6 => ∃ zs, Same H5 H6 ∧ H6 F = some (.lst zs) ∧ PairsAt H6 zs ((l1.take i).filter fun g => decide (g ∈ l2)), ⟨[], Same.new (Same.refl _) nF, upd_same, PairsAt.nil⟩, fun i H6 _ ⟨_, sm, _⟩ => sqL (sm _ _ hb15), ?_, ?_⟩)
    · rintro i x H6 hx ⟨zs, sm, hF, hPz⟩
      obtain ⟨z, b, hz, rfl, hb⟩ := hP15.item hx
      have hb6 := sm _ _ hb
      walk_at "my_rd"
      refine ⟨rfl, ?_⟩
      walk_at "my_rd"
      refine q_inD (pair_dp hb6) (.lst (sqL (sm _ _ hb2)) (hPb2.same sm).dp) (prd_shaped _ (hD.sok _ (hg1.sub _ (List.mem_of_getElem? hz)))) (prds_shaped _ fun z hz => hD.sok _ (hg2'.sub z hz)) ?_
      rw [in_dec]
      walk_at "my_rd"
      have et : (l1.take (i + 1)).filter (fun g => decide (g ∈ l2)) = (l1.take i).filter (fun g => decide (g ∈ l2)) ++ (if decide (z ∈ l2) = true then [z] else []) := by
        rw [take_snoc hz, List.filter_append, List.filter_cons, List.filter_nil]
      refine q_keep2 (fun hm => ?_) (fun hm => ?_)
      · walk_at "my_rd"
        refine q_accK hF ?_ ⟨_, Same.new sm nF, upd_same, ?_⟩
        · rw [hPz.len]
          have := List.length_filter_le (fun g => decide (g ∈ l2)) (l1.take i)
          rw [List.length_take] at this
          have h3 := hg1.few
          have h4 := hD.few
          exact small1000 (by omega)
        · rw [et, if_pos hm]
          exact (hPz.snoc hb6).updL hF
      · refine ⟨zs, sm, hF, ?_⟩
        rw [et, if_neg (by rw [hm]; exact Bool.false_ne_true), List.append_nil]
        exact hPz
    · rintro H6 ⟨zs, sm6, hF, hPz⟩
      have e : l1.take ys1.length = l1 := List.take_of_length_le (by rw [hP15.len]; exact Nat.le_refl _)
      rw [e] at hPz
      have hgc : Grp gs (l1.filter fun g => decide (g ∈ l2)) := ⟨hg1.nd.filter _, fun g hg => hg1.sub g (List.mem_filter.mp hg).1⟩
      have meet := wsum_meet hD.pos hg1.nd hg2'.nd hg1.sub hg2'.sub
      have o1 := (hg1.ok hD).hi
      have o2 := (hg2'.ok hD).hi
      have o3 := (hgc.ok hD).hi
      have p1 := (hg1.ok hD).lo
      have p2 := (hg2'.ok hD).lo
      have p3 := (hgc.ok hD).lo
      generalize hc : wsum (l1.filter fun g => decide (g ∈ l2)) = c at *
      walk_at "my_rd"
      refine ⟨F, zs, _, rfl, .inl (sqL hF), hPz, hgc.ok hD, fun H7 sm7 => ?_⟩
      have sm57 := Same.trans sm6 sm7
      rw [hc]
      walk_at "my_rd"
      have hthr : thr gs = wsum gs * 2 / 3 + 1 := rfl
      have qT : ∀ {H' : Hp} {R : VK}, Same H5 H' → (∀ H'', Same H5 H'' → R (.int (thr gs)) H'') → sp_threshold K [.ref g] H' R E0 := fun {H' R} sm kk => ⟨g, xs, gs, rfl, sqT (sm _ _ hg5), hP5.same sm, hD.ok, fun H'' sm' => kk H'' (Same.trans sm sm')⟩
      have qM : ∀ {H' : Hp} {R : VK}, Same H5 H' → (∀ H'', Same H5 H'' → R (.int (wsum gs - thr gs + 1)) H'') → sp_minority K [.ref g] H' R E0 := fun {H' R} sm kk => ⟨g, xs, gs, rfl, sqT (sm _ _ hg5), hP5.same sm, hD.ok, fun H'' sm' => kk H'' (Same.trans sm sm')⟩
      have q1 : ∀ {H' : Hp} {R : VK}, Same H5 H' → (∀ H'', Same H5 H'' → R (.int (wsum l1)) H'') → sp_Ltotal K [.ref b1] H' R E0 := fun {H' R} sm kk => ⟨b1, ys1, l1, rfl, .inl (sqL (sm _ _ hb15)), hP15.same sm, hg1.ok hD, fun H'' sm' => kk H'' (Same.trans sm sm')⟩
      have q2 : ∀ {H' : Hp} {R : VK}, Same H5 H' → (∀ H'', Same H5 H'' → R (.int (wsum l2)) H'') → sp_Ltotal K [.ref b2] H' R E0 := fun {H' R} sm kk => ⟨b2, ys2, l2, rfl, .inl (sqL (sm _ _ hb2)), hPb2.same sm, hg2'.ok hD, fun H'' sm' => kk H'' (Same.trans sm sm')⟩
      refine q_cut (Mid := fun σ' H' => σ' = [some (.ref a), some (.ref p), some (.ref g), some (.int (wsum gs)), some (.ref b1), some (.ref b2), some (.int c), none] ∧ Same H5 H') ?_ ?_
      · walk_at "my_rd"
        refine q1 sm57 fun H8 sm8 => ?_
        walk_at "my_rd"
        refine qT sm8 fun H9 sm9 => ?_
        walk_at "my_rd"
        refine q_and2 (fun c1 => ?_) (fun _ => ?_)
        · have c1 := dec_t c1
          walk_at "my_rd"
          refine q2 sm9 fun H8 sm8 => ?_
          walk_at "my_rd"
          refine qT sm8 fun H9 sm9 => ?_
          walk_at "my_rd"
          refine q_and2 (fun c2 => ?_) (fun _ => ?_)
          · have c2 := dec_t c2
            walk_at "my_rd"
            refine q_if2 (fun c3 => ?_) (fun _ => ?_)
            · have c3 := dec_t c3
              exact absurd c3 (by omega)
            · walk_at "my_rd"
              exact ⟨rfl, sm9⟩
          · walk_at "my_rd"
            exact ⟨rfl, sm9⟩
        · walk_at "my_rd"
          exact ⟨rfl, sm9⟩
      · rintro σ' H7 ⟨rfl, sm7⟩
        refine q_cut (Mid := fun σ' H' => σ' = [some (.ref a), some (.ref p), some (.ref g), some (.int (wsum gs)), some (.ref b1), some (.ref b2), some (.int c), none] ∧ Same H5 H') ?_ ?_
        · walk_at "my_rd"
          refine q1 sm7 fun H8 sm8 => ?_
          walk_at "my_rd"
          refine qM sm8 fun H9 sm9 => ?_
          walk_at "my_rd"
          refine q_and2 (fun c1 => ?_) (fun _ => ?_)
          · have c1 := dec_t c1
            walk_at "my_rd"
            refine q1 sm9 fun H8 sm8 => ?_
            walk_at "my_rd"
            refine qT sm8 fun H9 sm9 => ?_
            walk_at "my_rd"
            refine q_if2 (fun c3 => ?_) (fun _ => ?_)
            · have c3 := dec_t c3
              exact absurd c3 (by omega)
            · walk_at "my_rd"
              exact ⟨rfl, sm9⟩
          · walk_at "my_rd"
            exact ⟨rfl, sm9⟩
        · rintro σ' H7 ⟨rfl, sm7⟩
          walk_at "my_rd"
          refine qT sm7 fun H8 sm8 => ?_
          walk_at "my_rd"
          rw [decide_eq_true (show thr gs ≤ wsum gs by omega)]
          walk_at "my_rd"
          refine qT sm8 fun H8 sm8 => ?_
          walk_at "my_rd"
          rw [decide_eq_true (show (1 : Int) ≤ thr gs by omega)]
          walk_at "my_rd"
          refine qM sm8 fun H8 sm8 => ?_
          walk_at "my_rd"
          rw [decide_eq_true (show (1 : Int) ≤ wsum gs - thr gs + 1 by omega)]
          exact k _
end

def txt_mk {K : PySem.W.Frag} {h : Heap} {mg : Str → Option Value} (X : K.In h) (G : h.Ns mainGlobals mg)
    {f0 f1 f2 f3 f4 f5 f6 f7 f8 : Addr} {od0 an0 od1 an1 od2 an2 od3 an3 od4 an4 od5 an5 od6 an6 od7 an7 od8 an8 : Option Addr} {sl0 sl1 sl2 sl3 sl4 sl5 sl6 sl7 sl8 : Array (Option Value)} {oc0 kV0 dc0 pm0 cd0 ct0 oc1 kV1 dc1 pm1 cd1 ct1 oc2 kV2 dc2 pm2 cd2 ct2 oc3 kV3 dc3 pm3 cd3 ct3 oc4 kV4 dc4 pm4 cd4 ct4 oc5 kV5 dc5 pm5 cd5 ct5 oc6 kV6 dc6 pm6 cd6 ct6 oc7 kV7 dc7 pm7 cd7 ct7 oc8 kV8 dc8 pm8 cd8 ct8 : Value}
    (a0 : PySem.W.nsIn K mainGlobals "total" = some (some (.ref f0)))
    (a1 : PySem.W.nsIn K mainGlobals "threshold" = some (some (.ref f1)))
    (a2 : PySem.W.nsIn K mainGlobals "minority" = some (some (.ref f2)))
    (a3 : PySem.W.nsIn K mainGlobals "_law_pot" = some (some (.ref f3)))
    (a4 : PySem.W.nsIn K mainGlobals "_law_next" = some (some (.ref f4)))
    (a5 : PySem.W.nsIn K mainGlobals "_law_set" = some (some (.ref f5)))
    (a6 : PySem.W.nsIn K mainGlobals "_law_total" = some (some (.ref f6)))
    (a7 : PySem.W.nsIn K mainGlobals "_law_group" = some (some (.ref f7)))
    (a8 : PySem.W.nsIn K mainGlobals "law" = some (some (.ref f8)))
    (l0 : K.lookup f0 = some ⟨oc0, od0, .func (PySem.W.fnOf "total" "total" (defArgs s_total) (defBody s_total) (defScope s_total) .none kV0 dc0 pm0 an0 cd0 ct0), sl0⟩)
    (c0 : PySem.W.codeIn K cd0 "total" = true)
    (k0 : PySem.W.keepIn K (.ref f0) = true)
    (l1 : K.lookup f1 = some ⟨oc1, od1, .func (PySem.W.fnOf "threshold" "threshold" (defArgs s_threshold) (defBody s_threshold) (defScope s_threshold) .none kV1 dc1 pm1 an1 cd1 ct1), sl1⟩)
    (c1 : PySem.W.codeIn K cd1 "threshold" = true)
    (k1 : PySem.W.keepIn K (.ref f1) = true)
    (l2 : K.lookup f2 = some ⟨oc2, od2, .func (PySem.W.fnOf "minority" "minority" (defArgs s_minority) (defBody s_minority) (defScope s_minority) .none kV2 dc2 pm2 an2 cd2 ct2), sl2⟩)
    (c2 : PySem.W.codeIn K cd2 "minority" = true)
    (k2 : PySem.W.keepIn K (.ref f2) = true)
    (l3 : K.lookup f3 = some ⟨oc3, od3, .func (PySem.W.fnOf "_law_pot" "_law_pot" (defArgs s_L_pot) (defBody s_L_pot) (defScope s_L_pot) .none kV3 dc3 pm3 an3 cd3 ct3), sl3⟩)
    (c3 : PySem.W.codeIn K cd3 "_law_pot" = true)
    (k3 : PySem.W.keepIn K (.ref f3) = true)
    (l4 : K.lookup f4 = some ⟨oc4, od4, .func (PySem.W.fnOf "_law_next" "_law_next" (defArgs s_L_next) (defBody s_L_next) (defScope s_L_next) .none kV4 dc4 pm4 an4 cd4 ct4), sl4⟩)
    (c4 : PySem.W.codeIn K cd4 "_law_next" = true)
    (k4 : PySem.W.keepIn K (.ref f4) = true)
    (l5 : K.lookup f5 = some ⟨oc5, od5, .func (PySem.W.fnOf "_law_set" "_law_set" (defArgs s_L_set) (defBody s_L_set) (defScope s_L_set) .none kV5 dc5 pm5 an5 cd5 ct5), sl5⟩)
    (c5 : PySem.W.codeIn K cd5 "_law_set" = true)
    (k5 : PySem.W.keepIn K (.ref f5) = true)
    (l6 : K.lookup f6 = some ⟨oc6, od6, .func (PySem.W.fnOf "_law_total" "_law_total" (defArgs s_L_total) (defBody s_L_total) (defScope s_L_total) .none kV6 dc6 pm6 an6 cd6 ct6), sl6⟩)
    (c6 : PySem.W.codeIn K cd6 "_law_total" = true)
    (k6 : PySem.W.keepIn K (.ref f6) = true)
    (l7 : K.lookup f7 = some ⟨oc7, od7, .func (PySem.W.fnOf "_law_group" "_law_group" (defArgs s_L_group) (defBody s_L_group) (defScope s_L_group) .none kV7 dc7 pm7 an7 cd7 ct7), sl7⟩)
    (c7 : PySem.W.codeIn K cd7 "_law_group" = true)
    (k7 : PySem.W.keepIn K (.ref f7) = true)
    (l8 : K.lookup f8 = some ⟨oc8, od8, .func (PySem.W.fnOf "law" "law" (defArgs s_law) (defBody s_law) (defScope s_law) .none kV8 dc8 pm8 an8 cd8 ct8), sl8⟩)
    (c8 : PySem.W.codeIn K cd8 "law" = true)
    (k8 : PySem.W.keepIn K (.ref f8) = true)
    (z0 : PySem.W.nsIn K mainGlobals "abs" = some none)
    (z1 : PySem.W.nsIn K mainGlobals "int" = some none)
    (z2 : PySem.W.nsIn K mainGlobals "len" = some none)
    (z3 : PySem.W.nsIn K mainGlobals "list" = some none)
    (z4 : PySem.W.nsIn K mainGlobals "range" = some none)
    (z5 : PySem.W.nsIn K mainGlobals "str" = some none)
    (z6 : PySem.W.nsIn K mainGlobals "sum" = some none)
    (z7 : PySem.W.nsIn K mainGlobals "tuple" = some none) : Txt K mg where
  f_total := f0
  d_total := PySem.W.fnOf "total" "total" (defArgs s_total) (defBody s_total) (defScope s_total) .none kV0 dc0 pm0 an0 cd0 ct0
  F_total := fun_mk (st := s_total) l0 c0 k0
  b_total := Fun.binds (fun_mk (st := s_total) l0 c0 k0) (ps := ["guards"]) fun _ _ _ _ _ _ us hl => match us, hl with | [_], _ => rfl
  g_total := PySem.W.mg_of X G a0
  f_threshold := f1
  d_threshold := PySem.W.fnOf "threshold" "threshold" (defArgs s_threshold) (defBody s_threshold) (defScope s_threshold) .none kV1 dc1 pm1 an1 cd1 ct1
  F_threshold := fun_mk (st := s_threshold) l1 c1 k1
  b_threshold := Fun.binds (fun_mk (st := s_threshold) l1 c1 k1) (ps := ["guards"]) fun _ _ _ _ _ _ us hl => match us, hl with | [_], _ => rfl
  g_threshold := PySem.W.mg_of X G a1
  f_minority := f2
  d_minority := PySem.W.fnOf "minority" "minority" (defArgs s_minority) (defBody s_minority) (defScope s_minority) .none kV2 dc2 pm2 an2 cd2 ct2
  F_minority := fun_mk (st := s_minority) l2 c2 k2
  b_minority := Fun.binds (fun_mk (st := s_minority) l2 c2 k2) (ps := ["guards"]) fun _ _ _ _ _ _ us hl => match us, hl with | [_], _ => rfl
  g_minority := PySem.W.mg_of X G a2
  f_L_pot := f3
  d_L_pot := PySem.W.fnOf "_law_pot" "_law_pot" (defArgs s_L_pot) (defBody s_L_pot) (defScope s_L_pot) .none kV3 dc3 pm3 an3 cd3 ct3
  F_L_pot := fun_mk (st := s_L_pot) l3 c3 k3
  b_L_pot := Fun.binds (fun_mk (st := s_L_pot) l3 c3 k3) (ps := ["script"]) fun _ _ _ _ _ _ us hl => match us, hl with | [_], _ => rfl
  g_L_pot := PySem.W.mg_of X G a3
  f_L_next := f4
  d_L_next := PySem.W.fnOf "_law_next" "_law_next" (defArgs s_L_next) (defBody s_L_next) (defScope s_L_next) .none kV4 dc4 pm4 an4 cd4 ct4
  F_L_next := fun_mk (st := s_L_next) l4 c4 k4
  b_L_next := Fun.binds (fun_mk (st := s_L_next) l4 c4 k4) (ps := ["pot", "limit"]) fun _ _ _ _ _ _ us hl => match us, hl with | [_, _], _ => rfl
  g_L_next := PySem.W.mg_of X G a4
  f_L_set := f5
  d_L_set := PySem.W.fnOf "_law_set" "_law_set" (defArgs s_L_set) (defBody s_L_set) (defScope s_L_set) .none kV5 dc5 pm5 an5 cd5 ct5
  F_L_set := fun_mk (st := s_L_set) l5 c5 k5
  b_L_set := Fun.binds (fun_mk (st := s_L_set) l5 c5 k5) (ps := ["pot", "most"]) fun _ _ _ _ _ _ us hl => match us, hl with | [_, _], _ => rfl
  g_L_set := PySem.W.mg_of X G a5
  f_L_total := f6
  d_L_total := PySem.W.fnOf "_law_total" "_law_total" (defArgs s_L_total) (defBody s_L_total) (defScope s_L_total) .none kV6 dc6 pm6 an6 cd6 ct6
  F_L_total := fun_mk (st := s_L_total) l6 c6 k6
  b_L_total := Fun.binds (fun_mk (st := s_L_total) l6 c6 k6) (ps := ["guards"]) fun _ _ _ _ _ _ us hl => match us, hl with | [_], _ => rfl
  g_L_total := PySem.W.mg_of X G a6
  f_L_group := f7
  d_L_group := PySem.W.fnOf "_law_group" "_law_group" (defArgs s_L_group) (defBody s_L_group) (defScope s_L_group) .none kV7 dc7 pm7 an7 cd7 ct7
  F_L_group := fun_mk (st := s_L_group) l7 c7 k7
  b_L_group := Fun.binds (fun_mk (st := s_L_group) l7 c7 k7) (ps := ["pot", "guards"]) fun _ _ _ _ _ _ us hl => match us, hl with | [_, _], _ => rfl
  g_L_group := PySem.W.mg_of X G a7
  f_law := f8
  d_law := PySem.W.fnOf "law" "law" (defArgs s_law) (defBody s_law) (defScope s_law) .none kV8 dc8 pm8 an8 cd8 ct8
  F_law := fun_mk (st := s_law) l8 c8 k8
  b_law := Fun.binds (fun_mk (st := s_law) l8 c8 k8) (ps := ["script"]) fun _ _ _ _ _ _ us hl => match us, hl with | [_], _ => rfl
  g_law := PySem.W.mg_of X G a8
  z_abs := PySem.W.mg_none_of X G z0
  z_int := PySem.W.mg_none_of X G z1
  z_len := PySem.W.mg_none_of X G z2
  z_list := PySem.W.mg_none_of X G z3
  z_range := PySem.W.mg_none_of X G z4
  z_str := PySem.W.mg_none_of X G z5
  z_sum := PySem.W.mg_none_of X G z6
  z_tuple := PySem.W.mg_none_of X G z7
theorem all_mk {l : PySem.W.OpenLaw} {w : World} {K : PySem.W.Frag} {h : Heap} {mg : Str → Option Value} {fa : Addr} (X : K.In h) (G : h.Ns mainGlobals mg) (hfa : mg "law" = some (.ref fa))
    {f0 f1 f2 f3 f4 f5 f6 f7 f8 : Addr} {od0 an0 od1 an1 od2 an2 od3 an3 od4 an4 od5 an5 od6 an6 od7 an7 od8 an8 : Option Addr} {sl0 sl1 sl2 sl3 sl4 sl5 sl6 sl7 sl8 : Array (Option Value)} {oc0 kV0 dc0 pm0 cd0 ct0 oc1 kV1 dc1 pm1 cd1 ct1 oc2 kV2 dc2 pm2 cd2 ct2 oc3 kV3 dc3 pm3 cd3 ct3 oc4 kV4 dc4 pm4 cd4 ct4 oc5 kV5 dc5 pm5 cd5 ct5 oc6 kV6 dc6 pm6 cd6 ct6 oc7 kV7 dc7 pm7 cd7 ct7 oc8 kV8 dc8 pm8 cd8 ct8 : Value}
    (a0 : PySem.W.nsIn K mainGlobals "total" = some (some (.ref f0)))
    (a1 : PySem.W.nsIn K mainGlobals "threshold" = some (some (.ref f1)))
    (a2 : PySem.W.nsIn K mainGlobals "minority" = some (some (.ref f2)))
    (a3 : PySem.W.nsIn K mainGlobals "_law_pot" = some (some (.ref f3)))
    (a4 : PySem.W.nsIn K mainGlobals "_law_next" = some (some (.ref f4)))
    (a5 : PySem.W.nsIn K mainGlobals "_law_set" = some (some (.ref f5)))
    (a6 : PySem.W.nsIn K mainGlobals "_law_total" = some (some (.ref f6)))
    (a7 : PySem.W.nsIn K mainGlobals "_law_group" = some (some (.ref f7)))
    (a8 : PySem.W.nsIn K mainGlobals "law" = some (some (.ref f8)))
    (l0 : K.lookup f0 = some ⟨oc0, od0, .func (PySem.W.fnOf "total" "total" (defArgs s_total) (defBody s_total) (defScope s_total) .none kV0 dc0 pm0 an0 cd0 ct0), sl0⟩)
    (c0 : PySem.W.codeIn K cd0 "total" = true)
    (k0 : PySem.W.keepIn K (.ref f0) = true)
    (l1 : K.lookup f1 = some ⟨oc1, od1, .func (PySem.W.fnOf "threshold" "threshold" (defArgs s_threshold) (defBody s_threshold) (defScope s_threshold) .none kV1 dc1 pm1 an1 cd1 ct1), sl1⟩)
    (c1 : PySem.W.codeIn K cd1 "threshold" = true)
    (k1 : PySem.W.keepIn K (.ref f1) = true)
    (l2 : K.lookup f2 = some ⟨oc2, od2, .func (PySem.W.fnOf "minority" "minority" (defArgs s_minority) (defBody s_minority) (defScope s_minority) .none kV2 dc2 pm2 an2 cd2 ct2), sl2⟩)
    (c2 : PySem.W.codeIn K cd2 "minority" = true)
    (k2 : PySem.W.keepIn K (.ref f2) = true)
    (l3 : K.lookup f3 = some ⟨oc3, od3, .func (PySem.W.fnOf "_law_pot" "_law_pot" (defArgs s_L_pot) (defBody s_L_pot) (defScope s_L_pot) .none kV3 dc3 pm3 an3 cd3 ct3), sl3⟩)
    (c3 : PySem.W.codeIn K cd3 "_law_pot" = true)
    (k3 : PySem.W.keepIn K (.ref f3) = true)
    (l4 : K.lookup f4 = some ⟨oc4, od4, .func (PySem.W.fnOf "_law_next" "_law_next" (defArgs s_L_next) (defBody s_L_next) (defScope s_L_next) .none kV4 dc4 pm4 an4 cd4 ct4), sl4⟩)
    (c4 : PySem.W.codeIn K cd4 "_law_next" = true)
    (k4 : PySem.W.keepIn K (.ref f4) = true)
    (l5 : K.lookup f5 = some ⟨oc5, od5, .func (PySem.W.fnOf "_law_set" "_law_set" (defArgs s_L_set) (defBody s_L_set) (defScope s_L_set) .none kV5 dc5 pm5 an5 cd5 ct5), sl5⟩)
    (c5 : PySem.W.codeIn K cd5 "_law_set" = true)
    (k5 : PySem.W.keepIn K (.ref f5) = true)
    (l6 : K.lookup f6 = some ⟨oc6, od6, .func (PySem.W.fnOf "_law_total" "_law_total" (defArgs s_L_total) (defBody s_L_total) (defScope s_L_total) .none kV6 dc6 pm6 an6 cd6 ct6), sl6⟩)
    (c6 : PySem.W.codeIn K cd6 "_law_total" = true)
    (k6 : PySem.W.keepIn K (.ref f6) = true)
    (l7 : K.lookup f7 = some ⟨oc7, od7, .func (PySem.W.fnOf "_law_group" "_law_group" (defArgs s_L_group) (defBody s_L_group) (defScope s_L_group) .none kV7 dc7 pm7 an7 cd7 ct7), sl7⟩)
    (c7 : PySem.W.codeIn K cd7 "_law_group" = true)
    (k7 : PySem.W.keepIn K (.ref f7) = true)
    (l8 : K.lookup f8 = some ⟨oc8, od8, .func (PySem.W.fnOf "law" "law" (defArgs s_law) (defBody s_law) (defScope s_law) .none kV8 dc8 pm8 an8 cd8 ct8), sl8⟩)
    (c8 : PySem.W.codeIn K cd8 "law" = true)
    (k8 : PySem.W.keepIn K (.ref f8) = true)
    (z0 : PySem.W.nsIn K mainGlobals "abs" = some none)
    (z1 : PySem.W.nsIn K mainGlobals "int" = some none)
    (z2 : PySem.W.nsIn K mainGlobals "len" = some none)
    (z3 : PySem.W.nsIn K mainGlobals "list" = some none)
    (z4 : PySem.W.nsIn K mainGlobals "range" = some none)
    (z5 : PySem.W.nsIn K mainGlobals "str" = some none)
    (z6 : PySem.W.nsIn K mainGlobals "sum" = some none)
    (z7 : PySem.W.nsIn K mainGlobals "tuple" = some none) :
    ∃ fd : FuncData, (∀ (s : Shared) (v : Value), BindsTo s fd ⟨[v], []⟩ [("script", v)]) ∧ ∀ base : Heap, K.In base → base.Ns mainGlobals mg → FnOk l.prog w K mg base CX0 4 fa fd ["script"] (spLaw K) := by
  have e := hfa.symm.trans (PySem.W.mg_of X G a8)
  cases e
  exact ⟨PySem.W.fnOf "law" "law" (defArgs s_law) (defBody s_law) (defScope s_law) .none kV8 dc8 pm8 an8 cd8 ct8, fun s v => .of_eq rfl, fun base _ _ => ok_law (txt_mk X G a0 a1 a2 a3 a4 a5 a6 a7 a8 l0 c0 k0 l1 c1 k1 l2 c2 k2 l3 c3 k3 l4 c4 k4 l5 c5 k5 l6 c6 k6 l7 c7 k7 l8 c8 k8 z0 z1 z2 z3 z4 z5 z6 z7)⟩
end Pf
open PySem PySem.W PyProof.Rows
set_option maxRecDepth 100000 in
set_option maxHeartbeats 0 in
theorem PySem.Challenge.cw_vaultbridge_k01_quorums_meet_holds : PySem.Challenge.rw_vaultbridge_k01_quorums_meet.Holds := by
  w_on; o_law; k_head; (case hw => w_witness2)
  k_fill
  refine L2.walk_of (l := PySem.Challenge.rw_vaultbridge_k01_quorums_meet) (n := 63) (k := 4) (x := "script") (CX := fun _ => L2.CX0) (sp := fun w => Pf.spLaw _) rfl (by decide) rfl ⟨rfl, by decide, by decide⟩ (fun w h Y => PySem.W.kIn_of Y) ?F (fun _ _ a ns hl _ hS => ⟨a, ns, rfl, hS, hl, fun _ => rfl⟩) (fun _ _ _ _ _ h => h)
  case F =>
    intro w mg fa h KX G hmg
    refine' Pf.all_mk KX G hmg ?a0 ?a1 ?a2 ?a3 ?a4 ?a5 ?a6 ?a7 ?a8 ?l0 ?c0 ?k0 ?l1 ?c1 ?k1 ?l2 ?c2 ?k2 ?l3 ?c3 ?k3 ?l4 ?c4 ?k4 ?l5 ?c5 ?k5 ?l6 ?c6 ?k6 ?l7 ?c7 ?k7 ?l8 ?c8 ?k8 ?z0 ?z1 ?z2 ?z3 ?z4 ?z5 ?z6 ?z7
    (case a0 => k_is)
    (case a1 => k_is)
    (case a2 => k_is)
    (case a3 => k_is)
    (case a4 => k_is)
    (case a5 => k_is)
    (case a6 => k_is)
    (case a7 => k_is)
    (case a8 => k_is)
    (case l0 => k_is)
    (case c0 => k_is)
    (case k0 => k_is)
    (case l1 => k_is)
    (case c1 => k_is)
    (case k1 => k_is)
    (case l2 => k_is)
    (case c2 => k_is)
    (case k2 => k_is)
    (case l3 => k_is)
    (case c3 => k_is)
    (case k3 => k_is)
    (case l4 => k_is)
    (case c4 => k_is)
    (case k4 => k_is)
    (case l5 => k_is)
    (case c5 => k_is)
    (case k5 => k_is)
    (case l6 => k_is)
    (case c6 => k_is)
    (case k6 => k_is)
    (case l7 => k_is)
    (case c7 => k_is)
    (case k7 => k_is)
    (case l8 => k_is)
    (case c8 => k_is)
    (case k8 => k_is)
    (case z0 => k_is)
    (case z1 => k_is)
    (case z2 => k_is)
    (case z3 => k_is)
    (case z4 => k_is)
    (case z5 => k_is)
    (case z6 => k_is)
    (case z7 => k_is)

