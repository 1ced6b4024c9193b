
import PyProof.Rows.All
import HandS.WordsExc
import HandS.SetKeys
import HandS.Flow
import HandS.ExcIs
import HandS.Sort
import PyProof.SumWalkG
import HandS.FStr
import HandS.Small
import HandS.More
import Wide.All
import OpenK.AllK
import Wide.FinOn
import HandS.ForMost
import HandS.TupAny
import HandS.Deep
import HandS.IsInst
import HandS.Style
import HandS.Steps
import HandS.Evl
import HandS.Defaults
import HandS.MakeKwOnly
import PySem.Challenge.RW_vaultbridge_k24_configuration
set_option Elab.async false
set_option linter.all false
set_option maxRecDepth 100000
set_option maxHeartbeats 1000000
namespace Pf
open PySem PySem.Spec PyProof.Rows L2


/-! readings, one step a lemma -/
section
open PySem PySem.Spec PyProof.Rows L2
variable {K : PySem.W.Frag} {σ : L2.St} {H H1 H' : Hp} {Q : VK} {D : Ends} {t u : TS} {ta tb tc te : TE} {tt tu : TT} {tr : TA} {g : TG} {v x y : V} {i j : Int} {a b p l : Addr} {xs ys : List V} {o : HO}

/-! heaps -/
theorem upd_new {c : Addr} {w : HO} (hb : H b = none) (h : H c = some o) : upd H b w c = some o := by
  rw [upd_ne (ne_of_none h hb)]; exact h
theorem upd_other {c : Addr} {w : HO} (hb : c ≠ b) (h : H c = some o) : upd H b w c = some o := by
  rw [upd_ne hb]; exact h
theorem upd_free {c : Addr} {w : HO} (hb : c ≠ b) (h : H c = none) : upd H b w c = none := by
  rw [upd_ne hb]; exact h
theorem upd_none_ne {c : Addr} {w : HO} (h : upd H b w c = none) : c ≠ b := fun e => by rw [e, upd_same] at h; cases h
theorem upd_none_back {c : Addr} {w : HO} (h : upd H b w c = none) : H c = none := by rw [upd_ne (upd_none_ne h)] at h; exact h
/-- everything but p stays -/
def Kp (p : Addr) (H H' : Hp) : Prop := ∀ b o, H b = some o → b ≠ p → H' b = some o
theorem Kp.get {c : Addr} (k : Kp p H H') (h : H c = some o) (n : c ≠ p) : H' c = some o := k c o h n
theorem Kp.refl : Kp p H H := fun _ _ h _ => h
theorem Kp.trans (k : Kp p H H1) (k2 : Kp p H1 H') : Kp p H H' := fun b o h n => k2 b o (k b o h n) n
theorem Kp.upd {w : HO} (k : Kp p H H') : Kp p H (upd H' p w) := fun b o h n => upd_other n (k b o h n)
theorem Kp.new {w : HO} (k : Kp p H H') (h : H a = none) : Kp p H (L2.upd H' a w) := fun b o hb n => upd_other (ne_of_none hb h) (k b o hb n)
theorem Kp.fresh (k : Kp p H H') (hp : H p = some o) (h : H' a = none) (n : a ≠ p) : H a = none := by
  cases q : H a with
  | none => rfl
  | some w => rw [k a w q n] at h; cases h
theorem Same.get {c : Addr} (k : Same H H') (h : H c = some o) : H' c = some o := k c o h
theorem Same.new {w : HO} (k : Same H H') (h : H a = none) : Same H (L2.upd H' a w) := fun b o hb => upd_other (ne_of_none hb h) (k b o hb)
theorem Same.up {w : HO} (k : Same H H') (h : H' a = none) : Same H (L2.upd H' a w) := Same.new k (Same.free k h)
theorem Same.kp (k : Same H H') : Kp p H H' := fun b o h _ => k b o h
theorem sqL (h : H a = some (.lst xs)) : SqL K H a xs := .inl (.inl h)
theorem sqT (h : H a = some (.tup xs)) : SqT K H a xs := .inl (.inl h)

/-- a tuple of the written part -/
def SqTK (K : PySem.W.Frag) (a : Addr) (xs : List V) : Prop := ∃ (o : Obj) (its : Array Value) (n : Nat), K.lookup a = some o ∧ o.cls = .type "tuple" ∧ o.data = .seq its n ∧ its.size ≤ sizeLine ∧ Vals xs its.toList
theorem SqTK.sq {xs : List V} (h : SqTK K a xs) : SqT K H a xs := .inr h
def relB : V → Value → Bool
  | .str x, .str z _ => decide (x = z)
  | .int i, .int k _ => decide (i = k)
  | _, _ => false
theorem relB_rel : ∀ {x : V} {u : Value}, relB x u = true → RelV x u := by
  intro x u h
  cases x <;> cases u <;> first | (cases h; done) | skip
  · have e := of_decide_eq_true h
    subst e
    exact ⟨_, rfl⟩
  · have e := of_decide_eq_true h
    subst e
    exact ⟨_, rfl⟩
def ValsB : List V → List Value → Bool
  | [], [] => true
  | x :: xs, u :: us => relB x u && ValsB xs us
  | _, _ => false
theorem ValsB.vals : ∀ {xs : List V} {us : List Value}, ValsB xs us = true → Vals xs us
  | [], [], _ => .nil
  | [], _ :: _, h => by cases h
  | _ :: _, [], h => by cases h
  | x :: xs, u :: us, h => by
    have h : (relB x u && ValsB xs us) = true := h
    rw [Bool.and_eq_true] at h
    exact .cons (relB_rel h.1) (ValsB.vals h.2)
theorem ValsB.size {xs : List V} {its : Array Value} (h : ValsB xs its.toList = true) (hl : xs.length ≤ sizeLine) : its.size ≤ sizeLine := by
  have e := (ValsB.vals h).length
  have : its.toList.length = its.size := rfl
  omega
theorem hr65 {A : Around} {k : Nat} (hr : Room k A) : A.units + 65 < cLine := by have := hr.un; omega
theorem Same.sqT {xs : List V} (e : Same H H') (h : SqT K H a xs) : SqT K H' a xs := by
  rcases h with (h | ⟨o, h⟩) | h
  · exact .inl (.inl (e _ _ h))
  · exact .inl (.inr ⟨o, e _ _ h⟩)
  · exact .inr h
/-! statements -/
theorem q_seq (h : t { D with nx := u D } σ H) : tSeq t u D σ H := h
theorem q_next (h : D.nx σ H) : tNext D σ H := h
theorem q_brk (h : D.bk σ H) : tBreak D σ H := h
theorem q_ct (h : D.ct σ H) : tCont D σ H := h
theorem q_nx {f : L2.St → Hp → Prop} {r : VK} {b c : L2.St → Hp → Prop} (h : f σ H) : Ends.nx ⟨f, r, b, c⟩ σ H := h
theorem q_bk {f : L2.St → Hp → Prop} {r : VK} {b c : L2.St → Hp → Prop} (h : b σ H) : Ends.bk ⟨f, r, b, c⟩ σ H := h
theorem q_cn {f : L2.St → Hp → Prop} {r : VK} {b c : L2.St → Hp → Prop} (h : c σ H) : Ends.ct ⟨f, r, b, c⟩ σ H := h
theorem q_rt {f : L2.St → Hp → Prop} {r : VK} {b c : L2.St → Hp → Prop} (h : r v H) : Ends.rt ⟨f, r, b, c⟩ v H := h
theorem q_drop (h : te σ H fun _ H1 => D.nx σ H1) : tDrop te D σ H := h
theorem q_ret (h : te σ H D.rt) : tRet te D σ H := h
theorem q_retN (h : D.rt .non H) : tRetN D σ H := h
def ifK (D : Ends) (t u : TS) (σ : L2.St) : Bool → Hp → Prop := fun b H => if b = true then t D σ H else u D σ H
theorem q_ifS (h : tt σ H (ifK D t u σ)) : tIfS tt t u D σ H := h
theorem q_ifT (h : t D σ H) : ifK D t u σ true H := iteT h
theorem q_ifF (h : u D σ H) : ifK D t u σ false H := iteF h
theorem q_if2 {c : Bool} (h : c = true → t D σ H) (h2 : c = false → u D σ H) : ifK D t u σ c H := by
  cases c with
  | true => exact iteT (h rfl)
  | false => exact iteF (h2 rfl)
theorem q_asg (h : te σ H fun x H1 => g x σ H1 D.nx) : tAsg te g D σ H := h
theorem q_gName {n : Nat} {R : L2.St → Hp → Prop} (h : R (σ.set n (some v)) H) : gName n v σ H R := h
theorem q_gTup {n : Nat} {tg : TGs} {R : L2.St → Hp → Prop} (h : SqT K H a xs) (hn : xs.length = n) (k : tg xs σ H R) : gTup K n tg (.ref a) σ H R := ⟨a, xs, rfl, h, hn, k⟩
theorem q_gCons {tg : TGs} {R : L2.St → Hp → Prop} (k : g v σ H fun σ' H' => tg xs σ' H' R) : gCons g tg (v :: xs) σ H R := ⟨v, xs, rfl, k⟩
theorem q_gNil {R : L2.St → Hp → Prop} (k : R σ H) : gNil [] σ H R := ⟨rfl, k⟩
theorem q_gSub {to ti : TE} {ts : TSet} {R : L2.St → Hp → Prop} (k : to σ H fun o H1 => ti σ H1 fun i H2 => ts o i v H2 fun H3 => R σ H3) : gSub to ti ts v σ H R := k
theorem q_setL {R : Hp → Prop} {n : Nat} (h : H p = some (.lst xs)) (hi : ixN xs.length i = some n) (k : R (upd H p (.lst (xs.set n v)))) : rSetL (.ref p) (.int i) v H R := ⟨p, xs, i, n, rfl, rfl, h, hi, k⟩
theorem q_aug {n : Nat} {ti : TIp} (hx : σ[n]? = some (some x)) (h : te σ H fun y H1 => ti x y H1 fun z H2 => D.nx (σ.set n (some z)) H2) : tAug n te ti D σ H := ⟨x, hx, h⟩
theorem q_ipI {f : Int → Int → Int} (k : Q (.int (f i j)) H) : ipI f (.int i) (.int j) H Q := ⟨i, j, rfl, rfl, k⟩
theorem q_cut {Mid : L2.St → Hp → Prop} (h : t { D with nx := Mid } σ H) (k : ∀ σ' H', Mid σ' H' → u D σ' H') : Evl.tCut t u D σ H := ⟨Mid, h, k⟩
theorem dec_t {c : Prop} [Decidable c] (h : decide c = true) : c := of_decide_eq_true h
theorem dec_f {c : Prop} [Decidable c] (h : decide c = false) : ¬ c := of_decide_eq_false h
theorem ndec_t {c : Prop} [Decidable c] (h : (!decide c) = true) : ¬ c := fun q => by rw [decide_eq_true q] at h; cases h
theorem ndec_f {c : Prop} [Decidable c] (h : (!decide c) = false) : c := by
  by_cases q : c
  · exact q
  · rw [decide_eq_false q] at h; cases h
def forK (g : TG) (tb : TS) (D : Ends) (σ : L2.St) : It → Hp → Prop := fun J H1 => ∃ W : Nat → Nat → L2.St → Hp → Prop, (∃ m, W 0 m σ H1) ∧ ∀ i m σ H, W i m σ H →
  (J.stop i H ∧ D.nx σ H) ∨ (J.go i H ∧ ∃ N : L2.St → Hp → Prop, (∀ σ' H', N σ' H' → ∃ m', m' < m ∧ W (i + 1) m' σ' H') ∧ ∀ x H', J.yld i H x H' → g x σ H' fun σ2 H2 => tb { D with nx := N, ct := N, bk := D.nx } σ2 H2)
theorem q_for {wi : TI} (h : wi σ H (forK g t D σ)) : tFor wi g t D σ H := h
theorem q_iList {R : It → Hp → Prop} (h : te σ H fun x H1 => ∃ a, x = .ref a ∧ (∃ xs, SqL K H1 a xs) ∧ R (Itl K a) H1) : iList K te σ H R := h
theorem q_iTup {R : It → Hp → Prop} (h : te σ H fun x H1 => ∃ a, x = .ref a ∧ (∃ xs, SqT K H1 a xs) ∧ R (Itt K a) H1) : iTup K te σ H R := h
theorem q_forL {S : List V} (h : SqL K H a S) (Pv : Nat → L2.St → Hp → Prop) (h0 : Pv 0 σ H) (hl : ∀ i σ H, i ≤ S.length → Pv i σ H → SqL K H a S)
    (hs : ∀ i x σ H, S[i]? = some x → Pv i σ H → g x σ H fun σ2 H2 => t { D with nx := Pv (i + 1), ct := Pv (i + 1), bk := D.nx } σ2 H2) (hd : ∀ σ H, Pv S.length σ H → D.nx σ H) :
    ∃ b, V.ref a = .ref b ∧ (∃ xs, SqL K H b xs) ∧ forK g t D σ (Itl K b) H := ⟨a, rfl, ⟨S, h⟩, for_list Pv h0 hl hs hd⟩
theorem q_forT {S : List V} (h : SqT K H a S) (Pv : Nat → L2.St → Hp → Prop) (h0 : Pv 0 σ H) (hl : ∀ i σ H, i ≤ S.length → Pv i σ H → SqT K H a S)
    (hs : ∀ i x σ H, S[i]? = some x → Pv i σ H → g x σ H fun σ2 H2 => t { D with nx := Pv (i + 1), ct := Pv (i + 1), bk := D.nx } σ2 H2) (hd : ∀ σ H, Pv S.length σ H → D.nx σ H) :
    ∃ b, V.ref a = .ref b ∧ (∃ xs, SqT K H b xs) ∧ forK g t D σ (Itt K b) H := ⟨a, rfl, ⟨S, h⟩, for_tup Pv h0 hl hs hd⟩
def rg1K (R : It → Hp → Prop) : List V → Hp → Prop := fun vs H1 => ∃ j : Int, vs = [.int j] ∧ -(2 ^ 62) ≤ j ∧ j < 2 ^ 62 ∧ R (Itr 0 j.toNat) H1
theorem q_iRng1 {R : It → Hp → Prop} (h : tr σ H (rg1K R)) : iRng1 tr σ H R := h
theorem q_forR (hj : 0 ≤ j ∧ j < 1000000000000000) (Pv : Nat → L2.St → Hp → Prop) (h0 : Pv 0 σ H)
    (hs : ∀ (i : Nat) σ H, (i : Int) < j → Pv i σ H → g (.int i) σ H fun σ2 H2 => t { D with nx := Pv (i + 1), ct := Pv (i + 1), bk := D.nx } σ2 H2) (hd : ∀ σ H, Pv j.toNat σ H → D.nx σ H) :
    rg1K (forK g t D σ) [.int j] H := ⟨j, rfl, by omega, by omega, for_range Pv h0 (fun i σ H hi hp => by have e : (0 : Int) + (i : Int) = (i : Int) := Int.zero_add _; rw [e]; exact hs i σ H (by omega) hp) hd⟩

/-! tests and values -/
def bK (Q : Bool → Hp → Prop) : VK := fun x H => ∃ k, x = .bl k ∧ Q k H
theorem q_test {R : Bool → Hp → Prop} (h : te σ H (bK R)) : tTest te σ H R := h
theorem q_tB {R : Bool → Hp → Prop} (h : te σ H (bK R)) : tB te σ H R := h
theorem q_bK {R : Bool → Hp → Prop} {c : Bool} (k : R c H) : bK R (.bl c) H := ⟨c, rfl, k⟩
def andK (u : TT) (σ : L2.St) (R : Bool → Hp → Prop) : Bool → Hp → Prop := fun c H1 => if c = true then u σ H1 R else R false H1
def orK (u : TT) (σ : L2.St) (R : Bool → Hp → Prop) : Bool → Hp → Prop := fun c H1 => if c = true then R true H1 else u σ H1 R
theorem q_and {R : Bool → Hp → Prop} (h : tt σ H (andK tu σ R)) : tAnd tt tu σ H R := h
theorem q_or {R : Bool → Hp → Prop} (h : tt σ H (orK tu σ R)) : tOr tt tu σ H R := h
theorem q_andT {R : Bool → Hp → Prop} (h : tu σ H R) : andK tu σ R true H := iteT h
theorem q_andF {R : Bool → Hp → Prop} (h : R false H) : andK tu σ R false H := iteF h
theorem q_orT {R : Bool → Hp → Prop} (h : R true H) : orK tu σ R true H := iteT h
theorem q_orF {R : Bool → Hp → Prop} (h : tu σ H R) : orK tu σ R false H := iteF h
theorem q_and2 {R : Bool → Hp → Prop} {c : Bool} (h : c = true → tu σ H R) (h2 : c = false → R false H) : andK tu σ R c H := by
  cases c with
  | true => exact iteT (h rfl)
  | false => exact iteF (h2 rfl)
theorem q_or2 {R : Bool → Hp → Prop} {c : Bool} (h : c = true → R true H) (h2 : c = false → tu σ H R) : orK tu σ R c H := by
  cases c with
  | true => exact iteT (h rfl)
  | false => exact iteF (h2 rfl)
def notK (R : Bool → Hp → Prop) : Bool → Hp → Prop := fun c H1 => R (!c) H1
theorem q_not {R : Bool → Hp → Prop} (h : tt σ H (notK R)) : tNot tt σ H R := h
theorem q_notKT {R : Bool → Hp → Prop} (h : R false H) : notK R true H := h
theorem q_notKF {R : Bool → Hp → Prop} (h : R true H) : notK R false H := h
theorem q_notK {R : Bool → Hp → Prop} {c : Bool} (h : R (!c) H) : notK R c H := h
def andVK (tb : TE) (σ : L2.St) (Q : VK) : VK := fun x H1 => ∃ c, x = .bl c ∧ if c = true then tb σ H1 Q else Q (.bl false) H1
def orVK (tb : TE) (σ : L2.St) (Q : VK) : VK := fun x H1 => ∃ c, x = .bl c ∧ if c = true then Q (.bl true) H1 else tb σ H1 Q
theorem q_andV (h : ta σ H (andVK tb σ Q)) : tAndV ta tb σ H Q := h
theorem q_orV (h : ta σ H (orVK tb σ Q)) : tOrV ta tb σ H Q := h
theorem q_andVT (h : tb σ H Q) : andVK tb σ Q (.bl true) H := ⟨true, rfl, iteT h⟩
theorem q_andVF (h : Q (.bl false) H) : andVK tb σ Q (.bl false) H := ⟨false, rfl, iteF h⟩
theorem q_orVT (h : Q (.bl true) H) : orVK tb σ Q (.bl true) H := ⟨true, rfl, iteT h⟩
theorem q_orVF (h : tb σ H Q) : orVK tb σ Q (.bl false) H := ⟨false, rfl, iteF h⟩
theorem q_andV2 {c : Bool} (h : c = true → tb σ H Q) (h2 : c = false → Q (.bl false) H) : andVK tb σ Q (.bl c) H := by
  cases c with
  | true => exact q_andVT (h rfl)
  | false => exact q_andVF (h2 rfl)
theorem q_orV2 {c : Bool} (h : c = true → Q (.bl true) H) (h2 : c = false → tb σ H Q) : orVK tb σ Q (.bl c) H := by
  cases c with
  | true => exact q_orVT (h rfl)
  | false => exact q_orVF (h2 rfl)
def notVK (Q : VK) : VK := fun x H1 => ∃ c, x = .bl c ∧ Q (.bl (!c)) H1
theorem q_notV (h : ta σ H (notVK Q)) : tNotV ta σ H Q := h
theorem q_notVK {c : Bool} (k : Q (.bl (!c)) H) : notVK Q (.bl c) H := ⟨c, rfl, k⟩
def ifEK (ta tb : TE) (σ : L2.St) (Q : VK) : Bool → Hp → Prop := fun c H1 => if c = true then ta σ H1 Q else tb σ H1 Q
theorem q_ifE (h : tt σ H (ifEK ta tb σ Q)) : tIf tt ta tb σ H Q := h
theorem q_ifET (h : ta σ H Q) : ifEK ta tb σ Q true H := iteT h
theorem q_ifEF (h : tb σ H Q) : ifEK ta tb σ Q false H := iteF h
theorem q_ifE2 {c : Bool} (h : c = true → ta σ H Q) (h2 : c = false → tb σ H Q) : ifEK ta tb σ Q c H := by
  cases c with
  | true => exact iteT (h rfl)
  | false => exact iteF (h2 rfl)
theorem q_yes {R : Bool → Hp → Prop} (k : R true H) : tYes σ H R := k
theorem q_var {n : Nat} (h : σ[n]? = some (some v)) (k : Q v H) : tVar n σ H Q := ⟨v, h, k⟩
theorem q_c (k : Q v H) : tC v σ H Q := k
theorem q_op {r : R2} (h : ta σ H fun x H1 => tb σ H1 fun y H2 => r x y H2 Q) : tOp r ta tb σ H Q := h
theorem q_un {r : V → Hp → VK → Prop} (h : ta σ H fun x H1 => r x H1 Q) : tUn r ta σ H Q := h
theorem q_rU {f : Int → V} (k : Q (f i) H) : rU f (.int i) H Q := ⟨i, rfl, k⟩
theorem q_I0 {f : Int → Int → V} (k : Q (f i j) H) : rI0 f (.int i) (.int j) H Q := ⟨i, j, rfl, rfl, k⟩
theorem q_I {C : Int → Int → Prop} {f : Int → Int → V} (hc : C i j) (k : Q (f i j) H) : rI C f (.int i) (.int j) H Q := ⟨i, j, rfl, rfl, hc, k⟩
theorem q_eq (hs : scal x y = true) (k : Q (.bl (decide (x = y))) H) : rEq x y H Q := ⟨hs, k⟩
theorem q_ne (hs : scal x y = true) (k : Q (.bl (!decide (x = y))) H) : rNe x y H Q := ⟨hs, k⟩
theorem dec_int (i j : Int) : decide (V.int i = V.int j) = decide (i = j) := by
  by_cases h : i = j
  · subst h; simp
  · rw [decide_eq_false h, decide_eq_false (fun e => h (V.int.inj e))]
theorem q_eqI (k : Q (.bl (decide (i = j))) H) : rEq (.int i) (.int j) H Q := ⟨rfl, by rw [dec_int]; exact k⟩
theorem q_neI (k : Q (.bl (!decide (i = j))) H) : rNe (.int i) (.int j) H Q := ⟨rfl, by rw [dec_int]; exact k⟩
theorem dec_str (i j : Str) : decide (V.str i = V.str j) = decide (i = j) := by
  by_cases h : i = j
  · subst h; simp
  · rw [decide_eq_false h, decide_eq_false (fun e => h (V.str.inj e))]
theorem q_eqS {s z : Str} (k : Q (.bl (decide (s = z))) H) : rEq (.str s) (.str z) H Q := ⟨rfl, by rw [dec_str]; exact k⟩
theorem q_neS {s z : Str} (k : Q (.bl (!decide (s = z))) H) : rNe (.str s) (.str z) H Q := ⟨rfl, by rw [dec_str]; exact k⟩
theorem q_ixL (h : SqL K H p xs) (ha : atI xs i = some v) (k : Q v H) : rIxL K (.ref p) (.int i) H Q := ⟨p, xs, i, v, rfl, rfl, h, ha, k⟩
theorem q_ixT (h : SqT K H p xs) (ha : atI xs i = some v) (k : Q v H) : rIxT K (.ref p) (.int i) H Q := ⟨p, xs, i, v, rfl, rfl, h, ha, k⟩
theorem q_ixLt (h : H p = some (.lst xs)) (ha : atI xs i = some v) (k : Q v H) : rIxL K (.ref p) (.int i) H Q := q_ixL (sqL h) ha k
theorem q_ixTt (h : H p = some (.tup xs)) (ha : atI xs i = some v) (k : Q v H) : rIxT K (.ref p) (.int i) H Q := q_ixT (sqT h) ha k
theorem q_ixSL (h : SqL K H p xs) (ha : atI xs i = some v) (k : Q v H) : rIx K (.ref p) (.int i) H Q := .inl ⟨p, xs, i, v, rfl, rfl, h, ha, k⟩
theorem q_ixST (h : SqT K H p xs) (ha : atI xs i = some v) (k : Q v H) : rIx K (.ref p) (.int i) H Q := .inr (.inl ⟨p, xs, i, v, rfl, rfl, h, ha, k⟩)
theorem at_int {α : Type} {xs : List α} {i : Int} {x : α} {n : Nat} (e : i = (n : Int)) (h : xs[n]? = some x) : atI xs i = some x := by rw [e]; exact atI_nat h
theorem q_tNil {R : List V → Hp → Prop} (k : R [] H) : tNil σ H R := k
theorem q_tCons {R : List V → Hp → Prop} (h : ta σ H fun x H1 => tr σ H1 fun xs H2 => R (x :: xs) H2) : tCons ta tr σ H R := h
def tupK (Q : VK) : List V → Hp → Prop := fun xs H1 => xs.length ≤ sizeLine ∧ ∀ p, H1 p = none → Q (.ref p) (upd H1 p (.tup xs))
def lstK (Q : VK) : List V → Hp → Prop := fun xs H1 => xs.length ≤ sizeLine ∧ ∀ p, H1 p = none → Q (.ref p) (upd H1 p (.lst xs))
theorem q_tup (h : tr σ H (tupK Q)) : tTup tr σ H Q := h
theorem q_lst (h : tr σ H (lstK Q)) : tLst tr σ H Q := h
theorem q_tupK (hl : xs.length ≤ sizeLine) (k : ∀ p, H p = none → Q (.ref p) (upd H p (.tup xs))) : tupK Q xs H := ⟨hl, k⟩
theorem q_lstK (hl : xs.length ≤ sizeLine) (k : ∀ p, H p = none → Q (.ref p) (upd H p (.lst xs))) : lstK Q xs H := ⟨hl, k⟩
theorem q_cb {r : List V → Hp → VK → Prop} (h : tr σ H fun vs H1 => r vs H1 Q) : tCB r tr σ H Q := h
def callK (sp : Sp) (dvs : List V) (E : XK) (Q : VK) : List V → Hp → Prop := fun vs H1 => sp (vs ++ dvs) H1 Q E
theorem q_call {sp : Sp} {dvs : List V} {E : XK} (h : tr σ H (callK sp dvs E Q)) : tCall sp dvs E tr σ H Q := h
theorem q_callK {sp : Sp} {E : XK} (h : sp xs H Q E) : callK sp [] E Q xs H := by unfold callK; rw [List.append_nil]; exact h

/-! built-ins, by names of our own -/
def rLenQ (K : PySem.W.Frag) : List V → Hp → VK → Prop := fun xs H Q => ∃ p ys, xs = [.ref p] ∧ (SqL K H p ys ∨ SqT K H p ys) ∧ Q (.int ys.length) H
theorem cq_len {X : Cx} : CallR X (.builtin "len") (rLenQ X.K) := call_len_seq
theorem q_lenL (h : SqL K H p xs) (k : Q (.int xs.length) H) : rLenQ K [.ref p] H Q := ⟨p, xs, rfl, .inl h, k⟩
theorem q_lenT (h : SqT K H p xs) (k : Q (.int xs.length) H) : rLenQ K [.ref p] H Q := ⟨p, xs, rfl, .inr h, k⟩
theorem q_lenLt (h : H p = some (.lst xs)) (k : Q (.int xs.length) H) : rLenQ K [.ref p] H Q := q_lenL (sqL h) k
theorem q_lenTt (h : H p = some (.tup xs)) (k : Q (.int xs.length) H) : rLenQ K [.ref p] H Q := q_lenT (sqT h) k
def rLenD : List V → Hp → VK → Prop := fun xs H Q => ∃ a kvs, xs = [V.ref a] ∧ H a = some (.dK kvs) ∧ Q (.int kvs.length) H
def rLenS : List V → Hp → VK → Prop := fun xs H Q => ∃ x : Str, xs = [.str x] ∧ x.length ≤ sizeLine ∧ Q (.int x.length) H
theorem cq_lenS {X : Cx} : CallR X (.builtin "len") rLenS := by
  intro pins s σ H xs us Q I r h
  obtain ⟨x, e, hl, q⟩ := h
  exact call_len pins s σ H xs us Q I r ⟨.str x, x.length, e, ⟨hl, rfl⟩, q⟩
theorem q_lenS {x : Str} (hl : x.length ≤ sizeLine) (k : Q (.int x.length) H) : rLenS [.str x] H Q := ⟨x, rfl, hl, k⟩
def rAbs : List V → Hp → VK → Prop := fun xs H Q => ∃ i, xs = [.int i] ∧ Q (.int (if i < 0 then -i else i)) H
theorem cq_abs {X : Cx} : CallR X (.builtin "abs") rAbs := call_abs
theorem q_abs (k : Q (.int (if i < 0 then -i else i)) H) : rAbs [.int i] H Q := ⟨i, rfl, k⟩
def rInt1 : List V → Hp → VK → Prop := fun xs H Q => (∃ i, xs = [.int i] ∧ Q (.int i) H) ∨ ∃ k, xs = [.bl k] ∧ Q (.int (if k then 1 else 0)) H
theorem cq_int1 {X : Cx} : CallR X (.type "int") rInt1 := call_int1
theorem q_int1 (k : Q (.int i) H) : rInt1 [.int i] H Q := .inl ⟨i, rfl, k⟩
def rStrInt : List V → Hp → VK → Prop := fun xs H Q => ∃ i, xs = [.int i] ∧ i.natAbs.log2 < 1920 ∧ Q (.str (toString i)) H
theorem cq_strInt {X : Cx} : CallR X (.type "str") rStrInt := call_str_int
theorem q_strInt (hb : i.natAbs.log2 < 1920) (k : Q (.str (toString i)) H) : rStrInt [.int i] H Q := ⟨i, rfl, hb, k⟩
def rListOf (K : PySem.W.Frag) : List V → Hp → VK → Prop := fun xs H Q => ∃ p ys, xs = [.ref p] ∧ (SqL K H p ys ∨ SqT K H p ys) ∧ ∀ l, H l = none → Q (.ref l) (upd H l (.lst ys))
theorem cq_listOf {X : Cx} : CallR X (.type "list") (rListOf X.K) := call_list_of
theorem q_listL (h : SqL K H p xs) (k : ∀ l, H l = none → Q (.ref l) (upd H l (.lst xs))) : rListOf K [.ref p] H Q := ⟨p, xs, rfl, .inl h, k⟩
theorem q_listT (h : SqT K H p xs) (k : ∀ l, H l = none → Q (.ref l) (upd H l (.lst xs))) : rListOf K [.ref p] H Q := ⟨p, xs, rfl, .inr h, k⟩
def rTupOf (K : PySem.W.Frag) : List V → Hp → VK → Prop := fun xs H Q => ∃ p ys, xs = [.ref p] ∧ ((SqL K H p ys ∧ ∀ l, H l = none → Q (.ref l) (upd H l (.tup ys))) ∨ (SqT K H p ys ∧ Q (.ref p) H))
theorem cq_tupOf {X : Cx} : CallR X (.type "tuple") (rTupOf X.K) := call_tuple_of
theorem q_tupL (h : SqL K H p xs) (k : ∀ l, H l = none → Q (.ref l) (upd H l (.tup xs))) : rTupOf K [.ref p] H Q := ⟨p, xs, rfl, .inl ⟨h, k⟩⟩
theorem q_sum {ns : List Int} (h : SqL K H a (ns.map V.int)) (k : Q (.int ns.sum) H) : rSum K [.ref a] H Q := ⟨a, ns, rfl, h, k⟩
theorem q_all {bs : List Bool} (h : SqL K H a (bs.map V.bl)) (k : Q (.bl (bs.all id)) H) : rAll K [.ref a] H Q := ⟨a, bs, rfl, h, k⟩
theorem q_any {bs : List Bool} (h : SqL K H a (bs.map V.bl)) (k : Q (.bl (bs.any id)) H) : rAny K [.ref a] H Q := ⟨a, bs, rfl, h, k⟩
def rAddStr : R2 := fun x y H Q => ∃ i j, x = .str i ∧ y = .str j ∧ i.length + j.length ≤ sizeLine ∧ Q (.str (i ++ j)) H
theorem oq_addStr {X : Cx} : OpR X (binaryOp .Add) rAddStr := op_add_str
theorem q_addStr {s z : Str} (hl : s.length + z.length ≤ sizeLine) (k : Q (.str (s ++ z)) H) : rAddStr (.str s) (.str z) H Q := ⟨s, z, rfl, rfl, hl, k⟩
theorem q_isN' (k : Q (.bl (decide (x = .non))) H) : rIsN x .non H Q := ⟨rfl, k⟩
theorem q_notN' (k : Q (.bl (!decide (x = .non))) H) : rNotN x .non H Q := ⟨rfl, k⟩
theorem q_inD {d : PyData} {ds : List PyData} (hd : Dp K H x d) (hy : Dp K H y (.list ds)) (s1 : SeqAt.shaped d = true) (s2 : SeqAt.shaped (.list ds) = true) (k : Q (.bl (ds.any fun z => PyData.eqv z d)) H) : rInD K x y H Q := ⟨d, ds, hd, hy, s1, s2, k⟩
theorem q_notInD {d : PyData} {ds : List PyData} (hd : Dp K H x d) (hy : Dp K H y (.list ds)) (s1 : SeqAt.shaped d = true) (s2 : SeqAt.shaped (.list ds) = true) (k : Q (.bl (!ds.any fun z => PyData.eqv z d)) H) : rNotInD K x y H Q := ⟨d, ds, hd, hy, s1, s2, k⟩
theorem q_ifNT (h : u D σ H) : ifK D t u σ (!true) H := q_ifF h
theorem q_ifNF (h : t D σ H) : ifK D t u σ (!false) H := q_ifT h
theorem q_andNT {R : Bool → Hp → Prop} (h : R false H) : andK tu σ R (!true) H := q_andF h
theorem q_andNF {R : Bool → Hp → Prop} (h : tu σ H R) : andK tu σ R (!false) H := q_andT h
theorem q_orNT {R : Bool → Hp → Prop} (h : tu σ H R) : orK tu σ R (!true) H := q_orF h
theorem q_orNF {R : Bool → Hp → Prop} (h : R true H) : orK tu σ R (!false) H := q_orT h
theorem q_bKNT {R : Bool → Hp → Prop} (h : R false H) : bK R (.bl (!true)) H := q_bK h
theorem q_bKNF {R : Bool → Hp → Prop} (h : R true H) : bK R (.bl (!false)) H := q_bK h
/-! chains, isinstance, texts, dicts -/
def chK2 (r' : R2) (y : V) (tc : TE) (σ : L2.St) (Q : VK) : VK := fun z H3 => ∃ k, z = .bl k ∧ (if k = true then tc σ H3 fun w' H4 => r' y w' H4 Q else Q (.bl false) H3)
theorem q_chain {r r' : R2} (h : ta σ H fun x H1 => tb σ H1 fun y H2 => r x y H2 (chK2 r' y tc σ Q)) : tChain r r' ta tb tc σ H Q := h
theorem q_chT {r' : R2} (h : tc σ H fun w' H4 => r' y w' H4 Q) : chK2 r' y tc σ Q (.bl true) H := ⟨true, rfl, iteT h⟩
theorem q_chF {r' : R2} (h : Q (.bl false) H) : chK2 r' y tc σ Q (.bl false) H := ⟨false, rfl, iteF h⟩
theorem q_ch2 {r' : R2} {c : Bool} (h : c = true → tc σ H fun w' H4 => r' y w' H4 Q) (h2 : c = false → Q (.bl false) H) : chK2 r' y tc σ Q (.bl c) H := by
  cases c with
  | true => exact q_chT (h rfl)
  | false => exact q_chF (h2 rfl)
def rIsiQ (K : PySem.W.Frag) : List V → Hp → VK → Prop := rIsi K
theorem q_isi {n : String} {t : Value} {c : Bool} (ht : TyX K H x t) (hk : PySem.W.kitOne K t (.type n) = some c) (k : Q (.bl c) H) : rIsi K [x, .ty n] H Q := ⟨x, .ty n, t, .type n, c, rfl, .ty n, ht, hk, k⟩
def rOrd : List V → Hp → VK → Prop := fun xs H Q => ∃ x, xs = [.str x] ∧ x.length = 1 ∧ Q (.int (x.cps.getD 0 0 : Nat)) H
theorem cq_ord {X : Cx} : CallR X (.builtin "ord") rOrd := call_ord
theorem q_ord {c : Nat} (k : Q (.int c) H) : rOrd [.str ⟨#[c]⟩] H Q := ⟨_, rfl, rfl, k⟩
theorem q_forS {s : Str} (Pv : Nat → L2.St → Hp → Prop) (h0 : Pv 0 σ H)
    (hs : ∀ i c σ H, s.cps[i]? = some c → Pv i σ H → g (.str ⟨#[c]⟩) σ H fun σ2 H2 => t { D with nx := Pv (i + 1), ct := Pv (i + 1), bk := D.nx } σ2 H2) (hd : ∀ σ H, Pv s.cps.size σ H → D.nx σ H) : forK g t D σ (Its s) H := by
  refine ⟨fun i m σ H => i + m = s.cps.size ∧ Pv i σ H, ⟨s.cps.size, Nat.zero_add _, h0⟩, fun i m σ H hW => ?_⟩
  obtain ⟨e, hp⟩ := hW
  by_cases hi : i < s.cps.size
  · refine .inr ⟨hi, Pv (i + 1), fun σ' H' hN => ⟨m - 1, by omega, by omega, hN⟩, fun x H' hy => ?_⟩
    obtain ⟨rfl, c, hc, rfl⟩ := hy
    exact hs i c σ H' hc hp
  · have e2 : i = s.cps.size := by omega
    subst e2
    exact .inl ⟨Nat.le_refl _, hd σ H hp⟩
theorem q_iStr {s : Str} {R : It → Hp → Prop} (k : R (Its s) H) : ∃ z, V.str s = .str z ∧ R (Its z) H := ⟨s, rfl, k⟩
theorem q_iStr0 {R : It → Hp → Prop} (h : te σ H fun v H1 => ∃ x, v = .str x ∧ R (Its x) H1) : iStr te σ H R := h
def dInK (Q : VK) (y : V) : VK := fun x H2 => ∃ a o, x = .ref a ∧ DGet H2 a y o ∧ Q (.bl o.isSome) H2
def dNInK (Q : VK) (y : V) : VK := fun x H2 => ∃ a o, x = .ref a ∧ DGet H2 a y o ∧ Q (.bl (!o.isSome)) H2
theorem q_tDIn {ty td : TE} (h : ty σ H fun y H1 => td σ H1 (dInK Q y)) : tDIn ty td σ H Q := h
theorem q_tDNotIn {ty td : TE} (h : ty σ H fun y H1 => td σ H1 (dNInK Q y)) : tDNotIn ty td σ H Q := h
theorem q_dInS {kvs : List (Key × V)} {s : Str} (h : H a = some (.dK kvs)) (k : Q (.bl (valV kvs (.inr s)).isSome) H) : dInK Q (.str s) (.ref a) H := ⟨a, _, rfl, DGet.k (k := Sum.inr s) h, k⟩
theorem q_dNInS {kvs : List (Key × V)} {s : Str} (h : H a = some (.dK kvs)) (k : Q (.bl (!(valV kvs (.inr s)).isSome)) H) : dNInK Q (.str s) (.ref a) H := ⟨a, _, rfl, DGet.k (k := Sum.inr s) h, k⟩
theorem q_dInI {kvs : List (Key × V)} (h : H a = some (.dK kvs)) (k : Q (.bl (valV kvs (.inl i)).isSome) H) : dInK Q (.int i) (.ref a) H := ⟨a, _, rfl, DGet.k (k := Sum.inl i) h, k⟩
theorem q_dNInI {kvs : List (Key × V)} (h : H a = some (.dK kvs)) (k : Q (.bl (!(valV kvs (.inl i)).isSome)) H) : dNInK Q (.int i) (.ref a) H := ⟨a, _, rfl, DGet.k (k := Sum.inl i) h, k⟩
def dGetK (Q : VK) (x : V) : VK := fun y H2 => ∃ a v, x = .ref a ∧ DGet H2 a y (some v) ∧ Q v H2
theorem q_tDGet {ty td : TE} (h : td σ H fun x H1 => ty σ H1 (dGetK Q x)) : tDGet td ty σ H Q := h
theorem q_dGetS {kvs : List (Key × V)} {s : Str} (h : H a = some (.dK kvs)) (e : valV kvs (.inr s) = some v) (k : Q v H) : dGetK Q (.ref a) (.str s) H := ⟨a, v, rfl, by rw [← e]; exact DGet.k (k := Sum.inr s) h, k⟩
theorem q_dGetI {kvs : List (Key × V)} (h : H a = some (.dK kvs)) (e : valV kvs (.inl i) = some v) (k : Q v H) : dGetK Q (.ref a) (.int i) H := ⟨a, v, rfl, by rw [← e]; exact DGet.k (k := Sum.inl i) h, k⟩
theorem q_dNew (k : ∀ p, H p = none → Q (.ref p) (upd H p (.dK []))) : tDNewK σ H Q := k
def dPutK (D : Ends) (σ : L2.St) (v x : V) : VK := fun y H3 => ∃ a H4, x = .ref a ∧ DPut H3 a y v H4 ∧ D.nx σ H4
theorem q_sDPut {td ty tv : TE} (h : tv σ H fun v H1 => td σ H1 fun x H2 => ty σ H2 (dPutK D σ v x)) : sDPut td ty tv D σ H := h
theorem q_dPutS {kvs : List (Key × V)} {s : Str} (h : H a = some (.dK kvs)) (hl : kvs.length < sizeLine) (k : D.nx σ (upd H a (.dK (putK kvs (.inr s) v)))) : dPutK D σ v (.ref a) (.str s) H := ⟨a, _, rfl, DPut.k (k := Sum.inr s) h hl, k⟩
theorem q_dPutI {kvs : List (Key × V)} (h : H a = some (.dK kvs)) (hl : kvs.length < sizeLine) (k : D.nx σ (upd H a (.dK (putK kvs (.inl i) v)))) : dPutK D σ v (.ref a) (.int i) H := ⟨a, _, rfl, DPut.k (k := Sum.inl i) h hl, k⟩
def truK (K : PySem.W.Frag) (R : Bool → Hp → Prop) : VK := fun x H' => ∃ k, TruV K x H' k ∧ R k H'
theorem q_tru {R : Bool → Hp → Prop} (h : te σ H (truK K R)) : (fun (σ : L2.St) (H : Hp) (Q : Bool → Hp → Prop) => te σ H fun x H' => ∃ k, TruV K x H' k ∧ Q k H') σ H R := h
theorem q_isBl {c d : Bool} (k : Q (.bl (decide (c = d))) H) : rIsB (.bl c) (.bl d) H Q := ⟨c, d, rfl, rfl, k⟩
theorem q_notBl {c d : Bool} (k : Q (.bl (!decide (c = d))) H) : rNotB (.bl c) (.bl d) H Q := ⟨c, d, rfl, rfl, k⟩
theorem q_inT (h : SqT K H p xs) (hx : flatV x = true) (ha : xs.all flatV = true) (k : Q (.bl (inV x xs)) H) : rIn K false x (.ref p) H Q := ⟨p, xs, rfl, .inr h, hx, ha, k⟩
theorem q_inL (h : SqL K H p xs) (hx : flatV x = true) (ha : xs.all flatV = true) (k : Q (.bl (inV x xs)) H) : rIn K false x (.ref p) H Q := ⟨p, xs, rfl, .inl h, hx, ha, k⟩
theorem q_eqD {d e : PyData} (hd : Dp K H x d) (he : Dp K H y e) (s1 : SeqAt.shaped d = true) (s2 : SeqAt.shaped e = true) (k : Q (.bl (PyData.eqv d e)) H) : rEqD K x y H Q := ⟨d, e, hd, he, s1, s2, k⟩
theorem q_neD {d e : PyData} (hd : Dp K H x d) (he : Dp K H y e) (s1 : SeqAt.shaped d = true) (s2 : SeqAt.shaped e = true) (k : Q (.bl (!PyData.eqv d e)) H) : rNeD K x y H Q := ⟨d, e, hd, he, s1, s2, k⟩
theorem q_catA (h1 : H a = some (.tup xs)) (h2 : H b = some (.tup ys)) (hl : xs.length + ys.length ≤ sizeLine) (k : ∀ p H', Same H H' → H' p = some (.tup (xs ++ ys)) → Q (.ref p) H') : rCatA K (.ref a) (.ref b) H Q := by
  refine ⟨a, b, xs, ys, rfl, rfl, sqT h1, sqT h2, hl, fun e => ?_, fun _ e => ?_, fun _ _ p hp => k p _ (Same.new (Same.refl _) hp) upd_same⟩
  · subst e; exact k b H (Same.refl _) h2
  · subst e; exact k a H (Same.refl _) (by rw [List.append_nil]; exact h1)
theorem q_slA {lo hi : Option Int} (h : H a = some (.tup xs)) (k : ∀ p H', Same H H' → H' p = some (.tup (cutV xs lo hi)) → Q (.ref p) H') : rSlA K (.ref a) lo hi H Q := by
  refine ⟨a, xs, rfl, sqT h, fun e => ?_, fun _ p hp => k p _ (Same.new (Same.refl _) hp) upd_same⟩
  refine k a H (Same.refl _) ?_
  unfold cutV
  rw [e.1, e.2, List.drop_zero, Nat.sub_zero, List.take_length]
  exact h
theorem cut_take {n : Nat} (hn : n ≤ xs.length) : cutV xs none (some (n : Int)) = xs.take n := by
  unfold cutV
  rw [HT.sIx_none, show HT.sIx xs.length xs.length (some (n : Int)) = min n xs.length from HT.sIx_nat xs.length xs.length n, Nat.min_eq_left hn, List.drop_zero, Nat.sub_zero]
theorem cut_drop {n : Nat} (hn : n ≤ xs.length) : cutV xs (some (n : Int)) none = xs.drop n := by
  unfold cutV
  rw [HT.sIx_none, show HT.sIx xs.length 0 (some (n : Int)) = min n xs.length from HT.sIx_nat xs.length 0 n, Nat.min_eq_left hn]
  exact List.take_of_length_le (by rw [List.length_drop]; exact Nat.le_refl _)
theorem q_sl {r : V → Option Int → Option Int → Hp → VK → Prop} {tl th : TO} (h : te σ H fun x H1 => tl σ H1 fun l H2 => th σ H2 fun u H3 => r x l u H3 Q) : tSl r te tl th σ H Q := h
theorem q_noPart {R : Option Int → Hp → Prop} (k : R none H) : tNoPart σ H R := k
def partK (R : Option Int → Hp → Prop) : VK := fun x H1 => ∃ i, x = .int i ∧ R (some i) H1
theorem q_part {R : Option Int → Hp → Prop} (h : te σ H (partK R)) : tPart te σ H R := h
theorem q_partK {R : Option Int → Hp → Prop} (k : R (some i) H) : partK R (.int i) H := ⟨i, rfl, k⟩
/-! a text times a number -/
def repS (s : Str) (n : Int) : Str := ⟨(List.replicate n.toNat s.cps).foldl (· ++ ·) #[]⟩
def mulOk (s : Str) (n : Int) : Bool := decide (2 ≤ n) && decide (n ≤ 1000) && decide (s.length = 1) && decide ((repS s n).length ≤ 1000)
def rMulStr : R2 := fun x y H Q => ∃ s n, x = .str s ∧ y = .int n ∧ mulOk s n = true ∧ Q (.str (repS s n)) H
theorem oq_mulStr {X : Cx} : OpR X (binaryOp .Mult) rMulStr := by
  intro pins s σ H x y v u Q I rx ry h
  obtain ⟨z, n, rfl, rfl, hm, q⟩ := h
  obtain ⟨t, rfl⟩ := rx
  obtain ⟨t', rfl⟩ := ry
  unfold mulOk at hm
  simp only [Bool.and_eq_true, decide_eq_true_eq] at hm
  obtain ⟨⟨⟨h1, h2⟩, h3⟩, h4⟩ := hm
  have e1 : (n == 1 || z.length == 0) = false := by
    rw [h3]
    have : (n == 1) = false := beq_eq_false_iff_ne.mpr (by omega)
    rw [this]
    rfl
  refine PySem.P.mul_str ?_ (fun _ _ => ?_) (fun _ _ => ?_) ?_
  · rw [decide_eq_false (show ¬ n < -(2 ^ 63) by omega), decide_eq_false (show ¬ n ≥ 2 ^ 63 by omega)]
    rfl
  · rw [h3]
    have : (1 : Int) ≤ (2 ^ 63 - 1) / n := Int.le_ediv_of_mul_le (by omega) (by omega)
    exact Int.not_lt.mpr this
  · rw [h3, Nat.one_mul]
    exact decide_eq_false (by
      have : sizeLine = 16777216 := sizeLine_eq
      omega)
  · rw [if_neg (show ¬ n < 1 by omega), if_neg (by rw [e1]; exact Bool.false_ne_true)]
    exact ⟨Nat.le_trans h4 (by decide), .str (repS z n), H, I.tok _, ⟨_, rfl⟩, q⟩
theorem q_mulStr {s : Str} (hm : mulOk s i = true) (k : Q (.str (repS s i)) H) : rMulStr (.str s) (.int i) H Q := ⟨s, i, rfl, rfl, hm, k⟩
/-! methods of lists -/
def bmK (K : PySem.W.Frag) (T : String) (r : V → List V → Hp → VK → Prop) (t : TA) (σ : L2.St) (Q : VK) : VK := fun x H1 => tyV K T x H1 ∧ t σ H1 fun xs H2 => r x xs H2 Q
def bmK0 (K : PySem.W.Frag) (T : String) (r : V → List V → Hp → VK → Prop) (Q : VK) : VK := fun x H1 => tyV K T x H1 ∧ r x [] H1 Q
theorem q_bm {T : String} {r : V → List V → Hp → VK → Prop} (h : te σ H (bmK K T r tr σ Q)) : tBM K T r te tr σ H Q := h
theorem q_bm0 {T : String} {r : V → List V → Hp → VK → Prop} (h : te σ H (bmK0 K T r Q)) : tBM0 K T r te σ H Q := h
theorem q_bmL {r : V → List V → Hp → VK → Prop} (h : H l = some (.lst xs)) (k : tr σ H fun vs H2 => r (.ref l) vs H2 Q) : bmK K "list" r tr σ Q (.ref l) H := ⟨.inl ⟨rfl, xs, sqL h⟩, k⟩
theorem q_bmL0 {r : V → List V → Hp → VK → Prop} (h : H l = some (.lst xs)) (k : r (.ref l) [] H Q) : bmK0 K "list" r Q (.ref l) H := ⟨.inl ⟨rfl, xs, sqL h⟩, k⟩
theorem q_append (h : H l = some (.lst xs)) (hl : xs.length < sizeLine) (k : Q .non (upd H l (.lst (xs ++ [y])))) : rAppend (.ref l) [y] H Q := ⟨l, xs, y, rfl, rfl, h, hl, k⟩
theorem q_popAt {n : Nat} (h : H l = some (.lst xs)) (e : i = (n : Int)) (hn : n < xs.length) (hb : i < 2 ^ 63) (hv : xs[n]? = some v) (k : Q v (upd H l (.lst (xs.eraseIdx n)))) : rPopAt (.ref l) [.int i] H Q := by
  refine ⟨l, xs, i, n, v, rfl, rfl, h, by omega, hb, ?_, hv, k⟩
  subst e
  unfold seqIndex?
  have h1 : ¬ ((n : Int) < 0) := by omega
  have h2 : (n : Int) < (xs.length : Int) := by omega
  have h3 : (0 : Int) ≤ (n : Int) := by omega
  simp [h1, h2, h3]
/-! a walk over a list or a tuple -/
theorem pi_or {X : Cx} {tg e : Expr} {w1 w2 : TI} (h1 : PI X tg e w1) (h2 : PI X tg e w2) : PI X tg e (fun σ H R => w1 σ H R ∨ w2 σ H R) :=
  ⟨fun pins s σ H R I h => h.elim (h1.run pins s σ H R I) (h2.run pins s σ H R I)⟩
def iSeq (K : PySem.W.Frag) (te : TE) : TI := fun σ H R => iList K te σ H R ∨ iTup K te σ H R
theorem pi_seq {X : Cx} {tg e : Expr} {te : TE} (h : PE X e te) : PI X tg e (iSeq X.K te) := pi_or (pi_list h) (pi_tup h)
theorem q_iSeqL {R : It → Hp → Prop} (h : te σ H fun x H1 => ∃ a, x = .ref a ∧ (∃ xs, SqL K H1 a xs) ∧ R (Itl K a) H1) : iSeq K te σ H R := .inl h
theorem q_iSeqT {R : It → Hp → Prop} (h : te σ H fun x H1 => ∃ a, x = .ref a ∧ (∃ xs, SqT K H1 a xs) ∧ R (Itt K a) H1) : iSeq K te σ H R := .inr h
/-! a written dict -/
def pairsK (σ : L2.St) (r : List (TE × TE)) (x : V) (Q : List (V × V) → Hp → Prop) : VK := fun y H2 => tPairs r σ H2 fun ps H3 => Q ((x, y) :: ps) H3
theorem q_pairC {tk tv : TE} {r : List (TE × TE)} {R : List (V × V) → Hp → Prop} (h : tk σ H fun x H1 => tv σ H1 (pairsK σ r x R)) : tPairs ((tk, tv) :: r) σ H R := h
theorem q_pairsK {r : List (TE × TE)} {R : List (V × V) → Hp → Prop} (h : tPairs r σ H fun ps H3 => R ((x, y) :: ps) H3) : pairsK σ r x R y H := h
theorem q_pairN {R : List (V × V) → Hp → Prop} (h : R [] H) : tPairs [] σ H R := h
def dispK (Q : VK) (p : Addr) : List (V × V) → Hp → Prop := fun ps H2 => H2 p = some (.dK []) ∧ ∃ kvs : List (Key × V), ps = kvs.map (fun kv => (kV kv.1, kv.2)) ∧ kvs.length ≤ 15 ∧ Q (.ref p) (upd H2 p (.dK (mergeK [] kvs)))
theorem q_disp {trs : List (TE × TE)} (k : ∀ p, H p = none → tPairs trs σ (upd H p (.dK [])) (dispK Q p)) : tDisp trs σ H Q := k
theorem valV_cons {κ : Type} [DecidableEq κ] {kvs : List (κ × V)} {k k' : κ} {v : V} : valV ((k, v) :: kvs) k' = if k = k' then some v else valV kvs k' := by
  unfold valV
  rw [List.find?_cons]
  by_cases e : k = k'
  · rw [if_pos e, decide_eq_true e]; rfl
  · rw [if_neg e, decide_eq_false e]
theorem valV_nomem {κ : Type} [DecidableEq κ] {kvs : List (κ × V)} {k : κ} (h : k ∉ kvs.map (·.1)) : valV kvs k = none := by
  cases q : valV kvs k with
  | none => rfl
  | some v => exact absurd (valV_in q) h
theorem merge_app : ∀ (kvs acc : List (Key × V)), ((acc ++ kvs).map (·.1)).Nodup → mergeK acc kvs = acc ++ kvs
  | [], acc, _ => by rw [List.append_nil]; rfl
  | (k, v) :: r, acc, h => by
    have hk : k ∉ acc.map (·.1) := by
      rw [List.map_append] at h
      intro m
      exact (List.nodup_append.mp h).2.2 k m k (by simp) rfl
    show mergeK (putK acc k v) r = _
    rw [putK_new v (valV_nomem hk), merge_app r (acc ++ [(k, v)]) (by rw [List.append_assoc]; exact h), List.append_assoc]
    rfl
theorem q_dispK {kvs : List (Key × V)} {ps : List (V × V)} (h : H p = some (.dK [])) (e : ps = kvs.map (fun kv => (kV kv.1, kv.2))) (hl : kvs.length ≤ 15) (hn : (kvs.map (·.1)).Nodup) (k : Q (.ref p) (upd H p (.dK kvs))) : dispK Q p ps H :=
  ⟨h, kvs, e, hl, by rw [merge_app kvs [] hn]; exact k⟩
theorem q_slL {lo hi : Option Int} (h : SqL K H a xs) (k : ∀ p, H p = none → Q (.ref p) (upd H p (.lst (cutV xs lo hi)))) : rSlL K (.ref a) lo hi H Q := ⟨a, xs, rfl, h, k⟩
/-! attributes and methods -/
def fldK (K : PySem.W.Frag) (f : Str) (Q : VK) : VK := fun x H1 => ∃ a C dx fs v, x = .ref a ∧ H1 a = some (.ins C dx fs) ∧ Cls K C ∧ NoAttr K C f ∧ fs.lookup f = some v ∧ Q v H1
theorem q_fld {f : Str} (h : te σ H (fldK K f Q)) : tFld K te f σ H Q := h
theorem q_fldK {f : Str} {C dx : Addr} {fs : List (Str × V)} (h : H a = some (.ins C dx fs)) (hc : Cls K C) (hn : NoAttr K C f) (hl : fs.lookup f = some v) (k : Q v H) : fldK K f Q (.ref a) H := ⟨a, C, dx, fs, v, rfl, h, hc, hn, hl, k⟩
def fputK (K : PySem.W.Frag) (f : Str) (D : Ends) (σ : L2.St) (y : V) : VK := fun x H2 => ∃ a C dx fs, x = .ref a ∧ H2 a = some (.ins C dx fs) ∧ Cls K C ∧ NoAttr K C f ∧ fs.length < 1000 ∧ D.nx σ (upd H2 a (.ins C dx (putF f y fs)))
theorem q_sFld {f : Str} (h : tb σ H fun y H1 => te σ H1 (fputK K f D σ y)) : sFld K te tb f D σ H := h
theorem q_fputK {f : Str} {C dx : Addr} {fs : List (Str × V)} (h : H a = some (.ins C dx fs)) (hc : Cls K C) (hn : NoAttr K C f) (hl : fs.length < 1000) (k : D.nx σ (upd H a (.ins C dx (putF f y fs)))) : fputK K f D σ y (.ref a) H := ⟨a, C, dx, fs, rfl, h, hc, hn, hl, k⟩
def methK (m : Str) (C : Addr) (sp : Sp) (dvs : List V) (E : XK) (tr : TA) (σ : L2.St) (Q : VK) : VK := fun x H1 => ∃ a dx fs, x = .ref a ∧ H1 a = some (.ins C dx fs) ∧ fs.lookup m = none ∧ tr σ H1 fun vs H2 => sp (x :: (vs ++ dvs)) H2 Q E
theorem q_meth {m : Str} {C : Addr} {sp : Sp} {dvs : List V} {E : XK} (h : te σ H (methK m C sp dvs E tr σ Q)) : tMeth C m sp dvs E te tr σ H Q := h
def selfK (sp : Sp) (x : V) (E : XK) (Q : VK) : List V → Hp → Prop := fun vs H2 => sp (x :: vs) H2 Q E
theorem q_methK {m : Str} {C dx : Addr} {sp : Sp} {E : XK} {fs : List (Str × V)} (h : H a = some (.ins C dx fs)) (hn : fs.lookup m = none) (k : ∀ (R : List V → Hp → Prop), (∀ vs H2, sp (.ref a :: vs) H2 Q E → R vs H2) → tr σ H R) : methK m C sp [] E tr σ Q (.ref a) H :=
  ⟨a, dx, fs, rfl, h, hn, k _ fun vs H2 q => by rw [List.append_nil]; exact q⟩
theorem q_fldlen {f : Str} {fs : List (Str × V)} {y : V} {n : Nat} (h : fs.length ≤ n) : (putF f y fs).length ≤ n + 1 := by
  induction fs generalizing n with
  | nil => exact Nat.succ_le_succ (Nat.zero_le _)
  | cons p r ih =>
    obtain ⟨g, x⟩ := p
    show (if g = f then (g, y) :: r else (g, x) :: putF f y r).length ≤ n + 1
    by_cases e : g = f
    · rw [if_pos e]; exact Nat.le_succ_of_le h
    · rw [if_neg e]
      cases n with
      | zero => exact absurd h (by simp)
      | succ n => exact Nat.succ_le_succ (ih (Nat.le_of_succ_le_succ h))
theorem q_never {σ : L2.St} (h : False) : tNever D σ H := h
def mkK (C : Addr) (n m : Nat) (sp : Sp) (gV : List V → List V → List V) (E : XK) (vs : List V) (Q : VK) : List V → Hp → Prop := fun zs H2 => vs.length = n ∧ zs.length = m ∧ ∀ x dx, H2 x = none → H2 dx = none → dx ≠ x →
  sp (gV (.ref x :: vs) zs) (upd (upd H2 dx (.own x)) x (.ins C dx [])) (fun v H3 => v = .non ∧ Q (.ref x) H3) E
theorem q_makeK {C : Addr} {n m : Nat} {sp : Sp} {gV : List V → List V → List V} {E : XK} {tk : TA} (h : tr σ H fun vs H1 => tk σ H1 (mkK C n m sp gV E vs Q)) : tMakeK C n m sp gV E tr tk σ H Q := h
/-! comprehensions -/
def lcK (g : TG) (tt : TT) (te : TE) (vs : List Nat) (σ : L2.St) (Q : VK) : It → Hp → Prop := fun J H1 => ∀ D, H1 D = none → ∃ W : Nat → Nat → Hp → Prop, (∃ m, W 0 m (upd H1 D (.lst []))) ∧ ∀ i m H, W i m H →
  (J.stop i H ∧ Q (.ref D) H) ∨ (J.go i H ∧ ∃ Nx : Hp → Prop, (∀ H', Nx H' → ∃ m', m' < m ∧ W (i + 1) m' H') ∧ ∀ x H', J.yld i H x H' → g x (wipe σ vs) H' fun σ2 H2 => wipe σ2 vs = wipe σ vs ∧ tt σ2 H2 fun b H3 =>
    if b = true then te σ2 H3 fun y H4 => ∃ acc, H4 D = some (.lst acc) ∧ acc.length < sizeLine ∧ Nx (upd H4 D (.lst (acc ++ [y]))) else Nx H3)
theorem q_lc {wi : TI} {vs : List Nat} (h : wi σ H (lcK g tt te vs σ Q)) : tLc wi g tt te vs σ H Q := h
def keepK (te : TE) (σ : L2.St) (D : Addr) (Nx : Hp → Prop) : Bool → Hp → Prop := fun b H3 => if b = true then te σ H3 fun y H4 => ∃ acc, H4 D = some (.lst acc) ∧ acc.length < sizeLine ∧ Nx (upd H4 D (.lst (acc ++ [y]))) else Nx H3
def accK (D : Addr) (Nx : Hp → Prop) : VK := fun y H4 => ∃ acc, H4 D = some (.lst acc) ∧ acc.length < sizeLine ∧ Nx (upd H4 D (.lst (acc ++ [y])))
theorem q_keepT {Nx : Hp → Prop} (h : te σ H (accK l Nx)) : keepK te σ l Nx true H := iteT h
theorem q_keepF {Nx : Hp → Prop} (h : Nx H) : keepK te σ l Nx false H := iteF h
theorem q_keep2 {Nx : Hp → Prop} {c : Bool} (h : c = true → te σ H (accK l Nx)) (h2 : c = false → Nx H) : keepK te σ l Nx c H := by
  cases c with
  | true => exact iteT (h rfl)
  | false => exact iteF (h2 rfl)
theorem q_accK {Nx : Hp → Prop} (h : H l = some (.lst xs)) (hl : xs.length < sizeLine) (k : Nx (upd H l (.lst (xs ++ [y])))) : accK l Nx y H := ⟨xs, h, hl, k⟩
theorem q_lcL {S : List V} {vs : List Nat} (h : SqL K H a S) (k : ∀ D, H D = none → ∃ Pv : Nat → Hp → Prop, Pv 0 (upd H D (.lst [])) ∧ (∀ i H, i ≤ S.length → Pv i H → SqL K H a S) ∧
      (∀ i x H, S[i]? = some x → Pv i H → g x (wipe σ vs) H fun σ2 H2 => wipe σ2 vs = wipe σ vs ∧ tt σ2 H2 (keepK te σ2 D (Pv (i + 1)))) ∧ ∀ H, Pv S.length H → Q (.ref D) H) :
    ∃ b, V.ref a = .ref b ∧ (∃ xs, SqL K H b xs) ∧ lcK g tt te vs σ Q (Itl K b) H := ⟨a, rfl, ⟨S, h⟩, fun D hD => by
      obtain ⟨Pv, h0, hl, hs, hd⟩ := k D hD
      exact lc_list Pv h0 hl hs hd⟩
theorem q_lcT {S : List V} {vs : List Nat} (h : SqT K H a S) (k : ∀ D, H D = none → ∃ Pv : Nat → Hp → Prop, Pv 0 (upd H D (.lst [])) ∧ (∀ i H, i ≤ S.length → Pv i H → SqT K H a S) ∧
      (∀ i x H, S[i]? = some x → Pv i H → g x (wipe σ vs) H fun σ2 H2 => wipe σ2 vs = wipe σ vs ∧ tt σ2 H2 (keepK te σ2 D (Pv (i + 1)))) ∧ ∀ H, Pv S.length H → Q (.ref D) H) :
    ∃ b, V.ref a = .ref b ∧ (∃ xs, SqT K H b xs) ∧ lcK g tt te vs σ Q (Itt K b) H := ⟨a, rfl, ⟨S, h⟩, fun D hD => by
      obtain ⟨Pv, h0, hl, hs, hd⟩ := k D hD
      exact lc_tup Pv h0 hl hs hd⟩
theorem q_lcR {vs : List Nat} (hj : 0 ≤ j ∧ j < 1000000000000000) (k : ∀ D, H D = none → ∃ Pv : Nat → Hp → Prop, Pv 0 (upd H D (.lst [])) ∧
      (∀ (i : Nat) H, (i : Int) < j → Pv i H → g (.int i) (wipe σ vs) H fun σ2 H2 => wipe σ2 vs = wipe σ vs ∧ tt σ2 H2 (keepK te σ2 D (Pv (i + 1)))) ∧ ∀ H, Pv j.toNat H → Q (.ref D) H) :
    rg1K (lcK g tt te vs σ Q) [.int j] H := ⟨j, rfl, by omega, by omega, fun D hD => by
      obtain ⟨Pv, h0, hs, hd⟩ := k D hD
      refine lc_range Pv h0 (fun i H hi hp => ?_) hd
      have e : (0 : Int) + (i : Int) = (i : Int) := Int.zero_add _
      rw [e]
      exact hs i H (by omega) hp⟩
end

/-! get and setdefault of a dict -/
section
variable {H : Hp} {σ : L2.St} {Q : VK} {td ty tx : TE} {a : Addr} {z v : V}
def dG2K (Q : VK) (a : Addr) (y : V) : VK := fun z H3 => ∃ o, DGet H3 a y o ∧ Q (o.getD z) H3
def dG2a (ty tx : TE) (σ : L2.St) (Q : VK) : VK := fun x H1 => ∃ a, x = .ref a ∧ IsD H1 a ∧ ty σ H1 fun y H2 => tx σ H2 (dG2K Q a y)
theorem q_tDGet2 (h : td σ H (dG2a ty tx σ Q)) : tDGet2 td ty tx σ H Q := h
theorem q_dG2a {kvs : List (Key × V)} (h : H a = some (.dK kvs)) (k : ty σ H fun y H2 => tx σ H2 (dG2K Q a y)) : dG2a ty tx σ Q (.ref a) H := ⟨a, rfl, .inl ⟨kvs, .inl h⟩, k⟩
theorem q_dG2S {kvs : List (Key × V)} {s : Str} (h : H a = some (.dK kvs)) (k : Q ((valV kvs (.inr s)).getD z) H) : dG2K Q a (.str s) z H := ⟨_, DGet.k (k := Sum.inr s) h, k⟩
theorem q_dG2I {kvs : List (Key × V)} {i : Int} (h : H a = some (.dK kvs)) (k : Q ((valV kvs (.inl i)).getD z) H) : dG2K Q a (.int i) z H := ⟨_, DGet.k (k := Sum.inl i) h, k⟩
def dSdK (Q : VK) (a : Addr) (y : V) : VK := fun z H3 => ∃ (kvs : List (Key × V)) (k : Key), H3 a = some (.dK kvs) ∧ y = kV k ∧ kvs.length < sizeLine ∧ (∀ v, valV kvs k = some v → Q v H3) ∧ (valV kvs k = none → Q z (upd H3 a (.dK (putK kvs k z))))
def dSda (ty tx : TE) (σ : L2.St) (Q : VK) : VK := fun x H1 => ∃ a, x = .ref a ∧ IsD H1 a ∧ ty σ H1 fun y H2 => tx σ H2 (dSdK Q a y)
theorem q_tDSetd (h : td σ H (dSda ty tx σ Q)) : tDSetd td ty tx σ H Q := h
theorem q_dSda {kvs : List (Key × V)} (h : H a = some (.dK kvs)) (k : ty σ H fun y H2 => tx σ H2 (dSdK Q a y)) : dSda ty tx σ Q (.ref a) H := ⟨a, rfl, .inl ⟨kvs, .inl h⟩, k⟩
theorem q_dSdS {kvs : List (Key × V)} {s : Str} (h : H a = some (.dK kvs)) (hl : kvs.length < sizeLine) (k1 : ∀ v, valV kvs (.inr s) = some v → Q v H) (k2 : valV kvs (.inr s) = none → Q z (upd H a (.dK (putK kvs (.inr s) z)))) : dSdK Q a (.str s) z H := ⟨kvs, .inr s, h, rfl, hl, k1, k2⟩
end

/-! methods that may raise within a try; the suite of one class; del of an item; a text times 1 -/
section
variable {K : PySem.W.Frag} {σ : L2.St} {H : Hp} {Q : VK} {D : Ends} {l : Addr} {xs : List V} {i : Int} {to ti : TE}
def delK (D : Ends) (σ : L2.St) (x : V) : VK := fun y H2 => ∃ (l : Addr) (xs : List V) (i : Int) (k : Nat), x = .ref l ∧ y = .int i ∧ H2 l = some (.lst xs) ∧ -(2 ^ 63) ≤ i ∧ i < 2 ^ 63 ∧ seqIndex? i xs.length = some k ∧ D.nx σ (upd H2 l (.lst (xs.eraseIdx k)))
theorem q_delL (h : to σ H fun x H1 => ti σ H1 (delK D σ x)) : tDelL to ti D σ H := h
theorem seqIx {n m : Nat} (h : n < m) : seqIndex? (n : Int) m = some n := by
  unfold seqIndex?
  have h1 : ¬ ((n : Int) < 0) := by omega
  have h2 : (n : Int) < (m : Int) := by omega
  have h3 : (0 : Int) ≤ (n : Int) := by omega
  simp [h1, h2, h3]
theorem q_delK {n : Nat} (h : H l = some (.lst xs)) (e : i = (n : Int)) (hn : n < xs.length) (hb : i < 2 ^ 63) (k : D.nx σ (upd H l (.lst (xs.eraseIdx n)))) : delK D σ (.ref l) (.int i) H :=
  ⟨l, xs, i, n, rfl, rfl, h, by omega, hb, by rw [e]; exact seqIx hn, k⟩
def rMulStr1 : R2 := fun x y H Q => ∃ s, x = .str s ∧ y = .int 1 ∧ Q (.str s) H
theorem oq_mulStr1 {X : Cx} : OpR X (binaryOp .Mult) rMulStr1 := by
  intro pins s σ H x y v u Q I rx ry h
  obtain ⟨z, rfl, rfl, q⟩ := h
  obtain ⟨t, rfl⟩ := rx
  obtain ⟨t', rfl⟩ := ry
  refine PySem.P.mul_str (by decide) (fun _ h => by cases h) (fun _ h => by cases h) ?_
  rw [if_neg (show ¬ (1 : Int) < 1 by omega), if_pos (by rfl)]
  exact ⟨.str z, H, I, ⟨_, rfl⟩, q⟩
theorem q_mulStr1 {s : Str} (k : Q (.str s) H) : rMulStr1 (.str s) (.int 1) H Q := ⟨s, rfl, rfl, k⟩
theorem q_int1b {c : Bool} (k : Q (.int (if c then 1 else 0)) H) : rInt1 [.bl c] H Q := .inr ⟨c, rfl, k⟩
theorem q_int1t (k : Q (.int 1) H) : rInt1 [.bl true] H Q := .inr ⟨true, rfl, k⟩
theorem q_neB {c d : Bool} (k : Q (.bl (c != d)) H) : rNe (.bl c) (.bl d) H Q := ⟨rfl, by
  have e : (!decide (V.bl c = V.bl d)) = (c != d) := by cases c <;> cases d <;> rfl
  rw [e]; exact k⟩
theorem q_neBs {c : Bool} (k : Q (.bl false) H) : rNe (.bl c) (.bl c) H Q := q_neB (by rw [bne_self_eq_false]; exact k)
def tMethA (C : Addr) (m : Str) (sp : Sp) (E : L2.St → XK) (ta : TE) (t : TA) : TE := fun σ H Q => ta σ H fun x H1 => ∃ a dx fs, x = .ref a ∧ H1 a = some (.ins C dx fs) ∧ fs.lookup m = none ∧ t σ H1 fun vs H2 => sp (x :: vs) H2 Q (E σ)
def methAK (C : Addr) (m : Str) (sp : Sp) (E : L2.St → XK) (t : TA) (σ : L2.St) (Q : VK) : VK := fun x H1 => ∃ a dx fs, x = .ref a ∧ H1 a = some (.ins C dx fs) ∧ fs.lookup m = none ∧ t σ H1 fun vs H2 => sp (x :: vs) H2 Q (E σ)
theorem q_methA {C : Addr} {m : Str} {sp : Sp} {E : L2.St → XK} {ta : TE} {t : TA} (h : ta σ H (methAK C m sp E t σ Q)) : tMethA C m sp E ta t σ H Q := h
theorem q_methAK {C dx a : Addr} {m : Str} {sp : Sp} {E : L2.St → XK} {t : TA} {fs : List (Str × V)} (h : H a = some (.ins C dx fs)) (hn : fs.lookup m = none) (k : t σ H fun vs H2 => sp (.ref a :: vs) H2 Q (E σ)) : methAK C m sp E t σ Q (.ref a) H := ⟨a, dx, fs, rfl, h, hn, k⟩
theorem q_callS {sp : Sp} {E : L2.St → XK} {t : TA} (h : t σ H fun vs H1 => sp vs H1 Q (E σ)) : tCallS sp E t σ H Q := h
theorem q_isE {D a C : Addr} {b : Bool} (e : PySem.W.kitOne K (.ref D) (.ref C) = some b) (k : Q (.bl b) H) : rIsE K D a [.ref a, .ref C] H Q := ⟨.ref C, .ref C, b, rfl, fun _ r => r, e, k⟩
end
section
variable {X : Cx} {CX : CXT} {k : Nat} {f C : Addr} {fd : FuncData} {ps : List Str} {sp : Sp} {E : L2.St → XK} {m : Str} {pos apos : Pos} {e o : Expr} {es : List Expr} {ta : TE} {t : TA}
theorem pe_methA {pl : Sem Bool} (he : PE X o ta) (c : Cls X.K C) (hm : Meth X.K C m f) (F : FnOk X.prog X.w X.K X.mg X.base CX k f fd ps sp) (hr : Room k X.A) (hb : Binds X.K fd ps []) (hx : ∀ σ, PassesAt CX X σ (E σ)) (ha : PA X (e :: es) t)
    (hst : starEach (e :: es) X.env = (false, eval e X.env) :: starEach es X.env := by rfl) (hpl : (backTo pos (starEach es X.env)).any (·.1) = false := by rfl)
    (ht : eval (.Call (.Attribute o m apos) (e :: es) [] pos) X.env = (do
      let ov ← eval o X.env
      standAt apos.atName
      let (f, first) ← holding [ov] (getMethod ov m pl)
      callWith pos f first (backTo pos (starEach (e :: es) X.env)) (backToKw pos (keywordEach [] X.env))) := by rfl) :
    PE X (.Call (.Attribute o m apos) (e :: es) [] pos) (tMethA C m sp E ta t) := by
  refine ⟨fun pins s σ H Q I h => ?_⟩
  refine PySem.W.methodCall_KW (pl := pl) (thn (he.run pins s σ H _ I h) fun u s1 ⟨x, H1, I1, rx, a, dx, fs, ex, ea, l, q⟩ => ?_) ht
  subst ex
  obtain rfl : u = Value.ref a := rx
  refine getmeth_ok I1 ea c hm l ?_
  refine PySem.W.callWith_K (first := [.ref a]) (h₀ := X.base) I.ok.mod.kin hm.kp (thn (ha.run pos pins s1 σ H1 _ I1 q) fun us s2 ⟨vs, H2, I2, r, q2⟩ => ⟨I2.kIn, ?_⟩) hst hpl
  exact run_fnS (us := .ref a :: us) (vs := .ref a :: vs) F hr hb (hx σ) I2 (.cons rfl r) q2
theorem pss_cls {oe : Obj} {cls : Value} {d : Option Addr} {b : List Stmt} {t : TS} (hz : Zc cls d oe) (h : Zc (.ref C) none oe → PSs X b t) : PSs X b (fun D σ H => (cls = .ref C ∧ d = none) ∧ t D σ H) :=
  ⟨fun pins s σ H D I q => (h (by obtain ⟨⟨e1, e2⟩, _⟩ := q; rw [e1, e2] at hz; exact hz)).run pins s σ H D I q.2⟩
end

/-! the sum of a dict's values; dicts keyed by tuples -/
section
variable {X : Cx} {o : Expr} {p pos apos mpos : Pos} {td : TE}
def tSumVals (td : TE) : TE := fun σ H Q => td σ H fun x H1 => ∃ (a : Addr) (kvs : List (Key × V)) (is : List Int), x = V.ref a ∧ H1 a = some (.dK kvs) ∧ kvs.map (·.2) = is.map V.int ∧ Q (.int is.sum) H1
theorem pre_sum (is : List Int) : ∀ n, n ≤ is.length → preSum (fun i => is.getD i 0) n = (is.take n).sum
  | 0, _ => by simp [preSum]
  | n + 1, h => by
    rw [preSum, pre_sum is n (by omega), List.take_add_one, List.sum_append, List.getElem?_eq_getElem (by omega), List.getD_eq_getElem?_getD, List.getElem?_eq_getElem (by omega)]
    simp
theorem pe_sumVals (hc : X.calm = true) (hg : Gl X "sum") (hm : X.mg "sum" = none) (hd : PE X o td) (hbase : attributeBase o "values" X.env (eval o X.env) = eval o X.env := by rfl) (hline : (apos.endLine == mpos.line) = true := by rfl)
    (hse : starEach [Expr.Call (.Attribute o "values" apos) [] [] mpos] X.env = [(false, eval (Expr.Call (.Attribute o "values" apos) [] [] mpos) X.env)] := by rfl) :
    PE X (.Call (.Name "sum" p) [.Call (.Attribute o "values" apos) [] [] mpos] [] pos) (tSumVals td) := by
  refine ⟨fun pins s σ H Q I h => ?_⟩
  refine wpAny_Call_Name_kw (ld_blt I hg hm (u := .builtin "sum") (by first | rfl | decide +kernel) ?_ (by first | decide +kernel | decide) (by first | decide +kernel | decide))
  rw [hse]
  refine PySem.callWith_builtin1 (wpAny_Call_method0_late hbase hline (thn (hd.run pins s σ H _ I h) fun v s1 ⟨x, H1, I1, r1, a, kvs, is, ex, ha, hv, q⟩ => ?_))
  subst ex
  obtain rfl : v = Value.ref a := r1
  obtain ⟨_, hsys, vs, rel, dof⟩ := dk_of I1.hok ha
  obtain ⟨ep, dat⟩ := dof.dictAt
  have dat' := dat
  obtain ⟨ob, es, ho, ex, hdat, hko, hpr, hnd⟩ := dat'
  refine ⟨"dict", "dict.values", PySem.F.plainAttrs_dict, PySem.F.slot_dict_values, PySem.F.type_dict_values, ⟨ob, ho, ex.1⟩, fun b e => ?_, Calls.callWith_builtin rfl (PySem.evalArgs_none ?_)⟩
  · cases e
    exact ⟨ob, ho, ex.2.1⟩
  refine call_meetsIn PySem.F.slot_dict_values ⟨ob, ho, ex.1⟩ PySem.F.entry_dict_values (PySem.F.args_dict_values_1 _) (meets_dict_values (mixKind X.prog X.w) a hsys) ⟨⟨vs, dof⟩, ?_⟩
  have k1 : ∀ b u, s1.heap.get? b = some u → (s1.heap.push { cls := .type "dict_values", data := .fields #[.ref a] }).get? b = some u := fun b u e => Heap.get?_push_of_some _ e
  have dat1 : (s1.heap.push { cls := .type "dict_values", data := .fields #[.ref a] }).DictAt (mixKind X.prog X.w) a vs ep := dat.keep k1
  have hlv : vs.length = is.length := by
    have e1 := congrArg List.length hv
    rw [List.length_map, List.length_map] at e1
    rw [← e1]
    exact (KV.length rel).symm
  have hval : ∀ (i : Nat) (v : Value), (∃ k, vs[i]? = some (k, v)) → ∃ t, v = Value.int (is.getD i 0) t := fun i v ⟨k, hk⟩ => by
    obtain ⟨x, h1, h2⟩ := KV.at' rel hk
    have e1 : (kvs.map (·.2))[i]? = some x := by rw [List.getElem?_map, h1] <;> rfl
    rw [hv, List.getElem?_map] at e1
    obtain ⟨j, hj, e2⟩ := Option.map_eq_some_iff.mp e1
    subst e2
    obtain ⟨t, e3⟩ := h2
    refine ⟨t, ?_⟩
    rw [e3, List.getD_eq_getElem?_getD, hj] <;> rfl
  refine call_sum_walkG (wpAny_pyIter_values (v := s1.heap.objs.size) (d := a) ⟨_, Heap.get?_push_size _ rfl, rfl, rfl⟩ dat1 ?_)
  have hlt : a < s1.heap.objs.size := Heap.lt_size ho
  have hsz : (s1.heap.push { cls := .type "dict_values", data := .fields #[.ref a] }).objs.size = s1.heap.objs.size + 1 := Heap.size_push _ _
  refine ⟨_, _, _, _, _, _, fun i => is.getD i 0, rfl, Walks.dictValues (knd := mixKind X.prog X.w) (A := X.A.in1) (I.ok.hd hc) (s1.heap.push { cls := .type "dict_values", data := .fields #[.ref a] }).objs.size a (by rw [hsz]; exact Nat.ne_of_lt (Nat.lt_succ_of_lt hlt)) vs ep,
    ⟨⟨_, Heap.get?_push_size _ rfl, rfl, rfl⟩, dat1.keep fun b u e => Heap.get?_push_of_some _ e⟩, fun b hb => ?_, hval, fun h' tk t' hk => ?_⟩
  · show b < ((s1.heap.push _).push _).objs.size
    rw [Heap.size_push, Heap.size_push]
    rw [hsz] at hb
    rcases List.mem_cons.mp hb with e | hb
    · rw [e]
      exact Nat.lt_succ_self _
    · have e : b = a := List.mem_singleton.mp hb
      rw [e]
      exact Nat.lt_succ_of_lt (Nat.lt_succ_of_lt hlt)
  · refine ⟨.int is.sum, H1, I1.kept (t' := tk) fun b u e => hk b u (fun hmem => ?_) (Heap.get?_push_of_some _ (k1 b u e)), ⟨t', ?_⟩, q⟩
    · have e1 : b = (s1.heap.push { cls := .type "dict_values", data := .fields #[.ref a] }).objs.size := List.mem_singleton.mp hmem
      have e2 := Heap.lt_size e
      rw [hsz] at e1
      rw [e1] at e2
      exact absurd e2 (Nat.not_lt.mpr (Nat.le_succ _))
    · rw [pre_sum is _ (by omega), hlv, List.take_length]
end
section
variable {K : PySem.W.Frag} {σ : L2.St} {H : Hp} {Q : VK} {D : Ends} {a b : Addr} {z v : V} {ty tx td : TE} {kvs : List (List Key × V)} {k : List Key}
def sumK (Q : VK) : VK := fun x H1 => ∃ (a : Addr) (kvs : List (Key × V)) (is : List Int), x = V.ref a ∧ H1 a = some (.dK kvs) ∧ kvs.map (·.2) = is.map V.int ∧ Q (.int is.sum) H1
theorem q_sumVals (h : td σ H (sumK Q)) : tSumVals td σ H Q := h
theorem q_sumK {kvs : List (Key × V)} {is : List Int} (h : H a = some (.dK kvs)) (e : kvs.map (·.2) = is.map V.int) (q : Q (.int is.sum) H) : sumK Q (.ref a) H := ⟨a, kvs, is, rfl, h, e, q⟩
theorem q_dG2aT (h : H a = some (.dT kvs)) (q : ty σ H fun y H2 => tx σ H2 (dG2K Q a y)) : dG2a ty tx σ Q (.ref a) H := ⟨a, rfl, .inr ⟨kvs, .inl h⟩, q⟩
theorem q_dG2T (h : H a = some (.dT kvs)) (hb : H b = some (.tup (k.map kV))) (q : Q ((valV kvs k).getD z) H) : dG2K Q a (.ref b) z H := ⟨_, DGet.t h hb, q⟩
theorem q_dPutT (h : H a = some (.dT kvs)) (hb : H b = some (.tup (k.map kV))) (hl : kvs.length < sizeLine) (q : D.nx σ (upd H a (.dT (putK kvs k v)))) : dPutK D σ v (.ref a) (.ref b) H := ⟨a, _, rfl, DPut.t h hb hl, q⟩
theorem q_dNewT (q : ∀ p, H p = none → Q (.ref p) (upd H p (.dT []))) : tDNewT σ H Q := q
end

local macro_rules | `(tactic| walk_at "my_rd") => `(tactic| (repeat first
  | with_reducible refine q_tCons ?_
  | ((with_reducible apply q_var); (focus (exact rfl)))
  | with_reducible refine q_c ?_
  | with_reducible refine q_nx ?_
  | with_reducible refine q_bK ?_
  | with_reducible refine q_call ?_
  | with_reducible refine q_callK ?_
  | with_reducible refine q_tNil ?_
  | with_reducible refine q_cb ?_
  | with_reducible refine q_seq ?_
  | with_reducible refine q_asg ?_
  | with_reducible refine q_gName ?_
  | with_reducible refine q_op ?_
  | with_reducible refine q_test ?_
  | with_reducible refine q_tB ?_
  | with_reducible refine q_ifS ?_
  | with_reducible refine q_ret ?_
  | with_reducible refine q_rt ?_
  | with_reducible refine q_next ?_
  | with_reducible refine q_ifF ?_
  | with_reducible refine q_ifT ?_
  | with_reducible refine q_drop ?_
  | with_reducible refine q_and ?_
  | with_reducible refine q_or ?_
  | with_reducible refine q_andT ?_
  | with_reducible refine q_andF ?_
  | with_reducible refine q_orF ?_
  | with_reducible refine q_orT ?_
  | with_reducible refine q_andV ?_
  | with_reducible refine q_andVT ?_
  | with_reducible refine q_andVF ?_
  | with_reducible refine q_orV ?_
  | with_reducible refine q_gCons ?_
  | with_reducible refine q_gNil ?_
  | with_reducible refine q_tup ?_
  | with_reducible refine q_lst ?_
  | with_reducible refine q_not ?_
  | with_reducible refine q_notKT ?_
  | with_reducible refine q_notKF ?_
  | with_reducible refine q_I0 ?_
  | with_reducible refine q_eqI ?_
  | with_reducible refine q_neI ?_
  | ((with_reducible refine q_I ?_ ?_); first | decide | omega | exact ⟨by omega, by omega⟩ | exact ⟨by decide, by decide⟩ | exact .inl ⟨by omega, by omega⟩ | exact .inr ⟨by omega, by omega⟩ | exact .inr ⟨by decide, by decide⟩)
  | with_reducible refine q_eqS ?_
  | with_reducible refine q_neS ?_
  | with_reducible refine q_brk ?_
  | with_reducible refine q_ct ?_
  | with_reducible refine q_bk ?_
  | with_reducible refine q_cn ?_
  | with_reducible refine q_retN ?_
  | with_reducible refine q_gSub ?_
  | with_reducible refine q_for ?_
  | with_reducible refine q_iList ?_
  | with_reducible refine q_iTup ?_
  | with_reducible refine q_iRng1 ?_
  | with_reducible refine q_notK ?_
  | with_reducible refine q_orVT ?_
  | with_reducible refine q_orVF ?_
  | with_reducible refine q_notV ?_
  | with_reducible refine q_notVK ?_
  | with_reducible refine q_ifE ?_
  | with_reducible refine q_ifET ?_
  | with_reducible refine q_ifEF ?_
  | with_reducible refine q_yes ?_
  | with_reducible refine q_un ?_
  | with_reducible refine q_rU ?_
  | with_reducible refine q_abs ?_
  | with_reducible refine q_int1 ?_
  | with_reducible refine q_bm ?_
  | with_reducible refine q_bm0 ?_
  | with_reducible refine q_lc ?_
  | with_reducible refine q_keepT ?_
  | with_reducible refine q_keepF ?_
  | ((with_reducible apply q_aug); (focus (exact rfl)))
  | with_reducible refine q_ipI ?_
  | with_reducible refine q_chain ?_
  | with_reducible refine q_pairC ?_
  | with_reducible refine q_pairsK ?_
  | with_reducible refine q_pairN ?_
  | with_reducible refine q_fld ?_
  | with_reducible refine q_sFld ?_
  | with_reducible refine q_meth ?_
  | with_reducible refine q_makeK ?_
  | with_reducible refine q_isBl ?_
  | with_reducible refine q_notBl ?_
  | with_reducible refine q_sl ?_
  | with_reducible refine q_noPart ?_
  | with_reducible refine q_part ?_
  | with_reducible refine q_partK ?_
  | ((with_reducible apply q_mulStr); (focus (decide +kernel)))
  | with_reducible refine q_chT ?_
  | with_reducible refine q_chF ?_
  | with_reducible refine q_ord ?_
  | with_reducible refine q_iStr0 ?_
  | with_reducible refine q_iStr ?_
  | with_reducible refine q_tDIn ?_
  | with_reducible refine q_tDNotIn ?_
  | with_reducible refine q_tDGet ?_
  | with_reducible refine q_tDGet2 ?_
  | with_reducible refine q_tDGet1 ?_
  | with_reducible refine q_tDSetd ?_
  | ((with_reducible apply q_dG2a); (focus ((repeat first | (with_reducible exact upd_same) | (with_reducible assumption) | (with_reducible apply upd_new (by assumption)) | (with_reducible apply upd_other (by first | assumption | exact Ne.symm (by assumption))) | (with_reducible refine' Kp.get (by assumption) ?_ (by first | assumption | exact Ne.symm (by assumption))) | (with_reducible apply Same.get (by assumption))); done)))
  | ((with_reducible apply q_dSda); (focus ((repeat first | (with_reducible exact upd_same) | (with_reducible assumption) | (with_reducible apply upd_new (by assumption)) | (with_reducible apply upd_other (by first | assumption | exact Ne.symm (by assumption))) | (with_reducible refine' Kp.get (by assumption) ?_ (by first | assumption | exact Ne.symm (by assumption))) | (with_reducible apply Same.get (by assumption))); done)))
  | with_reducible refine q_sDPut ?_
  | ((with_reducible apply q_dInS); (focus ((repeat first | (with_reducible exact upd_same) | (with_reducible assumption) | (with_reducible apply upd_new (by assumption)) | (with_reducible apply upd_other (by first | assumption | exact Ne.symm (by assumption))) | (with_reducible refine' Kp.get (by assumption) ?_ (by first | assumption | exact Ne.symm (by assumption))) | (with_reducible apply Same.get (by assumption))); done)))
  | ((with_reducible apply q_dNInS); (focus ((repeat first | (with_reducible exact upd_same) | (with_reducible assumption) | (with_reducible apply upd_new (by assumption)) | (with_reducible apply upd_other (by first | assumption | exact Ne.symm (by assumption))) | (with_reducible refine' Kp.get (by assumption) ?_ (by first | assumption | exact Ne.symm (by assumption))) | (with_reducible apply Same.get (by assumption))); done)))
  | ((with_reducible apply q_dInI); (focus ((repeat first | (with_reducible exact upd_same) | (with_reducible assumption) | (with_reducible apply upd_new (by assumption)) | (with_reducible apply upd_other (by first | assumption | exact Ne.symm (by assumption))) | (with_reducible refine' Kp.get (by assumption) ?_ (by first | assumption | exact Ne.symm (by assumption))) | (with_reducible apply Same.get (by assumption))); done)))
  | ((with_reducible apply q_dNInI); (focus ((repeat first | (with_reducible exact upd_same) | (with_reducible assumption) | (with_reducible apply upd_new (by assumption)) | (with_reducible apply upd_other (by first | assumption | exact Ne.symm (by assumption))) | (with_reducible refine' Kp.get (by assumption) ?_ (by first | assumption | exact Ne.symm (by assumption))) | (with_reducible apply Same.get (by assumption))); done)))
  | ((with_reducible apply q_bmL); (focus ((repeat first | (with_reducible exact upd_same) | (with_reducible assumption) | (with_reducible apply upd_new (by assumption)) | (with_reducible apply upd_other (by first | assumption | exact Ne.symm (by assumption))) | (with_reducible refine' Kp.get (by assumption) ?_ (by first | assumption | exact Ne.symm (by assumption))) | (with_reducible apply Same.get (by assumption))); done)))
  | ((with_reducible apply q_bmL0); (focus ((repeat first | (with_reducible exact upd_same) | (with_reducible assumption) | (with_reducible apply upd_new (by assumption)) | (with_reducible apply upd_other (by first | assumption | exact Ne.symm (by assumption))) | (with_reducible refine' Kp.get (by assumption) ?_ (by first | assumption | exact Ne.symm (by assumption))) | (with_reducible apply Same.get (by assumption))); done)))
  | ((with_reducible apply q_ixLt); (focus ((repeat first | (with_reducible exact upd_same) | (with_reducible assumption) | (with_reducible apply upd_new (by assumption)) | (with_reducible apply upd_other (by first | assumption | exact Ne.symm (by assumption))) | (with_reducible refine' Kp.get (by assumption) ?_ (by first | assumption | exact Ne.symm (by assumption))) | (with_reducible apply Same.get (by assumption))); done)); (focus (exact rfl)))
  | ((with_reducible apply q_ixTt); (focus ((repeat first | (with_reducible exact upd_same) | (with_reducible assumption) | (with_reducible apply upd_new (by assumption)) | (with_reducible apply upd_other (by first | assumption | exact Ne.symm (by assumption))) | (with_reducible refine' Kp.get (by assumption) ?_ (by first | assumption | exact Ne.symm (by assumption))) | (with_reducible apply Same.get (by assumption))); done)); (focus (exact rfl)))
  | ((with_reducible apply q_lenLt); (focus ((repeat first | (with_reducible exact upd_same) | (with_reducible assumption) | (with_reducible apply upd_new (by assumption)) | (with_reducible apply upd_other (by first | assumption | exact Ne.symm (by assumption))) | (with_reducible refine' Kp.get (by assumption) ?_ (by first | assumption | exact Ne.symm (by assumption))) | (with_reducible apply Same.get (by assumption))); done)))
  | ((with_reducible apply q_lenTt); (focus ((repeat first | (with_reducible exact upd_same) | (with_reducible assumption) | (with_reducible apply upd_new (by assumption)) | (with_reducible apply upd_other (by first | assumption | exact Ne.symm (by assumption))) | (with_reducible refine' Kp.get (by assumption) ?_ (by first | assumption | exact Ne.symm (by assumption))) | (with_reducible apply Same.get (by assumption))); done)))
  | ((with_reducible apply q_append); (focus ((repeat first | (with_reducible exact upd_same) | (with_reducible assumption) | (with_reducible apply upd_new (by assumption)) | (with_reducible apply upd_other (by first | assumption | exact Ne.symm (by assumption))) | (with_reducible refine' Kp.get (by assumption) ?_ (by first | assumption | exact Ne.symm (by assumption))) | (with_reducible apply Same.get (by assumption))); done)); (focus ((first | (exact Nat.lt_of_ble_eq_true rfl) | (simp only [List.length_append, List.length_cons, List.length_nil, List.length_map]; exact small1000 (by omega))))))
  | ((with_reducible apply q_setL); (focus ((repeat first | (with_reducible exact upd_same) | (with_reducible assumption) | (with_reducible apply upd_new (by assumption)) | (with_reducible apply upd_other (by first | assumption | exact Ne.symm (by assumption))) | (with_reducible refine' Kp.get (by assumption) ?_ (by first | assumption | exact Ne.symm (by assumption))) | (with_reducible apply Same.get (by assumption))); done)); (focus (exact rfl)))
  | with_reducible refine q_ifNT ?_
  | with_reducible refine q_ifNF ?_
  | with_reducible refine q_andNT ?_
  | with_reducible refine q_andNF ?_
  | with_reducible refine q_orNT ?_
  | with_reducible refine q_orNF ?_
  | with_reducible refine q_bKNT ?_
  | with_reducible refine q_bKNF ?_))
def top (i : Nat) : Stmt := PySem.Challenge.pw_vaultbridge_k24_configuration.main.body.getD i (.Pass ⟨0, 0, 0, 0⟩)
abbrev s__wall : Stmt := top 0
theorem sc__wall : FnScope ["k"] ["k"] (defScope s__wall) := ⟨rfl, rfl, rfl, by decide +kernel, rfl, by decide +kernel, by decide +kernel⟩
abbrev s_is_integer : Stmt := top 11
theorem sc_is_integer : FnScope ["value"] ["value"] (defScope s_is_integer) := ⟨rfl, rfl, rfl, by decide +kernel, rfl, by decide +kernel, by decide +kernel⟩
abbrev s_is_at_least : Stmt := top 12
theorem sc_is_at_least : FnScope ["value", "least"] ["value", "least"] (defScope s_is_at_least) := ⟨rfl, rfl, rfl, by decide +kernel, rfl, by decide +kernel, by decide +kernel⟩
abbrev s_is_text : Stmt := top 13
theorem sc_is_text : FnScope ["value", "char", "code"] ["value"] (defScope s_is_text) := ⟨rfl, rfl, rfl, by decide +kernel, rfl, by decide +kernel, by decide +kernel⟩
abbrev s_is_short_text : Stmt := top 14
theorem sc_is_short_text : FnScope ["value", "most"] ["value", "most"] (defScope s_is_short_text) := ⟨rfl, rfl, rfl, by decide +kernel, rfl, by decide +kernel, by decide +kernel⟩
abbrev s_is_account : Stmt := top 15
theorem sc_is_account : FnScope ["value"] ["value"] (defScope s_is_account) := ⟨rfl, rfl, rfl, by decide +kernel, rfl, by decide +kernel, by decide +kernel⟩
abbrev s_is_side : Stmt := top 16
theorem sc_is_side : FnScope ["value"] ["value"] (defScope s_is_side) := ⟨rfl, rfl, rfl, by decide +kernel, rfl, by decide +kernel, by decide +kernel⟩
abbrev s_is_set : Stmt := top 18
theorem sc_is_set : FnScope ["value", "found", "part"] ["value"] (defScope s_is_set) := ⟨rfl, rfl, rfl, by decide +kernel, rfl, by decide +kernel, by decide +kernel⟩
abbrev s_is_pair : Stmt := top 19
theorem sc_is_pair : FnScope ["part"] ["part"] (defScope s_is_pair) := ⟨rfl, rfl, rfl, by decide +kernel, rfl, by decide +kernel, by decide +kernel⟩
abbrev s_other_side : Stmt := top 23
theorem sc_other_side : FnScope ["side"] ["side"] (defScope s_other_side) := ⟨rfl, rfl, rfl, by decide +kernel, rfl, by decide +kernel, by decide +kernel⟩
abbrev s_Config_init : Stmt := inClass (top 24) 0
theorem sc_Config_init : FnScope ["self", "tokens", "balances", "guards", "depth", "window", "delay", "bundle", "row"] ["self", "tokens", "balances", "guards", "depth", "window", "delay", "bundle"] (defScope s_Config_init) := ⟨rfl, rfl, rfl, by decide +kernel, rfl, by decide +kernel, by decide +kernel⟩
abbrev s_Config_token_names : Stmt := inClass (top 24) 1
theorem sc_Config_token_names : FnScope ["self"] ["self"] (defScope s_Config_token_names) := ⟨rfl, rfl, rfl, by decide +kernel, rfl, by decide +kernel, by decide +kernel⟩
abbrev s_Config_check_token : Stmt := inClass (top 24) 2
theorem sc_Config_check_token : FnScope ["self", "token"] ["self", "token"] (defScope s_Config_check_token) := ⟨rfl, rfl, rfl, by decide +kernel, rfl, by decide +kernel, by decide +kernel⟩
abbrev s_Config_home : Stmt := inClass (top 24) 3
theorem sc_Config_home : FnScope ["self", "token"] ["self", "token"] (defScope s_Config_home) := ⟨rfl, rfl, rfl, by decide +kernel, rfl, by decide +kernel, by decide +kernel⟩
abbrev s_Config_scale : Stmt := inClass (top 24) 4
theorem sc_Config_scale : FnScope ["self", "token"] ["self", "token"] (defScope s_Config_scale) := ⟨rfl, rfl, rfl, by decide +kernel, rfl, by decide +kernel, by decide +kernel⟩
abbrev s_Config_limit : Stmt := inClass (top 24) 5
theorem sc_Config_limit : FnScope ["self", "token"] ["self", "token"] (defScope s_Config_limit) := ⟨rfl, rfl, rfl, by decide +kernel, rfl, by decide +kernel, by decide +kernel⟩
abbrev s_Config_large : Stmt := inClass (top 24) 6
theorem sc_Config_large : FnScope ["self", "token"] ["self", "token"] (defScope s_Config_large) := ⟨rfl, rfl, rfl, by decide +kernel, rfl, by decide +kernel, by decide +kernel⟩
abbrev s_Config_opening : Stmt := inClass (top 24) 7
theorem sc_Config_opening : FnScope ["self", "side", "row"] ["self", "side"] (defScope s_Config_opening) := ⟨rfl, rfl, rfl, by decide +kernel, rfl, by decide +kernel, by decide +kernel⟩
abbrev s_Config_guards : Stmt := inClass (top 24) 8
theorem sc_Config_guards : FnScope ["self"] ["self"] (defScope s_Config_guards) := ⟨rfl, rfl, rfl, by decide +kernel, rfl, by decide +kernel, by decide +kernel⟩
abbrev s_Config_depth : Stmt := inClass (top 24) 9
theorem sc_Config_depth : FnScope ["self"] ["self"] (defScope s_Config_depth) := ⟨rfl, rfl, rfl, by decide +kernel, rfl, by decide +kernel, by decide +kernel⟩
abbrev s_Config_window : Stmt := inClass (top 24) 10
theorem sc_Config_window : FnScope ["self"] ["self"] (defScope s_Config_window) := ⟨rfl, rfl, rfl, by decide +kernel, rfl, by decide +kernel, by decide +kernel⟩
abbrev s_Config_delay : Stmt := inClass (top 24) 11
theorem sc_Config_delay : FnScope ["self"] ["self"] (defScope s_Config_delay) := ⟨rfl, rfl, rfl, by decide +kernel, rfl, by decide +kernel, by decide +kernel⟩
abbrev s_Config_bundle : Stmt := inClass (top 24) 12
theorem sc_Config_bundle : FnScope ["self"] ["self"] (defScope s_Config_bundle) := ⟨rfl, rfl, rfl, by decide +kernel, rfl, by decide +kernel, by decide +kernel⟩
abbrev s_check_list : Stmt := top 25
theorem sc_check_list : FnScope ["name", "value"] ["name", "value"] (defScope s_check_list) := ⟨rfl, rfl, rfl, by decide +kernel, rfl, by decide +kernel, by decide +kernel⟩
abbrev s_check_least : Stmt := top 26
theorem sc_check_least : FnScope ["name", "value", "least"] ["name", "value", "least"] (defScope s_check_least) := ⟨rfl, rfl, rfl, by decide +kernel, rfl, by decide +kernel, by decide +kernel⟩
abbrev s_check_token_row : Stmt := top 27
theorem sc_check_token_row : FnScope ["row", "name", "home", "scale", "limit", "large"] ["row"] (defScope s_check_token_row) := ⟨rfl, rfl, rfl, by decide +kernel, rfl, by decide +kernel, by decide +kernel⟩
abbrev s_check_balance_row : Stmt := top 28
theorem sc_check_balance_row : FnScope ["row", "tokens", "account", "token", "amount"] ["row", "tokens"] (defScope s_check_balance_row) := ⟨rfl, rfl, rfl, by decide +kernel, rfl, by decide +kernel, by decide +kernel⟩
abbrev s_L_pot : Stmt := top 30
theorem sc_L_pot : FnScope ["script", "seed", "cell"] ["script"] (defScope s_L_pot) := ⟨rfl, rfl, rfl, by decide +kernel, rfl, by decide +kernel, by decide +kernel⟩
abbrev s_L_next : Stmt := top 31
theorem sc_L_next : FnScope ["pot", "limit", "mixed", "cell", "found"] ["pot", "limit"] (defScope s_L_next) := ⟨rfl, rfl, rfl, by decide +kernel, rfl, by decide +kernel, by decide +kernel⟩
abbrev s_L_is_int : Stmt := top 32
theorem sc_L_is_int : FnScope ["value"] ["value"] (defScope s_L_is_int) := ⟨rfl, rfl, rfl, by decide +kernel, rfl, by decide +kernel, by decide +kernel⟩
abbrev s_L_same : Stmt := top 33
theorem sc_L_same : FnScope ["found", "value", "k"] ["found", "value"] (defScope s_L_same) := ⟨rfl, rfl, rfl, by decide +kernel, rfl, by decide +kernel, by decide +kernel⟩
abbrev s_L_set : Stmt := top 34
theorem sc_L_set : FnScope ["pot", "most", "names", "found", "k"] ["pot", "most"] (defScope s_L_set) := ⟨rfl, rfl, rfl, by decide +kernel, rfl, by decide +kernel, by decide +kernel⟩
abbrev s_L_config : Stmt := top 35
theorem sc_L_config : FnScope ["pot", "tokens", "name", "balances", "account", "guards", "token"] ["pot"] (defScope s_L_config) := ⟨rfl, rfl, rfl, by decide +kernel, rfl, by decide +kernel, by decide +kernel⟩
abbrev s_L_made : Stmt := top 36
theorem sc_L_made : FnScope ["parts"] ["parts"] (defScope s_L_made) := ⟨rfl, rfl, rfl, by decide +kernel, rfl, by decide +kernel, by decide +kernel⟩
abbrev s_L_refused : Stmt := top 39
theorem sc_L_refused : FnScope ["tokens", "balances", "guards", "depth", "window", "delay", "many", "e"] ["tokens", "balances", "guards", "depth", "window", "delay", "many"] (defScope s_L_refused) := ⟨rfl, rfl, rfl, by decide +kernel, rfl, by decide +kernel, by decide +kernel⟩
abbrev s_L_unknown : Stmt := top 40
theorem sc_L_unknown : FnScope ["config", "e"] ["config"] (defScope s_L_unknown) := ⟨rfl, rfl, rfl, by decide +kernel, rfl, by decide +kernel, by decide +kernel⟩
abbrev s_law : Stmt := top 41
theorem sc_law : FnScope ["script", "pot", "parts", "config", "tokens", "token", "side", "plain", "more", "row", "at", "names"] ["script"] (defScope s_law) := ⟨rfl, rfl, rfl, by decide +kernel, rfl, by decide +kernel, by decide +kernel⟩
structure Txt (K : PySem.W.Frag) (mg : Str → Option Value) where
  f__wall : Addr
  d__wall : FuncData
  F__wall : Fun K "_wall" "_wall" s__wall f__wall d__wall
  b__wall : Binds K d__wall ["k"] []
  g__wall : mg "_wall" = some (.ref f__wall)
  f_is_integer : Addr
  d_is_integer : FuncData
  F_is_integer : Fun K "is_integer" "is_integer" s_is_integer f_is_integer d_is_integer
  b_is_integer : Binds K d_is_integer ["value"] []
  g_is_integer : mg "is_integer" = some (.ref f_is_integer)
  f_is_at_least : Addr
  d_is_at_least : FuncData
  F_is_at_least : Fun K "is_at_least" "is_at_least" s_is_at_least f_is_at_least d_is_at_least
  b_is_at_least : Binds K d_is_at_least ["value", "least"] []
  g_is_at_least : mg "is_at_least" = some (.ref f_is_at_least)
  f_is_text : Addr
  d_is_text : FuncData
  F_is_text : Fun K "is_text" "is_text" s_is_text f_is_text d_is_text
  b_is_text : Binds K d_is_text ["value"] []
  g_is_text : mg "is_text" = some (.ref f_is_text)
  f_is_short_text : Addr
  d_is_short_text : FuncData
  F_is_short_text : Fun K "is_short_text" "is_short_text" s_is_short_text f_is_short_text d_is_short_text
  b_is_short_text : Binds K d_is_short_text ["value", "most"] []
  g_is_short_text : mg "is_short_text" = some (.ref f_is_short_text)
  f_is_account : Addr
  d_is_account : FuncData
  F_is_account : Fun K "is_account" "is_account" s_is_account f_is_account d_is_account
  b_is_account : Binds K d_is_account ["value"] []
  g_is_account : mg "is_account" = some (.ref f_is_account)
  f_is_side : Addr
  d_is_side : FuncData
  F_is_side : Fun K "is_side" "is_side" s_is_side f_is_side d_is_side
  b_is_side : Binds K d_is_side ["value"] []
  g_is_side : mg "is_side" = some (.ref f_is_side)
  f_is_set : Addr
  d_is_set : FuncData
  F_is_set : Fun K "is_set" "is_set" s_is_set f_is_set d_is_set
  b_is_set : Binds K d_is_set ["value"] []
  g_is_set : mg "is_set" = some (.ref f_is_set)
  f_is_pair : Addr
  d_is_pair : FuncData
  F_is_pair : Fun K "is_pair" "is_pair" s_is_pair f_is_pair d_is_pair
  b_is_pair : Binds K d_is_pair ["part"] []
  g_is_pair : mg "is_pair" = some (.ref f_is_pair)
  f_other_side : Addr
  d_other_side : FuncData
  F_other_side : Fun K "other_side" "other_side" s_other_side f_other_side d_other_side
  b_other_side : Binds K d_other_side ["side"] []
  g_other_side : mg "other_side" = some (.ref f_other_side)
  f_Config_init : Addr
  d_Config_init : FuncData
  F_Config_init : Fun K "__init__" "Config.__init__" s_Config_init f_Config_init d_Config_init
  f_Config_token_names : Addr
  d_Config_token_names : FuncData
  F_Config_token_names : Fun K "token_names" "Config.token_names" s_Config_token_names f_Config_token_names d_Config_token_names
  b_Config_token_names : Binds K d_Config_token_names ["self"] []
  f_Config_check_token : Addr
  d_Config_check_token : FuncData
  F_Config_check_token : Fun K "check_token" "Config.check_token" s_Config_check_token f_Config_check_token d_Config_check_token
  b_Config_check_token : Binds K d_Config_check_token ["self", "token"] []
  f_Config_home : Addr
  d_Config_home : FuncData
  F_Config_home : Fun K "home" "Config.home" s_Config_home f_Config_home d_Config_home
  b_Config_home : Binds K d_Config_home ["self", "token"] []
  f_Config_scale : Addr
  d_Config_scale : FuncData
  F_Config_scale : Fun K "scale" "Config.scale" s_Config_scale f_Config_scale d_Config_scale
  b_Config_scale : Binds K d_Config_scale ["self", "token"] []
  f_Config_limit : Addr
  d_Config_limit : FuncData
  F_Config_limit : Fun K "limit" "Config.limit" s_Config_limit f_Config_limit d_Config_limit
  b_Config_limit : Binds K d_Config_limit ["self", "token"] []
  f_Config_large : Addr
  d_Config_large : FuncData
  F_Config_large : Fun K "large" "Config.large" s_Config_large f_Config_large d_Config_large
  b_Config_large : Binds K d_Config_large ["self", "token"] []
  f_Config_opening : Addr
  d_Config_opening : FuncData
  F_Config_opening : Fun K "opening" "Config.opening" s_Config_opening f_Config_opening d_Config_opening
  b_Config_opening : Binds K d_Config_opening ["self", "side"] []
  f_Config_guards : Addr
  d_Config_guards : FuncData
  F_Config_guards : Fun K "guards" "Config.guards" s_Config_guards f_Config_guards d_Config_guards
  b_Config_guards : Binds K d_Config_guards ["self"] []
  f_Config_depth : Addr
  d_Config_depth : FuncData
  F_Config_depth : Fun K "depth" "Config.depth" s_Config_depth f_Config_depth d_Config_depth
  b_Config_depth : Binds K d_Config_depth ["self"] []
  f_Config_window : Addr
  d_Config_window : FuncData
  F_Config_window : Fun K "window" "Config.window" s_Config_window f_Config_window d_Config_window
  b_Config_window : Binds K d_Config_window ["self"] []
  f_Config_delay : Addr
  d_Config_delay : FuncData
  F_Config_delay : Fun K "delay" "Config.delay" s_Config_delay f_Config_delay d_Config_delay
  b_Config_delay : Binds K d_Config_delay ["self"] []
  f_Config_bundle : Addr
  d_Config_bundle : FuncData
  F_Config_bundle : Fun K "bundle" "Config.bundle" s_Config_bundle f_Config_bundle d_Config_bundle
  b_Config_bundle : Binds K d_Config_bundle ["self"] []
  f_check_list : Addr
  d_check_list : FuncData
  F_check_list : Fun K "check_list" "check_list" s_check_list f_check_list d_check_list
  b_check_list : Binds K d_check_list ["name", "value"] []
  g_check_list : mg "check_list" = some (.ref f_check_list)
  f_check_least : Addr
  d_check_least : FuncData
  F_check_least : Fun K "check_least" "check_least" s_check_least f_check_least d_check_least
  b_check_least : Binds K d_check_least ["name", "value", "least"] []
  g_check_least : mg "check_least" = some (.ref f_check_least)
  f_check_token_row : Addr
  d_check_token_row : FuncData
  F_check_token_row : Fun K "check_token_row" "check_token_row" s_check_token_row f_check_token_row d_check_token_row
  b_check_token_row : Binds K d_check_token_row ["row"] []
  g_check_token_row : mg "check_token_row" = some (.ref f_check_token_row)
  f_check_balance_row : Addr
  d_check_balance_row : FuncData
  F_check_balance_row : Fun K "check_balance_row" "check_balance_row" s_check_balance_row f_check_balance_row d_check_balance_row
  b_check_balance_row : Binds K d_check_balance_row ["row", "tokens"] []
  g_check_balance_row : mg "check_balance_row" = some (.ref f_check_balance_row)
  f_L_pot : Addr
  d_L_pot : FuncData
  F_L_pot : Fun K "_law_pot" "_law_pot" s_L_pot f_L_pot d_L_pot
  b_L_pot : Binds K d_L_pot ["script"] []
  g_L_pot : mg "_law_pot" = some (.ref f_L_pot)
  f_L_next : Addr
  d_L_next : FuncData
  F_L_next : Fun K "_law_next" "_law_next" s_L_next f_L_next d_L_next
  b_L_next : Binds K d_L_next ["pot", "limit"] []
  g_L_next : mg "_law_next" = some (.ref f_L_next)
  f_L_is_int : Addr
  d_L_is_int : FuncData
  F_L_is_int : Fun K "_law_is_int" "_law_is_int" s_L_is_int f_L_is_int d_L_is_int
  b_L_is_int : Binds K d_L_is_int ["value"] []
  g_L_is_int : mg "_law_is_int" = some (.ref f_L_is_int)
  f_L_same : Addr
  d_L_same : FuncData
  F_L_same : Fun K "_law_same" "_law_same" s_L_same f_L_same d_L_same
  b_L_same : Binds K d_L_same ["found", "value"] []
  g_L_same : mg "_law_same" = some (.ref f_L_same)
  f_L_set : Addr
  d_L_set : FuncData
  F_L_set : Fun K "_law_set" "_law_set" s_L_set f_L_set d_L_set
  b_L_set : Binds K d_L_set ["pot", "most"] []
  g_L_set : mg "_law_set" = some (.ref f_L_set)
  f_L_config : Addr
  d_L_config : FuncData
  F_L_config : Fun K "_law_config" "_law_config" s_L_config f_L_config d_L_config
  b_L_config : Binds K d_L_config ["pot"] []
  g_L_config : mg "_law_config" = some (.ref f_L_config)
  f_L_made : Addr
  d_L_made : FuncData
  F_L_made : Fun K "_law_made" "_law_made" s_L_made f_L_made d_L_made
  b_L_made : Binds K d_L_made ["parts"] []
  g_L_made : mg "_law_made" = some (.ref f_L_made)
  f_L_refused : Addr
  d_L_refused : FuncData
  F_L_refused : FunD K "_law_refused" "_law_refused" (defArgs s_L_refused) (defBody s_L_refused) (defScope s_L_refused) [.int 0, .int 4] [] f_L_refused d_L_refused
  bd5_L_refused : ∃ ds, Vals [.int 0, .int 4] ds ∧ Binds K d_L_refused ["tokens", "balances", "guards", "depth", "window", "delay", "many"] ds
  bd6_L_refused : ∃ ds, Vals [.int 4] ds ∧ Binds K d_L_refused ["tokens", "balances", "guards", "depth", "window", "delay", "many"] ds
  b_L_refused : Binds K d_L_refused ["tokens", "balances", "guards", "depth", "window", "delay", "many"] []
  g_L_refused : mg "_law_refused" = some (.ref f_L_refused)
  f_L_unknown : Addr
  d_L_unknown : FuncData
  F_L_unknown : Fun K "_law_unknown" "_law_unknown" s_L_unknown f_L_unknown d_L_unknown
  b_L_unknown : Binds K d_L_unknown ["config"] []
  g_L_unknown : mg "_law_unknown" = some (.ref f_L_unknown)
  f_law : Addr
  d_law : FuncData
  F_law : Fun K "law" "law" s_law f_law d_law
  b_law : Binds K d_law ["script"] []
  g_law : mg "law" = some (.ref f_law)
  kb3_Config_init : ∃ g, KBn K d_Config_init ["self", "tokens", "balances", "guards", "depth", "window", "delay", "bundle"] 1 ["tokens", "balances", "guards"] g (fun vs zs => vs ++ [] ++ zs ++ [.int 2, .int 4, .int 2, .int 4])
  kb7_Config_init : KBn K d_Config_init ["self", "tokens", "balances", "guards", "depth", "window", "delay", "bundle"] 1 ["tokens", "balances", "guards", "depth", "window", "delay", "bundle"] (fun us ws => us ++ ws) (fun vs zs => vs ++ zs)
  C_BridgeError : Addr
  g_BridgeError : mg "BridgeError" = some (.ref C_BridgeError)
  xe_BridgeError : PySem.W.excIn K C_BridgeError [.type "ValueError", .type "Exception", .type "BaseException", .type "object"] "ValueError.__new__" = true
  ke_BridgeError : PySem.W.keepIn K (.ref C_BridgeError) = true
  be_BridgeError : PySem.W.subIn K (.ref C_BridgeError) (.type "BaseException") = some true
  te_BridgeError : PySem.W.typeIn K (.ref C_BridgeError) = some (.type "type")
  ie_BridgeError : PySem.W.isClsIn K C_BridgeError = true
  se_BridgeError : PySem.W.subIn K (.ref C_BridgeError) (.ref C_BridgeError) = some true
  hd_BridgeError : PySem.W.hasDictIn K C_BridgeError = true
  C_InvalidArgument : Addr
  g_InvalidArgument : mg "InvalidArgument" = some (.ref C_InvalidArgument)
  xe_InvalidArgument : PySem.W.excIn K C_InvalidArgument [.type "ValueError", .type "Exception", .type "BaseException", .type "object"] "ValueError.__new__" = true
  ke_InvalidArgument : PySem.W.keepIn K (.ref C_InvalidArgument) = true
  be_InvalidArgument : PySem.W.subIn K (.ref C_InvalidArgument) (.type "BaseException") = some true
  te_InvalidArgument : PySem.W.typeIn K (.ref C_InvalidArgument) = some (.type "type")
  ie_InvalidArgument : PySem.W.isClsIn K C_InvalidArgument = true
  se_InvalidArgument : PySem.W.subIn K (.ref C_InvalidArgument) (.ref C_InvalidArgument) = some true
  hg_InvalidArgument : PySem.W.findIn K (.ref C_InvalidArgument) "__getattribute__" = some (some (.builtin "BaseException.__getattribute__"))
  hk_InvalidArgument : PySem.W.findIn K (.ref C_InvalidArgument) "__getattr__" = some none
  hd_InvalidArgument : PySem.W.hasDictIn K C_InvalidArgument = true
  ha_InvalidArgument : PySem.W.findIn K (.ref C_InvalidArgument) "__class__" = some (some (.builtin "object.__class__"))
  hm_InvalidArgument : PySem.W.mroIn K C_InvalidArgument (.type "object") = some true
  hn_InvalidArgument : PySem.W.specialIn K (.builtin "object.__class__") "__get__" = some (some (.builtin "getset_descriptor.__get__"))
  ht_InvalidArgument : PySem.W.takesIn K (.builtin "object.__class__") = some true
  ue_InvalidArgument : PySem.W.subIn K (.ref C_InvalidArgument) (.ref C_BridgeError) = some true
  C_UnknownToken : Addr
  g_UnknownToken : mg "UnknownToken" = some (.ref C_UnknownToken)
  xe_UnknownToken : PySem.W.excIn K C_UnknownToken [.type "ValueError", .type "Exception", .type "BaseException", .type "object"] "ValueError.__new__" = true
  ke_UnknownToken : PySem.W.keepIn K (.ref C_UnknownToken) = true
  be_UnknownToken : PySem.W.subIn K (.ref C_UnknownToken) (.type "BaseException") = some true
  te_UnknownToken : PySem.W.typeIn K (.ref C_UnknownToken) = some (.type "type")
  ie_UnknownToken : PySem.W.isClsIn K C_UnknownToken = true
  se_UnknownToken : PySem.W.subIn K (.ref C_UnknownToken) (.ref C_UnknownToken) = some true
  hg_UnknownToken : PySem.W.findIn K (.ref C_UnknownToken) "__getattribute__" = some (some (.builtin "BaseException.__getattribute__"))
  hk_UnknownToken : PySem.W.findIn K (.ref C_UnknownToken) "__getattr__" = some none
  hd_UnknownToken : PySem.W.hasDictIn K C_UnknownToken = true
  ha_UnknownToken : PySem.W.findIn K (.ref C_UnknownToken) "__class__" = some (some (.builtin "object.__class__"))
  hm_UnknownToken : PySem.W.mroIn K C_UnknownToken (.type "object") = some true
  hn_UnknownToken : PySem.W.specialIn K (.builtin "object.__class__") "__get__" = some (some (.builtin "getset_descriptor.__get__"))
  ht_UnknownToken : PySem.W.takesIn K (.builtin "object.__class__") = some true
  ue_UnknownToken : PySem.W.subIn K (.ref C_UnknownToken) (.ref C_BridgeError) = some true
  C_Config : Addr
  cl_Config : Cls K C_Config
  g_Config : mg "Config" = some (.ref C_Config)
  mk_Config : Mk K C_Config f_Config_init
  m_Config_token_names : Meth K C_Config "token_names" f_Config_token_names
  m_Config_check_token : Meth K C_Config "check_token" f_Config_check_token
  m_Config_home : Meth K C_Config "home" f_Config_home
  m_Config_scale : Meth K C_Config "scale" f_Config_scale
  m_Config_limit : Meth K C_Config "limit" f_Config_limit
  m_Config_large : Meth K C_Config "large" f_Config_large
  m_Config_opening : Meth K C_Config "opening" f_Config_opening
  m_Config_guards : Meth K C_Config "guards" f_Config_guards
  m_Config_depth : Meth K C_Config "depth" f_Config_depth
  m_Config_window : Meth K C_Config "window" f_Config_window
  m_Config_delay : Meth K C_Config "delay" f_Config_delay
  m_Config_bundle : Meth K C_Config "bundle" f_Config_bundle
  n_Config_tokens : NoAttr K C_Config "_tokens"
  n_Config_balances : NoAttr K C_Config "_balances"
  n_Config_guards : NoAttr K C_Config "_guards"
  n_Config_depth : NoAttr K C_Config "_depth"
  n_Config_window : NoAttr K C_Config "_window"
  n_Config_delay : NoAttr K C_Config "_delay"
  n_Config_bundle : NoAttr K C_Config "_bundle"
  t_ACCOUNT_LENGTH : Tok
  c_ACCOUNT_LENGTH : mg "ACCOUNT_LENGTH" = some (.int 20 t_ACCOUNT_LENGTH)
  t_BARRED_CODE : Tok
  c_BARRED_CODE : mg "BARRED_CODE" = some (.int 37 t_BARRED_CODE)
  t_FIRST_CODE : Tok
  c_FIRST_CODE : mg "FIRST_CODE" = some (.int 32 t_FIRST_CODE)
  t_LAST_CODE : Tok
  c_LAST_CODE : mg "LAST_CODE" = some (.int 126 t_LAST_CODE)
  t_MOST_IN_BUNDLE : Tok
  c_MOST_IN_BUNDLE : mg "MOST_IN_BUNDLE" = some (.int 8 t_MOST_IN_BUNDLE)
  a_SIDES : Addr
  c_SIDES : mg "SIDES" = some (.ref a_SIDES)
  k_SIDES : SqTK K a_SIDES [.str "west", .str "east"]
  t_TOKEN_LENGTH : Tok
  c_TOKEN_LENGTH : mg "TOKEN_LENGTH" = some (.int 12 t_TOKEN_LENGTH)
  z_abs : mg "abs" = none
  z_all : mg "all" = none
  z_bool : mg "bool" = none
  z_int : mg "int" = none
  z_isinstance : mg "isinstance" = none
  z_len : mg "len" = none
  z_list : mg "list" = none
  z_ord : mg "ord" = none
  z_range : mg "range" = none
  z_sorted : mg "sorted" = none
  z_str : mg "str" = none
  z_tuple : mg "tuple" = none
theorem Txt.ec_InvalidArgument {K : PySem.W.Frag} {mg : Str → Option Value} (T : Txt K mg) : ExcC K T.C_InvalidArgument := ⟨T.hg_InvalidArgument, T.hk_InvalidArgument, T.be_InvalidArgument, T.hd_InvalidArgument, T.ha_InvalidArgument, T.hn_InvalidArgument, T.ht_InvalidArgument, T.hm_InvalidArgument⟩
theorem Txt.hi_InvalidArgument {K : PySem.W.Frag} {mg : Str → Option Value} (T : Txt K mg) : PySem.W.kitOne K (.ref T.C_InvalidArgument) (.ref T.C_InvalidArgument) = some true := by
  unfold PySem.W.kitOne
  rw [if_pos (beq_self_eq_true _)]
theorem Txt.ex_InvalidArgument {K : PySem.W.Frag} {mg : Str → Option Value} (T : Txt K mg) : PySem.W.exmOne K (.ref T.C_InvalidArgument) (.ref T.C_BridgeError) = some true := PySem.W.exm_ref T.be_BridgeError T.hd_BridgeError T.te_BridgeError T.ue_InvalidArgument
theorem Txt.ec_UnknownToken {K : PySem.W.Frag} {mg : Str → Option Value} (T : Txt K mg) : ExcC K T.C_UnknownToken := ⟨T.hg_UnknownToken, T.hk_UnknownToken, T.be_UnknownToken, T.hd_UnknownToken, T.ha_UnknownToken, T.hn_UnknownToken, T.ht_UnknownToken, T.hm_UnknownToken⟩
theorem Txt.hi_UnknownToken {K : PySem.W.Frag} {mg : Str → Option Value} (T : Txt K mg) : PySem.W.kitOne K (.ref T.C_UnknownToken) (.ref T.C_UnknownToken) = some true := by
  unfold PySem.W.kitOne
  rw [if_pos (beq_self_eq_true _)]
theorem Txt.ex_UnknownToken {K : PySem.W.Frag} {mg : Str → Option Value} (T : Txt K mg) : PySem.W.exmOne K (.ref T.C_UnknownToken) (.ref T.C_BridgeError) = some true := PySem.W.exm_ref T.be_BridgeError T.hd_BridgeError T.te_BridgeError T.ue_UnknownToken
/-! the law's own numbers -/
def PotAt (H : Hp) (p l : Addr) : Prop := ∃ (ns : List Int) (i c s : Int), H p = some (.lst [.ref l, .int i, .int c, .int s]) ∧ H l = some (.lst (ns.map V.int)) ∧ 0 ≤ i ∧ 0 ≤ c ∧ 0 ≤ s ∧ s < 2147483647 ∧ ns.length ≤ 1000 ∧ p ≠ l
theorem PotAt.at {H : Hp} {p l : Addr} (h : PotAt H p l) : ∃ o, H p = some o := by
  obtain ⟨ns, i, c, s, h1, _⟩ := h; exact ⟨_, h1⟩
theorem PotAt.atl {H : Hp} {p l : Addr} (h : PotAt H p l) : ∃ o, H l = some o := by
  obtain ⟨ns, i, c, s, _, h1, _⟩ := h; exact ⟨_, h1⟩
theorem PotAt.same {H H' : Hp} {p l : Addr} (h : PotAt H p l) (e : Same H H') : PotAt H' p l := by
  obtain ⟨ns, i, c, s, h1, h2, r⟩ := h; exact ⟨ns, i, c, s, e _ _ h1, e _ _ h2, r⟩
theorem PotAt.upd {H : Hp} {p l a : Addr} {o : HO} (h : PotAt H p l) (n1 : a ≠ p) (n2 : a ≠ l) : PotAt (L2.upd H a o) p l := by
  obtain ⟨ns, i, c, s, h1, h2, r⟩ := h; exact ⟨ns, i, c, s, upd_other n1.symm h1, upd_other n2.symm h2, r⟩
theorem PotAt.new {H : Hp} {p l a : Addr} {o : HO} (h : PotAt H p l) (n : H a = none) : PotAt (L2.upd H a o) p l := by
  obtain ⟨ns, i, c, s, h1, h2, r⟩ := h; exact ⟨ns, i, c, s, upd_new n h1, upd_new n h2, r⟩
theorem PotAt.nep {H : Hp} {p l a : Addr} (h : PotAt H p l) (n : H a = none) : a ≠ p := by
  obtain ⟨o, h1⟩ := h.at; exact (ne_of_none h1 n).symm
theorem PotAt.nel {H : Hp} {p l a : Addr} (h : PotAt H p l) (n : H a = none) : a ≠ l := by
  obtain ⟨o, h1⟩ := h.atl; exact (ne_of_none h1 n).symm
def sp_pot (K : PySem.W.Frag) : Sp := fun vs H Q _ => ∃ (a : Addr) (ns : List Int), vs = [.ref a] ∧ SqL K H a (ns.map V.int) ∧ ns.length ≤ 63 ∧ ∀ (p l : Addr) (H' : Hp), H p = none → H l = none → PotAt H' p l → Same H H' → Q (.ref p) H'
def sp_next : Sp := fun vs H Q _ => ∃ (p l : Addr) (n : Int), vs = [.ref p, .int n] ∧ PotAt H p l ∧ 0 < n ∧ n < 1000000000 ∧ ∀ (r : Int) (H' : Hp), 0 ≤ r → r < n → PotAt H' p l → Kp p H H' → Q (.int r) H'
section
variable {P : Program} {w : World} {K : PySem.W.Frag} {mg : Str → Option Value} {base : Heap}
theorem map_at {ns : List Int} {i : Nat} {x : V} (h : (ns.map V.int)[i]? = some x) : ∃ z, x = .int z := by
  rw [List.getElem?_map] at h
  cases e : ns[i]? with
  | none => rw [e] at h; cases h
  | some z => rw [e] at h; exact ⟨z, (Option.some.inj h).symm⟩
theorem ok_L_pot (T : Txt K mg) : FnOk P w K mg base CX0 1 T.f_L_pot T.d_L_pot ["script"] (sp_pot K) := by
  refine T.F_L_pot.ok sc_L_pot (fun vs H Q E h => ?_) (fun cdv A outer s H vs Q E hr h => ?_)
  · obtain ⟨a, ns, rfl, _⟩ := h; rfl
  · obtain ⟨a, ns, rfl, hS, hlen, k⟩ := h
    refine ⟨_, (pss_cons (ps_set (i := 1) sc_L_pot.nd rfl (Or.inl rfl) pe_int)
      (pss_cons (ps_for PassesOwn.never rfl (pi_list (pv 0)) (pg_name (i := 2) sc_L_pot.nd rfl (Or.inl rfl))
        (pss_one (ps_set (i := 1) sc_L_pot.nd rfl (Or.inl rfl) (pe_op op_mod (pe_callTy cq_int1 (by rfl) T.z_int boot_int (pa_cons (pe_op op_add (pe_op op_mul (pv 1) pe_int) (pv 2)) pa_nil)) pe_int))))
      (pss_one (ps_ret (pe_lst (pa_cons (pe_callTy cq_listOf (by rfl) T.z_list boot_list (pa_cons (pv 0) pa_nil)) (pa_cons pe_int (pa_cons pe_int (pa_cons (pv 1) pa_nil))))))))), ?_⟩
    (dsimp only [cxOf, Cx.nox, Cx.wish, L2.start, List.map, List.length, List.replicate, List.cons_append, List.nil_append, List.append_eq, Nat.reduceSub, Nat.reduceAdd])
    walk_at "my_rd"
    refine q_forL hS (fun i σ H2 => ∃ (z : Int) (v : Option V), σ = [some (.ref a), some (.int z), v] ∧ H2 = H ∧ 0 ≤ z ∧ z < 2147483647) ⟨1, none, rfl, rfl, by omega, by omega⟩ (fun i σ H2 _ ⟨_, _, _, e, _⟩ => e ▸ hS) ?_ ?_
    · rintro i x σ H2 hx ⟨z, v, rfl, rfl, h0, h1⟩
      obtain ⟨y, rfl⟩ := map_at hx
      walk_at "my_rd"
      exact ⟨_, _, rfl, rfl, Int.emod_nonneg _ (by decide), Int.emod_lt_of_pos _ (by decide)⟩
    · rintro σ H2 ⟨z, v, rfl, rfl, h0, h1⟩
      walk_at "my_rd"
      refine q_listL hS fun l nl => ?_
      walk_at "my_rd"
      refine q_lstK (Nat.le_of_ble_eq_true rfl) fun p np => ?_
      walk_at "my_rd"
      refine k p l _ (upd_none_back np) nl ⟨ns, 0, 0, z, upd_same, upd_new np upd_same, by omega, by omega, h0, h1, by omega, ?_⟩ (Same.new (Same.new (Same.refl _) nl) (upd_none_back np))
      exact upd_none_ne np
theorem ok_L_next (T : Txt K mg) : FnOk P w K mg base CX0 1 T.f_L_next T.d_L_next ["pot", "limit"] sp_next := by
  refine T.F_L_next.ok sc_L_next (fun vs H Q E h => ?_) (fun cdv A outer s H vs Q E hr h => ?_)
  · obtain ⟨p, l, n, rfl, _⟩ := h; rfl
  · obtain ⟨p, l, n, rfl, ⟨ns, i, c, z, hp, hl, hi, hc, hz0, hz1, hns, hpl⟩, hn, hn2, k⟩ := h
    refine ⟨_, (Evl.pss_cut (ps_if (PW.pt (pw_and (pt_cmpR op_eq (pe_ix ix_list (pv 0) pe_int (fun _ _ => rfl)) pe_int (nomark _)) (pw_and1 (pt_cmpR op_lt (pe_ix ix_list (pv 0) pe_int (fun _ _ => rfl)) (pe_callB cq_len (by rfl) T.z_len boot_len (pa_cons (pe_ix ix_list (pv 0) pe_int (fun _ _ => rfl)) pa_nil)) (nomark _))))) (pss_cons (ps_set (i := 3) sc_L_next.nd rfl (Or.inl rfl) (pe_callB cq_abs (by rfl) T.z_abs boot_abs (pa_cons (pe_callTy cq_int1 (by rfl) T.z_int boot_int (pa_cons (pe_ix ix_list (pe_ix ix_list (pv 0) pe_int (fun _ _ => rfl)) (pe_ix ix_list (pv 0) pe_int (fun _ _ => rfl)) (fun _ _ => rfl)) pa_nil)) pa_nil)))
      (pss_cons (ps_asg (pe_op op_add (pe_ix ix_list (pv 0) pe_int (fun _ _ => rfl)) pe_int) (pg_sub (pv 0) pe_int set_list))
      (pss_cons (ps_if (pt_cmpR op_lt (pv 3) (pe_op op_pow pe_int pe_int) (nomark _)) (pss_one (ps_ret (pe_op op_mod (pe_callTy cq_int1 (by rfl) T.z_int boot_int (pa_cons (pv 3) pa_nil)) (pv 1)))) pss_nil)
      (pss_one (ps_asg (pv 3) (pg_sub (pv 0) pe_int set_list)))))) pss_nil)
      (pss_cons (ps_if (pt_cmpR op_gt (pe_ix ix_list (pv 0) pe_int (fun _ _ => rfl)) pe_int (nomark _)) (pss_cons (ps_set (i := 4) sc_L_next.nd rfl (Or.inl rfl) (pe_op op_mod (pe_callTy cq_int1 (by rfl) T.z_int boot_int (pa_cons (pe_ix ix_list (pv 0) pe_int (fun _ _ => rfl)) pa_nil)) (pv 1)))
      (pss_cons (ps_asg (pe_op op_fdiv (pe_ix ix_list (pv 0) pe_int (fun _ _ => rfl)) (pv 1)) (pg_sub (pv 0) pe_int set_list))
      (pss_one (ps_ret (pv 4))))) pss_nil)
      (pss_cons (ps_asg (pe_op op_mod (pe_callTy cq_int1 (by rfl) T.z_int boot_int (pa_cons (pe_op op_add (pe_op op_mul (pe_ix ix_list (pv 0) pe_int (fun _ _ => rfl)) pe_int) pe_int) pa_nil)) pe_int) (pg_sub (pv 0) pe_int set_list))
      (pss_cons (ps_set (i := 2) sc_L_next.nd rfl (Or.inl rfl) (pe_op op_mod (pe_callTy cq_int1 (by rfl) T.z_int boot_int (pa_cons (pe_op op_add (pe_op op_mul (pe_ix ix_list (pv 0) pe_int (fun _ _ => rfl)) pe_int) (pe_op op_fdiv (pe_ix ix_list (pv 0) pe_int (fun _ _ => rfl)) pe_int)) pa_nil)) pe_int))
      (pss_one (ps_ret (pe_op op_mod (pe_callTy cq_int1 (by rfl) T.z_int boot_int (pa_cons (pv 2) pa_nil)) (pv 1)))))))), ?_⟩
    (dsimp only [cxOf, Cx.nox, Cx.wish, L2.start, List.map, List.length, List.replicate, List.cons_append, List.nil_append, List.append_eq, Nat.reduceSub, Nat.reduceAdd])
    refine q_cut (Mid := fun σ' H' => ∃ (cell : Option V) (i c : Int), σ' = [some (.ref p), some (.int n), none, cell, none] ∧ H' p = some (.lst [.ref l, .int i, .int c, .int z]) ∧ H' l = some (.lst (ns.map V.int)) ∧ 0 ≤ i ∧ 0 ≤ c ∧ Kp p H H') ?_ ?_
    · walk_at "my_rd"
      refine q_and2 (fun h1 => ?_) (fun _ => ?_)
      · walk_at "my_rd"
        refine q_if2 (fun h2 => ?_) (fun _ => ?_)
        · have h2 := dec_t h2
          rw [List.length_map] at h2
          have hi2 : i.toNat < ns.length := by omega
          have ha : atI (ns.map V.int) i = some (V.int ns[i.toNat]) := at_int (n := i.toNat) (by omega) (by rw [List.getElem?_map, List.getElem?_eq_getElem hi2]; rfl)
          walk_at "my_rd"
          refine q_ixLt hl ha ?_
          walk_at "my_rd"
          refine q_if2 (fun h3 => ?_) (fun h3 => ?_)
          · walk_at "my_rd"
            refine k _ _ (Int.emod_nonneg _ (by omega)) (Int.emod_lt_of_pos _ hn) ⟨ns, i + 1, c, z, upd_same, upd_other hpl.symm hl, by omega, hc, hz0, hz1, hns, hpl⟩ (Kp.upd Kp.refl)
          · walk_at "my_rd"
            refine ⟨_, i + 1, _, rfl, upd_same, upd_other hpl.symm (upd_other hpl.symm hl), by omega, ?_, Kp.upd (Kp.upd Kp.refl)⟩
            split <;> omega
        · walk_at "my_rd"
          exact ⟨none, i, c, rfl, hp, hl, hi, hc, Kp.refl⟩
      · walk_at "my_rd"
        exact ⟨none, i, c, rfl, hp, hl, hi, hc, Kp.refl⟩
    · clear hp hl hi hc i c
      rintro σ' H2 ⟨cell, i, c, rfl, hp, hl, hi, hc, kp⟩
      walk_at "my_rd"
      refine q_if2 (fun h1 => ?_) (fun h1 => ?_)
      · have h1 := dec_t h1
        walk_at "my_rd"
        refine k _ _ (Int.emod_nonneg _ (by omega)) (Int.emod_lt_of_pos _ hn) ⟨ns, i, c / n, z, upd_same, upd_other hpl.symm hl, hi, Int.ediv_nonneg hc (by omega), hz0, hz1, hns, hpl⟩ (Kp.upd kp)
      · walk_at "my_rd"
        refine k _ _ (Int.emod_nonneg _ (by omega)) (Int.emod_lt_of_pos _ hn) ⟨ns, i, c, _, upd_same, upd_other hpl.symm hl, hi, hc, Int.emod_nonneg _ (by decide), Int.emod_lt_of_pos _ (by decide), hns, hpl⟩ (Kp.upd kp)
end

/-! sets of guards as data: names with weights -/
abbrev Gs := List (Str × Int)
def wsum (gs : Gs) : Int := (gs.map (·.2)).sum
structure PairsAt (H : Hp) (xs : List V) (gs : Gs) : Prop where
  len : xs.length = gs.length
  at_ : ∀ (i : Nat) (g : Str × Int), gs[i]? = some g → ∃ a, xs[i]? = some (.ref a) ∧ H a = some (.tup [.str g.1, .int g.2])
theorem PairsAt.nil {H : Hp} : PairsAt H [] [] := ⟨rfl, fun i g h => by simp at h⟩
theorem PairsAt.mono {H H' : Hp} {xs : List V} {gs : Gs} (h : PairsAt H xs gs) (e : ∀ b ys, H b = some (.tup ys) → H' b = some (.tup ys)) : PairsAt H' xs gs :=
  ⟨h.len, fun i g hg => by obtain ⟨a, h1, h2⟩ := h.at_ i g hg; exact ⟨a, h1, e _ _ h2⟩⟩
theorem PairsAt.same {H H' : Hp} {xs : List V} {gs : Gs} (h : PairsAt H xs gs) (e : Same H H') : PairsAt H' xs gs := h.mono fun b ys q => e b _ q
theorem PairsAt.item {H : Hp} {xs : List V} {gs : Gs} (h : PairsAt H xs gs) {i : Nat} {x : V} (hx : xs[i]? = some x) : ∃ g a, gs[i]? = some g ∧ x = .ref a ∧ H a = some (.tup [.str g.1, .int g.2]) := by
  have hi : i < gs.length := by rw [← h.len]; exact (List.getElem?_eq_some_iff.mp hx).1
  obtain ⟨a, h1, h2⟩ := h.at_ i gs[i] (List.getElem?_eq_getElem hi)
  exact ⟨gs[i], a, List.getElem?_eq_getElem hi, Option.some.inj (hx.symm.trans h1), h2⟩
theorem PairsAt.snoc {H : Hp} {xs : List V} {gs : Gs} {a : Addr} {g : Str × Int} (h : PairsAt H xs gs) (ha : H a = some (.tup [.str g.1, .int g.2])) : PairsAt H (xs ++ [.ref a]) (gs ++ [g]) := by
  refine ⟨by rw [List.length_append, List.length_append, h.len]; rfl, fun i g' hg => ?_⟩
  by_cases hi : i < gs.length
  · rw [List.getElem?_append_left hi] at hg
    rw [List.getElem?_append_left (by rw [h.len]; exact hi)]
    exact h.at_ i g' hg
  · have hi' : i = gs.length := by
      have := (List.getElem?_eq_some_iff.mp hg).1
      rw [List.length_append] at this
      simp at this
      omega
    subst hi'
    rw [List.getElem?_append_right (Nat.le_refl _)] at hg
    simp at hg
    subst hg
    refine ⟨a, ?_, ha⟩
    rw [List.getElem?_append_right (by rw [h.len]; exact Nat.le_refl _), h.len]
    simp
theorem take_snoc {α : Type} {l : List α} {i : Nat} {x : α} (h : l[i]? = some x) : l.take (i + 1) = l.take i ++ [x] := by
  rw [List.take_add_one, h]; rfl
theorem wsum_snoc (gs : Gs) (g : Str × Int) : wsum (gs ++ [g]) = wsum gs + g.2 := by
  unfold wsum; rw [List.map_append, List.sum_append]; simp
theorem wsum_nonneg {gs : Gs} (h : ∀ g ∈ gs, 1 ≤ g.2) : 0 ≤ wsum gs := by
  induction gs with
  | nil => exact Int.le_refl _
  | cons g r ih =>
    have h1 := h g (List.mem_cons_self ..)
    have h2 := ih fun x hx => h x (List.mem_cons_of_mem _ hx)
    show 0 ≤ (g.2 :: r.map (·.2)).sum
    rw [List.sum_cons]
    have h3 : 0 ≤ (r.map (·.2)).sum := h2
    omega
theorem wsum_pos {gs : Gs} (h : ∀ g ∈ gs, 1 ≤ g.2) (hn : gs ≠ []) : 1 ≤ wsum gs := by
  cases gs with
  | nil => exact absurd rfl hn
  | cons g r =>
    have h1 := h g (List.mem_cons_self ..)
    have h2 : 0 ≤ wsum r := wsum_nonneg fun x hx => h x (List.mem_cons_of_mem _ hx)
    show 1 ≤ (g.2 :: r.map (·.2)).sum
    rw [List.sum_cons]
    have h3 : 0 ≤ (r.map (·.2)).sum := h2
    omega
theorem wsum_le {gs : Gs} {m : Int} (h : ∀ g ∈ gs, g.2 ≤ m) : wsum gs ≤ m * gs.length := by
  induction gs with
  | nil => show (0 : Int) ≤ m * 0; omega
  | cons g r ih =>
    have h1 := h g (List.mem_cons_self ..)
    have h2 := ih fun x hx => h x (List.mem_cons_of_mem _ hx)
    have e : wsum (g :: r) = g.2 + wsum r := by show (g.2 :: r.map (·.2)).sum = _; rw [List.sum_cons]; rfl
    rw [e, List.length_cons, Int.natCast_add, Int.mul_add]
    omega
def thr (gs : Gs) : Int := wsum gs * 2 / 3 + 1
/-- a set's total, its bounds -/
structure GsOk (gs : Gs) : Prop where
  pos : ∀ g ∈ gs, 1 ≤ g.2
  top : ∀ g ∈ gs, g.2 ≤ 1000000
  few : gs.length ≤ 1000
theorem GsOk.lo {gs : Gs} (h : GsOk gs) : 0 ≤ wsum gs := wsum_nonneg h.pos
theorem GsOk.hi {gs : Gs} (h : GsOk gs) : wsum gs ≤ 1000000000 := by
  have h1 := wsum_le h.top
  have h2 := h.few
  omega
theorem GsOk.take {gs : Gs} (h : GsOk gs) (i : Nat) : GsOk (gs.take i) :=
  ⟨fun g hg => h.pos g (List.mem_of_mem_take hg), fun g hg => h.top g (List.mem_of_mem_take hg), by rw [List.length_take]; have := h.few; omega⟩
def sp_total (K : PySem.W.Frag) : Sp := fun vs H Q _ => ∃ (a : Addr) (xs : List V) (gs : Gs), vs = [.ref a] ∧ SqT K H a xs ∧ PairsAt H xs gs ∧ GsOk gs ∧ ∀ H', Same H H' → Q (.int (wsum gs)) H'
def sp_threshold (K : PySem.W.Frag) : Sp := fun vs H Q _ => ∃ (a : Addr) (xs : List V) (gs : Gs), vs = [.ref a] ∧ SqT K H a xs ∧ PairsAt H xs gs ∧ GsOk gs ∧ ∀ H', Same H H' → Q (.int (thr gs)) H'
def sp_minority (K : PySem.W.Frag) : Sp := fun vs H Q _ => ∃ (a : Addr) (xs : List V) (gs : Gs), vs = [.ref a] ∧ SqT K H a xs ∧ PairsAt H xs gs ∧ GsOk gs ∧ ∀ H', Same H H' → Q (.int (wsum gs - thr gs + 1)) H'

/-! the law's sets -/
def nm (k : Nat) : Str := ("g" : Str) ++ (toString (k : Int) : Str)
def allNames : List Str := (List.range 7).map nm
theorem allNames_nodup : allNames.Nodup := by decide +kernel
theorem allNames_len : allNames.length = 7 := rfl
/-- a drawn set -/
structure Drawn (gs : Gs) : Prop where
  ne : gs ≠ []
  few : gs.length ≤ 7
  nd : (gs.map (·.1)).Nodup
  nms : ∀ g ∈ gs, g.1 ∈ allNames
  pos : ∀ g ∈ gs, 1 ≤ g.2
  top : ∀ g ∈ gs, g.2 ≤ 50
theorem Drawn.ok {gs : Gs} (h : Drawn gs) : GsOk gs := ⟨h.pos, fun g hg => by have := h.top g hg; omega, by have := h.few; omega⟩
def sp_Lset : Sp := fun vs H Q _ => ∃ (p l : Addr) (m : Int), vs = [.ref p, .int m] ∧ PotAt H p l ∧ 0 < m ∧ m ≤ 7 ∧ ∀ (a : Addr) (xs : List V) (gs : Gs) (H' : Hp), H a = none → H' a = some (.tup xs) → PairsAt H' xs gs → Drawn gs → (gs.length : Int) ≤ m → PotAt H' p l → Kp p H H' → Q (.ref a) H'
theorem perm_eraseIdx {α : Type} : ∀ {l : List α} {n : Nat} {x : α}, l[n]? = some x → (x :: l.eraseIdx n).Perm l
  | [], _, _, h => by simp at h
  | a :: r, 0, x, h => by
    have e : a = x := Option.some.inj h
    subst e
    exact List.Perm.refl _
  | a :: r, n + 1, x, h => by
    have ih := perm_eraseIdx (l := r) (n := n) (x := x) h
    show (x :: a :: r.eraseIdx n).Perm (a :: r)
    exact (List.Perm.swap a x _).trans (List.Perm.cons a ih)
theorem map_erase {α β : Type} (f : α → β) : ∀ (l : List α) (n : Nat), (l.map f).eraseIdx n = (l.eraseIdx n).map f
  | [], _ => rfl
  | _ :: _, 0 => rfl
  | a :: r, n + 1 => by
    show f a :: (r.map f).eraseIdx n = f a :: (r.eraseIdx n).map f
    rw [map_erase f r n]
theorem PairsAt.updL {H : Hp} {xs zs ys : List V} {gs : Gs} {F : Addr} (h : PairsAt H xs gs) (hF : H F = some (.lst ys)) : PairsAt (upd H F (.lst zs)) xs gs :=
  h.mono fun b ws q => upd_other (ne_of q hF (by intro z; cases z)) q
theorem PairsAt.new {H : Hp} {xs : List V} {gs : Gs} {F : Addr} {o : HO} (h : PairsAt H xs gs) (hF : H F = none) : PairsAt (upd H F o) xs gs :=
  h.mono fun b ws q => upd_new hF q
theorem PairsAt.kp {H H' : Hp} {xs : List V} {gs : Gs} {p l : Addr} (h : PairsAt H xs gs) (pot : PotAt H p l) (kp : Kp p H H') : PairsAt H' xs gs :=
  h.mono fun b ws q => by
    obtain ⟨ns, i, c, s, h1, _⟩ := pot
    exact kp _ _ q (ne_of q h1 (by intro z; cases z))
theorem nm_short : ∀ k : Nat, k < 7 → (Str.ofString (toString (k : Int))).length ≤ 5 := by decide +kernel
theorem names_pop {gn ss : List Str} {x : Str} {n : Nat} (hx : ss[n]? = some x) (h : (gn ++ ss).Nodup) : ((gn ++ [x]) ++ ss.eraseIdx n).Nodup := by
  obtain ⟨hn, e⟩ := List.getElem?_eq_some_iff.mp hx
  have hp : (x :: ss.eraseIdx n).Perm ss := perm_eraseIdx hx
  rw [List.append_assoc]
  exact (List.Perm.append_left gn hp).nodup_iff.mpr h
section
variable {P : Program} {w : World} {K : PySem.W.Frag} {mg : Str → Option Value} {base : Heap}
theorem ok_L_set (T : Txt K mg) : FnOk P w K mg base CX0 2 T.f_L_set T.d_L_set ["pot", "most"] sp_Lset := by
  refine T.F_L_set.ok sc_L_set (fun vs H Q E h => ?_) (fun cdv A outer s H vs Q E hr h => ?_)
  · obtain ⟨p, l, m, rfl, _⟩ := h; rfl
  · obtain ⟨p, l, m, rfl, pot, hm, hm7, k⟩ := h
    refine ⟨_, (pss_cons (ps_setLc (i := 2) (own := [("k", 4)]) (g := (gName 4)) (tt := tYes) (te := (tOp rAddStr (tC (.str "g")) (tCB rStrInt (tCons (tVar 4) tNil)))) rfl sc_L_set.nd rfl rfl (sw_true rfl rfl rfl (by decide +kernel)) (pi_range1 (by rfl) T.z_range (pa_cons pe_int pa_nil)) (blkOk_by (own := [("k", 4)]) (N := ["pot", "most", "names", "found", "k"]) (sc := defScope s_L_set) (by decide +kernel)) (fun _ _ _ _ _ => (pg_name (i := 4) sc_L_set.nd rfl (Or.inl rfl))) (fun _ _ _ _ _ => pts_nil) (fun _ _ _ _ _ => (pe_op oq_addStr pe_str (pe_callTy cq_strInt (by rfl) T.z_str boot_str (pa_cons (pv 4) pa_nil)))))
      (pss_cons (ps_set (i := 3) sc_L_set.nd rfl (Or.inl rfl) (pe_lst pa_nil))
      (pss_cons (ps_for PassesOwn.never rfl (pi_range1 (by rfl) T.z_range (pa_cons (pe_op op_add pe_int (pe_call (ok_L_next T) (hr.mono (by decide)) (by rfl) T.g_L_next T.F_L_next.kp T.b_L_next .nil pass0 (pa_cons (pv 0) (pa_cons (pv 1) pa_nil)))) pa_nil)) (pg_name (i := 4) sc_L_set.nd rfl (Or.inl rfl))
        (pss_one (ps_expr (pe_bm PySem.F.plainAttrs_list PySem.F.slot_list_append PySem.F.type_list_append mt_append (pv 3) (pa_cons (pe_tup (pa_cons (pe_bm PySem.F.plainAttrs_list PySem.F.slot_list_pop PySem.F.type_list_pop mt_popAt (pv 2) (pa_cons (pe_call (ok_L_next T) (hr.mono (by decide)) (by rfl) T.g_L_next T.F_L_next.kp T.b_L_next .nil pass0 (pa_cons (pv 0) (pa_cons (pe_callB cq_len (by rfl) T.z_len boot_len (pa_cons (pv 2) pa_nil)) pa_nil))) pa_nil)) (pa_cons (pe_op op_add pe_int (pe_call (ok_L_next T) (hr.mono (by decide)) (by rfl) T.g_L_next T.F_L_next.kp T.b_L_next .nil pass0 (pa_cons (pv 0) (pa_cons (pe_ix ix_list (pe_lst (pa_cons pe_int (pa_cons pe_int (pa_cons pe_int pa_nil)))) (pe_call (ok_L_next T) (hr.mono (by decide)) (by rfl) T.g_L_next T.F_L_next.kp T.b_L_next .nil pass0 (pa_cons (pv 0) (pa_cons pe_int pa_nil))) (fun _ _ => rfl)) pa_nil)))) pa_nil))) pa_nil)))))
      (pss_one (ps_ret (pe_callTy cq_tupOf (by rfl) T.z_tuple boot_tuple (pa_cons (pv 3) pa_nil))))))), ?_⟩
    (dsimp only [cxOf, Cx.nox, Cx.wish, L2.start, List.map, List.length, List.replicate, List.cons_append, List.nil_append, List.append_eq, Nat.reduceSub, Nat.reduceAdd])
    walk_at "my_rd"
    refine q_lcR ⟨by decide, by decide⟩ (fun N nN => ⟨fun i H2 => Same H H2 ∧ H2 N = some (.lst (((List.range i).map nm).map V.str)), ⟨Same.new (Same.refl _) nN, upd_same⟩, ?_, ?_⟩)
    · rintro i H2 hi ⟨sm, hD⟩
      have hi7 : i < 7 := by omega
      walk_at "my_rd"
      refine ⟨rfl, ?_⟩
      walk_at "my_rd"
      refine q_strInt (Nat.lt_of_le_of_lt (Nat.log2_le_self _) (by omega)) ?_
      refine q_addStr ?_ ?_
      · have := nm_short i hi7
        have h1 : (Str.ofString "g").length = 1 := rfl
        exact Nat.le_of_lt (small1000 (by omega))
      · walk_at "my_rd"
        refine q_accK hD (by rw [List.length_map, List.length_map, List.length_range]; exact small1000 (by omega)) ⟨Same.new sm nN, ?_⟩
        rw [upd_same, List.range_succ, List.map_append, List.map_append]
        rfl
    · rintro H2 ⟨sm, hN⟩
      have hN : H2 N = some (.lst (allNames.map V.str)) := hN
      walk_at "my_rd"
      refine q_lstK (Nat.zero_le _) fun F nF => ?_
      have nNF : N ≠ F := ne_of_none hN nF
      have hF0 : H F = none := Same.free sm nF
      have nNp : N ≠ p := pot.nep nN
      have nNl : N ≠ l := pot.nel nN
      have nFp : F ≠ p := pot.nep hF0
      have nFl : F ≠ l := pot.nel hF0
      walk_at "my_rd"
      refine ⟨p, l, m, rfl, (pot.same sm).new nF, hm, by omega, fun r H4 r0 r1 pot4 kp4 => ?_⟩
      have hN4 : H4 N = some (.lst (allNames.map V.str)) := Kp.get kp4 (upd_new nF hN) nNp
      have hF4 : H4 F = some (.lst []) := Kp.get kp4 upd_same nFp
      have kp0 : Kp p H H4 := Kp.trans (Kp.new (Same.kp sm) hF0) kp4
      walk_at "my_rd"
      refine q_forR ⟨by omega, by omega⟩ (fun i σ H5 => ∃ (ss : List Str) (xs : List V) (gs : Gs) (kv : Option V), σ = [some (.ref p), some (.int m), some (.ref N), some (.ref F), kv] ∧ H5 N = some (.lst (ss.map V.str)) ∧ H5 F = some (.lst xs) ∧ PairsAt H5 xs gs ∧ gs.length = i ∧ ss.length + i = 7 ∧ (gs.map (·.1) ++ ss).Nodup ∧ (∀ g ∈ gs, g.1 ∈ allNames) ∧ (∀ s ∈ ss, s ∈ allNames) ∧ (∀ g ∈ gs, 1 ≤ g.2) ∧ (∀ g ∈ gs, g.2 ≤ 50) ∧ PotAt H5 p l ∧ Kp p H H5)
        ⟨allNames, [], [], none, rfl, hN4, hF4, PairsAt.nil, rfl, allNames_len, allNames_nodup, by simp, fun s hs => hs, by simp, by simp, pot4, kp0⟩ ?_ ?_
      · rintro i σ H5 hi ⟨ss, xs, gs, kv, rfl, hN5, hF5, hP5, hl, hsl, hnd, hnm, hss, hpos, htop, pot5, kp5⟩
        walk_at "my_rd"
        refine ⟨p, l, _, rfl, pot5, by rw [List.length_map]; omega, by rw [List.length_map]; omega, fun r2 H6 a0 a1 pot6 kp6 => ?_⟩
        rw [List.length_map] at a1
        have hN6 : H6 N = some (.lst (ss.map V.str)) := Kp.get kp6 hN5 nNp
        have hF6 : H6 F = some (.lst xs) := Kp.get kp6 hF5 nFp
        have hP6 := hP5.kp pot5 kp6
        have hr2 : r2.toNat < ss.length := by omega
        have hx : ss[r2.toNat]? = some ss[r2.toNat] := List.getElem?_eq_getElem hr2
        walk_at "my_rd"
        refine q_popAt (n := r2.toNat) hN6 (by omega) (by rw [List.length_map]; exact hr2) (by omega) (v := .str ss[r2.toNat]) (by rw [List.getElem?_map, hx]; rfl) ?_
        rw [map_erase]
        generalize hH7 : upd H6 N (HO.lst ((ss.eraseIdx r2.toNat).map V.str)) = H7
        have hN7 : H7 N = some (.lst ((ss.eraseIdx r2.toNat).map V.str)) := by rw [← hH7]; exact upd_same
        have hF7 : H7 F = some (.lst xs) := by rw [← hH7]; exact upd_other nNF.symm hF6
        have hP7 : PairsAt H7 xs gs := by rw [← hH7]; exact hP6.updL hN6
        have pot7 : PotAt H7 p l := by rw [← hH7]; exact pot6.upd nNp nNl
        have kp7 : Kp p H H7 := by rw [← hH7]; exact Kp.new (Kp.trans kp5 kp6) nN
        walk_at "my_rd"
        refine q_lstK (by decide) fun M nM => ?_
        walk_at "my_rd"
        refine ⟨p, l, 3, rfl, pot7.new nM, by omega, by omega, fun r3 H8 b0 b1 pot8 kp8 => ?_⟩
        have hM8 : H8 M = some (.lst [.int 1, .int 4, .int 50]) := Kp.get kp8 upd_same (pot7.nep nM)
        obtain ⟨lim, hlim, l0, l1⟩ : ∃ lim : Int, atI [V.int 1, V.int 4, V.int 50] r3 = some (.int lim) ∧ 1 ≤ lim ∧ lim ≤ 50 := by
          have : r3 = 0 ∨ r3 = 1 ∨ r3 = 2 := by omega
          rcases this with rfl | rfl | rfl
          · exact ⟨1, rfl, by omega, by omega⟩
          · exact ⟨4, rfl, by omega, by omega⟩
          · exact ⟨50, rfl, by omega, by omega⟩
        walk_at "my_rd"
        refine q_ixLt hM8 hlim ?_
        walk_at "my_rd"
        refine ⟨p, l, lim, rfl, pot8, by omega, by omega, fun r4 H9 c0 c1 pot9 kp9 => ?_⟩
        have kp79 : Kp p (upd H7 M (.lst [.int 1, .int 4, .int 50])) H9 := Kp.trans kp8 kp9
        have hN9 : H9 N = some (.lst ((ss.eraseIdx r2.toNat).map V.str)) := Kp.get kp79 (upd_new nM hN7) nNp
        have hF9 : H9 F = some (.lst xs) := Kp.get kp79 (upd_new nM hF7) nFp
        have hP9 : PairsAt H9 xs gs := (hP7.new nM).kp (pot7.new nM) kp79
        have hM0 : H M = none := Kp.fresh kp7 pot.at.choose_spec nM (pot7.nep nM)
        have kp09 : Kp p H H9 := Kp.trans (Kp.new kp7 hM0) kp79
        walk_at "my_rd"
        refine q_tupK (by show 2 ≤ sizeLine; decide) fun U nU => ?_
        have hU0 : H U = none := Kp.fresh kp09 pot.at.choose_spec nU (pot9.nep nU)
        have nFU : F ≠ U := ne_of_none hF9 nU
        have nNU : N ≠ U := ne_of_none hN9 nU
        walk_at "my_rd"
        refine q_append (upd_new nU hF9) (by rw [hP9.len]; exact small1000 (by omega)) ?_
        walk_at "my_rd"
        refine ⟨ss.eraseIdx r2.toNat, xs ++ [.ref U], gs ++ [(ss[r2.toNat], 1 + r4)], _, rfl, upd_other nNF (upd_new nU hN9), upd_same, ?_, by rw [List.length_append, hl]; rfl, ?_, ?_, ?_, ?_, ?_, ?_, (pot9.new nU).upd nFp nFl, Kp.new (Kp.new kp09 hU0) hF0⟩
        · exact ((hP9.new nU).snoc (g := (ss[r2.toNat], 1 + r4)) upd_same).updL (upd_new nU hF9)
        · rw [List.length_eraseIdx_of_lt hr2]; omega
        · rw [List.map_append]
          exact names_pop hx hnd
        · intro g hg
          rcases List.mem_append.mp hg with h | h
          · exact hnm g h
          · rw [List.mem_singleton.mp h]; exact hss _ (List.mem_of_getElem? hx)
        · intro z hz
          exact hss z (List.mem_of_mem_eraseIdx hz)
        · intro g hg
          rcases List.mem_append.mp hg with h | h
          · exact hpos g h
          · rw [List.mem_singleton.mp h]; show 1 ≤ 1 + r4; omega
        · intro g hg
          rcases List.mem_append.mp hg with h | h
          · exact htop g h
          · rw [List.mem_singleton.mp h]; show 1 + r4 ≤ 50; omega
      · rintro σ H5 ⟨ss, xs, gs, kv, rfl, hN5, hF5, hP5, hl, hsl, hnd, hnm, hss, hpos, htop, pot5, kp5⟩
        walk_at "my_rd"
        refine q_tupL (sqL hF5) fun a na => ?_
        walk_at "my_rd"
        refine k a xs gs _ (Kp.fresh kp5 pot.at.choose_spec na (pot5.nep na)) upd_same (hP5.new na) ⟨?_, by omega, (List.nodup_append.mp hnd).1, hnm, hpos, htop⟩ (by omega) (pot5.new na) (Kp.new kp5 (Kp.fresh kp5 pot.at.choose_spec na (pot5.nep na)))
        rintro rfl
        simp at hl
        omega
end

/-! values as data -/
def intD : PyData → Bool
  | .int _ => true
  | _ => false
def boolD : PyData → Bool
  | .bool _ => true
  | _ => false
def strD : PyData → Bool
  | .str _ => true
  | _ => false
def tupD : PyData → Bool
  | .tuple _ => true
  | _ => false
def leastD (n : Int) : PyData → Bool
  | .int i => decide (n ≤ i)
  | _ => false
def okCode (c : Nat) : Bool := decide (32 ≤ c) && decide (c ≤ 126) && !decide (c = 37)
def textS (s : Str) : Bool := s.cps.toList.all okCode
def textD : PyData → Bool
  | .str s => textS s
  | _ => false
def shortD (m : Int) : PyData → Bool
  | .str s => textS s && (decide (1 ≤ (s.length : Int)) && decide ((s.length : Int) ≤ m))
  | _ => false
def accD : PyData → Bool := shortD 20
/-- the type of a value -/
def tyD : PyData → String
  | .none => "NoneType"
  | .bool _ => "bool"
  | .int _ => "int"
  | .str _ => "str"
  | .list _ => "list"
  | .tuple _ => "tuple"
  | .dict _ => "dict"
theorem dp_ty {K : PySem.W.Frag} {H : Hp} {v : V} {d : PyData} (h : Dp K H v d) : TyX K H v (.type (tyD d)) := by
  cases h with
  | non => exact .base .non
  | bl b => exact .base (.bl b)
  | int i => exact .base (.int i)
  | str x => exact .base (.str x)
  | lst h1 h2 =>
    rcases h1 with (h | ⟨o, h⟩) | ⟨o, its, n, h, h3, _⟩
    · exact .base (.lst h)
    · exact .base (.frz h)
    · exact .kList h h3
  | tup h1 h2 =>
    rcases h1 with (h | ⟨o, h⟩) | ⟨o, its, n, h, h3, _⟩
    · exact .base (.tup h)
    · exact .fTuple h
    · exact .kTuple h h3
def tyB (n : String) (d : PyData) : Bool := decide (tyD d = n) || (decide (n = "int") && decide (tyD d = "bool"))
theorem q_isiD {K : PySem.W.Frag} {H : Hp} {Q : VK} {v : V} {d : PyData} {n : String} {b : Bool} (h : Dp K H v d) (hk : kitB (tyD d) n = some b) (k : Q (.bl b) H) : rIsi K [v, .ty n] H Q := q_isi (dp_ty h) (kit_ty hk) k
theorem kit_int (d : PyData) : kitB (tyD d) "int" = some (intD d || boolD d) := by
  cases d <;> first | exact (by decide +kernel : kitB "NoneType" "int" = some false) | exact (by decide +kernel : kitB "bool" "int" = some true) | exact (by decide +kernel : kitB "int" "int" = some true) | exact (by decide +kernel : kitB "str" "int" = some false) | exact (by decide +kernel : kitB "list" "int" = some false) | exact (by decide +kernel : kitB "tuple" "int" = some false) | exact (by decide +kernel : kitB "dict" "int" = some false)
theorem kit_bool (d : PyData) : kitB (tyD d) "bool" = some (boolD d) := by
  cases d <;> first | exact (by decide +kernel : kitB "NoneType" "bool" = some false) | exact (by decide +kernel : kitB "bool" "bool" = some true) | exact (by decide +kernel : kitB "int" "bool" = some false) | exact (by decide +kernel : kitB "str" "bool" = some false) | exact (by decide +kernel : kitB "list" "bool" = some false) | exact (by decide +kernel : kitB "tuple" "bool" = some false) | exact (by decide +kernel : kitB "dict" "bool" = some false)
theorem kit_str (d : PyData) : kitB (tyD d) "str" = some (strD d) := by
  cases d <;> first | exact (by decide +kernel : kitB "NoneType" "str" = some false) | exact (by decide +kernel : kitB "bool" "str" = some false) | exact (by decide +kernel : kitB "int" "str" = some false) | exact (by decide +kernel : kitB "str" "str" = some true) | exact (by decide +kernel : kitB "list" "str" = some false) | exact (by decide +kernel : kitB "tuple" "str" = some false) | exact (by decide +kernel : kitB "dict" "str" = some false)
theorem kit_tuple (d : PyData) : kitB (tyD d) "tuple" = some (tupD d) := by
  cases d <;> first | exact (by decide +kernel : kitB "NoneType" "tuple" = some false) | exact (by decide +kernel : kitB "bool" "tuple" = some false) | exact (by decide +kernel : kitB "int" "tuple" = some false) | exact (by decide +kernel : kitB "str" "tuple" = some false) | exact (by decide +kernel : kitB "list" "tuple" = some false) | exact (by decide +kernel : kitB "tuple" "tuple" = some true) | exact (by decide +kernel : kitB "dict" "tuple" = some false)
mutual
theorem dp_mono {K : PySem.W.Frag} {H H' : Hp} (sm : Same H H') : ∀ {v : V} {d : PyData}, Dp K H v d → Dp K H' v d
  | _, _, .non => .non
  | _, _, .bl b => .bl b
  | _, _, .int i => .int i
  | _, _, .str x => .str x
  | _, _, .lst h1 h2 => .lst (Same.seq sm h1) (dpall_mono sm h2)
  | _, _, .tup h1 h2 => .tup (Same.sqT sm h1) (dpall_mono sm h2)
theorem dpall_mono {K : PySem.W.Frag} {H H' : Hp} (sm : Same H H') : ∀ {vs : List V} {ds : List PyData}, DpAll K H vs ds → DpAll K H' vs ds
  | _, _, .nil => .nil
  | _, _, .cons h1 h2 => .cons (dp_mono sm h1) (dpall_mono sm h2)
end
theorem dpall_len {K : PySem.W.Frag} {H : Hp} : ∀ {vs : List V} {ds : List PyData}, DpAll K H vs ds → vs.length = ds.length
  | _, _, .nil => rfl
  | _, _, .cons _ h => by rw [List.length_cons, List.length_cons, dpall_len h]
theorem dpall_get {K : PySem.W.Frag} {H : Hp} : ∀ {vs : List V} {ds : List PyData} {i : Nat} {v : V}, DpAll K H vs ds → vs[i]? = some v → ∃ d, ds[i]? = some d ∧ Dp K H v d
  | _, _, _, _, .nil, e => by simp at e
  | _, _, 0, _, .cons h _, e => by
    simp at e
    subst e
    exact ⟨_, rfl, h⟩
  | _, _, i + 1, v, .cons _ h, e => by
    obtain ⟨d, h1, h2⟩ := dpall_get h (i := i) (v := v) (by simpa using e)
    exact ⟨d, by simpa using h1, h2⟩
def Fine : PyData → Prop
  | .str s => s.length ≤ 100000
  | _ => True
/-- a def that tells something of one value -/
def sp_tell (K : PySem.W.Frag) (f : PyData → Bool) : Sp := fun vs H Q _ => ∃ (v : V) (d : PyData), vs = [v] ∧ Dp K H v d ∧ Fine d ∧ ∀ H', Same H H' → Q (.bl (f d)) H'
def sp_tell2 (K : PySem.W.Frag) (f : Int → PyData → Bool) : Sp := fun vs H Q _ => ∃ (v : V) (d : PyData) (n : Int), vs = [v, .int n] ∧ Dp K H v d ∧ Fine d ∧ ∀ H', Same H H' → Q (.bl (f n d)) H'
section
variable {P : Program} {w : World} {K : PySem.W.Frag} {mg : Str → Option Value} {base : Heap}
theorem ok_is_integer (T : Txt K mg) : FnOk P w K mg base CX0 1 T.f_is_integer T.d_is_integer ["value"] (sp_tell K intD) := by
  refine T.F_is_integer.ok sc_is_integer (fun vs H Q E h => ?_) (fun cdv A outer s H vs Q E hr h => ?_)
  · obtain ⟨v, d, rfl, _⟩ := h; rfl
  · obtain ⟨v, d, rfl, hd, _, k⟩ := h
    refine ⟨_, (pss_one (ps_ret (pe_and (pe_callB call_isi (by rfl) T.z_isinstance boot_isinstance (pa_cons (pv 0) (pa_cons (pe_bltn (v := .ty "int") (by rfl) T.z_int boot_int rfl) pa_nil))) (pe_one (pe_not (pe_callB call_isi (by rfl) T.z_isinstance boot_isinstance (pa_cons (pv 0) (pa_cons (pe_bltn (v := .ty "bool") (by rfl) T.z_bool boot_bool rfl) pa_nil)))))))), ?_⟩
    (dsimp only [cxOf, Cx.nox, Cx.wish, L2.start, List.map, List.length, List.replicate, List.cons_append, List.nil_append, List.append_eq, Nat.reduceSub, Nat.reduceAdd])
    walk_at "my_rd"
    refine q_isiD hd (kit_int d) ?_
    refine q_andV2 (fun h => ?_) (fun h => ?_)
    · walk_at "my_rd"
      refine q_isiD hd (kit_bool d) ?_
      walk_at "my_rd"
      have e : (!boolD d) = intD d := by cases d <;> first | rfl | cases h
      rw [e]
      exact k H (Same.refl _)
    · have e : false = intD d := by cases d <;> first | rfl | cases h
      rw [e]
      exact k H (Same.refl _)
theorem ok_is_at_least (T : Txt K mg) : FnOk P w K mg base CX0 2 T.f_is_at_least T.d_is_at_least ["value", "least"] (sp_tell2 K leastD) := by
  refine T.F_is_at_least.ok sc_is_at_least (fun vs H Q E h => ?_) (fun cdv A outer s H vs Q E hr h => ?_)
  · obtain ⟨v, d, n, rfl, _⟩ := h; rfl
  · obtain ⟨v, d, n, rfl, hd, hf, k⟩ := h
    refine ⟨_, (pss_one (ps_ret (pe_and (pe_call (ok_is_integer T) (hr.mono (by decide)) (by rfl) T.g_is_integer T.F_is_integer.kp T.b_is_integer .nil pass0 (pa_cons (pv 0) pa_nil)) (pe_one (pe_cmpR op_ge (pv 0) (pv 1) (nomark _)))))), ?_⟩
    (dsimp only [cxOf, Cx.nox, Cx.wish, L2.start, List.map, List.length, List.replicate, List.cons_append, List.nil_append, List.append_eq, Nat.reduceSub, Nat.reduceAdd])
    walk_at "my_rd"
    refine ⟨v, d, rfl, hd, hf, fun H1 sm => ?_⟩
    refine q_andV2 (fun h => ?_) (fun h => ?_)
    · cases hd with
      | int i =>
        walk_at "my_rd"
        exact k H1 sm
      | _ => cases h
    · have e : false = leastD n d := by cases d <;> first | rfl | cases h
      rw [e]
      exact k H1 sm
theorem ok_is_text (T : Txt K mg) : FnOk P w K mg base CX0 1 T.f_is_text T.d_is_text ["value"] (sp_tell K textD) := by
  refine T.F_is_text.ok sc_is_text (fun vs H Q E h => ?_) (fun cdv A outer s H vs Q E hr h => ?_)
  · obtain ⟨v, d, rfl, _⟩ := h; rfl
  · obtain ⟨v, d, rfl, hd, _, k⟩ := h
    refine ⟨_, (pss_cons (ps_if (pt_not (pt_val (pe_callB call_isi (by rfl) T.z_isinstance boot_isinstance (pa_cons (pv 0) (pa_cons (pe_bltn (v := .ty "str") (by rfl) T.z_str boot_str rfl) pa_nil))))) (pss_one (ps_ret pe_bl)) pss_nil)
      (pss_cons (ps_for PassesOwn.never rfl (pi_str (pv 0)) (pg_name (i := 1) sc_is_text.nd rfl (Or.inl rfl))
        (pss_cons (ps_set (i := 2) sc_is_text.nd rfl (Or.inl rfl) (pe_callB cq_ord (by rfl) T.z_ord boot_ord (pa_cons (pv 1) pa_nil)))
      (pss_one (ps_if (PW.pt (pw_or (pt_cmpR op_lt (pv 2) (pe_glob (v := .int 32) (by rfl) T.c_FIRST_CODE ⟨_, rfl⟩) (nomark _)) (pw_or (pt_cmpR op_gt (pv 2) (pe_glob (v := .int 126) (by rfl) T.c_LAST_CODE ⟨_, rfl⟩) (nomark _)) (pw_or1 (pt_cmpR op_eq (pv 2) (pe_glob (v := .int 37) (by rfl) T.c_BARRED_CODE ⟨_, rfl⟩) (nomark _)))))) (pss_one (ps_ret pe_bl)) pss_nil))))
      (pss_one (ps_ret pe_bl)))), ?_⟩
    (dsimp only [cxOf, Cx.nox, Cx.wish, L2.start, List.map, List.length, List.replicate, List.cons_append, List.nil_append, List.append_eq, Nat.reduceSub, Nat.reduceAdd])
    walk_at "my_rd"
    refine q_isiD hd (kit_str d) ?_
    walk_at "my_rd"
    cases hd with
    | str x =>
      show ifK _ _ _ _ false H
      walk_at "my_rd"
      refine q_forS (fun i σ H2 => ∃ c1 c2, σ = [some (.str x), c1, c2] ∧ H2 = H ∧ (x.cps.toList.take i).all okCode = true) ⟨_, _, rfl, rfl, rfl⟩ ?_ ?_
      · rintro i c σ H2 hc ⟨c1, c2, rfl, rfl, hall⟩
        have hc' : x.cps.toList[i]? = some c := by rw [Array.getElem?_toList]; exact hc
        have bad : okCode c = false → textD (.str x) = false := fun h => by
          show x.cps.toList.all okCode = false
          rw [List.all_eq_false]
          exact ⟨c, List.mem_of_getElem? hc', by rw [h]; exact Bool.false_ne_true⟩
        walk_at "my_rd"
        refine q_or2 (fun h => ?_) (fun h1 => ?_)
        · walk_at "my_rd"
          have h := dec_t h
          rw [← bad (by unfold okCode; rw [decide_eq_false (show ¬ 32 ≤ c by omega)]; rfl)]
          exact k _ (Same.refl _)
        · walk_at "my_rd"
          refine q_or2 (fun h => ?_) (fun h2 => ?_)
          · walk_at "my_rd"
            have h := dec_t h
            rw [← bad (by unfold okCode; rw [decide_eq_false (show ¬ c ≤ 126 by omega), Bool.and_false]; rfl)]
            exact k _ (Same.refl _)
          · walk_at "my_rd"
            refine q_if2 (fun h => ?_) (fun h3 => ?_)
            · walk_at "my_rd"
              have h := dec_t h
              rw [← bad (by unfold okCode; rw [decide_eq_true (show c = 37 by omega), Bool.and_comm]; rfl)]
              exact k _ (Same.refl _)
            · walk_at "my_rd"
              have h1 := dec_f h1
              have h2 := dec_f h2
              have h3 := dec_f h3
              refine ⟨_, _, rfl, rfl, ?_⟩
              rw [take_snoc hc', List.all_append, hall, Bool.true_and, List.all_cons, List.all_nil, Bool.and_true]
              unfold okCode
              rw [decide_eq_true (show 32 ≤ c by omega), decide_eq_true (show c ≤ 126 by omega), decide_eq_false (show ¬ c = 37 by omega)]
              rfl
      · rintro σ H2 ⟨c1, c2, rfl, rfl, hall⟩
        walk_at "my_rd"
        have e : textD (.str x) = true := by
          have e2 : x.cps.toList.take x.cps.size = x.cps.toList := List.take_of_length_le (by simp)
          rw [e2] at hall
          exact hall
        rw [← e]
        exact k _ (Same.refl _)
    | _ =>
      show ifK _ _ _ _ true H
      walk_at "my_rd"
      exact k H (Same.refl _)
theorem ok_is_short_text (T : Txt K mg) : FnOk P w K mg base CX0 2 T.f_is_short_text T.d_is_short_text ["value", "most"] (sp_tell2 K shortD) := by
  refine T.F_is_short_text.ok sc_is_short_text (fun vs H Q E h => ?_) (fun cdv A outer s H vs Q E hr h => ?_)
  · obtain ⟨v, d, n, rfl, _⟩ := h; rfl
  · obtain ⟨v, d, n, rfl, hd, hf, k⟩ := h
    refine ⟨_, (pss_one (ps_ret (pe_and (pe_call (ok_is_text T) (hr.mono (by decide)) (by rfl) T.g_is_text T.F_is_text.kp T.b_is_text .nil pass0 (pa_cons (pv 0) pa_nil)) (pe_one (pe_chain op_le op_le pe_int (pe_callB cq_lenS (by rfl) T.z_len boot_len (pa_cons (pv 0) pa_nil)) (pv 1)))))), ?_⟩
    (dsimp only [cxOf, Cx.nox, Cx.wish, L2.start, List.map, List.length, List.replicate, List.cons_append, List.nil_append, List.append_eq, Nat.reduceSub, Nat.reduceAdd])
    walk_at "my_rd"
    refine ⟨v, d, rfl, hd, hf, fun H1 sm => ?_⟩
    refine q_andV2 (fun h => ?_) (fun h => ?_)
    · cases hd with
      | str x =>
        have hx : x.length ≤ 100000 := hf
        walk_at "my_rd"
        refine q_lenS (Nat.le_trans hx (by decide)) ?_
        walk_at "my_rd"
        have e : shortD n (.str x) = (decide (1 ≤ (x.length : Int)) && decide ((x.length : Int) ≤ n)) := by
          show (textS x && _) = _
          rw [show textS x = true from h, Bool.true_and]
        refine q_ch2 (fun h1 => ?_) (fun h1 => ?_)
        · walk_at "my_rd"
          rw [h1, Bool.true_and] at e
          rw [← e]
          exact k H1 sm
        · rw [h1, Bool.false_and] at e
          rw [← e]
          exact k H1 sm
      | _ => cases h
    · have e : false = shortD n d := by
        cases d <;> first | rfl | (show false = (_ && _); rw [show textS _ = false from h]; rfl)
      rw [e]
      exact k H1 sm
theorem ok_is_account (T : Txt K mg) : FnOk P w K mg base CX0 3 T.f_is_account T.d_is_account ["value"] (sp_tell K accD) := by
  refine T.F_is_account.ok sc_is_account (fun vs H Q E h => ?_) (fun cdv A outer s H vs Q E hr h => ?_)
  · obtain ⟨v, d, rfl, _⟩ := h; rfl
  · obtain ⟨v, d, rfl, hd, hf, k⟩ := h
    refine ⟨_, (pss_one (ps_ret (pe_call (ok_is_short_text T) (hr.mono (by decide)) (by rfl) T.g_is_short_text T.F_is_short_text.kp T.b_is_short_text .nil pass0 (pa_cons (pv 0) (pa_cons (pe_glob (v := .int 20) (by rfl) T.c_ACCOUNT_LENGTH ⟨_, rfl⟩) pa_nil))))), ?_⟩
    (dsimp only [cxOf, Cx.nox, Cx.wish, L2.start, List.map, List.length, List.replicate, List.cons_append, List.nil_append, List.append_eq, Nat.reduceSub, Nat.reduceAdd])
    walk_at "my_rd"
    exact ⟨v, d, 20, rfl, hd, hf, fun H1 sm => k H1 sm⟩
end

/-! pairs and sets, told of any value -/
def pairD : PyData → Bool
  | .tuple [a, b] => accD a && leastD 1 b
  | _ => false
def nameS : PyData → Str
  | .tuple (.str s :: _) => s
  | _ => ""
def setD : PyData → Bool
  | .tuple ds => !ds.isEmpty && (ds.all pairD && decide ((ds.map nameS).Nodup))
  | _ => false
def FineP (d : PyData) : Prop := ∀ a b, d = .tuple [a, b] → Fine a ∧ Fine b
def FineS (d : PyData) : Prop := ∀ ds, d = .tuple ds → ds.length ≤ 1000 ∧ ∀ x ∈ ds, FineP x
theorem pairD_shape {d : PyData} (h : pairD d = true) : ∃ s n, d = .tuple [.str s, .int n] ∧ accD (.str s) = true ∧ 1 ≤ n := by
  unfold pairD at h
  split at h
  · rename_i a b
    rw [Bool.and_eq_true] at h
    obtain ⟨h1, h2⟩ := h
    cases a <;> try cases h1
    cases b <;> try cases h2
    exact ⟨_, _, rfl, h1, of_decide_eq_true h2⟩
  · cases h
def sp_pair (K : PySem.W.Frag) : Sp := fun vs H Q _ => ∃ (v : V) (d : PyData), vs = [v] ∧ Dp K H v d ∧ FineP d ∧ ∀ H', Same H H' → Q (.bl (pairD d)) H'
def sp_set (K : PySem.W.Frag) : Sp := fun vs H Q _ => ∃ (v : V) (d : PyData), vs = [v] ∧ Dp K H v d ∧ FineS d ∧ ∀ H', Same H H' → Q (.bl (setD d)) H'
theorem mem_names {l : List Key} {s : Str} (ks : List Str) (h : l = ks.map Sum.inr) : (Sum.inr s : Key) ∈ l ↔ s ∈ ks := by
  subst h
  constructor
  · intro m
    obtain ⟨z, hz, e⟩ := List.mem_map.mp m
    cases e
    exact hz
  · exact fun m => List.mem_map.mpr ⟨s, m, rfl⟩
section
variable {P : Program} {w : World} {K : PySem.W.Frag} {mg : Str → Option Value} {base : Heap}
theorem ok_is_pair (T : Txt K mg) : FnOk P w K mg base CX0 4 T.f_is_pair T.d_is_pair ["part"] (sp_pair K) := by
  refine T.F_is_pair.ok sc_is_pair (fun vs H Q E h => ?_) (fun cdv A outer s H vs Q E hr h => ?_)
  · obtain ⟨v, d, rfl, _⟩ := h; rfl
  · obtain ⟨v, d, rfl, hd, hf, k⟩ := h
    refine ⟨_, (pss_one (ps_ret (pe_and (pe_callB call_isi (by rfl) T.z_isinstance boot_isinstance (pa_cons (pv 0) (pa_cons (pe_bltn (v := .ty "tuple") (by rfl) T.z_tuple boot_tuple rfl) pa_nil))) (pe_and (pe_cmpR op_eq (pe_callB cq_len (by rfl) T.z_len boot_len (pa_cons (pv 0) pa_nil)) pe_int (nomark _)) (pe_and (pe_call (ok_is_account T) (hr.mono (by decide)) (by rfl) T.g_is_account T.F_is_account.kp T.b_is_account .nil pass0 (pa_cons (pe_ix ix_tup (pv 0) pe_int (fun _ _ => rfl)) pa_nil)) (pe_one (pe_call (ok_is_at_least T) (hr.mono (by decide)) (by rfl) T.g_is_at_least T.F_is_at_least.kp T.b_is_at_least .nil pass0 (pa_cons (pe_ix ix_tup (pv 0) pe_int (fun _ _ => rfl)) (pa_cons pe_int pa_nil))))))))), ?_⟩
    (dsimp only [cxOf, Cx.nox, Cx.wish, L2.start, List.map, List.length, List.replicate, List.cons_append, List.nil_append, List.append_eq, Nat.reduceSub, Nat.reduceAdd])
    walk_at "my_rd"
    refine q_isiD hd (kit_tuple d) ?_
    cases hd with
    | @tup a xs ds h1 h2 =>
      show andVK _ _ _ (.bl true) H
      walk_at "my_rd"
      refine q_lenT h1 ?_
      walk_at "my_rd"
      have hl := dpall_len h2
      by_cases h : xs.length = 2
      · rw [decide_eq_true (show (xs.length : Int) = 2 by omega)]
        obtain ⟨v0, v1, rfl⟩ : ∃ v0 v1, xs = [v0, v1] := by
          match xs, h with
          | [v0, v1], _ => exact ⟨v0, v1, rfl⟩
        cases h2 with
        | cons d0 h2 =>
          cases h2 with
          | cons d1 h2 =>
            cases h2
            obtain ⟨f0, f1⟩ := hf _ _ rfl
            walk_at "my_rd"
            refine q_ixT h1 rfl ?_
            walk_at "my_rd"
            refine ⟨_, _, rfl, d0, f0, fun H1 sm => ?_⟩
            refine q_andV2 (fun h => ?_) (fun h => ?_)
            · walk_at "my_rd"
              refine q_ixT (Same.sqT sm h1) rfl ?_
              walk_at "my_rd"
              refine ⟨_, _, _, rfl, dp_mono sm d1, f1, fun H2 sm2 => ?_⟩
              rename_i y0 y1
              have e : pairD (.tuple [y0, y1]) = leastD 1 y1 := by
                show (accD y0 && leastD 1 y1) = _
                rw [h, Bool.true_and]
              rw [← e]
              exact k H2 (Same.trans sm sm2)
            · rename_i y0 y1
              have e : false = pairD (.tuple [y0, y1]) := by
                show false = (accD y0 && leastD 1 y1)
                rw [h, Bool.false_and]
              rw [e]
              exact k H1 sm
      · rw [decide_eq_false (show ¬ (xs.length : Int) = 2 by omega)]
        have e : false = pairD (.tuple ds) := by
          unfold pairD
          split
          · rename_i heq
            injection heq with heq
            subst heq
            exact absurd hl h
          · rfl
        walk_at "my_rd"
        rw [e]
        exact k H (Same.refl _)
    | _ =>
      show andVK _ _ _ (.bl false) H
      walk_at "my_rd"
      exact k H (Same.refl _)
theorem ok_is_set (T : Txt K mg) : FnOk P w K mg base CX0 5 T.f_is_set T.d_is_set ["value"] (sp_set K) := by
  refine T.F_is_set.ok sc_is_set (fun vs H Q E h => ?_) (fun cdv A outer s H vs Q E hr h => ?_)
  · obtain ⟨v, d, rfl, _⟩ := h; rfl
  · obtain ⟨v, d, rfl, hd, hf, k⟩ := h
    have hu := hu_of hr
    refine ⟨_, (pss_cons (ps_if (PW.pt (pw_or (pt_not (pt_val (pe_callB call_isi (by rfl) T.z_isinstance boot_isinstance (pa_cons (pv 0) (pa_cons (pe_bltn (v := .ty "tuple") (by rfl) T.z_tuple boot_tuple rfl) pa_nil))))) (pw_or1 (pt_not (pt_truth (pv 0) (by intro _; rfl)))))) (pss_one (ps_ret pe_bl)) pss_nil)
      (pss_cons (ps_set (i := 1) sc_is_set.nd rfl (Or.inl rfl) pe_dnewK)
      (pss_cons (ps_for PassesOwn.never rfl (pi_tup (pv 0)) (pg_name (i := 2) sc_is_set.nd rfl (Or.inl rfl))
        (pss_cons (ps_if (PW.pt (pw_or (pt_not (pt_val (pe_call (ok_is_pair T) (hr.mono (by decide)) (by rfl) T.g_is_pair T.F_is_pair.kp T.b_is_pair .nil pass0 (pa_cons (pv 2) pa_nil)))) (pw_or1 (pt_cmp (pc_din hu (pe_ix ix_tup (pv 2) pe_int (fun _ _ => rfl)) (pv 1)))))) (pss_one (ps_ret pe_bl)) pss_nil)
      (pss_one (ps_dput hu (pv 1) (pe_ix ix_tup (pv 2) pe_int (fun _ _ => rfl)) pe_bl rfl))))
      (pss_one (ps_ret pe_bl))))), ?_⟩
    (dsimp only [cxOf, Cx.nox, Cx.wish, L2.start, List.map, List.length, List.replicate, List.cons_append, List.nil_append, List.append_eq, Nat.reduceSub, Nat.reduceAdd])
    walk_at "my_rd"
    refine q_isiD hd (kit_tuple d) ?_
    cases hd with
    | @tup a xs ds h1 h2 =>
      show bK _ (.bl true) H
      walk_at "my_rd"
      have hl := dpall_len h2
      obtain ⟨hfl, hfp⟩ := hf ds rfl

      refine ⟨!xs.isEmpty, .inr (.inl ⟨xs, h1, rfl⟩), ?_⟩
      cases hx : xs.isEmpty with
      | true =>
        show ifK _ _ _ _ true H
        walk_at "my_rd"
        have e : xs = [] := List.isEmpty_iff.mp hx
        subst e
        have e2 : ds = [] := List.length_eq_zero_iff.mp hl.symm
        subst e2
        exact k H (Same.refl _)
      | false =>
        show ifK _ _ _ _ false H
        walk_at "my_rd"
        refine q_dNew fun F nF => ?_
        walk_at "my_rd"
        have e0 : ds.isEmpty = false := by
          cases ds with
          | nil => rw [List.length_eq_zero_iff.mp hl] at hx; cases hx
          | cons _ _ => rfl
        refine q_forT (Same.sqT (Same.new (Same.refl _) nF) h1) (fun i σ H2 => ∃ (kvs : List (Key × V)) (pv : Option V), σ = [some (.ref a), some (.ref F), pv] ∧ Same H H2 ∧ H2 F = some (.dK kvs) ∧ kvs.map (·.1) = ((ds.take i).map nameS).map Sum.inr ∧ (ds.take i).all pairD = true ∧ ((ds.take i).map nameS).Nodup)
          ⟨[], _, rfl, Same.new (Same.refl _) nF, upd_same, rfl, rfl, List.nodup_nil⟩ (fun i σ H2 _ ⟨_, _, _, sm, _⟩ => Same.sqT sm h1) ?_ ?_
        · rintro i x σ H2 hx ⟨kvs, pv, rfl, sm, hF, hk, hall, hnd⟩
          obtain ⟨dx, hdx, hdp⟩ := dpall_get h2 hx
          have hnf : ∀ b, (ds.take (i + 1)).all pairD = b → (b = false → ds.all pairD = false) := fun b hb hb2 => by
            rw [hb2] at hb
            rw [List.all_eq_false] at hb ⊢
            obtain ⟨z, hz, hp⟩ := hb
            exact ⟨z, List.mem_of_mem_take hz, hp⟩
          walk_at "my_rd"
          refine ⟨x, dx, rfl, dp_mono sm hdp, hfp dx (List.mem_of_getElem? hdx), fun H3 sm3 => ?_⟩
          cases hpd : pairD dx with
          | false =>
            walk_at "my_rd"

            walk_at "my_rd"
            have e : false = setD (.tuple ds) := by
              show false = (!ds.isEmpty && (ds.all pairD && _))
              rw [hnf false (by rw [take_snoc hdx, List.all_append, List.all_cons, hpd]; simp) rfl]
              simp
            rw [e]
            exact k H3 (Same.trans sm sm3)
          | true =>
            walk_at "my_rd"
            obtain ⟨nme, wt, rfl, _, _⟩ := pairD_shape hpd
            have hdp3 := dp_mono (Same.trans sm sm3) hdp
            have hF3 := sm3 _ _ hF
            cases hdp3 with
            | @tup b ys es t1 t2 =>
              cases t2 with
              | @cons v0 _ _ _ u0 t2 =>
                cases t2 with
                | cons u1 t3 =>
                cases t3
                cases u0 with
                | str _ =>
                  refine q_ixT t1 rfl ?_
                  walk_at "my_rd"
                  have key : (valV kvs (Sum.inr nme)).isSome = decide (nme ∈ (ds.take i).map nameS) := by
                    cases hv : valV kvs (Sum.inr nme) with
                    | none =>
                      have q := valV_not hv
                      rw [mem_names _ hk] at q
                      exact (decide_eq_false q).symm
                    | some _ =>
                      have q := valV_in hv
                      rw [mem_names _ hk] at q
                      exact (decide_eq_true q).symm
                  rw [key]
                  refine q_if2 (fun h => ?_) (fun h => ?_)
                  · have h := dec_t h
                    walk_at "my_rd"
                    have e : false = setD (.tuple ds) := by
                      show false = (!ds.isEmpty && (ds.all pairD && decide ((ds.map nameS).Nodup)))
                      rw [decide_eq_false, Bool.and_false, Bool.and_false]
                      intro hn
                      have h3 : ((ds.take (i + 1)).map nameS).Nodup := (List.Sublist.map _ (List.take_sublist _ _)).nodup hn
                      rw [take_snoc hdx, List.map_append] at h3
                      exact (List.nodup_append.mp h3).2.2 nme h nme (by simp [nameS]) rfl
                    rw [e]
                    exact k H3 (Same.trans sm sm3)
                  · have h := dec_f h
                    walk_at "my_rd"
                    refine q_ixT t1 rfl ?_
                    have hv : valV kvs (Sum.inr nme) = none := by
                      cases hv : valV kvs (Sum.inr nme) with
                      | none => rfl
                      | some _ =>
                        rw [hv] at key
                        exact absurd (dec_t key.symm) h
                    refine q_dPutS hF3 ?_ ?_
                    · have : kvs.length = (ds.take i).length := by
                        have := congrArg List.length hk
                        simpa using this
                      rw [List.length_take] at this
                      exact small1000 (by omega)
                    · walk_at "my_rd"
                      have e2 : ds.take (i + 1) = ds.take i ++ [PyData.tuple [.str nme, .int wt]] := take_snoc hdx
                      refine ⟨_, _, rfl, Same.new (Same.trans sm sm3) nF, upd_same, ?_, ?_, ?_⟩
                      · rw [putK_new _ hv, List.map_append, hk, e2, List.map_append, List.map_append]
                        rfl
                      · rw [e2, List.all_append, hall, List.all_cons, hpd]
                        rfl
                      · rw [e2, List.map_append]
                        exact nd_snoc hnd h
        · rintro σ H2 ⟨kvs, pv, rfl, sm, hF, hk, hall, hnd⟩
          walk_at "my_rd"
          have et : ds.take xs.length = ds := List.take_of_length_le (by rw [hl]; exact Nat.le_refl _)
          rw [et] at hall hnd
          have e : true = setD (.tuple ds) := by
            show true = (!ds.isEmpty && (ds.all pairD && decide ((ds.map nameS).Nodup)))
            rw [e0, hall, decide_eq_true hnd]
            rfl
          rw [e]
          exact k H2 sm
    | _ =>
      show bK _ (.bl false) H
      walk_at "my_rd"
      exact k H (Same.refl _)
end

/-! sides -/
def flatD : PyData → Bool
  | .none => true
  | .bool _ => true
  | .int _ => true
  | .str _ => true
  | _ => false
def isS (s : Str) : PyData → Bool
  | .str z => decide (z = s)
  | _ => false
def sideD (d : PyData) : Bool := isS "west" d || isS "east" d
def sp_side (K : PySem.W.Frag) : Sp := fun vs H Q _ => ∃ (v : V) (d : PyData), vs = [v] ∧ Dp K H v d ∧ flatD d = true ∧ ∀ H', Same H H' → Q (.bl (sideD d)) H'
theorem flat_v {K : PySem.W.Frag} {H : Hp} {v : V} {d : PyData} (h : Dp K H v d) (f : flatD d = true) : flatV v = true := by
  cases h <;> first | rfl | cases f
theorem isS_v {K : PySem.W.Frag} {H : Hp} {v : V} {d : PyData} {s : Str} (h : Dp K H v d) (f : flatD d = true) : eqV (.str s) v = isS s d := by
  cases h with
  | str x =>
    show (s == x) = decide (x = s)
    by_cases e : x = s
    · subst e; simp
    · rw [decide_eq_false e]; exact beq_eq_false_iff_ne.mpr (fun q => e q.symm)
  | _ => first | rfl | cases f
section
variable {P : Program} {w : World} {K : PySem.W.Frag} {mg : Str → Option Value} {base : Heap}
theorem ok_is_side (T : Txt K mg) : FnOk P w K mg base CX0 1 T.f_is_side T.d_is_side ["value"] (sp_side K) := by
  refine T.F_is_side.ok sc_is_side (fun vs H Q E h => ?_) (fun cdv A outer s H vs Q E hr h => ?_)
  · obtain ⟨v, d, rfl, _⟩ := h; rfl
  · obtain ⟨v, d, rfl, hd, hf, k⟩ := h
    refine ⟨_, (pss_one (ps_ret (pe_cmpR op_in_seq (pv 0) (pe_glob (v := .ref T.a_SIDES) (by rfl) T.c_SIDES rfl) (by rfl)))), ?_⟩
    (dsimp only [cxOf, Cx.nox, Cx.wish, L2.start, List.map, List.length, List.replicate, List.cons_append, List.nil_append, List.append_eq, Nat.reduceSub, Nat.reduceAdd])
    walk_at "my_rd"
    refine q_inT T.k_SIDES.sq (flat_v hd hf) rfl ?_
    walk_at "my_rd"
    have e : inV v [.str "west", .str "east"] = sideD d := by
      show (eqV (.str "west") v || (eqV (.str "east") v || false)) = _
      rw [isS_v hd hf, isS_v hd hf, Bool.or_false]
      rfl
    rw [e]
    exact k H (Same.refl _)
end

/-! data made of tuples alone -/
mutual
inductive TupDp (K : PySem.W.Frag) (H : Hp) : V → PyData → Prop
  | non : TupDp K H .non .none
  | bl (b : Bool) : TupDp K H (.bl b) (.bool b)
  | int (i : Int) : TupDp K H (.int i) (.int i)
  | str (x : Str) : TupDp K H (.str x) (.str x)
  | tup {a : Addr} {xs : List V} {ds : List PyData} : H a = some (.tup xs) → TupAll K H xs ds → TupDp K H (.ref a) (.tuple ds)
inductive TupAll (K : PySem.W.Frag) (H : Hp) : List V → List PyData → Prop
  | nil : TupAll K H [] []
  | cons {v : V} {vs : List V} {d : PyData} {ds : List PyData} : TupDp K H v d → TupAll K H vs ds → TupAll K H (v :: vs) (d :: ds)
end
mutual
theorem TupDp.dp {K : PySem.W.Frag} {H : Hp} : ∀ {v : V} {d : PyData}, TupDp K H v d → Dp K H v d
  | _, _, .non => .non
  | _, _, .bl b => .bl b
  | _, _, .int i => .int i
  | _, _, .str x => .str x
  | _, _, .tup h1 h2 => .tup (sqT h1) (TupAll.dp h2)
theorem TupAll.dp {K : PySem.W.Frag} {H : Hp} : ∀ {vs : List V} {ds : List PyData}, TupAll K H vs ds → DpAll K H vs ds
  | _, _, .nil => .nil
  | _, _, .cons h1 h2 => .cons (TupDp.dp h1) (TupAll.dp h2)
end
mutual
theorem TupDp.mono {K : PySem.W.Frag} {H H' : Hp} (e : ∀ b ys, H b = some (.tup ys) → H' b = some (.tup ys)) : ∀ {v : V} {d : PyData}, TupDp K H v d → TupDp K H' v d
  | _, _, .non => .non
  | _, _, .bl b => .bl b
  | _, _, .int i => .int i
  | _, _, .str x => .str x
  | _, _, .tup h1 h2 => .tup (e _ _ h1) (TupAll.mono e h2)
theorem TupAll.mono {K : PySem.W.Frag} {H H' : Hp} (e : ∀ b ys, H b = some (.tup ys) → H' b = some (.tup ys)) : ∀ {vs : List V} {ds : List PyData}, TupAll K H vs ds → TupAll K H' vs ds
  | _, _, .nil => .nil
  | _, _, .cons h1 h2 => .cons (TupDp.mono e h1) (TupAll.mono e h2)
end
theorem Kp.tup {p l b : Addr} {ys : List V} {H H' : Hp} (k : Kp p H H') (pot : PotAt H p l) (h : H b = some (.tup ys)) : H' b = some (.tup ys) := by
  obtain ⟨ns, i, c, s, h1, _⟩ := pot
  exact k _ _ h (ne_of h h1 (by intro z; cases z))
theorem TupDp.kp {K : PySem.W.Frag} {H H' : Hp} {p l : Addr} {v : V} {d : PyData} (h : TupDp K H v d) (k : Kp p H H') (pot : PotAt H p l) : TupDp K H' v d := h.mono fun b ys q => k.tup pot q
theorem TupDp.same {K : PySem.W.Frag} {H H' : Hp} {v : V} {d : PyData} (h : TupDp K H v d) (k : Same H H') : TupDp K H' v d := h.mono fun b ys q => k _ _ q

local macro_rules | `(tactic| walk_at "my_rd") => `(tactic| (repeat first
  | with_reducible refine q_tCons ?_
  | ((with_reducible apply q_var); (focus (exact rfl)))
  | with_reducible refine q_c ?_
  | with_reducible refine q_nx ?_
  | with_reducible refine q_bK ?_
  | with_reducible refine q_call ?_
  | with_reducible refine q_callK ?_
  | with_reducible refine q_tNil ?_
  | with_reducible refine q_cb ?_
  | with_reducible refine q_seq ?_
  | with_reducible refine q_asg ?_
  | with_reducible refine q_gName ?_
  | with_reducible refine q_op ?_
  | with_reducible refine q_test ?_
  | with_reducible refine q_tB ?_
  | with_reducible refine q_ifS ?_
  | with_reducible refine q_ret ?_
  | with_reducible refine q_rt ?_
  | with_reducible refine q_next ?_
  | with_reducible refine q_ifF ?_
  | with_reducible refine q_ifT ?_
  | with_reducible refine q_drop ?_
  | with_reducible refine q_and ?_
  | with_reducible refine q_or ?_
  | with_reducible refine q_andT ?_
  | with_reducible refine q_andF ?_
  | with_reducible refine q_orF ?_
  | with_reducible refine q_orT ?_
  | with_reducible refine q_andV ?_
  | with_reducible refine q_andVT ?_
  | with_reducible refine q_andVF ?_
  | with_reducible refine q_orV ?_
  | with_reducible refine q_gCons ?_
  | with_reducible refine q_gNil ?_
  | with_reducible refine q_tup ?_
  | with_reducible refine q_lst ?_
  | with_reducible refine q_not ?_
  | with_reducible refine q_notKT ?_
  | with_reducible refine q_notKF ?_
  | with_reducible refine q_I0 ?_
  | with_reducible refine q_eqI ?_
  | with_reducible refine q_neI ?_
  | ((with_reducible refine q_I ?_ ?_); first | decide | omega | exact ⟨by omega, by omega⟩ | exact ⟨by decide, by decide⟩ | exact .inl ⟨by omega, by omega⟩ | exact .inr ⟨by omega, by omega⟩ | exact .inr ⟨by decide, by decide⟩)
  | with_reducible refine q_eqS ?_
  | with_reducible refine q_neS ?_
  | with_reducible refine q_brk ?_
  | with_reducible refine q_ct ?_
  | with_reducible refine q_bk ?_
  | with_reducible refine q_cn ?_
  | with_reducible refine q_retN ?_
  | with_reducible refine q_gSub ?_
  | with_reducible refine q_for ?_
  | with_reducible refine q_iList ?_
  | with_reducible refine q_iTup ?_
  | with_reducible refine q_iRng1 ?_
  | with_reducible refine q_notK ?_
  | with_reducible refine q_orVT ?_
  | with_reducible refine q_orVF ?_
  | with_reducible refine q_notV ?_
  | with_reducible refine q_notVK ?_
  | with_reducible refine q_ifE ?_
  | with_reducible refine q_ifET ?_
  | with_reducible refine q_ifEF ?_
  | with_reducible refine q_yes ?_
  | with_reducible refine q_un ?_
  | with_reducible refine q_rU ?_
  | with_reducible refine q_abs ?_
  | with_reducible refine q_int1 ?_
  | with_reducible refine q_bm ?_
  | with_reducible refine q_bm0 ?_
  | with_reducible refine q_lc ?_
  | with_reducible refine q_keepT ?_
  | with_reducible refine q_keepF ?_
  | ((with_reducible apply q_aug); (focus (exact rfl)))
  | with_reducible refine q_ipI ?_
  | with_reducible refine q_chain ?_
  | with_reducible refine q_pairC ?_
  | with_reducible refine q_pairsK ?_
  | with_reducible refine q_pairN ?_
  | with_reducible refine q_fld ?_
  | with_reducible refine q_sFld ?_
  | with_reducible refine q_meth ?_
  | with_reducible refine q_makeK ?_
  | with_reducible refine q_isBl ?_
  | with_reducible refine q_notBl ?_
  | with_reducible refine q_sl ?_
  | with_reducible refine q_noPart ?_
  | with_reducible refine q_part ?_
  | with_reducible refine q_partK ?_
  | ((with_reducible apply q_mulStr); (focus (decide +kernel)))
  | with_reducible refine q_chT ?_
  | with_reducible refine q_chF ?_
  | with_reducible refine q_ord ?_
  | with_reducible refine q_iStr0 ?_
  | with_reducible refine q_iStr ?_
  | with_reducible refine q_tDIn ?_
  | with_reducible refine q_tDNotIn ?_
  | with_reducible refine q_tDGet ?_
  | with_reducible refine q_tDGet2 ?_
  | with_reducible refine q_tDGet1 ?_
  | with_reducible refine q_tDSetd ?_
  | ((with_reducible apply q_dG2a); (focus ((repeat first | (with_reducible exact upd_same) | (with_reducible assumption) | (with_reducible apply upd_new (by assumption)) | (with_reducible apply upd_other (by first | assumption | exact Ne.symm (by assumption))) | (with_reducible refine' Kp.get (by assumption) ?_ (by first | assumption | exact Ne.symm (by assumption))) | (with_reducible apply Same.get (by assumption))); done)))
  | ((with_reducible apply q_dSda); (focus ((repeat first | (with_reducible exact upd_same) | (with_reducible assumption) | (with_reducible apply upd_new (by assumption)) | (with_reducible apply upd_other (by first | assumption | exact Ne.symm (by assumption))) | (with_reducible refine' Kp.get (by assumption) ?_ (by first | assumption | exact Ne.symm (by assumption))) | (with_reducible apply Same.get (by assumption))); done)))
  | with_reducible refine q_sDPut ?_
  | ((with_reducible apply q_dInS); (focus ((repeat first | (with_reducible exact upd_same) | (with_reducible assumption) | (with_reducible apply upd_new (by assumption)) | (with_reducible apply upd_other (by first | assumption | exact Ne.symm (by assumption))) | (with_reducible refine' Kp.get (by assumption) ?_ (by first | assumption | exact Ne.symm (by assumption))) | (with_reducible apply Same.get (by assumption))); done)))
  | ((with_reducible apply q_dNInS); (focus ((repeat first | (with_reducible exact upd_same) | (with_reducible assumption) | (with_reducible apply upd_new (by assumption)) | (with_reducible apply upd_other (by first | assumption | exact Ne.symm (by assumption))) | (with_reducible refine' Kp.get (by assumption) ?_ (by first | assumption | exact Ne.symm (by assumption))) | (with_reducible apply Same.get (by assumption))); done)))
  | ((with_reducible apply q_dInI); (focus ((repeat first | (with_reducible exact upd_same) | (with_reducible assumption) | (with_reducible apply upd_new (by assumption)) | (with_reducible apply upd_other (by first | assumption | exact Ne.symm (by assumption))) | (with_reducible refine' Kp.get (by assumption) ?_ (by first | assumption | exact Ne.symm (by assumption))) | (with_reducible apply Same.get (by assumption))); done)))
  | ((with_reducible apply q_dNInI); (focus ((repeat first | (with_reducible exact upd_same) | (with_reducible assumption) | (with_reducible apply upd_new (by assumption)) | (with_reducible apply upd_other (by first | assumption | exact Ne.symm (by assumption))) | (with_reducible refine' Kp.get (by assumption) ?_ (by first | assumption | exact Ne.symm (by assumption))) | (with_reducible apply Same.get (by assumption))); done)))
  | ((with_reducible apply q_bmL); (focus ((repeat first | (with_reducible exact upd_same) | (with_reducible assumption) | (with_reducible apply upd_new (by assumption)) | (with_reducible apply upd_other (by first | assumption | exact Ne.symm (by assumption))) | (with_reducible refine' Kp.get (by assumption) ?_ (by first | assumption | exact Ne.symm (by assumption))) | (with_reducible apply Same.get (by assumption))); done)))
  | ((with_reducible apply q_bmL0); (focus ((repeat first | (with_reducible exact upd_same) | (with_reducible assumption) | (with_reducible apply upd_new (by assumption)) | (with_reducible apply upd_other (by first | assumption | exact Ne.symm (by assumption))) | (with_reducible refine' Kp.get (by assumption) ?_ (by first | assumption | exact Ne.symm (by assumption))) | (with_reducible apply Same.get (by assumption))); done)))
  | ((with_reducible apply q_ixLt); (focus ((repeat first | (with_reducible exact upd_same) | (with_reducible assumption) | (with_reducible apply upd_new (by assumption)) | (with_reducible apply upd_other (by first | assumption | exact Ne.symm (by assumption))) | (with_reducible refine' Kp.get (by assumption) ?_ (by first | assumption | exact Ne.symm (by assumption))) | (with_reducible apply Same.get (by assumption))); done)); (focus (exact rfl)))
  | ((with_reducible apply q_ixTt); (focus ((repeat first | (with_reducible exact upd_same) | (with_reducible assumption) | (with_reducible apply upd_new (by assumption)) | (with_reducible apply upd_other (by first | assumption | exact Ne.symm (by assumption))) | (with_reducible refine' Kp.get (by assumption) ?_ (by first | assumption | exact Ne.symm (by assumption))) | (with_reducible apply Same.get (by assumption))); done)); (focus (exact rfl)))
  | ((with_reducible apply q_lenLt); (focus ((repeat first | (with_reducible exact upd_same) | (with_reducible assumption) | (with_reducible apply upd_new (by assumption)) | (with_reducible apply upd_other (by first | assumption | exact Ne.symm (by assumption))) | (with_reducible refine' Kp.get (by assumption) ?_ (by first | assumption | exact Ne.symm (by assumption))) | (with_reducible apply Same.get (by assumption))); done)))
  | ((with_reducible apply q_lenTt); (focus ((repeat first | (with_reducible exact upd_same) | (with_reducible assumption) | (with_reducible apply upd_new (by assumption)) | (with_reducible apply upd_other (by first | assumption | exact Ne.symm (by assumption))) | (with_reducible refine' Kp.get (by assumption) ?_ (by first | assumption | exact Ne.symm (by assumption))) | (with_reducible apply Same.get (by assumption))); done)))
  | ((with_reducible apply q_append); (focus ((repeat first | (with_reducible exact upd_same) | (with_reducible assumption) | (with_reducible apply upd_new (by assumption)) | (with_reducible apply upd_other (by first | assumption | exact Ne.symm (by assumption))) | (with_reducible refine' Kp.get (by assumption) ?_ (by first | assumption | exact Ne.symm (by assumption))) | (with_reducible apply Same.get (by assumption))); done)); (focus ((first | (exact Nat.lt_of_ble_eq_true rfl) | (simp only [List.length_append, List.length_cons, List.length_nil, List.length_map]; exact small1000 (by omega))))))
  | ((with_reducible apply q_setL); (focus ((repeat first | (with_reducible exact upd_same) | (with_reducible assumption) | (with_reducible apply upd_new (by assumption)) | (with_reducible apply upd_other (by first | assumption | exact Ne.symm (by assumption))) | (with_reducible refine' Kp.get (by assumption) ?_ (by first | assumption | exact Ne.symm (by assumption))) | (with_reducible apply Same.get (by assumption))); done)); (focus (exact rfl)))
  | with_reducible refine q_ifNT ?_
  | with_reducible refine q_ifNF ?_
  | with_reducible refine q_andNT ?_
  | with_reducible refine q_andNF ?_
  | with_reducible refine q_orNT ?_
  | with_reducible refine q_orNF ?_
  | with_reducible refine q_bKNT ?_
  | with_reducible refine q_bKNF ?_))
/-! configurations -/
structure TokR where
  name : Str
  home : Str
  scale : Int
  limit : Int
  large : Int
def TokR.v (t : TokR) : List V := [.str t.name, .str t.home, .int t.scale, .int t.limit, .int t.large]
structure TokR.Ok (t : TokR) : Prop where
  n : shortD 12 (.str t.name) = true
  nl : t.name.length ≤ 12
  h : sideD (.str t.home) = true
  sc : 1 ≤ t.scale
  li : 0 ≤ t.limit
  la : 1 ≤ t.large
structure BalR where
  acc : Str
  tok : Str
  amt : Int
def BalR.v (b : BalR) : List V := [.str b.acc, .str b.tok, .int b.amt]
structure BalR.Ok (b : BalR) (ts : List TokR) : Prop where
  a : accD (.str b.acc) = true
  al : b.acc.length ≤ 20
  t : shortD 12 (.str b.tok) = true
  tl : b.tok.length ≤ 12
  tm : b.tok ∈ ts.map TokR.name
  am : 0 ≤ b.amt
/-- rows that stand as tuples -/
structure RowsAt {α : Type} (f : α → List V) (H : Hp) (xs : List V) (rs : List α) : Prop where
  len : xs.length = rs.length
  at_ : ∀ (i : Nat) (r : α), rs[i]? = some r → ∃ a, xs[i]? = some (.ref a) ∧ H a = some (.tup (f r))
theorem RowsAt.mono {α : Type} {f : α → List V} {H H' : Hp} {xs : List V} {rs : List α} (h : RowsAt f H xs rs) (e : ∀ b ys, H b = some (.tup ys) → H' b = some (.tup ys)) : RowsAt f H' xs rs :=
  ⟨h.len, fun i r hr => by obtain ⟨a, h1, h2⟩ := h.at_ i r hr; exact ⟨a, h1, e _ _ h2⟩⟩
theorem RowsAt.same {α : Type} {f : α → List V} {H H' : Hp} {xs : List V} {rs : List α} (h : RowsAt f H xs rs) (e : Same H H') : RowsAt f H' xs rs := h.mono fun b ys q => e b _ q
theorem RowsAt.item {α : Type} {f : α → List V} {H : Hp} {xs : List V} {rs : List α} (h : RowsAt f H xs rs) {i : Nat} {x : V} (hx : xs[i]? = some x) : ∃ r a, rs[i]? = some r ∧ x = .ref a ∧ H a = some (.tup (f r)) := by
  have hi : i < rs.length := by rw [← h.len]; exact (List.getElem?_eq_some_iff.mp hx).1
  obtain ⟨a, h1, h2⟩ := h.at_ i rs[i] (List.getElem?_eq_getElem hi)
  exact ⟨rs[i], a, List.getElem?_eq_getElem hi, Option.some.inj (hx.symm.trans h1), h2⟩
theorem RowsAt.nil {α : Type} {f : α → List V} {H : Hp} : RowsAt f H [] [] := ⟨rfl, fun i r h => by simp at h⟩
theorem RowsAt.snoc {α : Type} {f : α → List V} {H : Hp} {xs : List V} {rs : List α} {a : Addr} {r : α} (h : RowsAt f H xs rs) (ha : H a = some (.tup (f r))) : RowsAt f H (xs ++ [.ref a]) (rs ++ [r]) := by
  refine ⟨by rw [List.length_append, List.length_append, h.len]; rfl, fun i g' hg => ?_⟩
  by_cases hi : i < rs.length
  · rw [List.getElem?_append_left hi] at hg
    rw [List.getElem?_append_left (by rw [h.len]; exact hi)]
    exact h.at_ i g' hg
  · have hi' : i = rs.length := by
      have := (List.getElem?_eq_some_iff.mp hg).1
      rw [List.length_append] at this
      simp at this
      omega
    subst hi'
    rw [List.getElem?_append_right (Nat.le_refl _)] at hg
    simp at hg
    subst hg
    refine ⟨a, ?_, ha⟩
    rw [List.getElem?_append_right (by rw [h.len]; exact Nat.le_refl _), h.len]
    simp
/-- the table of the tokens: name and row -/
structure TabAt (H : Hp) (kvs : List (Key × V)) (ts : List TokR) : Prop where
  keys : kvs.map (·.1) = (ts.map TokR.name).map Sum.inr
  at_ : ∀ t ∈ ts, ∃ r, valV kvs (Sum.inr t.name) = some (.ref r) ∧ H r = some (.tup t.v)
theorem TabAt.mono {H H' : Hp} {kvs : List (Key × V)} {ts : List TokR} (h : TabAt H kvs ts) (e : ∀ b ys, H b = some (.tup ys) → H' b = some (.tup ys)) : TabAt H' kvs ts :=
  ⟨h.keys, fun t ht => by obtain ⟨r, h1, h2⟩ := h.at_ t ht; exact ⟨r, h1, e _ _ h2⟩⟩
theorem TabAt.has {H : Hp} {kvs : List (Key × V)} {ts : List TokR} (h : TabAt H kvs ts) (s : Str) : (valV kvs (Sum.inr s)).isSome = decide (s ∈ ts.map TokR.name) := by
  cases hv : valV kvs (Sum.inr s) with
  | none =>
    have q := valV_not hv
    rw [mem_names _ h.keys] at q
    exact (decide_eq_false q).symm
  | some _ =>
    have q := valV_in hv
    rw [mem_names _ h.keys] at q
    exact (decide_eq_true q).symm
theorem TabAt.len {H : Hp} {kvs : List (Key × V)} {ts : List TokR} (h : TabAt H kvs ts) : kvs.length = ts.length := by
  have := congrArg List.length h.keys
  simpa using this
/-- what a configuration is made of -/
structure Parts where
  toks : List TokR
  bals : List BalR
  depth : Int
  window : Int
  delay : Int
  bundle : Int
structure Parts.Ok (c : Parts) : Prop where
  t : ∀ t ∈ c.toks, t.Ok
  tn : (c.toks.map TokR.name).Nodup
  tl : c.toks.length ≤ 1000
  b : ∀ b ∈ c.bals, b.Ok c.toks
  bl : c.bals.length ≤ 1000
  d : 1 ≤ c.depth
  w : 1 ≤ c.window
  y : 0 ≤ c.delay
  u : 1 ≤ c.bundle
  u8 : c.bundle ≤ 8
def cfgNames : List Str := ["_tokens", "_balances", "_guards", "_depth", "_window", "_delay", "_bundle"]
/-- a Config at x: its table td, its list of balances bl, its guards g -/
structure CfgAt (C : Addr) (c : Parts) (g : Addr) (H : Hp) (x : Addr) : Prop where
  ex : ∃ dx fs td bl kvs bv, H x = some (.ins C dx fs) ∧ fs.lookup ("_tokens" : Str) = some (.ref td) ∧ fs.lookup ("_balances" : Str) = some (.ref bl) ∧ fs.lookup ("_guards" : Str) = some (.ref g) ∧ fs.lookup ("_depth" : Str) = some (.int c.depth) ∧ fs.lookup ("_window" : Str) = some (.int c.window) ∧
    fs.lookup ("_delay" : Str) = some (.int c.delay) ∧ fs.lookup ("_bundle" : Str) = some (.int c.bundle) ∧ (∀ m : Str, m ∉ cfgNames → fs.lookup m = none) ∧ H td = some (.dK kvs) ∧ TabAt H kvs c.toks ∧ H bl = some (.lst bv) ∧ RowsAt BalR.v H bv c.bals
theorem CfgAt.same {C : Addr} {c : Parts} {g : Addr} {H H' : Hp} {x : Addr} (h : CfgAt C c g H x) (e : Same H H') : CfgAt C c g H' x := by
  obtain ⟨dx, fs, td, bl, kvs, bv, h1, h2, h3, h4, h5, h6, h7, h8, h9, h10, h11, h12, h13⟩ := h.ex
  exact ⟨dx, fs, td, bl, kvs, bv, e _ _ h1, h2, h3, h4, h5, h6, h7, h8, h9, e _ _ h10, h11.mono fun b ys q => e _ _ q, e _ _ h12, h13.same e⟩
def sp_check_list (K : PySem.W.Frag) : Sp := fun vs H Q _ => ∃ (n : Str) (a : Addr) (xs : List V), vs = [.str n, .ref a] ∧ SqL K H a xs ∧ ∀ H', Same H H' → Q .non H'
def sp_check_least : Sp := fun vs H Q _ => ∃ (n : Str) (i l : Int), vs = [.str n, .int i, .int l] ∧ l ≤ i ∧ ∀ H', Same H H' → Q .non H'
def sp_check_tok : Sp := fun vs H Q _ => ∃ (a : Addr) (t : TokR), vs = [.ref a] ∧ H a = some (.tup t.v) ∧ t.Ok ∧ ∀ H', Same H H' → Q .non H'
def sp_check_bal : Sp := fun vs H Q _ => ∃ (a d : Addr) (b : BalR) (kvs : List (Key × V)) (ts : List TokR), vs = [.ref a, .ref d] ∧ H a = some (.tup b.v) ∧ H d = some (.dK kvs) ∧ TabAt H kvs ts ∧ b.Ok ts ∧ ∀ H', Same H H' → Q .non H'
def sp_cfg (K : PySem.W.Frag) (C : Addr) : Sp := fun vs H Q _ => ∃ (x dx tl bl g : Addr) (tv bv : List V) (gd : PyData) (c : Parts), vs = [.ref x, .ref tl, .ref bl, .ref g, .int c.depth, .int c.window, .int c.delay, .int c.bundle] ∧
  H x = some (.ins C dx []) ∧ H tl = some (.lst tv) ∧ H bl = some (.lst bv) ∧ RowsAt TokR.v H tv c.toks ∧ RowsAt BalR.v H bv c.bals ∧ TupDp K H (.ref g) gd ∧ setD gd = true ∧ FineS gd ∧ c.Ok ∧
  ∀ H', CfgAt C c g H' x → Kp x H H' → Q .non H'
section
variable {P : Program} {w : World} {K : PySem.W.Frag} {mg : Str → Option Value} {base : Heap}
theorem ty_list {H : Hp} {a : Addr} {xs : List V} (h : SqL K H a xs) : TyX K H (.ref a) (.type "list") := by
  rcases h with (h | ⟨o, h⟩) | ⟨o, its, n, h, h3, _⟩
  · exact .base (.lst h)
  · exact .base (.frz h)
  · exact .kList h h3
theorem ok_check_list (T : Txt K mg) : FnOk P w K mg base CX0 1 T.f_check_list T.d_check_list ["name", "value"] (sp_check_list K) := by
  refine T.F_check_list.ok sc_check_list (fun vs H Q E h => ?_) (fun cdv A outer s H vs Q E hr h => ?_)
  · obtain ⟨n, a, xs, rfl, _⟩ := h; rfl
  · obtain ⟨n, a, xs, rfl, ha, k⟩ := h
    refine ⟨_, (pss_one (ps_if (pt_not (pt_val (pe_callB call_isi (by rfl) T.z_isinstance boot_isinstance (pa_cons (pv 1) (pa_cons (pe_bltn (v := .ty "list") (by rfl) T.z_list boot_list rfl) pa_nil))))) (pss_one ps_never) pss_nil)), ?_⟩
    (dsimp only [cxOf, Cx.nox, Cx.wish, L2.start, List.map, List.length, List.replicate, List.cons_append, List.nil_append, List.append_eq, Nat.reduceSub, Nat.reduceAdd])
    walk_at "my_rd"
    refine q_isi (c := true) (ty_list ha) (kit_ty (by decide +kernel)) ?_
    walk_at "my_rd"
    exact k H (Same.refl _)
theorem ok_check_least (T : Txt K mg) : FnOk P w K mg base CX0 3 T.f_check_least T.d_check_least ["name", "value", "least"] sp_check_least := by
  refine T.F_check_least.ok sc_check_least (fun vs H Q E h => ?_) (fun cdv A outer s H vs Q E hr h => ?_)
  · obtain ⟨n, i, l, rfl, _⟩ := h; rfl
  · obtain ⟨n, i, l, rfl, hl, k⟩ := h
    refine ⟨_, (pss_one (ps_if (pt_not (pt_val (pe_call (ok_is_at_least T) (hr.mono (by decide)) (by rfl) T.g_is_at_least T.F_is_at_least.kp T.b_is_at_least .nil pass0 (pa_cons (pv 1) (pa_cons (pv 2) pa_nil))))) (pss_one ps_never) pss_nil)), ?_⟩
    (dsimp only [cxOf, Cx.nox, Cx.wish, L2.start, List.map, List.length, List.replicate, List.cons_append, List.nil_append, List.append_eq, Nat.reduceSub, Nat.reduceAdd])
    walk_at "my_rd"
    refine ⟨.int i, .int i, l, rfl, .int i, trivial, fun H1 sm => ?_⟩
    rw [show leastD l (.int i) = true from decide_eq_true hl]
    walk_at "my_rd"
    exact k H1 sm
theorem ok_check_token_row (T : Txt K mg) : FnOk P w K mg base CX0 4 T.f_check_token_row T.d_check_token_row ["row"] sp_check_tok := by
  refine T.F_check_token_row.ok sc_check_token_row (fun vs H Q E h => ?_) (fun cdv A outer s H vs Q E hr h => ?_)
  · obtain ⟨a, t, rfl, _⟩ := h; rfl
  · obtain ⟨a, t, rfl, ha, ht, k⟩ := h
    have hd : Dp K H (.ref a) (.tuple [.str t.name, .str t.home, .int t.scale, .int t.limit, .int t.large]) := .tup (sqT ha) (.cons (.str _) (.cons (.str _) (.cons (.int _) (.cons (.int _) (.cons (.int _) .nil)))))
    refine ⟨_, (pss_cons (ps_if (PW.pt (pw_or (pt_not (pt_val (pe_callB call_isi (by rfl) T.z_isinstance boot_isinstance (pa_cons (pv 0) (pa_cons (pe_bltn (v := .ty "tuple") (by rfl) T.z_tuple boot_tuple rfl) pa_nil))))) (pw_or1 (pt_cmpR op_ne (pe_callB cq_len (by rfl) T.z_len boot_len (pa_cons (pv 0) pa_nil)) pe_int (nomark _))))) (pss_one ps_never) pss_nil)
      (pss_cons (ps_asg (pv 0) (pg_tup rfl (pgs_cons (pg_name (i := 1) sc_check_token_row.nd rfl (Or.inl rfl)) (pgs_cons (pg_name (i := 2) sc_check_token_row.nd rfl (Or.inl rfl)) (pgs_cons (pg_name (i := 3) sc_check_token_row.nd rfl (Or.inl rfl)) (pgs_cons (pg_name (i := 4) sc_check_token_row.nd rfl (Or.inl rfl)) (pgs_cons (pg_name (i := 5) sc_check_token_row.nd rfl (Or.inl rfl)) pgs_nil)))))))
      (pss_cons (ps_if (pt_not (pt_val (pe_call (ok_is_short_text T) (hr.mono (by decide)) (by rfl) T.g_is_short_text T.F_is_short_text.kp T.b_is_short_text .nil pass0 (pa_cons (pv 1) (pa_cons (pe_glob (v := .int 12) (by rfl) T.c_TOKEN_LENGTH ⟨_, rfl⟩) pa_nil))))) (pss_one ps_never) pss_nil)
      (pss_cons (ps_if (pt_not (pt_val (pe_call (ok_is_side T) (hr.mono (by decide)) (by rfl) T.g_is_side T.F_is_side.kp T.b_is_side .nil pass0 (pa_cons (pv 2) pa_nil)))) (pss_one ps_never) pss_nil)
      (pss_cons (ps_expr (pe_call (ok_check_least T) (hr.mono (by decide)) (by rfl) T.g_check_least T.F_check_least.kp T.b_check_least .nil pass0 (pa_cons pe_str (pa_cons (pv 3) (pa_cons pe_int pa_nil)))))
      (pss_cons (ps_expr (pe_call (ok_check_least T) (hr.mono (by decide)) (by rfl) T.g_check_least T.F_check_least.kp T.b_check_least .nil pass0 (pa_cons pe_str (pa_cons (pv 4) (pa_cons pe_int pa_nil)))))
      (pss_one (ps_expr (pe_call (ok_check_least T) (hr.mono (by decide)) (by rfl) T.g_check_least T.F_check_least.kp T.b_check_least .nil pass0 (pa_cons pe_str (pa_cons (pv 5) (pa_cons pe_int pa_nil)))))))))))), ?_⟩
    (dsimp only [cxOf, Cx.nox, Cx.wish, L2.start, List.map, List.length, List.replicate, List.cons_append, List.nil_append, List.append_eq, Nat.reduceSub, Nat.reduceAdd])
    walk_at "my_rd"
    refine q_isiD hd (kit_tuple _) ?_
    show bK _ (.bl true) H
    walk_at "my_rd"
    rw [show decide ((t.v.length : Int) = 5) = true from rfl]
    walk_at "my_rd"
    refine q_gTup (sqT ha) rfl ?_
    unfold TokR.v
    walk_at "my_rd"
    refine ⟨.str t.name, .str t.name, 12, rfl, .str _, by show t.name.length ≤ 100000; have := ht.nl; omega, fun H1 sm1 => ?_⟩
    rw [ht.n]
    walk_at "my_rd"
    refine ⟨.str t.home, .str t.home, rfl, .str _, rfl, fun H2 sm2 => ?_⟩
    rw [ht.h]
    walk_at "my_rd"
    refine ⟨_, t.scale, 1, rfl, ht.sc, fun H3 sm3 => ?_⟩
    walk_at "my_rd"
    refine ⟨_, t.limit, 0, rfl, ht.li, fun H4 sm4 => ?_⟩
    walk_at "my_rd"
    refine ⟨_, t.large, 1, rfl, ht.la, fun H5 sm5 => ?_⟩
    walk_at "my_rd"
    exact k H5 (Same.trans sm1 (Same.trans sm2 (Same.trans sm3 (Same.trans sm4 sm5))))
theorem ok_check_balance_row (T : Txt K mg) : FnOk P w K mg base CX0 4 T.f_check_balance_row T.d_check_balance_row ["row", "tokens"] sp_check_bal := by
  refine T.F_check_balance_row.ok sc_check_balance_row (fun vs H Q E h => ?_) (fun cdv A outer s H vs Q E hr h => ?_)
  · obtain ⟨a, d, b, kvs, ts, rfl, _⟩ := h; rfl
  · obtain ⟨a, d, b, kvs, ts, rfl, ha, hdd, hT, hb, k⟩ := h
    have hu := hu_of hr
    have hd : Dp K H (.ref a) (.tuple [.str b.acc, .str b.tok, .int b.amt]) := .tup (sqT ha) (.cons (.str _) (.cons (.str _) (.cons (.int _) .nil)))
    refine ⟨_, (pss_cons (ps_if (PW.pt (pw_or (pt_not (pt_val (pe_callB call_isi (by rfl) T.z_isinstance boot_isinstance (pa_cons (pv 0) (pa_cons (pe_bltn (v := .ty "tuple") (by rfl) T.z_tuple boot_tuple rfl) pa_nil))))) (pw_or1 (pt_cmpR op_ne (pe_callB cq_len (by rfl) T.z_len boot_len (pa_cons (pv 0) pa_nil)) pe_int (nomark _))))) (pss_one ps_never) pss_nil)
      (pss_cons (ps_asg (pv 0) (pg_tup rfl (pgs_cons (pg_name (i := 2) sc_check_balance_row.nd rfl (Or.inl rfl)) (pgs_cons (pg_name (i := 3) sc_check_balance_row.nd rfl (Or.inl rfl)) (pgs_cons (pg_name (i := 4) sc_check_balance_row.nd rfl (Or.inl rfl)) pgs_nil)))))
      (pss_cons (ps_if (pt_not (pt_val (pe_call (ok_is_account T) (hr.mono (by decide)) (by rfl) T.g_is_account T.F_is_account.kp T.b_is_account .nil pass0 (pa_cons (pv 2) pa_nil)))) (pss_one ps_never) pss_nil)
      (pss_cons (ps_if (PW.pt (pw_or (pt_not (pt_val (pe_call (ok_is_short_text T) (hr.mono (by decide)) (by rfl) T.g_is_short_text T.F_is_short_text.kp T.b_is_short_text .nil pass0 (pa_cons (pv 3) (pa_cons (pe_glob (v := .int 12) (by rfl) T.c_TOKEN_LENGTH ⟨_, rfl⟩) pa_nil))))) (pw_or1 (pt_cmp (pc_dnotin hu (pv 3) (pv 1)))))) (pss_one ps_never) pss_nil)
      (pss_one (ps_expr (pe_call (ok_check_least T) (hr.mono (by decide)) (by rfl) T.g_check_least T.F_check_least.kp T.b_check_least .nil pass0 (pa_cons pe_str (pa_cons (pv 4) (pa_cons pe_int pa_nil)))))))))), ?_⟩
    (dsimp only [cxOf, Cx.nox, Cx.wish, L2.start, List.map, List.length, List.replicate, List.cons_append, List.nil_append, List.append_eq, Nat.reduceSub, Nat.reduceAdd])
    walk_at "my_rd"
    refine q_isiD hd (kit_tuple _) ?_
    show bK _ (.bl true) H
    walk_at "my_rd"
    rw [show decide ((b.v.length : Int) = 3) = true from rfl]
    walk_at "my_rd"
    refine q_gTup (sqT ha) rfl ?_
    unfold BalR.v
    walk_at "my_rd"
    refine ⟨.str b.acc, .str b.acc, rfl, .str _, by show b.acc.length ≤ 100000; have := hb.al; omega, fun H1 sm1 => ?_⟩
    rw [hb.a]
    walk_at "my_rd"
    refine ⟨.str b.tok, .str b.tok, 12, rfl, .str _, by show b.tok.length ≤ 100000; have := hb.tl; omega, fun H2 sm2 => ?_⟩
    rw [hb.t]
    have sm := Same.trans sm1 sm2
    walk_at "my_rd"
    rw [hT.has, decide_eq_true hb.tm]
    walk_at "my_rd"
    refine ⟨_, b.amt, 0, rfl, hb.am, fun H3 sm3 => ?_⟩
    walk_at "my_rd"
    exact k H3 (Same.trans sm sm3)
end

theorem RowsAt.kp {α : Type} {f : α → List V} {H H' : Hp} {xs : List V} {rs : List α} {x C dx : Addr} {fs : List (Str × V)} (h : RowsAt f H xs rs) (hx : H x = some (.ins C dx fs)) (k : Kp x H H') : RowsAt f H' xs rs :=
  h.mono fun b ys q => k _ _ q (ne_of q hx (by intro z; cases z))
theorem valV_put {kvs : List (Key × V)} {k k' : Key} {v : V} (h : valV kvs k = none) : valV (putK kvs k v) k' = if k' = k then some v else valV kvs k' := by
  rw [putK_new v h]
  unfold valV
  rw [List.find?_append]
  by_cases e : k' = k
  · subst e
    rw [if_pos rfl]
    have : kvs.find? (fun kv => decide (kv.1 = k')) = none := by
      cases q : kvs.find? (fun kv => decide (kv.1 = k')) with
      | none => rfl
      | some x =>
        unfold valV at h
        rw [q] at h
        cases h
    rw [this]
    simp
  · rw [if_neg e]
    cases q : kvs.find? (fun kv => decide (kv.1 = k')) with
    | some x => rfl
    | none =>
      have e2 : ¬ k = k' := fun z => e z.symm
      simp [e2]
section
variable {P : Program} {w : World} {K : PySem.W.Frag} {mg : Str → Option Value} {base : Heap}
theorem ok_Config_init (T : Txt K mg) : FnOk P w K mg base CX0 6 T.f_Config_init T.d_Config_init ["self", "tokens", "balances", "guards", "depth", "window", "delay", "bundle"] (sp_cfg K T.C_Config) := by
  refine T.F_Config_init.ok sc_Config_init (fun vs H Q E h => ?_) (fun cdv A outer s H vs Q E hr h => ?_)
  · obtain ⟨x, dx, tl, bl, g, tv, bv, gd, c, rfl, _⟩ := h; rfl
  · obtain ⟨x, dx, tl, bl, g, tv, bv, gd, c, rfl, hx, htl, hbl, hT, hB, hG, hset, hfine, hc, k⟩ := h
    have hu := hu_of hr
    refine ⟨_, (pss_cons (ps_expr (pe_call (ok_check_list T) (hr.mono (by decide)) (by rfl) T.g_check_list T.F_check_list.kp T.b_check_list .nil pass0 (pa_cons pe_str (pa_cons (pv 1) pa_nil))))
      (pss_cons (ps_expr (pe_call (ok_check_list T) (hr.mono (by decide)) (by rfl) T.g_check_list T.F_check_list.kp T.b_check_list .nil pass0 (pa_cons pe_str (pa_cons (pv 2) pa_nil))))
      (pss_cons (ps_fld (pv 0) pe_dnewK rfl)
      (pss_cons (ps_for PassesOwn.never rfl (pi_list (pv 1)) (pg_name (i := 8) sc_Config_init.nd rfl (Or.inl rfl))
        (pss_cons (ps_expr (pe_call (ok_check_token_row T) (hr.mono (by decide)) (by rfl) T.g_check_token_row T.F_check_token_row.kp T.b_check_token_row .nil pass0 (pa_cons (pv 8) pa_nil)))
      (pss_cons (ps_if (pt_cmp (pc_din hu (pe_ix ix_tup (pv 8) pe_int (fun _ _ => rfl)) (pe_fld (pv 0) rfl))) (pss_one ps_never) pss_nil)
      (pss_one (ps_dput hu (pe_fld (pv 0) rfl) (pe_ix ix_tup (pv 8) pe_int (fun _ _ => rfl)) (pv 8) rfl)))))
      (pss_cons (ps_for PassesOwn.never rfl (pi_list (pv 2)) (pg_name (i := 8) sc_Config_init.nd rfl (Or.inl rfl))
        (pss_one (ps_expr (pe_call (ok_check_balance_row T) (hr.mono (by decide)) (by rfl) T.g_check_balance_row T.F_check_balance_row.kp T.b_check_balance_row .nil pass0 (pa_cons (pv 8) (pa_cons (pe_fld (pv 0) rfl) pa_nil))))))
      (pss_cons (ps_if (pt_not (pt_val (pe_call (ok_is_set T) (hr.mono (by decide)) (by rfl) T.g_is_set T.F_is_set.kp T.b_is_set .nil pass0 (pa_cons (pv 3) pa_nil)))) (pss_one ps_never) pss_nil)
      (pss_cons (ps_expr (pe_call (ok_check_least T) (hr.mono (by decide)) (by rfl) T.g_check_least T.F_check_least.kp T.b_check_least .nil pass0 (pa_cons pe_str (pa_cons (pv 4) (pa_cons pe_int pa_nil)))))
      (pss_cons (ps_expr (pe_call (ok_check_least T) (hr.mono (by decide)) (by rfl) T.g_check_least T.F_check_least.kp T.b_check_least .nil pass0 (pa_cons pe_str (pa_cons (pv 5) (pa_cons pe_int pa_nil)))))
      (pss_cons (ps_expr (pe_call (ok_check_least T) (hr.mono (by decide)) (by rfl) T.g_check_least T.F_check_least.kp T.b_check_least .nil pass0 (pa_cons pe_str (pa_cons (pv 6) (pa_cons pe_int pa_nil)))))
      (pss_cons (ps_expr (pe_call (ok_check_least T) (hr.mono (by decide)) (by rfl) T.g_check_least T.F_check_least.kp T.b_check_least .nil pass0 (pa_cons pe_str (pa_cons (pv 7) (pa_cons pe_int pa_nil)))))
      (pss_cons (ps_if (pt_cmpR op_gt (pv 7) (pe_glob (v := .int 8) (by rfl) T.c_MOST_IN_BUNDLE ⟨_, rfl⟩) (nomark _)) (pss_one ps_never) pss_nil)
      (pss_cons (ps_fld (pv 0) (pe_callTy cq_listOf (by rfl) T.z_list boot_list (pa_cons (pv 2) pa_nil)) rfl)
      (pss_cons (ps_fld (pv 0) (pv 3) rfl)
      (pss_cons (ps_fld (pv 0) (pv 4) rfl)
      (pss_cons (ps_fld (pv 0) (pv 5) rfl)
      (pss_cons (ps_fld (pv 0) (pv 6) rfl)
      (pss_one (ps_fld (pv 0) (pv 7) rfl)))))))))))))))))), ?_⟩
    (dsimp only [cxOf, Cx.nox, Cx.wish, L2.start, List.map, List.length, List.replicate, List.cons_append, List.nil_append, List.append_eq, Nat.reduceSub, Nat.reduceAdd])
    walk_at "my_rd"
    refine ⟨_, tl, tv, rfl, sqL htl, fun H1 sm1 => ?_⟩
    walk_at "my_rd"
    refine ⟨_, bl, bv, rfl, sqL (sm1 _ _ hbl), fun H2 sm2 => ?_⟩
    have sm2 := Same.trans sm1 sm2
    walk_at "my_rd"
    refine q_dNew fun td ntd => ?_
    walk_at "my_rd"
    have hx2 := sm2 _ _ hx
    have nxd : x ≠ td := ne_of_none hx2 ntd
    have htd0 : H td = none := Same.free sm2 ntd
    refine q_fputK (upd_new ntd hx2) T.cl_Config T.n_Config_tokens (by show 0 < 1000; decide) ?_
    walk_at "my_rd"
    generalize hH3 : upd (upd H2 td (.dK [])) x _ = H3
    have hx3 : H3 x = some (.ins T.C_Config dx (putF "_tokens" (.ref td) [])) := by rw [← hH3]; exact upd_same
    have hd3 : H3 td = some (.dK []) := by rw [← hH3]; exact upd_other nxd.symm upd_same
    have kp3 : Kp x H H3 := by rw [← hH3]; exact Kp.upd (Kp.new (Same.kp sm2) htd0)
    have ntx : tl ≠ x := ne_of htl hx (by intro z; cases z)
    have nbx : bl ≠ x := ne_of hbl hx (by intro z; cases z)
    have lk0 : (putF "_tokens" (V.ref td) []).lookup ("_tokens" : Str) = some (.ref td) := rfl
    refine q_forL (sqL (Kp.get kp3 htl ntx)) (fun i σ H' => ∃ (kvs : List (Key × V)) (rv : Option V), σ = [some (.ref x), some (.ref tl), some (.ref bl), some (.ref g), some (.int c.depth), some (.int c.window), some (.int c.delay), some (.int c.bundle), rv] ∧
        H' x = some (.ins T.C_Config dx (putF "_tokens" (.ref td) [])) ∧ H' td = some (.dK kvs) ∧ TabAt H' kvs (c.toks.take i) ∧ Kp x H H')
      ⟨[], none, rfl, hx3, hd3, ⟨rfl, fun t ht => by simp at ht⟩, kp3⟩ (fun i σ H' _ ⟨_, _, _, _, _, _, kp⟩ => sqL (Kp.get kp htl ntx)) ?_ ?_
    · rintro i v σ H' hv ⟨kvs, rv, rfl, hx', hd', hTab, kp⟩
      obtain ⟨t, r, ht, rfl, hr0⟩ := hT.item hv
      have hr1 : H' r = some (.tup t.v) := Kp.get kp hr0 (ne_of hr0 hx (by intro z; cases z))
      have hmem := List.mem_of_getElem? ht
      have hnew : t.name ∉ (c.toks.take i).map TokR.name := by
        intro hm
        have h3 : ((c.toks.take (i + 1)).map TokR.name).Nodup := (List.Sublist.map _ (List.take_sublist _ _)).nodup hc.tn
        rw [take_snoc ht, List.map_append] at h3
        exact (List.nodup_append.mp h3).2.2 t.name hm t.name (by simp) rfl
      walk_at "my_rd"
      refine ⟨r, t, rfl, hr1, hc.t t hmem, fun H4 sm4 => ?_⟩
      have hx4 := sm4 _ _ hx'
      have hd4 := sm4 _ _ hd'
      have hr4 : H4 r = some (.tup [.str t.name, .str t.home, .int t.scale, .int t.limit, .int t.large]) := sm4 _ _ hr1
      have hTab4 : TabAt H4 kvs (c.toks.take i) := hTab.mono fun b ys q => sm4 _ _ q
      walk_at "my_rd"
      refine q_fldK hx4 T.cl_Config T.n_Config_tokens lk0 ?_
      walk_at "my_rd"
      rw [hTab4.has, decide_eq_false hnew]
      walk_at "my_rd"
      refine q_fldK hx4 T.cl_Config T.n_Config_tokens lk0 ?_
      walk_at "my_rd"
      have hvn : valV kvs (Sum.inr t.name) = none := by
        have := hTab4.has t.name
        rw [decide_eq_false hnew] at this
        cases q : valV kvs (Sum.inr t.name) with
        | none => rfl
        | some _ => rw [q] at this; cases this
      refine q_dPutS hd4 (by rw [hTab4.len, List.length_take]; exact small1000 (by have := hc.tl; omega)) ?_
      walk_at "my_rd"
      have ett : c.toks.take (i + 1) = c.toks.take i ++ [t] := take_snoc ht
      have smu : ∀ b ys, H4 b = some (HO.tup ys) → upd H4 td (.dK (putK kvs (Sum.inr t.name) (.ref r))) b = some (.tup ys) := fun b ys q => upd_other (ne_of q hd4 (by intro z; cases z)) q
      refine ⟨putK kvs (Sum.inr t.name) (.ref r), _, rfl, upd_other nxd hx4, upd_same, ⟨?_, ?_⟩, Kp.new (Kp.trans kp (Same.kp sm4)) htd0⟩
      · rw [putK_new _ hvn, List.map_append, hTab4.keys, ett, List.map_append, List.map_append]
        rfl
      · intro t' ht'
        rw [ett] at ht'
        rw [valV_put hvn]
        rcases List.mem_append.mp ht' with h | h
        · obtain ⟨r', h1, h2⟩ := hTab4.at_ t' h
          refine ⟨r', ?_, smu _ _ h2⟩
          rw [if_neg, h1]
          intro e
          injection e with e
          exact hnew (e ▸ List.mem_map.mpr ⟨t', h, rfl⟩)
        · have e := List.mem_singleton.mp h
          subst e
          exact ⟨r, by rw [if_pos rfl], smu _ _ hr4⟩
    · rintro σ H4 ⟨kvs, rv, rfl, hx4, hd4, hTab4, kp4⟩
      have et : c.toks.take tv.length = c.toks := List.take_of_length_le (by rw [hT.len]; exact Nat.le_refl _)
      rw [et] at hTab4
      walk_at "my_rd"
      refine q_forL (sqL (Kp.get kp4 hbl nbx)) (fun i σ H' => ∃ (rv : Option V), σ = [some (.ref x), some (.ref tl), some (.ref bl), some (.ref g), some (.int c.depth), some (.int c.window), some (.int c.delay), some (.int c.bundle), rv] ∧ Same H4 H')
        ⟨_, rfl, Same.refl _⟩ (fun i σ H' _ ⟨_, _, sm⟩ => sqL (sm _ _ (Kp.get kp4 hbl nbx))) ?_ ?_
      · rintro i v σ H' hv ⟨rv, rfl, sm⟩
        obtain ⟨b, r, hb, rfl, hr0⟩ := hB.item hv
        have hr1 : H' r = some (.tup b.v) := sm _ _ (Kp.get kp4 hr0 (ne_of hr0 hx (by intro z; cases z)))
        walk_at "my_rd"
        refine q_fldK (sm _ _ hx4) T.cl_Config T.n_Config_tokens lk0 ?_
        walk_at "my_rd"
        refine ⟨r, td, b, kvs, c.toks, rfl, hr1, sm _ _ hd4, hTab4.mono fun b ys q => sm _ _ q, hc.b b (List.mem_of_getElem? hb), fun H5 sm5 => ?_⟩
        walk_at "my_rd"
        exact ⟨_, rfl, Same.trans sm sm5⟩
      · rintro σ H5 ⟨rv, rfl, sm5⟩
        have kp5 := Kp.trans kp4 (Same.kp sm5)
        have hG5 : TupDp K H5 (.ref g) gd := hG.mono fun b ys q => Kp.get kp5 q (ne_of q hx (by intro z; cases z))
        walk_at "my_rd"
        refine ⟨.ref g, gd, rfl, hG5.dp, hfine, fun H6 sm6 => ?_⟩
        rw [hset]
        walk_at "my_rd"
        refine ⟨_, c.depth, 1, rfl, hc.d, fun H7 sm7 => ?_⟩
        walk_at "my_rd"
        refine ⟨_, c.window, 1, rfl, hc.w, fun H8 sm8 => ?_⟩
        walk_at "my_rd"
        refine ⟨_, c.delay, 0, rfl, hc.y, fun H9 sm9 => ?_⟩
        walk_at "my_rd"
        refine ⟨_, c.bundle, 1, rfl, hc.u, fun H10 sm10 => ?_⟩
        walk_at "my_rd"
        rw [decide_eq_false (show ¬ (8 : Int) < c.bundle by have := hc.u8; omega)]
        walk_at "my_rd"
        have sm : Same H4 H10 := Same.trans sm5 (Same.trans sm6 (Same.trans sm7 (Same.trans sm8 (Same.trans sm9 sm10))))
        have kp10 : Kp x H H10 := Kp.trans kp4 (Same.kp sm)
        refine q_listL (sqL (Kp.get kp10 hbl nbx)) fun nb nnb => ?_
        walk_at "my_rd"
        have hx10 := sm _ _ hx4
        have nxb : x ≠ nb := ne_of_none hx10 nnb
        have ndb : td ≠ nb := ne_of_none (sm _ _ hd4) nnb
        have hnb0 : H nb = none := Kp.fresh kp10 hx nnb nxb.symm
        refine q_fputK (upd_new nnb hx10) T.cl_Config T.n_Config_balances (by show 1 < 1000; decide) ?_
        walk_at "my_rd"
        refine q_fputK upd_same T.cl_Config T.n_Config_guards (by show _ < 1000; exact Nat.lt_of_le_of_lt (q_fldlen (n := 1) (by show 1 ≤ 1; decide)) (by decide)) ?_
        walk_at "my_rd"
        refine q_fputK upd_same T.cl_Config T.n_Config_depth (Nat.lt_of_le_of_lt (q_fldlen (n := 2) (q_fldlen (n := 1) (by show 1 ≤ 1; decide))) (by decide)) ?_
        walk_at "my_rd"
        refine q_fputK upd_same T.cl_Config T.n_Config_window (Nat.lt_of_le_of_lt (q_fldlen (n := 3) (q_fldlen (n := 2) (q_fldlen (n := 1) (by show 1 ≤ 1; decide)))) (by decide)) ?_
        walk_at "my_rd"
        refine q_fputK upd_same T.cl_Config T.n_Config_delay (Nat.lt_of_le_of_lt (q_fldlen (n := 4) (q_fldlen (n := 3) (q_fldlen (n := 2) (q_fldlen (n := 1) (by show 1 ≤ 1; decide))))) (by decide)) ?_
        walk_at "my_rd"
        refine q_fputK upd_same T.cl_Config T.n_Config_bundle (Nat.lt_of_le_of_lt (q_fldlen (n := 5) (q_fldlen (n := 4) (q_fldlen (n := 3) (q_fldlen (n := 2) (q_fldlen (n := 1) (by show 1 ≤ 1; decide)))))) (by decide)) ?_
        walk_at "my_rd"
        rw [upd_upd, upd_upd, upd_upd, upd_upd, upd_upd]
        have kpU : ∀ o, Kp x H (upd (upd H10 nb (.lst bv)) x o) := fun o => Kp.upd (Kp.new kp10 hnb0)
        have tupU : ∀ o b ys, H10 b = some (HO.tup ys) → upd (upd H10 nb (.lst bv)) x o b = some (.tup ys) := fun o b ys q => upd_other (ne_of q hx10 (by intro z; cases z)) (upd_new nnb q)
        refine k _ ⟨⟨dx, _, td, nb, kvs, bv, upd_same, ?_, ?_, ?_, ?_, ?_, ?_, ?_, ?_, upd_other nxd.symm (upd_new nnb (sm _ _ hd4)), (hTab4.mono fun b ys q => sm _ _ q).mono (tupU _), upd_other nxb.symm upd_same, ?_⟩⟩ (kpU _)
        · (repeat first | rfl | rw [lookup_putF, if_pos rfl] | rw [lookup_putF, if_neg (by decide +kernel)])
        · (repeat first | rfl | rw [lookup_putF, if_pos rfl] | rw [lookup_putF, if_neg (by decide +kernel)])
        · (repeat first | rfl | rw [lookup_putF, if_pos rfl] | rw [lookup_putF, if_neg (by decide +kernel)])
        · (repeat first | rfl | rw [lookup_putF, if_pos rfl] | rw [lookup_putF, if_neg (by decide +kernel)])
        · (repeat first | rfl | rw [lookup_putF, if_pos rfl] | rw [lookup_putF, if_neg (by decide +kernel)])
        · (repeat first | rfl | rw [lookup_putF, if_pos rfl] | rw [lookup_putF, if_neg (by decide +kernel)])
        · (repeat first | rfl | rw [lookup_putF, if_pos rfl] | rw [lookup_putF, if_neg (by decide +kernel)])
        · intro m hm
          have hne : ∀ z ∈ cfgNames, ¬ m = z := fun z hz e => hm (e ▸ hz)
          rw [lookup_putF, if_neg (hne _ (by decide +kernel)), lookup_putF, if_neg (hne _ (by decide +kernel)), lookup_putF, if_neg (hne _ (by decide +kernel)), lookup_putF, if_neg (hne _ (by decide +kernel)), lookup_putF, if_neg (hne _ (by decide +kernel)), lookup_putF, if_neg (hne _ (by decide +kernel)), lookup_putF, if_neg (hne _ (by decide +kernel))]
          rfl
        · exact (hB.kp hx kp10).mono (tupU _)
end

def Parts.homeOf (c : Parts) (s : Str) : Str := ((c.toks.find? fun t => decide (t.name = s)).map TokR.home).getD ""
theorem find_name {ts : List TokR} (hn : (ts.map TokR.name).Nodup) {t : TokR} (ht : t ∈ ts) : (ts.find? fun u => decide (u.name = t.name)) = some t := by
  induction ts with
  | nil => cases ht
  | cons u r ih =>
    obtain ⟨h1, h2⟩ := List.nodup_cons.mp (show (u.name :: r.map TokR.name).Nodup from hn)
    rw [List.find?_cons]
    rcases List.mem_cons.mp ht with e | e
    · subst e
      rw [decide_eq_true rfl]
    · have : ¬ u.name = t.name := fun q => h1 (q ▸ List.mem_map.mpr ⟨t, e, rfl⟩)
      rw [decide_eq_false this]
      exact ih h2 e
theorem Parts.home_eq {c : Parts} (h : c.Ok) {t : TokR} (ht : t ∈ c.toks) : c.homeOf t.name = t.home := by
  unfold Parts.homeOf
  rw [find_name h.tn ht]
  rfl
def sp_getI (C : Addr) (f : Parts → Int) : Sp := fun vs H Q _ => ∃ (x g : Addr) (c : Parts), vs = [.ref x] ∧ CfgAt C c g H x ∧ Q (.int (f c)) H
def sp_guards (C : Addr) : Sp := fun vs H Q _ => ∃ (x g : Addr) (c : Parts), vs = [.ref x] ∧ CfgAt C c g H x ∧ Q (.ref g) H
def sp_tokchk (C : Addr) : Sp := fun vs H Q _ => ∃ (x g : Addr) (c : Parts) (t : TokR), vs = [.ref x, .str t.name] ∧ CfgAt C c g H x ∧ t ∈ c.toks ∧ Q .non H
def sp_tok (C : Addr) (f : TokR → V) : Sp := fun vs H Q _ => ∃ (x g : Addr) (c : Parts) (t : TokR), vs = [.ref x, .str t.name] ∧ CfgAt C c g H x ∧ t ∈ c.toks ∧ Q (f t) H
def sp_opening (C : Addr) : Sp := fun vs H Q _ => ∃ (x g : Addr) (c : Parts) (s : Str), vs = [.ref x, .str s] ∧ CfgAt C c g H x ∧ c.Ok ∧ ∀ (p : Addr) (ys : List V) (H' : Hp), H p = none → H' p = some (.lst ys) → RowsAt BalR.v H' ys (c.bals.filter fun b => decide (c.homeOf b.tok = s)) → Same H H' → Q (.ref p) H'
section
variable {P : Program} {w : World} {K : PySem.W.Frag} {mg : Str → Option Value} {base : Heap}
theorem ok_Config_depth (T : Txt K mg) : FnOk P w K mg base CX0 1 T.f_Config_depth T.d_Config_depth ["self"] (sp_getI T.C_Config Parts.depth) := by
  refine T.F_Config_depth.ok sc_Config_depth (fun vs H Q E h => ?_) (fun cdv A outer s H vs Q E hr h => ?_)
  · obtain ⟨x, g, c, rfl, _⟩ := h; rfl
  · obtain ⟨x, g, c, rfl, hC, k⟩ := h
    obtain ⟨dx, fs, td, bl, kvs, bv, h1, h2, h3, h4, h5, h6, h7, h8, h9, h10, h11, h12, h13⟩ := hC.ex
    refine ⟨_, (pss_one (ps_ret (pe_fld (pv 0) rfl))), ?_⟩
    (dsimp only [cxOf, Cx.nox, Cx.wish, L2.start, List.map, List.length, List.replicate, List.cons_append, List.nil_append, List.append_eq, Nat.reduceSub, Nat.reduceAdd])
    walk_at "my_rd"
    refine q_fldK h1 T.cl_Config T.n_Config_depth h5 ?_
    exact k
theorem ok_Config_window (T : Txt K mg) : FnOk P w K mg base CX0 1 T.f_Config_window T.d_Config_window ["self"] (sp_getI T.C_Config Parts.window) := by
  refine T.F_Config_window.ok sc_Config_window (fun vs H Q E h => ?_) (fun cdv A outer s H vs Q E hr h => ?_)
  · obtain ⟨x, g, c, rfl, _⟩ := h; rfl
  · obtain ⟨x, g, c, rfl, hC, k⟩ := h
    obtain ⟨dx, fs, td, bl, kvs, bv, h1, h2, h3, h4, h5, h6, h7, h8, h9, h10, h11, h12, h13⟩ := hC.ex
    refine ⟨_, (pss_one (ps_ret (pe_fld (pv 0) rfl))), ?_⟩
    (dsimp only [cxOf, Cx.nox, Cx.wish, L2.start, List.map, List.length, List.replicate, List.cons_append, List.nil_append, List.append_eq, Nat.reduceSub, Nat.reduceAdd])
    walk_at "my_rd"
    refine q_fldK h1 T.cl_Config T.n_Config_window h6 ?_
    exact k
theorem ok_Config_delay (T : Txt K mg) : FnOk P w K mg base CX0 1 T.f_Config_delay T.d_Config_delay ["self"] (sp_getI T.C_Config Parts.delay) := by
  refine T.F_Config_delay.ok sc_Config_delay (fun vs H Q E h => ?_) (fun cdv A outer s H vs Q E hr h => ?_)
  · obtain ⟨x, g, c, rfl, _⟩ := h; rfl
  · obtain ⟨x, g, c, rfl, hC, k⟩ := h
    obtain ⟨dx, fs, td, bl, kvs, bv, h1, h2, h3, h4, h5, h6, h7, h8, h9, h10, h11, h12, h13⟩ := hC.ex
    refine ⟨_, (pss_one (ps_ret (pe_fld (pv 0) rfl))), ?_⟩
    (dsimp only [cxOf, Cx.nox, Cx.wish, L2.start, List.map, List.length, List.replicate, List.cons_append, List.nil_append, List.append_eq, Nat.reduceSub, Nat.reduceAdd])
    walk_at "my_rd"
    refine q_fldK h1 T.cl_Config T.n_Config_delay h7 ?_
    exact k
theorem ok_Config_bundle (T : Txt K mg) : FnOk P w K mg base CX0 1 T.f_Config_bundle T.d_Config_bundle ["self"] (sp_getI T.C_Config Parts.bundle) := by
  refine T.F_Config_bundle.ok sc_Config_bundle (fun vs H Q E h => ?_) (fun cdv A outer s H vs Q E hr h => ?_)
  · obtain ⟨x, g, c, rfl, _⟩ := h; rfl
  · obtain ⟨x, g, c, rfl, hC, k⟩ := h
    obtain ⟨dx, fs, td, bl, kvs, bv, h1, h2, h3, h4, h5, h6, h7, h8, h9, h10, h11, h12, h13⟩ := hC.ex
    refine ⟨_, (pss_one (ps_ret (pe_fld (pv 0) rfl))), ?_⟩
    (dsimp only [cxOf, Cx.nox, Cx.wish, L2.start, List.map, List.length, List.replicate, List.cons_append, List.nil_append, List.append_eq, Nat.reduceSub, Nat.reduceAdd])
    walk_at "my_rd"
    refine q_fldK h1 T.cl_Config T.n_Config_bundle h8 ?_
    exact k
theorem ok_Config_guards (T : Txt K mg) : FnOk P w K mg base CX0 1 T.f_Config_guards T.d_Config_guards ["self"] (sp_guards T.C_Config) := by
  refine T.F_Config_guards.ok sc_Config_guards (fun vs H Q E h => ?_) (fun cdv A outer s H vs Q E hr h => ?_)
  · obtain ⟨x, g, c, rfl, _⟩ := h; rfl
  · obtain ⟨x, g, c, rfl, hC, k⟩ := h
    obtain ⟨dx, fs, td, bl, kvs, bv, h1, h2, h3, h4, h5, h6, h7, h8, h9, h10, h11, h12, h13⟩ := hC.ex
    refine ⟨_, (pss_one (ps_ret (pe_fld (pv 0) rfl))), ?_⟩
    (dsimp only [cxOf, Cx.nox, Cx.wish, L2.start, List.map, List.length, List.replicate, List.cons_append, List.nil_append, List.append_eq, Nat.reduceSub, Nat.reduceAdd])
    walk_at "my_rd"
    refine q_fldK h1 T.cl_Config T.n_Config_guards h4 ?_
    exact k
theorem ok_Config_check_token (T : Txt K mg) : FnOk P w K mg base CX0 1 T.f_Config_check_token T.d_Config_check_token ["self", "token"] (sp_tokchk T.C_Config) := by
  refine T.F_Config_check_token.ok sc_Config_check_token (fun vs H Q E h => ?_) (fun cdv A outer s H vs Q E hr h => ?_)
  · obtain ⟨x, g, c, t, rfl, _⟩ := h; rfl
  · obtain ⟨x, g, c, t, rfl, hC, ht, k⟩ := h
    have hu := hu_of hr
    obtain ⟨dx, fs, td, bl, kvs, bv, h1, h2, h3, h4, h5, h6, h7, h8, h9, h10, h11, h12, h13⟩ := hC.ex
    refine ⟨_, (pss_one (ps_if (pt_cmp (pc_dnotin hu (pv 1) (pe_fld (pv 0) rfl))) (pss_one ps_never) pss_nil)), ?_⟩
    (dsimp only [cxOf, Cx.nox, Cx.wish, L2.start, List.map, List.length, List.replicate, List.cons_append, List.nil_append, List.append_eq, Nat.reduceSub, Nat.reduceAdd])
    walk_at "my_rd"
    refine q_fldK h1 T.cl_Config T.n_Config_tokens h2 ?_
    walk_at "my_rd"
    rw [h11.has, decide_eq_true (List.mem_map.mpr ⟨t, ht, rfl⟩)]
    walk_at "my_rd"
    exact k
theorem no_check_token : ("check_token" : Str) ∉ cfgNames := by decide +kernel
theorem no_home : ("home" : Str) ∉ cfgNames := by decide +kernel
theorem no_scale : ("scale" : Str) ∉ cfgNames := by decide +kernel
theorem no_opening : ("opening" : Str) ∉ cfgNames := by decide +kernel
theorem ok_Config_home (T : Txt K mg) : FnOk P w K mg base CX0 2 T.f_Config_home T.d_Config_home ["self", "token"] (sp_tok T.C_Config fun t => .str t.home) := by
  refine T.F_Config_home.ok sc_Config_home (fun vs H Q E h => ?_) (fun cdv A outer s H vs Q E hr h => ?_)
  · obtain ⟨x, g, c, t, rfl, _⟩ := h; rfl
  · obtain ⟨x, g, c, t, rfl, hC, ht, k⟩ := h
    have hu := hu_of hr
    obtain ⟨dx, fs, td, bl, kvs, bv, h1, h2, h3, h4, h5, h6, h7, h8, h9, h10, h11, h12, h13⟩ := hC.ex
    obtain ⟨r, hv, hr0⟩ := h11.at_ t ht
    have hr1 : H r = some (.tup [.str t.name, .str t.home, .int t.scale, .int t.limit, .int t.large]) := hr0
    refine ⟨_, (pss_cons (ps_expr (pe_meth (pv 0) T.cl_Config T.m_Config_check_token (ok_Config_check_token T) (hr.mono (by decide)) T.b_Config_check_token .nil pass0 (pa_cons (pv 1) pa_nil)))
      (pss_one (ps_ret (pe_ix ix_tup (pe_dget hu (pe_fld (pv 0) rfl) (pv 1) (fun _ _ => rfl)) pe_int (fun _ _ => rfl))))), ?_⟩
    (dsimp only [cxOf, Cx.nox, Cx.wish, L2.start, List.map, List.length, List.replicate, List.cons_append, List.nil_append, List.append_eq, Nat.reduceSub, Nat.reduceAdd])
    walk_at "my_rd"
    refine q_methK h1 (h9 _ no_check_token) fun R hR => ?_
    walk_at "my_rd"
    refine hR _ _ ⟨x, g, c, t, rfl, hC, ht, ?_⟩
    walk_at "my_rd"
    refine q_fldK h1 T.cl_Config T.n_Config_tokens h2 ?_
    walk_at "my_rd"
    refine q_dGetS h10 hv ?_
    walk_at "my_rd"
    exact k
theorem ok_Config_scale (T : Txt K mg) : FnOk P w K mg base CX0 2 T.f_Config_scale T.d_Config_scale ["self", "token"] (sp_tok T.C_Config fun t => .int t.scale) := by
  refine T.F_Config_scale.ok sc_Config_scale (fun vs H Q E h => ?_) (fun cdv A outer s H vs Q E hr h => ?_)
  · obtain ⟨x, g, c, t, rfl, _⟩ := h; rfl
  · obtain ⟨x, g, c, t, rfl, hC, ht, k⟩ := h
    have hu := hu_of hr
    obtain ⟨dx, fs, td, bl, kvs, bv, h1, h2, h3, h4, h5, h6, h7, h8, h9, h10, h11, h12, h13⟩ := hC.ex
    obtain ⟨r, hv, hr0⟩ := h11.at_ t ht
    have hr1 : H r = some (.tup [.str t.name, .str t.home, .int t.scale, .int t.limit, .int t.large]) := hr0
    refine ⟨_, (pss_cons (ps_expr (pe_meth (pv 0) T.cl_Config T.m_Config_check_token (ok_Config_check_token T) (hr.mono (by decide)) T.b_Config_check_token .nil pass0 (pa_cons (pv 1) pa_nil)))
      (pss_one (ps_ret (pe_ix ix_tup (pe_dget hu (pe_fld (pv 0) rfl) (pv 1) (fun _ _ => rfl)) pe_int (fun _ _ => rfl))))), ?_⟩
    (dsimp only [cxOf, Cx.nox, Cx.wish, L2.start, List.map, List.length, List.replicate, List.cons_append, List.nil_append, List.append_eq, Nat.reduceSub, Nat.reduceAdd])
    walk_at "my_rd"
    refine q_methK h1 (h9 _ no_check_token) fun R hR => ?_
    walk_at "my_rd"
    refine hR _ _ ⟨x, g, c, t, rfl, hC, ht, ?_⟩
    walk_at "my_rd"
    refine q_fldK h1 T.cl_Config T.n_Config_tokens h2 ?_
    walk_at "my_rd"
    refine q_dGetS h10 hv ?_
    walk_at "my_rd"
    exact k
theorem ok_Config_opening (T : Txt K mg) : FnOk P w K mg base CX0 3 T.f_Config_opening T.d_Config_opening ["self", "side"] (sp_opening T.C_Config) := by
  refine T.F_Config_opening.ok sc_Config_opening (fun vs H Q E h => ?_) (fun cdv A outer s H vs Q E hr h => ?_)
  · obtain ⟨x, g, c, sd, rfl, _⟩ := h; rfl
  · obtain ⟨x, g, c, sd, rfl, hC, hc, k⟩ := h
    obtain ⟨dx, fs, td, bl, kvs, bv, h1, h2, h3, h4, h5, h6, h7, h8, h9, h10, h11, h12, h13⟩ := hC.ex
    refine ⟨_, (pss_one (ps_ret (pe_lc (own := [("row", 2)]) (g := (gName 2)) (tt := (tTest (tOp rEq (tMeth T.C_Config "home" (sp_tok T.C_Config fun t => .str t.home) [] E0 (tVar 0) (tCons (tOp (rIxT K) (tVar 2) (tC (.int 1))) tNil)) (tVar 1)))) (te := (tVar 2)) rfl sc_Config_opening.nd (pi_list (pe_fld (pv 0) rfl)) (blkOk_by (own := [("row", 2)]) (N := ["self", "side", "row"]) (sc := defScope s_Config_opening) (by decide +kernel)) (fun _ _ _ _ _ => (pg_name (i := 2) sc_Config_opening.nd rfl (Or.inl rfl))) (fun _ _ _ _ _ => (pts_one (pt_cmpR op_eq (pe_meth (pv 0) T.cl_Config T.m_Config_home (ok_Config_home T) (hr.mono (by decide)) T.b_Config_home .nil pass0 (pa_cons (pe_ix ix_tup (pv 2) pe_int (fun _ _ => rfl)) pa_nil)) (pv 1) (nomark _)))) (fun _ _ _ _ _ => (pv 2))))), ?_⟩
    (dsimp only [cxOf, Cx.nox, Cx.wish, L2.start, List.map, List.length, List.replicate, List.cons_append, List.nil_append, List.append_eq, Nat.reduceSub, Nat.reduceAdd])
    walk_at "my_rd"
    refine q_fldK h1 T.cl_Config T.n_Config_balances h3 ?_
    refine q_lcL (sqL h12) (fun D nD => ⟨fun i H2 => ∃ ys, Same H H2 ∧ H2 D = some (.lst ys) ∧ RowsAt BalR.v H2 ys ((c.bals.take i).filter fun b => decide (c.homeOf b.tok = sd)), ⟨[], Same.new (Same.refl _) nD, upd_same, RowsAt.nil⟩, fun i H2 _ ⟨_, sm, _⟩ => sqL (sm _ _ h12), ?_, ?_⟩)
    · rintro i v H2 hv ⟨ys, sm, hD, hR⟩
      obtain ⟨b, r, hb, rfl, hr0⟩ := h13.item hv
      have hr1 : H2 r = some (.tup [.str b.acc, .str b.tok, .int b.amt]) := sm _ _ hr0
      have hbo := hc.b b (List.mem_of_getElem? hb)
      obtain ⟨t, ht, hte⟩ := List.mem_map.mp hbo.tm
      have et : (c.bals.take (i + 1)).filter (fun b => decide (c.homeOf b.tok = sd)) = (c.bals.take i).filter (fun b => decide (c.homeOf b.tok = sd)) ++ (if decide (c.homeOf b.tok = sd) = true then [b] else []) := by
        rw [take_snoc hb, List.filter_append, List.filter_cons, List.filter_nil]
      have eh : c.homeOf b.tok = t.home := by rw [← hte]; exact Parts.home_eq hc ht
      walk_at "my_rd"
      refine ⟨rfl, ?_⟩
      walk_at "my_rd"
      refine q_methK (sm _ _ h1) (h9 _ no_home) fun R hR2 => ?_
      walk_at "my_rd"
      refine hR2 _ _ ⟨x, g, c, t, by rw [hte], hC.same sm, ht, ?_⟩
      walk_at "my_rd"
      rw [eh] at et
      refine q_keep2 (fun h => ?_) (fun h => ?_)
      · walk_at "my_rd"
        refine q_accK hD ?_ ?_
        · rw [hR.len]
          have := List.length_filter_le (fun b => decide (c.homeOf b.tok = sd)) (c.bals.take i)
          rw [List.length_take] at this
          exact small1000 (by have := hc.bl; omega)
        · refine ⟨_, Same.new sm nD, upd_same, ?_⟩
          rw [et, if_pos h]
          exact (hR.snoc (r := b) hr1).mono fun b' ys' q => upd_other (ne_of q hD (by intro z; cases z)) q
      · refine ⟨ys, sm, hD, ?_⟩
        rw [et, if_neg (by rw [h]; exact Bool.false_ne_true), List.append_nil]
        exact hR
    · rintro H2 ⟨ys, sm, hD, hR⟩
      have e : c.bals.take bv.length = c.bals := List.take_of_length_le (by rw [h13.len]; exact Nat.le_refl _)
      rw [e] at hR
      exact k D ys H2 nD hD hR sm
end

/-! the law's configuration -/
theorem RowsAt.pot {α : Type} {f : α → List V} {H H' : Hp} {xs : List V} {rs : List α} {p l : Addr} (h : RowsAt f H xs rs) (pot : PotAt H p l) (k : Kp p H H') : RowsAt f H' xs rs := h.mono fun b ys q => k.tup pot q
theorem RowsAt.updL {α : Type} {f : α → List V} {H : Hp} {xs ys zs : List V} {rs : List α} {F : Addr} (h : RowsAt f H xs rs) (hF : H F = some (.lst ys)) : RowsAt f (upd H F (.lst zs)) xs rs := h.mono fun b ws q => upd_other (ne_of q hF (by intro z; cases z)) q
theorem RowsAt.new {α : Type} {f : α → List V} {H : Hp} {xs : List V} {rs : List α} {F : Addr} {o : HO} (h : RowsAt f H xs rs) (hF : H F = none) : RowsAt f (upd H F o) xs rs := h.mono fun b ws q => upd_new hF q
theorem menu {l : List V} {r : Int} (h0 : 0 ≤ r) (h1 : r < l.length) : ∃ v, atI l r = some v ∧ v ∈ l :=
  ⟨l[r.toNat]'(by omega), at_int (n := r.toNat) (by omega) (List.getElem?_eq_getElem _), List.getElem_mem _⟩
theorem menuS {ss : List Str} {r : Int} (h0 : 0 ≤ r) (h1 : r < ss.length) : ∃ s, atI (ss.map V.str) r = some (.str s) ∧ s ∈ ss := by
  obtain ⟨v, h, m⟩ := menu (l := ss.map V.str) h0 (by rw [List.length_map]; exact h1)
  obtain ⟨s, hs, rfl⟩ := List.mem_map.mp m
  exact ⟨s, h, hs⟩
theorem menuI {ss : List Int} {r : Int} (h0 : 0 ≤ r) (h1 : r < ss.length) : ∃ s, atI (ss.map V.int) r = some (.int s) ∧ s ∈ ss := by
  obtain ⟨v, h, m⟩ := menu (l := ss.map V.int) h0 (by rw [List.length_map]; exact h1)
  obtain ⟨s, hs, rfl⟩ := List.mem_map.mp m
  exact ⟨s, h, hs⟩
def tokNames : List Str := ["coin", "gold", "iron"]
def accNames : List Str := ["ann", "bob", "cyd"]
def sideNames : List Str := ["west", "east"]
def scales : List Int := [1, 1, 7, 1000]
def limits : List Int := [10 ^ (9 : Int).toNat, 10 ^ (9 : Int).toNat, 5, 0]
def larges : List Int := [10 ^ (9 : Int).toNat, 30, 3, 1]
def amounts : List Int := [0, 5, 40, 5000, 10 ^ (6 : Int).toNat]
theorem tokNames_ok : ∀ z ∈ tokNames, shortD 12 (.str z) = true ∧ z.length ≤ 12 := by decide +kernel
theorem accNames_ok : ∀ z ∈ accNames, accD (.str z) = true ∧ z.length ≤ 20 := by decide +kernel
theorem sideNames_ok : ∀ z ∈ sideNames, sideD (.str z) = true := by decide +kernel
theorem scales_ok : ∀ z ∈ scales, 1 ≤ z ∧ z ≤ 1000 := by decide
theorem limits_ok : ∀ z ∈ limits, 0 ≤ z := by decide
theorem larges_ok : ∀ z ∈ larges, 1 ≤ z := by decide
theorem amounts_ok : ∀ z ∈ amounts, 0 ≤ z ∧ z ≤ 1000000 := by decide
theorem tokNames_nd : tokNames.Nodup := by decide +kernel
theorem gnames_ok : ∀ z ∈ allNames, accD (.str z) = true ∧ z.length ≤ 20 ∧ PyData.strOk z = true := by decide +kernel
/-- what is drawn -/
structure CfgOk (c : Parts) (gs : Gs) : Prop where
  ok : c.Ok
  ne : c.toks ≠ []
  tn : ∀ t ∈ c.toks, t.name ∈ tokNames
  th : ∀ t ∈ c.toks, t.home ∈ sideNames
  ts : ∀ t ∈ c.toks, t.scale ≤ 1000
  tl : c.toks.length ≤ 3
  gd : Drawn gs
  ba : ∀ b ∈ c.bals, b.acc ∈ accNames ∨ (gs[0]?).map (·.1) = some b.acc
  bm : ∀ b ∈ c.bals, b.amt ≤ 1000000
  bl : c.bals.length ≤ 10
  d : c.depth ≤ 3
  w : c.window ≤ 4
  y : c.delay ≤ 3
  u : c.bundle ≤ 3
def partKvs (tl bl g : Addr) (c : Parts) : List (Key × V) := [(Sum.inr "tokens", .ref tl), (Sum.inr "balances", .ref bl), (Sum.inr "guards", .ref g), (Sum.inr "depth", .int c.depth), (Sum.inr "window", .int c.window), (Sum.inr "delay", .int c.delay), (Sum.inr "bundle", .int c.bundle)]
theorem part_nd (tl bl g : Addr) (c : Parts) : ((partKvs tl bl g c).map (·.1)).Nodup := by
  show ([Sum.inr "tokens", Sum.inr "balances", Sum.inr "guards", Sum.inr "depth", Sum.inr "window", Sum.inr "delay", Sum.inr "bundle"] : List Key).Nodup
  decide +kernel
structure PartsAt (H : Hp) (d : Addr) (c : Parts) (gs : Gs) (tl bl g : Addr) (tv bv gv : List V) : Prop where
  dict : H d = some (.dK (partKvs tl bl g c))
  tl : H tl = some (.lst tv)
  tr : RowsAt TokR.v H tv c.toks
  bl : H bl = some (.lst bv)
  br : RowsAt BalR.v H bv c.bals
  gt : H g = some (.tup gv)
  gp : PairsAt H gv gs
theorem PartsAt.same {H H' : Hp} {d : Addr} {c : Parts} {gs : Gs} {tl bl g : Addr} {tv bv gv : List V} (h : PartsAt H d c gs tl bl g tv bv gv) (e : Same H H') : PartsAt H' d c gs tl bl g tv bv gv :=
  ⟨e _ _ h.dict, e _ _ h.tl, h.tr.same e, e _ _ h.bl, h.br.same e, e _ _ h.gt, h.gp.same e⟩
def sp_Lconfig : Sp := fun vs H Q _ => ∃ (p l : Addr), vs = [.ref p] ∧ PotAt H p l ∧ ∀ (d : Addr) (c : Parts) (gs : Gs) (tl bl g : Addr) (tv bv gv : List V) (H' : Hp), H d = none → H tl = none → H bl = none → PartsAt H' d c gs tl bl g tv bv gv → CfgOk c gs → PotAt H' p l → Kp p H H' → Q (.ref d) H'
section
variable {P : Program} {w : World} {K : PySem.W.Frag} {mg : Str → Option Value} {base : Heap}
theorem ok_L_config (T : Txt K mg) : FnOk P w K mg base CX0 3 T.f_L_config T.d_L_config ["pot"] sp_Lconfig := by
  refine T.F_L_config.ok sc_L_config (fun vs H Q E h => ?_) (fun cdv A outer s H vs Q E hr h => ?_)
  · obtain ⟨p, l, rfl, _⟩ := h; rfl
  · obtain ⟨p, l, rfl, pot, k⟩ := h
    obtain ⟨po, hpo⟩ := pot.at
    refine ⟨_, (pss_cons (ps_set (i := 1) sc_L_config.nd rfl (Or.inl rfl) (pe_lst pa_nil))
      (pss_cons (ps_for PassesOwn.never rfl (pi_list (pe_slice sl_list (pe_lst (pa_cons pe_str (pa_cons pe_str (pa_cons pe_str pa_nil)))) po_none (po_some (pe_op op_add pe_int (pe_call (ok_L_next T) (hr.mono (by decide)) (by rfl) T.g_L_next T.F_L_next.kp T.b_L_next .nil pass0 (pa_cons (pv 0) (pa_cons pe_int pa_nil))))))) (pg_name (i := 2) sc_L_config.nd rfl (Or.inl rfl))
        (pss_one (ps_expr (pe_bm PySem.F.plainAttrs_list PySem.F.slot_list_append PySem.F.type_list_append mt_append (pv 1) (pa_cons (pe_tup (pa_cons (pv 2) (pa_cons (pe_ix ix_list (pe_lst (pa_cons pe_str (pa_cons pe_str pa_nil))) (pe_call (ok_L_next T) (hr.mono (by decide)) (by rfl) T.g_L_next T.F_L_next.kp T.b_L_next .nil pass0 (pa_cons (pv 0) (pa_cons pe_int pa_nil))) (fun _ _ => rfl)) (pa_cons (pe_ix ix_list (pe_lst (pa_cons pe_int (pa_cons pe_int (pa_cons pe_int (pa_cons pe_int pa_nil))))) (pe_call (ok_L_next T) (hr.mono (by decide)) (by rfl) T.g_L_next T.F_L_next.kp T.b_L_next .nil pass0 (pa_cons (pv 0) (pa_cons pe_int pa_nil))) (fun _ _ => rfl)) (pa_cons (pe_ix ix_list (pe_lst (pa_cons (pe_op op_pow pe_int pe_int) (pa_cons (pe_op op_pow pe_int pe_int) (pa_cons pe_int (pa_cons pe_int pa_nil))))) (pe_call (ok_L_next T) (hr.mono (by decide)) (by rfl) T.g_L_next T.F_L_next.kp T.b_L_next .nil pass0 (pa_cons (pv 0) (pa_cons pe_int pa_nil))) (fun _ _ => rfl)) (pa_cons (pe_ix ix_list (pe_lst (pa_cons (pe_op op_pow pe_int pe_int) (pa_cons pe_int (pa_cons pe_int (pa_cons pe_int pa_nil))))) (pe_call (ok_L_next T) (hr.mono (by decide)) (by rfl) T.g_L_next T.F_L_next.kp T.b_L_next .nil pass0 (pa_cons (pv 0) (pa_cons pe_int pa_nil))) (fun _ _ => rfl)) pa_nil)))))) pa_nil)))))
      (pss_cons (ps_set (i := 3) sc_L_config.nd rfl (Or.inl rfl) (pe_lst pa_nil))
      (pss_cons (ps_for PassesOwn.never rfl (pi_list (pe_lst (pa_cons pe_str (pa_cons pe_str (pa_cons pe_str pa_nil))))) (pg_name (i := 4) sc_L_config.nd rfl (Or.inl rfl))
        (pss_one (ps_for PassesOwn.never rfl (pi_list (pv 1)) (pg_name (i := 6) sc_L_config.nd rfl (Or.inl rfl))
        (pss_one (ps_expr (pe_bm PySem.F.plainAttrs_list PySem.F.slot_list_append PySem.F.type_list_append mt_append (pv 3) (pa_cons (pe_tup (pa_cons (pv 4) (pa_cons (pe_ix ix_tup (pv 6) pe_int (fun _ _ => rfl)) (pa_cons (pe_ix ix_list (pe_lst (pa_cons pe_int (pa_cons pe_int (pa_cons pe_int (pa_cons pe_int (pa_cons (pe_op op_pow pe_int pe_int) pa_nil)))))) (pe_call (ok_L_next T) (hr.mono (by decide)) (by rfl) T.g_L_next T.F_L_next.kp T.b_L_next .nil pass0 (pa_cons (pv 0) (pa_cons pe_int pa_nil))) (fun _ _ => rfl)) pa_nil)))) pa_nil)))))))
      (pss_cons (ps_set (i := 5) sc_L_config.nd rfl (Or.inl rfl) (pe_call (ok_L_set T) (hr.mono (by decide)) (by rfl) T.g_L_set T.F_L_set.kp T.b_L_set .nil pass0 (pa_cons (pv 0) (pa_cons pe_int pa_nil))))
      (pss_cons (ps_expr (pe_bm PySem.F.plainAttrs_list PySem.F.slot_list_append PySem.F.type_list_append mt_append (pv 3) (pa_cons (pe_tup (pa_cons (pe_ix ix_tup (pe_ix ix_tup (pv 5) pe_int (fun _ _ => rfl)) pe_int (fun _ _ => rfl)) (pa_cons (pe_ix ix_tup (pe_ix ix_list (pv 1) pe_int (fun _ _ => rfl)) pe_int (fun _ _ => rfl)) (pa_cons pe_int pa_nil)))) pa_nil)))
      (pss_one (ps_ret (pe_disp (pps_cons pe_str (pv 1) (pps_cons pe_str (pv 3) (pps_cons pe_str (pv 5) (pps_cons pe_str (pe_op op_add pe_int (pe_call (ok_L_next T) (hr.mono (by decide)) (by rfl) T.g_L_next T.F_L_next.kp T.b_L_next .nil pass0 (pa_cons (pv 0) (pa_cons pe_int pa_nil)))) (pps_cons pe_str (pe_op op_add pe_int (pe_call (ok_L_next T) (hr.mono (by decide)) (by rfl) T.g_L_next T.F_L_next.kp T.b_L_next .nil pass0 (pa_cons (pv 0) (pa_cons pe_int pa_nil)))) (pps_cons pe_str (pe_call (ok_L_next T) (hr.mono (by decide)) (by rfl) T.g_L_next T.F_L_next.kp T.b_L_next .nil pass0 (pa_cons (pv 0) (pa_cons pe_int pa_nil))) (pps_cons pe_str (pe_op op_add pe_int (pe_call (ok_L_next T) (hr.mono (by decide)) (by rfl) T.g_L_next T.F_L_next.kp T.b_L_next .nil pass0 (pa_cons (pv 0) (pa_cons pe_int pa_nil)))) pps_nil))))))) (by rfl) (by rfl) (fun z => by cases z) (by decide)))))))))), ?_⟩
    (dsimp only [cxOf, Cx.nox, Cx.wish, L2.start, List.map, List.length, List.replicate, List.cons_append, List.nil_append, List.append_eq, Nat.reduceSub, Nat.reduceAdd])
    walk_at "my_rd"
    refine q_lstK (Nat.le_of_ble_eq_true rfl) fun TL nTL => ?_
    walk_at "my_rd"
    refine q_lstK (Nat.le_of_ble_eq_true rfl) fun NM nNM => ?_
    walk_at "my_rd"
    have nTLp : TL ≠ p := pot.nep nTL
    have nTLl : TL ≠ l := pot.nel nTL
    have pot1 : PotAt (upd (upd H TL (.lst [])) NM (.lst [.str "coin", .str "gold", .str "iron"])) p l := (pot.new nTL).new nNM
    have nNMp : NM ≠ p := (pot.new nTL).nep nNM
    refine ⟨p, l, 3, rfl, pot1, by omega, by omega, fun r H1 r0 r1 pot1 kp1 => ?_⟩
    have hTL1 : H1 TL = some (.lst []) := Kp.get kp1 (upd_new nNM upd_same) nTLp
    have hNM1 : H1 NM = some (.lst (tokNames.map V.str)) := Kp.get kp1 upd_same nNMp
    have kp01 : Kp p H H1 := Kp.trans (Same.kp (Same.up (Same.up (Same.refl _) nTL) nNM)) kp1
    walk_at "my_rd"
    refine q_slL (sqL hNM1) fun SL nSL => ?_
    have er : 1 + r = ((r.toNat + 1 : Nat) : Int) := by omega
    rw [er, cut_take (by rw [List.length_map]; show r.toNat + 1 ≤ 3; omega), ← List.map_take]
    have hlen : (tokNames.take (r.toNat + 1)).length = r.toNat + 1 := by rw [List.length_take]; show min (r.toNat + 1) 3 = _; omega
    generalize hH2 : upd H1 SL _ = H2
    have nSLp : SL ≠ p := pot1.nep nSL
    have nSLTL : TL ≠ SL := ne_of_none hTL1 nSL
    have hSL2 : H2 SL = some (.lst ((tokNames.take (r.toNat + 1)).map V.str)) := by rw [← hH2]; exact upd_same
    have hTL2 : H2 TL = some (.lst []) := by rw [← hH2]; exact upd_new nSL hTL1
    have pot2 : PotAt H2 p l := by rw [← hH2]; exact pot1.new nSL
    have kp02 : Kp p H H2 := by rw [← hH2]; exact Kp.new kp01 (Kp.fresh kp01 hpo nSL nSLp)
    walk_at "my_rd"
    refine q_forL (sqL hSL2) (fun i σ H' => ∃ (tv : List V) (ts : List TokR) (nv : Option V), σ = [some (.ref p), some (.ref TL), nv, none, none, none, none] ∧ H' TL = some (.lst tv) ∧ RowsAt TokR.v H' tv ts ∧ ts.map TokR.name = (tokNames.take (r.toNat + 1)).take i ∧ (∀ t ∈ ts, t.Ok) ∧ (∀ t ∈ ts, t.home ∈ sideNames) ∧ (∀ t ∈ ts, t.scale ≤ 1000) ∧
        H' SL = some (.lst ((tokNames.take (r.toNat + 1)).map V.str)) ∧ PotAt H' p l ∧ Kp p H H')
      ⟨[], [], none, rfl, hTL2, RowsAt.nil, rfl, by simp, by simp, by simp, hSL2, pot2, kp02⟩ (fun i σ H' _ ⟨_, _, _, _, _, _, _, _, _, _, h, _⟩ => sqL h) ?_ ?_
    · rintro i v σ H3 hv ⟨tv, ts, nv, rfl, hTL3, hR3, hnm, hok, hho, hsc, hSL3, pot3, kp3⟩
      have hi : i < r.toNat + 1 := by
        have := (List.getElem?_eq_some_iff.mp hv).1
        rw [List.length_map, hlen] at this
        exact this
      obtain ⟨nme, hnme, rfl⟩ : ∃ s, (tokNames.take (r.toNat + 1))[i]? = some s ∧ v = .str s := by
        rw [List.getElem?_map] at hv
        cases q : (tokNames.take (r.toNat + 1))[i]? with
        | none => rw [q] at hv; cases hv
        | some s => rw [q] at hv; exact ⟨s, rfl, (Option.some.inj hv).symm⟩
      have hmem : nme ∈ tokNames := List.mem_of_mem_take (List.mem_of_getElem? hnme)
      have hlts : ts.length = i := by
        have := congrArg List.length hnm
        rw [List.length_map, List.length_take, hlen] at this
        omega
      walk_at "my_rd"
      refine q_lstK (Nat.le_of_ble_eq_true rfl) fun M1 nM1 => ?_
      walk_at "my_rd"
      refine ⟨p, l, 2, rfl, pot3.new nM1, by omega, by omega, fun a1 H4 x0 x1 pot4 kp4 => ?_⟩
      obtain ⟨ho, hho1, hmho⟩ := menuS (ss := sideNames) x0 (by show a1 < 2; omega)
      have kp14 : Kp p H3 H4 := Kp.trans (Same.kp (Same.up (Same.refl _) nM1)) kp4
      walk_at "my_rd"
      refine q_ixLt (Kp.get kp4 upd_same (pot3.nep nM1)) hho1 ?_
      walk_at "my_rd"
      refine q_lstK (Nat.le_of_ble_eq_true rfl) fun M2 nM2 => ?_
      walk_at "my_rd"
      refine ⟨p, l, 4, rfl, pot4.new nM2, by omega, by omega, fun a2 H5 x2 x3 pot5 kp5 => ?_⟩
      obtain ⟨sc, hsc1, hmsc⟩ := menuI (ss := scales) x2 (by show a2 < 4; omega)
      have kp15 : Kp p H3 H5 := Kp.trans kp14 (Kp.trans (Same.kp (Same.up (Same.refl _) nM2)) kp5)
      walk_at "my_rd"
      refine q_ixLt (Kp.get kp5 upd_same (pot4.nep nM2)) hsc1 ?_
      walk_at "my_rd"
      refine q_lstK (Nat.le_of_ble_eq_true rfl) fun M3 nM3 => ?_
      walk_at "my_rd"
      refine ⟨p, l, 4, rfl, pot5.new nM3, by omega, by omega, fun a3 H6 x4 x5 pot6 kp6 => ?_⟩
      obtain ⟨li, hli1, hmli⟩ := menuI (ss := limits) x4 (by show a3 < 4; omega)
      have kp16 : Kp p H3 H6 := Kp.trans kp15 (Kp.trans (Same.kp (Same.up (Same.refl _) nM3)) kp6)
      walk_at "my_rd"
      refine q_ixLt (Kp.get kp6 upd_same (pot5.nep nM3)) hli1 ?_
      walk_at "my_rd"
      refine q_lstK (Nat.le_of_ble_eq_true rfl) fun M4 nM4 => ?_
      walk_at "my_rd"
      refine ⟨p, l, 4, rfl, pot6.new nM4, by omega, by omega, fun a4 H7 x6 x7 pot7 kp7 => ?_⟩
      obtain ⟨la, hla1, hmla⟩ := menuI (ss := larges) x6 (by show a4 < 4; omega)
      have kp17 : Kp p H3 H7 := Kp.trans kp16 (Kp.trans (Same.kp (Same.up (Same.refl _) nM4)) kp7)
      have kp07 : Kp p H H7 := Kp.trans kp3 kp17
      walk_at "my_rd"
      refine q_ixLt (Kp.get kp7 upd_same (pot6.nep nM4)) hla1 ?_
      walk_at "my_rd"
      refine q_tupK (Nat.le_of_ble_eq_true rfl) fun U nU => ?_
      walk_at "my_rd"
      have hTL7 : H7 TL = some (.lst tv) := Kp.get kp17 hTL3 nTLp
      have hSL7 := Kp.get kp17 hSL3 nSLp
      have nTLU : TL ≠ U := ne_of_none hTL7 nU
      have hU0 := Kp.fresh kp07 hpo nU (pot7.nep nU)
      refine q_append (upd_new nU hTL7) (by rw [hR3.len, hlts]; exact small1000 (by omega)) ?_
      walk_at "my_rd"
      have hR7 : RowsAt TokR.v (upd H7 U (.tup [.str nme, .str ho, .int sc, .int li, .int la])) (tv ++ [.ref U]) (ts ++ [⟨nme, ho, sc, li, la⟩]) := ((hR3.pot pot3 kp17).new nU).snoc upd_same
      refine ⟨tv ++ [.ref U], ts ++ [⟨nme, ho, sc, li, la⟩], _, rfl, upd_same, hR7.updL (upd_new nU hTL7), ?_, ?_, ?_, ?_, upd_other nSLTL.symm (upd_new nU hSL7), (pot7.new nU).upd nTLp nTLl, Kp.new (Kp.new kp07 hU0) nTL⟩
      · rw [List.map_append, hnm, take_snoc hnme]
        rfl
      · intro t ht
        rcases List.mem_append.mp ht with h | h
        · exact hok t h
        · rw [List.mem_singleton.mp h]
          exact ⟨(tokNames_ok _ hmem).1, (tokNames_ok _ hmem).2, sideNames_ok _ hmho, (scales_ok _ hmsc).1, limits_ok _ hmli, larges_ok _ hmla⟩
      · intro t ht
        rcases List.mem_append.mp ht with h | h
        · exact hho t h
        · rw [List.mem_singleton.mp h]; exact hmho
      · intro t ht
        rcases List.mem_append.mp ht with h | h
        · exact hsc t h
        · rw [List.mem_singleton.mp h]; exact (scales_ok _ hmsc).2
    · rintro σ H3 ⟨tv, ts, nv, rfl, hTL3, hR3, hnm, hok, hho, hsc, hSL3, pot3, kp3⟩
      have hnm2 : ts.map TokR.name = tokNames.take (r.toNat + 1) := by
        rw [hnm]
        exact List.take_of_length_le (by rw [List.length_map]; exact Nat.le_refl _)
      have hlts : ts.length = r.toNat + 1 := by
        have := congrArg List.length hnm2
        rw [List.length_map, hlen] at this
        exact this
      walk_at "my_rd"
      refine q_lstK (Nat.le_of_ble_eq_true rfl) fun BL nBL => ?_
      walk_at "my_rd"
      have nBLp : BL ≠ p := pot3.nep nBL
      have nBLl : BL ≠ l := pot3.nel nBL
      have nTLBL : TL ≠ BL := ne_of_none hTL3 nBL
      have hBL0 := Kp.fresh kp3 hpo nBL nBLp
      refine q_lstK (Nat.le_of_ble_eq_true rfl) fun AC nAC => ?_
      walk_at "my_rd"
      have nBLAC : BL ≠ AC := ne_of_none upd_same nAC
      have nTLAC : TL ≠ AC := ne_of_none (upd_new nBL hTL3) nAC
      generalize hH4 : upd (upd H3 BL _) AC _ = H4
      have hAC4 : H4 AC = some (.lst (accNames.map V.str)) := by rw [← hH4]; exact upd_same
      have hBL4 : H4 BL = some (.lst []) := by rw [← hH4]; exact upd_new nAC upd_same
      have hTL4 : H4 TL = some (.lst tv) := by rw [← hH4]; exact upd_new nAC (upd_new nBL hTL3)
      have pot4 : PotAt H4 p l := by rw [← hH4]; exact (pot3.new nBL).new nAC
      have nACp : AC ≠ p := (pot3.new nBL).nep nAC
      have sm4 : Same H3 H4 := by rw [← hH4]; (repeat first | (with_reducible exact Same.refl _) | (with_reducible assumption) | (with_reducible refine Same.up ?_ (by assumption)) | (with_reducible refine' Same.trans ?_ (by assumption)))
      have kp4 : Kp p H H4 := Kp.trans kp3 (Same.kp sm4)
      have hR4 : RowsAt TokR.v H4 tv ts := hR3.same sm4
      clear hH4
      refine q_forL (sqL hAC4) (fun i σ H' => ∃ (bv : List V) (bs : List BalR) (av tkv : Option V), σ = [some (.ref p), some (.ref TL), nv, some (.ref BL), av, none, tkv] ∧ H' BL = some (.lst bv) ∧ RowsAt BalR.v H' bv bs ∧ bs.length ≤ i * ts.length ∧ (∀ b ∈ bs, b.Ok ts) ∧ (∀ b ∈ bs, b.acc ∈ accNames) ∧ (∀ b ∈ bs, b.amt ≤ 1000000) ∧
          H' AC = some (.lst (accNames.map V.str)) ∧ H' TL = some (.lst tv) ∧ RowsAt TokR.v H' tv ts ∧ PotAt H' p l ∧ Kp p H H')
        ⟨[], [], _, _, rfl, hBL4, RowsAt.nil, by simp, by simp, by simp, by simp, hAC4, hTL4, hR4, pot4, kp4⟩ (fun i σ H' _ ⟨_, _, _, _, _, _, _, _, _, _, _, h, _⟩ => sqL h) ?_ ?_
      · rintro i v σ H5 hv ⟨bv, bs, av, tkv, rfl, hBL5, hB5, hbl, hbok, hba, hbm, hAC5, hTL5, hR5, pot5, kp5⟩
        obtain ⟨ac, hac, rfl⟩ : ∃ s, accNames[i]? = some s ∧ v = .str s := by
          rw [List.getElem?_map] at hv
          cases q : accNames[i]? with
          | none => rw [q] at hv; cases hv
          | some s => rw [q] at hv; exact ⟨s, rfl, (Option.some.inj hv).symm⟩
        have hacm := List.mem_of_getElem? hac
        have hi3 : i < 3 := (List.getElem?_eq_some_iff.mp hac).1
        walk_at "my_rd"
        refine q_forL (sqL hTL5) (fun j σ H' => ∃ (bv : List V) (bs : List BalR) (tkv : Option V), σ = [some (.ref p), some (.ref TL), nv, some (.ref BL), some (.str ac), none, tkv] ∧ H' BL = some (.lst bv) ∧ RowsAt BalR.v H' bv bs ∧ bs.length ≤ i * ts.length + j ∧ (∀ b ∈ bs, b.Ok ts) ∧ (∀ b ∈ bs, b.acc ∈ accNames) ∧ (∀ b ∈ bs, b.amt ≤ 1000000) ∧
            H' AC = some (.lst (accNames.map V.str)) ∧ H' TL = some (.lst tv) ∧ RowsAt TokR.v H' tv ts ∧ PotAt H' p l ∧ Kp p H H')
          ⟨bv, bs, _, rfl, hBL5, hB5, hbl, hbok, hba, hbm, hAC5, hTL5, hR5, pot5, kp5⟩ (fun i σ H' _ ⟨_, _, _, _, _, _, _, _, _, _, _, h, _⟩ => sqL h) ?_ ?_
        · rintro j v σ H6 hv ⟨bv, bs, tkv, rfl, hBL6, hB6, hbl, hbok, hba, hbm, hAC6, hTL6, hR6, pot6, kp6⟩
          obtain ⟨t, tr, ht, rfl, htr0⟩ := hR6.item hv
          have htr : H6 tr = some (.tup [.str t.name, .str t.home, .int t.scale, .int t.limit, .int t.large]) := htr0
          have htm := List.mem_of_getElem? ht
          have hj : j < ts.length := (List.getElem?_eq_some_iff.mp ht).1
          walk_at "my_rd"
          refine q_lstK (Nat.le_of_ble_eq_true rfl) fun M1 nM1 => ?_
          walk_at "my_rd"
          refine ⟨p, l, 5, rfl, pot6.new nM1, by omega, by omega, fun a1 H7 x0 x1 pot7 kp7 => ?_⟩
          obtain ⟨am, ham1, hmam⟩ := menuI (ss := amounts) x0 (by show a1 < 5; omega)
          have kp17 : Kp p H6 H7 := Kp.trans (Same.kp (Same.up (Same.refl _) nM1)) kp7
          have kp07 : Kp p H H7 := Kp.trans kp6 kp17
          walk_at "my_rd"
          refine q_ixLt (Kp.get kp7 upd_same (pot6.nep nM1)) ham1 ?_
          walk_at "my_rd"
          refine q_tupK (Nat.le_of_ble_eq_true rfl) fun U nU => ?_
          walk_at "my_rd"
          have hBL7 : H7 BL = some (.lst bv) := Kp.get kp17 hBL6 nBLp
          have hTL7 : H7 TL = some (.lst tv) := Kp.get kp17 hTL6 nTLp
          have hAC7 := Kp.get kp17 hAC6 nACp
          have hU0 := Kp.fresh kp07 hpo nU (pot7.nep nU)
          have hbnd : i * ts.length ≤ 9 := by
            have h1 : ts.length ≤ 3 := by omega
            have := Nat.mul_le_mul (show i ≤ 3 by omega) h1
            omega
          refine q_append (upd_new nU hBL7) (by rw [hB6.len]; exact small1000 (by omega)) ?_
          walk_at "my_rd"
          have hB7 : RowsAt BalR.v (upd H7 U (.tup [.str ac, .str t.name, .int am])) (bv ++ [.ref U]) (bs ++ [⟨ac, t.name, am⟩]) := ((hB6.pot pot6 kp17).new nU).snoc upd_same
          refine ⟨bv ++ [.ref U], bs ++ [⟨ac, t.name, am⟩], _, rfl, upd_same, hB7.updL (upd_new nU hBL7), by rw [List.length_append]; show bs.length + 1 ≤ _; omega, ?_, ?_, ?_, upd_other nBLAC.symm (upd_new nU hAC7), upd_other nTLBL (upd_new nU hTL7), ((hR6.pot pot6 kp17).new nU).updL (upd_new nU hBL7), (pot7.new nU).upd nBLp nBLl, Kp.new (Kp.new kp07 hU0) hBL0⟩
          · intro b hb
            rcases List.mem_append.mp hb with h | h
            · exact hbok b h
            · rw [List.mem_singleton.mp h]
              exact ⟨(accNames_ok _ hacm).1, (accNames_ok _ hacm).2, (hok t htm).n, (hok t htm).nl, List.mem_map.mpr ⟨t, htm, rfl⟩, (amounts_ok _ hmam).1⟩
          · intro b hb
            rcases List.mem_append.mp hb with h | h
            · exact hba b h
            · rw [List.mem_singleton.mp h]; exact hacm
          · intro b hb
            rcases List.mem_append.mp hb with h | h
            · exact hbm b h
            · rw [List.mem_singleton.mp h]; exact (amounts_ok _ hmam).2
        · rintro σ H6 ⟨bv, bs, tkv, rfl, hBL6, hB6, hbl, hbok, hba, hbm, hAC6, hTL6, hR6, pot6, kp6⟩
          walk_at "my_rd"
          refine ⟨bv, bs, _, _, rfl, hBL6, hB6, ?_, hbok, hba, hbm, hAC6, hTL6, hR6, pot6, kp6⟩
          rw [hR5.len] at hbl
          rw [Nat.succ_mul]
          exact hbl
      · rintro σ H5 ⟨bv, bs, av, tkv, rfl, hBL5, hB5, hbl, hbok, hba, hbm, hAC5, hTL5, hR5, pot5, kp5⟩
        walk_at "my_rd"
        refine ⟨p, l, 5, rfl, pot5, by omega, by omega, fun g gv gs H6 ng hg6 hP6 hD _ pot6 kp6 => ?_⟩
        have kp06 := Kp.trans kp5 kp6
        have hBL6 : H6 BL = some (.lst bv) := Kp.get kp6 hBL5 nBLp
        have hTL6 : H6 TL = some (.lst tv) := Kp.get kp6 hTL5 nTLp
        have hB6 := hB5.pot pot5 kp6
        have hR6 := hR5.pot pot5 kp6
        obtain ⟨g0, hg0⟩ : ∃ g0, gs[0]? = some g0 := by
          cases gs with
          | nil => exact absurd rfl hD.ne
          | cons a _ => exact ⟨a, rfl⟩
        obtain ⟨t0, ht0⟩ : ∃ t0, ts[0]? = some t0 := by
          cases ts with
          | nil => simp at hlts
          | cons a _ => exact ⟨a, rfl⟩
        obtain ⟨ga, hga, hgt⟩ := hP6.at_ 0 g0 hg0
        obtain ⟨ta, hta, htt⟩ := hR6.at_ 0 t0 ht0
        have htt : H6 ta = some (.tup [.str t0.name, .str t0.home, .int t0.scale, .int t0.limit, .int t0.large]) := htt
        have hgm := List.mem_of_getElem? hg0
        have htm := List.mem_of_getElem? ht0
        walk_at "my_rd"
        refine q_ixTt hg6 (at_int (n := 0) rfl hga) ?_
        walk_at "my_rd"
        refine q_ixLt hTL6 (at_int (n := 0) rfl hta) ?_
        walk_at "my_rd"
        refine q_tupK (Nat.le_of_ble_eq_true rfl) fun U nU => ?_
        walk_at "my_rd"
        have hU0 := Kp.fresh kp06 hpo nU (pot6.nep nU)
        have hbnd : bs.length ≤ 9 := by
          have h1 : ts.length ≤ 3 := by omega
          have := Nat.mul_le_mul (show accNames.length ≤ 3 from Nat.le_refl _) h1
          rw [List.length_map] at hbl
          omega
        refine q_append (upd_new nU hBL6) (by rw [hB6.len]; exact small1000 (by omega)) ?_
        walk_at "my_rd"
        generalize hH7 : upd (upd H6 U _) BL _ = H7
        have hB7 : RowsAt BalR.v H7 (bv ++ [.ref U]) (bs ++ [⟨g0.1, t0.name, 60⟩]) := by
          rw [← hH7]
          exact ((hB6.new nU).snoc (r := ⟨g0.1, t0.name, 60⟩) upd_same).updL (upd_new nU hBL6)
        have hBL7 : H7 BL = some (.lst (bv ++ [.ref U])) := by rw [← hH7]; exact upd_same
        have hTL7 : H7 TL = some (.lst tv) := by rw [← hH7]; exact upd_other nTLBL (upd_new nU hTL6)
        have hR7 : RowsAt TokR.v H7 tv ts := by rw [← hH7]; exact (hR6.new nU).updL (upd_new nU hBL6)
        have hg7 : H7 g = some (.tup gv) := by rw [← hH7]; exact upd_other (ne_of hg6 hBL6 (by intro z; cases z)) (upd_new nU hg6)
        have hP7 : PairsAt H7 gv gs := by rw [← hH7]; exact (hP6.new nU).updL (upd_new nU hBL6)
        have pot7 : PotAt H7 p l := by rw [← hH7]; exact (pot6.new nU).upd nBLp nBLl
        have kp7 : Kp p H H7 := by rw [← hH7]; exact Kp.new (Kp.new kp06 hU0) hBL0
        clear hH7
        refine q_disp fun d nd => ?_
        have ndp : d ≠ p := pot7.nep nd
        have hd0 := Kp.fresh kp7 hpo nd ndp
        generalize hH8 : upd H7 d (.dK []) = H8
        have hd8 : H8 d = some (.dK []) := by rw [← hH8]; exact upd_same
        have sm8 : Same H7 H8 := by rw [← hH8]; exact Same.new (Same.refl _) nd
        have pot8 := pot7.same sm8
        have kp8 : Kp p H H8 := Kp.trans kp7 (Same.kp sm8)
        clear hH8
        walk_at "my_rd"
        refine ⟨p, l, 3, rfl, pot8, by omega, by omega, fun de H9 e0 e1 pot9 kp9 => ?_⟩
        walk_at "my_rd"
        refine ⟨p, l, 4, rfl, pot9, by omega, by omega, fun wi H10 e2 e3 pot10 kp10 => ?_⟩
        walk_at "my_rd"
        refine ⟨p, l, 4, rfl, pot10, by omega, by omega, fun dy H11 e4 e5 pot11 kp11 => ?_⟩
        walk_at "my_rd"
        refine ⟨p, l, 3, rfl, pot11, by omega, by omega, fun bu H12 e6 e7 pot12 kp12 => ?_⟩
        walk_at "my_rd"
        have kp812 : Kp p H8 H12 := Kp.trans kp9 (Kp.trans kp10 (Kp.trans kp11 kp12))
        have hd12 : H12 d = some (.dK []) := Kp.get kp812 hd8 ndp
        have nTLd : TL ≠ d := ne_of_none hTL7 nd
        have nBLd : BL ≠ d := ne_of_none hBL7 nd
        have ngp : g ≠ p := by
          obtain ⟨_, _, _, _, q1, _⟩ := pot7
          exact ne_of hg7 q1 (by intro z; cases z)
        refine q_dispK (kvs := partKvs TL BL g ⟨ts, bs ++ [⟨g0.1, t0.name, 60⟩], 1 + de, 1 + wi, dy, 1 + bu⟩) hd12 rfl (by show 7 ≤ 15; decide) (part_nd _ _ _ _) ?_
        walk_at "my_rd"
        have tupd : ∀ b ys, H7 b = some (HO.tup ys) → upd H12 d (.dK (partKvs TL BL g ⟨ts, bs ++ [⟨g0.1, t0.name, 60⟩], 1 + de, 1 + wi, dy, 1 + bu⟩)) b = some (.tup ys) := fun b ys q => upd_other (ne_of_none q nd) (kp812.tup pot8 (sm8 _ _ q))
        refine k d ⟨ts, bs ++ [⟨g0.1, t0.name, 60⟩], 1 + de, 1 + wi, dy, 1 + bu⟩ gs TL BL g tv (bv ++ [.ref U]) gv _ hd0 nTL hBL0
          ⟨upd_same, upd_other nTLd (Kp.get kp812 (sm8 _ _ hTL7) nTLp), hR7.mono tupd, upd_other nBLd (Kp.get kp812 (sm8 _ _ hBL7) nBLp), hB7.mono tupd, tupd _ _ hg7, hP7.mono tupd⟩ ?_
          (pot12.upd ndp (pot7.nel nd)) (Kp.new (Kp.trans kp8 kp812) hd0)
        obtain ⟨ga1, ga2, ga3⟩ := gnames_ok _ (hD.nms g0 hgm)
        refine ⟨⟨hok, ?_, by show ts.length ≤ 1000; omega, ?_, by show (bs ++ [_]).length ≤ 1000; rw [List.length_append]; show bs.length + 1 ≤ 1000; omega, by show 1 ≤ 1 + de; omega, by show 1 ≤ 1 + wi; omega, e4, by show 1 ≤ 1 + bu; omega, by show 1 + bu ≤ 8; omega⟩, ?_, ?_, hho, hsc, by show ts.length ≤ 3; omega, hD, ?_, ?_, by show (bs ++ [_]).length ≤ 10; rw [List.length_append]; show bs.length + 1 ≤ 10; omega, by show 1 + de ≤ 3; omega, by show 1 + wi ≤ 4; omega, by show dy ≤ 3; omega, by show 1 + bu ≤ 3; omega⟩
        · show (ts.map TokR.name).Nodup
          rw [hnm2]
          exact (List.take_sublist _ _).nodup tokNames_nd
        · intro b hb
          rcases List.mem_append.mp hb with h | h
          · exact hbok b h
          · rw [List.mem_singleton.mp h]
            exact ⟨ga1, ga2, (hok t0 htm).n, (hok t0 htm).nl, List.mem_map.mpr ⟨t0, htm, rfl⟩, by show (0 : Int) ≤ 60; omega⟩
        · show ts ≠ []
          rintro rfl
          simp at hlts
        · intro t ht
          have : t.name ∈ ts.map TokR.name := List.mem_map.mpr ⟨t, ht, rfl⟩
          rw [hnm2] at this
          exact List.mem_of_mem_take this
        · intro b hb
          rcases List.mem_append.mp hb with h | h
          · exact .inl (hba b h)
          · rw [List.mem_singleton.mp h]; exact .inr (by rw [hg0]; rfl)
        · intro b hb
          rcases List.mem_append.mp hb with h | h
          · exact hbm b h
          · rw [List.mem_singleton.mp h]; show (60 : Int) ≤ 1000000; omega
end

/-! the Config of the law's configuration -/
def prd (g : Str × Int) : PyData := .tuple [.str g.1, .int g.2]
theorem PairsAt.tail {H : Hp} {x : V} {xs : List V} {g : Str × Int} {gs : Gs} (h : PairsAt H (x :: xs) (g :: gs)) : PairsAt H xs gs :=
  ⟨by have := h.len; simpa using this, fun i g' hg => by have := h.at_ (i + 1) g' (by simpa using hg); simpa using this⟩
theorem PairsAt.tall {K : PySem.W.Frag} {H : Hp} : ∀ {xs : List V} {gs : Gs}, PairsAt H xs gs → TupAll K H xs (gs.map prd)
  | [], [], _ => .nil
  | [], g :: gs, h => by have := h.len; simp at this
  | x :: xs, [], h => by have := h.len; simp at this
  | x :: xs, g :: gs, h => by
    obtain ⟨a, e, ha⟩ := h.at_ 0 g rfl
    have e : x = .ref a := Option.some.inj e
    subst e
    exact .cons (.tup ha (.cons (.str _) (.cons (.int _) .nil))) h.tail.tall
theorem Drawn.set {gs : Gs} (h : Drawn gs) : setD (.tuple (gs.map prd)) = true := by
  have h1 : (gs.map prd).isEmpty = false := by
    cases gs with
    | nil => exact absurd rfl h.ne
    | cons _ _ => rfl
  have h2 : (gs.map prd).all pairD = true := by
    rw [List.all_eq_true]
    intro d hd
    obtain ⟨g, hg, rfl⟩ := List.mem_map.mp hd
    show (accD (.str g.1) && leastD 1 (.int g.2)) = true
    rw [(gnames_ok _ (h.nms g hg)).1, Bool.true_and]
    exact decide_eq_true (h.pos g hg)
  have h3 : ((gs.map prd).map nameS) = gs.map (·.1) := by
    rw [List.map_map]
    rfl
  show (!(gs.map prd).isEmpty && ((gs.map prd).all pairD && decide (((gs.map prd).map nameS).Nodup))) = true
  rw [h1, h2, h3, decide_eq_true h.nd]
  rfl
theorem fineS_pairs {gs : Gs} (h : Drawn gs) : FineS (.tuple (gs.map prd)) := by
  intro ds e
  injection e with e
  subst e
  refine ⟨by rw [List.length_map]; have := h.few; omega, fun x hx => ?_⟩
  obtain ⟨g, hg, rfl⟩ := List.mem_map.mp hx
  intro a b e
  injection e with e
  injection e with e1 e
  injection e with e2 e
  subst e1 e2
  exact ⟨by show g.1.length ≤ 100000; have := (gnames_ok _ (h.nms g hg)).2.1; omega, trivial⟩
def sp_Lmade (C : Addr) : Sp := fun vs H Q _ => ∃ (d : Addr) (c : Parts) (gs : Gs) (tl bl g : Addr) (tv bv gv : List V), vs = [.ref d] ∧ PartsAt H d c gs tl bl g tv bv gv ∧ CfgOk c gs ∧
  ∀ (x : Addr) (H' : Hp), H x = none → CfgAt C c g H' x → Same H H' → Q (.ref x) H'
section
variable {P : Program} {w : World} {K : PySem.W.Frag} {mg : Str → Option Value} {base : Heap}
theorem ok_L_made (T : Txt K mg) : FnOk P w K mg base CX0 8 T.f_L_made T.d_L_made ["parts"] (sp_Lmade T.C_Config) := by
  refine T.F_L_made.ok sc_L_made (fun vs H Q E h => ?_) (fun cdv A outer s H vs Q E hr h => ?_)
  · obtain ⟨d, c, gs, tl, bl, g, tv, bv, gv, rfl, _⟩ := h; rfl
  · obtain ⟨d, c, gs, tl, bl, g, tv, bv, gv, rfl, hp, hc, k⟩ := h
    have hu := hu_of hr
    refine ⟨_, (pss_one (ps_ret (pe_makeK0 T.mk_Config (ok_Config_init T) (hr.mono (by decide)) (by rfl) T.g_Config T.kb7_Config_init pass0 (pk_cons (pe_dget hu (pv 0) pe_str (fun _ _ => rfl)) (pk_cons (pe_dget hu (pv 0) pe_str (fun _ _ => rfl)) (pk_cons (pe_dget hu (pv 0) pe_str (fun _ _ => rfl)) (pk_cons (pe_dget hu (pv 0) pe_str (fun _ _ => rfl)) (pk_cons (pe_dget hu (pv 0) pe_str (fun _ _ => rfl)) (pk_cons (pe_dget hu (pv 0) pe_str (fun _ _ => rfl)) (pk_cons (pe_dget hu (pv 0) pe_str (fun _ _ => rfl)) pk_nil)))))))))), ?_⟩
    (dsimp only [cxOf, Cx.nox, Cx.wish, L2.start, List.map, List.length, List.replicate, List.cons_append, List.nil_append, List.append_eq, Nat.reduceSub, Nat.reduceAdd])
    walk_at "my_rd"
    refine q_dGetS hp.dict (by (repeat first | rfl | rw [valV_cons, if_pos rfl] | rw [valV_cons, if_neg (by decide +kernel)])) ?_
    walk_at "my_rd"
    refine q_dGetS hp.dict (by (repeat first | rfl | rw [valV_cons, if_pos rfl] | rw [valV_cons, if_neg (by decide +kernel)])) ?_
    walk_at "my_rd"
    refine q_dGetS hp.dict (by (repeat first | rfl | rw [valV_cons, if_pos rfl] | rw [valV_cons, if_neg (by decide +kernel)])) ?_
    walk_at "my_rd"
    refine q_dGetS hp.dict (by (repeat first | rfl | rw [valV_cons, if_pos rfl] | rw [valV_cons, if_neg (by decide +kernel)])) ?_
    walk_at "my_rd"
    refine q_dGetS hp.dict (by (repeat first | rfl | rw [valV_cons, if_pos rfl] | rw [valV_cons, if_neg (by decide +kernel)])) ?_
    walk_at "my_rd"
    refine q_dGetS hp.dict (by (repeat first | rfl | rw [valV_cons, if_pos rfl] | rw [valV_cons, if_neg (by decide +kernel)])) ?_
    walk_at "my_rd"
    refine q_dGetS hp.dict (by (repeat first | rfl | rw [valV_cons, if_pos rfl] | rw [valV_cons, if_neg (by decide +kernel)])) ?_
    walk_at "my_rd"
    refine ⟨rfl, rfl, fun x dx nx ndx hdx => ?_⟩
    have sm : Same H (upd (upd H dx (.own x)) x (.ins T.C_Config dx [])) := Same.up (Same.up (Same.refl _) ndx) (upd_free hdx.symm nx)
    have hp2 := hp.same sm
    refine ⟨x, dx, tl, bl, g, tv, bv, .tuple (gs.map prd), c, rfl, upd_same, hp2.tl, hp2.bl, hp2.tr, hp2.br, .tup hp2.gt hp2.gp.tall, hc.gd.set, fineS_pairs hc.gd, hc.ok, fun H' hC kp => ?_⟩
    refine ⟨rfl, k x H' nx hC ?_⟩
    intro b o hb
    exact kp b o (sm b o hb) (ne_of_none hb nx)
end

local macro_rules | `(tactic| walk_at "my_rd") => `(tactic| (repeat first
  | with_reducible refine q_tCons ?_
  | ((with_reducible apply q_var); (focus (exact rfl)))
  | with_reducible refine q_c ?_
  | with_reducible refine q_nx ?_
  | with_reducible refine q_bK ?_
  | with_reducible refine q_call ?_
  | with_reducible refine q_callK ?_
  | with_reducible refine q_tNil ?_
  | with_reducible refine q_cb ?_
  | with_reducible refine q_seq ?_
  | with_reducible refine q_asg ?_
  | with_reducible refine q_gName ?_
  | with_reducible refine q_op ?_
  | with_reducible refine q_test ?_
  | with_reducible refine q_tB ?_
  | with_reducible refine q_ifS ?_
  | with_reducible refine q_ret ?_
  | with_reducible refine q_rt ?_
  | with_reducible refine q_next ?_
  | with_reducible refine q_ifF ?_
  | with_reducible refine q_ifT ?_
  | with_reducible refine q_drop ?_
  | with_reducible refine q_and ?_
  | with_reducible refine q_or ?_
  | with_reducible refine q_andT ?_
  | with_reducible refine q_andF ?_
  | with_reducible refine q_orF ?_
  | with_reducible refine q_orT ?_
  | with_reducible refine q_andV ?_
  | with_reducible refine q_andVT ?_
  | with_reducible refine q_andVF ?_
  | with_reducible refine q_orV ?_
  | with_reducible refine q_gCons ?_
  | with_reducible refine q_gNil ?_
  | with_reducible refine q_tup ?_
  | with_reducible refine q_lst ?_
  | with_reducible refine q_not ?_
  | with_reducible refine q_notKT ?_
  | with_reducible refine q_notKF ?_
  | with_reducible refine q_I0 ?_
  | with_reducible refine q_eqI ?_
  | with_reducible refine q_neI ?_
  | ((with_reducible refine q_I ?_ ?_); first | decide | omega | exact ⟨by omega, by omega⟩ | exact ⟨by decide, by decide⟩ | exact .inl ⟨by omega, by omega⟩ | exact .inr ⟨by omega, by omega⟩ | exact .inr ⟨by decide, by decide⟩)
  | with_reducible refine q_eqS ?_
  | with_reducible refine q_neS ?_
  | with_reducible refine q_brk ?_
  | with_reducible refine q_ct ?_
  | with_reducible refine q_bk ?_
  | with_reducible refine q_cn ?_
  | with_reducible refine q_retN ?_
  | with_reducible refine q_gSub ?_
  | with_reducible refine q_for ?_
  | with_reducible refine q_iList ?_
  | with_reducible refine q_iTup ?_
  | with_reducible refine q_iRng1 ?_
  | with_reducible refine q_notK ?_
  | with_reducible refine q_orVT ?_
  | with_reducible refine q_orVF ?_
  | with_reducible refine q_notV ?_
  | with_reducible refine q_notVK ?_
  | with_reducible refine q_ifE ?_
  | with_reducible refine q_ifET ?_
  | with_reducible refine q_ifEF ?_
  | with_reducible refine q_yes ?_
  | with_reducible refine q_un ?_
  | with_reducible refine q_rU ?_
  | with_reducible refine q_abs ?_
  | with_reducible refine q_int1 ?_
  | with_reducible refine q_bm ?_
  | with_reducible refine q_bm0 ?_
  | with_reducible refine q_lc ?_
  | with_reducible refine q_keepT ?_
  | with_reducible refine q_keepF ?_
  | ((with_reducible apply q_aug); (focus (exact rfl)))
  | with_reducible refine q_ipI ?_
  | with_reducible refine q_chain ?_
  | with_reducible refine q_pairC ?_
  | with_reducible refine q_pairsK ?_
  | with_reducible refine q_pairN ?_
  | with_reducible refine q_fld ?_
  | with_reducible refine q_sFld ?_
  | with_reducible refine q_meth ?_
  | with_reducible refine q_makeK ?_
  | with_reducible refine q_isBl ?_
  | with_reducible refine q_notBl ?_
  | with_reducible refine q_sl ?_
  | with_reducible refine q_noPart ?_
  | with_reducible refine q_part ?_
  | with_reducible refine q_partK ?_
  | ((with_reducible apply q_mulStr); (focus (decide +kernel)))
  | with_reducible refine q_chT ?_
  | with_reducible refine q_chF ?_
  | with_reducible refine q_ord ?_
  | with_reducible refine q_iStr0 ?_
  | with_reducible refine q_iStr ?_
  | with_reducible refine q_tDIn ?_
  | with_reducible refine q_tDNotIn ?_
  | with_reducible refine q_tDGet ?_
  | with_reducible refine q_tDGet2 ?_
  | with_reducible refine q_tDGet1 ?_
  | with_reducible refine q_tDSetd ?_
  | ((with_reducible apply q_dG2a); (focus ((repeat first | (with_reducible exact upd_same) | (with_reducible assumption) | (with_reducible apply upd_new (by assumption)) | (with_reducible apply upd_other (by first | assumption | exact Ne.symm (by assumption))) | (with_reducible refine' Kp.get (by assumption) ?_ (by first | assumption | exact Ne.symm (by assumption))) | (with_reducible apply Same.get (by assumption))); done)))
  | ((with_reducible apply q_dSda); (focus ((repeat first | (with_reducible exact upd_same) | (with_reducible assumption) | (with_reducible apply upd_new (by assumption)) | (with_reducible apply upd_other (by first | assumption | exact Ne.symm (by assumption))) | (with_reducible refine' Kp.get (by assumption) ?_ (by first | assumption | exact Ne.symm (by assumption))) | (with_reducible apply Same.get (by assumption))); done)))
  | with_reducible refine q_sDPut ?_
  | ((with_reducible apply q_dInS); (focus ((repeat first | (with_reducible exact upd_same) | (with_reducible assumption) | (with_reducible apply upd_new (by assumption)) | (with_reducible apply upd_other (by first | assumption | exact Ne.symm (by assumption))) | (with_reducible refine' Kp.get (by assumption) ?_ (by first | assumption | exact Ne.symm (by assumption))) | (with_reducible apply Same.get (by assumption))); done)))
  | ((with_reducible apply q_dNInS); (focus ((repeat first | (with_reducible exact upd_same) | (with_reducible assumption) | (with_reducible apply upd_new (by assumption)) | (with_reducible apply upd_other (by first | assumption | exact Ne.symm (by assumption))) | (with_reducible refine' Kp.get (by assumption) ?_ (by first | assumption | exact Ne.symm (by assumption))) | (with_reducible apply Same.get (by assumption))); done)))
  | ((with_reducible apply q_dInI); (focus ((repeat first | (with_reducible exact upd_same) | (with_reducible assumption) | (with_reducible apply upd_new (by assumption)) | (with_reducible apply upd_other (by first | assumption | exact Ne.symm (by assumption))) | (with_reducible refine' Kp.get (by assumption) ?_ (by first | assumption | exact Ne.symm (by assumption))) | (with_reducible apply Same.get (by assumption))); done)))
  | ((with_reducible apply q_dNInI); (focus ((repeat first | (with_reducible exact upd_same) | (with_reducible assumption) | (with_reducible apply upd_new (by assumption)) | (with_reducible apply upd_other (by first | assumption | exact Ne.symm (by assumption))) | (with_reducible refine' Kp.get (by assumption) ?_ (by first | assumption | exact Ne.symm (by assumption))) | (with_reducible apply Same.get (by assumption))); done)))
  | ((with_reducible apply q_bmL); (focus ((repeat first | (with_reducible exact upd_same) | (with_reducible assumption) | (with_reducible apply upd_new (by assumption)) | (with_reducible apply upd_other (by first | assumption | exact Ne.symm (by assumption))) | (with_reducible refine' Kp.get (by assumption) ?_ (by first | assumption | exact Ne.symm (by assumption))) | (with_reducible apply Same.get (by assumption))); done)))
  | ((with_reducible apply q_bmL0); (focus ((repeat first | (with_reducible exact upd_same) | (with_reducible assumption) | (with_reducible apply upd_new (by assumption)) | (with_reducible apply upd_other (by first | assumption | exact Ne.symm (by assumption))) | (with_reducible refine' Kp.get (by assumption) ?_ (by first | assumption | exact Ne.symm (by assumption))) | (with_reducible apply Same.get (by assumption))); done)))
  | ((with_reducible apply q_ixLt); (focus ((repeat first | (with_reducible exact upd_same) | (with_reducible assumption) | (with_reducible apply upd_new (by assumption)) | (with_reducible apply upd_other (by first | assumption | exact Ne.symm (by assumption))) | (with_reducible refine' Kp.get (by assumption) ?_ (by first | assumption | exact Ne.symm (by assumption))) | (with_reducible apply Same.get (by assumption))); done)); (focus (exact rfl)))
  | ((with_reducible apply q_ixTt); (focus ((repeat first | (with_reducible exact upd_same) | (with_reducible assumption) | (with_reducible apply upd_new (by assumption)) | (with_reducible apply upd_other (by first | assumption | exact Ne.symm (by assumption))) | (with_reducible refine' Kp.get (by assumption) ?_ (by first | assumption | exact Ne.symm (by assumption))) | (with_reducible apply Same.get (by assumption))); done)); (focus (exact rfl)))
  | ((with_reducible apply q_lenLt); (focus ((repeat first | (with_reducible exact upd_same) | (with_reducible assumption) | (with_reducible apply upd_new (by assumption)) | (with_reducible apply upd_other (by first | assumption | exact Ne.symm (by assumption))) | (with_reducible refine' Kp.get (by assumption) ?_ (by first | assumption | exact Ne.symm (by assumption))) | (with_reducible apply Same.get (by assumption))); done)))
  | ((with_reducible apply q_lenTt); (focus ((repeat first | (with_reducible exact upd_same) | (with_reducible assumption) | (with_reducible apply upd_new (by assumption)) | (with_reducible apply upd_other (by first | assumption | exact Ne.symm (by assumption))) | (with_reducible refine' Kp.get (by assumption) ?_ (by first | assumption | exact Ne.symm (by assumption))) | (with_reducible apply Same.get (by assumption))); done)))
  | ((with_reducible apply q_append); (focus ((repeat first | (with_reducible exact upd_same) | (with_reducible assumption) | (with_reducible apply upd_new (by assumption)) | (with_reducible apply upd_other (by first | assumption | exact Ne.symm (by assumption))) | (with_reducible refine' Kp.get (by assumption) ?_ (by first | assumption | exact Ne.symm (by assumption))) | (with_reducible apply Same.get (by assumption))); done)); (focus ((first | (exact Nat.lt_of_ble_eq_true rfl) | (simp only [List.length_append, List.length_cons, List.length_nil, List.length_map]; exact small1000 (by omega))))))
  | ((with_reducible apply q_setL); (focus ((repeat first | (with_reducible exact upd_same) | (with_reducible assumption) | (with_reducible apply upd_new (by assumption)) | (with_reducible apply upd_other (by first | assumption | exact Ne.symm (by assumption))) | (with_reducible refine' Kp.get (by assumption) ?_ (by first | assumption | exact Ne.symm (by assumption))) | (with_reducible apply Same.get (by assumption))); done)); (focus (exact rfl)))
  | with_reducible refine q_ifNT ?_
  | with_reducible refine q_ifNF ?_
  | with_reducible refine q_andNT ?_
  | with_reducible refine q_andNF ?_
  | with_reducible refine q_orNT ?_
  | with_reducible refine q_orNF ?_
  | with_reducible refine q_bKNT ?_
  | with_reducible refine q_bKNF ?_))
/-! what refuses -/
namespace Ra
def lnames : List Str := ["scale", "limit", "large", "depth", "window", "delay", "bundle", "amount"]
theorem lnames_ok : ∀ n ∈ lnames, ∀ l ∈ ([0, 1] : List Int), n.length ≤ sizeLine ∧ (Str.empty ++ n).length ≤ sizeLine ∧ (Str.empty ++ n ++ " is no integer of at least ").length ≤ sizeLine ∧ (Str.empty ++ n ++ " is no integer of at least " ++ (toString l : Str)).length ≤ sizeLine ∧ l.natAbs.log2 < 1920 := by decide +kernel
def tokB (t : TokR) : Bool := shortD 12 (.str t.name) && sideD (.str t.home) && decide (1 ≤ t.scale) && decide (0 ≤ t.limit) && decide (1 ≤ t.large)
def balB (ts : List TokR) (b : BalR) : Bool := accD (.str b.acc) && shortD 12 (.str b.tok) && decide (b.tok ∈ ts.map TokR.name) && decide (0 ≤ b.amt)
theorem short_len {m : Int} {s : Str} (h : shortD m (.str s) = true) : (s.length : Int) ≤ m := by
  have h : (textS s && (decide (1 ≤ (s.length : Int)) && decide ((s.length : Int) ≤ m))) = true := h
  rw [Bool.and_eq_true, Bool.and_eq_true, decide_eq_true_eq, decide_eq_true_eq] at h
  exact h.2.2
theorem tok_ok {t : TokR} (h : tokB t = true) : t.Ok := by
  unfold tokB at h
  simp only [Bool.and_eq_true, decide_eq_true_eq] at h
  obtain ⟨⟨⟨⟨h1, h2⟩, h3⟩, h4⟩, h5⟩ := h
  exact ⟨h1, by have := short_len h1; omega, h2, h3, h4, h5⟩
theorem tok_b {t : TokR} (h : t.Ok) : tokB t = true := by
  unfold tokB
  simp only [Bool.and_eq_true, decide_eq_true_eq]
  exact ⟨⟨⟨⟨h.n, h.h⟩, h.sc⟩, h.li⟩, h.la⟩
theorem bal_ok {ts : List TokR} {b : BalR} (h : balB ts b = true) : b.Ok ts := by
  unfold balB at h
  simp only [Bool.and_eq_true, decide_eq_true_eq] at h
  obtain ⟨⟨⟨h1, h2⟩, h3⟩, h4⟩ := h
  exact ⟨h1, by have := short_len (m := 20) h1; omega, h2, by have := short_len h2; omega, h3, h4⟩
theorem bal_b {ts : List TokR} {b : BalR} (h : b.Ok ts) : balB ts b = true := by
  unfold balB
  simp only [Bool.and_eq_true, decide_eq_true_eq]
  exact ⟨⟨⟨h.a, h.t⟩, h.tm⟩, h.am⟩
def sp_leastX (CF : Addr) : Sp := fun vs H Q E => ∃ (n : Str) (i l : Int), vs = [.str n, .int i, .int l] ∧ n ∈ lnames ∧ l ∈ ([0, 1] : List Int) ∧ (l ≤ i → ∀ H', Same H H' → Q .non H') ∧ (¬ l ≤ i → ∀ H', Same H H' → E (.ref CF) none H')
def sp_tokX (CF : Addr) : Sp := fun vs H Q E => ∃ (a : Addr) (t : TokR), vs = [.ref a] ∧ H a = some (.tup t.v) ∧ t.name.length ≤ 100000 ∧ (tokB t = true → ∀ H', Same H H' → Q .non H') ∧ (tokB t = false → ∀ H', Same H H' → E (.ref CF) none H')
def sp_balX (CF : Addr) : Sp := fun vs H Q E => ∃ (a d : Addr) (b : BalR) (kvs : List (Key × V)) (ts : List TokR), vs = [.ref a, .ref d] ∧ H a = some (.tup b.v) ∧ H d = some (.dK kvs) ∧ TabAt H kvs ts ∧ b.acc.length ≤ 100000 ∧ b.tok.length ≤ 100000 ∧
  (balB ts b = true → ∀ H', Same H H' → Q .non H') ∧ (balB ts b = false → ∀ H', Same H H' → E (.ref CF) none H')
section
variable {P : Program} {w : World} {K : PySem.W.Frag} {mg : Str → Option Value} {base : Heap}
theorem ok_check_least (T : Txt K mg) : FnOk P w K mg base (L2.CX P w) 3 T.f_check_least T.d_check_least ["name", "value", "least"] (sp_leastX T.C_InvalidArgument) := by
  refine T.F_check_least.okX sc_check_least (fun vs H Q E h => ?_) (fun cdv A outer s H vs Q E hr h => ?_)
  · obtain ⟨n, i, l, rfl, _⟩ := h; rfl
  · obtain ⟨n, i, l, rfl, hn, hl, kQ, kE⟩ := h
    obtain ⟨z1, z2, z3, z4, z5⟩ := lnames_ok n hn l hl
    refine ⟨_, (pss_one (ps_if (pt_not (pt_val (pe_call (ok_is_at_least T) (hr.mono (by decide)) (by rfl) T.g_is_at_least T.F_is_at_least.kp T.b_is_at_least .nil pass0 (pa_cons (pv 1) (pa_cons (pv 2) pa_nil))))) (pss_one (ps_raise rfl (takes_of rfl rfl rfl rfl) (pmk_ownA PySem.F.excBase_ValueError T.xe_InvalidArgument T.g_InvalidArgument T.ke_InvalidArgument (raises_own T.be_InvalidArgument T.te_InvalidArgument) (by exact rfl) (pa_cons (pe_joined (.cons (pe_fmt (pv 0)) (.cons pe_str (.cons (pe_fmt (pv 2)) .nil)))) pa_nil)))) pss_nil)), ?_⟩
    (dsimp only [cxOf, Cx.nox, Cx.wish, L2.start, List.map, List.length, List.replicate, List.cons_append, List.nil_append, List.append_eq, Nat.reduceSub, Nat.reduceAdd])
    walk_at "my_rd"
    refine ⟨.int i, .int i, l, rfl, .int i, trivial, fun H1 sm => ?_⟩
    by_cases h : l ≤ i
    · rw [show leastD l (.int i) = true from decide_eq_true h]
      walk_at "my_rd"
      exact kQ h H1 sm
    · rw [show leastD l (.int i) = false from decide_eq_false h]
      walk_at "my_rd"
      refine ⟨.str n, rfl, Or.inl ⟨n, rfl, z1, n, rfl, z2, ?_⟩⟩
      refine ⟨_, rfl, z3, ?_⟩
      refine ⟨.int l, rfl, Or.inr ⟨l, rfl, z5, _, rfl, z4, ?_⟩⟩
      walk_at "my_rd"
      exact ⟨by show 1 ≤ sizeLine; decide, kE h H1 sm⟩
theorem ok_check_token_row (T : Txt K mg) : FnOk P w K mg base (L2.CX P w) 4 T.f_check_token_row T.d_check_token_row ["row"] (sp_tokX T.C_InvalidArgument) := by
  refine T.F_check_token_row.okX sc_check_token_row (fun vs H Q E h => ?_) (fun cdv A outer s H vs Q E hr h => ?_)
  · obtain ⟨a, t, rfl, _⟩ := h; rfl
  · obtain ⟨a, t, rfl, ha, hnl, kQ, kE⟩ := h
    have hd : Dp K H (.ref a) (.tuple [.str t.name, .str t.home, .int t.scale, .int t.limit, .int t.large]) := .tup (sqT ha) (.cons (.str _) (.cons (.str _) (.cons (.int _) (.cons (.int _) (.cons (.int _) .nil)))))
    unfold tokB at kQ kE
    refine ⟨_, (pss_cons (ps_if (PW.pt (pw_or (pt_not (pt_val (pe_callB call_isi (by rfl) T.z_isinstance boot_isinstance (pa_cons (pv 0) (pa_cons (pe_bltn (v := .ty "tuple") (by rfl) T.z_tuple boot_tuple rfl) pa_nil))))) (pw_or1 (pt_cmpR op_ne (pe_callB cq_len (by rfl) T.z_len boot_len (pa_cons (pv 0) pa_nil)) pe_int (nomark _))))) (pss_one (ps_raise rfl (takes_of rfl rfl rfl rfl) (pmk_own PySem.F.excBase_ValueError T.xe_InvalidArgument T.g_InvalidArgument T.ke_InvalidArgument (raises_own T.be_InvalidArgument T.te_InvalidArgument) (by exact rfl)))) pss_nil)
      (pss_cons (ps_asg (pv 0) (pg_tup rfl (pgs_cons (pg_name (i := 1) sc_check_token_row.nd rfl (Or.inl rfl)) (pgs_cons (pg_name (i := 2) sc_check_token_row.nd rfl (Or.inl rfl)) (pgs_cons (pg_name (i := 3) sc_check_token_row.nd rfl (Or.inl rfl)) (pgs_cons (pg_name (i := 4) sc_check_token_row.nd rfl (Or.inl rfl)) (pgs_cons (pg_name (i := 5) sc_check_token_row.nd rfl (Or.inl rfl)) pgs_nil)))))))
      (pss_cons (ps_if (pt_not (pt_val (pe_call (ok_is_short_text T) (hr.mono (by decide)) (by rfl) T.g_is_short_text T.F_is_short_text.kp T.b_is_short_text .nil pass0 (pa_cons (pv 1) (pa_cons (pe_glob (v := .int 12) (by rfl) T.c_TOKEN_LENGTH ⟨_, rfl⟩) pa_nil))))) (pss_one (ps_raise rfl (takes_of rfl rfl rfl rfl) (pmk_own PySem.F.excBase_ValueError T.xe_InvalidArgument T.g_InvalidArgument T.ke_InvalidArgument (raises_own T.be_InvalidArgument T.te_InvalidArgument) (by exact rfl)))) pss_nil)
      (pss_cons (ps_if (pt_not (pt_val (pe_call (ok_is_side T) (hr.mono (by decide)) (by rfl) T.g_is_side T.F_is_side.kp T.b_is_side .nil pass0 (pa_cons (pv 2) pa_nil)))) (pss_one (ps_raise rfl (takes_of rfl rfl rfl rfl) (pmk_own PySem.F.excBase_ValueError T.xe_InvalidArgument T.g_InvalidArgument T.ke_InvalidArgument (raises_own T.be_InvalidArgument T.te_InvalidArgument) (by exact rfl)))) pss_nil)
      (pss_cons (ps_expr (pe_call (ok_check_least T) (hr.mono (by decide)) (by rfl) T.g_check_least T.F_check_least.kp T.b_check_least .nil (passes_call (takes_of rfl rfl rfl rfl) fun _ _ _ _ h => h) (pa_cons pe_str (pa_cons (pv 3) (pa_cons pe_int pa_nil)))))
      (pss_cons (ps_expr (pe_call (ok_check_least T) (hr.mono (by decide)) (by rfl) T.g_check_least T.F_check_least.kp T.b_check_least .nil (passes_call (takes_of rfl rfl rfl rfl) fun _ _ _ _ h => h) (pa_cons pe_str (pa_cons (pv 4) (pa_cons pe_int pa_nil)))))
      (pss_one (ps_expr (pe_call (ok_check_least T) (hr.mono (by decide)) (by rfl) T.g_check_least T.F_check_least.kp T.b_check_least .nil (passes_call (takes_of rfl rfl rfl rfl) fun _ _ _ _ h => h) (pa_cons pe_str (pa_cons (pv 5) (pa_cons pe_int pa_nil)))))))))))), ?_⟩
    (dsimp only [cxOf, Cx.nox, Cx.wish, L2.start, List.map, List.length, List.replicate, List.cons_append, List.nil_append, List.append_eq, Nat.reduceSub, Nat.reduceAdd])
    walk_at "my_rd"
    refine q_isiD hd (kit_tuple _) ?_
    show bK _ (.bl true) H
    walk_at "my_rd"
    rw [show decide ((t.v.length : Int) = 5) = true from rfl]
    walk_at "my_rd"
    refine q_gTup (sqT ha) rfl ?_
    unfold TokR.v
    walk_at "my_rd"
    refine ⟨.str t.name, .str t.name, 12, rfl, .str _, hnl, fun H1 sm1 => ?_⟩
    cases h1 : shortD 12 (.str t.name) with
    | false =>
      walk_at "my_rd"
      exact kE (by rw [h1]; rfl) H1 sm1
    | true =>
    walk_at "my_rd"
    refine ⟨.str t.home, .str t.home, rfl, .str _, rfl, fun H2 sm2 => ?_⟩
    have sm2 := Same.trans sm1 sm2
    cases h2 : sideD (.str t.home) with
    | false =>
      walk_at "my_rd"
      exact kE (by rw [h1, h2]; rfl) H2 sm2
    | true =>
    walk_at "my_rd"
    refine ⟨_, t.scale, 1, rfl, by decide +kernel, by decide, fun h3 H3 sm3 => ?_, fun h3 H3 sm3 => kE (by rw [h1, h2, decide_eq_false h3]; rfl) H3 (Same.trans sm2 sm3)⟩
    have sm3 := Same.trans sm2 sm3
    walk_at "my_rd"
    refine ⟨_, t.limit, 0, rfl, by decide +kernel, by decide, fun h4 H4 sm4 => ?_, fun h4 H4 sm4 => kE (by rw [h1, h2, decide_eq_true h3, decide_eq_false h4]; rfl) H4 (Same.trans sm3 sm4)⟩
    have sm4 := Same.trans sm3 sm4
    walk_at "my_rd"
    refine ⟨_, t.large, 1, rfl, by decide +kernel, by decide, fun h5 H5 sm5 => ?_, fun h5 H5 sm5 => kE (by rw [h1, h2, decide_eq_true h3, decide_eq_true h4, decide_eq_false h5]; rfl) H5 (Same.trans sm4 sm5)⟩
    walk_at "my_rd"
    exact kQ (by rw [h1, h2, decide_eq_true h3, decide_eq_true h4, decide_eq_true h5]; rfl) H5 (Same.trans sm4 sm5)
theorem ok_check_balance_row (T : Txt K mg) : FnOk P w K mg base (L2.CX P w) 4 T.f_check_balance_row T.d_check_balance_row ["row", "tokens"] (sp_balX T.C_InvalidArgument) := by
  refine T.F_check_balance_row.okX sc_check_balance_row (fun vs H Q E h => ?_) (fun cdv A outer s H vs Q E hr h => ?_)
  · obtain ⟨a, d, b, kvs, ts, rfl, _⟩ := h; rfl
  · obtain ⟨a, d, b, kvs, ts, rfl, ha, hdd, hT, hal, htl, kQ, kE⟩ := h
    have hu := hu_of hr
    have hd : Dp K H (.ref a) (.tuple [.str b.acc, .str b.tok, .int b.amt]) := .tup (sqT ha) (.cons (.str _) (.cons (.str _) (.cons (.int _) .nil)))
    unfold balB at kQ kE
    refine ⟨_, (pss_cons (ps_if (PW.pt (pw_or (pt_not (pt_val (pe_callB call_isi (by rfl) T.z_isinstance boot_isinstance (pa_cons (pv 0) (pa_cons (pe_bltn (v := .ty "tuple") (by rfl) T.z_tuple boot_tuple rfl) pa_nil))))) (pw_or1 (pt_cmpR op_ne (pe_callB cq_len (by rfl) T.z_len boot_len (pa_cons (pv 0) pa_nil)) pe_int (nomark _))))) (pss_one (ps_raise rfl (takes_of rfl rfl rfl rfl) (pmk_own PySem.F.excBase_ValueError T.xe_InvalidArgument T.g_InvalidArgument T.ke_InvalidArgument (raises_own T.be_InvalidArgument T.te_InvalidArgument) (by exact rfl)))) pss_nil)
      (pss_cons (ps_asg (pv 0) (pg_tup rfl (pgs_cons (pg_name (i := 2) sc_check_balance_row.nd rfl (Or.inl rfl)) (pgs_cons (pg_name (i := 3) sc_check_balance_row.nd rfl (Or.inl rfl)) (pgs_cons (pg_name (i := 4) sc_check_balance_row.nd rfl (Or.inl rfl)) pgs_nil)))))
      (pss_cons (ps_if (pt_not (pt_val (pe_call (ok_is_account T) (hr.mono (by decide)) (by rfl) T.g_is_account T.F_is_account.kp T.b_is_account .nil pass0 (pa_cons (pv 2) pa_nil)))) (pss_one (ps_raise rfl (takes_of rfl rfl rfl rfl) (pmk_own PySem.F.excBase_ValueError T.xe_InvalidArgument T.g_InvalidArgument T.ke_InvalidArgument (raises_own T.be_InvalidArgument T.te_InvalidArgument) (by exact rfl)))) pss_nil)
      (pss_cons (ps_if (PW.pt (pw_or (pt_not (pt_val (pe_call (ok_is_short_text T) (hr.mono (by decide)) (by rfl) T.g_is_short_text T.F_is_short_text.kp T.b_is_short_text .nil pass0 (pa_cons (pv 3) (pa_cons (pe_glob (v := .int 12) (by rfl) T.c_TOKEN_LENGTH ⟨_, rfl⟩) pa_nil))))) (pw_or1 (pt_cmp (pc_dnotin hu (pv 3) (pv 1)))))) (pss_one (ps_raise rfl (takes_of rfl rfl rfl rfl) (pmk_own PySem.F.excBase_ValueError T.xe_InvalidArgument T.g_InvalidArgument T.ke_InvalidArgument (raises_own T.be_InvalidArgument T.te_InvalidArgument) (by exact rfl)))) pss_nil)
      (pss_one (ps_expr (pe_call (ok_check_least T) (hr.mono (by decide)) (by rfl) T.g_check_least T.F_check_least.kp T.b_check_least .nil (passes_call (takes_of rfl rfl rfl rfl) fun _ _ _ _ h => h) (pa_cons pe_str (pa_cons (pv 4) (pa_cons pe_int pa_nil)))))))))), ?_⟩
    (dsimp only [cxOf, Cx.nox, Cx.wish, L2.start, List.map, List.length, List.replicate, List.cons_append, List.nil_append, List.append_eq, Nat.reduceSub, Nat.reduceAdd])
    walk_at "my_rd"
    refine q_isiD hd (kit_tuple _) ?_
    show bK _ (.bl true) H
    walk_at "my_rd"
    rw [show decide ((b.v.length : Int) = 3) = true from rfl]
    walk_at "my_rd"
    refine q_gTup (sqT ha) rfl ?_
    unfold BalR.v
    walk_at "my_rd"
    refine ⟨.str b.acc, .str b.acc, rfl, .str _, hal, fun H1 sm1 => ?_⟩
    cases h1 : accD (.str b.acc) with
    | false =>
      walk_at "my_rd"
      exact kE (by rw [h1]; rfl) H1 sm1
    | true =>
    walk_at "my_rd"
    refine ⟨.str b.tok, .str b.tok, 12, rfl, .str _, htl, fun H2 sm2 => ?_⟩
    have sm := Same.trans sm1 sm2
    cases h2 : shortD 12 (.str b.tok) with
    | false =>
      walk_at "my_rd"
      exact kE (by rw [h1, h2]; rfl) H2 sm
    | true =>
    have hdd2 := sm _ _ hdd
    walk_at "my_rd"
    rw [hT.has]
    by_cases h3 : b.tok ∈ ts.map TokR.name
    · rw [decide_eq_true h3]
      walk_at "my_rd"
      refine ⟨_, b.amt, 0, rfl, by decide +kernel, by decide, fun h4 H3 sm3 => ?_, fun h4 H3 sm3 => kE (by rw [h1, h2, decide_eq_true h3, decide_eq_false h4]; rfl) H3 (Same.trans sm sm3)⟩
      walk_at "my_rd"
      exact kQ (by rw [h1, h2, decide_eq_true h3, decide_eq_true h4]; rfl) H3 (Same.trans sm sm3)
    · rw [decide_eq_false h3]
      walk_at "my_rd"
      exact kE (by rw [h1, h2, decide_eq_false h3]; rfl) H2 sm
end
end Ra

/-! Config.__init__, which may refuse -/
namespace Ra
def Good (c : Parts) (gd : PyData) : Prop := c.Ok ∧ setD gd = true
def sp_cfgX (K : PySem.W.Frag) (C CF : Addr) : Sp := fun vs H Q E => ∃ (x dx tl bl g : Addr) (tv bv : List V) (gd : PyData) (c : Parts), vs = [.ref x, .ref tl, .ref bl, .ref g, .int c.depth, .int c.window, .int c.delay, .int c.bundle] ∧
  H x = some (.ins C dx []) ∧ H tl = some (.lst tv) ∧ H bl = some (.lst bv) ∧ RowsAt TokR.v H tv c.toks ∧ RowsAt BalR.v H bv c.bals ∧ TupDp K H (.ref g) gd ∧ FineS gd ∧ c.toks.length ≤ 1000 ∧ c.bals.length ≤ 1000 ∧ (∀ t ∈ c.toks, t.name.length ≤ 100000) ∧ (∀ b ∈ c.bals, b.acc.length ≤ 100000 ∧ b.tok.length ≤ 100000) ∧
  (Good c gd → ∀ H', CfgAt C c g H' x → Kp x H H' → Q .non H') ∧ (¬ Good c gd → ∀ H', Kp x H H' → E (.ref CF) none H')
def sp_chkX (C CU : Addr) : Sp := fun vs H Q E => ∃ (x g : Addr) (c : Parts) (n : Str), vs = [.ref x, .str n] ∧ CfgAt C c g H x ∧ (n ∈ c.toks.map TokR.name → Q .non H) ∧ (n ∉ c.toks.map TokR.name → E (.ref CU) none H)
def sp_scaleX (C CU : Addr) : Sp := fun vs H Q E => ∃ (x g : Addr) (c : Parts) (n : Str), vs = [.ref x, .str n] ∧ CfgAt C c g H x ∧ n ∉ c.toks.map TokR.name ∧ E (.ref CU) none H
section
variable {P : Program} {w : World} {K : PySem.W.Frag} {mg : Str → Option Value} {base : Heap}
theorem ok_Config_check_token (T : Txt K mg) : FnOk P w K mg base (L2.CX P w) 1 T.f_Config_check_token T.d_Config_check_token ["self", "token"] (sp_chkX T.C_Config T.C_UnknownToken) := by
  refine T.F_Config_check_token.okX sc_Config_check_token (fun vs H Q E h => ?_) (fun cdv A outer s H vs Q E hr h => ?_)
  · obtain ⟨x, g, c, n, rfl, _⟩ := h; rfl
  · obtain ⟨x, g, c, n, rfl, hC, kQ, kE⟩ := h
    have hu := hu_of hr
    obtain ⟨dx, fs, td, bl, kvs, bv, h1, h2, h3, h4, h5, h6, h7, h8, h9, h10, h11, h12, h13⟩ := hC.ex
    refine ⟨_, (pss_one (ps_if (pt_cmp (pc_dnotin hu (pv 1) (pe_fld (pv 0) rfl))) (pss_one (ps_raise rfl (takes_of rfl rfl rfl rfl) (pmk_own PySem.F.excBase_ValueError T.xe_UnknownToken T.g_UnknownToken T.ke_UnknownToken (raises_own T.be_UnknownToken T.te_UnknownToken) (by exact rfl)))) pss_nil)), ?_⟩
    (dsimp only [cxOf, Cx.nox, Cx.wish, L2.start, List.map, List.length, List.replicate, List.cons_append, List.nil_append, List.append_eq, Nat.reduceSub, Nat.reduceAdd])
    walk_at "my_rd"
    refine q_fldK h1 T.cl_Config T.n_Config_tokens h2 ?_
    walk_at "my_rd"
    rw [h11.has]
    by_cases h : n ∈ c.toks.map TokR.name
    · rw [decide_eq_true h]
      walk_at "my_rd"
      exact kQ h
    · rw [decide_eq_false h]
      walk_at "my_rd"
      exact kE h
theorem ok_Config_scale (T : Txt K mg) : FnOk P w K mg base (L2.CX P w) 2 T.f_Config_scale T.d_Config_scale ["self", "token"] (sp_scaleX T.C_Config T.C_UnknownToken) := by
  refine T.F_Config_scale.okX sc_Config_scale (fun vs H Q E h => ?_) (fun cdv A outer s H vs Q E hr h => ?_)
  · obtain ⟨x, g, c, n, rfl, _⟩ := h; rfl
  · obtain ⟨x, g, c, n, rfl, hC, hn, kE⟩ := h
    have hu := hu_of hr
    obtain ⟨dx, fs, td, bl, kvs, bv, h1, h2, h3, h4, h5, h6, h7, h8, h9, h10, h11, h12, h13⟩ := hC.ex
    refine ⟨_, (pss_cons (ps_expr (pe_meth (pv 0) T.cl_Config T.m_Config_check_token (ok_Config_check_token T) (hr.mono (by decide)) T.b_Config_check_token .nil (passes_call (takes_of rfl rfl rfl rfl) fun _ _ _ _ h => h) (pa_cons (pv 1) pa_nil)))
      (pss_one (ps_ret (pe_ix ix_tup (pe_dget hu (pe_fld (pv 0) rfl) (pv 1) (fun _ _ => rfl)) pe_int (fun _ _ => rfl))))), ?_⟩
    (dsimp only [cxOf, Cx.nox, Cx.wish, L2.start, List.map, List.length, List.replicate, List.cons_append, List.nil_append, List.append_eq, Nat.reduceSub, Nat.reduceAdd])
    walk_at "my_rd"
    refine q_methK h1 (h9 _ no_check_token) fun R hR => ?_
    walk_at "my_rd"
    refine hR _ _ ⟨x, g, c, n, rfl, hC, fun h => absurd h hn, fun _ => kE⟩
theorem ok_Config_init (T : Txt K mg) : FnOk P w K mg base (L2.CX P w) 6 T.f_Config_init T.d_Config_init ["self", "tokens", "balances", "guards", "depth", "window", "delay", "bundle"] (sp_cfgX K T.C_Config T.C_InvalidArgument) := by
  refine T.F_Config_init.okX sc_Config_init (fun vs H Q E h => ?_) (fun cdv A outer s H vs Q E hr h => ?_)
  · obtain ⟨x, dx, tl, bl, g, tv, bv, gd, c, rfl, _⟩ := h; rfl
  · obtain ⟨x, dx, tl, bl, g, tv, bv, gd, c, rfl, hx, htl, hbl, hT, hB, hG, hfine, hct, hcb, hnt, hnb, kQ, kE⟩ := h
    have hu := hu_of hr
    refine ⟨_, (pss_cons (ps_expr (pe_call (ok_check_list T) (hr.mono (by decide)) (by rfl) T.g_check_list T.F_check_list.kp T.b_check_list .nil pass0 (pa_cons pe_str (pa_cons (pv 1) pa_nil))))
      (pss_cons (ps_expr (pe_call (ok_check_list T) (hr.mono (by decide)) (by rfl) T.g_check_list T.F_check_list.kp T.b_check_list .nil pass0 (pa_cons pe_str (pa_cons (pv 2) pa_nil))))
      (pss_cons (ps_fld (pv 0) pe_dnewK rfl)
      (pss_cons (ps_for (passes_of rfl) rfl (pi_list (pv 1)) (pg_name (i := 8) sc_Config_init.nd rfl (Or.inl rfl))
        (pss_cons (ps_expr (pe_call (ok_check_token_row T) (hr.mono (by decide)) (by rfl) T.g_check_token_row T.F_check_token_row.kp T.b_check_token_row .nil (passes_call (takes_of rfl rfl rfl rfl) fun _ _ _ _ h => h) (pa_cons (pv 8) pa_nil)))
      (pss_cons (ps_if (pt_cmp (pc_din hu (pe_ix ix_tup (pv 8) pe_int (fun _ _ => rfl)) (pe_fld (pv 0) rfl))) (pss_one (ps_raise rfl (takes_of rfl rfl rfl rfl) (pmk_own PySem.F.excBase_ValueError T.xe_InvalidArgument T.g_InvalidArgument T.ke_InvalidArgument (raises_own T.be_InvalidArgument T.te_InvalidArgument) (by exact rfl)))) pss_nil)
      (pss_one (ps_dput hu (pe_fld (pv 0) rfl) (pe_ix ix_tup (pv 8) pe_int (fun _ _ => rfl)) (pv 8) rfl)))))
      (pss_cons (ps_for (passes_of rfl) rfl (pi_list (pv 2)) (pg_name (i := 8) sc_Config_init.nd rfl (Or.inl rfl))
        (pss_one (ps_expr (pe_call (ok_check_balance_row T) (hr.mono (by decide)) (by rfl) T.g_check_balance_row T.F_check_balance_row.kp T.b_check_balance_row .nil (passes_call (takes_of rfl rfl rfl rfl) fun _ _ _ _ h => h) (pa_cons (pv 8) (pa_cons (pe_fld (pv 0) rfl) pa_nil))))))
      (pss_cons (ps_if (pt_not (pt_val (pe_call (ok_is_set T) (hr.mono (by decide)) (by rfl) T.g_is_set T.F_is_set.kp T.b_is_set .nil pass0 (pa_cons (pv 3) pa_nil)))) (pss_one (ps_raise rfl (takes_of rfl rfl rfl rfl) (pmk_own PySem.F.excBase_ValueError T.xe_InvalidArgument T.g_InvalidArgument T.ke_InvalidArgument (raises_own T.be_InvalidArgument T.te_InvalidArgument) (by exact rfl)))) pss_nil)
      (pss_cons (ps_expr (pe_call (ok_check_least T) (hr.mono (by decide)) (by rfl) T.g_check_least T.F_check_least.kp T.b_check_least .nil (passes_call (takes_of rfl rfl rfl rfl) fun _ _ _ _ h => h) (pa_cons pe_str (pa_cons (pv 4) (pa_cons pe_int pa_nil)))))
      (pss_cons (ps_expr (pe_call (ok_check_least T) (hr.mono (by decide)) (by rfl) T.g_check_least T.F_check_least.kp T.b_check_least .nil (passes_call (takes_of rfl rfl rfl rfl) fun _ _ _ _ h => h) (pa_cons pe_str (pa_cons (pv 5) (pa_cons pe_int pa_nil)))))
      (pss_cons (ps_expr (pe_call (ok_check_least T) (hr.mono (by decide)) (by rfl) T.g_check_least T.F_check_least.kp T.b_check_least .nil (passes_call (takes_of rfl rfl rfl rfl) fun _ _ _ _ h => h) (pa_cons pe_str (pa_cons (pv 6) (pa_cons pe_int pa_nil)))))
      (pss_cons (ps_expr (pe_call (ok_check_least T) (hr.mono (by decide)) (by rfl) T.g_check_least T.F_check_least.kp T.b_check_least .nil (passes_call (takes_of rfl rfl rfl rfl) fun _ _ _ _ h => h) (pa_cons pe_str (pa_cons (pv 7) (pa_cons pe_int pa_nil)))))
      (pss_cons (ps_if (pt_cmpR op_gt (pv 7) (pe_glob (v := .int 8) (by rfl) T.c_MOST_IN_BUNDLE ⟨_, rfl⟩) (nomark _)) (pss_one (ps_raise rfl (takes_of rfl rfl rfl rfl) (pmk_own PySem.F.excBase_ValueError T.xe_InvalidArgument T.g_InvalidArgument T.ke_InvalidArgument (raises_own T.be_InvalidArgument T.te_InvalidArgument) (by exact rfl)))) pss_nil)
      (pss_cons (ps_fld (pv 0) (pe_callTy cq_listOf (by rfl) T.z_list boot_list (pa_cons (pv 2) pa_nil)) rfl)
      (pss_cons (ps_fld (pv 0) (pv 3) rfl)
      (pss_cons (ps_fld (pv 0) (pv 4) rfl)
      (pss_cons (ps_fld (pv 0) (pv 5) rfl)
      (pss_cons (ps_fld (pv 0) (pv 6) rfl)
      (pss_one (ps_fld (pv 0) (pv 7) rfl)))))))))))))))))), ?_⟩
    (dsimp only [cxOf, Cx.nox, Cx.wish, L2.start, List.map, List.length, List.replicate, List.cons_append, List.nil_append, List.append_eq, Nat.reduceSub, Nat.reduceAdd])
    walk_at "my_rd"
    refine ⟨_, tl, tv, rfl, sqL htl, fun H1 sm1 => ?_⟩
    walk_at "my_rd"
    refine ⟨_, bl, bv, rfl, sqL (sm1 _ _ hbl), fun H2 sm2 => ?_⟩
    have sm2 := Same.trans sm1 sm2
    walk_at "my_rd"
    refine q_dNew fun td ntd => ?_
    walk_at "my_rd"
    have hx2 := sm2 _ _ hx
    have nxd : x ≠ td := ne_of_none hx2 ntd
    have htd0 : H td = none := Same.free sm2 ntd
    refine q_fputK (upd_new ntd hx2) T.cl_Config T.n_Config_tokens (by show 0 < 1000; decide) ?_
    walk_at "my_rd"
    generalize hH3 : upd (upd H2 td (.dK [])) x _ = H3
    have hx3 : H3 x = some (.ins T.C_Config dx (putF "_tokens" (.ref td) [])) := by rw [← hH3]; exact upd_same
    have hd3 : H3 td = some (.dK []) := by rw [← hH3]; exact upd_other nxd.symm upd_same
    have kp3 : Kp x H H3 := by rw [← hH3]; exact Kp.upd (Kp.new (Same.kp sm2) htd0)
    have ntx : tl ≠ x := ne_of htl hx (by intro z; cases z)
    have nbx : bl ≠ x := ne_of hbl hx (by intro z; cases z)
    have lk0 : (putF "_tokens" (V.ref td) []).lookup ("_tokens" : Str) = some (.ref td) := rfl
    refine q_forL (sqL (Kp.get kp3 htl ntx)) (fun i σ H' => ∃ (kvs : List (Key × V)) (rv : Option V), σ = [some (.ref x), some (.ref tl), some (.ref bl), some (.ref g), some (.int c.depth), some (.int c.window), some (.int c.delay), some (.int c.bundle), rv] ∧
        H' x = some (.ins T.C_Config dx (putF "_tokens" (.ref td) [])) ∧ H' td = some (.dK kvs) ∧ TabAt H' kvs (c.toks.take i) ∧ (∀ t ∈ c.toks.take i, tokB t = true) ∧ ((c.toks.take i).map TokR.name).Nodup ∧ Kp x H H')
      ⟨[], none, rfl, hx3, hd3, ⟨rfl, fun t ht => by simp at ht⟩, by simp, by simp, kp3⟩ (fun i σ H' _ ⟨_, _, _, _, _, _, _, _, kp⟩ => sqL (Kp.get kp htl ntx)) ?_ ?_
    · rintro i v σ H' hv ⟨kvs, rv, rfl, hx', hd', hTab, hok, hnd, kp⟩
      obtain ⟨t, r, ht, rfl, hr0⟩ := hT.item hv
      have hr1 : H' r = some (.tup t.v) := Kp.get kp hr0 (ne_of hr0 hx (by intro z; cases z))
      have hmem := List.mem_of_getElem? ht
      walk_at "my_rd"
      refine ⟨r, t, rfl, hr1, hnt t hmem, fun htb H4 sm4 => ?_, fun htb H4 sm4 => kE (fun q => by rw [tok_b (q.1.t t hmem)] at htb; cases htb) H4 (Kp.trans kp (Same.kp sm4))⟩
      have hx4 := sm4 _ _ hx'
      have hd4 := sm4 _ _ hd'
      have hr4 : H4 r = some (.tup [.str t.name, .str t.home, .int t.scale, .int t.limit, .int t.large]) := sm4 _ _ hr1
      have hTab4 : TabAt H4 kvs (c.toks.take i) := hTab.mono fun b ys q => sm4 _ _ q
      walk_at "my_rd"
      refine q_fldK hx4 T.cl_Config T.n_Config_tokens lk0 ?_
      walk_at "my_rd"
      have ett : c.toks.take (i + 1) = c.toks.take i ++ [t] := take_snoc ht
      rw [hTab4.has]
      by_cases hnew : t.name ∈ (c.toks.take i).map TokR.name
      · rw [decide_eq_true hnew]
        walk_at "my_rd"
        refine kE (fun q => ?_) H4 (Kp.trans kp (Same.kp sm4))
        have h3 : ((c.toks.take (i + 1)).map TokR.name).Nodup := (List.Sublist.map _ (List.take_sublist _ _)).nodup q.1.tn
        rw [ett, List.map_append] at h3
        exact (List.nodup_append.mp h3).2.2 t.name hnew t.name (by simp) rfl
      rw [decide_eq_false hnew]
      walk_at "my_rd"
      refine q_fldK hx4 T.cl_Config T.n_Config_tokens lk0 ?_
      walk_at "my_rd"
      have hvn : valV kvs (Sum.inr t.name) = none := by
        have := hTab4.has t.name
        rw [decide_eq_false hnew] at this
        cases q : valV kvs (Sum.inr t.name) with
        | none => rfl
        | some _ => rw [q] at this; cases this
      refine q_dPutS hd4 (by rw [hTab4.len, List.length_take]; exact small1000 (by omega)) ?_
      walk_at "my_rd"
      have smu : ∀ b ys, H4 b = some (HO.tup ys) → upd H4 td (.dK (putK kvs (Sum.inr t.name) (.ref r))) b = some (.tup ys) := fun b ys q => upd_other (ne_of q hd4 (by intro z; cases z)) q
      refine ⟨putK kvs (Sum.inr t.name) (.ref r), _, rfl, upd_other nxd hx4, upd_same, ⟨?_, ?_⟩, ?_, ?_, Kp.new (Kp.trans kp (Same.kp sm4)) htd0⟩
      · rw [putK_new _ hvn, List.map_append, hTab4.keys, ett, List.map_append, List.map_append]
        rfl
      · intro t' ht'
        rw [ett] at ht'
        rw [valV_put hvn]
        rcases List.mem_append.mp ht' with h | h
        · obtain ⟨r', h1, h2⟩ := hTab4.at_ t' h
          refine ⟨r', ?_, smu _ _ h2⟩
          rw [if_neg, h1]
          intro e
          injection e with e
          exact hnew (e ▸ List.mem_map.mpr ⟨t', h, rfl⟩)
        · have e := List.mem_singleton.mp h
          subst e
          exact ⟨r, by rw [if_pos rfl], smu _ _ hr4⟩
      · intro t' ht'
        rw [ett] at ht'
        rcases List.mem_append.mp ht' with h | h
        · exact hok t' h
        · rw [List.mem_singleton.mp h]; exact htb
      · rw [ett, List.map_append]
        refine List.nodup_append.mpr ⟨hnd, by simp, fun a ha b hb => ?_⟩
        rintro rfl
        exact hnew ((List.mem_singleton.mp hb) ▸ ha)
    · rintro σ H4 ⟨kvs, rv, rfl, hx4, hd4, hTab4, hok, hnd, kp4⟩
      have et : c.toks.take tv.length = c.toks := List.take_of_length_le (by rw [hT.len]; exact Nat.le_refl _)
      rw [et] at hTab4 hok hnd
      walk_at "my_rd"
      refine q_forL (sqL (Kp.get kp4 hbl nbx)) (fun i σ H' => ∃ (rv : Option V), σ = [some (.ref x), some (.ref tl), some (.ref bl), some (.ref g), some (.int c.depth), some (.int c.window), some (.int c.delay), some (.int c.bundle), rv] ∧ (∀ b ∈ c.bals.take i, balB c.toks b = true) ∧ Same H4 H')
        ⟨_, rfl, by simp, Same.refl _⟩ (fun i σ H' _ ⟨_, _, _, sm⟩ => sqL (sm _ _ (Kp.get kp4 hbl nbx))) ?_ ?_
      · rintro i v σ H' hv ⟨rv, rfl, hbk, sm⟩
        obtain ⟨b, r, hb, rfl, hr0⟩ := hB.item hv
        have hbm := List.mem_of_getElem? hb
        have hr1 : H' r = some (.tup b.v) := sm _ _ (Kp.get kp4 hr0 (ne_of hr0 hx (by intro z; cases z)))
        walk_at "my_rd"
        refine q_fldK (sm _ _ hx4) T.cl_Config T.n_Config_tokens lk0 ?_
        walk_at "my_rd"
        refine ⟨r, td, b, kvs, c.toks, rfl, hr1, sm _ _ hd4, hTab4.mono fun b ys q => sm _ _ q, (hnb b hbm).1, (hnb b hbm).2, fun hbb H5 sm5 => ?_, fun hbb H5 sm5 => kE (fun q => by rw [bal_b (q.1.b b hbm)] at hbb; cases hbb) H5 (Kp.trans kp4 (Same.kp (Same.trans sm sm5)))⟩
        walk_at "my_rd"
        refine ⟨_, rfl, fun b' hb' => ?_, Same.trans sm sm5⟩
        rw [take_snoc hb] at hb'
        rcases List.mem_append.mp hb' with h | h
        · exact hbk b' h
        · rw [List.mem_singleton.mp h]; exact hbb
      · rintro σ H5 ⟨rv, rfl, hbk, sm5⟩
        rw [List.take_of_length_le (by rw [hB.len]; exact Nat.le_refl _)] at hbk
        have kp5 := Kp.trans kp4 (Same.kp sm5)
        have hG5 : TupDp K H5 (.ref g) gd := hG.mono fun b ys q => Kp.get kp5 q (ne_of q hx (by intro z; cases z))
        walk_at "my_rd"
        refine ⟨.ref g, gd, rfl, hG5.dp, hfine, fun H6 sm6 => ?_⟩
        have kp6 := Kp.trans kp5 (Same.kp sm6)
        cases hset : setD gd with
        | false =>
          walk_at "my_rd"
          exact kE (fun q => by rw [q.2] at hset; cases hset) H6 kp6
        | true =>
        walk_at "my_rd"
        refine ⟨_, c.depth, 1, rfl, by decide +kernel, by decide, fun hcd H7 sm7 => ?_, fun h7 H7 sm7 => kE (fun q => h7 q.1.d) H7 (Kp.trans kp6 (Same.kp sm7))⟩
        have kp7 := Kp.trans kp6 (Same.kp sm7)
        walk_at "my_rd"
        refine ⟨_, c.window, 1, rfl, by decide +kernel, by decide, fun hcw H8 sm8 => ?_, fun h7 H8 sm8 => kE (fun q => h7 q.1.w) H8 (Kp.trans kp7 (Same.kp sm8))⟩
        have kp8 := Kp.trans kp7 (Same.kp sm8)
        walk_at "my_rd"
        refine ⟨_, c.delay, 0, rfl, by decide +kernel, by decide, fun hcy H9 sm9 => ?_, fun h7 H9 sm9 => kE (fun q => h7 q.1.y) H9 (Kp.trans kp8 (Same.kp sm9))⟩
        have kp9 := Kp.trans kp8 (Same.kp sm9)
        walk_at "my_rd"
        refine ⟨_, c.bundle, 1, rfl, by decide +kernel, by decide, fun hcu H10 sm10 => ?_, fun h7 H10 sm10 => kE (fun q => h7 q.1.u) H10 (Kp.trans kp9 (Same.kp sm10))⟩
        have kp10 := Kp.trans kp9 (Same.kp sm10)
        walk_at "my_rd"
        by_cases h8 : (8 : Int) < c.bundle
        · rw [decide_eq_true h8]
          walk_at "my_rd"
          exact kE (fun q => by have := q.1.u8; omega) H10 kp10
        rw [decide_eq_false h8]
        walk_at "my_rd"
        have good : Good c gd := ⟨⟨fun t ht => tok_ok (hok t ht), hnd, hct, fun b hb => bal_ok (hbk b hb), hcb, hcd, hcw, hcy, hcu, by omega⟩, hset⟩
        have sm : Same H4 H10 := Same.trans sm5 (Same.trans sm6 (Same.trans sm7 (Same.trans sm8 (Same.trans sm9 sm10))))
        refine q_listL (sqL (Kp.get kp10 hbl nbx)) fun nb nnb => ?_
        walk_at "my_rd"
        have hx10 := sm _ _ hx4
        have nxb : x ≠ nb := ne_of_none hx10 nnb
        have ndb : td ≠ nb := ne_of_none (sm _ _ hd4) nnb
        have hnb0 : H nb = none := Kp.fresh kp10 hx nnb nxb.symm
        refine q_fputK (upd_new nnb hx10) T.cl_Config T.n_Config_balances (by show 1 < 1000; decide) ?_
        walk_at "my_rd"
        refine q_fputK upd_same T.cl_Config T.n_Config_guards (by show _ < 1000; exact Nat.lt_of_le_of_lt (q_fldlen (n := 1) (by show 1 ≤ 1; decide)) (by decide)) ?_
        walk_at "my_rd"
        refine q_fputK upd_same T.cl_Config T.n_Config_depth (Nat.lt_of_le_of_lt (q_fldlen (n := 2) (q_fldlen (n := 1) (by show 1 ≤ 1; decide))) (by decide)) ?_
        walk_at "my_rd"
        refine q_fputK upd_same T.cl_Config T.n_Config_window (Nat.lt_of_le_of_lt (q_fldlen (n := 3) (q_fldlen (n := 2) (q_fldlen (n := 1) (by show 1 ≤ 1; decide)))) (by decide)) ?_
        walk_at "my_rd"
        refine q_fputK upd_same T.cl_Config T.n_Config_delay (Nat.lt_of_le_of_lt (q_fldlen (n := 4) (q_fldlen (n := 3) (q_fldlen (n := 2) (q_fldlen (n := 1) (by show 1 ≤ 1; decide))))) (by decide)) ?_
        walk_at "my_rd"
        refine q_fputK upd_same T.cl_Config T.n_Config_bundle (Nat.lt_of_le_of_lt (q_fldlen (n := 5) (q_fldlen (n := 4) (q_fldlen (n := 3) (q_fldlen (n := 2) (q_fldlen (n := 1) (by show 1 ≤ 1; decide)))))) (by decide)) ?_
        walk_at "my_rd"
        rw [upd_upd, upd_upd, upd_upd, upd_upd, upd_upd]
        have kpU : ∀ o, Kp x H (upd (upd H10 nb (.lst bv)) x o) := fun o => Kp.upd (Kp.new kp10 hnb0)
        have tupU : ∀ o b ys, H10 b = some (HO.tup ys) → upd (upd H10 nb (.lst bv)) x o b = some (.tup ys) := fun o b ys q => upd_other (ne_of q hx10 (by intro z; cases z)) (upd_new nnb q)
        refine kQ good _ ⟨⟨dx, _, td, nb, kvs, bv, upd_same, ?_, ?_, ?_, ?_, ?_, ?_, ?_, ?_, upd_other nxd.symm (upd_new nnb (sm _ _ hd4)), (hTab4.mono fun b ys q => sm _ _ q).mono (tupU _), upd_other nxb.symm upd_same, ?_⟩⟩ (kpU _)
        · (repeat first | rfl | rw [lookup_putF, if_pos rfl] | rw [lookup_putF, if_neg (by decide +kernel)])
        · (repeat first | rfl | rw [lookup_putF, if_pos rfl] | rw [lookup_putF, if_neg (by decide +kernel)])
        · (repeat first | rfl | rw [lookup_putF, if_pos rfl] | rw [lookup_putF, if_neg (by decide +kernel)])
        · (repeat first | rfl | rw [lookup_putF, if_pos rfl] | rw [lookup_putF, if_neg (by decide +kernel)])
        · (repeat first | rfl | rw [lookup_putF, if_pos rfl] | rw [lookup_putF, if_neg (by decide +kernel)])
        · (repeat first | rfl | rw [lookup_putF, if_pos rfl] | rw [lookup_putF, if_neg (by decide +kernel)])
        · (repeat first | rfl | rw [lookup_putF, if_pos rfl] | rw [lookup_putF, if_neg (by decide +kernel)])
        · intro m hm
          have hne : ∀ z ∈ cfgNames, ¬ m = z := fun z hz e => hm (e ▸ hz)
          rw [lookup_putF, if_neg (hne _ (by decide +kernel)), lookup_putF, if_neg (hne _ (by decide +kernel)), lookup_putF, if_neg (hne _ (by decide +kernel)), lookup_putF, if_neg (hne _ (by decide +kernel)), lookup_putF, if_neg (hne _ (by decide +kernel)), lookup_putF, if_neg (hne _ (by decide +kernel)), lookup_putF, if_neg (hne _ (by decide +kernel))]
          rfl
        · exact (hB.kp hx kp10).mono (tupU _)
end
end Ra

local macro_rules | `(tactic| walk_at "my_rd") => `(tactic| (repeat first
  | with_reducible refine q_tCons ?_
  | ((with_reducible apply q_var); (focus (exact rfl)))
  | with_reducible refine q_c ?_
  | with_reducible refine q_nx ?_
  | with_reducible refine q_bK ?_
  | with_reducible refine q_call ?_
  | with_reducible refine q_callK ?_
  | with_reducible refine q_tNil ?_
  | with_reducible refine q_cb ?_
  | with_reducible refine q_seq ?_
  | with_reducible refine q_asg ?_
  | with_reducible refine q_gName ?_
  | with_reducible refine q_op ?_
  | with_reducible refine q_test ?_
  | with_reducible refine q_tB ?_
  | with_reducible refine q_ifS ?_
  | with_reducible refine q_ret ?_
  | with_reducible refine q_rt ?_
  | with_reducible refine q_next ?_
  | with_reducible refine q_ifF ?_
  | with_reducible refine q_ifT ?_
  | with_reducible refine q_drop ?_
  | with_reducible refine q_and ?_
  | with_reducible refine q_or ?_
  | with_reducible refine q_andT ?_
  | with_reducible refine q_andF ?_
  | with_reducible refine q_orF ?_
  | with_reducible refine q_orT ?_
  | with_reducible refine q_andV ?_
  | with_reducible refine q_andVT ?_
  | with_reducible refine q_andVF ?_
  | with_reducible refine q_orV ?_
  | with_reducible refine q_gCons ?_
  | with_reducible refine q_gNil ?_
  | with_reducible refine q_tup ?_
  | with_reducible refine q_lst ?_
  | with_reducible refine q_not ?_
  | with_reducible refine q_notKT ?_
  | with_reducible refine q_notKF ?_
  | with_reducible refine q_I0 ?_
  | with_reducible refine q_eqI ?_
  | with_reducible refine q_neI ?_
  | ((with_reducible refine q_I ?_ ?_); first | decide | omega | exact ⟨by omega, by omega⟩ | exact ⟨by decide, by decide⟩ | exact .inl ⟨by omega, by omega⟩ | exact .inr ⟨by omega, by omega⟩ | exact .inr ⟨by decide, by decide⟩)
  | with_reducible refine q_eqS ?_
  | with_reducible refine q_neS ?_
  | with_reducible refine q_brk ?_
  | with_reducible refine q_ct ?_
  | with_reducible refine q_bk ?_
  | with_reducible refine q_cn ?_
  | with_reducible refine q_retN ?_
  | with_reducible refine q_gSub ?_
  | with_reducible refine q_for ?_
  | with_reducible refine q_iList ?_
  | with_reducible refine q_iTup ?_
  | with_reducible refine q_iRng1 ?_
  | with_reducible refine q_notK ?_
  | with_reducible refine q_orVT ?_
  | with_reducible refine q_orVF ?_
  | with_reducible refine q_notV ?_
  | with_reducible refine q_notVK ?_
  | with_reducible refine q_ifE ?_
  | with_reducible refine q_ifET ?_
  | with_reducible refine q_ifEF ?_
  | with_reducible refine q_yes ?_
  | with_reducible refine q_un ?_
  | with_reducible refine q_rU ?_
  | with_reducible refine q_abs ?_
  | with_reducible refine q_int1 ?_
  | with_reducible refine q_bm ?_
  | with_reducible refine q_bm0 ?_
  | with_reducible refine q_lc ?_
  | with_reducible refine q_keepT ?_
  | with_reducible refine q_keepF ?_
  | ((with_reducible apply q_aug); (focus (exact rfl)))
  | with_reducible refine q_ipI ?_
  | with_reducible refine q_chain ?_
  | with_reducible refine q_pairC ?_
  | with_reducible refine q_pairsK ?_
  | with_reducible refine q_pairN ?_
  | with_reducible refine q_fld ?_
  | with_reducible refine q_sFld ?_
  | with_reducible refine q_meth ?_
  | with_reducible refine q_makeK ?_
  | with_reducible refine q_isBl ?_
  | with_reducible refine q_notBl ?_
  | with_reducible refine q_sl ?_
  | with_reducible refine q_noPart ?_
  | with_reducible refine q_part ?_
  | with_reducible refine q_partK ?_
  | ((with_reducible apply q_mulStr); (focus (decide +kernel)))
  | with_reducible refine q_chT ?_
  | with_reducible refine q_chF ?_
  | with_reducible refine q_ord ?_
  | with_reducible refine q_iStr0 ?_
  | with_reducible refine q_iStr ?_
  | with_reducible refine q_tDIn ?_
  | with_reducible refine q_tDNotIn ?_
  | with_reducible refine q_tDGet ?_
  | with_reducible refine q_tDGet2 ?_
  | with_reducible refine q_tDGet1 ?_
  | with_reducible refine q_tDSetd ?_
  | ((with_reducible apply q_dG2a); (focus ((repeat first | (with_reducible exact upd_same) | (with_reducible assumption) | (with_reducible apply upd_new (by assumption)) | (with_reducible apply upd_other (by first | assumption | exact Ne.symm (by assumption))) | (with_reducible refine' Kp.get (by assumption) ?_ (by first | assumption | exact Ne.symm (by assumption))) | (with_reducible apply Same.get (by assumption))); done)))
  | ((with_reducible apply q_dSda); (focus ((repeat first | (with_reducible exact upd_same) | (with_reducible assumption) | (with_reducible apply upd_new (by assumption)) | (with_reducible apply upd_other (by first | assumption | exact Ne.symm (by assumption))) | (with_reducible refine' Kp.get (by assumption) ?_ (by first | assumption | exact Ne.symm (by assumption))) | (with_reducible apply Same.get (by assumption))); done)))
  | with_reducible refine q_sDPut ?_
  | ((with_reducible apply q_dInS); (focus ((repeat first | (with_reducible exact upd_same) | (with_reducible assumption) | (with_reducible apply upd_new (by assumption)) | (with_reducible apply upd_other (by first | assumption | exact Ne.symm (by assumption))) | (with_reducible refine' Kp.get (by assumption) ?_ (by first | assumption | exact Ne.symm (by assumption))) | (with_reducible apply Same.get (by assumption))); done)))
  | ((with_reducible apply q_dNInS); (focus ((repeat first | (with_reducible exact upd_same) | (with_reducible assumption) | (with_reducible apply upd_new (by assumption)) | (with_reducible apply upd_other (by first | assumption | exact Ne.symm (by assumption))) | (with_reducible refine' Kp.get (by assumption) ?_ (by first | assumption | exact Ne.symm (by assumption))) | (with_reducible apply Same.get (by assumption))); done)))
  | ((with_reducible apply q_dInI); (focus ((repeat first | (with_reducible exact upd_same) | (with_reducible assumption) | (with_reducible apply upd_new (by assumption)) | (with_reducible apply upd_other (by first | assumption | exact Ne.symm (by assumption))) | (with_reducible refine' Kp.get (by assumption) ?_ (by first | assumption | exact Ne.symm (by assumption))) | (with_reducible apply Same.get (by assumption))); done)))
  | ((with_reducible apply q_dNInI); (focus ((repeat first | (with_reducible exact upd_same) | (with_reducible assumption) | (with_reducible apply upd_new (by assumption)) | (with_reducible apply upd_other (by first | assumption | exact Ne.symm (by assumption))) | (with_reducible refine' Kp.get (by assumption) ?_ (by first | assumption | exact Ne.symm (by assumption))) | (with_reducible apply Same.get (by assumption))); done)))
  | ((with_reducible apply q_bmL); (focus ((repeat first | (with_reducible exact upd_same) | (with_reducible assumption) | (with_reducible apply upd_new (by assumption)) | (with_reducible apply upd_other (by first | assumption | exact Ne.symm (by assumption))) | (with_reducible refine' Kp.get (by assumption) ?_ (by first | assumption | exact Ne.symm (by assumption))) | (with_reducible apply Same.get (by assumption))); done)))
  | ((with_reducible apply q_bmL0); (focus ((repeat first | (with_reducible exact upd_same) | (with_reducible assumption) | (with_reducible apply upd_new (by assumption)) | (with_reducible apply upd_other (by first | assumption | exact Ne.symm (by assumption))) | (with_reducible refine' Kp.get (by assumption) ?_ (by first | assumption | exact Ne.symm (by assumption))) | (with_reducible apply Same.get (by assumption))); done)))
  | ((with_reducible apply q_ixLt); (focus ((repeat first | (with_reducible exact upd_same) | (with_reducible assumption) | (with_reducible apply upd_new (by assumption)) | (with_reducible apply upd_other (by first | assumption | exact Ne.symm (by assumption))) | (with_reducible refine' Kp.get (by assumption) ?_ (by first | assumption | exact Ne.symm (by assumption))) | (with_reducible apply Same.get (by assumption))); done)); (focus (exact rfl)))
  | ((with_reducible apply q_ixTt); (focus ((repeat first | (with_reducible exact upd_same) | (with_reducible assumption) | (with_reducible apply upd_new (by assumption)) | (with_reducible apply upd_other (by first | assumption | exact Ne.symm (by assumption))) | (with_reducible refine' Kp.get (by assumption) ?_ (by first | assumption | exact Ne.symm (by assumption))) | (with_reducible apply Same.get (by assumption))); done)); (focus (exact rfl)))
  | ((with_reducible apply q_lenLt); (focus ((repeat first | (with_reducible exact upd_same) | (with_reducible assumption) | (with_reducible apply upd_new (by assumption)) | (with_reducible apply upd_other (by first | assumption | exact Ne.symm (by assumption))) | (with_reducible refine' Kp.get (by assumption) ?_ (by first | assumption | exact Ne.symm (by assumption))) | (with_reducible apply Same.get (by assumption))); done)))
  | ((with_reducible apply q_lenTt); (focus ((repeat first | (with_reducible exact upd_same) | (with_reducible assumption) | (with_reducible apply upd_new (by assumption)) | (with_reducible apply upd_other (by first | assumption | exact Ne.symm (by assumption))) | (with_reducible refine' Kp.get (by assumption) ?_ (by first | assumption | exact Ne.symm (by assumption))) | (with_reducible apply Same.get (by assumption))); done)))
  | ((with_reducible apply q_append); (focus ((repeat first | (with_reducible exact upd_same) | (with_reducible assumption) | (with_reducible apply upd_new (by assumption)) | (with_reducible apply upd_other (by first | assumption | exact Ne.symm (by assumption))) | (with_reducible refine' Kp.get (by assumption) ?_ (by first | assumption | exact Ne.symm (by assumption))) | (with_reducible apply Same.get (by assumption))); done)); (focus ((first | (exact Nat.lt_of_ble_eq_true rfl) | (simp only [List.length_append, List.length_cons, List.length_nil, List.length_map]; exact small1000 (by omega))))))
  | ((with_reducible apply q_setL); (focus ((repeat first | (with_reducible exact upd_same) | (with_reducible assumption) | (with_reducible apply upd_new (by assumption)) | (with_reducible apply upd_other (by first | assumption | exact Ne.symm (by assumption))) | (with_reducible refine' Kp.get (by assumption) ?_ (by first | assumption | exact Ne.symm (by assumption))) | (with_reducible apply Same.get (by assumption))); done)); (focus (exact rfl)))
  | with_reducible refine q_ifNT ?_
  | with_reducible refine q_ifNF ?_
  | with_reducible refine q_andNT ?_
  | with_reducible refine q_andNF ?_
  | with_reducible refine q_orNT ?_
  | with_reducible refine q_orNF ?_
  | with_reducible refine q_bKNT ?_
  | with_reducible refine q_bKNF ?_))
/-! the law's own comparison: plain values, and lists of them -/
def scV : V → Bool
  | .non => true
  | .bl _ => true
  | .int _ => true
  | .str _ => true
  | _ => false
theorem scV_ty {K : PySem.W.Frag} {H : Hp} {x : V} (h : scV x = true) : (x = .non ∧ TyX K H x (.type "NoneType")) ∨ (∃ b, x = .bl b ∧ TyX K H x (.type "bool")) ∨ (∃ i, x = .int i ∧ TyX K H x (.type "int")) ∨ (∃ s, x = .str s ∧ TyX K H x (.type "str")) := by
  cases x with
  | non => exact .inl ⟨rfl, .base .non⟩
  | bl b => exact .inr (.inl ⟨b, rfl, .base (.bl b)⟩)
  | int i => exact .inr (.inr (.inl ⟨i, rfl, .base (.int i)⟩))
  | str s => exact .inr (.inr (.inr ⟨s, rfl, .base (.str s)⟩))
  | byt => cases h
  | flt => cases h
  | ref => cases h
  | ty => cases h
theorem q_is {K : PySem.W.Frag} {H : Hp} {Q : VK} {x : V} {t : String} {n : String} {b : Bool} (ht : TyX K H x (.type t)) (hk : kitB t n = some b) (k : Q (.bl b) H) : rIsi K [x, .ty n] H Q := q_isi ht (kit_ty hk) k
def sp_isint (K : PySem.W.Frag) : Sp := fun vs H Q _ => ∃ x : V, vs = [x] ∧ scV x = true ∧ Q (.bl (match x with | .int _ => true | _ => false)) H
def sp_same1 (K : PySem.W.Frag) : Sp := fun vs H Q _ => ∃ x : V, vs = [x, x] ∧ scV x = true ∧ Q (.bl true) H
def sp_same (K : PySem.W.Frag) : Sp := fun vs H Q _ => ∃ (a b : Addr) (xs : List V), vs = [.ref a, .ref b] ∧ H a = some (.tup xs) ∧ H b = some (.tup xs) ∧ xs.all scV = true ∧ xs.length ≤ 1000 ∧ ∀ H', Same H H' → Q (.bl true) H'
theorem dec_ref {b : Addr} : decide (V.ref b = V.non) = false := decide_eq_false (by intro z; cases z)
theorem all_true (n : Nat) : (List.replicate n true).all id = true := by
  induction n with
  | zero => rfl
  | succ n ih => rw [List.replicate_succ, List.all_cons, ih]; rfl
section
variable {P : Program} {w : World} {K : PySem.W.Frag} {mg : Str → Option Value} {base : Heap}
theorem ok_L_is_int (T : Txt K mg) : FnOk P w K mg base CX0 1 T.f_L_is_int T.d_L_is_int ["value"] (sp_isint K) := by
  refine T.F_L_is_int.ok sc_L_is_int (fun vs H Q E h => ?_) (fun cdv A outer s H vs Q E hr h => ?_)
  · obtain ⟨x, rfl, _⟩ := h; rfl
  · obtain ⟨x, rfl, hx, k⟩ := h
    refine ⟨_, (pss_one (ps_ret (pe_and (pe_callB call_isi (by rfl) T.z_isinstance boot_isinstance (pa_cons (pv 0) (pa_cons (pe_bltn (v := .ty "int") (by rfl) T.z_int boot_int rfl) pa_nil))) (pe_one (pe_not (pe_callB call_isi (by rfl) T.z_isinstance boot_isinstance (pa_cons (pv 0) (pa_cons (pe_bltn (v := .ty "bool") (by rfl) T.z_bool boot_bool rfl) pa_nil)))))))), ?_⟩
    (dsimp only [cxOf, Cx.nox, Cx.wish, L2.start, List.map, List.length, List.replicate, List.cons_append, List.nil_append, List.append_eq, Nat.reduceSub, Nat.reduceAdd])
    walk_at "my_rd"
    rcases scV_ty (K := K) (H := H) hx with ⟨rfl, ht⟩ | ⟨b, rfl, ht⟩ | ⟨i, rfl, ht⟩ | ⟨z, rfl, ht⟩
    · refine q_is ht (b := false) (by decide +kernel) ?_
      walk_at "my_rd"
      exact k
    · refine q_is ht (b := true) (by decide +kernel) ?_
      walk_at "my_rd"
      refine q_is ht (b := true) (by decide +kernel) ?_
      walk_at "my_rd"
      exact k
    · refine q_is ht (b := true) (by decide +kernel) ?_
      walk_at "my_rd"
      refine q_is ht (b := false) (by decide +kernel) ?_
      walk_at "my_rd"
      exact k
    · refine q_is ht (b := false) (by decide +kernel) ?_
      walk_at "my_rd"
      exact k
theorem ok_L_same1 (T : Txt K mg) : FnOk P w K mg base CX0 2 T.f_L_same T.d_L_same ["found", "value"] (sp_same1 K) := by
  refine T.F_L_same.ok sc_L_same (fun vs H Q E h => ?_) (fun cdv A outer s H vs Q E hr h => ?_)
  · obtain ⟨x, rfl, _⟩ := h; rfl
  · obtain ⟨x, rfl, hx, k⟩ := h
    refine ⟨_, (pss_cons (ps_if (pt_cmpR op_isN (pv 1) pe_non (nomark _)) (pss_one (ps_ret (pe_cmpR op_isN (pv 0) pe_non (nomark _)))) pss_nil)
      (pss_cons (ps_if (pt_val (pe_callB call_isi (by rfl) T.z_isinstance boot_isinstance (pa_cons (pv 1) (pa_cons (pe_bltn (v := .ty "bool") (by rfl) T.z_bool boot_bool rfl) pa_nil)))) (pss_one (ps_ret (pe_and (pe_callB call_isi (by rfl) T.z_isinstance boot_isinstance (pa_cons (pv 0) (pa_cons (pe_bltn (v := .ty "bool") (by rfl) T.z_bool boot_bool rfl) pa_nil))) (pe_one (pe_cmpR op_eq (pv 0) (pv 1) (nomark _)))))) pss_nil)
      (pss_cons (ps_if (pt_val (pe_callB call_isi (by rfl) T.z_isinstance boot_isinstance (pa_cons (pv 1) (pa_cons (pe_bltn (v := .ty "int") (by rfl) T.z_int boot_int rfl) pa_nil)))) (pss_one (ps_ret (pe_and (pe_call (ok_L_is_int T) (hr.mono (by decide)) (by rfl) T.g_L_is_int T.F_L_is_int.kp T.b_L_is_int .nil pass0 (pa_cons (pv 0) pa_nil)) (pe_one (pe_cmpR op_eq (pv 0) (pv 1) (nomark _)))))) pss_nil)
      (pss_cons (ps_if (pt_val (pe_callB call_isi (by rfl) T.z_isinstance boot_isinstance (pa_cons (pv 1) (pa_cons (pe_bltn (v := .ty "str") (by rfl) T.z_str boot_str rfl) pa_nil)))) (pss_one (ps_ret (pe_and (pe_callB call_isi (by rfl) T.z_isinstance boot_isinstance (pa_cons (pv 0) (pa_cons (pe_bltn (v := .ty "str") (by rfl) T.z_str boot_str rfl) pa_nil))) (pe_one (pe_cmpR op_eq (pv 0) (pv 1) (nomark _)))))) pss_nil)
      (pss_cons ps_never
      (pss_one ps_never)))))), ?_⟩
    (dsimp only [cxOf, Cx.nox, Cx.wish, L2.start, List.map, List.length, List.replicate, List.cons_append, List.nil_append, List.append_eq, Nat.reduceSub, Nat.reduceAdd])
    walk_at "my_rd"
    rcases scV_ty (K := K) (H := H) hx with ⟨rfl, ht⟩ | ⟨b, rfl, ht⟩ | ⟨i, rfl, ht⟩ | ⟨z, rfl, ht⟩
    · refine q_isN' ?_
      rw [decide_eq_true rfl]
      walk_at "my_rd"
      refine q_isN' ?_
      rw [decide_eq_true rfl]
      walk_at "my_rd"
      exact k
    · refine q_isN' ?_
      rw [decide_eq_false (show ¬ V.bl b = V.non by intro z; cases z)]
      walk_at "my_rd"
      refine q_is ht (b := true) (by decide +kernel) ?_
      walk_at "my_rd"
      refine q_is ht (b := true) (by decide +kernel) ?_
      walk_at "my_rd"
      refine q_eq rfl ?_
      rw [decide_eq_true rfl]
      walk_at "my_rd"
      exact k
    · refine q_isN' ?_
      rw [decide_eq_false (show ¬ V.int i = V.non by intro z; cases z)]
      walk_at "my_rd"
      refine q_is ht (b := false) (by decide +kernel) ?_
      walk_at "my_rd"
      refine q_is ht (b := true) (by decide +kernel) ?_
      walk_at "my_rd"
      refine ⟨.int i, rfl, rfl, ?_⟩
      walk_at "my_rd"
      rw [decide_eq_true rfl]
      walk_at "my_rd"
      exact k
    · refine q_isN' ?_
      rw [decide_eq_false (show ¬ V.str z = V.non by intro z; cases z)]
      walk_at "my_rd"
      refine q_is ht (b := false) (by decide +kernel) ?_
      walk_at "my_rd"
      refine q_is ht (b := false) (by decide +kernel) ?_
      walk_at "my_rd"
      refine q_is ht (b := true) (by decide +kernel) ?_
      walk_at "my_rd"
      refine q_is ht (b := true) (by decide +kernel) ?_
      walk_at "my_rd"
      rw [decide_eq_true rfl]
      walk_at "my_rd"
      exact k
theorem ok_L_same (T : Txt K mg) : FnOk P w K mg base CX0 3 T.f_L_same T.d_L_same ["found", "value"] (sp_same K) := by
  refine T.F_L_same.ok sc_L_same (fun vs H Q E h => ?_) (fun cdv A outer s H vs Q E hr h => ?_)
  · obtain ⟨a, b, xs, rfl, _⟩ := h; rfl
  · obtain ⟨a, b, xs, rfl, ha, hb, hxs, hl, k⟩ := h
    refine ⟨_, (pss_cons (ps_if (pt_cmpR op_isN (pv 1) pe_non (nomark _)) (pss_one (ps_ret (pe_cmpR op_isN (pv 0) pe_non (nomark _)))) pss_nil)
      (pss_cons (ps_if (pt_val (pe_callB call_isi (by rfl) T.z_isinstance boot_isinstance (pa_cons (pv 1) (pa_cons (pe_bltn (v := .ty "bool") (by rfl) T.z_bool boot_bool rfl) pa_nil)))) (pss_one (ps_ret (pe_and (pe_callB call_isi (by rfl) T.z_isinstance boot_isinstance (pa_cons (pv 0) (pa_cons (pe_bltn (v := .ty "bool") (by rfl) T.z_bool boot_bool rfl) pa_nil))) (pe_one (pe_cmpR op_eq (pv 0) (pv 1) (nomark _)))))) pss_nil)
      (pss_cons (ps_if (pt_val (pe_callB call_isi (by rfl) T.z_isinstance boot_isinstance (pa_cons (pv 1) (pa_cons (pe_bltn (v := .ty "int") (by rfl) T.z_int boot_int rfl) pa_nil)))) (pss_one (ps_ret (pe_and (pe_call (ok_L_is_int T) (hr.mono (by decide)) (by rfl) T.g_L_is_int T.F_L_is_int.kp T.b_L_is_int .nil pass0 (pa_cons (pv 0) pa_nil)) (pe_one (pe_cmpR op_eq (pv 0) (pv 1) (nomark _)))))) pss_nil)
      (pss_cons (ps_if (pt_val (pe_callB call_isi (by rfl) T.z_isinstance boot_isinstance (pa_cons (pv 1) (pa_cons (pe_bltn (v := .ty "str") (by rfl) T.z_str boot_str rfl) pa_nil)))) (pss_one (ps_ret (pe_and (pe_callB call_isi (by rfl) T.z_isinstance boot_isinstance (pa_cons (pv 0) (pa_cons (pe_bltn (v := .ty "str") (by rfl) T.z_str boot_str rfl) pa_nil))) (pe_one (pe_cmpR op_eq (pv 0) (pv 1) (nomark _)))))) pss_nil)
      (pss_cons (ps_if (PW.pt (pw_or (pt_cmpR op_ne (pe_callB call_isi (by rfl) T.z_isinstance boot_isinstance (pa_cons (pv 1) (pa_cons (pe_bltn (v := .ty "list") (by rfl) T.z_list boot_list rfl) pa_nil))) (pe_callB call_isi (by rfl) T.z_isinstance boot_isinstance (pa_cons (pv 0) (pa_cons (pe_bltn (v := .ty "list") (by rfl) T.z_list boot_list rfl) pa_nil))) (nomark _)) (pw_or1 (pt_cmpR op_ne (pe_callB call_isi (by rfl) T.z_isinstance boot_isinstance (pa_cons (pv 1) (pa_cons (pe_bltn (v := .ty "tuple") (by rfl) T.z_tuple boot_tuple rfl) pa_nil))) (pe_callB call_isi (by rfl) T.z_isinstance boot_isinstance (pa_cons (pv 0) (pa_cons (pe_bltn (v := .ty "tuple") (by rfl) T.z_tuple boot_tuple rfl) pa_nil))) (nomark _))))) (pss_one (ps_ret pe_bl)) pss_nil)
      (pss_one (ps_ret (pe_and (pe_cmpR op_eq (pe_callB cq_len (by rfl) T.z_len boot_len (pa_cons (pv 0) pa_nil)) (pe_callB cq_len (by rfl) T.z_len boot_len (pa_cons (pv 1) pa_nil)) (nomark _)) (pe_one (pe_callB (cr_all rfl) (by rfl) T.z_all boot_all (pa_cons (pe_lc (own := [("k", 2)]) (g := (gName 2)) (tt := tYes) (te := (tCall (sp_same1 K) [] E0 (tCons (tOp (rIxT K) (tVar 0) (tVar 2)) (tCons (tOp (rIxT K) (tVar 1) (tVar 2)) tNil)))) rfl sc_L_same.nd (pi_range1 (by rfl) T.z_range (pa_cons (pe_callB cq_len (by rfl) T.z_len boot_len (pa_cons (pv 1) pa_nil)) pa_nil)) (blkOk_by (own := [("k", 2)]) (N := ["found", "value", "k"]) (sc := defScope s_L_same) (by decide +kernel)) (fun _ _ _ _ _ => (pg_name (i := 2) sc_L_same.nd rfl (Or.inl rfl))) (fun _ _ _ _ _ => pts_nil) (fun _ _ _ _ _ => (pe_call (ok_L_same1 T) (hr.mono (by decide)) (by rfl) T.g_L_same T.F_L_same.kp T.b_L_same .nil pass0 (pa_cons (pe_ix ix_tup (pv 0) (pv 2) (fun _ _ => rfl)) (pa_cons (pe_ix ix_tup (pv 1) (pv 2) (fun _ _ => rfl)) pa_nil))))) pa_nil))))))))))), ?_⟩
    (dsimp only [cxOf, Cx.nox, Cx.wish, L2.start, List.map, List.length, List.replicate, List.cons_append, List.nil_append, List.append_eq, Nat.reduceSub, Nat.reduceAdd])
    walk_at "my_rd"
    have ta : TyX K H (.ref a) (.type "tuple") := .base (.tup ha)
    have tb : TyX K H (.ref b) (.type "tuple") := .base (.tup hb)
    refine q_isN' ?_
    rw [dec_ref]
    walk_at "my_rd"
    refine q_is tb (b := false) (by decide +kernel) ?_
    walk_at "my_rd"
    refine q_is tb (b := false) (by decide +kernel) ?_
    walk_at "my_rd"
    refine q_is tb (b := false) (by decide +kernel) ?_
    walk_at "my_rd"
    refine q_is tb (b := false) (by decide +kernel) ?_
    walk_at "my_rd"
    refine q_is ta (b := false) (by decide +kernel) ?_
    refine q_neBs ?_
    walk_at "my_rd"
    refine q_is tb (b := true) (by decide +kernel) ?_
    walk_at "my_rd"
    refine q_is ta (b := true) (by decide +kernel) ?_
    refine q_neBs ?_
    walk_at "my_rd"
    rw [decide_eq_true rfl]
    walk_at "my_rd"
    refine q_lcR ⟨by omega, by omega⟩ (fun D nD => ⟨fun i H2 => Same H H2 ∧ H2 D = some (.lst ((List.replicate i true).map V.bl)), ⟨Same.new (Same.refl _) nD, upd_same⟩, ?_, ?_⟩)
    · rintro i H2 hi ⟨sm, hD⟩
      have hi2 : i < xs.length := by omega
      walk_at "my_rd"
      refine ⟨rfl, ?_⟩
      walk_at "my_rd"
      refine q_ixTt (sm _ _ ha) (at_int rfl (List.getElem?_eq_getElem hi2)) ?_
      walk_at "my_rd"
      refine q_ixTt (sm _ _ hb) (at_int rfl (List.getElem?_eq_getElem hi2)) ?_
      walk_at "my_rd"
      refine ⟨_, rfl, List.all_eq_true.mp hxs _ (List.getElem_mem hi2), ?_⟩
      refine q_accK hD (by rw [List.length_map, List.length_replicate]; exact small1000 (by omega)) ⟨Same.new sm nD, ?_⟩
      rw [upd_same, List.replicate_succ', List.map_append]
      rfl
    · rintro H2 ⟨sm, hD⟩
      walk_at "my_rd"
      refine q_all (sqL hD) ?_
      walk_at "my_rd"
      rw [all_true]
      exact k _ sm
end

/-! the rest of Config, and the law's refusals -/
def sp_names (C : Addr) : Sp := fun vs H Q _ => ∃ (x g : Addr) (c : Parts), vs = [.ref x] ∧ CfgAt C c g H x ∧ c.toks.length < 64 ∧ ∀ (ys : List Str) (p : Addr), ys.Perm (c.toks.map TokR.name) → sortedS ys = true → H p = none → Q (.ref p) (upd H p (.lst (ys.map V.str)))
def sp_other : Sp := fun vs H Q _ => ∃ s : Str, vs = [.str s] ∧ Q (.str (if s = "west" then "east" else "west")) H
section
variable {P : Program} {w : World} {K : PySem.W.Frag} {mg : Str → Option Value} {base : Heap}
theorem ok_other_side (T : Txt K mg) : FnOk P w K mg base CX0 1 T.f_other_side T.d_other_side ["side"] sp_other := by
  refine T.F_other_side.ok sc_other_side (fun vs H Q E h => ?_) (fun cdv A outer s H vs Q E hr h => ?_)
  · obtain ⟨x, rfl, _⟩ := h; rfl
  · obtain ⟨x, rfl, k⟩ := h
    refine ⟨_, (pss_one (ps_ret (pe_ifExp (pt_cmpR op_eq (pv 0) pe_str (nomark _)) pe_str pe_str))), ?_⟩
    (dsimp only [cxOf, Cx.nox, Cx.wish, L2.start, List.map, List.length, List.replicate, List.cons_append, List.nil_append, List.append_eq, Nat.reduceSub, Nat.reduceAdd])
    walk_at "my_rd"
    by_cases e : x = "west"
    · rw [decide_eq_true e]
      rw [if_pos e] at k
      walk_at "my_rd"
      exact k
    · rw [decide_eq_false e]
      rw [if_neg e] at k
      walk_at "my_rd"
      exact k
theorem ok_Config_token_names (T : Txt K mg) : FnOk P w K mg base CX0 2 T.f_Config_token_names T.d_Config_token_names ["self"] (sp_names T.C_Config) := by
  refine T.F_Config_token_names.ok sc_Config_token_names (fun vs H Q E h => ?_) (fun cdv A outer s H vs Q E hr h => ?_)
  · obtain ⟨x, g, c, rfl, _⟩ := h; rfl
  · obtain ⟨x, g, c, rfl, hC, hl, k⟩ := h
    obtain ⟨dx, fs, td, bl, kvs, bv, h1, h2, h3, h4, h5, h6, h7, h8, h9, h10, h11, h12, h13⟩ := hC.ex
    refine ⟨_, (pss_one (ps_ret (pe_callB (call_sortedD rfl) (by rfl) T.z_sorted boot_sorted (pa_cons (pe_fld (pv 0) rfl) pa_nil)))), ?_⟩
    (dsimp only [cxOf, Cx.nox, Cx.wish, L2.start, List.map, List.length, List.replicate, List.cons_append, List.nil_append, List.append_eq, Nat.reduceSub, Nat.reduceAdd])
    walk_at "my_rd"
    refine q_fldK h1 T.cl_Config T.n_Config_tokens h2 ?_
    walk_at "my_rd"
    refine ⟨td, kvs, c.toks.map TokR.name, rfl, .inl h10, h11.keys, by rw [List.length_map]; exact hl, fun ys p h1 h2 h3 => ?_⟩
    walk_at "my_rd"
    exact k ys p h1 h2 h3
theorem ok_Config_limit (T : Txt K mg) : FnOk P w K mg base CX0 2 T.f_Config_limit T.d_Config_limit ["self", "token"] (sp_tok T.C_Config fun t => .int t.limit) := by
  refine T.F_Config_limit.ok sc_Config_limit (fun vs H Q E h => ?_) (fun cdv A outer s H vs Q E hr h => ?_)
  · obtain ⟨x, g, c, t, rfl, _⟩ := h; rfl
  · obtain ⟨x, g, c, t, rfl, hC, ht, k⟩ := h
    have hu := hu_of hr
    obtain ⟨dx, fs, td, bl, kvs, bv, h1, h2, h3, h4, h5, h6, h7, h8, h9, h10, h11, h12, h13⟩ := hC.ex
    obtain ⟨r, hv, hr0⟩ := h11.at_ t ht
    have hr1 : H r = some (.tup [.str t.name, .str t.home, .int t.scale, .int t.limit, .int t.large]) := hr0
    refine ⟨_, (pss_cons (ps_expr (pe_meth (pv 0) T.cl_Config T.m_Config_check_token (ok_Config_check_token T) (hr.mono (by decide)) T.b_Config_check_token .nil pass0 (pa_cons (pv 1) pa_nil)))
      (pss_one (ps_ret (pe_ix ix_tup (pe_dget hu (pe_fld (pv 0) rfl) (pv 1) (fun _ _ => rfl)) pe_int (fun _ _ => rfl))))), ?_⟩
    (dsimp only [cxOf, Cx.nox, Cx.wish, L2.start, List.map, List.length, List.replicate, List.cons_append, List.nil_append, List.append_eq, Nat.reduceSub, Nat.reduceAdd])
    walk_at "my_rd"
    refine q_methK h1 (h9 _ no_check_token) fun R hR => ?_
    walk_at "my_rd"
    refine hR _ _ ⟨x, g, c, t, rfl, hC, ht, ?_⟩
    walk_at "my_rd"
    refine q_fldK h1 T.cl_Config T.n_Config_tokens h2 ?_
    walk_at "my_rd"
    refine q_dGetS h10 hv ?_
    walk_at "my_rd"
    exact k
theorem ok_Config_large (T : Txt K mg) : FnOk P w K mg base CX0 2 T.f_Config_large T.d_Config_large ["self", "token"] (sp_tok T.C_Config fun t => .int t.large) := by
  refine T.F_Config_large.ok sc_Config_large (fun vs H Q E h => ?_) (fun cdv A outer s H vs Q E hr h => ?_)
  · obtain ⟨x, g, c, t, rfl, _⟩ := h; rfl
  · obtain ⟨x, g, c, t, rfl, hC, ht, k⟩ := h
    have hu := hu_of hr
    obtain ⟨dx, fs, td, bl, kvs, bv, h1, h2, h3, h4, h5, h6, h7, h8, h9, h10, h11, h12, h13⟩ := hC.ex
    obtain ⟨r, hv, hr0⟩ := h11.at_ t ht
    have hr1 : H r = some (.tup [.str t.name, .str t.home, .int t.scale, .int t.limit, .int t.large]) := hr0
    refine ⟨_, (pss_cons (ps_expr (pe_meth (pv 0) T.cl_Config T.m_Config_check_token (ok_Config_check_token T) (hr.mono (by decide)) T.b_Config_check_token .nil pass0 (pa_cons (pv 1) pa_nil)))
      (pss_one (ps_ret (pe_ix ix_tup (pe_dget hu (pe_fld (pv 0) rfl) (pv 1) (fun _ _ => rfl)) pe_int (fun _ _ => rfl))))), ?_⟩
    (dsimp only [cxOf, Cx.nox, Cx.wish, L2.start, List.map, List.length, List.replicate, List.cons_append, List.nil_append, List.append_eq, Nat.reduceSub, Nat.reduceAdd])
    walk_at "my_rd"
    refine q_methK h1 (h9 _ no_check_token) fun R hR => ?_
    walk_at "my_rd"
    refine hR _ _ ⟨x, g, c, t, rfl, hC, ht, ?_⟩
    walk_at "my_rd"
    refine q_fldK h1 T.cl_Config T.n_Config_tokens h2 ?_
    walk_at "my_rd"
    refine q_dGetS h10 hv ?_
    walk_at "my_rd"
    exact k
end
/-! a class made with keywords, within a try -/
def tMakeKA (C : Addr) (m : Nat) (sp : Sp) (gV : List V → List V → List V) (E : L2.St → XK) (tk : TA) : TE := fun σ H Q => tk σ H fun zs J => zs.length = m ∧ ∀ y dy, J y = none → J dy = none → dy ≠ y → sp (gV [.ref y] zs) (upd (upd J dy (.own y)) y (.ins C dy [])) (fun v J2 => v = .non ∧ Q (.ref y) J2) (E σ)
section
variable {X : Cx} {CX : CXT} {k : Nat} {f C : Addr} {fd : FuncData} {ps ks : List Str} {sp : Sp} {E : L2.St → XK} {x : Str} {p pos : Pos} {kws : List Keyword} {tk : TA} {g : List Value → List Value → List Value} {gV : List V → List V → List V}
theorem pe_makeKA (M : Mk X.K C f) (Fo : FnOk X.prog X.w X.K X.mg X.base CX k f fd ps sp) (ro : Room (k + 1) X.A) (gl : Gl X x) (gm : X.mg x = some (.ref C)) (kb : KBn X.K fd ps 1 ks g gV) (pa : ∀ σ, PassesAt CX X σ (E σ)) (hk : PK X kws tk)
    (h1 : (backToKw pos (keywordEach kws X.env)).all (·.1.isSome) = true := by rfl) (h2 : (backToKw pos (keywordEach kws X.env)).filterMap (·.1) = ks := by rfl) (h3 : (x == ("__debug__" : Str)) = false := by decide)
    (h4 : ((backTo pos (starEach [] X.env)).any (·.1) || (backToKw pos (keywordEach kws X.env)).any (·.1.isNone)) = false := by rfl) : PE X (.Call (.Name x p) [] kws pos) (tMakeKA C ks.length sp gV E tk) := ⟨fun pins s σ H Q I h => by
  refine wpAny_Call_Name_kw (ld_glob I gl gm ?_ h3)
  refine PySem.W.callWith_KW0 (h₀ := X.base) I.ok.mod.kin M.kp h1 ?_ h4
  refine thn (hk.run pos pins s σ H _ I h) fun ws z ⟨zs, J, IJ, rz, lz, q⟩ => ⟨IJ.kIn, ?_⟩
  rw [h2]
  have fr := q (z.heap.objs.size + 1) z.heap.objs.size (IJ.hok.fresh (Nat.le_succ _)) (IJ.hok.fresh (Nat.le_refl _)) (Nat.ne_of_lt (Nat.lt_succ_self _))
  have IM := Inv.made (C := C) IJ
  have rM : Vals [V.ref (z.heap.objs.size + 1)] [Value.ref (z.heap.objs.size + 1)] := .cons rfl .nil
  have lw : ws.length = ks.length := rz.length.symm.trans lz
  have bM := kb.to _ [Value.ref (z.heap.objs.size + 1)] ws IM.kIn rfl lw
  refine wpAny_call (make_map (f := f) IJ.kIn M.makes M.init (beq_iff_eq.mp M.fn) (codeAny_mono (Fo.run _ X.stack _ _ ⟨[Value.ref (z.heap.objs.size + 1)], ks.zip ws⟩ (g [Value.ref (z.heap.objs.size + 1)] ws) _ _ (E σ) (ro.make C [] (ks.zip ws)) (IM.env0.make C [] (ks.zip ws)) bM (kb.rel rM rz) fr) fun r t e => ?_))
  cases r with
  | error v => exact pa σ pins _ _ v t IM e
  | ok fl =>
    cases fl with
    | ret u =>
      obtain ⟨v, J2, I2, rv, ev, q2⟩ := IM.after e
      subst ev
      exact ⟨rv, ⟨V.ref (z.heap.objs.size + 1), J2, I2, rfl, q2⟩⟩
    | next => exact e.elim
    | brk => exact e.elim
    | cont => exact e.elim⟩
end
section
variable {σ : L2.St} {H : Hp} {Q : VK}
def mkAK (C : Addr) (m : Nat) (sp : Sp) (gV : List V → List V → List V) (E : L2.St → XK) (σ : L2.St) (Q : VK) : List V → Hp → Prop := fun zs J => zs.length = m ∧ ∀ y dy, J y = none → J dy = none → dy ≠ y → sp (gV [.ref y] zs) (upd (upd J dy (.own y)) y (.ins C dy [])) (fun v J2 => v = .non ∧ Q (.ref y) J2) (E σ)
theorem q_makeKA {C : Addr} {m : Nat} {sp : Sp} {gV : List V → List V → List V} {E : L2.St → XK} {tk : TA} (h : tk σ H (mkAK C m sp gV E σ Q)) : tMakeKA C m sp gV E tk σ H Q := h
end
namespace Ra
def sp_Lrefused (K : PySem.W.Frag) : Sp := fun vs H Q _ => ∃ (tl bl g : Addr) (tv bv : List V) (gd : PyData) (c : Parts), vs = [.ref tl, .ref bl, .ref g, .int c.depth, .int c.window, .int c.delay, .int c.bundle] ∧
  H tl = some (.lst tv) ∧ H bl = some (.lst bv) ∧ RowsAt TokR.v H tv c.toks ∧ RowsAt BalR.v H bv c.bals ∧ TupDp K H (.ref g) gd ∧ FineS gd ∧ c.toks.length ≤ 1000 ∧ c.bals.length ≤ 1000 ∧ (∀ t ∈ c.toks, t.name.length ≤ 100000) ∧ (∀ b ∈ c.bals, b.acc.length ≤ 100000 ∧ b.tok.length ≤ 100000) ∧
  ¬ Good c gd ∧ ∀ H', Same H H' → Q (.bl true) H'
def sp_Lunknown (C : Addr) : Sp := fun vs H Q _ => ∃ (x g : Addr) (c : Parts), vs = [.ref x] ∧ CfgAt C c g H x ∧ ("lead" : Str) ∉ c.toks.map TokR.name ∧ Q (.bl true) H
section
variable {P : Program} {w : World} {K : PySem.W.Frag} {mg : Str → Option Value} {base : Heap}
theorem ok_L_refused (T : Txt K mg) : FnOk P w K mg base CX0 8 T.f_L_refused T.d_L_refused ["tokens", "balances", "guards", "depth", "window", "delay", "many"] (sp_Lrefused K) := by
  refine T.F_L_refused.ok sc_L_refused (fun vs H Q E h => ?_) (fun cdv A outer s H vs Q E hr h => ?_)
  · obtain ⟨tl, bl, g, tv, bv, gd, c, rfl, _⟩ := h; rfl
  · obtain ⟨tl, bl, g, tv, bv, gd, c, rfl, htl, hbl, hT, hB, hG, hF, l1, l2, l3, l4, hng, k⟩ := h
    refine ⟨_, PSs.nox (pss_cons (ps_try_as (i := 7) rfl rfl sc_L_refused.nd rfl rfl ⟨rfl, by decide, .inl T.g_BridgeError⟩ takes0 (fun W pn xe tk _ => (pss_one (ps_expr (pe_makeKA T.mk_Config (ok_Config_init T) (hr.mono (by decide)) (by rfl) T.g_Config T.kb7_Config_init (fun σ => passAt tk σ) (pk_cons (pv 0) (pk_cons (pv 1) (pk_cons (pv 2) (pk_cons (pv 3) (pk_cons (pv 4) (pk_cons (pv 5) (pk_cons (pv 6) pk_nil)))))))))))
      (fun a oe cls d pn hz hf => (pss_cls (C := T.C_InvalidArgument) hz fun hz => (pss_one (ps_ret (pe_callB (call_isE (T.ec_InvalidArgument) hz hf) (by rfl) T.z_isinstance boot_isinstance (pa_cons (pv 7) (pa_cons (pe_glob (v := .ref T.C_InvalidArgument) (by rfl) T.g_InvalidArgument rfl) pa_nil))))))))
      (pss_one (ps_ret pe_bl))), ?_⟩
    (dsimp only [cxOf, Cx.nox, Cx.wish, L2.start, List.map, List.length, List.replicate, List.cons_append, List.nil_append, List.append_eq, Nat.reduceSub, Nat.reduceAdd])
    walk_at "my_rd"
    refine q_makeKA ?_
    walk_at "my_rd"
    refine ⟨rfl, fun x dx nx ndx hne => ?_⟩
    have smM : Same H (upd (upd H dx (.own x)) x (.ins T.C_Config dx [])) := Same.up (Same.up (Same.refl _) ndx) (upd_free hne.symm nx)
    refine ⟨x, dx, tl, bl, g, tv, bv, gd, c, rfl, upd_same, smM _ _ htl, smM _ _ hbl, hT.same smM, hB.same smM, hG.mono fun b ys q => smM _ _ q, hF, l1, l2, l3, l4, fun q => absurd q hng, fun _ H1 kp => ⟨true, T.ex_InvalidArgument, fun _ e he => ⟨⟨rfl, rfl⟩, ?_⟩, fun q => nomatch q⟩⟩
    walk_at "my_rd"
    refine q_isE T.hi_InvalidArgument ?_
    walk_at "my_rd"
    exact k H1 fun b o q => kp b o (smM _ _ q) (ne_of_none q nx)
theorem ok_L_unknown (T : Txt K mg) : FnOk P w K mg base CX0 3 T.f_L_unknown T.d_L_unknown ["config"] (sp_Lunknown T.C_Config) := by
  refine T.F_L_unknown.ok sc_L_unknown (fun vs H Q E h => ?_) (fun cdv A outer s H vs Q E hr h => ?_)
  · obtain ⟨x, g, c, rfl, _⟩ := h; rfl
  · obtain ⟨x, g, c, rfl, hC, hn, k⟩ := h
    obtain ⟨dx, fs, td, bl, kvs, bv, h1, h2, h3, h4, h5, h6, h7, h8, h9, h10, h11, h12, h13⟩ := hC.ex
    refine ⟨_, (pss_cons (ps_try_as (i := 1) rfl rfl sc_L_unknown.nd rfl rfl ⟨rfl, by decide, .inl T.g_BridgeError⟩ takes0 (fun W pn xe tk _ => (pss_one (ps_expr (pe_methA (pv 0) T.cl_Config T.m_Config_scale (ok_Config_scale (P := P) (w := w) T) (hr.mono (by decide)) T.b_Config_scale (fun σ => passAt tk σ) (pa_cons pe_str pa_nil)))))
      (fun a oe cls d pn hz hf => (pss_cls (C := T.C_UnknownToken) hz fun hz => (pss_one (ps_ret (pe_callB (call_isE (T.ec_UnknownToken) hz hf) (by rfl) T.z_isinstance boot_isinstance (pa_cons (pv 1) (pa_cons (pe_glob (v := .ref T.C_UnknownToken) (by rfl) T.g_UnknownToken rfl) pa_nil))))))))
      (pss_one (ps_ret pe_bl))), ?_⟩
    (dsimp only [cxOf, Cx.nox, Cx.wish, L2.start, List.map, List.length, List.replicate, List.cons_append, List.nil_append, List.append_eq, Nat.reduceSub, Nat.reduceAdd])
    walk_at "my_rd"
    refine q_methA ?_
    walk_at "my_rd"
    refine q_methAK h1 (h9 _ no_scale) ?_
    walk_at "my_rd"
    refine ⟨x, g, c, "lead", rfl, hC, hn, ⟨true, T.ex_UnknownToken, fun _ e he => ⟨⟨rfl, rfl⟩, ?_⟩, fun q => nomatch q⟩⟩
    walk_at "my_rd"
    refine q_isE T.hi_UnknownToken ?_
    walk_at "my_rd"
    exact k
end
end Ra
section
variable {P : Program} {w : World} {K : PySem.W.Frag} {mg : Str → Option Value} {base : Heap}
theorem ok_L_refused (T : Txt K mg) : FnOk P w K mg base CX0 8 T.f_L_refused T.d_L_refused ["tokens", "balances", "guards", "depth", "window", "delay", "many"] (Ra.sp_Lrefused K) := Ra.ok_L_refused T
theorem ok_L_unknown (T : Txt K mg) : FnOk P w K mg base CX0 3 T.f_L_unknown T.d_L_unknown ["config"] (Ra.sp_Lunknown T.C_Config) := Ra.ok_L_unknown T
end

local macro_rules | `(tactic| walk_at "my_rd") => `(tactic| (repeat first
  | with_reducible refine q_tCons ?_
  | ((with_reducible apply q_var); (focus (exact rfl)))
  | with_reducible refine q_c ?_
  | with_reducible refine q_nx ?_
  | with_reducible refine q_bK ?_
  | with_reducible refine q_call ?_
  | with_reducible refine q_callK ?_
  | with_reducible refine q_tNil ?_
  | with_reducible refine q_cb ?_
  | with_reducible refine q_seq ?_
  | with_reducible refine q_asg ?_
  | with_reducible refine q_gName ?_
  | with_reducible refine q_op ?_
  | with_reducible refine q_test ?_
  | with_reducible refine q_tB ?_
  | with_reducible refine q_ifS ?_
  | with_reducible refine q_ret ?_
  | with_reducible refine q_rt ?_
  | with_reducible refine q_next ?_
  | with_reducible refine q_ifF ?_
  | with_reducible refine q_ifT ?_
  | with_reducible refine q_drop ?_
  | with_reducible refine q_and ?_
  | with_reducible refine q_or ?_
  | with_reducible refine q_andT ?_
  | with_reducible refine q_andF ?_
  | with_reducible refine q_orF ?_
  | with_reducible refine q_orT ?_
  | with_reducible refine q_andV ?_
  | with_reducible refine q_andVT ?_
  | with_reducible refine q_andVF ?_
  | with_reducible refine q_orV ?_
  | with_reducible refine q_gCons ?_
  | with_reducible refine q_gNil ?_
  | with_reducible refine q_tup ?_
  | with_reducible refine q_lst ?_
  | with_reducible refine q_not ?_
  | with_reducible refine q_notKT ?_
  | with_reducible refine q_notKF ?_
  | with_reducible refine q_I0 ?_
  | with_reducible refine q_eqI ?_
  | with_reducible refine q_neI ?_
  | ((with_reducible refine q_I ?_ ?_); first | decide | omega | exact ⟨by omega, by omega⟩ | exact ⟨by decide, by decide⟩ | exact .inl ⟨by omega, by omega⟩ | exact .inr ⟨by omega, by omega⟩ | exact .inr ⟨by decide, by decide⟩)
  | with_reducible refine q_eqS ?_
  | with_reducible refine q_neS ?_
  | with_reducible refine q_brk ?_
  | with_reducible refine q_ct ?_
  | with_reducible refine q_bk ?_
  | with_reducible refine q_cn ?_
  | with_reducible refine q_retN ?_
  | with_reducible refine q_gSub ?_
  | with_reducible refine q_for ?_
  | with_reducible refine q_iList ?_
  | with_reducible refine q_iTup ?_
  | with_reducible refine q_iRng1 ?_
  | with_reducible refine q_notK ?_
  | with_reducible refine q_orVT ?_
  | with_reducible refine q_orVF ?_
  | with_reducible refine q_notV ?_
  | with_reducible refine q_notVK ?_
  | with_reducible refine q_ifE ?_
  | with_reducible refine q_ifET ?_
  | with_reducible refine q_ifEF ?_
  | with_reducible refine q_yes ?_
  | with_reducible refine q_un ?_
  | with_reducible refine q_rU ?_
  | with_reducible refine q_abs ?_
  | with_reducible refine q_int1 ?_
  | with_reducible refine q_bm ?_
  | with_reducible refine q_bm0 ?_
  | with_reducible refine q_lc ?_
  | with_reducible refine q_keepT ?_
  | with_reducible refine q_keepF ?_
  | ((with_reducible apply q_aug); (focus (exact rfl)))
  | with_reducible refine q_ipI ?_
  | with_reducible refine q_chain ?_
  | with_reducible refine q_pairC ?_
  | with_reducible refine q_pairsK ?_
  | with_reducible refine q_pairN ?_
  | with_reducible refine q_fld ?_
  | with_reducible refine q_sFld ?_
  | with_reducible refine q_meth ?_
  | with_reducible refine q_makeK ?_
  | with_reducible refine q_isBl ?_
  | with_reducible refine q_notBl ?_
  | with_reducible refine q_sl ?_
  | with_reducible refine q_noPart ?_
  | with_reducible refine q_part ?_
  | with_reducible refine q_partK ?_
  | ((with_reducible apply q_mulStr); (focus (decide +kernel)))
  | with_reducible refine q_chT ?_
  | with_reducible refine q_chF ?_
  | with_reducible refine q_ord ?_
  | with_reducible refine q_iStr0 ?_
  | with_reducible refine q_iStr ?_
  | with_reducible refine q_tDIn ?_
  | with_reducible refine q_tDNotIn ?_
  | with_reducible refine q_tDGet ?_
  | with_reducible refine q_tDGet2 ?_
  | with_reducible refine q_tDGet1 ?_
  | with_reducible refine q_tDSetd ?_
  | ((with_reducible apply q_dG2a); (focus ((repeat first | (with_reducible exact upd_same) | (with_reducible assumption) | (with_reducible apply upd_new (by assumption)) | (with_reducible apply upd_other (by first | assumption | exact Ne.symm (by assumption))) | (with_reducible refine' Kp.get (by assumption) ?_ (by first | assumption | exact Ne.symm (by assumption))) | (with_reducible apply Same.get (by assumption))); done)))
  | ((with_reducible apply q_dSda); (focus ((repeat first | (with_reducible exact upd_same) | (with_reducible assumption) | (with_reducible apply upd_new (by assumption)) | (with_reducible apply upd_other (by first | assumption | exact Ne.symm (by assumption))) | (with_reducible refine' Kp.get (by assumption) ?_ (by first | assumption | exact Ne.symm (by assumption))) | (with_reducible apply Same.get (by assumption))); done)))
  | with_reducible refine q_sDPut ?_
  | ((with_reducible apply q_dInS); (focus ((repeat first | (with_reducible exact upd_same) | (with_reducible assumption) | (with_reducible apply upd_new (by assumption)) | (with_reducible apply upd_other (by first | assumption | exact Ne.symm (by assumption))) | (with_reducible refine' Kp.get (by assumption) ?_ (by first | assumption | exact Ne.symm (by assumption))) | (with_reducible apply Same.get (by assumption))); done)))
  | ((with_reducible apply q_dNInS); (focus ((repeat first | (with_reducible exact upd_same) | (with_reducible assumption) | (with_reducible apply upd_new (by assumption)) | (with_reducible apply upd_other (by first | assumption | exact Ne.symm (by assumption))) | (with_reducible refine' Kp.get (by assumption) ?_ (by first | assumption | exact Ne.symm (by assumption))) | (with_reducible apply Same.get (by assumption))); done)))
  | ((with_reducible apply q_dInI); (focus ((repeat first | (with_reducible exact upd_same) | (with_reducible assumption) | (with_reducible apply upd_new (by assumption)) | (with_reducible apply upd_other (by first | assumption | exact Ne.symm (by assumption))) | (with_reducible refine' Kp.get (by assumption) ?_ (by first | assumption | exact Ne.symm (by assumption))) | (with_reducible apply Same.get (by assumption))); done)))
  | ((with_reducible apply q_dNInI); (focus ((repeat first | (with_reducible exact upd_same) | (with_reducible assumption) | (with_reducible apply upd_new (by assumption)) | (with_reducible apply upd_other (by first | assumption | exact Ne.symm (by assumption))) | (with_reducible refine' Kp.get (by assumption) ?_ (by first | assumption | exact Ne.symm (by assumption))) | (with_reducible apply Same.get (by assumption))); done)))
  | ((with_reducible apply q_bmL); (focus ((repeat first | (with_reducible exact upd_same) | (with_reducible assumption) | (with_reducible apply upd_new (by assumption)) | (with_reducible apply upd_other (by first | assumption | exact Ne.symm (by assumption))) | (with_reducible refine' Kp.get (by assumption) ?_ (by first | assumption | exact Ne.symm (by assumption))) | (with_reducible apply Same.get (by assumption))); done)))
  | ((with_reducible apply q_bmL0); (focus ((repeat first | (with_reducible exact upd_same) | (with_reducible assumption) | (with_reducible apply upd_new (by assumption)) | (with_reducible apply upd_other (by first | assumption | exact Ne.symm (by assumption))) | (with_reducible refine' Kp.get (by assumption) ?_ (by first | assumption | exact Ne.symm (by assumption))) | (with_reducible apply Same.get (by assumption))); done)))
  | ((with_reducible apply q_ixLt); (focus ((repeat first | (with_reducible exact upd_same) | (with_reducible assumption) | (with_reducible apply upd_new (by assumption)) | (with_reducible apply upd_other (by first | assumption | exact Ne.symm (by assumption))) | (with_reducible refine' Kp.get (by assumption) ?_ (by first | assumption | exact Ne.symm (by assumption))) | (with_reducible apply Same.get (by assumption))); done)); (focus (exact rfl)))
  | ((with_reducible apply q_ixTt); (focus ((repeat first | (with_reducible exact upd_same) | (with_reducible assumption) | (with_reducible apply upd_new (by assumption)) | (with_reducible apply upd_other (by first | assumption | exact Ne.symm (by assumption))) | (with_reducible refine' Kp.get (by assumption) ?_ (by first | assumption | exact Ne.symm (by assumption))) | (with_reducible apply Same.get (by assumption))); done)); (focus (exact rfl)))
  | ((with_reducible apply q_lenLt); (focus ((repeat first | (with_reducible exact upd_same) | (with_reducible assumption) | (with_reducible apply upd_new (by assumption)) | (with_reducible apply upd_other (by first | assumption | exact Ne.symm (by assumption))) | (with_reducible refine' Kp.get (by assumption) ?_ (by first | assumption | exact Ne.symm (by assumption))) | (with_reducible apply Same.get (by assumption))); done)))
  | ((with_reducible apply q_lenTt); (focus ((repeat first | (with_reducible exact upd_same) | (with_reducible assumption) | (with_reducible apply upd_new (by assumption)) | (with_reducible apply upd_other (by first | assumption | exact Ne.symm (by assumption))) | (with_reducible refine' Kp.get (by assumption) ?_ (by first | assumption | exact Ne.symm (by assumption))) | (with_reducible apply Same.get (by assumption))); done)))
  | ((with_reducible apply q_append); (focus ((repeat first | (with_reducible exact upd_same) | (with_reducible assumption) | (with_reducible apply upd_new (by assumption)) | (with_reducible apply upd_other (by first | assumption | exact Ne.symm (by assumption))) | (with_reducible refine' Kp.get (by assumption) ?_ (by first | assumption | exact Ne.symm (by assumption))) | (with_reducible apply Same.get (by assumption))); done)); (focus ((first | (exact Nat.lt_of_ble_eq_true rfl) | (simp only [List.length_append, List.length_cons, List.length_nil, List.length_map]; exact small1000 (by omega))))))
  | ((with_reducible apply q_setL); (focus ((repeat first | (with_reducible exact upd_same) | (with_reducible assumption) | (with_reducible apply upd_new (by assumption)) | (with_reducible apply upd_other (by first | assumption | exact Ne.symm (by assumption))) | (with_reducible refine' Kp.get (by assumption) ?_ (by first | assumption | exact Ne.symm (by assumption))) | (with_reducible apply Same.get (by assumption))); done)); (focus (exact rfl)))
  | with_reducible refine q_ifNT ?_
  | with_reducible refine q_ifNF ?_
  | with_reducible refine q_andNT ?_
  | with_reducible refine q_andNF ?_
  | with_reducible refine q_orNT ?_
  | with_reducible refine q_orNF ?_
  | with_reducible refine q_bKNT ?_
  | with_reducible refine q_bKNF ?_))
/-! the law of configurations -/
def spLaw (K : PySem.W.Frag) : Sp := fun vs H Q _ => ∃ (a : Addr) (ns : List Int), vs = [.ref a] ∧ SqL K H a (ns.map V.int) ∧ ns.length ≤ 63 ∧ ∀ H', Q (.bl true) H'
theorem rows_ne {α : Type} {f : α → List V} {H : Hp} {a p l : Addr} {xs : List V} {rs : List α} (h : RowsAt f H xs rs) (ha : H a = some (.lst xs)) (pot : PotAt H p l) : a ≠ p := by
  rintro rfl
  obtain ⟨ns, i, c, s, h1, _⟩ := pot
  rw [ha] at h1
  injection h1 with h1
  injection h1 with h1
  subst h1
  obtain ⟨r, b, _, e, _⟩ := h.item (i := 1) rfl
  cases e
theorem PotAt.lst {H : Hp} {p l : Addr} (h : PotAt H p l) : ∃ xs, H p = some (.lst xs) := by
  obtain ⟨ns, i, c, s, h1, _⟩ := h; exact ⟨_, h1⟩
theorem PartsAt.pot {H H' : Hp} {d : Addr} {c : Parts} {gs : Gs} {tl bl g : Addr} {tv bv gv : List V} {p l : Addr} (h : PartsAt H d c gs tl bl g tv bv gv) (pot : PotAt H p l) (k : Kp p H H') : PartsAt H' d c gs tl bl g tv bv gv := by
  obtain ⟨xs, hx⟩ := pot.lst
  exact ⟨k.get h.dict (ne_of h.dict hx (by intro z; cases z)), k.get h.tl (rows_ne h.tr h.tl pot), h.tr.pot pot k, k.get h.bl (rows_ne h.br h.bl pot), h.br.pot pot k, k.tup pot h.gt, h.gp.kp pot k⟩
theorem CfgAt.pot {C : Addr} {c : Parts} {g : Addr} {H H' : Hp} {x p l : Addr} (h : CfgAt C c g H x) (pot : PotAt H p l) (k : Kp p H H') : CfgAt C c g H' x := by
  obtain ⟨xs, hx⟩ := pot.lst
  obtain ⟨dx, fs, td, bl, kvs, bv, h1, h2, h3, h4, h5, h6, h7, h8, h9, h10, h11, h12, h13⟩ := h.ex
  exact ⟨dx, fs, td, bl, kvs, bv, k.get h1 (ne_of h1 hx (by intro z; cases z)), h2, h3, h4, h5, h6, h7, h8, h9, k.get h10 (ne_of h10 hx (by intro z; cases z)), h11.mono fun b ys q => k.tup pot q, k.get h12 (rows_ne h13 h12 pot), h13.pot pot k⟩
/-! plain data and its bounds -/
theorem lays {α : Type} (f : α → PyData) (n : Nat) : ∀ xs : List α, (∀ x ∈ xs, (f x).canLay0 = true ∧ (f x).depth ≤ n) → PyData.canLayAll0 (xs.map f) = true ∧ PyData.depthAll (xs.map f) ≤ n
  | [], _ => ⟨by simp [PyData.canLayAll0], by simp [PyData.depthAll]⟩
  | x :: r, h => by
    obtain ⟨h1, h2⟩ := lays f n r fun y hy => h y (List.mem_cons_of_mem _ hy)
    obtain ⟨h3, h4⟩ := h x List.mem_cons_self
    exact ⟨by simp [PyData.canLayAll0, h1, h3], by simp only [List.map_cons, PyData.depthAll]; omega⟩
theorem shaped_l {α : Type} (f : α → PyData) (n : Nat) (hn : n ≤ 60) (xs : List α) (h : ∀ x ∈ xs, (f x).canLay0 = true ∧ (f x).depth ≤ n) : SeqAt.shaped (.list (xs.map f)) = true ∧ (PyData.list (xs.map f)).canLay0 = true := by
  obtain ⟨h1, h2⟩ := lays f n xs h
  have e : (PyData.list (xs.map f)).canLay0 = true := by simp only [PyData.canLay0]; exact h1
  refine ⟨?_, e⟩
  show ((PyData.list (xs.map f)).canLay0 && decide ((PyData.list (xs.map f)).depth ≤ 64)) = true
  rw [e, Bool.true_and, decide_eq_true_eq]
  simp only [PyData.depth]
  omega
theorem shaped_t {α : Type} (f : α → PyData) (n : Nat) (hn : n ≤ 60) (xs : List α) (h : ∀ x ∈ xs, (f x).canLay0 = true ∧ (f x).depth ≤ n) : SeqAt.shaped (.tuple (xs.map f)) = true ∧ (PyData.tuple (xs.map f)).canLay0 = true := by
  obtain ⟨h1, h2⟩ := lays f n xs h
  have e : (PyData.tuple (xs.map f)).canLay0 = true := by simp only [PyData.canLay0]; exact h1
  refine ⟨?_, e⟩
  show ((PyData.tuple (xs.map f)).canLay0 && decide ((PyData.tuple (xs.map f)).depth ≤ 64)) = true
  rw [e, Bool.true_and, decide_eq_true_eq]
  simp only [PyData.depth]
  omega
theorem str_lay {s : Str} (h : PyData.strOk s = true) : (PyData.str s).canLay0 = true ∧ (PyData.str s).depth ≤ 0 := ⟨by simp [PyData.canLay0, h], by simp [PyData.depth]⟩
def balD (b : BalR) : PyData := .tuple [.str b.acc, .str b.tok, .int b.amt]
theorem bal_lay {b : BalR} (h1 : PyData.strOk b.acc = true) (h2 : PyData.strOk b.tok = true) : (balD b).canLay0 = true ∧ (balD b).depth ≤ 3 := ⟨by simp [balD, PyData.canLay0, PyData.canLayAll0, h1, h2], by simp [balD, PyData.depth, PyData.depthAll]⟩
theorem prd_lay {g : Str × Int} (h1 : PyData.strOk g.1 = true) : (prd g).canLay0 = true ∧ (prd g).depth ≤ 3 := ⟨by simp [prd, PyData.canLay0, PyData.canLayAll0, h1], by simp [prd, PyData.depth, PyData.depthAll]⟩
theorem strs_dp {K : PySem.W.Frag} {H : Hp} : ∀ ss : List Str, DpAll K H (ss.map V.str) (ss.map PyData.str)
  | [] => .nil
  | x :: r => .cons (.str x) (strs_dp r)
theorem rows_dp {K : PySem.W.Frag} {H : Hp} : ∀ {xs : List V} {bs : List BalR}, RowsAt BalR.v H xs bs → DpAll K H xs (bs.map balD)
  | [], [], _ => .nil
  | [], b :: bs, h => by have := h.len; simp at this
  | x :: xs, [], h => by have := h.len; simp at this
  | x :: xs, b :: bs, h => by
    obtain ⟨a, e, ha⟩ := h.at_ 0 b rfl
    have e : x = .ref a := Option.some.inj e
    subst e
    exact .cons (.tup (sqT ha) (.cons (.str _) (.cons (.str _) (.cons (.int _) .nil)))) (rows_dp ⟨by have := h.len; simpa using this, fun i r hr => by have := h.at_ (i + 1) r (by simpa using hr); simpa using this⟩)
theorem RowsAt.app {α : Type} {f : α → List V} {H : Hp} {xs ys : List V} {rs ss : List α} (h1 : RowsAt f H xs rs) (h2 : RowsAt f H ys ss) : RowsAt f H (xs ++ ys) (rs ++ ss) := by
  refine ⟨by rw [List.length_append, List.length_append, h1.len, h2.len], fun i r hr => ?_⟩
  by_cases hi : i < rs.length
  · rw [List.getElem?_append_left hi] at hr
    rw [List.getElem?_append_left (by rw [h1.len]; exact hi)]
    exact h1.at_ i r hr
  · rw [List.getElem?_append_right (by omega)] at hr
    rw [List.getElem?_append_right (by rw [h1.len]; omega), h1.len]
    exact h2.at_ _ r hr
theorem RowsAt.tk {α : Type} {f : α → List V} {H : Hp} {xs : List V} {rs : List α} (h : RowsAt f H xs rs) (n : Nat) : RowsAt f H (xs.take n) (rs.take n) := by
  refine ⟨by rw [List.length_take, List.length_take, h.len], fun i r hr => ?_⟩
  rw [List.getElem?_take] at hr ⊢
  split at hr
  · rename_i q; rw [if_pos q]; exact h.at_ i r hr
  · cases hr
theorem RowsAt.dr {α : Type} {f : α → List V} {H : Hp} {xs : List V} {rs : List α} (h : RowsAt f H xs rs) (n : Nat) : RowsAt f H (xs.drop n) (rs.drop n) := by
  refine ⟨by rw [List.length_drop, List.length_drop, h.len], fun i r hr => ?_⟩
  rw [List.getElem?_drop] at hr ⊢
  exact h.at_ _ r hr
theorem RowsAt.one {α : Type} {f : α → List V} {H : Hp} {a : Addr} {r : α} (h : H a = some (.tup (f r))) : RowsAt f H [.ref a] [r] := RowsAt.snoc (xs := []) (rs := []) RowsAt.nil h
theorem TupAll.app {K : PySem.W.Frag} {H : Hp} {xs ys : List V} {ds es : List PyData} (h1 : TupAll K H xs ds) (h2 : TupAll K H ys es) : TupAll K H (xs ++ ys) (ds ++ es) := by
  induction xs generalizing ds with
  | nil => cases h1; exact h2
  | cons x r ih =>
    cases h1 with
    | cons a b => exact .cons a (ih b)
/-! names, ascending -/
def allL : List (List Str) := [] :: (tokNames.map fun a => [a]) ++ (tokNames.flatMap fun a => tokNames.map fun b => [a, b]) ++ (tokNames.flatMap fun a => tokNames.flatMap fun b => tokNames.map fun c => [a, b, c])
theorem allL_mem {ys : List Str} (h : ys.length ≤ 3) (m : ∀ y ∈ ys, y ∈ tokNames) : ys ∈ allL := by
  unfold allL
  match ys, h, m with
  | [], _, _ => simp
  | [a], _, m => exact List.mem_append.mpr (.inl (List.mem_append.mpr (.inl (List.mem_cons_of_mem _ (List.mem_map.mpr ⟨a, m a (by simp), rfl⟩)))))
  | [a, b], _, m => exact List.mem_append.mpr (.inl (List.mem_append.mpr (.inr (List.mem_flatMap.mpr ⟨a, m a (by simp), List.mem_map.mpr ⟨b, m b (by simp), rfl⟩⟩))))
  | [a, b, c], _, m => exact List.mem_append.mpr (.inr (List.mem_flatMap.mpr ⟨a, m a (by simp), List.mem_flatMap.mpr ⟨b, m b (by simp), List.mem_map.mpr ⟨c, m c (by simp), rfl⟩⟩⟩))
  | a :: b :: c :: d :: r, h, _ => simp at h
theorem sorted_one : ∀ ys ∈ allL, ∀ zs ∈ allL, sortedS ys = true → sortedS zs = true → ys.isPerm zs = true → ys = zs := by decide +kernel
theorem sorted_uniq {ns ys zs : List Str} (hl : ns.length ≤ 3) (hm : ∀ y ∈ ns, y ∈ tokNames) (h1 : ys.Perm ns) (h2 : zs.Perm ns) (s1 : sortedS ys = true) (s2 : sortedS zs = true) : ys = zs :=
  sorted_one ys (allL_mem (by rw [h1.length_eq]; exact hl) fun y hy => hm y (h1.mem_iff.mp hy)) zs (allL_mem (by rw [h2.length_eq]; exact hl) fun y hy => hm y (h2.mem_iff.mp hy)) s1 s2 (List.isPerm_iff.mpr (h1.trans h2.symm))
theorem inV_str (s : Str) (ss : List Str) : inV (.str s) (ss.map V.str) = decide (s ∈ ss) := by
  unfold inV
  induction ss with
  | nil => simp
  | cons a r ih =>
    rw [List.map_cons, List.any_cons, ih]
    by_cases e : a = s
    · subst e
      simp [eqV]
    · have e2 : ¬ s = a := fun q => e q.symm
      simp [eqV, e, e2]
theorem names_iff {ts : List TokR} (h : (ts.map TokR.name).Nodup) {t : TokR} (ht : t ∈ ts) (sd : Str) : t.name ∈ ((ts.filter fun u => decide (u.home = sd)).map TokR.name) ↔ t.home = sd := by
  constructor
  · intro m
    obtain ⟨u, hu, e⟩ := List.mem_map.mp m
    obtain ⟨hu1, hu2⟩ := List.mem_filter.mp hu
    have : u = t := by
      have inj : ∀ (l : List TokR), (l.map TokR.name).Nodup → ∀ a ∈ l, ∀ b ∈ l, a.name = b.name → a = b := by
        intro l
        induction l with
        | nil => intro _ a ha; cases ha
        | cons x r ih =>
          intro hn a ha b hb e
          rw [List.map_cons, List.nodup_cons] at hn
          rcases List.mem_cons.mp ha with e1 | e1 <;> rcases List.mem_cons.mp hb with e2 | e2
          · rw [e1, e2]
          · exact absurd (List.mem_map.mpr ⟨b, e2, by rw [← e, e1]⟩) hn.1
          · exact absurd (List.mem_map.mpr ⟨a, e1, by rw [e, e2]⟩) hn.1
          · exact ih hn.2 a e1 b e2 e
      exact inj ts h u hu1 t ht e
    rw [← this]
    exact of_decide_eq_true hu2
  · intro e
    exact List.mem_map.mpr ⟨t, List.mem_filter.mpr ⟨ht, decide_eq_true e⟩, rfl⟩
theorem filter_st {α : Type} {p : α → Bool} {xs : List α} {x : α} (h : p x = true) : (xs ++ [x]).filter p = xs.filter p ++ [x] := by
  rw [List.filter_append, List.filter_cons_of_pos h]; rfl
theorem filter_sf {α : Type} {p : α → Bool} {xs : List α} {x : α} (h : p x = false) : (xs ++ [x]).filter p = xs.filter p := by
  rw [List.filter_append, List.filter_cons_of_neg (by rw [h]; exact Bool.false_ne_true), List.filter_nil, List.append_nil]
theorem tokS : ∀ s ∈ tokNames, PyData.strOk s = true ∧ s ≠ "lead" ∧ s.length ≤ 100000 := by decide +kernel
theorem accS : ∀ s ∈ accNames, PyData.strOk s = true ∧ s.length ≤ 100000 := by decide +kernel
theorem no_m : ("token_names" : Str) ∉ cfgNames ∧ ("guards" : Str) ∉ cfgNames ∧ ("limit" : Str) ∉ cfgNames ∧ ("large" : Str) ∉ cfgNames ∧ ("depth" : Str) ∉ cfgNames ∧ ("window" : Str) ∉ cfgNames ∧ ("delay" : Str) ∉ cfgNames ∧ ("bundle" : Str) ∉ cfgNames := by decide +kernel
structure BadT (c : Parts) (m : TokR) : Prop where
  b : m ∈ c.toks ∨ Ra.tokB m = false
  l : m.name.length ≤ 100000
theorem BadT.ng {c : Parts} {m : TokR} (h : BadT c m) (n : Nat) {gd : PyData} {d : Parts} (e : d.toks = c.toks.take n ++ [m] ++ c.toks.drop n) : ¬ Ra.Good d gd := by
  rintro ⟨q, _⟩
  have hm : m ∈ d.toks := by rw [e]; exact List.mem_append.mpr (.inl (List.mem_append.mpr (.inr (List.mem_singleton.mpr rfl))))
  rcases h.b with hb | hb
  · have hn := q.tn
    rw [e] at hn
    have hp : (c.toks.take n ++ [m] ++ c.toks.drop n).Perm (m :: c.toks) := by
      have h1 : (c.toks.take n ++ [m] ++ c.toks.drop n).Perm ([m] ++ c.toks.take n ++ c.toks.drop n) := List.Perm.append_right _ List.perm_append_comm
      refine h1.trans ?_
      rw [List.append_assoc, List.take_append_drop]
      exact List.Perm.refl _
    have h2 := (hp.map TokR.name).nodup_iff.mp hn
    rw [List.map_cons, List.nodup_cons] at h2
    exact h2.1 (List.mem_map.mpr ⟨m, hb, rfl⟩)
  · rw [Ra.tok_b (q.t m hm)] at hb; cases hb
theorem ref_nums {K : PySem.W.Frag} {H : Hp} {d : Addr} {c : Parts} {gs : Gs} {tl bl g e : Addr} {tv bv gv : List V} {Q : VK} {E : XK} (hp : PartsAt H d c gs tl bl g tv bv gv) (hc : CfgOk c gs) (he : H e = some (.lst [])) {dd ww yy uu : Int} (hn : ¬ (1 ≤ dd ∧ 1 ≤ ww ∧ 0 ≤ yy ∧ 1 ≤ uu ∧ uu ≤ 8))
    (k : ∀ H', Same H H' → Q (.bl true) H') : Ra.sp_Lrefused K [.ref tl, .ref e, .ref g, .int dd, .int ww, .int yy, .int uu] H Q E := by
  refine ⟨tl, e, g, tv, [], .tuple (gs.map prd), ⟨c.toks, [], dd, ww, yy, uu⟩, rfl, hp.tl, he, hp.tr, RowsAt.nil, .tup hp.gt hp.gp.tall, fineS_pairs hc.gd, hc.ok.tl, by show 0 ≤ 1000; omega, fun t ht => by have := (hc.ok.t t ht).nl; omega, fun b hb => (by cases hb), fun q => hn ⟨q.1.d, q.1.w, q.1.y, q.1.u, q.1.u8⟩, k⟩
theorem ref_set {K : PySem.W.Frag} {H : Hp} {d : Addr} {c : Parts} {gs : Gs} {tl bl g e q : Addr} {tv bv gv qs : List V} {ds : List PyData} {Q : VK} {E : XK} (hp : PartsAt H d c gs tl bl g tv bv gv) (hc : CfgOk c gs) (he : H e = some (.lst [])) (hq : H q = some (.tup qs)) (hd : TupAll K H qs ds) (hf : FineS (.tuple ds)) (hs : setD (.tuple ds) = false)
    (k : ∀ H', Same H H' → Q (.bl true) H') : Ra.sp_Lrefused K [.ref tl, .ref e, .ref q, .int 1, .int 1, .int 0, .int 4] H Q E := by
  refine ⟨tl, e, q, tv, [], .tuple ds, ⟨c.toks, [], 1, 1, 0, 4⟩, rfl, hp.tl, he, hp.tr, RowsAt.nil, .tup hq hd, hf, hc.ok.tl, by show 0 ≤ 1000; omega, fun t ht => by have := (hc.ok.t t ht).nl; omega, fun b hb => (by cases hb), fun z => (by rw [z.2] at hs; cases hs), k⟩

section
variable {P : Program} {w : World} {K : PySem.W.Frag} {mg : Str → Option Value} {base : Heap}
set_option maxHeartbeats 6000000 in
theorem ok_law (T : Txt K mg) : FnOk P w K mg base CX0 9 T.f_law T.d_law ["script"] (spLaw K) := by
  refine T.F_law.ok sc_law (fun vs H Q E h => ?_) (fun cdv A outer s H vs Q E hr h => ?_)
  · obtain ⟨a, ns, rfl, _⟩ := h; rfl
  · obtain ⟨a0, ns0, rfl, hS, hlen, k⟩ := h
    have hu := hu_of hr
    refine ⟨_, (pss_cons (ps_set (i := 1) sc_law.nd rfl (Or.inl rfl) (pe_call (ok_L_pot T) (hr.mono (by decide)) (by rfl) T.g_L_pot T.F_L_pot.kp T.b_L_pot .nil pass0 (pa_cons (pv 0) pa_nil)))
      (pss_cons (ps_set (i := 2) sc_law.nd rfl (Or.inl rfl) (pe_call (ok_L_config T) (hr.mono (by decide)) (by rfl) T.g_L_config T.F_L_config.kp T.b_L_config .nil pass0 (pa_cons (pv 1) pa_nil)))
      (pss_cons (ps_set (i := 3) sc_law.nd rfl (Or.inl rfl) (pe_call (ok_L_made T) (hr.mono (by decide)) (by rfl) T.g_L_made T.F_L_made.kp T.b_L_made .nil pass0 (pa_cons (pv 2) pa_nil)))
      (pss_cons (ps_set (i := 4) sc_law.nd rfl (Or.inl rfl) (pe_dget hu (pv 2) pe_str (fun _ _ => rfl)))
      (Evl.pss_cut (ps_if (PW.pt (pw_or (pt_cmpR (op_neD hr.units) (pe_meth0 (pv 3) T.cl_Config T.m_Config_token_names (ok_Config_token_names T) (hr.mono (by decide)) T.b_Config_token_names .nil pass0) (pe_callB cr_sortedS (by rfl) T.z_sorted boot_sorted (pa_cons (pe_lc (own := [("token", 5)]) (g := (gName 5)) (tt := tYes) (te := (tOp (rIxT K) (tVar 5) (tC (.int 0)))) rfl sc_law.nd (pi_list (pv 4)) (blkOk_by (own := [("token", 5)]) (N := ["script", "pot", "parts", "config", "tokens", "token", "side", "plain", "more", "row", "at", "names"]) (sc := defScope s_law) (by decide +kernel)) (fun _ _ _ _ _ => (pg_name (i := 5) sc_law.nd rfl (Or.inl rfl))) (fun _ _ _ _ _ => pts_nil) (fun _ _ _ _ _ => (pe_ix ix_tup (pv 5) pe_int (fun _ _ => rfl)))) pa_nil)) (nomark _)) (pw_or1 (pt_cmpR (op_neD hr.units) (pe_meth0 (pv 3) T.cl_Config T.m_Config_guards (ok_Config_guards T) (hr.mono (by decide)) T.b_Config_guards .nil pass0) (pe_dget hu (pv 2) pe_str (fun _ _ => rfl)) (nomark _))))) (pss_one (ps_ret pe_bl)) pss_nil)
      (Evl.pss_cut (ps_for PassesOwn.never rfl (pi_list (pv 4)) (pg_name (i := 5) sc_law.nd rfl (Or.inl rfl))
        (pss_one (ps_if (pt_not (pt_val (pe_call (ok_L_same T) (hr.mono (by decide)) (by rfl) T.g_L_same T.F_L_same.kp T.b_L_same .nil pass0 (pa_cons (pe_tup (pa_cons (pe_meth (pv 3) T.cl_Config T.m_Config_home (ok_Config_home T) (hr.mono (by decide)) T.b_Config_home .nil pass0 (pa_cons (pe_ix ix_tup (pv 5) pe_int (fun _ _ => rfl)) pa_nil)) (pa_cons (pe_meth (pv 3) T.cl_Config T.m_Config_scale (ok_Config_scale T) (hr.mono (by decide)) T.b_Config_scale .nil pass0 (pa_cons (pe_ix ix_tup (pv 5) pe_int (fun _ _ => rfl)) pa_nil)) (pa_cons (pe_meth (pv 3) T.cl_Config T.m_Config_limit (ok_Config_limit T) (hr.mono (by decide)) T.b_Config_limit .nil pass0 (pa_cons (pe_ix ix_tup (pv 5) pe_int (fun _ _ => rfl)) pa_nil)) (pa_cons (pe_meth (pv 3) T.cl_Config T.m_Config_large (ok_Config_large T) (hr.mono (by decide)) T.b_Config_large .nil pass0 (pa_cons (pe_ix ix_tup (pv 5) pe_int (fun _ _ => rfl)) pa_nil)) pa_nil))))) (pa_cons (pe_slice sl_tupA (pv 5) (po_some pe_int) po_none) pa_nil))))) (pss_one (ps_ret pe_bl)) pss_nil)))
      (Evl.pss_cut (ps_for PassesOwn.never rfl (pi_list (pe_lst (pa_cons pe_str (pa_cons pe_str pa_nil)))) (pg_name (i := 6) sc_law.nd rfl (Or.inr rfl))
        (pss_cons (ps_set (i := 11) sc_law.nd rfl (Or.inr rfl) (pe_lc (own := [("token", 5)]) (g := (gName 5)) (tt := (tTest (tOp rEq (tOp (rIxT K) (tVar 5) (tC (.int 1))) (tVar 6)))) (te := (tOp (rIxT K) (tVar 5) (tC (.int 0)))) rfl sc_law.nd (pi_list (pv 4)) (blkOk_by (own := [("token", 5)]) (N := ["script", "pot", "parts", "config", "tokens", "token", "side", "plain", "more", "row", "at", "names"]) (sc := defScope s_law) (by decide +kernel)) (fun _ _ _ _ _ => (pg_name (i := 5) sc_law.nd rfl (Or.inl rfl))) (fun _ _ _ _ _ => (pts_one (pt_cmpR op_eq (pe_ix ix_tup (pv 5) pe_int (fun _ _ => rfl)) (pv 6) (nomark _)))) (fun _ _ _ _ _ => (pe_ix ix_tup (pv 5) pe_int (fun _ _ => rfl)))))
      (pss_one (ps_if (pt_cmpR (op_neD hr.units) (pe_meth (pv 3) T.cl_Config T.m_Config_opening (ok_Config_opening T) (hr.mono (by decide)) T.b_Config_opening .nil pass0 (pa_cons (pv 6) pa_nil)) (pe_lc (own := [("row", 9)]) (g := (gName 9)) (tt := (tTest (tOp (rIn K false) (tOp (rIxT K) (tVar 9) (tC (.int 1))) (tVar 11)))) (te := (tVar 9)) rfl sc_law.nd (pi_list (pe_dget hu (pv 2) pe_str (fun _ _ => rfl))) (blkOk_by (own := [("row", 9)]) (N := ["script", "pot", "parts", "config", "tokens", "token", "side", "plain", "more", "row", "at", "names"]) (sc := defScope s_law) (by decide +kernel)) (fun _ _ _ _ _ => (pg_name (i := 9) sc_law.nd rfl (Or.inl rfl))) (fun _ _ _ _ _ => (pts_one (pt_cmpR op_in_seq (pe_ix ix_tup (pv 9) pe_int (fun _ _ => rfl)) (pv 11) (by rfl)))) (fun _ _ _ _ _ => (pv 9))) (nomark _)) (pss_one (ps_ret pe_bl)) pss_nil))))
      (Evl.pss_cut (ps_if (PW.pt (pw_or (pt_cmpR op_ne (pe_meth0 (pv 3) T.cl_Config T.m_Config_depth (ok_Config_depth T) (hr.mono (by decide)) T.b_Config_depth .nil pass0) (pe_dget hu (pv 2) pe_str (fun _ _ => rfl)) (nomark _)) (pw_or (pt_cmpR op_ne (pe_meth0 (pv 3) T.cl_Config T.m_Config_window (ok_Config_window T) (hr.mono (by decide)) T.b_Config_window .nil pass0) (pe_dget hu (pv 2) pe_str (fun _ _ => rfl)) (nomark _)) (pw_or1 (pt_cmpR op_ne (pe_meth0 (pv 3) T.cl_Config T.m_Config_delay (ok_Config_delay T) (hr.mono (by decide)) T.b_Config_delay .nil pass0) (pe_dget hu (pv 2) pe_str (fun _ _ => rfl)) (nomark _)))))) (pss_one (ps_ret pe_bl)) pss_nil)
      (Evl.pss_cut (ps_set (i := 7) sc_law.nd rfl (Or.inl rfl) (pe_makeK0 T.mk_Config (ok_Config_init T) (hr.mono (by decide)) (by rfl) T.g_Config T.kb3_Config_init.choose_spec pass0 (pk_cons (pv 4) (pk_cons (pe_dget hu (pv 2) pe_str (fun _ _ => rfl)) (pk_cons (pe_dget hu (pv 2) pe_str (fun _ _ => rfl)) pk_nil)))))
      (Evl.pss_cut (ps_if (PW.pt (pw_or (pt_cmpR op_ne (pe_meth0 (pv 7) T.cl_Config T.m_Config_depth (ok_Config_depth T) (hr.mono (by decide)) T.b_Config_depth .nil pass0) pe_int (nomark _)) (pw_or (pt_cmpR op_ne (pe_meth0 (pv 7) T.cl_Config T.m_Config_window (ok_Config_window T) (hr.mono (by decide)) T.b_Config_window .nil pass0) pe_int (nomark _)) (pw_or (pt_cmpR op_ne (pe_meth0 (pv 7) T.cl_Config T.m_Config_delay (ok_Config_delay T) (hr.mono (by decide)) T.b_Config_delay .nil pass0) pe_int (nomark _)) (pw_or (pt_cmpR op_ne (pe_call (ok_other_side T) (hr.mono (by decide)) (by rfl) T.g_other_side T.F_other_side.kp T.b_other_side .nil pass0 (pa_cons pe_str pa_nil)) pe_str (nomark _)) (pw_or1 (pt_cmpR op_ne (pe_call (ok_other_side T) (hr.mono (by decide)) (by rfl) T.g_other_side T.F_other_side.kp T.b_other_side .nil pass0 (pa_cons pe_str pa_nil)) pe_str (nomark _)))))))) (pss_one (ps_ret pe_bl)) pss_nil)
      (Evl.pss_cut (ps_set (i := 8) sc_law.nd rfl (Or.inl rfl) (pe_ix ix_list (pe_lst (pa_cons (pe_ix ix_list (pv 4) pe_int (fun _ _ => rfl)) (pa_cons (pe_tup (pa_cons pe_str (pa_cons pe_str (pa_cons pe_int (pa_cons pe_int (pa_cons pe_int pa_nil)))))) (pa_cons (pe_tup (pa_cons (pe_op oq_mulStr pe_str pe_int) (pa_cons pe_str (pa_cons pe_int (pa_cons pe_int (pa_cons pe_int pa_nil)))))) (pa_cons (pe_tup (pa_cons pe_str (pa_cons pe_str (pa_cons pe_int (pa_cons pe_int (pa_cons pe_int pa_nil)))))) (pa_cons (pe_tup (pa_cons pe_str (pa_cons pe_str (pa_cons pe_int (pa_cons pe_int (pa_cons pe_int pa_nil)))))) (pa_cons (pe_tup (pa_cons pe_str (pa_cons pe_str (pa_cons pe_int (pa_cons (pe_un un_neg pe_int) (pa_cons pe_int pa_nil)))))) (pa_cons (pe_tup (pa_cons pe_str (pa_cons pe_str (pa_cons pe_int (pa_cons pe_int (pa_cons pe_int pa_nil)))))) pa_nil)))))))) (pe_call (ok_L_next T) (hr.mono (by decide)) (by rfl) T.g_L_next T.F_L_next.kp T.b_L_next .nil pass0 (pa_cons (pv 1) (pa_cons pe_int pa_nil))) (fun _ _ => rfl)))
      (Evl.pss_cut (ps_set (i := 9) sc_law.nd rfl (Or.inl rfl) (pe_ix ix_list (pe_lst (pa_cons (pe_tup (pa_cons pe_str (pa_cons pe_str (pa_cons pe_int pa_nil)))) (pa_cons (pe_tup (pa_cons pe_str (pa_cons (pe_ix ix_tup (pe_ix ix_list (pv 4) pe_int (fun _ _ => rfl)) pe_int (fun _ _ => rfl)) (pa_cons (pe_un un_neg pe_int) pa_nil)))) (pa_cons (pe_tup (pa_cons pe_str (pa_cons (pe_ix ix_tup (pe_ix ix_list (pv 4) pe_int (fun _ _ => rfl)) pe_int (fun _ _ => rfl)) (pa_cons pe_int pa_nil)))) (pa_cons (pe_tup (pa_cons (pe_op oq_mulStr pe_str pe_int) (pa_cons (pe_ix ix_tup (pe_ix ix_list (pv 4) pe_int (fun _ _ => rfl)) pe_int (fun _ _ => rfl)) (pa_cons pe_int pa_nil)))) pa_nil))))) (pe_call (ok_L_next T) (hr.mono (by decide)) (by rfl) T.g_L_next T.F_L_next.kp T.b_L_next .nil pass0 (pa_cons (pv 1) (pa_cons pe_int pa_nil))) (fun _ _ => rfl)))
      (Evl.pss_cut (ps_set (i := 10) sc_law.nd rfl (Or.inl rfl) (pe_call (ok_L_next T) (hr.mono (by decide)) (by rfl) T.g_L_next T.F_L_next.kp T.b_L_next .nil pass0 (pa_cons (pv 1) (pa_cons (pe_op op_add (pe_callB cq_len (by rfl) T.z_len boot_len (pa_cons (pv 4) pa_nil)) pe_int) pa_nil))))
      (Evl.pss_cut (ps_if (pt_not (pt_val (pe_call (ok_L_refused T) (hr.mono (by decide)) (by rfl) T.g_L_refused T.F_L_refused.kp T.bd5_L_refused.choose_spec.2 T.bd5_L_refused.choose_spec.1 pass0 (pa_cons (pe_op op_cat (pe_op op_cat (pe_slice sl_list (pv 4) po_none (po_some (pv 10))) (pe_lst (pa_cons (pv 8) pa_nil))) (pe_slice sl_list (pv 4) (po_some (pv 10)) po_none)) (pa_cons (pe_lst pa_nil) (pa_cons (pe_dget hu (pv 2) pe_str (fun _ _ => rfl)) (pa_cons pe_int (pa_cons pe_int pa_nil)))))))) (pss_one (ps_ret pe_bl)) pss_nil)
      (Evl.pss_cut (ps_if (pt_not (pt_val (pe_call (ok_L_refused T) (hr.mono (by decide)) (by rfl) T.g_L_refused T.F_L_refused.kp T.bd5_L_refused.choose_spec.2 T.bd5_L_refused.choose_spec.1 pass0 (pa_cons (pv 4) (pa_cons (pe_op op_cat (pe_dget hu (pv 2) pe_str (fun _ _ => rfl)) (pe_lst (pa_cons (pv 9) pa_nil))) (pa_cons (pe_dget hu (pv 2) pe_str (fun _ _ => rfl)) (pa_cons pe_int (pa_cons pe_int pa_nil)))))))) (pss_one (ps_ret pe_bl)) pss_nil)
      (Evl.pss_cut (ps_if (PW.pt (pw_or (pt_not (pt_val (pe_call (ok_L_refused T) (hr.mono (by decide)) (by rfl) T.g_L_refused T.F_L_refused.kp T.bd5_L_refused.choose_spec.2 T.bd5_L_refused.choose_spec.1 pass0 (pa_cons (pv 4) (pa_cons (pe_lst pa_nil) (pa_cons (pe_op op_catA (pe_dget hu (pv 2) pe_str (fun _ _ => rfl)) (pe_slice sl_tupA (pe_dget hu (pv 2) pe_str (fun _ _ => rfl)) po_none (po_some pe_int))) (pa_cons pe_int (pa_cons pe_int pa_nil)))))))) (pw_or1 (pt_not (pt_val (pe_call (ok_L_refused T) (hr.mono (by decide)) (by rfl) T.g_L_refused T.F_L_refused.kp T.bd5_L_refused.choose_spec.2 T.bd5_L_refused.choose_spec.1 pass0 (pa_cons (pv 4) (pa_cons (pe_lst pa_nil) (pa_cons (pe_tup pa_nil) (pa_cons pe_int (pa_cons pe_int pa_nil))))))))))) (pss_one (ps_ret pe_bl)) pss_nil)
      (Evl.pss_cut (ps_if (pt_not (pt_val (pe_call (ok_L_refused T) (hr.mono (by decide)) (by rfl) T.g_L_refused T.F_L_refused.kp T.bd6_L_refused.choose_spec.2 T.bd6_L_refused.choose_spec.1 pass0 (pa_cons (pv 4) (pa_cons (pe_lst pa_nil) (pa_cons (pe_dget hu (pv 2) pe_str (fun _ _ => rfl)) (pa_cons pe_int (pa_cons pe_int (pa_cons (pe_op op_sub pe_int pe_int) pa_nil))))))))) (pss_one (ps_ret pe_bl)) pss_nil)
      (Evl.pss_cut (ps_if (PW.pt (pw_or (pt_cmpR op_ne (pe_meth0 (pv 3) T.cl_Config T.m_Config_bundle (ok_Config_bundle T) (hr.mono (by decide)) T.b_Config_bundle .nil pass0) (pe_dget hu (pv 2) pe_str (fun _ _ => rfl)) (nomark _)) (pw_or1 (pt_cmpR op_ne (pe_meth0 (pv 7) T.cl_Config T.m_Config_bundle (ok_Config_bundle T) (hr.mono (by decide)) T.b_Config_bundle .nil pass0) pe_int (nomark _))))) (pss_one (ps_ret pe_bl)) pss_nil)
      (Evl.pss_cut (ps_if (PW.pt (pw_or (pt_not (pt_val (pe_call (ok_L_refused T) (hr.mono (by decide)) (by rfl) T.g_L_refused T.F_L_refused.kp T.b_L_refused .nil pass0 (pa_cons (pv 4) (pa_cons (pe_lst pa_nil) (pa_cons (pe_dget hu (pv 2) pe_str (fun _ _ => rfl)) (pa_cons pe_int (pa_cons pe_int (pa_cons pe_int (pa_cons pe_int pa_nil)))))))))) (pw_or1 (pt_not (pt_val (pe_call (ok_L_refused T) (hr.mono (by decide)) (by rfl) T.g_L_refused T.F_L_refused.kp T.b_L_refused .nil pass0 (pa_cons (pv 4) (pa_cons (pe_lst pa_nil) (pa_cons (pe_dget hu (pv 2) pe_str (fun _ _ => rfl)) (pa_cons pe_int (pa_cons pe_int (pa_cons pe_int (pa_cons pe_int pa_nil))))))))))))) (pss_one (ps_ret pe_bl)) pss_nil)
      (pss_one (ps_ret (pe_and (pe_call (ok_L_refused T) (hr.mono (by decide)) (by rfl) T.g_L_refused T.F_L_refused.kp T.bd5_L_refused.choose_spec.2 T.bd5_L_refused.choose_spec.1 pass0 (pa_cons (pv 4) (pa_cons (pe_lst pa_nil) (pa_cons (pe_dget hu (pv 2) pe_str (fun _ _ => rfl)) (pa_cons pe_int (pa_cons pe_int pa_nil)))))) (pe_and (pe_call (ok_L_refused T) (hr.mono (by decide)) (by rfl) T.g_L_refused T.F_L_refused.kp T.bd5_L_refused.choose_spec.2 T.bd5_L_refused.choose_spec.1 pass0 (pa_cons (pv 4) (pa_cons (pe_lst pa_nil) (pa_cons (pe_dget hu (pv 2) pe_str (fun _ _ => rfl)) (pa_cons pe_int (pa_cons pe_int pa_nil)))))) (pe_one (pe_call (ok_L_unknown T) (hr.mono (by decide)) (by rfl) T.g_L_unknown T.F_L_unknown.kp T.b_L_unknown .nil pass0 (pa_cons (pv 3) pa_nil)))))))))))))))))))))))))), ?_⟩
    (dsimp only [cxOf, Cx.nox, Cx.wish, L2.start, List.map, List.length, List.replicate, List.cons_append, List.nil_append, List.append_eq, Nat.reduceSub, Nat.reduceAdd])
    walk_at "my_rd"
    refine ⟨a0, ns0, rfl, hS, hlen, fun p l H1 np nl pot1 sm1 => ?_⟩
    walk_at "my_rd"
    refine ⟨p, l, rfl, pot1, fun d c gs tl bl g tv bv gv H2 nd ntl nbl hp2 hc pot2 kp2 => ?_⟩
    walk_at "my_rd"
    refine ⟨d, c, gs, tl, bl, g, tv, bv, gv, rfl, hp2, hc, fun cf H3 ncf hC3 sm3 => ?_⟩
    have hp3 := hp2.same sm3
    have pot3 := pot2.same sm3
    clear hp2 pot2 kp2 sm1 pot1
    have htvl : tv.length = c.toks.length := hp3.tr.len
    have hbvl : bv.length = c.bals.length := hp3.br.len
    have htl3 := hc.tl
    have htkn : ∀ y ∈ c.toks.map TokR.name, y ∈ tokNames := fun y hy => by
      obtain ⟨t, ht, rfl⟩ := List.mem_map.mp hy
      exact hc.tn t ht
    have hgd : ∀ x ∈ gs, (prd x).canLay0 = true ∧ (prd x).depth ≤ 3 := fun x hx => prd_lay (gnames_ok _ (hc.gd.nms x hx)).2.2
    obtain ⟨t0, ht0⟩ : ∃ t0, c.toks[0]? = some t0 := by
      cases q : c.toks with
      | nil => exact absurd q hc.ne
      | cons a r => exact ⟨a, rfl⟩
    have ht0m := List.mem_of_getElem? ht0
    obtain ⟨tk0, htk0, htk3⟩ := hp3.tr.at_ 0 t0 ht0
    obtain ⟨dx, fs, td, bl2, kvs, bv2, h1, h2, h3, h4, h5, h6, h7, h8, h9, h10, h11, h12, h13⟩ := hC3.ex
    walk_at "my_rd"
    refine q_dGetS hp3.dict (by (repeat first | rfl | rw [valV_cons, if_pos rfl] | rw [valV_cons, if_neg (by decide +kernel)])) ?_
    walk_at "my_rd"
    refine q_cut (Mid := fun σ' H' => σ' = [some (.ref a0), some (.ref p), some (.ref d), some (.ref cf), some (.ref tl), none, none, none, none, none, none, none] ∧ Same H3 H') ?_ ?_
    · walk_at "my_rd"
      refine q_methK h1 (h9 _ no_m.1) fun R hR => ?_
      walk_at "my_rd"
      refine hR _ _ ⟨cf, g, c, rfl, hC3, by omega, fun ys yp hyp hys nyp => ?_⟩
      have sm4 : Same H3 (upd H3 yp (.lst (ys.map V.str))) := Same.up (Same.refl _) nyp
      have hY4 : upd H3 yp (.lst (ys.map V.str)) yp = some (.lst (ys.map V.str)) := upd_same
      generalize upd H3 yp (.lst (ys.map V.str)) = H4 at sm4 hY4
      walk_at "my_rd"
      refine q_lcL (sqL (sm4 _ _ hp3.tl)) (fun D nD => ⟨fun j H' => Same H4 H' ∧ H' D = some (.lst (((c.toks.take j).map TokR.name).map V.str)), ⟨Same.new (Same.refl _) nD, upd_same⟩, fun j H' _ h => sqL (h.1 _ _ (sm4 _ _ hp3.tl)), ?_, ?_⟩)
      · rintro j w H5 hw ⟨sm5, hD⟩
        obtain ⟨u, ub, huj, rfl, hub0⟩ := hp3.tr.item hw
        have hub : H5 ub = some (.tup [.str u.name, .str u.home, .int u.scale, .int u.limit, .int u.large]) := sm5 _ _ (sm4 _ _ hub0)
        walk_at "my_rd"
        refine ⟨rfl, ?_⟩
        walk_at "my_rd"
        refine q_accK hD (by rw [List.length_map, List.length_map, List.length_take]; exact small1000 (by omega)) ⟨Same.new sm5 nD, ?_⟩
        rw [upd_same, take_snoc huj, List.map_append, List.map_append]
        rfl
      rintro H5 ⟨sm5, hD⟩
      rw [List.take_of_length_le (by rw [htvl]; exact Nat.le_refl _)] at hD
      walk_at "my_rd"
      refine ⟨_, c.toks.map TokR.name, rfl, sqL hD, by rw [List.length_map]; omega, fun zs zp hzp hzs nzp => ?_⟩
      have eyz : ys = zs := sorted_uniq (by rw [List.length_map]; exact hc.tl) htkn hyp hzp hys hzs
      subst eyz
      have sm6 : Same H3 (upd H5 zp (.lst (ys.map V.str))) := Same.trans sm4 (Same.up sm5 nzp)
      have hY6 : upd H5 zp (.lst (ys.map V.str)) yp = some (.lst (ys.map V.str)) := upd_new nzp (sm5 _ _ hY4)
      have hZ6 : upd H5 zp (.lst (ys.map V.str)) zp = some (.lst (ys.map V.str)) := upd_same
      generalize upd H5 zp (.lst (ys.map V.str)) = H6 at sm6 hY6 hZ6
      walk_at "my_rd"
      have shY := shaped_l PyData.str 0 (by omega) ys fun y hy => str_lay (tokS y (htkn y (hyp.mem_iff.mp hy))).1
      refine q_neD (d := .list (ys.map PyData.str)) (e := .list (ys.map PyData.str)) (.lst (sqL hY6) (strs_dp _)) (.lst (sqL hZ6) (strs_dp _)) shY.1 shY.1 ?_
      rw [SeqAt.eqv_refl _ shY.2]
      walk_at "my_rd"
      refine q_methK (sm6 _ _ h1) (h9 _ no_m.2.1) fun R hR => ?_
      walk_at "my_rd"
      refine hR _ _ ⟨cf, g, c, rfl, hC3.same sm6, ?_⟩
      walk_at "my_rd"
      refine q_dGetS (sm6 _ _ hp3.dict) (by (repeat first | rfl | rw [valV_cons, if_pos rfl] | rw [valV_cons, if_neg (by decide +kernel)])) ?_
      have shG := shaped_t prd 3 (by omega) gs hgd
      have hG3 : TupDp K H3 (.ref g) (.tuple (gs.map prd)) := .tup hp3.gt hp3.gp.tall
      refine q_neD (d := .tuple (gs.map prd)) (e := .tuple (gs.map prd)) (hG3.same sm6).dp (hG3.same sm6).dp shG.1 shG.1 ?_
      rw [SeqAt.eqv_refl _ shG.2]
      walk_at "my_rd"
      exact ⟨rfl, sm6⟩
    rintro σ H6 ⟨rfl, sm6⟩
    refine q_cut (Mid := fun σ' H' => ∃ v5 : Option V, σ' = [some (.ref a0), some (.ref p), some (.ref d), some (.ref cf), some (.ref tl), v5, none, none, none, none, none, none] ∧ Same H3 H') ?_ ?_
    · walk_at "my_rd"
      refine q_forL (sqL (sm6 _ _ hp3.tl)) (fun i σ H' => ∃ v5 : Option V, σ = [some (.ref a0), some (.ref p), some (.ref d), some (.ref cf), some (.ref tl), v5, none, none, none, none, none, none] ∧ Same H3 H') ⟨_, rfl, sm6⟩ (fun i σ H' _ ⟨_, _, sm⟩ => sqL (sm _ _ hp3.tl)) ?_ ?_
      · rintro i v σ H7 hv ⟨v5, rfl, sm7⟩
        obtain ⟨t, tk, ht, rfl, htk0'⟩ := hp3.tr.item hv
        have htm := List.mem_of_getElem? ht
        have htk : H7 tk = some (.tup [.str t.name, .str t.home, .int t.scale, .int t.limit, .int t.large]) := sm7 _ _ htk0'
        have hC7 := hC3.same sm7
        walk_at "my_rd"
        refine q_methK (sm7 _ _ h1) (h9 _ no_home) fun R hR => ?_
        walk_at "my_rd"
        refine hR _ _ ⟨cf, g, c, t, rfl, hC7, htm, ?_⟩
        walk_at "my_rd"
        refine q_methK (sm7 _ _ h1) (h9 _ no_scale) fun R hR => ?_
        walk_at "my_rd"
        refine hR _ _ ⟨cf, g, c, t, rfl, hC7, htm, ?_⟩
        walk_at "my_rd"
        refine q_methK (sm7 _ _ h1) (h9 _ no_m.2.2.1) fun R hR => ?_
        walk_at "my_rd"
        refine hR _ _ ⟨cf, g, c, t, rfl, hC7, htm, ?_⟩
        walk_at "my_rd"
        refine q_methK (sm7 _ _ h1) (h9 _ no_m.2.2.2.1) fun R hR => ?_
        walk_at "my_rd"
        refine hR _ _ ⟨cf, g, c, t, rfl, hC7, htm, ?_⟩
        walk_at "my_rd"
        refine q_tupK (Nat.le_of_ble_eq_true rfl) fun U nU => ?_
        walk_at "my_rd"
        have htk8 := upd_new (w := .tup [.str t.home, .int t.scale, .int t.limit, .int t.large]) nU htk
        refine q_slA htk8 fun sl H8 sm8 hsl => ?_
        have hsl : H8 sl = some (.tup [.str t.home, .int t.scale, .int t.limit, .int t.large]) := by rw [hsl]; rfl
        walk_at "my_rd"
        refine ⟨U, sl, _, rfl, sm8 _ _ upd_same, hsl, rfl, by show 4 ≤ 1000; omega, fun H9 sm9 => ?_⟩
        walk_at "my_rd"
        exact ⟨_, rfl, Same.trans (Same.trans (Same.up sm7 nU) sm8) sm9⟩
      rintro σ H7 ⟨v5, rfl, sm7⟩
      walk_at "my_rd"
      exact ⟨v5, rfl, sm7⟩
    rintro σ H7 ⟨v5, rfl, sm7⟩
    refine q_cut (Mid := fun σ' H' => ∃ v5 v6 v11 : Option V, σ' = [some (.ref a0), some (.ref p), some (.ref d), some (.ref cf), some (.ref tl), v5, v6, none, none, none, none, v11] ∧ Same H3 H') ?_ ?_
    · walk_at "my_rd"
      refine q_lstK (Nat.le_of_ble_eq_true rfl) fun SD nSD => ?_
      have smS : Same H7 (upd H7 SD (.lst [.str "west", .str "east"])) := Same.up (Same.refl _) nSD
      have hSD : upd H7 SD (.lst [.str "west", .str "east"]) SD = some (.lst (sideNames.map V.str)) := upd_same
      generalize upd H7 SD (.lst [.str "west", .str "east"]) = H8 at smS hSD
      have sm8 := Same.trans sm7 smS
      -- for side in sides
      refine q_forL (sqL hSD) (fun i σ H' => ∃ (v5 v6 v11 : Option V), σ = [some (.ref a0), some (.ref p), some (.ref d), some (.ref cf), some (.ref tl), v5, v6, none, none, none, none, v11] ∧ Same H8 H') ⟨_, _, _, rfl, Same.refl _⟩ (fun i σ H' _ ⟨_, _, _, _, sm⟩ => sqL (sm _ _ hSD)) ?_ ?_
      · rintro i v σ H9 hv ⟨v5, v6, v11, rfl, sm89⟩
        obtain ⟨sd, hsd, rfl⟩ : ∃ s, sideNames[i]? = some s ∧ v = .str s := by
          rw [List.getElem?_map] at hv
          cases q : sideNames[i]? with
          | none => rw [q] at hv; cases hv
          | some s => rw [q] at hv; exact ⟨s, rfl, (Option.some.inj hv).symm⟩
        have sm9 := Same.trans sm8 sm89
        walk_at "my_rd"
        refine q_lcL (sqL (sm9 _ _ hp3.tl)) (fun D nD => ⟨fun j H' => Same H9 H' ∧ H' D = some (.lst ((((c.toks.take j).filter fun u => decide (u.home = sd)).map TokR.name).map V.str)), ⟨Same.new (Same.refl _) nD, upd_same⟩, fun j H' _ h => sqL (h.1 _ _ (sm9 _ _ hp3.tl)), ?_, ?_⟩)
        · rintro j w H10 hw ⟨sm10, hD⟩
          obtain ⟨u, ub, huj, rfl, hub0⟩ := hp3.tr.item hw
          have hub : H10 ub = some (.tup [.str u.name, .str u.home, .int u.scale, .int u.limit, .int u.large]) := sm10 _ _ (sm9 _ _ hub0)
          walk_at "my_rd"
          refine ⟨rfl, ?_⟩
          walk_at "my_rd"
          refine q_keep2 (fun h => ?_) (fun h => ?_)
          · walk_at "my_rd"
            refine q_accK hD (by rw [List.length_map, List.length_map]; have := List.length_filter_le (fun u : TokR => decide (u.home = sd)) (c.toks.take j); rw [List.length_take] at this; exact small1000 (by omega)) ⟨Same.new sm10 nD, ?_⟩
            rw [upd_same, take_snoc huj, filter_st (p := fun u : TokR => decide (u.home = sd)) h, List.map_append, List.map_append]
            rfl
          · refine ⟨sm10, ?_⟩
            rw [take_snoc huj, filter_sf (p := fun u : TokR => decide (u.home = sd)) h]
            exact hD
        · rintro H10 ⟨sm10, hD⟩
          rw [List.take_of_length_le (by rw [htvl]; exact Nat.le_refl _)] at hD
          have sm10' := Same.trans sm9 sm10
          walk_at "my_rd"
          refine q_methK (sm10' _ _ h1) (h9 _ no_opening) fun R hR => ?_
          walk_at "my_rd"
          refine hR _ _ ⟨cf, g, c, sd, rfl, hC3.same sm10', hc.ok, fun q ys' H11 nq hq hrows sm11 => ?_⟩
          have sm11' := Same.trans sm10' sm11
          have hD11 := sm11 _ _ hD
          walk_at "my_rd"
          refine q_dGetS (sm11' _ _ hp3.dict) (by (repeat first | rfl | rw [valV_cons, if_pos rfl] | rw [valV_cons, if_neg (by decide +kernel)])) ?_
          refine q_lcL (sqL (sm11' _ _ hp3.bl)) (fun F nF => ⟨fun j H' => ∃ zs', Same H11 H' ∧ H' F = some (.lst zs') ∧ RowsAt BalR.v H' zs' ((c.bals.take j).filter fun b => decide (c.homeOf b.tok = sd)), ⟨[], Same.new (Same.refl _) nF, upd_same, RowsAt.nil⟩, fun j H' _ h => sqL (h.choose_spec.1 _ _ (sm11' _ _ hp3.bl)), ?_, ?_⟩)
          · rintro j w H12 hw ⟨zs', sm12, hF, hrz⟩
            obtain ⟨b, rb, hb, rfl, hrb0⟩ := hp3.br.item hw
            have hbm := List.mem_of_getElem? hb
            have hrb : H12 rb = some (.tup [.str b.acc, .str b.tok, .int b.amt]) := sm12 _ _ (sm11' _ _ hrb0)
            obtain ⟨t, ht, hte⟩ := List.mem_map.mp (hc.ok.b b hbm).tm
            have eho : c.homeOf b.tok = t.home := by rw [← hte]; exact Parts.home_eq hc.ok ht
            walk_at "my_rd"
            refine ⟨rfl, ?_⟩
            walk_at "my_rd"
            refine q_inL (sqL (sm12 _ _ hD11)) rfl (by rw [List.all_eq_true]; intro x hx; obtain ⟨s, _, rfl⟩ := List.mem_map.mp hx; rfl) ?_
            rw [inV_str]
            have edec : decide (b.tok ∈ ((c.toks.filter fun u => decide (u.home = sd)).map TokR.name)) = decide (c.homeOf b.tok = sd) := by
              rw [eho, ← hte]
              exact decide_eq_decide.mpr (names_iff hc.ok.tn ht sd)
            rw [edec]
            walk_at "my_rd"
            have fl := List.length_filter_le (fun b => decide (c.homeOf b.tok = sd)) (c.bals.take j)
            rw [List.length_take] at fl
            have bl10 := hc.bl
            refine q_keep2 (fun h => ?_) (fun h => ?_)
            · walk_at "my_rd"
              have smF : ∀ b' ys'', H12 b' = some (HO.tup ys'') → upd H12 F (.lst (zs' ++ [.ref rb])) b' = some (.tup ys'') := fun b' ys'' q => upd_other (ne_of q hF (by intro z; cases z)) q
              refine q_accK hF (by rw [hrz.len]; exact small1000 (by omega)) ⟨zs' ++ [.ref rb], Same.new sm12 nF, upd_same, ?_⟩
              rw [take_snoc hb, filter_st (p := fun b : BalR => decide (c.homeOf b.tok = sd)) h]
              exact (hrz.mono smF).snoc (smF _ _ hrb)
            · refine ⟨zs', sm12, hF, ?_⟩
              rw [take_snoc hb, filter_sf (p := fun b : BalR => decide (c.homeOf b.tok = sd)) h]
              exact hrz
          · rintro H12 ⟨zs', sm12, hF, hrz⟩
            rw [List.take_of_length_le (by rw [hbvl]; exact Nat.le_refl _)] at hrz
            have hbl : ∀ x ∈ c.bals.filter (fun b => decide (c.homeOf b.tok = sd)), (balD x).canLay0 = true ∧ (balD x).depth ≤ 3 := fun x hx => by
              have hxm := (List.mem_filter.mp hx).1
              refine bal_lay ?_ ?_
              · rcases hc.ba x hxm with m | m
                · exact (accS _ m).1
                · obtain ⟨g0, hg0, e⟩ := Option.map_eq_some_iff.mp m
                  rw [← e]
                  exact (gnames_ok _ (hc.gd.nms g0 (List.mem_of_getElem? hg0))).2.2
              · exact (tokS _ (htkn _ (hc.ok.b x hxm).tm)).1
            have shB := shaped_l balD 3 (by omega) _ hbl
            walk_at "my_rd"
            refine q_neD (d := .list ((c.bals.filter fun b => decide (c.homeOf b.tok = sd)).map balD)) (e := .list ((c.bals.filter fun b => decide (c.homeOf b.tok = sd)).map balD)) (.lst (sqL (sm12 _ _ hq)) (rows_dp (hrows.same sm12))) (.lst (sqL hF) (rows_dp hrz)) shB.1 shB.1 ?_
            rw [SeqAt.eqv_refl _ shB.2]
            walk_at "my_rd"
            exact ⟨_, _, _, rfl, Same.trans sm89 (Same.trans sm10 (Same.trans sm11 sm12))⟩
      rintro σ H9 ⟨v5, v6, v11, rfl, sm89⟩
      walk_at "my_rd"
      exact ⟨v5, v6, v11, rfl, Same.trans sm8 sm89⟩
    rintro σ H9 ⟨v5, v6, v11, rfl, sm9⟩
    have hC9 := hC3.same sm9
    have hp9 := hp3.same sm9
    have pot9 := pot3.same sm9
    have h1 := sm9 _ _ h1
    have htk9 := sm9 _ _ htk3
    clear sm9 sm7 sm6 hp3 hC3 pot3 htk3 sm3 h10 h11 h12 h13
    refine q_cut (Mid := fun σ' H' => σ' = [some (.ref a0), some (.ref p), some (.ref d), some (.ref cf), some (.ref tl), v5, v6, none, none, none, none, v11] ∧ Same H9 H') ?_ ?_
    · walk_at "my_rd"
      refine q_methK h1 (h9 _ no_m.2.2.2.2.1) fun R hR => ?_
      walk_at "my_rd"
      refine hR _ _ ⟨cf, g, c, rfl, hC9, ?_⟩
      walk_at "my_rd"
      refine q_dGetS hp9.dict (by (repeat first | rfl | rw [valV_cons, if_pos rfl] | rw [valV_cons, if_neg (by decide +kernel)])) ?_
      walk_at "my_rd"
      rw [decide_eq_true rfl]
      walk_at "my_rd"
      refine q_methK h1 (h9 _ no_m.2.2.2.2.2.1) fun R hR => ?_
      walk_at "my_rd"
      refine hR _ _ ⟨cf, g, c, rfl, hC9, ?_⟩
      walk_at "my_rd"
      refine q_dGetS hp9.dict (by (repeat first | rfl | rw [valV_cons, if_pos rfl] | rw [valV_cons, if_neg (by decide +kernel)])) ?_
      walk_at "my_rd"
      rw [decide_eq_true rfl]
      walk_at "my_rd"
      refine q_methK h1 (h9 _ no_m.2.2.2.2.2.2.1) fun R hR => ?_
      walk_at "my_rd"
      refine hR _ _ ⟨cf, g, c, rfl, hC9, ?_⟩
      walk_at "my_rd"
      refine q_dGetS hp9.dict (by (repeat first | rfl | rw [valV_cons, if_pos rfl] | rw [valV_cons, if_neg (by decide +kernel)])) ?_
      walk_at "my_rd"
      rw [decide_eq_true rfl]
      walk_at "my_rd"
      exact ⟨rfl, Same.refl _⟩
    rintro σ H9b ⟨rfl, smb⟩
    -- the plain one
    have hC9 := hC9.same smb
    have hp9 := hp9.same smb
    have pot9 := pot9.same smb
    have h1 := smb _ _ h1
    have htk9 := smb _ _ htk9
    obtain ⟨c', ec, e1, e2, e3, e4⟩ : ∃ c' : Parts, c' = { c with depth := 2, window := 4, delay := 2, bundle := 4 } ∧ c'.depth = 2 ∧ c'.window = 4 ∧ c'.delay = 2 ∧ c'.bundle = 4 := ⟨_, rfl, rfl, rfl, rfl, rfl⟩
    have e5 : c'.toks = c.toks := by rw [ec]
    have e6 : c'.bals = c.bals := by rw [ec]
    have ok' : c'.Ok := ⟨by rw [e5]; exact hc.ok.t, by rw [e5]; exact hc.ok.tn, by rw [e5]; exact hc.ok.tl, by rw [e5, e6]; exact hc.ok.b, by rw [e6]; exact hc.ok.bl, by rw [e1]; decide, by rw [e2]; decide, by rw [e3]; decide, by rw [e4]; decide, by rw [e4]; decide⟩
    refine q_cut (Mid := fun σ' H' => ∃ x : Addr, σ' = [some (.ref a0), some (.ref p), some (.ref d), some (.ref cf), some (.ref tl), v5, v6, some (.ref x), none, none, none, v11] ∧ CfgAt T.C_Config c' g H' x ∧ Same H9b H') ?_ ?_
    · walk_at "my_rd"
      refine q_dGetS hp9.dict (by (repeat first | rfl | rw [valV_cons, if_pos rfl] | rw [valV_cons, if_neg (by decide +kernel)])) ?_
      walk_at "my_rd"
      refine q_dGetS hp9.dict (by (repeat first | rfl | rw [valV_cons, if_pos rfl] | rw [valV_cons, if_neg (by decide +kernel)])) ?_
      walk_at "my_rd"
      refine ⟨rfl, rfl, fun x xd nx nxd hne => ?_⟩
      have smM : Same H9b (upd (upd H9b xd (.own x)) x (.ins T.C_Config xd [])) := Same.up (Same.up (Same.refl _) nxd) (upd_free hne.symm nx)
      have hpM := hp9.same smM
      refine ⟨x, xd, tl, bl, g, tv, bv, .tuple (gs.map prd), c', by rw [e1, e2, e3, e4]; rfl, upd_same, hpM.tl, hpM.bl, by rw [e5]; exact hpM.tr, by rw [e6]; exact hpM.br, .tup hpM.gt hpM.gp.tall, hc.gd.set, fineS_pairs hc.gd, ok', fun H10 hCx kp10 => ⟨rfl, ?_⟩⟩
      have sm10 : Same H9b H10 := fun b o q => kp10 b o (smM _ _ q) (ne_of_none q nx)
      walk_at "my_rd"
      exact ⟨x, rfl, hCx, sm10⟩
    rintro σ H10 ⟨x, rfl, hCx, sm10⟩
    have hC10 := hC9.same sm10
    have hp10 := hp9.same sm10
    have pot10 := pot9.same sm10
    have h1 := sm10 _ _ h1
    have htk10 := sm10 _ _ htk9
    clear sm10 hp9 hC9 pot9 htk9
    obtain ⟨xd2, xfs, xtd, xbl, xkvs, xbv, g1, g2, g3, g4, g5, g6, g7, g8, g9, _⟩ := hCx.ex
    refine q_cut (Mid := fun σ' H' => σ' = [some (.ref a0), some (.ref p), some (.ref d), some (.ref cf), some (.ref tl), v5, v6, some (.ref x), none, none, none, v11] ∧ Same H10 H') ?_ ?_
    · walk_at "my_rd"
      refine q_methK g1 (g9 _ no_m.2.2.2.2.1) fun R hR => ?_
      walk_at "my_rd"
      refine hR _ _ ⟨x, g, c', rfl, hCx, ?_⟩
      rw [e1]
      walk_at "my_rd"
      rw [decide_eq_true rfl]
      walk_at "my_rd"
      refine q_methK g1 (g9 _ no_m.2.2.2.2.2.1) fun R hR => ?_
      walk_at "my_rd"
      refine hR _ _ ⟨x, g, c', rfl, hCx, ?_⟩
      rw [e2]
      walk_at "my_rd"
      rw [decide_eq_true rfl]
      walk_at "my_rd"
      refine q_methK g1 (g9 _ no_m.2.2.2.2.2.2.1) fun R hR => ?_
      walk_at "my_rd"
      refine hR _ _ ⟨x, g, c', rfl, hCx, ?_⟩
      rw [e3]
      walk_at "my_rd"
      rw [decide_eq_true rfl]
      walk_at "my_rd"
      refine ⟨_, rfl, ?_⟩
      rw [if_pos rfl]
      walk_at "my_rd"
      rw [decide_eq_true rfl]
      walk_at "my_rd"
      refine ⟨_, rfl, ?_⟩
      rw [if_neg (by decide +kernel)]
      walk_at "my_rd"
      rw [decide_eq_true rfl]
      walk_at "my_rd"
      exact ⟨rfl, Same.refl _⟩
    rintro σ H10b ⟨rfl, smb2⟩
    -- a spoilt token
    have hC10 := hC10.same smb2
    have hCx := hCx.same smb2
    have hp10 := hp10.same smb2
    have pot10 := pot10.same smb2
    have htk10 := smb2 _ _ htk10
    refine q_cut (Mid := fun σ' H' => ∃ (mr : Addr) (m : TokR), σ' = [some (.ref a0), some (.ref p), some (.ref d), some (.ref cf), some (.ref tl), v5, v6, some (.ref x), some (.ref mr), none, none, v11] ∧ H' mr = some (.tup m.v) ∧ BadT c m ∧ Kp p H10b H' ∧ PotAt H' p l) ?_ ?_
    · have htl10 := hp10.tl
      walk_at "my_rd"
      refine q_ixLt htl10 (at_int (n := 0) rfl htk0) ?_
      walk_at "my_rd"
      refine q_tupK (Nat.le_of_ble_eq_true rfl) fun m1 nm1 => ?_
      walk_at "my_rd"
      refine q_tupK (Nat.le_of_ble_eq_true rfl) fun m2 nm2 => ?_
      walk_at "my_rd"
      refine q_tupK (Nat.le_of_ble_eq_true rfl) fun m3 nm3 => ?_
      walk_at "my_rd"
      refine q_tupK (Nat.le_of_ble_eq_true rfl) fun m4 nm4 => ?_
      walk_at "my_rd"
      refine q_tupK (Nat.le_of_ble_eq_true rfl) fun m5 nm5 => ?_
      walk_at "my_rd"
      refine q_tupK (Nat.le_of_ble_eq_true rfl) fun m6 nm6 => ?_
      walk_at "my_rd"
      refine q_lstK (Nat.le_of_ble_eq_true rfl) fun ML nML => ?_
      walk_at "my_rd"
      generalize hHL : upd _ ML _ = HL
      have smL : Same H10b HL := by rw [← hHL]; (repeat first | (with_reducible exact Same.refl _) | (with_reducible assumption) | (with_reducible refine Same.up ?_ (by assumption)) | (with_reducible refine' Same.trans ?_ (by assumption)))
      have hML : HL ML = some (.lst [.ref tk0, .ref m1, .ref m2, .ref m3, .ref m4, .ref m5, .ref m6]) := by rw [← hHL]; exact upd_same
      have q1 : HL m1 = some (.tup [.str "", .str "west", .int 1, .int 1, .int 1]) := by rw [← hHL]; (repeat first | (with_reducible exact upd_same) | (with_reducible assumption) | (with_reducible apply upd_new (by assumption)) | (with_reducible apply upd_other (by first | assumption | exact Ne.symm (by assumption))) | (with_reducible refine' Kp.get (by assumption) ?_ (by first | assumption | exact Ne.symm (by assumption))) | (with_reducible apply Same.get (by assumption)))
      have q2 : HL m2 = some (.tup [.str (repS "x" 13), .str "west", .int 1, .int 1, .int 1]) := by rw [← hHL]; (repeat first | (with_reducible exact upd_same) | (with_reducible assumption) | (with_reducible apply upd_new (by assumption)) | (with_reducible apply upd_other (by first | assumption | exact Ne.symm (by assumption))) | (with_reducible refine' Kp.get (by assumption) ?_ (by first | assumption | exact Ne.symm (by assumption))) | (with_reducible apply Same.get (by assumption)))
      have q3 : HL m3 = some (.tup [.str "new", .str "north", .int 1, .int 1, .int 1]) := by rw [← hHL]; (repeat first | (with_reducible exact upd_same) | (with_reducible assumption) | (with_reducible apply upd_new (by assumption)) | (with_reducible apply upd_other (by first | assumption | exact Ne.symm (by assumption))) | (with_reducible refine' Kp.get (by assumption) ?_ (by first | assumption | exact Ne.symm (by assumption))) | (with_reducible apply Same.get (by assumption)))
      have q4 : HL m4 = some (.tup [.str "new", .str "west", .int 0, .int 1, .int 1]) := by rw [← hHL]; (repeat first | (with_reducible exact upd_same) | (with_reducible assumption) | (with_reducible apply upd_new (by assumption)) | (with_reducible apply upd_other (by first | assumption | exact Ne.symm (by assumption))) | (with_reducible refine' Kp.get (by assumption) ?_ (by first | assumption | exact Ne.symm (by assumption))) | (with_reducible apply Same.get (by assumption)))
      have q5 : HL m5 = some (.tup [.str "new", .str "west", .int 1, .int (-1), .int 1]) := by rw [← hHL]; (repeat first | (with_reducible exact upd_same) | (with_reducible assumption) | (with_reducible apply upd_new (by assumption)) | (with_reducible apply upd_other (by first | assumption | exact Ne.symm (by assumption))) | (with_reducible refine' Kp.get (by assumption) ?_ (by first | assumption | exact Ne.symm (by assumption))) | (with_reducible apply Same.get (by assumption)))
      have q6 : HL m6 = some (.tup [.str "new", .str "west", .int 1, .int 1, .int 0]) := by rw [← hHL]; (repeat first | (with_reducible exact upd_same) | (with_reducible assumption) | (with_reducible apply upd_new (by assumption)) | (with_reducible apply upd_other (by first | assumption | exact Ne.symm (by assumption))) | (with_reducible refine' Kp.get (by assumption) ?_ (by first | assumption | exact Ne.symm (by assumption))) | (with_reducible apply Same.get (by assumption)))
      clear hHL
      have potL := pot10.same smL
      have MLp : ML ≠ p := by
        rintro rfl
        obtain ⟨ns, i, cc, s, z1, _⟩ := potL
        rw [hML] at z1
        cases z1
      refine ⟨p, l, 7, rfl, potL, by omega, by omega, fun r H11 r0 r1 pot11 kp11 => ?_⟩
      have kpA : Kp p H10b H11 := Kp.trans (Same.kp smL) kp11
      have hL := Kp.get kp11 hML MLp
      have cs : r = 0 ∨ r = 1 ∨ r = 2 ∨ r = 3 ∨ r = 4 ∨ r = 5 ∨ r = 6 := by omega
      walk_at "my_rd"
      rcases cs with rfl | rfl | rfl | rfl | rfl | rfl | rfl
      · refine q_ixLt hL rfl ?_
        walk_at "my_rd"
        exact ⟨tk0, t0, rfl, kpA.tup pot10 htk10, ⟨.inl ht0m, by have := (hc.ok.t t0 ht0m).nl; omega⟩, kpA, pot11⟩
      · refine q_ixLt hL rfl ?_
        walk_at "my_rd"
        exact ⟨m1, ⟨"", "west", 1, 1, 1⟩, rfl, kp11.tup potL q1, ⟨.inr (by decide +kernel), by decide +kernel⟩, kpA, pot11⟩
      · refine q_ixLt hL rfl ?_
        walk_at "my_rd"
        exact ⟨m2, ⟨repS "x" 13, "west", 1, 1, 1⟩, rfl, kp11.tup potL q2, ⟨.inr (by decide +kernel), by decide +kernel⟩, kpA, pot11⟩
      · refine q_ixLt hL rfl ?_
        walk_at "my_rd"
        exact ⟨m3, ⟨"new", "north", 1, 1, 1⟩, rfl, kp11.tup potL q3, ⟨.inr (by decide +kernel), by decide +kernel⟩, kpA, pot11⟩
      · refine q_ixLt hL rfl ?_
        walk_at "my_rd"
        exact ⟨m4, ⟨"new", "west", 0, 1, 1⟩, rfl, kp11.tup potL q4, ⟨.inr (by decide +kernel), by decide +kernel⟩, kpA, pot11⟩
      · refine q_ixLt hL rfl ?_
        walk_at "my_rd"
        exact ⟨m5, ⟨"new", "west", 1, -1, 1⟩, rfl, kp11.tup potL q5, ⟨.inr (by decide +kernel), by decide +kernel⟩, kpA, pot11⟩
      · refine q_ixLt hL rfl ?_
        walk_at "my_rd"
        exact ⟨m6, ⟨"new", "west", 1, 1, 0⟩, rfl, kp11.tup potL q6, ⟨.inr (by decide +kernel), by decide +kernel⟩, kpA, pot11⟩
    rintro σ H11 ⟨mr, m, rfl, hmr, hbad, kp11, pot11⟩
    have hp11 := hp10.pot pot10 kp11
    have hC11 := hC10.pot pot10 kp11
    have hCx11 := hCx.pot pot10 kp11
    have htk11 : H11 tk0 = some (.tup [.str t0.name, .str t0.home, .int t0.scale, .int t0.limit, .int t0.large]) := kp11.tup pot10 htk10
    clear kp11 hp10 hC10 hCx pot10 htk10 h1 g1 g2 g3 g4 g5 g6 g7 g8 g9
    -- a spoilt balance
    refine q_cut (Mid := fun σ' H' => ∃ (br : Addr) (b : BalR), σ' = [some (.ref a0), some (.ref p), some (.ref d), some (.ref cf), some (.ref tl), v5, v6, some (.ref x), some (.ref mr), some (.ref br), none, v11] ∧ H' br = some (.tup b.v) ∧ Ra.balB c.toks b = false ∧ b.acc.length ≤ 100000 ∧ b.tok.length ≤ 100000 ∧ Kp p H11 H' ∧ PotAt H' p l) ?_ ?_
    · have htl11 := hp11.tl
      walk_at "my_rd"
      refine q_tupK (Nat.le_of_ble_eq_true rfl) fun m1 nm1 => ?_
      walk_at "my_rd"
      refine q_ixLt (by (repeat first | (with_reducible exact upd_same) | (with_reducible assumption) | (with_reducible apply upd_new (by assumption)) | (with_reducible apply upd_other (by first | assumption | exact Ne.symm (by assumption))) | (with_reducible refine' Kp.get (by assumption) ?_ (by first | assumption | exact Ne.symm (by assumption))) | (with_reducible apply Same.get (by assumption)))) (at_int (n := 0) rfl htk0) ?_
      walk_at "my_rd"
      refine q_tupK (Nat.le_of_ble_eq_true rfl) fun m2 nm2 => ?_
      walk_at "my_rd"
      refine q_ixLt (by (repeat first | (with_reducible exact upd_same) | (with_reducible assumption) | (with_reducible apply upd_new (by assumption)) | (with_reducible apply upd_other (by first | assumption | exact Ne.symm (by assumption))) | (with_reducible refine' Kp.get (by assumption) ?_ (by first | assumption | exact Ne.symm (by assumption))) | (with_reducible apply Same.get (by assumption)))) (at_int (n := 0) rfl htk0) ?_
      walk_at "my_rd"
      refine q_tupK (Nat.le_of_ble_eq_true rfl) fun m3 nm3 => ?_
      walk_at "my_rd"
      refine q_ixLt (by (repeat first | (with_reducible exact upd_same) | (with_reducible assumption) | (with_reducible apply upd_new (by assumption)) | (with_reducible apply upd_other (by first | assumption | exact Ne.symm (by assumption))) | (with_reducible refine' Kp.get (by assumption) ?_ (by first | assumption | exact Ne.symm (by assumption))) | (with_reducible apply Same.get (by assumption)))) (at_int (n := 0) rfl htk0) ?_
      walk_at "my_rd"
      refine q_tupK (Nat.le_of_ble_eq_true rfl) fun m4 nm4 => ?_
      walk_at "my_rd"
      refine q_lstK (Nat.le_of_ble_eq_true rfl) fun ML nML => ?_
      walk_at "my_rd"
      generalize hHL : upd _ ML _ = HL
      have smL : Same H11 HL := by rw [← hHL]; (repeat first | (with_reducible exact Same.refl _) | (with_reducible assumption) | (with_reducible refine Same.up ?_ (by assumption)) | (with_reducible refine' Same.trans ?_ (by assumption)))
      have hML : HL ML = some (.lst [.ref m1, .ref m2, .ref m3, .ref m4]) := by rw [← hHL]; exact upd_same
      have q1 : HL m1 = some (.tup [.str "ann", .str "lead", .int 1]) := by rw [← hHL]; (repeat first | (with_reducible exact upd_same) | (with_reducible assumption) | (with_reducible apply upd_new (by assumption)) | (with_reducible apply upd_other (by first | assumption | exact Ne.symm (by assumption))) | (with_reducible refine' Kp.get (by assumption) ?_ (by first | assumption | exact Ne.symm (by assumption))) | (with_reducible apply Same.get (by assumption)))
      have q2 : HL m2 = some (.tup [.str "ann", .str t0.name, .int (-1)]) := by rw [← hHL]; (repeat first | (with_reducible exact upd_same) | (with_reducible assumption) | (with_reducible apply upd_new (by assumption)) | (with_reducible apply upd_other (by first | assumption | exact Ne.symm (by assumption))) | (with_reducible refine' Kp.get (by assumption) ?_ (by first | assumption | exact Ne.symm (by assumption))) | (with_reducible apply Same.get (by assumption)))
      have q3 : HL m3 = some (.tup [.str "", .str t0.name, .int 1]) := by rw [← hHL]; (repeat first | (with_reducible exact upd_same) | (with_reducible assumption) | (with_reducible apply upd_new (by assumption)) | (with_reducible apply upd_other (by first | assumption | exact Ne.symm (by assumption))) | (with_reducible refine' Kp.get (by assumption) ?_ (by first | assumption | exact Ne.symm (by assumption))) | (with_reducible apply Same.get (by assumption)))
      have q4 : HL m4 = some (.tup [.str (repS "x" 21), .str t0.name, .int 1]) := by rw [← hHL]; (repeat first | (with_reducible exact upd_same) | (with_reducible assumption) | (with_reducible apply upd_new (by assumption)) | (with_reducible apply upd_other (by first | assumption | exact Ne.symm (by assumption))) | (with_reducible refine' Kp.get (by assumption) ?_ (by first | assumption | exact Ne.symm (by assumption))) | (with_reducible apply Same.get (by assumption)))
      clear hHL
      have potL := pot11.same smL
      have MLp : ML ≠ p := by
        rintro rfl
        obtain ⟨ns, i, cc, s, z1, _⟩ := potL
        rw [hML] at z1
        cases z1
      refine ⟨p, l, 4, rfl, potL, by omega, by omega, fun r H12 r0 r1 pot12 kp12 => ?_⟩
      have kpA : Kp p H11 H12 := Kp.trans (Same.kp smL) kp12
      have hL := Kp.get kp12 hML MLp
      have tl0 : t0.name.length ≤ 100000 := by have := (hc.ok.t t0 ht0m).nl; omega
      have cs : r = 0 ∨ r = 1 ∨ r = 2 ∨ r = 3 := by omega
      walk_at "my_rd"
      rcases cs with rfl | rfl | rfl | rfl
      · refine q_ixLt hL rfl ?_
        walk_at "my_rd"
        refine ⟨m1, ⟨"ann", "lead", 1⟩, rfl, kp12.tup potL q1, ?_, by decide +kernel, by decide +kernel, kpA, pot12⟩
        unfold Ra.balB
        rw [decide_eq_false (show ¬ ("lead" : Str) ∈ c.toks.map TokR.name from fun q => (tokS _ (htkn _ q)).2.1 rfl), Bool.and_false]
        rfl
      · refine q_ixLt hL rfl ?_
        walk_at "my_rd"
        refine ⟨m2, ⟨"ann", t0.name, -1⟩, rfl, kp12.tup potL q2, ?_, (show ("ann" : Str).length ≤ 100000 by decide +kernel), tl0, kpA, pot12⟩
        unfold Ra.balB
        rw [decide_eq_false (show ¬ (0 : Int) ≤ -1 by decide), Bool.and_false]
      · refine q_ixLt hL rfl ?_
        walk_at "my_rd"
        refine ⟨m3, ⟨"", t0.name, 1⟩, rfl, kp12.tup potL q3, ?_, (show ("" : Str).length ≤ 100000 by decide +kernel), tl0, kpA, pot12⟩
        unfold Ra.balB
        rw [show accD (.str "") = false by decide +kernel]
        rfl
      · refine q_ixLt hL rfl ?_
        walk_at "my_rd"
        refine ⟨m4, ⟨repS "x" 21, t0.name, 1⟩, rfl, kp12.tup potL q4, ?_, (show (repS "x" 21).length ≤ 100000 by decide +kernel), tl0, kpA, pot12⟩
        unfold Ra.balB
        rw [show accD (.str (repS "x" 21)) = false by decide +kernel]
        rfl
    rintro σ H12 ⟨br, b, rfl, hbr, hbb, hb1, hb2, kp12, pot12⟩
    have hp12 := hp11.pot pot11 kp12
    have hC12 := hC11.pot pot11 kp12
    have hCx12 := hCx11.pot pot11 kp12
    have hmr12 := kp12.tup pot11 hmr
    clear kp12 hp11 hC11 hCx11 pot11 hmr htk11
    have htl12 := hp12.tl
    refine q_cut (Mid := fun σ' H' => ∃ r : Int, 0 ≤ r ∧ r < (tv.length : Int) + 1 ∧ σ' = [some (.ref a0), some (.ref p), some (.ref d), some (.ref cf), some (.ref tl), v5, v6, some (.ref x), some (.ref mr), some (.ref br), some (.int r), v11] ∧ PotAt H' p l ∧ Kp p H12 H') ?_ ?_
    · walk_at "my_rd"
      refine ⟨p, l, _, rfl, pot12, by omega, by omega, fun r H13 r0 r1 pot13 kp13 => ?_⟩
      walk_at "my_rd"
      exact ⟨r, r0, r1, rfl, pot13, kp13⟩
    rintro σ H13 ⟨r, r0, r1, rfl, pot13, kp13⟩
    have hp13 := hp12.pot pot12 kp13
    have hC13 := hC12.pot pot12 kp13
    have hCx13 := hCx12.pot pot12 kp13
    have hmr13 := kp13.tup pot12 hmr12
    have hbr13 := kp13.tup pot12 hbr
    clear kp13 hp12 hC12 hCx12 pot12 hmr12 htl12 hbr pot13
    obtain ⟨n, rfl⟩ : ∃ n : Nat, r = n := ⟨r.toNat, by omega⟩
    have hnl : ∀ t ∈ c.toks, t.name.length ≤ 100000 := fun t ht => by have := (hc.ok.t t ht).nl; omega
    have hbl2 : ∀ b ∈ c.bals, b.acc.length ≤ 100000 ∧ b.tok.length ≤ 100000 := fun b hb => by
      have h1 := (hc.ok.b b hb).al
      have h2 := (hc.ok.b b hb).tl
      exact ⟨by omega, by omega⟩
    have htl13 := hp13.tl
    have hd13 := hp13.dict
    have hct := hc.ok.tl
    have hcb := hc.ok.bl
    refine q_cut (Mid := fun σ' H' => σ' = [some (.ref a0), some (.ref p), some (.ref d), some (.ref cf), some (.ref tl), v5, v6, some (.ref x), some (.ref mr), some (.ref br), some (.int (n : Int)), v11] ∧ Same H13 H') ?_ ?_
    · walk_at "my_rd"
      refine q_slL (sqL htl13) fun s1 ns1 => ?_
      rw [cut_take (by omega)]
      walk_at "my_rd"
      refine q_lstK (Nat.le_of_ble_eq_true rfl) fun s2 ns2 => ?_
      walk_at "my_rd"
      refine ⟨s1, s2, _, _, rfl, rfl, upd_new ns2 upd_same, upd_same, by rw [List.length_take]; exact Nat.le_of_lt (small1000 (by show min n tv.length + 1 ≤ 1000; omega)), fun s3 ns3 => ?_⟩
      walk_at "my_rd"
      refine q_slL (sqL (by (repeat first | (with_reducible exact upd_same) | (with_reducible assumption) | (with_reducible apply upd_new (by assumption)) | (with_reducible apply upd_other (by first | assumption | exact Ne.symm (by assumption))) | (with_reducible refine' Kp.get (by assumption) ?_ (by first | assumption | exact Ne.symm (by assumption))) | (with_reducible apply Same.get (by assumption))))) fun s4 ns4 => ?_
      rw [cut_drop (by omega)]
      walk_at "my_rd"
      refine ⟨s3, s4, _, _, rfl, rfl, upd_new ns4 upd_same, upd_same, by rw [List.length_append, List.length_take, List.length_drop]; exact Nat.le_of_lt (small1000 (by show min n tv.length + 1 + (tv.length - n) ≤ 1000; omega)), fun s5 ns5 => ?_⟩
      generalize hHq : upd _ s5 _ = Hq
      have sm14 : Same H13 Hq := by rw [← hHq]; (repeat first | (with_reducible exact Same.refl _) | (with_reducible assumption) | (with_reducible refine Same.up ?_ (by assumption)) | (with_reducible refine' Same.trans ?_ (by assumption)))
      have hs5 : Hq s5 = some (.lst (tv.take n ++ [.ref mr] ++ tv.drop n)) := by rw [← hHq]; exact upd_same
      clear hHq ns1 ns2 ns3 ns4 ns5
      walk_at "my_rd"
      refine q_lstK (Nat.le_of_ble_eq_true rfl) fun s6 ns6 => ?_
      walk_at "my_rd"
      refine q_dGetS (upd_new ns6 (sm14 _ _ hd13)) (by (repeat first | rfl | rw [valV_cons, if_pos rfl] | rw [valV_cons, if_neg (by decide +kernel)])) ?_
      walk_at "my_rd"
      have sm15 : Same H13 (upd Hq s6 (.lst [])) := Same.up sm14 ns6
      have hp15 := hp13.same sm15
      unfold callK
      refine ⟨s5, s6, g, _, [], .tuple (gs.map prd), ⟨c.toks.take n ++ [m] ++ c.toks.drop n, [], 1, 1, 0, 4⟩, rfl, upd_new ns6 hs5, upd_same, ((hp15.tr.tk n).app (RowsAt.one (sm15 _ _ hmr13))).app (hp15.tr.dr n), RowsAt.nil, .tup hp15.gt hp15.gp.tall, fineS_pairs hc.gd, ?_, by show 0 ≤ 1000; omega, ?_, fun b hb => (by cases hb), hbad.ng n rfl, fun H16 sm16 => ?_⟩
      · show (c.toks.take n ++ [m] ++ c.toks.drop n).length ≤ 1000
        rw [List.length_append, List.length_append, List.length_take, List.length_drop]
        show min n c.toks.length + 1 + (c.toks.length - n) ≤ 1000
        omega
      · intro t ht
        rcases List.mem_append.mp ht with h | h
        · rcases List.mem_append.mp h with h | h
          · exact hnl t (List.mem_of_mem_take h)
          · rw [List.mem_singleton.mp h]; exact hbad.l
        · exact hnl t (List.mem_of_mem_drop h)
      have sm16 := Same.trans sm15 sm16
      clear hp15 sm15 sm14 hs5
      walk_at "my_rd"
      exact ⟨rfl, sm16⟩
    rintro σ H16 ⟨rfl, sm16⟩
    refine q_cut (Mid := fun σ' H' => σ' = [some (.ref a0), some (.ref p), some (.ref d), some (.ref cf), some (.ref tl), v5, v6, some (.ref x), some (.ref mr), some (.ref br), some (.int (n : Int)), v11] ∧ Same H13 H') ?_ ?_
    · walk_at "my_rd"
      -- the balance
      refine q_dGetS (sm16 _ _ hd13) (by (repeat first | rfl | rw [valV_cons, if_pos rfl] | rw [valV_cons, if_neg (by decide +kernel)])) ?_
      walk_at "my_rd"
      refine q_lstK (Nat.le_of_ble_eq_true rfl) fun s7 ns7 => ?_
      walk_at "my_rd"
      refine ⟨bl, s7, _, _, rfl, rfl, upd_new ns7 (sm16 _ _ hp13.bl), upd_same, Nat.le_of_lt (small1000 (by show bv.length + 1 ≤ 1000; have := hc.bl; omega)), fun s8 ns8 => ?_⟩
      walk_at "my_rd"
      have sm17 : Same H13 (upd (upd H16 s7 (.lst [.ref br])) s8 (.lst (bv ++ [.ref br]))) := Same.up (Same.up sm16 ns7) ns8
      have hp17 := hp13.same sm17
      refine q_dGetS hp17.dict (by (repeat first | rfl | rw [valV_cons, if_pos rfl] | rw [valV_cons, if_neg (by decide +kernel)])) ?_
      walk_at "my_rd"
      unfold callK
      refine ⟨tl, s8, g, tv, bv ++ [.ref br], .tuple (gs.map prd), ⟨c.toks, c.bals ++ [b], 1, 1, 0, 4⟩, rfl, hp17.tl, upd_same, hp17.tr, hp17.br.snoc (sm17 _ _ hbr13), .tup hp17.gt hp17.gp.tall, fineS_pairs hc.gd, hct, ?_, hnl, ?_, ?_, fun H18 sm18 => ?_⟩
      · show (c.bals ++ [b]).length ≤ 1000
        rw [List.length_append]
        show c.bals.length + 1 ≤ 1000
        have := hc.bl
        omega
      · intro b' hb'
        rcases List.mem_append.mp hb' with h | h
        · exact hbl2 b' h
        · rw [List.mem_singleton.mp h]; exact ⟨hb1, hb2⟩
      · rintro ⟨q, _⟩
        have := Ra.bal_b (q.b b (List.mem_append.mpr (.inr (List.mem_singleton.mpr rfl))))
        rw [hbb] at this
        cases this
      have sm18 := Same.trans sm17 sm18
      clear hp17 sm17 sm16
      walk_at "my_rd"
      exact ⟨rfl, sm18⟩
    rintro σ H18 ⟨rfl, sm18⟩
    refine q_cut (Mid := fun σ' H' => σ' = [some (.ref a0), some (.ref p), some (.ref d), some (.ref cf), some (.ref tl), v5, v6, some (.ref x), some (.ref mr), some (.ref br), some (.int (n : Int)), v11] ∧ Same H13 H') ?_ ?_
    · walk_at "my_rd"
      refine q_lstK (Nat.le_of_ble_eq_true rfl) fun s9 ns9 => ?_
      have sm19 : Same H13 (upd H18 s9 (.lst [])) := Same.up sm18 ns9
      have hs9 : upd H18 s9 (.lst []) s9 = some (.lst []) := upd_same
      generalize upd H18 s9 (.lst []) = H19 at sm19 hs9
      walk_at "my_rd"
      refine q_dGetS (sm19 _ _ hd13) (by (repeat first | rfl | rw [valV_cons, if_pos rfl] | rw [valV_cons, if_neg (by decide +kernel)])) ?_
      walk_at "my_rd"
      refine q_dGetS (sm19 _ _ hd13) (by (repeat first | rfl | rw [valV_cons, if_pos rfl] | rw [valV_cons, if_neg (by decide +kernel)])) ?_
      walk_at "my_rd"
      refine q_slA (sm19 _ _ hp13.gt) fun u1 H20 sm20 hu1 => ?_
      have sm20' := Same.trans sm19 sm20
      have hgl := hp13.gp.len
      have hg7 := hc.gd.few
      refine q_catA (sm20' _ _ hp13.gt) hu1 (Nat.le_of_lt (small1000 (by have := cutV_length gv none (some 1); omega))) fun u2 H21 sm21 hu2 => ?_
      have sm21' := Same.trans sm20' sm21
      have hp21 := hp13.same sm21'
      walk_at "my_rd"
      unfold callK
      obtain ⟨ds2, hds, hfd, hsd⟩ : ∃ ds2, TupAll K H21 (gv ++ cutV gv none (some 1)) ds2 ∧ FineS (.tuple ds2) ∧ setD (.tuple ds2) = false := by
        have ec : cutV gv none (some 1) = gv.take 1 := cut_take (n := 1) (by
          rw [hgl]
          cases q : gs with
          | nil => exact absurd q hc.gd.ne
          | cons a r => exact Nat.succ_le_succ (Nat.zero_le _))
        rw [ec]
        have ta : TupAll K H21 gv (gs.map prd) := hp21.gp.tall
        have fs := fineS_pairs hc.gd
        cases q : gs with
        | nil => exact absurd q hc.gd.ne
        | cons g0 gr =>
          rw [q] at ta fs
          cases ta with
          | cons a1 a2 =>
            refine ⟨(g0 :: gr).map prd ++ [prd g0], (TupAll.cons a1 a2).app (.cons a1 .nil), fun ds e => ?_, ?_⟩
            · injection e with e
              subst e
              obtain ⟨f1, f2⟩ := fs _ rfl
              refine ⟨?_, fun x hx => ?_⟩
              · rw [List.length_append, List.length_map]
                rw [q] at hg7
                show (g0 :: gr).length + 1 ≤ 1000
                omega
              · rcases List.mem_append.mp hx with h | h
                · exact f2 x h
                · rw [List.mem_singleton.mp h]; exact f2 _ List.mem_cons_self
            · have ed : ∀ l : List PyData, setD (.tuple l) = (!l.isEmpty && (l.all pairD && decide ((l.map nameS).Nodup))) := fun _ => rfl
              rw [ed, decide_eq_false, Bool.and_false, Bool.and_false]
              intro hn
              rw [List.map_append] at hn
              exact (List.nodup_append.mp hn).2.2 (nameS (prd g0)) (by simp) (nameS (prd g0)) (by simp) rfl
      refine ref_set hp21 hc (sm21 _ _ (sm20 _ _ hs9)) hu2 hds hfd hsd fun H22 sm22 => ?_
      have sm22 := Same.trans sm21' sm22
      clear hp21 hds hfd hsd hu2 hu1 sm21' sm21 sm20 sm20' sm19 hs9 sm18
      walk_at "my_rd"
      refine q_lstK (Nat.le_of_ble_eq_true rfl) fun s10 ns10 => ?_
      walk_at "my_rd"
      refine q_tupK (Nat.le_of_ble_eq_true rfl) fun s11 ns11 => ?_
      walk_at "my_rd"
      unfold callK
      refine ref_set (hp13.same (Same.up (Same.up sm22 ns10) ns11)) hc (upd_new ns11 upd_same) upd_same (ds := []) .nil (fun ds e => by injection e with e; subst e; exact ⟨Nat.zero_le _, fun x hx => (by cases hx)⟩) rfl fun H23 sm23 => ?_
      have sm23 := Same.trans (Same.up (Same.up sm22 ns10) ns11) sm23
      clear sm22
      walk_at "my_rd"
      exact ⟨rfl, sm23⟩
    rintro σ H23 ⟨rfl, sm23⟩
    refine q_cut (Mid := fun σ' H' => σ' = [some (.ref a0), some (.ref p), some (.ref d), some (.ref cf), some (.ref tl), v5, v6, some (.ref x), some (.ref mr), some (.ref br), some (.int (n : Int)), v11] ∧ Same H13 H') ?_ ?_
    · walk_at "my_rd"
      refine q_lstK (Nat.le_of_ble_eq_true rfl) fun s12 ns12 => ?_
      walk_at "my_rd"
      refine q_dGetS (upd_new ns12 (sm23 _ _ hd13)) (by (repeat first | rfl | rw [valV_cons, if_pos rfl] | rw [valV_cons, if_neg (by decide +kernel)])) ?_
      walk_at "my_rd"
      unfold callK
      refine ref_nums (hp13.same (Same.up sm23 ns12)) hc upd_same (by omega) fun H24 sm24 => ?_
      have sm24 := Same.trans (Same.up sm23 ns12) sm24
      clear sm23
      walk_at "my_rd"
      exact ⟨rfl, sm24⟩
    rintro σ H24 ⟨rfl, sm24⟩
    obtain ⟨dx, fs, td, bl2, kvs, bv2, h1, h2, h3, h4, h5, h6, h7, h8, h9, _⟩ := hC13.ex
    obtain ⟨xd2, xfs, xtd, xbl, xkvs, xbv, g1, g2, g3, g4, g5, g6, g7, g8, g9, _⟩ := hCx13.ex
    refine q_cut (Mid := fun σ' H' => σ' = [some (.ref a0), some (.ref p), some (.ref d), some (.ref cf), some (.ref tl), v5, v6, some (.ref x), some (.ref mr), some (.ref br), some (.int (n : Int)), v11] ∧ Same H13 H') ?_ ?_
    · walk_at "my_rd"
      refine q_methK (sm24 _ _ h1) (h9 _ no_m.2.2.2.2.2.2.2) fun R hR => ?_
      walk_at "my_rd"
      refine hR _ _ ⟨cf, g, c, rfl, hC13.same sm24, ?_⟩
      walk_at "my_rd"
      refine q_dGetS (sm24 _ _ hd13) (by (repeat first | rfl | rw [valV_cons, if_pos rfl] | rw [valV_cons, if_neg (by decide +kernel)])) ?_
      walk_at "my_rd"
      rw [decide_eq_true rfl]
      walk_at "my_rd"
      refine q_methK (sm24 _ _ g1) (g9 _ no_m.2.2.2.2.2.2.2) fun R hR => ?_
      walk_at "my_rd"
      refine hR _ _ ⟨x, g, c', rfl, hCx13.same sm24, ?_⟩
      rw [e4]
      walk_at "my_rd"
      rw [decide_eq_true rfl]
      walk_at "my_rd"
      exact ⟨rfl, sm24⟩
    rintro σ H24 ⟨rfl, sm24⟩
    refine q_cut (Mid := fun σ' H' => σ' = [some (.ref a0), some (.ref p), some (.ref d), some (.ref cf), some (.ref tl), v5, v6, some (.ref x), some (.ref mr), some (.ref br), some (.int (n : Int)), v11] ∧ Same H13 H') ?_ ?_
    · walk_at "my_rd"
      refine q_lstK (Nat.le_of_ble_eq_true rfl) fun s13 ns13 => ?_
      walk_at "my_rd"
      refine q_dGetS (upd_new ns13 (sm24 _ _ hd13)) (by (repeat first | rfl | rw [valV_cons, if_pos rfl] | rw [valV_cons, if_neg (by decide +kernel)])) ?_
      walk_at "my_rd"
      refine ref_nums (hp13.same (Same.up sm24 ns13)) hc upd_same (by omega) fun H25 sm25 => ?_
      have sm25 := Same.trans (Same.up sm24 ns13) sm25
      clear sm24
      walk_at "my_rd"
      refine q_lstK (Nat.le_of_ble_eq_true rfl) fun s14 ns14 => ?_
      walk_at "my_rd"
      refine q_dGetS (upd_new ns14 (sm25 _ _ hd13)) (by (repeat first | rfl | rw [valV_cons, if_pos rfl] | rw [valV_cons, if_neg (by decide +kernel)])) ?_
      walk_at "my_rd"
      refine ref_nums (hp13.same (Same.up sm25 ns14)) hc upd_same (by omega) fun H26 sm26 => ?_
      have sm26 := Same.trans (Same.up sm25 ns14) sm26
      clear sm25
      walk_at "my_rd"
      exact ⟨rfl, sm26⟩
    rintro σ H26 ⟨rfl, sm26⟩
    walk_at "my_rd"
    refine q_lstK (Nat.le_of_ble_eq_true rfl) fun s15 ns15 => ?_
    walk_at "my_rd"
    refine q_dGetS (upd_new ns15 (sm26 _ _ hd13)) (by (repeat first | rfl | rw [valV_cons, if_pos rfl] | rw [valV_cons, if_neg (by decide +kernel)])) ?_
    walk_at "my_rd"
    unfold callK
    refine ref_nums (hp13.same (Same.up sm26 ns15)) hc upd_same (by omega) fun H27 sm27 => ?_
    have sm27 := Same.trans (Same.up sm26 ns15) sm27
    clear sm26
    walk_at "my_rd"
    refine q_lstK (Nat.le_of_ble_eq_true rfl) fun s16 ns16 => ?_
    walk_at "my_rd"
    refine q_dGetS (upd_new ns16 (sm27 _ _ hd13)) (by (repeat first | rfl | rw [valV_cons, if_pos rfl] | rw [valV_cons, if_neg (by decide +kernel)])) ?_
    walk_at "my_rd"
    unfold callK
    refine ref_nums (hp13.same (Same.up sm27 ns16)) hc upd_same (by omega) fun H28 sm28 => ?_
    have sm28 := Same.trans (Same.up sm27 ns16) sm28
    clear sm27
    walk_at "my_rd"
    refine ⟨cf, g, c, rfl, hC13.same sm28, fun q => (tokS _ (htkn _ q)).2.1 rfl, ?_⟩
    walk_at "my_rd"
    exact k _
end

def txt_mk {K : PySem.W.Frag} {h : Heap} {mg : Str → Option Value} (X : K.In h) (G : h.Ns mainGlobals mg)
    {f0 f1 f2 f3 f4 f5 f6 f7 f8 f9 f10 D10 f11 f12 f13 f14 f15 f16 f17 f18 f19 f20 f21 f22 f23 f24 f25 f26 f27 f28 f29 f30 f31 f32 f33 f34 T34 f35 f36 C0 C1 C2 C3 g5 : Addr} {od0 an0 od1 an1 od2 an2 od3 an3 od4 an4 od5 an5 od6 an6 od7 an7 od8 an8 od9 an9 od10 an10 od11 an11 od12 an12 od13 an13 od14 an14 od15 an15 od16 an16 od17 an17 od18 an18 od19 an19 od20 an20 od21 an21 od22 an22 od23 an23 od24 an24 od25 an25 od26 an26 od27 an27 od28 an28 od29 an29 od30 an30 od31 an31 od32 an32 od33 an33 od34 an34 od35 an35 od36 an36 : Option Addr} {sl0 sl1 sl2 sl3 sl4 sl5 sl6 sl7 sl8 sl9 sl10 sl11 sl12 sl13 sl14 sl15 sl16 sl17 sl18 sl19 sl20 sl21 sl22 sl23 sl24 sl25 sl26 sl27 sl28 sl29 sl30 sl31 sl32 sl33 sl34 sl35 sl36 : Array (Option Value)} {oc0 kV0 dc0 pm0 cd0 ct0 oc1 kV1 dc1 pm1 cd1 ct1 oc2 kV2 dc2 pm2 cd2 ct2 oc3 kV3 dc3 pm3 cd3 ct3 oc4 kV4 dc4 pm4 cd4 ct4 oc5 kV5 dc5 pm5 cd5 ct5 oc6 kV6 dc6 pm6 cd6 ct6 oc7 kV7 dc7 pm7 cd7 ct7 oc8 kV8 dc8 pm8 cd8 ct8 oc9 kV9 dc9 pm9 cd9 ct9 oc10 dc10 pm10 cd10 ct10 oc11 kV11 dc11 pm11 cd11 ct11 oc12 kV12 dc12 pm12 cd12 ct12 oc13 kV13 dc13 pm13 cd13 ct13 oc14 kV14 dc14 pm14 cd14 ct14 oc15 kV15 dc15 pm15 cd15 ct15 oc16 kV16 dc16 pm16 cd16 ct16 oc17 kV17 dc17 pm17 cd17 ct17 oc18 kV18 dc18 pm18 cd18 ct18 oc19 kV19 dc19 pm19 cd19 ct19 oc20 kV20 dc20 pm20 cd20 ct20 oc21 kV21 dc21 pm21 cd21 ct21 oc22 kV22 dc22 pm22 cd22 ct22 oc23 kV23 dc23 pm23 cd23 ct23 oc24 kV24 dc24 pm24 cd24 ct24 oc25 kV25 dc25 pm25 cd25 ct25 oc26 kV26 dc26 pm26 cd26 ct26 oc27 kV27 dc27 pm27 cd27 ct27 oc28 kV28 dc28 pm28 cd28 ct28 oc29 kV29 dc29 pm29 cd29 ct29 oc30 kV30 dc30 pm30 cd30 ct30 oc31 kV31 dc31 pm31 cd31 ct31 oc32 kV32 dc32 pm32 cd32 ct32 oc33 kV33 dc33 pm33 cd33 ct33 oc34 kV34 dc34 pm34 cd34 ct34 oc35 kV35 dc35 pm35 cd35 ct35 oc36 kV36 dc36 pm36 cd36 ct36 : Value} {tk0 tk1 tk2 tk3 tk4 tk6 tkd10_0 tkd10_1 tkd10_2 tkd10_3 : Tok} {odt34 : Option Addr} {itt34 : Array Value} {ntt34 : Nat} {slt34 : Array (Option Value)} {odg5 : Option Addr} {itg5 : Array Value} {ng5 : Nat} {slg5 : Array (Option Value)}
    (a0 : PySem.W.nsIn K mainGlobals "_wall" = some (some (.ref f0)))
    (a1 : PySem.W.nsIn K mainGlobals "is_integer" = some (some (.ref f1)))
    (a2 : PySem.W.nsIn K mainGlobals "is_at_least" = some (some (.ref f2)))
    (a3 : PySem.W.nsIn K mainGlobals "is_text" = some (some (.ref f3)))
    (a4 : PySem.W.nsIn K mainGlobals "is_short_text" = some (some (.ref f4)))
    (a5 : PySem.W.nsIn K mainGlobals "is_account" = some (some (.ref f5)))
    (a6 : PySem.W.nsIn K mainGlobals "is_side" = some (some (.ref f6)))
    (a7 : PySem.W.nsIn K mainGlobals "is_set" = some (some (.ref f7)))
    (a8 : PySem.W.nsIn K mainGlobals "is_pair" = some (some (.ref f8)))
    (a9 : PySem.W.nsIn K mainGlobals "other_side" = some (some (.ref f9)))
    (a23 : PySem.W.nsIn K mainGlobals "check_list" = some (some (.ref f23)))
    (a24 : PySem.W.nsIn K mainGlobals "check_least" = some (some (.ref f24)))
    (a25 : PySem.W.nsIn K mainGlobals "check_token_row" = some (some (.ref f25)))
    (a26 : PySem.W.nsIn K mainGlobals "check_balance_row" = some (some (.ref f26)))
    (a27 : PySem.W.nsIn K mainGlobals "_law_pot" = some (some (.ref f27)))
    (a28 : PySem.W.nsIn K mainGlobals "_law_next" = some (some (.ref f28)))
    (a29 : PySem.W.nsIn K mainGlobals "_law_is_int" = some (some (.ref f29)))
    (a30 : PySem.W.nsIn K mainGlobals "_law_same" = some (some (.ref f30)))
    (a31 : PySem.W.nsIn K mainGlobals "_law_set" = some (some (.ref f31)))
    (a32 : PySem.W.nsIn K mainGlobals "_law_config" = some (some (.ref f32)))
    (a33 : PySem.W.nsIn K mainGlobals "_law_made" = some (some (.ref f33)))
    (a34 : PySem.W.nsIn K mainGlobals "_law_refused" = some (some (.ref f34)))
    (a35 : PySem.W.nsIn K mainGlobals "_law_unknown" = some (some (.ref f35)))
    (a36 : PySem.W.nsIn K mainGlobals "law" = some (some (.ref f36)))
    (aC0 : PySem.W.nsIn K mainGlobals "BridgeError" = some (some (.ref C0)))
    (aC1 : PySem.W.nsIn K mainGlobals "InvalidArgument" = some (some (.ref C1)))
    (aC2 : PySem.W.nsIn K mainGlobals "UnknownToken" = some (some (.ref C2)))
    (aC3 : PySem.W.nsIn K mainGlobals "Config" = some (some (.ref C3)))
    (m10 : PySem.W.findIn K (.ref C3) "__init__" = some (some (.ref f10)))
    (m11 : PySem.W.findIn K (.ref C3) "token_names" = some (some (.ref f11)))
    (m12 : PySem.W.findIn K (.ref C3) "check_token" = some (some (.ref f12)))
    (m13 : PySem.W.findIn K (.ref C3) "home" = some (some (.ref f13)))
    (m14 : PySem.W.findIn K (.ref C3) "scale" = some (some (.ref f14)))
    (m15 : PySem.W.findIn K (.ref C3) "limit" = some (some (.ref f15)))
    (m16 : PySem.W.findIn K (.ref C3) "large" = some (some (.ref f16)))
    (m17 : PySem.W.findIn K (.ref C3) "opening" = some (some (.ref f17)))
    (m18 : PySem.W.findIn K (.ref C3) "guards" = some (some (.ref f18)))
    (m19 : PySem.W.findIn K (.ref C3) "depth" = some (some (.ref f19)))
    (m20 : PySem.W.findIn K (.ref C3) "window" = some (some (.ref f20)))
    (m21 : PySem.W.findIn K (.ref C3) "delay" = some (some (.ref f21)))
    (m22 : PySem.W.findIn K (.ref C3) "bundle" = some (some (.ref f22)))
    (l0 : K.lookup f0 = some ⟨oc0, od0, .func (PySem.W.fnOf "_wall" "_wall" (defArgs s__wall) (defBody s__wall) (defScope s__wall) .none kV0 dc0 pm0 an0 cd0 ct0), sl0⟩)
    (c0 : PySem.W.codeIn K cd0 "_wall" = true)
    (k0 : PySem.W.keepIn K (.ref f0) = true)
    (l1 : K.lookup f1 = some ⟨oc1, od1, .func (PySem.W.fnOf "is_integer" "is_integer" (defArgs s_is_integer) (defBody s_is_integer) (defScope s_is_integer) .none kV1 dc1 pm1 an1 cd1 ct1), sl1⟩)
    (c1 : PySem.W.codeIn K cd1 "is_integer" = true)
    (k1 : PySem.W.keepIn K (.ref f1) = true)
    (l2 : K.lookup f2 = some ⟨oc2, od2, .func (PySem.W.fnOf "is_at_least" "is_at_least" (defArgs s_is_at_least) (defBody s_is_at_least) (defScope s_is_at_least) .none kV2 dc2 pm2 an2 cd2 ct2), sl2⟩)
    (c2 : PySem.W.codeIn K cd2 "is_at_least" = true)
    (k2 : PySem.W.keepIn K (.ref f2) = true)
    (l3 : K.lookup f3 = some ⟨oc3, od3, .func (PySem.W.fnOf "is_text" "is_text" (defArgs s_is_text) (defBody s_is_text) (defScope s_is_text) .none kV3 dc3 pm3 an3 cd3 ct3), sl3⟩)
    (c3 : PySem.W.codeIn K cd3 "is_text" = true)
    (k3 : PySem.W.keepIn K (.ref f3) = true)
    (l4 : K.lookup f4 = some ⟨oc4, od4, .func (PySem.W.fnOf "is_short_text" "is_short_text" (defArgs s_is_short_text) (defBody s_is_short_text) (defScope s_is_short_text) .none kV4 dc4 pm4 an4 cd4 ct4), sl4⟩)
    (c4 : PySem.W.codeIn K cd4 "is_short_text" = true)
    (k4 : PySem.W.keepIn K (.ref f4) = true)
    (l5 : K.lookup f5 = some ⟨oc5, od5, .func (PySem.W.fnOf "is_account" "is_account" (defArgs s_is_account) (defBody s_is_account) (defScope s_is_account) .none kV5 dc5 pm5 an5 cd5 ct5), sl5⟩)
    (c5 : PySem.W.codeIn K cd5 "is_account" = true)
    (k5 : PySem.W.keepIn K (.ref f5) = true)
    (l6 : K.lookup f6 = some ⟨oc6, od6, .func (PySem.W.fnOf "is_side" "is_side" (defArgs s_is_side) (defBody s_is_side) (defScope s_is_side) .none kV6 dc6 pm6 an6 cd6 ct6), sl6⟩)
    (c6 : PySem.W.codeIn K cd6 "is_side" = true)
    (k6 : PySem.W.keepIn K (.ref f6) = true)
    (l7 : K.lookup f7 = some ⟨oc7, od7, .func (PySem.W.fnOf "is_set" "is_set" (defArgs s_is_set) (defBody s_is_set) (defScope s_is_set) .none kV7 dc7 pm7 an7 cd7 ct7), sl7⟩)
    (c7 : PySem.W.codeIn K cd7 "is_set" = true)
    (k7 : PySem.W.keepIn K (.ref f7) = true)
    (l8 : K.lookup f8 = some ⟨oc8, od8, .func (PySem.W.fnOf "is_pair" "is_pair" (defArgs s_is_pair) (defBody s_is_pair) (defScope s_is_pair) .none kV8 dc8 pm8 an8 cd8 ct8), sl8⟩)
    (c8 : PySem.W.codeIn K cd8 "is_pair" = true)
    (k8 : PySem.W.keepIn K (.ref f8) = true)
    (l9 : K.lookup f9 = some ⟨oc9, od9, .func (PySem.W.fnOf "other_side" "other_side" (defArgs s_other_side) (defBody s_other_side) (defScope s_other_side) .none kV9 dc9 pm9 an9 cd9 ct9), sl9⟩)
    (c9 : PySem.W.codeIn K cd9 "other_side" = true)
    (k9 : PySem.W.keepIn K (.ref f9) = true)
    (l10 : K.lookup f10 = some ⟨oc10, od10, .func (PySem.W.fnOf "__init__" "Config.__init__" (defArgs s_Config_init) (defBody s_Config_init) (defScope s_Config_init) .none (.ref D10) dc10 pm10 an10 cd10 ct10), sl10⟩)
    (c10 : PySem.W.codeIn K cd10 "Config.__init__" = true)
    (k10 : PySem.W.keepIn K (.ref f10) = true)
    (kd10_0 : PySem.W.nsIn K D10 "depth" = some (some (.int 2 tkd10_0)))
    (kd10_1 : PySem.W.nsIn K D10 "window" = some (some (.int 4 tkd10_1)))
    (kd10_2 : PySem.W.nsIn K D10 "delay" = some (some (.int 2 tkd10_2)))
    (kd10_3 : PySem.W.nsIn K D10 "bundle" = some (some (.int 4 tkd10_3)))
    (l11 : K.lookup f11 = some ⟨oc11, od11, .func (PySem.W.fnOf "token_names" "Config.token_names" (defArgs s_Config_token_names) (defBody s_Config_token_names) (defScope s_Config_token_names) .none kV11 dc11 pm11 an11 cd11 ct11), sl11⟩)
    (c11 : PySem.W.codeIn K cd11 "Config.token_names" = true)
    (k11 : PySem.W.keepIn K (.ref f11) = true)
    (l12 : K.lookup f12 = some ⟨oc12, od12, .func (PySem.W.fnOf "check_token" "Config.check_token" (defArgs s_Config_check_token) (defBody s_Config_check_token) (defScope s_Config_check_token) .none kV12 dc12 pm12 an12 cd12 ct12), sl12⟩)
    (c12 : PySem.W.codeIn K cd12 "Config.check_token" = true)
    (k12 : PySem.W.keepIn K (.ref f12) = true)
    (l13 : K.lookup f13 = some ⟨oc13, od13, .func (PySem.W.fnOf "home" "Config.home" (defArgs s_Config_home) (defBody s_Config_home) (defScope s_Config_home) .none kV13 dc13 pm13 an13 cd13 ct13), sl13⟩)
    (c13 : PySem.W.codeIn K cd13 "Config.home" = true)
    (k13 : PySem.W.keepIn K (.ref f13) = true)
    (l14 : K.lookup f14 = some ⟨oc14, od14, .func (PySem.W.fnOf "scale" "Config.scale" (defArgs s_Config_scale) (defBody s_Config_scale) (defScope s_Config_scale) .none kV14 dc14 pm14 an14 cd14 ct14), sl14⟩)
    (c14 : PySem.W.codeIn K cd14 "Config.scale" = true)
    (k14 : PySem.W.keepIn K (.ref f14) = true)
    (l15 : K.lookup f15 = some ⟨oc15, od15, .func (PySem.W.fnOf "limit" "Config.limit" (defArgs s_Config_limit) (defBody s_Config_limit) (defScope s_Config_limit) .none kV15 dc15 pm15 an15 cd15 ct15), sl15⟩)
    (c15 : PySem.W.codeIn K cd15 "Config.limit" = true)
    (k15 : PySem.W.keepIn K (.ref f15) = true)
    (l16 : K.lookup f16 = some ⟨oc16, od16, .func (PySem.W.fnOf "large" "Config.large" (defArgs s_Config_large) (defBody s_Config_large) (defScope s_Config_large) .none kV16 dc16 pm16 an16 cd16 ct16), sl16⟩)
    (c16 : PySem.W.codeIn K cd16 "Config.large" = true)
    (k16 : PySem.W.keepIn K (.ref f16) = true)
    (l17 : K.lookup f17 = some ⟨oc17, od17, .func (PySem.W.fnOf "opening" "Config.opening" (defArgs s_Config_opening) (defBody s_Config_opening) (defScope s_Config_opening) .none kV17 dc17 pm17 an17 cd17 ct17), sl17⟩)
    (c17 : PySem.W.codeIn K cd17 "Config.opening" = true)
    (k17 : PySem.W.keepIn K (.ref f17) = true)
    (l18 : K.lookup f18 = some ⟨oc18, od18, .func (PySem.W.fnOf "guards" "Config.guards" (defArgs s_Config_guards) (defBody s_Config_guards) (defScope s_Config_guards) .none kV18 dc18 pm18 an18 cd18 ct18), sl18⟩)
    (c18 : PySem.W.codeIn K cd18 "Config.guards" = true)
    (k18 : PySem.W.keepIn K (.ref f18) = true)
    (l19 : K.lookup f19 = some ⟨oc19, od19, .func (PySem.W.fnOf "depth" "Config.depth" (defArgs s_Config_depth) (defBody s_Config_depth) (defScope s_Config_depth) .none kV19 dc19 pm19 an19 cd19 ct19), sl19⟩)
    (c19 : PySem.W.codeIn K cd19 "Config.depth" = true)
    (k19 : PySem.W.keepIn K (.ref f19) = true)
    (l20 : K.lookup f20 = some ⟨oc20, od20, .func (PySem.W.fnOf "window" "Config.window" (defArgs s_Config_window) (defBody s_Config_window) (defScope s_Config_window) .none kV20 dc20 pm20 an20 cd20 ct20), sl20⟩)
    (c20 : PySem.W.codeIn K cd20 "Config.window" = true)
    (k20 : PySem.W.keepIn K (.ref f20) = true)
    (l21 : K.lookup f21 = some ⟨oc21, od21, .func (PySem.W.fnOf "delay" "Config.delay" (defArgs s_Config_delay) (defBody s_Config_delay) (defScope s_Config_delay) .none kV21 dc21 pm21 an21 cd21 ct21), sl21⟩)
    (c21 : PySem.W.codeIn K cd21 "Config.delay" = true)
    (k21 : PySem.W.keepIn K (.ref f21) = true)
    (l22 : K.lookup f22 = some ⟨oc22, od22, .func (PySem.W.fnOf "bundle" "Config.bundle" (defArgs s_Config_bundle) (defBody s_Config_bundle) (defScope s_Config_bundle) .none kV22 dc22 pm22 an22 cd22 ct22), sl22⟩)
    (c22 : PySem.W.codeIn K cd22 "Config.bundle" = true)
    (k22 : PySem.W.keepIn K (.ref f22) = true)
    (l23 : K.lookup f23 = some ⟨oc23, od23, .func (PySem.W.fnOf "check_list" "check_list" (defArgs s_check_list) (defBody s_check_list) (defScope s_check_list) .none kV23 dc23 pm23 an23 cd23 ct23), sl23⟩)
    (c23 : PySem.W.codeIn K cd23 "check_list" = true)
    (k23 : PySem.W.keepIn K (.ref f23) = true)
    (l24 : K.lookup f24 = some ⟨oc24, od24, .func (PySem.W.fnOf "check_least" "check_least" (defArgs s_check_least) (defBody s_check_least) (defScope s_check_least) .none kV24 dc24 pm24 an24 cd24 ct24), sl24⟩)
    (c24 : PySem.W.codeIn K cd24 "check_least" = true)
    (k24 : PySem.W.keepIn K (.ref f24) = true)
    (l25 : K.lookup f25 = some ⟨oc25, od25, .func (PySem.W.fnOf "check_token_row" "check_token_row" (defArgs s_check_token_row) (defBody s_check_token_row) (defScope s_check_token_row) .none kV25 dc25 pm25 an25 cd25 ct25), sl25⟩)
    (c25 : PySem.W.codeIn K cd25 "check_token_row" = true)
    (k25 : PySem.W.keepIn K (.ref f25) = true)
    (l26 : K.lookup f26 = some ⟨oc26, od26, .func (PySem.W.fnOf "check_balance_row" "check_balance_row" (defArgs s_check_balance_row) (defBody s_check_balance_row) (defScope s_check_balance_row) .none kV26 dc26 pm26 an26 cd26 ct26), sl26⟩)
    (c26 : PySem.W.codeIn K cd26 "check_balance_row" = true)
    (k26 : PySem.W.keepIn K (.ref f26) = true)
    (l27 : K.lookup f27 = some ⟨oc27, od27, .func (PySem.W.fnOf "_law_pot" "_law_pot" (defArgs s_L_pot) (defBody s_L_pot) (defScope s_L_pot) .none kV27 dc27 pm27 an27 cd27 ct27), sl27⟩)
    (c27 : PySem.W.codeIn K cd27 "_law_pot" = true)
    (k27 : PySem.W.keepIn K (.ref f27) = true)
    (l28 : K.lookup f28 = some ⟨oc28, od28, .func (PySem.W.fnOf "_law_next" "_law_next" (defArgs s_L_next) (defBody s_L_next) (defScope s_L_next) .none kV28 dc28 pm28 an28 cd28 ct28), sl28⟩)
    (c28 : PySem.W.codeIn K cd28 "_law_next" = true)
    (k28 : PySem.W.keepIn K (.ref f28) = true)
    (l29 : K.lookup f29 = some ⟨oc29, od29, .func (PySem.W.fnOf "_law_is_int" "_law_is_int" (defArgs s_L_is_int) (defBody s_L_is_int) (defScope s_L_is_int) .none kV29 dc29 pm29 an29 cd29 ct29), sl29⟩)
    (c29 : PySem.W.codeIn K cd29 "_law_is_int" = true)
    (k29 : PySem.W.keepIn K (.ref f29) = true)
    (l30 : K.lookup f30 = some ⟨oc30, od30, .func (PySem.W.fnOf "_law_same" "_law_same" (defArgs s_L_same) (defBody s_L_same) (defScope s_L_same) .none kV30 dc30 pm30 an30 cd30 ct30), sl30⟩)
    (c30 : PySem.W.codeIn K cd30 "_law_same" = true)
    (k30 : PySem.W.keepIn K (.ref f30) = true)
    (l31 : K.lookup f31 = some ⟨oc31, od31, .func (PySem.W.fnOf "_law_set" "_law_set" (defArgs s_L_set) (defBody s_L_set) (defScope s_L_set) .none kV31 dc31 pm31 an31 cd31 ct31), sl31⟩)
    (c31 : PySem.W.codeIn K cd31 "_law_set" = true)
    (k31 : PySem.W.keepIn K (.ref f31) = true)
    (l32 : K.lookup f32 = some ⟨oc32, od32, .func (PySem.W.fnOf "_law_config" "_law_config" (defArgs s_L_config) (defBody s_L_config) (defScope s_L_config) .none kV32 dc32 pm32 an32 cd32 ct32), sl32⟩)
    (c32 : PySem.W.codeIn K cd32 "_law_config" = true)
    (k32 : PySem.W.keepIn K (.ref f32) = true)
    (l33 : K.lookup f33 = some ⟨oc33, od33, .func (PySem.W.fnOf "_law_made" "_law_made" (defArgs s_L_made) (defBody s_L_made) (defScope s_L_made) .none kV33 dc33 pm33 an33 cd33 ct33), sl33⟩)
    (c33 : PySem.W.codeIn K cd33 "_law_made" = true)
    (k33 : PySem.W.keepIn K (.ref f33) = true)
    (l34 : K.lookup f34 = some ⟨oc34, od34, .func (PySem.W.fnOf "_law_refused" "_law_refused" (defArgs s_L_refused) (defBody s_L_refused) (defScope s_L_refused) (.ref T34) kV34 dc34 pm34 an34 cd34 ct34), sl34⟩)
    (c34 : PySem.W.codeIn K cd34 "_law_refused" = true)
    (k34 : PySem.W.keepIn K (.ref f34) = true)
    (rd34 : K.lookup T34 = some ⟨.type "tuple", odt34, .seq itt34 ntt34, slt34⟩)
    (vd34 : ValsB [.int 0, .int 4] itt34.toList = true)
    (l35 : K.lookup f35 = some ⟨oc35, od35, .func (PySem.W.fnOf "_law_unknown" "_law_unknown" (defArgs s_L_unknown) (defBody s_L_unknown) (defScope s_L_unknown) .none kV35 dc35 pm35 an35 cd35 ct35), sl35⟩)
    (c35 : PySem.W.codeIn K cd35 "_law_unknown" = true)
    (k35 : PySem.W.keepIn K (.ref f35) = true)
    (l36 : K.lookup f36 = some ⟨oc36, od36, .func (PySem.W.fnOf "law" "law" (defArgs s_law) (defBody s_law) (defScope s_law) .none kV36 dc36 pm36 an36 cd36 ct36), sl36⟩)
    (c36 : PySem.W.codeIn K cd36 "law" = true)
    (k36 : PySem.W.keepIn K (.ref f36) = true)
    (xe0 : PySem.W.excIn K C0 [.type "ValueError", .type "Exception", .type "BaseException", .type "object"] "ValueError.__new__" = true)
    (ke0 : PySem.W.keepIn K (.ref C0) = true)
    (be0 : PySem.W.subIn K (.ref C0) (.type "BaseException") = some true)
    (te0 : PySem.W.typeIn K (.ref C0) = some (.type "type"))
    (ie0 : PySem.W.isClsIn K C0 = true)
    (se0 : PySem.W.subIn K (.ref C0) (.ref C0) = some true)
    (hd0 : PySem.W.hasDictIn K C0 = true)
    (xe1 : PySem.W.excIn K C1 [.type "ValueError", .type "Exception", .type "BaseException", .type "object"] "ValueError.__new__" = true)
    (ke1 : PySem.W.keepIn K (.ref C1) = true)
    (be1 : PySem.W.subIn K (.ref C1) (.type "BaseException") = some true)
    (te1 : PySem.W.typeIn K (.ref C1) = some (.type "type"))
    (ie1 : PySem.W.isClsIn K C1 = true)
    (se1 : PySem.W.subIn K (.ref C1) (.ref C1) = some true)
    (hg1 : PySem.W.findIn K (.ref C1) "__getattribute__" = some (some (.builtin "BaseException.__getattribute__")))
    (hk1 : PySem.W.findIn K (.ref C1) "__getattr__" = some none)
    (hd1 : PySem.W.hasDictIn K C1 = true)
    (ha1 : PySem.W.findIn K (.ref C1) "__class__" = some (some (.builtin "object.__class__")))
    (hm1 : PySem.W.mroIn K C1 (.type "object") = some true)
    (hn1 : PySem.W.specialIn K (.builtin "object.__class__") "__get__" = some (some (.builtin "getset_descriptor.__get__")))
    (ht1 : PySem.W.takesIn K (.builtin "object.__class__") = some true)
    (ue1 : PySem.W.subIn K (.ref C1) (.ref C0) = some true)
    (xe2 : PySem.W.excIn K C2 [.type "ValueError", .type "Exception", .type "BaseException", .type "object"] "ValueError.__new__" = true)
    (ke2 : PySem.W.keepIn K (.ref C2) = true)
    (be2 : PySem.W.subIn K (.ref C2) (.type "BaseException") = some true)
    (te2 : PySem.W.typeIn K (.ref C2) = some (.type "type"))
    (ie2 : PySem.W.isClsIn K C2 = true)
    (se2 : PySem.W.subIn K (.ref C2) (.ref C2) = some true)
    (hg2 : PySem.W.findIn K (.ref C2) "__getattribute__" = some (some (.builtin "BaseException.__getattribute__")))
    (hk2 : PySem.W.findIn K (.ref C2) "__getattr__" = some none)
    (hd2 : PySem.W.hasDictIn K C2 = true)
    (ha2 : PySem.W.findIn K (.ref C2) "__class__" = some (some (.builtin "object.__class__")))
    (hm2 : PySem.W.mroIn K C2 (.type "object") = some true)
    (hn2 : PySem.W.specialIn K (.builtin "object.__class__") "__get__" = some (some (.builtin "getset_descriptor.__get__")))
    (ht2 : PySem.W.takesIn K (.builtin "object.__class__") = some true)
    (ue2 : PySem.W.subIn K (.ref C2) (.ref C0) = some true)
    (pg3 : PySem.W.plainGet K C3 Str.empty = true)
    (hd3 : PySem.W.hasDictIn K C3 = true)
    (po3 : PySem.W.plainOver K C3 = true)
    (sa3 : PySem.W.findIn K (.ref C3) "__setattr__" = some (some (.builtin "object.__setattr__")))
    (mk3 : PySem.W.makesIn K C3 = true)
    (kc3 : PySem.W.keepIn K (.ref C3) = true)
    (i10 : PySem.W.isFn K (.ref f10) = true)
    (i11 : PySem.W.isFn K (.ref f11) = true)
    (i12 : PySem.W.isFn K (.ref f12) = true)
    (i13 : PySem.W.isFn K (.ref f13) = true)
    (i14 : PySem.W.isFn K (.ref f14) = true)
    (i15 : PySem.W.isFn K (.ref f15) = true)
    (i16 : PySem.W.isFn K (.ref f16) = true)
    (i17 : PySem.W.isFn K (.ref f17) = true)
    (i18 : PySem.W.isFn K (.ref f18) = true)
    (i19 : PySem.W.isFn K (.ref f19) = true)
    (i20 : PySem.W.isFn K (.ref f20) = true)
    (i21 : PySem.W.isFn K (.ref f21) = true)
    (i22 : PySem.W.isFn K (.ref f22) = true)
    (n3_0 : PySem.W.findIn K (.ref C3) "_tokens" = some none)
    (n3_1 : PySem.W.findIn K (.ref C3) "_balances" = some none)
    (n3_2 : PySem.W.findIn K (.ref C3) "_guards" = some none)
    (n3_3 : PySem.W.findIn K (.ref C3) "_depth" = some none)
    (n3_4 : PySem.W.findIn K (.ref C3) "_window" = some none)
    (n3_5 : PySem.W.findIn K (.ref C3) "_delay" = some none)
    (n3_6 : PySem.W.findIn K (.ref C3) "_bundle" = some none)
    (q0 : PySem.W.nsIn K mainGlobals "ACCOUNT_LENGTH" = some (some (.int 20 tk0)))
    (q1 : PySem.W.nsIn K mainGlobals "BARRED_CODE" = some (some (.int 37 tk1)))
    (q2 : PySem.W.nsIn K mainGlobals "FIRST_CODE" = some (some (.int 32 tk2)))
    (q3 : PySem.W.nsIn K mainGlobals "LAST_CODE" = some (some (.int 126 tk3)))
    (q4 : PySem.W.nsIn K mainGlobals "MOST_IN_BUNDLE" = some (some (.int 8 tk4)))
    (q5 : PySem.W.nsIn K mainGlobals "SIDES" = some (some (.ref g5)))
    (r5 : K.lookup g5 = some ⟨.type "tuple", odg5, .seq itg5 ng5, slg5⟩)
    (v5 : ValsB [.str "west", .str "east"] itg5.toList = true)
    (q6 : PySem.W.nsIn K mainGlobals "TOKEN_LENGTH" = some (some (.int 12 tk6)))
    (z0 : PySem.W.nsIn K mainGlobals "abs" = some none)
    (z1 : PySem.W.nsIn K mainGlobals "all" = some none)
    (z2 : PySem.W.nsIn K mainGlobals "bool" = some none)
    (z3 : PySem.W.nsIn K mainGlobals "int" = some none)
    (z4 : PySem.W.nsIn K mainGlobals "isinstance" = some none)
    (z5 : PySem.W.nsIn K mainGlobals "len" = some none)
    (z6 : PySem.W.nsIn K mainGlobals "list" = some none)
    (z7 : PySem.W.nsIn K mainGlobals "ord" = some none)
    (z8 : PySem.W.nsIn K mainGlobals "range" = some none)
    (z9 : PySem.W.nsIn K mainGlobals "sorted" = some none)
    (z10 : PySem.W.nsIn K mainGlobals "str" = some none)
    (z11 : PySem.W.nsIn K mainGlobals "tuple" = some none) : Txt K mg where
  f__wall := f0
  d__wall := PySem.W.fnOf "_wall" "_wall" (defArgs s__wall) (defBody s__wall) (defScope s__wall) .none kV0 dc0 pm0 an0 cd0 ct0
  F__wall := fun_mk (st := s__wall) l0 c0 k0
  b__wall := Fun.binds (fun_mk (st := s__wall) l0 c0 k0) (ps := ["k"]) fun _ _ _ _ _ _ us hl => match us, hl with | [_], _ => rfl
  g__wall := PySem.W.mg_of X G a0
  f_is_integer := f1
  d_is_integer := PySem.W.fnOf "is_integer" "is_integer" (defArgs s_is_integer) (defBody s_is_integer) (defScope s_is_integer) .none kV1 dc1 pm1 an1 cd1 ct1
  F_is_integer := fun_mk (st := s_is_integer) l1 c1 k1
  b_is_integer := Fun.binds (fun_mk (st := s_is_integer) l1 c1 k1) (ps := ["value"]) fun _ _ _ _ _ _ us hl => match us, hl with | [_], _ => rfl
  g_is_integer := PySem.W.mg_of X G a1
  f_is_at_least := f2
  d_is_at_least := PySem.W.fnOf "is_at_least" "is_at_least" (defArgs s_is_at_least) (defBody s_is_at_least) (defScope s_is_at_least) .none kV2 dc2 pm2 an2 cd2 ct2
  F_is_at_least := fun_mk (st := s_is_at_least) l2 c2 k2
  b_is_at_least := Fun.binds (fun_mk (st := s_is_at_least) l2 c2 k2) (ps := ["value", "least"]) fun _ _ _ _ _ _ us hl => match us, hl with | [_, _], _ => rfl
  g_is_at_least := PySem.W.mg_of X G a2
  f_is_text := f3
  d_is_text := PySem.W.fnOf "is_text" "is_text" (defArgs s_is_text) (defBody s_is_text) (defScope s_is_text) .none kV3 dc3 pm3 an3 cd3 ct3
  F_is_text := fun_mk (st := s_is_text) l3 c3 k3
  b_is_text := Fun.binds (fun_mk (st := s_is_text) l3 c3 k3) (ps := ["value"]) fun _ _ _ _ _ _ us hl => match us, hl with | [_], _ => rfl
  g_is_text := PySem.W.mg_of X G a3
  f_is_short_text := f4
  d_is_short_text := PySem.W.fnOf "is_short_text" "is_short_text" (defArgs s_is_short_text) (defBody s_is_short_text) (defScope s_is_short_text) .none kV4 dc4 pm4 an4 cd4 ct4
  F_is_short_text := fun_mk (st := s_is_short_text) l4 c4 k4
  b_is_short_text := Fun.binds (fun_mk (st := s_is_short_text) l4 c4 k4) (ps := ["value", "most"]) fun _ _ _ _ _ _ us hl => match us, hl with | [_, _], _ => rfl
  g_is_short_text := PySem.W.mg_of X G a4
  f_is_account := f5
  d_is_account := PySem.W.fnOf "is_account" "is_account" (defArgs s_is_account) (defBody s_is_account) (defScope s_is_account) .none kV5 dc5 pm5 an5 cd5 ct5
  F_is_account := fun_mk (st := s_is_account) l5 c5 k5
  b_is_account := Fun.binds (fun_mk (st := s_is_account) l5 c5 k5) (ps := ["value"]) fun _ _ _ _ _ _ us hl => match us, hl with | [_], _ => rfl
  g_is_account := PySem.W.mg_of X G a5
  f_is_side := f6
  d_is_side := PySem.W.fnOf "is_side" "is_side" (defArgs s_is_side) (defBody s_is_side) (defScope s_is_side) .none kV6 dc6 pm6 an6 cd6 ct6
  F_is_side := fun_mk (st := s_is_side) l6 c6 k6
  b_is_side := Fun.binds (fun_mk (st := s_is_side) l6 c6 k6) (ps := ["value"]) fun _ _ _ _ _ _ us hl => match us, hl with | [_], _ => rfl
  g_is_side := PySem.W.mg_of X G a6
  f_is_set := f7
  d_is_set := PySem.W.fnOf "is_set" "is_set" (defArgs s_is_set) (defBody s_is_set) (defScope s_is_set) .none kV7 dc7 pm7 an7 cd7 ct7
  F_is_set := fun_mk (st := s_is_set) l7 c7 k7
  b_is_set := Fun.binds (fun_mk (st := s_is_set) l7 c7 k7) (ps := ["value"]) fun _ _ _ _ _ _ us hl => match us, hl with | [_], _ => rfl
  g_is_set := PySem.W.mg_of X G a7
  f_is_pair := f8
  d_is_pair := PySem.W.fnOf "is_pair" "is_pair" (defArgs s_is_pair) (defBody s_is_pair) (defScope s_is_pair) .none kV8 dc8 pm8 an8 cd8 ct8
  F_is_pair := fun_mk (st := s_is_pair) l8 c8 k8
  b_is_pair := Fun.binds (fun_mk (st := s_is_pair) l8 c8 k8) (ps := ["part"]) fun _ _ _ _ _ _ us hl => match us, hl with | [_], _ => rfl
  g_is_pair := PySem.W.mg_of X G a8
  f_other_side := f9
  d_other_side := PySem.W.fnOf "other_side" "other_side" (defArgs s_other_side) (defBody s_other_side) (defScope s_other_side) .none kV9 dc9 pm9 an9 cd9 ct9
  F_other_side := fun_mk (st := s_other_side) l9 c9 k9
  b_other_side := Fun.binds (fun_mk (st := s_other_side) l9 c9 k9) (ps := ["side"]) fun _ _ _ _ _ _ us hl => match us, hl with | [_], _ => rfl
  g_other_side := PySem.W.mg_of X G a9
  f_Config_init := f10
  d_Config_init := PySem.W.fnOf "__init__" "Config.__init__" (defArgs s_Config_init) (defBody s_Config_init) (defScope s_Config_init) .none (.ref D10) dc10 pm10 an10 cd10 ct10
  F_Config_init := fun_mk (st := s_Config_init) l10 c10 k10
  kb3_Config_init := by obtain ⟨mv, h⟩ := FunD.kbinds0 (ps := ["self", "tokens", "balances", "guards", "depth", "window", "delay", "bundle"]) (x := "__init__") (qual := "Config.__init__") (params := defArgs s_Config_init) (body := defBody s_Config_init) (scope := defScope s_Config_init) (kws := [("depth", .int 2), ("window", .int 4), ("delay", .int 2), ("bundle", .int 4)]) ⟨⟨_, _, _, _, _, _, _, _, _, _, rfl, l10, c10, .inl ⟨rfl, rfl⟩, .inr ⟨D10, rfl, fun q hq => by simp only [List.mem_cons, List.not_mem_nil, or_false] at hq; rcases hq with rfl | rfl | rfl | rfl <;> first | exact ⟨_, kd10_0, ⟨_, rfl⟩⟩ | exact ⟨_, kd10_1, ⟨_, rfl⟩⟩ | exact ⟨_, kd10_2, ⟨_, rfl⟩⟩ | exact ⟨_, kd10_3, ⟨_, rfl⟩⟩⟩⟩, k10⟩ 1 ["tokens", "balances", "guards"] [("depth", .int 2), ("window", .int 4), ("delay", .int 2), ("bundle", .int 4)] (fun us mv ws => us ++ [] ++ ws ++ mv) (by intro z; cases z) (fun q hq => hq) (fun r1 r2 r3 => ((r1.append .nil).append r3).append r2) (fun _ _ _ _ _ _ us mv ws l1 l2 l3 => match us, mv, ws, l1, l2, l3 with | [_], [_, _, _, _], [_, _, _], _, _, _ => ⟨_, _, _, _, _, _, rfl, rfl, _, _, _, _, _, _, rfl, rfl, _, _, _, _, _, _, rfl, rfl, _, _, _, _, _, _, rfl, rfl, (by change _ = _; rfl)⟩); exact ⟨_, h⟩
  kb7_Config_init := ⟨fun s us ws X l1 l2 => match us, ws, l1, l2 with | [_], [_, _, _, _, _, _, _], _, _ => .of_eq rfl, fun r rz => Vals.append r rz⟩
  f_Config_token_names := f11
  d_Config_token_names := PySem.W.fnOf "token_names" "Config.token_names" (defArgs s_Config_token_names) (defBody s_Config_token_names) (defScope s_Config_token_names) .none kV11 dc11 pm11 an11 cd11 ct11
  F_Config_token_names := fun_mk (st := s_Config_token_names) l11 c11 k11
  b_Config_token_names := Fun.binds (fun_mk (st := s_Config_token_names) l11 c11 k11) (ps := ["self"]) fun _ _ _ _ _ _ us hl => match us, hl with | [_], _ => rfl
  f_Config_check_token := f12
  d_Config_check_token := PySem.W.fnOf "check_token" "Config.check_token" (defArgs s_Config_check_token) (defBody s_Config_check_token) (defScope s_Config_check_token) .none kV12 dc12 pm12 an12 cd12 ct12
  F_Config_check_token := fun_mk (st := s_Config_check_token) l12 c12 k12
  b_Config_check_token := Fun.binds (fun_mk (st := s_Config_check_token) l12 c12 k12) (ps := ["self", "token"]) fun _ _ _ _ _ _ us hl => match us, hl with | [_, _], _ => rfl
  f_Config_home := f13
  d_Config_home := PySem.W.fnOf "home" "Config.home" (defArgs s_Config_home) (defBody s_Config_home) (defScope s_Config_home) .none kV13 dc13 pm13 an13 cd13 ct13
  F_Config_home := fun_mk (st := s_Config_home) l13 c13 k13
  b_Config_home := Fun.binds (fun_mk (st := s_Config_home) l13 c13 k13) (ps := ["self", "token"]) fun _ _ _ _ _ _ us hl => match us, hl with | [_, _], _ => rfl
  f_Config_scale := f14
  d_Config_scale := PySem.W.fnOf "scale" "Config.scale" (defArgs s_Config_scale) (defBody s_Config_scale) (defScope s_Config_scale) .none kV14 dc14 pm14 an14 cd14 ct14
  F_Config_scale := fun_mk (st := s_Config_scale) l14 c14 k14
  b_Config_scale := Fun.binds (fun_mk (st := s_Config_scale) l14 c14 k14) (ps := ["self", "token"]) fun _ _ _ _ _ _ us hl => match us, hl with | [_, _], _ => rfl
  f_Config_limit := f15
  d_Config_limit := PySem.W.fnOf "limit" "Config.limit" (defArgs s_Config_limit) (defBody s_Config_limit) (defScope s_Config_limit) .none kV15 dc15 pm15 an15 cd15 ct15
  F_Config_limit := fun_mk (st := s_Config_limit) l15 c15 k15
  b_Config_limit := Fun.binds (fun_mk (st := s_Config_limit) l15 c15 k15) (ps := ["self", "token"]) fun _ _ _ _ _ _ us hl => match us, hl with | [_, _], _ => rfl
  f_Config_large := f16
  d_Config_large := PySem.W.fnOf "large" "Config.large" (defArgs s_Config_large) (defBody s_Config_large) (defScope s_Config_large) .none kV16 dc16 pm16 an16 cd16 ct16
  F_Config_large := fun_mk (st := s_Config_large) l16 c16 k16
  b_Config_large := Fun.binds (fun_mk (st := s_Config_large) l16 c16 k16) (ps := ["self", "token"]) fun _ _ _ _ _ _ us hl => match us, hl with | [_, _], _ => rfl
  f_Config_opening := f17
  d_Config_opening := PySem.W.fnOf "opening" "Config.opening" (defArgs s_Config_opening) (defBody s_Config_opening) (defScope s_Config_opening) .none kV17 dc17 pm17 an17 cd17 ct17
  F_Config_opening := fun_mk (st := s_Config_opening) l17 c17 k17
  b_Config_opening := Fun.binds (fun_mk (st := s_Config_opening) l17 c17 k17) (ps := ["self", "side"]) fun _ _ _ _ _ _ us hl => match us, hl with | [_, _], _ => rfl
  f_Config_guards := f18
  d_Config_guards := PySem.W.fnOf "guards" "Config.guards" (defArgs s_Config_guards) (defBody s_Config_guards) (defScope s_Config_guards) .none kV18 dc18 pm18 an18 cd18 ct18
  F_Config_guards := fun_mk (st := s_Config_guards) l18 c18 k18
  b_Config_guards := Fun.binds (fun_mk (st := s_Config_guards) l18 c18 k18) (ps := ["self"]) fun _ _ _ _ _ _ us hl => match us, hl with | [_], _ => rfl
  f_Config_depth := f19
  d_Config_depth := PySem.W.fnOf "depth" "Config.depth" (defArgs s_Config_depth) (defBody s_Config_depth) (defScope s_Config_depth) .none kV19 dc19 pm19 an19 cd19 ct19
  F_Config_depth := fun_mk (st := s_Config_depth) l19 c19 k19
  b_Config_depth := Fun.binds (fun_mk (st := s_Config_depth) l19 c19 k19) (ps := ["self"]) fun _ _ _ _ _ _ us hl => match us, hl with | [_], _ => rfl
  f_Config_window := f20
  d_Config_window := PySem.W.fnOf "window" "Config.window" (defArgs s_Config_window) (defBody s_Config_window) (defScope s_Config_window) .none kV20 dc20 pm20 an20 cd20 ct20
  F_Config_window := fun_mk (st := s_Config_window) l20 c20 k20
  b_Config_window := Fun.binds (fun_mk (st := s_Config_window) l20 c20 k20) (ps := ["self"]) fun _ _ _ _ _ _ us hl => match us, hl with | [_], _ => rfl
  f_Config_delay := f21
  d_Config_delay := PySem.W.fnOf "delay" "Config.delay" (defArgs s_Config_delay) (defBody s_Config_delay) (defScope s_Config_delay) .none kV21 dc21 pm21 an21 cd21 ct21
  F_Config_delay := fun_mk (st := s_Config_delay) l21 c21 k21
  b_Config_delay := Fun.binds (fun_mk (st := s_Config_delay) l21 c21 k21) (ps := ["self"]) fun _ _ _ _ _ _ us hl => match us, hl with | [_], _ => rfl
  f_Config_bundle := f22
  d_Config_bundle := PySem.W.fnOf "bundle" "Config.bundle" (defArgs s_Config_bundle) (defBody s_Config_bundle) (defScope s_Config_bundle) .none kV22 dc22 pm22 an22 cd22 ct22
  F_Config_bundle := fun_mk (st := s_Config_bundle) l22 c22 k22
  b_Config_bundle := Fun.binds (fun_mk (st := s_Config_bundle) l22 c22 k22) (ps := ["self"]) fun _ _ _ _ _ _ us hl => match us, hl with | [_], _ => rfl
  f_check_list := f23
  d_check_list := PySem.W.fnOf "check_list" "check_list" (defArgs s_check_list) (defBody s_check_list) (defScope s_check_list) .none kV23 dc23 pm23 an23 cd23 ct23
  F_check_list := fun_mk (st := s_check_list) l23 c23 k23
  b_check_list := Fun.binds (fun_mk (st := s_check_list) l23 c23 k23) (ps := ["name", "value"]) fun _ _ _ _ _ _ us hl => match us, hl with | [_, _], _ => rfl
  g_check_list := PySem.W.mg_of X G a23
  f_check_least := f24
  d_check_least := PySem.W.fnOf "check_least" "check_least" (defArgs s_check_least) (defBody s_check_least) (defScope s_check_least) .none kV24 dc24 pm24 an24 cd24 ct24
  F_check_least := fun_mk (st := s_check_least) l24 c24 k24
  b_check_least := Fun.binds (fun_mk (st := s_check_least) l24 c24 k24) (ps := ["name", "value", "least"]) fun _ _ _ _ _ _ us hl => match us, hl with | [_, _, _], _ => rfl
  g_check_least := PySem.W.mg_of X G a24
  f_check_token_row := f25
  d_check_token_row := PySem.W.fnOf "check_token_row" "check_token_row" (defArgs s_check_token_row) (defBody s_check_token_row) (defScope s_check_token_row) .none kV25 dc25 pm25 an25 cd25 ct25
  F_check_token_row := fun_mk (st := s_check_token_row) l25 c25 k25
  b_check_token_row := Fun.binds (fun_mk (st := s_check_token_row) l25 c25 k25) (ps := ["row"]) fun _ _ _ _ _ _ us hl => match us, hl with | [_], _ => rfl
  g_check_token_row := PySem.W.mg_of X G a25
  f_check_balance_row := f26
  d_check_balance_row := PySem.W.fnOf "check_balance_row" "check_balance_row" (defArgs s_check_balance_row) (defBody s_check_balance_row) (defScope s_check_balance_row) .none kV26 dc26 pm26 an26 cd26 ct26
  F_check_balance_row := fun_mk (st := s_check_balance_row) l26 c26 k26
  b_check_balance_row := Fun.binds (fun_mk (st := s_check_balance_row) l26 c26 k26) (ps := ["row", "tokens"]) fun _ _ _ _ _ _ us hl => match us, hl with | [_, _], _ => rfl
  g_check_balance_row := PySem.W.mg_of X G a26
  f_L_pot := f27
  d_L_pot := PySem.W.fnOf "_law_pot" "_law_pot" (defArgs s_L_pot) (defBody s_L_pot) (defScope s_L_pot) .none kV27 dc27 pm27 an27 cd27 ct27
  F_L_pot := fun_mk (st := s_L_pot) l27 c27 k27
  b_L_pot := Fun.binds (fun_mk (st := s_L_pot) l27 c27 k27) (ps := ["script"]) fun _ _ _ _ _ _ us hl => match us, hl with | [_], _ => rfl
  g_L_pot := PySem.W.mg_of X G a27
  f_L_next := f28
  d_L_next := PySem.W.fnOf "_law_next" "_law_next" (defArgs s_L_next) (defBody s_L_next) (defScope s_L_next) .none kV28 dc28 pm28 an28 cd28 ct28
  F_L_next := fun_mk (st := s_L_next) l28 c28 k28
  b_L_next := Fun.binds (fun_mk (st := s_L_next) l28 c28 k28) (ps := ["pot", "limit"]) fun _ _ _ _ _ _ us hl => match us, hl with | [_, _], _ => rfl
  g_L_next := PySem.W.mg_of X G a28
  f_L_is_int := f29
  d_L_is_int := PySem.W.fnOf "_law_is_int" "_law_is_int" (defArgs s_L_is_int) (defBody s_L_is_int) (defScope s_L_is_int) .none kV29 dc29 pm29 an29 cd29 ct29
  F_L_is_int := fun_mk (st := s_L_is_int) l29 c29 k29
  b_L_is_int := Fun.binds (fun_mk (st := s_L_is_int) l29 c29 k29) (ps := ["value"]) fun _ _ _ _ _ _ us hl => match us, hl with | [_], _ => rfl
  g_L_is_int := PySem.W.mg_of X G a29
  f_L_same := f30
  d_L_same := PySem.W.fnOf "_law_same" "_law_same" (defArgs s_L_same) (defBody s_L_same) (defScope s_L_same) .none kV30 dc30 pm30 an30 cd30 ct30
  F_L_same := fun_mk (st := s_L_same) l30 c30 k30
  b_L_same := Fun.binds (fun_mk (st := s_L_same) l30 c30 k30) (ps := ["found", "value"]) fun _ _ _ _ _ _ us hl => match us, hl with | [_, _], _ => rfl
  g_L_same := PySem.W.mg_of X G a30
  f_L_set := f31
  d_L_set := PySem.W.fnOf "_law_set" "_law_set" (defArgs s_L_set) (defBody s_L_set) (defScope s_L_set) .none kV31 dc31 pm31 an31 cd31 ct31
  F_L_set := fun_mk (st := s_L_set) l31 c31 k31
  b_L_set := Fun.binds (fun_mk (st := s_L_set) l31 c31 k31) (ps := ["pot", "most"]) fun _ _ _ _ _ _ us hl => match us, hl with | [_, _], _ => rfl
  g_L_set := PySem.W.mg_of X G a31
  f_L_config := f32
  d_L_config := PySem.W.fnOf "_law_config" "_law_config" (defArgs s_L_config) (defBody s_L_config) (defScope s_L_config) .none kV32 dc32 pm32 an32 cd32 ct32
  F_L_config := fun_mk (st := s_L_config) l32 c32 k32
  b_L_config := Fun.binds (fun_mk (st := s_L_config) l32 c32 k32) (ps := ["pot"]) fun _ _ _ _ _ _ us hl => match us, hl with | [_], _ => rfl
  g_L_config := PySem.W.mg_of X G a32
  f_L_made := f33
  d_L_made := PySem.W.fnOf "_law_made" "_law_made" (defArgs s_L_made) (defBody s_L_made) (defScope s_L_made) .none kV33 dc33 pm33 an33 cd33 ct33
  F_L_made := fun_mk (st := s_L_made) l33 c33 k33
  b_L_made := Fun.binds (fun_mk (st := s_L_made) l33 c33 k33) (ps := ["parts"]) fun _ _ _ _ _ _ us hl => match us, hl with | [_], _ => rfl
  g_L_made := PySem.W.mg_of X G a33
  f_L_refused := f34
  d_L_refused := PySem.W.fnOf "_law_refused" "_law_refused" (defArgs s_L_refused) (defBody s_L_refused) (defScope s_L_refused) (.ref T34) kV34 dc34 pm34 an34 cd34 ct34
  F_L_refused := ⟨⟨_, _, _, _, _, _, _, _, _, _, rfl, l34, c34, .inr ⟨(by intro z; cases z), T34, _, itt34.toList, _, rfl, rd34, rfl, ValsB.vals vd34⟩, .inl rfl⟩, k34⟩
  bd5_L_refused := FunD.binds1 (⟨⟨_, _, _, _, _, _, _, _, _, _, rfl, l34, c34, .inr ⟨(by intro z; cases z), T34, _, itt34.toList, _, rfl, rd34, rfl, ValsB.vals vd34⟩, .inl rfl⟩, k34⟩) 5 0 (by intro z; cases z) rfl (fun _ _ _ _ _ _ _ us its h1 h2 => match us, its, h1, h2 with | [_, _, _, _, _], [_, _], _, _ => ⟨_, rfl, rfl⟩)
  bd6_L_refused := FunD.binds1 (⟨⟨_, _, _, _, _, _, _, _, _, _, rfl, l34, c34, .inr ⟨(by intro z; cases z), T34, _, itt34.toList, _, rfl, rd34, rfl, ValsB.vals vd34⟩, .inl rfl⟩, k34⟩) 6 1 (by intro z; cases z) rfl (fun _ _ _ _ _ _ _ us its h1 h2 => match us, its, h1, h2 with | [_, _, _, _, _, _], [_, _], _, _ => ⟨_, rfl, rfl⟩)
  b_L_refused := by obtain ⟨ds, hv, hb⟩ := FunD.binds1 (ps := ["tokens", "balances", "guards", "depth", "window", "delay", "many"]) (⟨⟨_, _, _, _, _, _, _, _, _, _, rfl, l34, c34, .inr ⟨(by intro z; cases z), T34, _, itt34.toList, _, rfl, rd34, rfl, ValsB.vals vd34⟩, .inl rfl⟩, k34⟩) 7 2 (by intro z; cases z) rfl (fun _ _ _ _ _ _ _ us its h1 h2 => match us, its, h1, h2 with | [_, _, _, _, _, _, _], [_, _], _, _ => ⟨_, rfl, rfl⟩); cases hv; exact hb
  g_L_refused := PySem.W.mg_of X G a34
  f_L_unknown := f35
  d_L_unknown := PySem.W.fnOf "_law_unknown" "_law_unknown" (defArgs s_L_unknown) (defBody s_L_unknown) (defScope s_L_unknown) .none kV35 dc35 pm35 an35 cd35 ct35
  F_L_unknown := fun_mk (st := s_L_unknown) l35 c35 k35
  b_L_unknown := Fun.binds (fun_mk (st := s_L_unknown) l35 c35 k35) (ps := ["config"]) fun _ _ _ _ _ _ us hl => match us, hl with | [_], _ => rfl
  g_L_unknown := PySem.W.mg_of X G a35
  f_law := f36
  d_law := PySem.W.fnOf "law" "law" (defArgs s_law) (defBody s_law) (defScope s_law) .none kV36 dc36 pm36 an36 cd36 ct36
  F_law := fun_mk (st := s_law) l36 c36 k36
  b_law := Fun.binds (fun_mk (st := s_law) l36 c36 k36) (ps := ["script"]) fun _ _ _ _ _ _ us hl => match us, hl with | [_], _ => rfl
  g_law := PySem.W.mg_of X G a36
  C_BridgeError := C0
  g_BridgeError := PySem.W.mg_of X G aC0
  xe_BridgeError := xe0
  ke_BridgeError := ke0
  be_BridgeError := be0
  te_BridgeError := te0
  ie_BridgeError := ie0
  se_BridgeError := se0
  hd_BridgeError := hd0
  C_InvalidArgument := C1
  g_InvalidArgument := PySem.W.mg_of X G aC1
  xe_InvalidArgument := xe1
  ke_InvalidArgument := ke1
  be_InvalidArgument := be1
  te_InvalidArgument := te1
  ie_InvalidArgument := ie1
  se_InvalidArgument := se1
  hg_InvalidArgument := hg1
  hk_InvalidArgument := hk1
  hd_InvalidArgument := hd1
  ha_InvalidArgument := ha1
  hm_InvalidArgument := hm1
  hn_InvalidArgument := hn1
  ht_InvalidArgument := ht1
  ue_InvalidArgument := ue1
  C_UnknownToken := C2
  g_UnknownToken := PySem.W.mg_of X G aC2
  xe_UnknownToken := xe2
  ke_UnknownToken := ke2
  be_UnknownToken := be2
  te_UnknownToken := te2
  ie_UnknownToken := ie2
  se_UnknownToken := se2
  hg_UnknownToken := hg2
  hk_UnknownToken := hk2
  hd_UnknownToken := hd2
  ha_UnknownToken := ha2
  hm_UnknownToken := hm2
  hn_UnknownToken := hn2
  ht_UnknownToken := ht2
  ue_UnknownToken := ue2
  C_Config := C3
  cl_Config := ⟨pg3, hd3, po3, sa3⟩
  g_Config := PySem.W.mg_of X G aC3
  mk_Config := ⟨mk3, m10, i10, kc3⟩
  m_Config_token_names := ⟨m11, i11, k11⟩
  m_Config_check_token := ⟨m12, i12, k12⟩
  m_Config_home := ⟨m13, i13, k13⟩
  m_Config_scale := ⟨m14, i14, k14⟩
  m_Config_limit := ⟨m15, i15, k15⟩
  m_Config_large := ⟨m16, i16, k16⟩
  m_Config_opening := ⟨m17, i17, k17⟩
  m_Config_guards := ⟨m18, i18, k18⟩
  m_Config_depth := ⟨m19, i19, k19⟩
  m_Config_window := ⟨m20, i20, k20⟩
  m_Config_delay := ⟨m21, i21, k21⟩
  m_Config_bundle := ⟨m22, i22, k22⟩
  n_Config_tokens := n3_0
  n_Config_balances := n3_1
  n_Config_guards := n3_2
  n_Config_depth := n3_3
  n_Config_window := n3_4
  n_Config_delay := n3_5
  n_Config_bundle := n3_6
  t_ACCOUNT_LENGTH := tk0
  c_ACCOUNT_LENGTH := PySem.W.mg_of X G q0
  t_BARRED_CODE := tk1
  c_BARRED_CODE := PySem.W.mg_of X G q1
  t_FIRST_CODE := tk2
  c_FIRST_CODE := PySem.W.mg_of X G q2
  t_LAST_CODE := tk3
  c_LAST_CODE := PySem.W.mg_of X G q3
  t_MOST_IN_BUNDLE := tk4
  c_MOST_IN_BUNDLE := PySem.W.mg_of X G q4
  a_SIDES := g5
  c_SIDES := PySem.W.mg_of X G q5
  k_SIDES := ⟨_, _, _, r5, rfl, rfl, (ValsB.size v5 (by decide)), ValsB.vals v5⟩
  t_TOKEN_LENGTH := tk6
  c_TOKEN_LENGTH := PySem.W.mg_of X G q6
  z_abs := PySem.W.mg_none_of X G z0
  z_all := PySem.W.mg_none_of X G z1
  z_bool := PySem.W.mg_none_of X G z2
  z_int := PySem.W.mg_none_of X G z3
  z_isinstance := PySem.W.mg_none_of X G z4
  z_len := PySem.W.mg_none_of X G z5
  z_list := PySem.W.mg_none_of X G z6
  z_ord := PySem.W.mg_none_of X G z7
  z_range := PySem.W.mg_none_of X G z8
  z_sorted := PySem.W.mg_none_of X G z9
  z_str := PySem.W.mg_none_of X G z10
  z_tuple := PySem.W.mg_none_of X G z11
theorem all_mk {l : PySem.W.OpenLaw} {w : World} {K : PySem.W.Frag} {h : Heap} {mg : Str → Option Value} {fa : Addr} (X : K.In h) (G : h.Ns mainGlobals mg) (hfa : mg "law" = some (.ref fa))
    {f0 f1 f2 f3 f4 f5 f6 f7 f8 f9 f10 D10 f11 f12 f13 f14 f15 f16 f17 f18 f19 f20 f21 f22 f23 f24 f25 f26 f27 f28 f29 f30 f31 f32 f33 f34 T34 f35 f36 C0 C1 C2 C3 g5 : Addr} {od0 an0 od1 an1 od2 an2 od3 an3 od4 an4 od5 an5 od6 an6 od7 an7 od8 an8 od9 an9 od10 an10 od11 an11 od12 an12 od13 an13 od14 an14 od15 an15 od16 an16 od17 an17 od18 an18 od19 an19 od20 an20 od21 an21 od22 an22 od23 an23 od24 an24 od25 an25 od26 an26 od27 an27 od28 an28 od29 an29 od30 an30 od31 an31 od32 an32 od33 an33 od34 an34 od35 an35 od36 an36 : Option Addr} {sl0 sl1 sl2 sl3 sl4 sl5 sl6 sl7 sl8 sl9 sl10 sl11 sl12 sl13 sl14 sl15 sl16 sl17 sl18 sl19 sl20 sl21 sl22 sl23 sl24 sl25 sl26 sl27 sl28 sl29 sl30 sl31 sl32 sl33 sl34 sl35 sl36 : Array (Option Value)} {oc0 kV0 dc0 pm0 cd0 ct0 oc1 kV1 dc1 pm1 cd1 ct1 oc2 kV2 dc2 pm2 cd2 ct2 oc3 kV3 dc3 pm3 cd3 ct3 oc4 kV4 dc4 pm4 cd4 ct4 oc5 kV5 dc5 pm5 cd5 ct5 oc6 kV6 dc6 pm6 cd6 ct6 oc7 kV7 dc7 pm7 cd7 ct7 oc8 kV8 dc8 pm8 cd8 ct8 oc9 kV9 dc9 pm9 cd9 ct9 oc10 dc10 pm10 cd10 ct10 oc11 kV11 dc11 pm11 cd11 ct11 oc12 kV12 dc12 pm12 cd12 ct12 oc13 kV13 dc13 pm13 cd13 ct13 oc14 kV14 dc14 pm14 cd14 ct14 oc15 kV15 dc15 pm15 cd15 ct15 oc16 kV16 dc16 pm16 cd16 ct16 oc17 kV17 dc17 pm17 cd17 ct17 oc18 kV18 dc18 pm18 cd18 ct18 oc19 kV19 dc19 pm19 cd19 ct19 oc20 kV20 dc20 pm20 cd20 ct20 oc21 kV21 dc21 pm21 cd21 ct21 oc22 kV22 dc22 pm22 cd22 ct22 oc23 kV23 dc23 pm23 cd23 ct23 oc24 kV24 dc24 pm24 cd24 ct24 oc25 kV25 dc25 pm25 cd25 ct25 oc26 kV26 dc26 pm26 cd26 ct26 oc27 kV27 dc27 pm27 cd27 ct27 oc28 kV28 dc28 pm28 cd28 ct28 oc29 kV29 dc29 pm29 cd29 ct29 oc30 kV30 dc30 pm30 cd30 ct30 oc31 kV31 dc31 pm31 cd31 ct31 oc32 kV32 dc32 pm32 cd32 ct32 oc33 kV33 dc33 pm33 cd33 ct33 oc34 kV34 dc34 pm34 cd34 ct34 oc35 kV35 dc35 pm35 cd35 ct35 oc36 kV36 dc36 pm36 cd36 ct36 : Value} {tk0 tk1 tk2 tk3 tk4 tk6 tkd10_0 tkd10_1 tkd10_2 tkd10_3 : Tok} {odt34 : Option Addr} {itt34 : Array Value} {ntt34 : Nat} {slt34 : Array (Option Value)} {odg5 : Option Addr} {itg5 : Array Value} {ng5 : Nat} {slg5 : Array (Option Value)}
    (a0 : PySem.W.nsIn K mainGlobals "_wall" = some (some (.ref f0)))
    (a1 : PySem.W.nsIn K mainGlobals "is_integer" = some (some (.ref f1)))
    (a2 : PySem.W.nsIn K mainGlobals "is_at_least" = some (some (.ref f2)))
    (a3 : PySem.W.nsIn K mainGlobals "is_text" = some (some (.ref f3)))
    (a4 : PySem.W.nsIn K mainGlobals "is_short_text" = some (some (.ref f4)))
    (a5 : PySem.W.nsIn K mainGlobals "is_account" = some (some (.ref f5)))
    (a6 : PySem.W.nsIn K mainGlobals "is_side" = some (some (.ref f6)))
    (a7 : PySem.W.nsIn K mainGlobals "is_set" = some (some (.ref f7)))
    (a8 : PySem.W.nsIn K mainGlobals "is_pair" = some (some (.ref f8)))
    (a9 : PySem.W.nsIn K mainGlobals "other_side" = some (some (.ref f9)))
    (a23 : PySem.W.nsIn K mainGlobals "check_list" = some (some (.ref f23)))
    (a24 : PySem.W.nsIn K mainGlobals "check_least" = some (some (.ref f24)))
    (a25 : PySem.W.nsIn K mainGlobals "check_token_row" = some (some (.ref f25)))
    (a26 : PySem.W.nsIn K mainGlobals "check_balance_row" = some (some (.ref f26)))
    (a27 : PySem.W.nsIn K mainGlobals "_law_pot" = some (some (.ref f27)))
    (a28 : PySem.W.nsIn K mainGlobals "_law_next" = some (some (.ref f28)))
    (a29 : PySem.W.nsIn K mainGlobals "_law_is_int" = some (some (.ref f29)))
    (a30 : PySem.W.nsIn K mainGlobals "_law_same" = some (some (.ref f30)))
    (a31 : PySem.W.nsIn K mainGlobals "_law_set" = some (some (.ref f31)))
    (a32 : PySem.W.nsIn K mainGlobals "_law_config" = some (some (.ref f32)))
    (a33 : PySem.W.nsIn K mainGlobals "_law_made" = some (some (.ref f33)))
    (a34 : PySem.W.nsIn K mainGlobals "_law_refused" = some (some (.ref f34)))
    (a35 : PySem.W.nsIn K mainGlobals "_law_unknown" = some (some (.ref f35)))
    (a36 : PySem.W.nsIn K mainGlobals "law" = some (some (.ref f36)))
    (aC0 : PySem.W.nsIn K mainGlobals "BridgeError" = some (some (.ref C0)))
    (aC1 : PySem.W.nsIn K mainGlobals "InvalidArgument" = some (some (.ref C1)))
    (aC2 : PySem.W.nsIn K mainGlobals "UnknownToken" = some (some (.ref C2)))
    (aC3 : PySem.W.nsIn K mainGlobals "Config" = some (some (.ref C3)))
    (m10 : PySem.W.findIn K (.ref C3) "__init__" = some (some (.ref f10)))
    (m11 : PySem.W.findIn K (.ref C3) "token_names" = some (some (.ref f11)))
    (m12 : PySem.W.findIn K (.ref C3) "check_token" = some (some (.ref f12)))
    (m13 : PySem.W.findIn K (.ref C3) "home" = some (some (.ref f13)))
    (m14 : PySem.W.findIn K (.ref C3) "scale" = some (some (.ref f14)))
    (m15 : PySem.W.findIn K (.ref C3) "limit" = some (some (.ref f15)))
    (m16 : PySem.W.findIn K (.ref C3) "large" = some (some (.ref f16)))
    (m17 : PySem.W.findIn K (.ref C3) "opening" = some (some (.ref f17)))
    (m18 : PySem.W.findIn K (.ref C3) "guards" = some (some (.ref f18)))
    (m19 : PySem.W.findIn K (.ref C3) "depth" = some (some (.ref f19)))
    (m20 : PySem.W.findIn K (.ref C3) "window" = some (some (.ref f20)))
    (m21 : PySem.W.findIn K (.ref C3) "delay" = some (some (.ref f21)))
    (m22 : PySem.W.findIn K (.ref C3) "bundle" = some (some (.ref f22)))
    (l0 : K.lookup f0 = some ⟨oc0, od0, .func (PySem.W.fnOf "_wall" "_wall" (defArgs s__wall) (defBody s__wall) (defScope s__wall) .none kV0 dc0 pm0 an0 cd0 ct0), sl0⟩)
    (c0 : PySem.W.codeIn K cd0 "_wall" = true)
    (k0 : PySem.W.keepIn K (.ref f0) = true)
    (l1 : K.lookup f1 = some ⟨oc1, od1, .func (PySem.W.fnOf "is_integer" "is_integer" (defArgs s_is_integer) (defBody s_is_integer) (defScope s_is_integer) .none kV1 dc1 pm1 an1 cd1 ct1), sl1⟩)
    (c1 : PySem.W.codeIn K cd1 "is_integer" = true)
    (k1 : PySem.W.keepIn K (.ref f1) = true)
    (l2 : K.lookup f2 = some ⟨oc2, od2, .func (PySem.W.fnOf "is_at_least" "is_at_least" (defArgs s_is_at_least) (defBody s_is_at_least) (defScope s_is_at_least) .none kV2 dc2 pm2 an2 cd2 ct2), sl2⟩)
    (c2 : PySem.W.codeIn K cd2 "is_at_least" = true)
    (k2 : PySem.W.keepIn K (.ref f2) = true)
    (l3 : K.lookup f3 = some ⟨oc3, od3, .func (PySem.W.fnOf "is_text" "is_text" (defArgs s_is_text) (defBody s_is_text) (defScope s_is_text) .none kV3 dc3 pm3 an3 cd3 ct3), sl3⟩)
    (c3 : PySem.W.codeIn K cd3 "is_text" = true)
    (k3 : PySem.W.keepIn K (.ref f3) = true)
    (l4 : K.lookup f4 = some ⟨oc4, od4, .func (PySem.W.fnOf "is_short_text" "is_short_text" (defArgs s_is_short_text) (defBody s_is_short_text) (defScope s_is_short_text) .none kV4 dc4 pm4 an4 cd4 ct4), sl4⟩)
    (c4 : PySem.W.codeIn K cd4 "is_short_text" = true)
    (k4 : PySem.W.keepIn K (.ref f4) = true)
    (l5 : K.lookup f5 = some ⟨oc5, od5, .func (PySem.W.fnOf "is_account" "is_account" (defArgs s_is_account) (defBody s_is_account) (defScope s_is_account) .none kV5 dc5 pm5 an5 cd5 ct5), sl5⟩)
    (c5 : PySem.W.codeIn K cd5 "is_account" = true)
    (k5 : PySem.W.keepIn K (.ref f5) = true)
    (l6 : K.lookup f6 = some ⟨oc6, od6, .func (PySem.W.fnOf "is_side" "is_side" (defArgs s_is_side) (defBody s_is_side) (defScope s_is_side) .none kV6 dc6 pm6 an6 cd6 ct6), sl6⟩)
    (c6 : PySem.W.codeIn K cd6 "is_side" = true)
    (k6 : PySem.W.keepIn K (.ref f6) = true)
    (l7 : K.lookup f7 = some ⟨oc7, od7, .func (PySem.W.fnOf "is_set" "is_set" (defArgs s_is_set) (defBody s_is_set) (defScope s_is_set) .none kV7 dc7 pm7 an7 cd7 ct7), sl7⟩)
    (c7 : PySem.W.codeIn K cd7 "is_set" = true)
    (k7 : PySem.W.keepIn K (.ref f7) = true)
    (l8 : K.lookup f8 = some ⟨oc8, od8, .func (PySem.W.fnOf "is_pair" "is_pair" (defArgs s_is_pair) (defBody s_is_pair) (defScope s_is_pair) .none kV8 dc8 pm8 an8 cd8 ct8), sl8⟩)
    (c8 : PySem.W.codeIn K cd8 "is_pair" = true)
    (k8 : PySem.W.keepIn K (.ref f8) = true)
    (l9 : K.lookup f9 = some ⟨oc9, od9, .func (PySem.W.fnOf "other_side" "other_side" (defArgs s_other_side) (defBody s_other_side) (defScope s_other_side) .none kV9 dc9 pm9 an9 cd9 ct9), sl9⟩)
    (c9 : PySem.W.codeIn K cd9 "other_side" = true)
    (k9 : PySem.W.keepIn K (.ref f9) = true)
    (l10 : K.lookup f10 = some ⟨oc10, od10, .func (PySem.W.fnOf "__init__" "Config.__init__" (defArgs s_Config_init) (defBody s_Config_init) (defScope s_Config_init) .none (.ref D10) dc10 pm10 an10 cd10 ct10), sl10⟩)
    (c10 : PySem.W.codeIn K cd10 "Config.__init__" = true)
    (k10 : PySem.W.keepIn K (.ref f10) = true)
    (kd10_0 : PySem.W.nsIn K D10 "depth" = some (some (.int 2 tkd10_0)))
    (kd10_1 : PySem.W.nsIn K D10 "window" = some (some (.int 4 tkd10_1)))
    (kd10_2 : PySem.W.nsIn K D10 "delay" = some (some (.int 2 tkd10_2)))
    (kd10_3 : PySem.W.nsIn K D10 "bundle" = some (some (.int 4 tkd10_3)))
    (l11 : K.lookup f11 = some ⟨oc11, od11, .func (PySem.W.fnOf "token_names" "Config.token_names" (defArgs s_Config_token_names) (defBody s_Config_token_names) (defScope s_Config_token_names) .none kV11 dc11 pm11 an11 cd11 ct11), sl11⟩)
    (c11 : PySem.W.codeIn K cd11 "Config.token_names" = true)
    (k11 : PySem.W.keepIn K (.ref f11) = true)
    (l12 : K.lookup f12 = some ⟨oc12, od12, .func (PySem.W.fnOf "check_token" "Config.check_token" (defArgs s_Config_check_token) (defBody s_Config_check_token) (defScope s_Config_check_token) .none kV12 dc12 pm12 an12 cd12 ct12), sl12⟩)
    (c12 : PySem.W.codeIn K cd12 "Config.check_token" = true)
    (k12 : PySem.W.keepIn K (.ref f12) = true)
    (l13 : K.lookup f13 = some ⟨oc13, od13, .func (PySem.W.fnOf "home" "Config.home" (defArgs s_Config_home) (defBody s_Config_home) (defScope s_Config_home) .none kV13 dc13 pm13 an13 cd13 ct13), sl13⟩)
    (c13 : PySem.W.codeIn K cd13 "Config.home" = true)
    (k13 : PySem.W.keepIn K (.ref f13) = true)
    (l14 : K.lookup f14 = some ⟨oc14, od14, .func (PySem.W.fnOf "scale" "Config.scale" (defArgs s_Config_scale) (defBody s_Config_scale) (defScope s_Config_scale) .none kV14 dc14 pm14 an14 cd14 ct14), sl14⟩)
    (c14 : PySem.W.codeIn K cd14 "Config.scale" = true)
    (k14 : PySem.W.keepIn K (.ref f14) = true)
    (l15 : K.lookup f15 = some ⟨oc15, od15, .func (PySem.W.fnOf "limit" "Config.limit" (defArgs s_Config_limit) (defBody s_Config_limit) (defScope s_Config_limit) .none kV15 dc15 pm15 an15 cd15 ct15), sl15⟩)
    (c15 : PySem.W.codeIn K cd15 "Config.limit" = true)
    (k15 : PySem.W.keepIn K (.ref f15) = true)
    (l16 : K.lookup f16 = some ⟨oc16, od16, .func (PySem.W.fnOf "large" "Config.large" (defArgs s_Config_large) (defBody s_Config_large) (defScope s_Config_large) .none kV16 dc16 pm16 an16 cd16 ct16), sl16⟩)
    (c16 : PySem.W.codeIn K cd16 "Config.large" = true)
    (k16 : PySem.W.keepIn K (.ref f16) = true)
    (l17 : K.lookup f17 = some ⟨oc17, od17, .func (PySem.W.fnOf "opening" "Config.opening" (defArgs s_Config_opening) (defBody s_Config_opening) (defScope s_Config_opening) .none kV17 dc17 pm17 an17 cd17 ct17), sl17⟩)
    (c17 : PySem.W.codeIn K cd17 "Config.opening" = true)
    (k17 : PySem.W.keepIn K (.ref f17) = true)
    (l18 : K.lookup f18 = some ⟨oc18, od18, .func (PySem.W.fnOf "guards" "Config.guards" (defArgs s_Config_guards) (defBody s_Config_guards) (defScope s_Config_guards) .none kV18 dc18 pm18 an18 cd18 ct18), sl18⟩)
    (c18 : PySem.W.codeIn K cd18 "Config.guards" = true)
    (k18 : PySem.W.keepIn K (.ref f18) = true)
    (l19 : K.lookup f19 = some ⟨oc19, od19, .func (PySem.W.fnOf "depth" "Config.depth" (defArgs s_Config_depth) (defBody s_Config_depth) (defScope s_Config_depth) .none kV19 dc19 pm19 an19 cd19 ct19), sl19⟩)
    (c19 : PySem.W.codeIn K cd19 "Config.depth" = true)
    (k19 : PySem.W.keepIn K (.ref f19) = true)
    (l20 : K.lookup f20 = some ⟨oc20, od20, .func (PySem.W.fnOf "window" "Config.window" (defArgs s_Config_window) (defBody s_Config_window) (defScope s_Config_window) .none kV20 dc20 pm20 an20 cd20 ct20), sl20⟩)
    (c20 : PySem.W.codeIn K cd20 "Config.window" = true)
    (k20 : PySem.W.keepIn K (.ref f20) = true)
    (l21 : K.lookup f21 = some ⟨oc21, od21, .func (PySem.W.fnOf "delay" "Config.delay" (defArgs s_Config_delay) (defBody s_Config_delay) (defScope s_Config_delay) .none kV21 dc21 pm21 an21 cd21 ct21), sl21⟩)
    (c21 : PySem.W.codeIn K cd21 "Config.delay" = true)
    (k21 : PySem.W.keepIn K (.ref f21) = true)
    (l22 : K.lookup f22 = some ⟨oc22, od22, .func (PySem.W.fnOf "bundle" "Config.bundle" (defArgs s_Config_bundle) (defBody s_Config_bundle) (defScope s_Config_bundle) .none kV22 dc22 pm22 an22 cd22 ct22), sl22⟩)
    (c22 : PySem.W.codeIn K cd22 "Config.bundle" = true)
    (k22 : PySem.W.keepIn K (.ref f22) = true)
    (l23 : K.lookup f23 = some ⟨oc23, od23, .func (PySem.W.fnOf "check_list" "check_list" (defArgs s_check_list) (defBody s_check_list) (defScope s_check_list) .none kV23 dc23 pm23 an23 cd23 ct23), sl23⟩)
    (c23 : PySem.W.codeIn K cd23 "check_list" = true)
    (k23 : PySem.W.keepIn K (.ref f23) = true)
    (l24 : K.lookup f24 = some ⟨oc24, od24, .func (PySem.W.fnOf "check_least" "check_least" (defArgs s_check_least) (defBody s_check_least) (defScope s_check_least) .none kV24 dc24 pm24 an24 cd24 ct24), sl24⟩)
    (c24 : PySem.W.codeIn K cd24 "check_least" = true)
    (k24 : PySem.W.keepIn K (.ref f24) = true)
    (l25 : K.lookup f25 = some ⟨oc25, od25, .func (PySem.W.fnOf "check_token_row" "check_token_row" (defArgs s_check_token_row) (defBody s_check_token_row) (defScope s_check_token_row) .none kV25 dc25 pm25 an25 cd25 ct25), sl25⟩)
    (c25 : PySem.W.codeIn K cd25 "check_token_row" = true)
    (k25 : PySem.W.keepIn K (.ref f25) = true)
    (l26 : K.lookup f26 = some ⟨oc26, od26, .func (PySem.W.fnOf "check_balance_row" "check_balance_row" (defArgs s_check_balance_row) (defBody s_check_balance_row) (defScope s_check_balance_row) .none kV26 dc26 pm26 an26 cd26 ct26), sl26⟩)
    (c26 : PySem.W.codeIn K cd26 "check_balance_row" = true)
    (k26 : PySem.W.keepIn K (.ref f26) = true)
    (l27 : K.lookup f27 = some ⟨oc27, od27, .func (PySem.W.fnOf "_law_pot" "_law_pot" (defArgs s_L_pot) (defBody s_L_pot) (defScope s_L_pot) .none kV27 dc27 pm27 an27 cd27 ct27), sl27⟩)
    (c27 : PySem.W.codeIn K cd27 "_law_pot" = true)
    (k27 : PySem.W.keepIn K (.ref f27) = true)
    (l28 : K.lookup f28 = some ⟨oc28, od28, .func (PySem.W.fnOf "_law_next" "_law_next" (defArgs s_L_next) (defBody s_L_next) (defScope s_L_next) .none kV28 dc28 pm28 an28 cd28 ct28), sl28⟩)
    (c28 : PySem.W.codeIn K cd28 "_law_next" = true)
    (k28 : PySem.W.keepIn K (.ref f28) = true)
    (l29 : K.lookup f29 = some ⟨oc29, od29, .func (PySem.W.fnOf "_law_is_int" "_law_is_int" (defArgs s_L_is_int) (defBody s_L_is_int) (defScope s_L_is_int) .none kV29 dc29 pm29 an29 cd29 ct29), sl29⟩)
    (c29 : PySem.W.codeIn K cd29 "_law_is_int" = true)
    (k29 : PySem.W.keepIn K (.ref f29) = true)
    (l30 : K.lookup f30 = some ⟨oc30, od30, .func (PySem.W.fnOf "_law_same" "_law_same" (defArgs s_L_same) (defBody s_L_same) (defScope s_L_same) .none kV30 dc30 pm30 an30 cd30 ct30), sl30⟩)
    (c30 : PySem.W.codeIn K cd30 "_law_same" = true)
    (k30 : PySem.W.keepIn K (.ref f30) = true)
    (l31 : K.lookup f31 = some ⟨oc31, od31, .func (PySem.W.fnOf "_law_set" "_law_set" (defArgs s_L_set) (defBody s_L_set) (defScope s_L_set) .none kV31 dc31 pm31 an31 cd31 ct31), sl31⟩)
    (c31 : PySem.W.codeIn K cd31 "_law_set" = true)
    (k31 : PySem.W.keepIn K (.ref f31) = true)
    (l32 : K.lookup f32 = some ⟨oc32, od32, .func (PySem.W.fnOf "_law_config" "_law_config" (defArgs s_L_config) (defBody s_L_config) (defScope s_L_config) .none kV32 dc32 pm32 an32 cd32 ct32), sl32⟩)
    (c32 : PySem.W.codeIn K cd32 "_law_config" = true)
    (k32 : PySem.W.keepIn K (.ref f32) = true)
    (l33 : K.lookup f33 = some ⟨oc33, od33, .func (PySem.W.fnOf "_law_made" "_law_made" (defArgs s_L_made) (defBody s_L_made) (defScope s_L_made) .none kV33 dc33 pm33 an33 cd33 ct33), sl33⟩)
    (c33 : PySem.W.codeIn K cd33 "_law_made" = true)
    (k33 : PySem.W.keepIn K (.ref f33) = true)
    (l34 : K.lookup f34 = some ⟨oc34, od34, .func (PySem.W.fnOf "_law_refused" "_law_refused" (defArgs s_L_refused) (defBody s_L_refused) (defScope s_L_refused) (.ref T34) kV34 dc34 pm34 an34 cd34 ct34), sl34⟩)
    (c34 : PySem.W.codeIn K cd34 "_law_refused" = true)
    (k34 : PySem.W.keepIn K (.ref f34) = true)
    (rd34 : K.lookup T34 = some ⟨.type "tuple", odt34, .seq itt34 ntt34, slt34⟩)
    (vd34 : ValsB [.int 0, .int 4] itt34.toList = true)
    (l35 : K.lookup f35 = some ⟨oc35, od35, .func (PySem.W.fnOf "_law_unknown" "_law_unknown" (defArgs s_L_unknown) (defBody s_L_unknown) (defScope s_L_unknown) .none kV35 dc35 pm35 an35 cd35 ct35), sl35⟩)
    (c35 : PySem.W.codeIn K cd35 "_law_unknown" = true)
    (k35 : PySem.W.keepIn K (.ref f35) = true)
    (l36 : K.lookup f36 = some ⟨oc36, od36, .func (PySem.W.fnOf "law" "law" (defArgs s_law) (defBody s_law) (defScope s_law) .none kV36 dc36 pm36 an36 cd36 ct36), sl36⟩)
    (c36 : PySem.W.codeIn K cd36 "law" = true)
    (k36 : PySem.W.keepIn K (.ref f36) = true)
    (xe0 : PySem.W.excIn K C0 [.type "ValueError", .type "Exception", .type "BaseException", .type "object"] "ValueError.__new__" = true)
    (ke0 : PySem.W.keepIn K (.ref C0) = true)
    (be0 : PySem.W.subIn K (.ref C0) (.type "BaseException") = some true)
    (te0 : PySem.W.typeIn K (.ref C0) = some (.type "type"))
    (ie0 : PySem.W.isClsIn K C0 = true)
    (se0 : PySem.W.subIn K (.ref C0) (.ref C0) = some true)
    (hd0 : PySem.W.hasDictIn K C0 = true)
    (xe1 : PySem.W.excIn K C1 [.type "ValueError", .type "Exception", .type "BaseException", .type "object"] "ValueError.__new__" = true)
    (ke1 : PySem.W.keepIn K (.ref C1) = true)
    (be1 : PySem.W.subIn K (.ref C1) (.type "BaseException") = some true)
    (te1 : PySem.W.typeIn K (.ref C1) = some (.type "type"))
    (ie1 : PySem.W.isClsIn K C1 = true)
    (se1 : PySem.W.subIn K (.ref C1) (.ref C1) = some true)
    (hg1 : PySem.W.findIn K (.ref C1) "__getattribute__" = some (some (.builtin "BaseException.__getattribute__")))
    (hk1 : PySem.W.findIn K (.ref C1) "__getattr__" = some none)
    (hd1 : PySem.W.hasDictIn K C1 = true)
    (ha1 : PySem.W.findIn K (.ref C1) "__class__" = some (some (.builtin "object.__class__")))
    (hm1 : PySem.W.mroIn K C1 (.type "object") = some true)
    (hn1 : PySem.W.specialIn K (.builtin "object.__class__") "__get__" = some (some (.builtin "getset_descriptor.__get__")))
    (ht1 : PySem.W.takesIn K (.builtin "object.__class__") = some true)
    (ue1 : PySem.W.subIn K (.ref C1) (.ref C0) = some true)
    (xe2 : PySem.W.excIn K C2 [.type "ValueError", .type "Exception", .type "BaseException", .type "object"] "ValueError.__new__" = true)
    (ke2 : PySem.W.keepIn K (.ref C2) = true)
    (be2 : PySem.W.subIn K (.ref C2) (.type "BaseException") = some true)
    (te2 : PySem.W.typeIn K (.ref C2) = some (.type "type"))
    (ie2 : PySem.W.isClsIn K C2 = true)
    (se2 : PySem.W.subIn K (.ref C2) (.ref C2) = some true)
    (hg2 : PySem.W.findIn K (.ref C2) "__getattribute__" = some (some (.builtin "BaseException.__getattribute__")))
    (hk2 : PySem.W.findIn K (.ref C2) "__getattr__" = some none)
    (hd2 : PySem.W.hasDictIn K C2 = true)
    (ha2 : PySem.W.findIn K (.ref C2) "__class__" = some (some (.builtin "object.__class__")))
    (hm2 : PySem.W.mroIn K C2 (.type "object") = some true)
    (hn2 : PySem.W.specialIn K (.builtin "object.__class__") "__get__" = some (some (.builtin "getset_descriptor.__get__")))
    (ht2 : PySem.W.takesIn K (.builtin "object.__class__") = some true)
    (ue2 : PySem.W.subIn K (.ref C2) (.ref C0) = some true)
    (pg3 : PySem.W.plainGet K C3 Str.empty = true)
    (hd3 : PySem.W.hasDictIn K C3 = true)
    (po3 : PySem.W.plainOver K C3 = true)
    (sa3 : PySem.W.findIn K (.ref C3) "__setattr__" = some (some (.builtin "object.__setattr__")))
    (mk3 : PySem.W.makesIn K C3 = true)
    (kc3 : PySem.W.keepIn K (.ref C3) = true)
    (i10 : PySem.W.isFn K (.ref f10) = true)
    (i11 : PySem.W.isFn K (.ref f11) = true)
    (i12 : PySem.W.isFn K (.ref f12) = true)
    (i13 : PySem.W.isFn K (.ref f13) = true)
    (i14 : PySem.W.isFn K (.ref f14) = true)
    (i15 : PySem.W.isFn K (.ref f15) = true)
    (i16 : PySem.W.isFn K (.ref f16) = true)
    (i17 : PySem.W.isFn K (.ref f17) = true)
    (i18 : PySem.W.isFn K (.ref f18) = true)
    (i19 : PySem.W.isFn K (.ref f19) = true)
    (i20 : PySem.W.isFn K (.ref f20) = true)
    (i21 : PySem.W.isFn K (.ref f21) = true)
    (i22 : PySem.W.isFn K (.ref f22) = true)
    (n3_0 : PySem.W.findIn K (.ref C3) "_tokens" = some none)
    (n3_1 : PySem.W.findIn K (.ref C3) "_balances" = some none)
    (n3_2 : PySem.W.findIn K (.ref C3) "_guards" = some none)
    (n3_3 : PySem.W.findIn K (.ref C3) "_depth" = some none)
    (n3_4 : PySem.W.findIn K (.ref C3) "_window" = some none)
    (n3_5 : PySem.W.findIn K (.ref C3) "_delay" = some none)
    (n3_6 : PySem.W.findIn K (.ref C3) "_bundle" = some none)
    (q0 : PySem.W.nsIn K mainGlobals "ACCOUNT_LENGTH" = some (some (.int 20 tk0)))
    (q1 : PySem.W.nsIn K mainGlobals "BARRED_CODE" = some (some (.int 37 tk1)))
    (q2 : PySem.W.nsIn K mainGlobals "FIRST_CODE" = some (some (.int 32 tk2)))
    (q3 : PySem.W.nsIn K mainGlobals "LAST_CODE" = some (some (.int 126 tk3)))
    (q4 : PySem.W.nsIn K mainGlobals "MOST_IN_BUNDLE" = some (some (.int 8 tk4)))
    (q5 : PySem.W.nsIn K mainGlobals "SIDES" = some (some (.ref g5)))
    (r5 : K.lookup g5 = some ⟨.type "tuple", odg5, .seq itg5 ng5, slg5⟩)
    (v5 : ValsB [.str "west", .str "east"] itg5.toList = true)
    (q6 : PySem.W.nsIn K mainGlobals "TOKEN_LENGTH" = some (some (.int 12 tk6)))
    (z0 : PySem.W.nsIn K mainGlobals "abs" = some none)
    (z1 : PySem.W.nsIn K mainGlobals "all" = some none)
    (z2 : PySem.W.nsIn K mainGlobals "bool" = some none)
    (z3 : PySem.W.nsIn K mainGlobals "int" = some none)
    (z4 : PySem.W.nsIn K mainGlobals "isinstance" = some none)
    (z5 : PySem.W.nsIn K mainGlobals "len" = some none)
    (z6 : PySem.W.nsIn K mainGlobals "list" = some none)
    (z7 : PySem.W.nsIn K mainGlobals "ord" = some none)
    (z8 : PySem.W.nsIn K mainGlobals "range" = some none)
    (z9 : PySem.W.nsIn K mainGlobals "sorted" = some none)
    (z10 : PySem.W.nsIn K mainGlobals "str" = some none)
    (z11 : PySem.W.nsIn K mainGlobals "tuple" = some none) :
    ∃ fd : FuncData, (∀ (s : Shared) (v : Value), BindsTo s fd ⟨[v], []⟩ [("script", v)]) ∧ ∀ base : Heap, K.In base → base.Ns mainGlobals mg → FnOk l.prog w K mg base CX0 9 fa fd ["script"] (spLaw K) := by
  have e := hfa.symm.trans (PySem.W.mg_of X G a36)
  cases e
  exact ⟨PySem.W.fnOf "law" "law" (defArgs s_law) (defBody s_law) (defScope s_law) .none kV36 dc36 pm36 an36 cd36 ct36, fun s v => .of_eq rfl, fun base _ _ => ok_law (txt_mk X G a0 a1 a2 a3 a4 a5 a6 a7 a8 a9 a23 a24 a25 a26 a27 a28 a29 a30 a31 a32 a33 a34 a35 a36 aC0 aC1 aC2 aC3 m10 m11 m12 m13 m14 m15 m16 m17 m18 m19 m20 m21 m22 l0 c0 k0 l1 c1 k1 l2 c2 k2 l3 c3 k3 l4 c4 k4 l5 c5 k5 l6 c6 k6 l7 c7 k7 l8 c8 k8 l9 c9 k9 l10 c10 k10 kd10_0 kd10_1 kd10_2 kd10_3 l11 c11 k11 l12 c12 k12 l13 c13 k13 l14 c14 k14 l15 c15 k15 l16 c16 k16 l17 c17 k17 l18 c18 k18 l19 c19 k19 l20 c20 k20 l21 c21 k21 l22 c22 k22 l23 c23 k23 l24 c24 k24 l25 c25 k25 l26 c26 k26 l27 c27 k27 l28 c28 k28 l29 c29 k29 l30 c30 k30 l31 c31 k31 l32 c32 k32 l33 c33 k33 l34 c34 k34 rd34 vd34 l35 c35 k35 l36 c36 k36 xe0 ke0 be0 te0 ie0 se0 hd0 xe1 ke1 be1 te1 ie1 se1 hg1 hk1 hd1 ha1 hm1 hn1 ht1 ue1 xe2 ke2 be2 te2 ie2 se2 hg2 hk2 hd2 ha2 hm2 hn2 ht2 ue2 pg3 hd3 po3 sa3 mk3 kc3 i10 i11 i12 i13 i14 i15 i16 i17 i18 i19 i20 i21 i22 n3_0 n3_1 n3_2 n3_3 n3_4 n3_5 n3_6 q0 q1 q2 q3 q4 q5 r5 v5 q6 z0 z1 z2 z3 z4 z5 z6 z7 z8 z9 z10 z11)⟩
end Pf
open PySem PySem.W PyProof.Rows
set_option maxRecDepth 100000 in
set_option maxHeartbeats 0 in
theorem PySem.Challenge.cw_vaultbridge_k24_configuration_holds : PySem.Challenge.rw_vaultbridge_k24_configuration.Holds := by
  w_on; o_law; k_head; (case hw => w_witness2)
  k_fill
  refine L2.walk_of (l := PySem.Challenge.rw_vaultbridge_k24_configuration) (n := 63) (k := 9) (x := "script") (CX := fun _ => L2.CX0) (sp := fun w => Pf.spLaw _) rfl (by decide) rfl ⟨rfl, by decide, by decide⟩ (fun w h Y => PySem.W.kIn_of Y) ?F (fun _ _ a ns hl _ hS => ⟨a, ns, rfl, hS, hl, fun _ => rfl⟩) (fun _ _ _ _ _ h => h)
  case F =>
    intro w mg fa h KX G hmg
    refine' Pf.all_mk KX G hmg ?a0 ?a1 ?a2 ?a3 ?a4 ?a5 ?a6 ?a7 ?a8 ?a9 ?a23 ?a24 ?a25 ?a26 ?a27 ?a28 ?a29 ?a30 ?a31 ?a32 ?a33 ?a34 ?a35 ?a36 ?aC0 ?aC1 ?aC2 ?aC3 ?m10 ?m11 ?m12 ?m13 ?m14 ?m15 ?m16 ?m17 ?m18 ?m19 ?m20 ?m21 ?m22 ?l0 ?c0 ?k0 ?l1 ?c1 ?k1 ?l2 ?c2 ?k2 ?l3 ?c3 ?k3 ?l4 ?c4 ?k4 ?l5 ?c5 ?k5 ?l6 ?c6 ?k6 ?l7 ?c7 ?k7 ?l8 ?c8 ?k8 ?l9 ?c9 ?k9 ?l10 ?c10 ?k10 ?kd10_0 ?kd10_1 ?kd10_2 ?kd10_3 ?l11 ?c11 ?k11 ?l12 ?c12 ?k12 ?l13 ?c13 ?k13 ?l14 ?c14 ?k14 ?l15 ?c15 ?k15 ?l16 ?c16 ?k16 ?l17 ?c17 ?k17 ?l18 ?c18 ?k18 ?l19 ?c19 ?k19 ?l20 ?c20 ?k20 ?l21 ?c21 ?k21 ?l22 ?c22 ?k22 ?l23 ?c23 ?k23 ?l24 ?c24 ?k24 ?l25 ?c25 ?k25 ?l26 ?c26 ?k26 ?l27 ?c27 ?k27 ?l28 ?c28 ?k28 ?l29 ?c29 ?k29 ?l30 ?c30 ?k30 ?l31 ?c31 ?k31 ?l32 ?c32 ?k32 ?l33 ?c33 ?k33 ?l34 ?c34 ?k34 ?rd34 ?vd34 ?l35 ?c35 ?k35 ?l36 ?c36 ?k36 ?xe0 ?ke0 ?be0 ?te0 ?ie0 ?se0 ?hd0 ?xe1 ?ke1 ?be1 ?te1 ?ie1 ?se1 ?hg1 ?hk1 ?hd1 ?ha1 ?hm1 ?hn1 ?ht1 ?ue1 ?xe2 ?ke2 ?be2 ?te2 ?ie2 ?se2 ?hg2 ?hk2 ?hd2 ?ha2 ?hm2 ?hn2 ?ht2 ?ue2 ?pg3 ?hd3 ?po3 ?sa3 ?mk3 ?kc3 ?i10 ?i11 ?i12 ?i13 ?i14 ?i15 ?i16 ?i17 ?i18 ?i19 ?i20 ?i21 ?i22 ?n3_0 ?n3_1 ?n3_2 ?n3_3 ?n3_4 ?n3_5 ?n3_6 ?q0 ?q1 ?q2 ?q3 ?q4 ?q5 ?r5 ?v5 ?q6 ?z0 ?z1 ?z2 ?z3 ?z4 ?z5 ?z6 ?z7 ?z8 ?z9 ?z10 ?z11
    (case a0 => k_is)
    (case a1 => k_is)
    (case a2 => k_is)
    (case a3 => k_is)
    (case a4 => k_is)
    (case a5 => k_is)
    (case a6 => k_is)
    (case a7 => k_is)
    (case a8 => k_is)
    (case a9 => k_is)
    (case a23 => k_is)
    (case a24 => k_is)
    (case a25 => k_is)
    (case a26 => k_is)
    (case a27 => k_is)
    (case a28 => k_is)
    (case a29 => k_is)
    (case a30 => k_is)
    (case a31 => k_is)
    (case a32 => k_is)
    (case a33 => k_is)
    (case a34 => k_is)
    (case a35 => k_is)
    (case a36 => k_is)
    (case aC0 => k_is)
    (case aC1 => k_is)
    (case aC2 => k_is)
    (case aC3 => k_is)
    (case m10 => k_is)
    (case m11 => k_is)
    (case m12 => k_is)
    (case m13 => k_is)
    (case m14 => k_is)
    (case m15 => k_is)
    (case m16 => k_is)
    (case m17 => k_is)
    (case m18 => k_is)
    (case m19 => k_is)
    (case m20 => k_is)
    (case m21 => k_is)
    (case m22 => k_is)
    (case l0 => k_is)
    (case c0 => k_is)
    (case k0 => k_is)
    (case l1 => k_is)
    (case c1 => k_is)
    (case k1 => k_is)
    (case l2 => k_is)
    (case c2 => k_is)
    (case k2 => k_is)
    (case l3 => k_is)
    (case c3 => k_is)
    (case k3 => k_is)
    (case l4 => k_is)
    (case c4 => k_is)
    (case k4 => k_is)
    (case l5 => k_is)
    (case c5 => k_is)
    (case k5 => k_is)
    (case l6 => k_is)
    (case c6 => k_is)
    (case k6 => k_is)
    (case l7 => k_is)
    (case c7 => k_is)
    (case k7 => k_is)
    (case l8 => k_is)
    (case c8 => k_is)
    (case k8 => k_is)
    (case l9 => k_is)
    (case c9 => k_is)
    (case k9 => k_is)
    (case l10 => k_is)
    (case c10 => k_is)
    (case k10 => k_is)
    (case kd10_0 => k_is)
    (case kd10_1 => k_is)
    (case kd10_2 => k_is)
    (case kd10_3 => k_is)
    (case l11 => k_is)
    (case c11 => k_is)
    (case k11 => k_is)
    (case l12 => k_is)
    (case c12 => k_is)
    (case k12 => k_is)
    (case l13 => k_is)
    (case c13 => k_is)
    (case k13 => k_is)
    (case l14 => k_is)
    (case c14 => k_is)
    (case k14 => k_is)
    (case l15 => k_is)
    (case c15 => k_is)
    (case k15 => k_is)
    (case l16 => k_is)
    (case c16 => k_is)
    (case k16 => k_is)
    (case l17 => k_is)
    (case c17 => k_is)
    (case k17 => k_is)
    (case l18 => k_is)
    (case c18 => k_is)
    (case k18 => k_is)
    (case l19 => k_is)
    (case c19 => k_is)
    (case k19 => k_is)
    (case l20 => k_is)
    (case c20 => k_is)
    (case k20 => k_is)
    (case l21 => k_is)
    (case c21 => k_is)
    (case k21 => k_is)
    (case l22 => k_is)
    (case c22 => k_is)
    (case k22 => k_is)
    (case l23 => k_is)
    (case c23 => k_is)
    (case k23 => k_is)
    (case l24 => k_is)
    (case c24 => k_is)
    (case k24 => k_is)
    (case l25 => k_is)
    (case c25 => k_is)
    (case k25 => k_is)
    (case l26 => k_is)
    (case c26 => k_is)
    (case k26 => k_is)
    (case l27 => k_is)
    (case c27 => k_is)
    (case k27 => k_is)
    (case l28 => k_is)
    (case c28 => k_is)
    (case k28 => k_is)
    (case l29 => k_is)
    (case c29 => k_is)
    (case k29 => k_is)
    (case l30 => k_is)
    (case c30 => k_is)
    (case k30 => k_is)
    (case l31 => k_is)
    (case c31 => k_is)
    (case k31 => k_is)
    (case l32 => k_is)
    (case c32 => k_is)
    (case k32 => k_is)
    (case l33 => k_is)
    (case c33 => k_is)
    (case k33 => k_is)
    (case l34 => k_is)
    (case c34 => k_is)
    (case k34 => k_is)
    (case rd34 => k_is)
    (case vd34 => decide +kernel)
    (case l35 => k_is)
    (case c35 => k_is)
    (case k35 => k_is)
    (case l36 => k_is)
    (case c36 => k_is)
    (case k36 => k_is)
    (case xe0 => k_exc)
    (case ke0 => k_is)
    (case be0 => k_is)
    (case te0 => k_is)
    (case ie0 => k_is)
    (case se0 => k_is)
    (case hd0 => k_is)
    (case xe1 => k_exc)
    (case ke1 => k_is)
    (case be1 => k_is)
    (case te1 => k_is)
    (case ie1 => k_is)
    (case se1 => k_is)
    (case hg1 => k_is)
    (case hk1 => k_is)
    (case hd1 => k_is)
    (case ha1 => k_is)
    (case hm1 => k_is)
    (case hn1 => k_is)
    (case ht1 => k_is)
    (case ue1 => k_is)
    (case xe2 => k_exc)
    (case ke2 => k_is)
    (case be2 => k_is)
    (case te2 => k_is)
    (case ie2 => k_is)
    (case se2 => k_is)
    (case hg2 => k_is)
    (case hk2 => k_is)
    (case hd2 => k_is)
    (case ha2 => k_is)
    (case hm2 => k_is)
    (case hn2 => k_is)
    (case ht2 => k_is)
    (case ue2 => k_is)
    (case pg3 => k_is)
    (case hd3 => k_is)
    (case po3 => k_is)
    (case sa3 => k_is)
    (case mk3 => k_is)
    (case kc3 => k_is)
    (case i10 => k_is)
    (case i11 => k_is)
    (case i12 => k_is)
    (case i13 => k_is)
    (case i14 => k_is)
    (case i15 => k_is)
    (case i16 => k_is)
    (case i17 => k_is)
    (case i18 => k_is)
    (case i19 => k_is)
    (case i20 => k_is)
    (case i21 => k_is)
    (case i22 => k_is)
    (case n3_0 => k_is)
    (case n3_1 => k_is)
    (case n3_2 => k_is)
    (case n3_3 => k_is)
    (case n3_4 => k_is)
    (case n3_5 => k_is)
    (case n3_6 => k_is)
    (case q0 => k_is)
    (case q1 => k_is)
    (case q2 => k_is)
    (case q3 => k_is)
    (case q4 => k_is)
    (case q5 => k_is)
    (case r5 => k_is)
    (case v5 => decide +kernel)
    (case q6 => k_is)
    (case z0 => k_is)
    (case z1 => k_is)
    (case z2 => k_is)
    (case z3 => k_is)
    (case z4 => k_is)
    (case z5 => k_is)
    (case z6 => k_is)
    (case z7 => k_is)
    (case z8 => k_is)
    (case z9 => k_is)
    (case z10 => k_is)
    (case z11 => k_is)
