
import PyProof.Rows.All
import HandS.WordsExc
import HandS.SetKeys
import HandS.Flow
import HandS.ExcIs
import HandS.Sort
import HandS.Wide
import HandS.NoneIn
import HandS.Walk
import HandS.Text
import HandS.Rev
import HandS.FStr
import HandS.WideBits
import PyProof.SumWalkG
import KE.KeyNested
import HandS.Remove
import HandS.ReplaceDef
import Wide.All
import OpenK.AllK
import Wide.FinOn
import HandS.ForMost
import HandS.TupAny
import HandS.Deep
import HandS.IsInst
import HandS.Style
import HandS.Steps
import HandS.Evl
import HandS.Defaults
import HandS.MakeKwOnly
import PySem.Challenge.RW_vaultbridge_k21_one_set_for_each_epoch
set_option Elab.async false
set_option linter.all false
set_option maxRecDepth 100000
set_option maxHeartbeats 1000000
namespace Pf
open PySem PySem.Spec PyProof.Rows L2


/-! readings, one step a lemma -/
section
open PySem PySem.Spec PyProof.Rows L2
variable {K : PySem.W.Frag} {σ : L2.St} {H H1 H' : Hp} {Q : VK} {D : Ends} {t u : TS} {ta tb tc te : TE} {tt tu : TT} {tr : TA} {g : TG} {v x y : V} {i j : Int} {a b p l : Addr} {xs ys : List V} {o : HO}

/-! heaps -/
theorem upd_new {c : Addr} {w : HO} (hb : H b = none) (h : H c = some o) : upd H b w c = some o := by
  rw [upd_ne (ne_of_none h hb)]; exact h
theorem upd_other {c : Addr} {w : HO} (hb : c ≠ b) (h : H c = some o) : upd H b w c = some o := by
  rw [upd_ne hb]; exact h
theorem upd_free {c : Addr} {w : HO} (hb : c ≠ b) (h : H c = none) : upd H b w c = none := by
  rw [upd_ne hb]; exact h
theorem upd_none_ne {c : Addr} {w : HO} (h : upd H b w c = none) : c ≠ b := fun e => by rw [e, upd_same] at h; cases h
theorem upd_none_back {c : Addr} {w : HO} (h : upd H b w c = none) : H c = none := by rw [upd_ne (upd_none_ne h)] at h; exact h
/-- everything but p stays -/
def Kp (p : Addr) (H H' : Hp) : Prop := ∀ b o, H b = some o → b ≠ p → H' b = some o
theorem Kp.get {c : Addr} (k : Kp p H H') (h : H c = some o) (n : c ≠ p) : H' c = some o := k c o h n
theorem Kp.refl : Kp p H H := fun _ _ h _ => h
theorem Kp.trans (k : Kp p H H1) (k2 : Kp p H1 H') : Kp p H H' := fun b o h n => k2 b o (k b o h n) n
theorem Kp.upd {w : HO} (k : Kp p H H') : Kp p H (upd H' p w) := fun b o h n => upd_other n (k b o h n)
theorem Kp.new {w : HO} (k : Kp p H H') (h : H a = none) : Kp p H (L2.upd H' a w) := fun b o hb n => upd_other (ne_of_none hb h) (k b o hb n)
theorem Kp.fresh (k : Kp p H H') (hp : H p = some o) (h : H' a = none) (n : a ≠ p) : H a = none := by
  cases q : H a with
  | none => rfl
  | some w => rw [k a w q n] at h; cases h
theorem Same.get {c : Addr} (k : Same H H') (h : H c = some o) : H' c = some o := k c o h
theorem Same.new {w : HO} (k : Same H H') (h : H a = none) : Same H (L2.upd H' a w) := fun b o hb => upd_other (ne_of_none hb h) (k b o hb)
theorem Same.up {w : HO} (k : Same H H') (h : H' a = none) : Same H (L2.upd H' a w) := Same.new k (Same.free k h)
theorem Same.kp (k : Same H H') : Kp p H H' := fun b o h _ => k b o h
theorem sqL (h : H a = some (.lst xs)) : SqL K H a xs := .inl (.inl h)
theorem sqT (h : H a = some (.tup xs)) : SqT K H a xs := .inl (.inl h)

/-- a tuple of the written part -/
def SqTK (K : PySem.W.Frag) (a : Addr) (xs : List V) : Prop := ∃ (o : Obj) (its : Array Value) (n : Nat), K.lookup a = some o ∧ o.cls = .type "tuple" ∧ o.data = .seq its n ∧ its.size ≤ sizeLine ∧ Vals xs its.toList
theorem SqTK.sq {xs : List V} (h : SqTK K a xs) : SqT K H a xs := .inr h
def relB : V → Value → Bool
  | .str x, .str z _ => decide (x = z)
  | .int i, .int k _ => decide (i = k)
  | _, _ => false
theorem relB_rel : ∀ {x : V} {u : Value}, relB x u = true → RelV x u := by
  intro x u h
  cases x <;> cases u <;> first | (cases h; done) | skip
  · have e := of_decide_eq_true h
    subst e
    exact ⟨_, rfl⟩
  · have e := of_decide_eq_true h
    subst e
    exact ⟨_, rfl⟩
def ValsB : List V → List Value → Bool
  | [], [] => true
  | x :: xs, u :: us => relB x u && ValsB xs us
  | _, _ => false
theorem ValsB.vals : ∀ {xs : List V} {us : List Value}, ValsB xs us = true → Vals xs us
  | [], [], _ => .nil
  | [], _ :: _, h => by cases h
  | _ :: _, [], h => by cases h
  | x :: xs, u :: us, h => by
    have h : (relB x u && ValsB xs us) = true := h
    rw [Bool.and_eq_true] at h
    exact .cons (relB_rel h.1) (ValsB.vals h.2)
theorem ValsB.size {xs : List V} {its : Array Value} (h : ValsB xs its.toList = true) (hl : xs.length ≤ sizeLine) : its.size ≤ sizeLine := by
  have e := (ValsB.vals h).length
  have : its.toList.length = its.size := rfl
  omega
theorem hr65 {A : Around} {k : Nat} (hr : Room k A) : A.units + 65 < cLine := by have := hr.un; omega
theorem Same.sqT {xs : List V} (e : Same H H') (h : SqT K H a xs) : SqT K H' a xs := by
  rcases h with (h | ⟨o, h⟩) | h
  · exact .inl (.inl (e _ _ h))
  · exact .inl (.inr ⟨o, e _ _ h⟩)
  · exact .inr h
/-! statements -/
theorem q_seq (h : t { D with nx := u D } σ H) : tSeq t u D σ H := h
theorem q_next (h : D.nx σ H) : tNext D σ H := h
theorem q_brk (h : D.bk σ H) : tBreak D σ H := h
theorem q_ct (h : D.ct σ H) : tCont D σ H := h
theorem q_nx {f : L2.St → Hp → Prop} {r : VK} {b c : L2.St → Hp → Prop} (h : f σ H) : Ends.nx ⟨f, r, b, c⟩ σ H := h
theorem q_bk {f : L2.St → Hp → Prop} {r : VK} {b c : L2.St → Hp → Prop} (h : b σ H) : Ends.bk ⟨f, r, b, c⟩ σ H := h
theorem q_cn {f : L2.St → Hp → Prop} {r : VK} {b c : L2.St → Hp → Prop} (h : c σ H) : Ends.ct ⟨f, r, b, c⟩ σ H := h
theorem q_rt {f : L2.St → Hp → Prop} {r : VK} {b c : L2.St → Hp → Prop} (h : r v H) : Ends.rt ⟨f, r, b, c⟩ v H := h
theorem q_drop (h : te σ H fun _ H1 => D.nx σ H1) : tDrop te D σ H := h
theorem q_ret (h : te σ H D.rt) : tRet te D σ H := h
theorem q_retN (h : D.rt .non H) : tRetN D σ H := h
def ifK (D : Ends) (t u : TS) (σ : L2.St) : Bool → Hp → Prop := fun b H => if b = true then t D σ H else u D σ H
theorem q_ifS (h : tt σ H (ifK D t u σ)) : tIfS tt t u D σ H := h
theorem q_ifT (h : t D σ H) : ifK D t u σ true H := iteT h
theorem q_ifF (h : u D σ H) : ifK D t u σ false H := iteF h
theorem q_if2 {c : Bool} (h : c = true → t D σ H) (h2 : c = false → u D σ H) : ifK D t u σ c H := by
  cases c with
  | true => exact iteT (h rfl)
  | false => exact iteF (h2 rfl)
theorem q_asg (h : te σ H fun x H1 => g x σ H1 D.nx) : tAsg te g D σ H := h
theorem q_gName {n : Nat} {R : L2.St → Hp → Prop} (h : R (σ.set n (some v)) H) : gName n v σ H R := h
theorem q_gTup {n : Nat} {tg : TGs} {R : L2.St → Hp → Prop} (h : SqT K H a xs) (hn : xs.length = n) (k : tg xs σ H R) : gTup K n tg (.ref a) σ H R := ⟨a, xs, rfl, h, hn, k⟩
theorem q_gCons {tg : TGs} {R : L2.St → Hp → Prop} (k : g v σ H fun σ' H' => tg xs σ' H' R) : gCons g tg (v :: xs) σ H R := ⟨v, xs, rfl, k⟩
theorem q_gNil {R : L2.St → Hp → Prop} (k : R σ H) : gNil [] σ H R := ⟨rfl, k⟩
theorem q_gSub {to ti : TE} {ts : TSet} {R : L2.St → Hp → Prop} (k : to σ H fun o H1 => ti σ H1 fun i H2 => ts o i v H2 fun H3 => R σ H3) : gSub to ti ts v σ H R := k
theorem q_setL {R : Hp → Prop} {n : Nat} (h : H p = some (.lst xs)) (hi : ixN xs.length i = some n) (k : R (upd H p (.lst (xs.set n v)))) : rSetL (.ref p) (.int i) v H R := ⟨p, xs, i, n, rfl, rfl, h, hi, k⟩
theorem q_aug {n : Nat} {ti : TIp} (hx : σ[n]? = some (some x)) (h : te σ H fun y H1 => ti x y H1 fun z H2 => D.nx (σ.set n (some z)) H2) : tAug n te ti D σ H := ⟨x, hx, h⟩
theorem q_ipI {f : Int → Int → Int} (k : Q (.int (f i j)) H) : ipI f (.int i) (.int j) H Q := ⟨i, j, rfl, rfl, k⟩
theorem q_cut {Mid : L2.St → Hp → Prop} (h : t { D with nx := Mid } σ H) (k : ∀ σ' H', Mid σ' H' → u D σ' H') : Evl.tCut t u D σ H := ⟨Mid, h, k⟩
theorem dec_t {c : Prop} [Decidable c] (h : decide c = true) : c := of_decide_eq_true h
theorem dec_f {c : Prop} [Decidable c] (h : decide c = false) : ¬ c := of_decide_eq_false h
theorem ndec_t {c : Prop} [Decidable c] (h : (!decide c) = true) : ¬ c := fun q => by rw [decide_eq_true q] at h; cases h
theorem ndec_f {c : Prop} [Decidable c] (h : (!decide c) = false) : c := by
  by_cases q : c
  · exact q
  · rw [decide_eq_false q] at h; cases h
def forK (g : TG) (tb : TS) (D : Ends) (σ : L2.St) : It → Hp → Prop := fun J H1 => ∃ W : Nat → Nat → L2.St → Hp → Prop, (∃ m, W 0 m σ H1) ∧ ∀ i m σ H, W i m σ H →
  (J.stop i H ∧ D.nx σ H) ∨ (J.go i H ∧ ∃ N : L2.St → Hp → Prop, (∀ σ' H', N σ' H' → ∃ m', m' < m ∧ W (i + 1) m' σ' H') ∧ ∀ x H', J.yld i H x H' → g x σ H' fun σ2 H2 => tb { D with nx := N, ct := N, bk := D.nx } σ2 H2)
theorem q_for {wi : TI} (h : wi σ H (forK g t D σ)) : tFor wi g t D σ H := h
theorem q_iList {R : It → Hp → Prop} (h : te σ H fun x H1 => ∃ a, x = .ref a ∧ (∃ xs, SqL K H1 a xs) ∧ R (Itl K a) H1) : iList K te σ H R := h
theorem q_iTup {R : It → Hp → Prop} (h : te σ H fun x H1 => ∃ a, x = .ref a ∧ (∃ xs, SqT K H1 a xs) ∧ R (Itt K a) H1) : iTup K te σ H R := h
theorem q_forL {S : List V} (h : SqL K H a S) (Pv : Nat → L2.St → Hp → Prop) (h0 : Pv 0 σ H) (hl : ∀ i σ H, i ≤ S.length → Pv i σ H → SqL K H a S)
    (hs : ∀ i x σ H, S[i]? = some x → Pv i σ H → g x σ H fun σ2 H2 => t { D with nx := Pv (i + 1), ct := Pv (i + 1), bk := D.nx } σ2 H2) (hd : ∀ σ H, Pv S.length σ H → D.nx σ H) :
    ∃ b, V.ref a = .ref b ∧ (∃ xs, SqL K H b xs) ∧ forK g t D σ (Itl K b) H := ⟨a, rfl, ⟨S, h⟩, for_list Pv h0 hl hs hd⟩
theorem q_forT {S : List V} (h : SqT K H a S) (Pv : Nat → L2.St → Hp → Prop) (h0 : Pv 0 σ H) (hl : ∀ i σ H, i ≤ S.length → Pv i σ H → SqT K H a S)
    (hs : ∀ i x σ H, S[i]? = some x → Pv i σ H → g x σ H fun σ2 H2 => t { D with nx := Pv (i + 1), ct := Pv (i + 1), bk := D.nx } σ2 H2) (hd : ∀ σ H, Pv S.length σ H → D.nx σ H) :
    ∃ b, V.ref a = .ref b ∧ (∃ xs, SqT K H b xs) ∧ forK g t D σ (Itt K b) H := ⟨a, rfl, ⟨S, h⟩, for_tup Pv h0 hl hs hd⟩
def rg1K (R : It → Hp → Prop) : List V → Hp → Prop := fun vs H1 => ∃ j : Int, vs = [.int j] ∧ -(2 ^ 62) ≤ j ∧ j < 2 ^ 62 ∧ R (Itr 0 j.toNat) H1
theorem q_iRng1 {R : It → Hp → Prop} (h : tr σ H (rg1K R)) : iRng1 tr σ H R := h
theorem q_forR (hj : 0 ≤ j ∧ j < 1000000000000000) (Pv : Nat → L2.St → Hp → Prop) (h0 : Pv 0 σ H)
    (hs : ∀ (i : Nat) σ H, (i : Int) < j → Pv i σ H → g (.int i) σ H fun σ2 H2 => t { D with nx := Pv (i + 1), ct := Pv (i + 1), bk := D.nx } σ2 H2) (hd : ∀ σ H, Pv j.toNat σ H → D.nx σ H) :
    rg1K (forK g t D σ) [.int j] H := ⟨j, rfl, by omega, by omega, for_range Pv h0 (fun i σ H hi hp => by have e : (0 : Int) + (i : Int) = (i : Int) := Int.zero_add _; rw [e]; exact hs i σ H (by omega) hp) hd⟩

/-! tests and values -/
def bK (Q : Bool → Hp → Prop) : VK := fun x H => ∃ k, x = .bl k ∧ Q k H
theorem q_test {R : Bool → Hp → Prop} (h : te σ H (bK R)) : tTest te σ H R := h
theorem q_tB {R : Bool → Hp → Prop} (h : te σ H (bK R)) : tB te σ H R := h
theorem q_bK {R : Bool → Hp → Prop} {c : Bool} (k : R c H) : bK R (.bl c) H := ⟨c, rfl, k⟩
def andK (u : TT) (σ : L2.St) (R : Bool → Hp → Prop) : Bool → Hp → Prop := fun c H1 => if c = true then u σ H1 R else R false H1
def orK (u : TT) (σ : L2.St) (R : Bool → Hp → Prop) : Bool → Hp → Prop := fun c H1 => if c = true then R true H1 else u σ H1 R
theorem q_and {R : Bool → Hp → Prop} (h : tt σ H (andK tu σ R)) : tAnd tt tu σ H R := h
theorem q_or {R : Bool → Hp → Prop} (h : tt σ H (orK tu σ R)) : tOr tt tu σ H R := h
theorem q_andT {R : Bool → Hp → Prop} (h : tu σ H R) : andK tu σ R true H := iteT h
theorem q_andF {R : Bool → Hp → Prop} (h : R false H) : andK tu σ R false H := iteF h
theorem q_orT {R : Bool → Hp → Prop} (h : R true H) : orK tu σ R true H := iteT h
theorem q_orF {R : Bool → Hp → Prop} (h : tu σ H R) : orK tu σ R false H := iteF h
theorem q_and2 {R : Bool → Hp → Prop} {c : Bool} (h : c = true → tu σ H R) (h2 : c = false → R false H) : andK tu σ R c H := by
  cases c with
  | true => exact iteT (h rfl)
  | false => exact iteF (h2 rfl)
theorem q_or2 {R : Bool → Hp → Prop} {c : Bool} (h : c = true → R true H) (h2 : c = false → tu σ H R) : orK tu σ R c H := by
  cases c with
  | true => exact iteT (h rfl)
  | false => exact iteF (h2 rfl)
def notK (R : Bool → Hp → Prop) : Bool → Hp → Prop := fun c H1 => R (!c) H1
theorem q_not {R : Bool → Hp → Prop} (h : tt σ H (notK R)) : tNot tt σ H R := h
theorem q_notKT {R : Bool → Hp → Prop} (h : R false H) : notK R true H := h
theorem q_notKF {R : Bool → Hp → Prop} (h : R true H) : notK R false H := h
theorem q_notK {R : Bool → Hp → Prop} {c : Bool} (h : R (!c) H) : notK R c H := h
def andVK (tb : TE) (σ : L2.St) (Q : VK) : VK := fun x H1 => ∃ c, x = .bl c ∧ if c = true then tb σ H1 Q else Q (.bl false) H1
def orVK (tb : TE) (σ : L2.St) (Q : VK) : VK := fun x H1 => ∃ c, x = .bl c ∧ if c = true then Q (.bl true) H1 else tb σ H1 Q
theorem q_andV (h : ta σ H (andVK tb σ Q)) : tAndV ta tb σ H Q := h
theorem q_orV (h : ta σ H (orVK tb σ Q)) : tOrV ta tb σ H Q := h
theorem q_andVT (h : tb σ H Q) : andVK tb σ Q (.bl true) H := ⟨true, rfl, iteT h⟩
theorem q_andVF (h : Q (.bl false) H) : andVK tb σ Q (.bl false) H := ⟨false, rfl, iteF h⟩
theorem q_orVT (h : Q (.bl true) H) : orVK tb σ Q (.bl true) H := ⟨true, rfl, iteT h⟩
theorem q_orVF (h : tb σ H Q) : orVK tb σ Q (.bl false) H := ⟨false, rfl, iteF h⟩
theorem q_andV2 {c : Bool} (h : c = true → tb σ H Q) (h2 : c = false → Q (.bl false) H) : andVK tb σ Q (.bl c) H := by
  cases c with
  | true => exact q_andVT (h rfl)
  | false => exact q_andVF (h2 rfl)
theorem q_orV2 {c : Bool} (h : c = true → Q (.bl true) H) (h2 : c = false → tb σ H Q) : orVK tb σ Q (.bl c) H := by
  cases c with
  | true => exact q_orVT (h rfl)
  | false => exact q_orVF (h2 rfl)
def notVK (Q : VK) : VK := fun x H1 => ∃ c, x = .bl c ∧ Q (.bl (!c)) H1
theorem q_notV (h : ta σ H (notVK Q)) : tNotV ta σ H Q := h
theorem q_notVK {c : Bool} (k : Q (.bl (!c)) H) : notVK Q (.bl c) H := ⟨c, rfl, k⟩
def ifEK (ta tb : TE) (σ : L2.St) (Q : VK) : Bool → Hp → Prop := fun c H1 => if c = true then ta σ H1 Q else tb σ H1 Q
theorem q_ifE (h : tt σ H (ifEK ta tb σ Q)) : tIf tt ta tb σ H Q := h
theorem q_ifET (h : ta σ H Q) : ifEK ta tb σ Q true H := iteT h
theorem q_ifEF (h : tb σ H Q) : ifEK ta tb σ Q false H := iteF h
theorem q_ifE2 {c : Bool} (h : c = true → ta σ H Q) (h2 : c = false → tb σ H Q) : ifEK ta tb σ Q c H := by
  cases c with
  | true => exact iteT (h rfl)
  | false => exact iteF (h2 rfl)
theorem q_yes {R : Bool → Hp → Prop} (k : R true H) : tYes σ H R := k
theorem q_var {n : Nat} (h : σ[n]? = some (some v)) (k : Q v H) : tVar n σ H Q := ⟨v, h, k⟩
theorem q_c (k : Q v H) : tC v σ H Q := k
theorem q_op {r : R2} (h : ta σ H fun x H1 => tb σ H1 fun y H2 => r x y H2 Q) : tOp r ta tb σ H Q := h
theorem q_un {r : V → Hp → VK → Prop} (h : ta σ H fun x H1 => r x H1 Q) : tUn r ta σ H Q := h
theorem q_rU {f : Int → V} (k : Q (f i) H) : rU f (.int i) H Q := ⟨i, rfl, k⟩
theorem q_I0 {f : Int → Int → V} (k : Q (f i j) H) : rI0 f (.int i) (.int j) H Q := ⟨i, j, rfl, rfl, k⟩
theorem q_I {C : Int → Int → Prop} {f : Int → Int → V} (hc : C i j) (k : Q (f i j) H) : rI C f (.int i) (.int j) H Q := ⟨i, j, rfl, rfl, hc, k⟩
theorem q_eq (hs : scal x y = true) (k : Q (.bl (decide (x = y))) H) : rEq x y H Q := ⟨hs, k⟩
theorem q_ne (hs : scal x y = true) (k : Q (.bl (!decide (x = y))) H) : rNe x y H Q := ⟨hs, k⟩
theorem dec_int (i j : Int) : decide (V.int i = V.int j) = decide (i = j) := by
  by_cases h : i = j
  · subst h; simp
  · rw [decide_eq_false h, decide_eq_false (fun e => h (V.int.inj e))]
theorem q_eqI (k : Q (.bl (decide (i = j))) H) : rEq (.int i) (.int j) H Q := ⟨rfl, by rw [dec_int]; exact k⟩
theorem q_neI (k : Q (.bl (!decide (i = j))) H) : rNe (.int i) (.int j) H Q := ⟨rfl, by rw [dec_int]; exact k⟩
theorem dec_str (i j : Str) : decide (V.str i = V.str j) = decide (i = j) := by
  by_cases h : i = j
  · subst h; simp
  · rw [decide_eq_false h, decide_eq_false (fun e => h (V.str.inj e))]
theorem q_eqS {s z : Str} (k : Q (.bl (decide (s = z))) H) : rEq (.str s) (.str z) H Q := ⟨rfl, by rw [dec_str]; exact k⟩
theorem q_neS {s z : Str} (k : Q (.bl (!decide (s = z))) H) : rNe (.str s) (.str z) H Q := ⟨rfl, by rw [dec_str]; exact k⟩
theorem q_ixL (h : SqL K H p xs) (ha : atI xs i = some v) (k : Q v H) : rIxL K (.ref p) (.int i) H Q := ⟨p, xs, i, v, rfl, rfl, h, ha, k⟩
theorem q_ixT (h : SqT K H p xs) (ha : atI xs i = some v) (k : Q v H) : rIxT K (.ref p) (.int i) H Q := ⟨p, xs, i, v, rfl, rfl, h, ha, k⟩
theorem q_ixLt (h : H p = some (.lst xs)) (ha : atI xs i = some v) (k : Q v H) : rIxL K (.ref p) (.int i) H Q := q_ixL (sqL h) ha k
theorem q_ixTt (h : H p = some (.tup xs)) (ha : atI xs i = some v) (k : Q v H) : rIxT K (.ref p) (.int i) H Q := q_ixT (sqT h) ha k
theorem q_ixSL (h : SqL K H p xs) (ha : atI xs i = some v) (k : Q v H) : rIx K (.ref p) (.int i) H Q := .inl ⟨p, xs, i, v, rfl, rfl, h, ha, k⟩
theorem q_ixST (h : SqT K H p xs) (ha : atI xs i = some v) (k : Q v H) : rIx K (.ref p) (.int i) H Q := .inr (.inl ⟨p, xs, i, v, rfl, rfl, h, ha, k⟩)
theorem at_int {α : Type} {xs : List α} {i : Int} {x : α} {n : Nat} (e : i = (n : Int)) (h : xs[n]? = some x) : atI xs i = some x := by rw [e]; exact atI_nat h
theorem q_tNil {R : List V → Hp → Prop} (k : R [] H) : tNil σ H R := k
theorem q_tCons {R : List V → Hp → Prop} (h : ta σ H fun x H1 => tr σ H1 fun xs H2 => R (x :: xs) H2) : tCons ta tr σ H R := h
def tupK (Q : VK) : List V → Hp → Prop := fun xs H1 => xs.length ≤ sizeLine ∧ ∀ p, H1 p = none → Q (.ref p) (upd H1 p (.tup xs))
def lstK (Q : VK) : List V → Hp → Prop := fun xs H1 => xs.length ≤ sizeLine ∧ ∀ p, H1 p = none → Q (.ref p) (upd H1 p (.lst xs))
theorem q_tup (h : tr σ H (tupK Q)) : tTup tr σ H Q := h
theorem q_lst (h : tr σ H (lstK Q)) : tLst tr σ H Q := h
theorem q_tupK (hl : xs.length ≤ sizeLine) (k : ∀ p, H p = none → Q (.ref p) (upd H p (.tup xs))) : tupK Q xs H := ⟨hl, k⟩
theorem q_lstK (hl : xs.length ≤ sizeLine) (k : ∀ p, H p = none → Q (.ref p) (upd H p (.lst xs))) : lstK Q xs H := ⟨hl, k⟩
theorem q_cb {r : List V → Hp → VK → Prop} (h : tr σ H fun vs H1 => r vs H1 Q) : tCB r tr σ H Q := h
def callK (sp : Sp) (dvs : List V) (E : XK) (Q : VK) : List V → Hp → Prop := fun vs H1 => sp (vs ++ dvs) H1 Q E
theorem q_call {sp : Sp} {dvs : List V} {E : XK} (h : tr σ H (callK sp dvs E Q)) : tCall sp dvs E tr σ H Q := h
theorem q_callK {sp : Sp} {E : XK} (h : sp xs H Q E) : callK sp [] E Q xs H := by unfold callK; rw [List.append_nil]; exact h

/-! built-ins, by names of our own -/
def rLenQ (K : PySem.W.Frag) : List V → Hp → VK → Prop := fun xs H Q => ∃ p ys, xs = [.ref p] ∧ (SqL K H p ys ∨ SqT K H p ys) ∧ Q (.int ys.length) H
theorem cq_len {X : Cx} : CallR X (.builtin "len") (rLenQ X.K) := call_len_seq
theorem q_lenL (h : SqL K H p xs) (k : Q (.int xs.length) H) : rLenQ K [.ref p] H Q := ⟨p, xs, rfl, .inl h, k⟩
theorem q_lenT (h : SqT K H p xs) (k : Q (.int xs.length) H) : rLenQ K [.ref p] H Q := ⟨p, xs, rfl, .inr h, k⟩
theorem q_lenLt (h : H p = some (.lst xs)) (k : Q (.int xs.length) H) : rLenQ K [.ref p] H Q := q_lenL (sqL h) k
theorem q_lenTt (h : H p = some (.tup xs)) (k : Q (.int xs.length) H) : rLenQ K [.ref p] H Q := q_lenT (sqT h) k
def rLenD : List V → Hp → VK → Prop := fun xs H Q => ∃ a kvs, xs = [V.ref a] ∧ H a = some (.dK kvs) ∧ Q (.int kvs.length) H
def rLenS : List V → Hp → VK → Prop := fun xs H Q => ∃ x : Str, xs = [.str x] ∧ x.length ≤ sizeLine ∧ Q (.int x.length) H
theorem cq_lenS {X : Cx} : CallR X (.builtin "len") rLenS := by
  intro pins s σ H xs us Q I r h
  obtain ⟨x, e, hl, q⟩ := h
  exact call_len pins s σ H xs us Q I r ⟨.str x, x.length, e, ⟨hl, rfl⟩, q⟩
theorem q_lenS {x : Str} (hl : x.length ≤ sizeLine) (k : Q (.int x.length) H) : rLenS [.str x] H Q := ⟨x, rfl, hl, k⟩
def rAbs : List V → Hp → VK → Prop := fun xs H Q => ∃ i, xs = [.int i] ∧ Q (.int (if i < 0 then -i else i)) H
theorem cq_abs {X : Cx} : CallR X (.builtin "abs") rAbs := call_abs
theorem q_abs (k : Q (.int (if i < 0 then -i else i)) H) : rAbs [.int i] H Q := ⟨i, rfl, k⟩
def rInt1 : List V → Hp → VK → Prop := fun xs H Q => (∃ i, xs = [.int i] ∧ Q (.int i) H) ∨ ∃ k, xs = [.bl k] ∧ Q (.int (if k then 1 else 0)) H
theorem cq_int1 {X : Cx} : CallR X (.type "int") rInt1 := call_int1
theorem q_int1 (k : Q (.int i) H) : rInt1 [.int i] H Q := .inl ⟨i, rfl, k⟩
def rStrInt : List V → Hp → VK → Prop := fun xs H Q => ∃ i, xs = [.int i] ∧ i.natAbs.log2 < 1920 ∧ Q (.str (toString i)) H
theorem cq_strInt {X : Cx} : CallR X (.type "str") rStrInt := call_str_int
theorem q_strInt (hb : i.natAbs.log2 < 1920) (k : Q (.str (toString i)) H) : rStrInt [.int i] H Q := ⟨i, rfl, hb, k⟩
def rListOf (K : PySem.W.Frag) : List V → Hp → VK → Prop := fun xs H Q => ∃ p ys, xs = [.ref p] ∧ (SqL K H p ys ∨ SqT K H p ys) ∧ ∀ l, H l = none → Q (.ref l) (upd H l (.lst ys))
theorem cq_listOf {X : Cx} : CallR X (.type "list") (rListOf X.K) := call_list_of
theorem q_listL (h : SqL K H p xs) (k : ∀ l, H l = none → Q (.ref l) (upd H l (.lst xs))) : rListOf K [.ref p] H Q := ⟨p, xs, rfl, .inl h, k⟩
theorem q_listT (h : SqT K H p xs) (k : ∀ l, H l = none → Q (.ref l) (upd H l (.lst xs))) : rListOf K [.ref p] H Q := ⟨p, xs, rfl, .inr h, k⟩
def rTupOf (K : PySem.W.Frag) : List V → Hp → VK → Prop := fun xs H Q => ∃ p ys, xs = [.ref p] ∧ ((SqL K H p ys ∧ ∀ l, H l = none → Q (.ref l) (upd H l (.tup ys))) ∨ (SqT K H p ys ∧ Q (.ref p) H))
theorem cq_tupOf {X : Cx} : CallR X (.type "tuple") (rTupOf X.K) := call_tuple_of
theorem q_tupL (h : SqL K H p xs) (k : ∀ l, H l = none → Q (.ref l) (upd H l (.tup xs))) : rTupOf K [.ref p] H Q := ⟨p, xs, rfl, .inl ⟨h, k⟩⟩
theorem q_sum {ns : List Int} (h : SqL K H a (ns.map V.int)) (k : Q (.int ns.sum) H) : rSum K [.ref a] H Q := ⟨a, ns, rfl, h, k⟩
theorem q_all {bs : List Bool} (h : SqL K H a (bs.map V.bl)) (k : Q (.bl (bs.all id)) H) : rAll K [.ref a] H Q := ⟨a, bs, rfl, h, k⟩
theorem q_any {bs : List Bool} (h : SqL K H a (bs.map V.bl)) (k : Q (.bl (bs.any id)) H) : rAny K [.ref a] H Q := ⟨a, bs, rfl, h, k⟩
def rAddStr : R2 := fun x y H Q => ∃ i j, x = .str i ∧ y = .str j ∧ i.length + j.length ≤ sizeLine ∧ Q (.str (i ++ j)) H
theorem oq_addStr {X : Cx} : OpR X (binaryOp .Add) rAddStr := op_add_str
theorem q_addStr {s z : Str} (hl : s.length + z.length ≤ sizeLine) (k : Q (.str (s ++ z)) H) : rAddStr (.str s) (.str z) H Q := ⟨s, z, rfl, rfl, hl, k⟩
theorem q_isN' (k : Q (.bl (decide (x = .non))) H) : rIsN x .non H Q := ⟨rfl, k⟩
theorem q_notN' (k : Q (.bl (!decide (x = .non))) H) : rNotN x .non H Q := ⟨rfl, k⟩
theorem q_inD {d : PyData} {ds : List PyData} (hd : Dp K H x d) (hy : Dp K H y (.list ds)) (s1 : SeqAt.shaped d = true) (s2 : SeqAt.shaped (.list ds) = true) (k : Q (.bl (ds.any fun z => PyData.eqv z d)) H) : rInD K x y H Q := ⟨d, ds, hd, hy, s1, s2, k⟩
theorem q_notInD {d : PyData} {ds : List PyData} (hd : Dp K H x d) (hy : Dp K H y (.list ds)) (s1 : SeqAt.shaped d = true) (s2 : SeqAt.shaped (.list ds) = true) (k : Q (.bl (!ds.any fun z => PyData.eqv z d)) H) : rNotInD K x y H Q := ⟨d, ds, hd, hy, s1, s2, k⟩
theorem q_ifNT (h : u D σ H) : ifK D t u σ (!true) H := q_ifF h
theorem q_ifNF (h : t D σ H) : ifK D t u σ (!false) H := q_ifT h
theorem q_andNT {R : Bool → Hp → Prop} (h : R false H) : andK tu σ R (!true) H := q_andF h
theorem q_andNF {R : Bool → Hp → Prop} (h : tu σ H R) : andK tu σ R (!false) H := q_andT h
theorem q_orNT {R : Bool → Hp → Prop} (h : tu σ H R) : orK tu σ R (!true) H := q_orF h
theorem q_orNF {R : Bool → Hp → Prop} (h : R true H) : orK tu σ R (!false) H := q_orT h
theorem q_bKNT {R : Bool → Hp → Prop} (h : R false H) : bK R (.bl (!true)) H := q_bK h
theorem q_bKNF {R : Bool → Hp → Prop} (h : R true H) : bK R (.bl (!false)) H := q_bK h
/-! chains, isinstance, texts, dicts -/
def chK2 (r' : R2) (y : V) (tc : TE) (σ : L2.St) (Q : VK) : VK := fun z H3 => ∃ k, z = .bl k ∧ (if k = true then tc σ H3 fun w' H4 => r' y w' H4 Q else Q (.bl false) H3)
theorem q_chain {r r' : R2} (h : ta σ H fun x H1 => tb σ H1 fun y H2 => r x y H2 (chK2 r' y tc σ Q)) : tChain r r' ta tb tc σ H Q := h
theorem q_chT {r' : R2} (h : tc σ H fun w' H4 => r' y w' H4 Q) : chK2 r' y tc σ Q (.bl true) H := ⟨true, rfl, iteT h⟩
theorem q_chF {r' : R2} (h : Q (.bl false) H) : chK2 r' y tc σ Q (.bl false) H := ⟨false, rfl, iteF h⟩
theorem q_ch2 {r' : R2} {c : Bool} (h : c = true → tc σ H fun w' H4 => r' y w' H4 Q) (h2 : c = false → Q (.bl false) H) : chK2 r' y tc σ Q (.bl c) H := by
  cases c with
  | true => exact q_chT (h rfl)
  | false => exact q_chF (h2 rfl)
def rIsiQ (K : PySem.W.Frag) : List V → Hp → VK → Prop := rIsi K
theorem q_isi {n : String} {t : Value} {c : Bool} (ht : TyX K H x t) (hk : PySem.W.kitOne K t (.type n) = some c) (k : Q (.bl c) H) : rIsi K [x, .ty n] H Q := ⟨x, .ty n, t, .type n, c, rfl, .ty n, ht, hk, k⟩
def rOrd : List V → Hp → VK → Prop := fun xs H Q => ∃ x, xs = [.str x] ∧ x.length = 1 ∧ Q (.int (x.cps.getD 0 0 : Nat)) H
theorem cq_ord {X : Cx} : CallR X (.builtin "ord") rOrd := call_ord
theorem q_ord {c : Nat} (k : Q (.int c) H) : rOrd [.str ⟨#[c]⟩] H Q := ⟨_, rfl, rfl, k⟩
theorem q_forS {s : Str} (Pv : Nat → L2.St → Hp → Prop) (h0 : Pv 0 σ H)
    (hs : ∀ i c σ H, s.cps[i]? = some c → Pv i σ H → g (.str ⟨#[c]⟩) σ H fun σ2 H2 => t { D with nx := Pv (i + 1), ct := Pv (i + 1), bk := D.nx } σ2 H2) (hd : ∀ σ H, Pv s.cps.size σ H → D.nx σ H) : forK g t D σ (Its s) H := by
  refine ⟨fun i m σ H => i + m = s.cps.size ∧ Pv i σ H, ⟨s.cps.size, Nat.zero_add _, h0⟩, fun i m σ H hW => ?_⟩
  obtain ⟨e, hp⟩ := hW
  by_cases hi : i < s.cps.size
  · refine .inr ⟨hi, Pv (i + 1), fun σ' H' hN => ⟨m - 1, by omega, by omega, hN⟩, fun x H' hy => ?_⟩
    obtain ⟨rfl, c, hc, rfl⟩ := hy
    exact hs i c σ H' hc hp
  · have e2 : i = s.cps.size := by omega
    subst e2
    exact .inl ⟨Nat.le_refl _, hd σ H hp⟩
theorem q_iStr {s : Str} {R : It → Hp → Prop} (k : R (Its s) H) : ∃ z, V.str s = .str z ∧ R (Its z) H := ⟨s, rfl, k⟩
theorem q_iStr0 {R : It → Hp → Prop} (h : te σ H fun v H1 => ∃ x, v = .str x ∧ R (Its x) H1) : iStr te σ H R := h
def dInK (Q : VK) (y : V) : VK := fun x H2 => ∃ a o, x = .ref a ∧ DGet H2 a y o ∧ Q (.bl o.isSome) H2
def dNInK (Q : VK) (y : V) : VK := fun x H2 => ∃ a o, x = .ref a ∧ DGet H2 a y o ∧ Q (.bl (!o.isSome)) H2
theorem q_tDIn {ty td : TE} (h : ty σ H fun y H1 => td σ H1 (dInK Q y)) : tDIn ty td σ H Q := h
theorem q_tDNotIn {ty td : TE} (h : ty σ H fun y H1 => td σ H1 (dNInK Q y)) : tDNotIn ty td σ H Q := h
theorem q_dInS {kvs : List (Key × V)} {s : Str} (h : H a = some (.dK kvs)) (k : Q (.bl (valV kvs (.inr s)).isSome) H) : dInK Q (.str s) (.ref a) H := ⟨a, _, rfl, DGet.k (k := Sum.inr s) h, k⟩
theorem q_dNInS {kvs : List (Key × V)} {s : Str} (h : H a = some (.dK kvs)) (k : Q (.bl (!(valV kvs (.inr s)).isSome)) H) : dNInK Q (.str s) (.ref a) H := ⟨a, _, rfl, DGet.k (k := Sum.inr s) h, k⟩
theorem q_dInI {kvs : List (Key × V)} (h : H a = some (.dK kvs)) (k : Q (.bl (valV kvs (.inl i)).isSome) H) : dInK Q (.int i) (.ref a) H := ⟨a, _, rfl, DGet.k (k := Sum.inl i) h, k⟩
theorem q_dNInI {kvs : List (Key × V)} (h : H a = some (.dK kvs)) (k : Q (.bl (!(valV kvs (.inl i)).isSome)) H) : dNInK Q (.int i) (.ref a) H := ⟨a, _, rfl, DGet.k (k := Sum.inl i) h, k⟩
def dGetK (Q : VK) (x : V) : VK := fun y H2 => ∃ a v, x = .ref a ∧ DGet H2 a y (some v) ∧ Q v H2
theorem q_tDGet {ty td : TE} (h : td σ H fun x H1 => ty σ H1 (dGetK Q x)) : tDGet td ty σ H Q := h
theorem q_dGetS {kvs : List (Key × V)} {s : Str} (h : H a = some (.dK kvs)) (e : valV kvs (.inr s) = some v) (k : Q v H) : dGetK Q (.ref a) (.str s) H := ⟨a, v, rfl, by rw [← e]; exact DGet.k (k := Sum.inr s) h, k⟩
theorem q_dGetI {kvs : List (Key × V)} (h : H a = some (.dK kvs)) (e : valV kvs (.inl i) = some v) (k : Q v H) : dGetK Q (.ref a) (.int i) H := ⟨a, v, rfl, by rw [← e]; exact DGet.k (k := Sum.inl i) h, k⟩
theorem q_dNew (k : ∀ p, H p = none → Q (.ref p) (upd H p (.dK []))) : tDNewK σ H Q := k
def dPutK (D : Ends) (σ : L2.St) (v x : V) : VK := fun y H3 => ∃ a H4, x = .ref a ∧ DPut H3 a y v H4 ∧ D.nx σ H4
theorem q_sDPut {td ty tv : TE} (h : tv σ H fun v H1 => td σ H1 fun x H2 => ty σ H2 (dPutK D σ v x)) : sDPut td ty tv D σ H := h
theorem q_dPutS {kvs : List (Key × V)} {s : Str} (h : H a = some (.dK kvs)) (hl : kvs.length < sizeLine) (k : D.nx σ (upd H a (.dK (putK kvs (.inr s) v)))) : dPutK D σ v (.ref a) (.str s) H := ⟨a, _, rfl, DPut.k (k := Sum.inr s) h hl, k⟩
theorem q_dPutI {kvs : List (Key × V)} (h : H a = some (.dK kvs)) (hl : kvs.length < sizeLine) (k : D.nx σ (upd H a (.dK (putK kvs (.inl i) v)))) : dPutK D σ v (.ref a) (.int i) H := ⟨a, _, rfl, DPut.k (k := Sum.inl i) h hl, k⟩
def truK (K : PySem.W.Frag) (R : Bool → Hp → Prop) : VK := fun x H' => ∃ k, TruV K x H' k ∧ R k H'
theorem q_tru {R : Bool → Hp → Prop} (h : te σ H (truK K R)) : (fun (σ : L2.St) (H : Hp) (Q : Bool → Hp → Prop) => te σ H fun x H' => ∃ k, TruV K x H' k ∧ Q k H') σ H R := h
theorem q_isBl {c d : Bool} (k : Q (.bl (decide (c = d))) H) : rIsB (.bl c) (.bl d) H Q := ⟨c, d, rfl, rfl, k⟩
theorem q_notBl {c d : Bool} (k : Q (.bl (!decide (c = d))) H) : rNotB (.bl c) (.bl d) H Q := ⟨c, d, rfl, rfl, k⟩
theorem q_inT (h : SqT K H p xs) (hx : flatV x = true) (ha : xs.all flatV = true) (k : Q (.bl (inV x xs)) H) : rIn K false x (.ref p) H Q := ⟨p, xs, rfl, .inr h, hx, ha, k⟩
theorem q_inL (h : SqL K H p xs) (hx : flatV x = true) (ha : xs.all flatV = true) (k : Q (.bl (inV x xs)) H) : rIn K false x (.ref p) H Q := ⟨p, xs, rfl, .inl h, hx, ha, k⟩
theorem q_eqD {d e : PyData} (hd : Dp K H x d) (he : Dp K H y e) (s1 : SeqAt.shaped d = true) (s2 : SeqAt.shaped e = true) (k : Q (.bl (PyData.eqv d e)) H) : rEqD K x y H Q := ⟨d, e, hd, he, s1, s2, k⟩
theorem q_neD {d e : PyData} (hd : Dp K H x d) (he : Dp K H y e) (s1 : SeqAt.shaped d = true) (s2 : SeqAt.shaped e = true) (k : Q (.bl (!PyData.eqv d e)) H) : rNeD K x y H Q := ⟨d, e, hd, he, s1, s2, k⟩
theorem q_catA (h1 : H a = some (.tup xs)) (h2 : H b = some (.tup ys)) (hl : xs.length + ys.length ≤ sizeLine) (k : ∀ p H', Same H H' → H' p = some (.tup (xs ++ ys)) → Q (.ref p) H') : rCatA K (.ref a) (.ref b) H Q := by
  refine ⟨a, b, xs, ys, rfl, rfl, sqT h1, sqT h2, hl, fun e => ?_, fun _ e => ?_, fun _ _ p hp => k p _ (Same.new (Same.refl _) hp) upd_same⟩
  · subst e; exact k b H (Same.refl _) h2
  · subst e; exact k a H (Same.refl _) (by rw [List.append_nil]; exact h1)
theorem q_slA {lo hi : Option Int} (h : H a = some (.tup xs)) (k : ∀ p H', Same H H' → H' p = some (.tup (cutV xs lo hi)) → Q (.ref p) H') : rSlA K (.ref a) lo hi H Q := by
  refine ⟨a, xs, rfl, sqT h, fun e => ?_, fun _ p hp => k p _ (Same.new (Same.refl _) hp) upd_same⟩
  refine k a H (Same.refl _) ?_
  unfold cutV
  rw [e.1, e.2, List.drop_zero, Nat.sub_zero, List.take_length]
  exact h
theorem cut_take {n : Nat} (hn : n ≤ xs.length) : cutV xs none (some (n : Int)) = xs.take n := by
  unfold cutV
  rw [HT.sIx_none, show HT.sIx xs.length xs.length (some (n : Int)) = min n xs.length from HT.sIx_nat xs.length xs.length n, Nat.min_eq_left hn, List.drop_zero, Nat.sub_zero]
theorem cut_drop {n : Nat} (hn : n ≤ xs.length) : cutV xs (some (n : Int)) none = xs.drop n := by
  unfold cutV
  rw [HT.sIx_none, show HT.sIx xs.length 0 (some (n : Int)) = min n xs.length from HT.sIx_nat xs.length 0 n, Nat.min_eq_left hn]
  exact List.take_of_length_le (by rw [List.length_drop]; exact Nat.le_refl _)
theorem q_sl {r : V → Option Int → Option Int → Hp → VK → Prop} {tl th : TO} (h : te σ H fun x H1 => tl σ H1 fun l H2 => th σ H2 fun u H3 => r x l u H3 Q) : tSl r te tl th σ H Q := h
theorem q_noPart {R : Option Int → Hp → Prop} (k : R none H) : tNoPart σ H R := k
def partK (R : Option Int → Hp → Prop) : VK := fun x H1 => ∃ i, x = .int i ∧ R (some i) H1
theorem q_part {R : Option Int → Hp → Prop} (h : te σ H (partK R)) : tPart te σ H R := h
theorem q_partK {R : Option Int → Hp → Prop} (k : R (some i) H) : partK R (.int i) H := ⟨i, rfl, k⟩
/-! a text times a number -/
def repS (s : Str) (n : Int) : Str := ⟨(List.replicate n.toNat s.cps).foldl (· ++ ·) #[]⟩
def mulOk (s : Str) (n : Int) : Bool := decide (2 ≤ n) && decide (n ≤ 1000) && decide (s.length = 1) && decide ((repS s n).length ≤ 1000)
def rMulStr : R2 := fun x y H Q => ∃ s n, x = .str s ∧ y = .int n ∧ mulOk s n = true ∧ Q (.str (repS s n)) H
theorem oq_mulStr {X : Cx} : OpR X (binaryOp .Mult) rMulStr := by
  intro pins s σ H x y v u Q I rx ry h
  obtain ⟨z, n, rfl, rfl, hm, q⟩ := h
  obtain ⟨t, rfl⟩ := rx
  obtain ⟨t', rfl⟩ := ry
  unfold mulOk at hm
  simp only [Bool.and_eq_true, decide_eq_true_eq] at hm
  obtain ⟨⟨⟨h1, h2⟩, h3⟩, h4⟩ := hm
  have e1 : (n == 1 || z.length == 0) = false := by
    rw [h3]
    have : (n == 1) = false := beq_eq_false_iff_ne.mpr (by omega)
    rw [this]
    rfl
  refine PySem.P.mul_str ?_ (fun _ _ => ?_) (fun _ _ => ?_) ?_
  · rw [decide_eq_false (show ¬ n < -(2 ^ 63) by omega), decide_eq_false (show ¬ n ≥ 2 ^ 63 by omega)]
    rfl
  · rw [h3]
    have : (1 : Int) ≤ (2 ^ 63 - 1) / n := Int.le_ediv_of_mul_le (by omega) (by omega)
    exact Int.not_lt.mpr this
  · rw [h3, Nat.one_mul]
    exact decide_eq_false (by
      have : sizeLine = 16777216 := sizeLine_eq
      omega)
  · rw [if_neg (show ¬ n < 1 by omega), if_neg (by rw [e1]; exact Bool.false_ne_true)]
    exact ⟨Nat.le_trans h4 (by decide), .str (repS z n), H, I.tok _, ⟨_, rfl⟩, q⟩
theorem q_mulStr {s : Str} (hm : mulOk s i = true) (k : Q (.str (repS s i)) H) : rMulStr (.str s) (.int i) H Q := ⟨s, i, rfl, rfl, hm, k⟩
/-! methods of lists -/
def bmK (K : PySem.W.Frag) (T : String) (r : V → List V → Hp → VK → Prop) (t : TA) (σ : L2.St) (Q : VK) : VK := fun x H1 => tyV K T x H1 ∧ t σ H1 fun xs H2 => r x xs H2 Q
def bmK0 (K : PySem.W.Frag) (T : String) (r : V → List V → Hp → VK → Prop) (Q : VK) : VK := fun x H1 => tyV K T x H1 ∧ r x [] H1 Q
theorem q_bm {T : String} {r : V → List V → Hp → VK → Prop} (h : te σ H (bmK K T r tr σ Q)) : tBM K T r te tr σ H Q := h
theorem q_bm0 {T : String} {r : V → List V → Hp → VK → Prop} (h : te σ H (bmK0 K T r Q)) : tBM0 K T r te σ H Q := h
theorem q_bmL {r : V → List V → Hp → VK → Prop} (h : H l = some (.lst xs)) (k : tr σ H fun vs H2 => r (.ref l) vs H2 Q) : bmK K "list" r tr σ Q (.ref l) H := ⟨.inl ⟨rfl, xs, sqL h⟩, k⟩
theorem q_bmL0 {r : V → List V → Hp → VK → Prop} (h : H l = some (.lst xs)) (k : r (.ref l) [] H Q) : bmK0 K "list" r Q (.ref l) H := ⟨.inl ⟨rfl, xs, sqL h⟩, k⟩
theorem q_append (h : H l = some (.lst xs)) (hl : xs.length < sizeLine) (k : Q .non (upd H l (.lst (xs ++ [y])))) : rAppend (.ref l) [y] H Q := ⟨l, xs, y, rfl, rfl, h, hl, k⟩
theorem q_popAt {n : Nat} (h : H l = some (.lst xs)) (e : i = (n : Int)) (hn : n < xs.length) (hb : i < 2 ^ 63) (hv : xs[n]? = some v) (k : Q v (upd H l (.lst (xs.eraseIdx n)))) : rPopAt (.ref l) [.int i] H Q := by
  refine ⟨l, xs, i, n, v, rfl, rfl, h, by omega, hb, ?_, hv, k⟩
  subst e
  unfold seqIndex?
  have h1 : ¬ ((n : Int) < 0) := by omega
  have h2 : (n : Int) < (xs.length : Int) := by omega
  have h3 : (0 : Int) ≤ (n : Int) := by omega
  simp [h1, h2, h3]
/-! a walk over a list or a tuple -/
theorem pi_or {X : Cx} {tg e : Expr} {w1 w2 : TI} (h1 : PI X tg e w1) (h2 : PI X tg e w2) : PI X tg e (fun σ H R => w1 σ H R ∨ w2 σ H R) :=
  ⟨fun pins s σ H R I h => h.elim (h1.run pins s σ H R I) (h2.run pins s σ H R I)⟩
def iSeq (K : PySem.W.Frag) (te : TE) : TI := fun σ H R => iList K te σ H R ∨ iTup K te σ H R
theorem pi_seq {X : Cx} {tg e : Expr} {te : TE} (h : PE X e te) : PI X tg e (iSeq X.K te) := pi_or (pi_list h) (pi_tup h)
theorem q_iSeqL {R : It → Hp → Prop} (h : te σ H fun x H1 => ∃ a, x = .ref a ∧ (∃ xs, SqL K H1 a xs) ∧ R (Itl K a) H1) : iSeq K te σ H R := .inl h
theorem q_iSeqT {R : It → Hp → Prop} (h : te σ H fun x H1 => ∃ a, x = .ref a ∧ (∃ xs, SqT K H1 a xs) ∧ R (Itt K a) H1) : iSeq K te σ H R := .inr h
/-! a written dict -/
def pairsK (σ : L2.St) (r : List (TE × TE)) (x : V) (Q : List (V × V) → Hp → Prop) : VK := fun y H2 => tPairs r σ H2 fun ps H3 => Q ((x, y) :: ps) H3
theorem q_pairC {tk tv : TE} {r : List (TE × TE)} {R : List (V × V) → Hp → Prop} (h : tk σ H fun x H1 => tv σ H1 (pairsK σ r x R)) : tPairs ((tk, tv) :: r) σ H R := h
theorem q_pairsK {r : List (TE × TE)} {R : List (V × V) → Hp → Prop} (h : tPairs r σ H fun ps H3 => R ((x, y) :: ps) H3) : pairsK σ r x R y H := h
theorem q_pairN {R : List (V × V) → Hp → Prop} (h : R [] H) : tPairs [] σ H R := h
def dispK (Q : VK) (p : Addr) : List (V × V) → Hp → Prop := fun ps H2 => H2 p = some (.dK []) ∧ ∃ kvs : List (Key × V), ps = kvs.map (fun kv => (kV kv.1, kv.2)) ∧ kvs.length ≤ 15 ∧ Q (.ref p) (upd H2 p (.dK (mergeK [] kvs)))
theorem q_disp {trs : List (TE × TE)} (k : ∀ p, H p = none → tPairs trs σ (upd H p (.dK [])) (dispK Q p)) : tDisp trs σ H Q := k
theorem valV_cons {κ : Type} [DecidableEq κ] {kvs : List (κ × V)} {k k' : κ} {v : V} : valV ((k, v) :: kvs) k' = if k = k' then some v else valV kvs k' := by
  unfold valV
  rw [List.find?_cons]
  by_cases e : k = k'
  · rw [if_pos e, decide_eq_true e]; rfl
  · rw [if_neg e, decide_eq_false e]
theorem valV_nomem {κ : Type} [DecidableEq κ] {kvs : List (κ × V)} {k : κ} (h : k ∉ kvs.map (·.1)) : valV kvs k = none := by
  cases q : valV kvs k with
  | none => rfl
  | some v => exact absurd (valV_in q) h
theorem merge_app : ∀ (kvs acc : List (Key × V)), ((acc ++ kvs).map (·.1)).Nodup → mergeK acc kvs = acc ++ kvs
  | [], acc, _ => by rw [List.append_nil]; rfl
  | (k, v) :: r, acc, h => by
    have hk : k ∉ acc.map (·.1) := by
      rw [List.map_append] at h
      intro m
      exact (List.nodup_append.mp h).2.2 k m k (by simp) rfl
    show mergeK (putK acc k v) r = _
    rw [putK_new v (valV_nomem hk), merge_app r (acc ++ [(k, v)]) (by rw [List.append_assoc]; exact h), List.append_assoc]
    rfl
theorem q_dispK {kvs : List (Key × V)} {ps : List (V × V)} (h : H p = some (.dK [])) (e : ps = kvs.map (fun kv => (kV kv.1, kv.2))) (hl : kvs.length ≤ 15) (hn : (kvs.map (·.1)).Nodup) (k : Q (.ref p) (upd H p (.dK kvs))) : dispK Q p ps H :=
  ⟨h, kvs, e, hl, by rw [merge_app kvs [] hn]; exact k⟩
theorem q_slL {lo hi : Option Int} (h : SqL K H a xs) (k : ∀ p, H p = none → Q (.ref p) (upd H p (.lst (cutV xs lo hi)))) : rSlL K (.ref a) lo hi H Q := ⟨a, xs, rfl, h, k⟩
/-! attributes and methods -/
def fldK (K : PySem.W.Frag) (f : Str) (Q : VK) : VK := fun x H1 => ∃ a C dx fs v, x = .ref a ∧ H1 a = some (.ins C dx fs) ∧ Cls K C ∧ NoAttr K C f ∧ fs.lookup f = some v ∧ Q v H1
theorem q_fld {f : Str} (h : te σ H (fldK K f Q)) : tFld K te f σ H Q := h
theorem q_fldK {f : Str} {C dx : Addr} {fs : List (Str × V)} (h : H a = some (.ins C dx fs)) (hc : Cls K C) (hn : NoAttr K C f) (hl : fs.lookup f = some v) (k : Q v H) : fldK K f Q (.ref a) H := ⟨a, C, dx, fs, v, rfl, h, hc, hn, hl, k⟩
def fputK (K : PySem.W.Frag) (f : Str) (D : Ends) (σ : L2.St) (y : V) : VK := fun x H2 => ∃ a C dx fs, x = .ref a ∧ H2 a = some (.ins C dx fs) ∧ Cls K C ∧ NoAttr K C f ∧ fs.length < 1000 ∧ D.nx σ (upd H2 a (.ins C dx (putF f y fs)))
theorem q_sFld {f : Str} (h : tb σ H fun y H1 => te σ H1 (fputK K f D σ y)) : sFld K te tb f D σ H := h
theorem q_fputK {f : Str} {C dx : Addr} {fs : List (Str × V)} (h : H a = some (.ins C dx fs)) (hc : Cls K C) (hn : NoAttr K C f) (hl : fs.length < 1000) (k : D.nx σ (upd H a (.ins C dx (putF f y fs)))) : fputK K f D σ y (.ref a) H := ⟨a, C, dx, fs, rfl, h, hc, hn, hl, k⟩
def methK (m : Str) (C : Addr) (sp : Sp) (dvs : List V) (E : XK) (tr : TA) (σ : L2.St) (Q : VK) : VK := fun x H1 => ∃ a dx fs, x = .ref a ∧ H1 a = some (.ins C dx fs) ∧ fs.lookup m = none ∧ tr σ H1 fun vs H2 => sp (x :: (vs ++ dvs)) H2 Q E
theorem q_meth {m : Str} {C : Addr} {sp : Sp} {dvs : List V} {E : XK} (h : te σ H (methK m C sp dvs E tr σ Q)) : tMeth C m sp dvs E te tr σ H Q := h
def selfK (sp : Sp) (x : V) (E : XK) (Q : VK) : List V → Hp → Prop := fun vs H2 => sp (x :: vs) H2 Q E
theorem q_methK {m : Str} {C dx : Addr} {sp : Sp} {E : XK} {fs : List (Str × V)} (h : H a = some (.ins C dx fs)) (hn : fs.lookup m = none) (k : ∀ (R : List V → Hp → Prop), (∀ vs H2, sp (.ref a :: vs) H2 Q E → R vs H2) → tr σ H R) : methK m C sp [] E tr σ Q (.ref a) H :=
  ⟨a, dx, fs, rfl, h, hn, k _ fun vs H2 q => by rw [List.append_nil]; exact q⟩
theorem q_fldlen {f : Str} {fs : List (Str × V)} {y : V} {n : Nat} (h : fs.length ≤ n) : (putF f y fs).length ≤ n + 1 := by
  induction fs generalizing n with
  | nil => exact Nat.succ_le_succ (Nat.zero_le _)
  | cons p r ih =>
    obtain ⟨g, x⟩ := p
    show (if g = f then (g, y) :: r else (g, x) :: putF f y r).length ≤ n + 1
    by_cases e : g = f
    · rw [if_pos e]; exact Nat.le_succ_of_le h
    · rw [if_neg e]
      cases n with
      | zero => exact absurd h (by simp)
      | succ n => exact Nat.succ_le_succ (ih (Nat.le_of_succ_le_succ h))
theorem q_never {σ : L2.St} (h : False) : tNever D σ H := h
def mkK (C : Addr) (n m : Nat) (sp : Sp) (gV : List V → List V → List V) (E : XK) (vs : List V) (Q : VK) : List V → Hp → Prop := fun zs H2 => vs.length = n ∧ zs.length = m ∧ ∀ x dx, H2 x = none → H2 dx = none → dx ≠ x →
  sp (gV (.ref x :: vs) zs) (upd (upd H2 dx (.own x)) x (.ins C dx [])) (fun v H3 => v = .non ∧ Q (.ref x) H3) E
theorem q_makeK {C : Addr} {n m : Nat} {sp : Sp} {gV : List V → List V → List V} {E : XK} {tk : TA} (h : tr σ H fun vs H1 => tk σ H1 (mkK C n m sp gV E vs Q)) : tMakeK C n m sp gV E tr tk σ H Q := h
/-! comprehensions -/
def lcK (g : TG) (tt : TT) (te : TE) (vs : List Nat) (σ : L2.St) (Q : VK) : It → Hp → Prop := fun J H1 => ∀ D, H1 D = none → ∃ W : Nat → Nat → Hp → Prop, (∃ m, W 0 m (upd H1 D (.lst []))) ∧ ∀ i m H, W i m H →
  (J.stop i H ∧ Q (.ref D) H) ∨ (J.go i H ∧ ∃ Nx : Hp → Prop, (∀ H', Nx H' → ∃ m', m' < m ∧ W (i + 1) m' H') ∧ ∀ x H', J.yld i H x H' → g x (wipe σ vs) H' fun σ2 H2 => wipe σ2 vs = wipe σ vs ∧ tt σ2 H2 fun b H3 =>
    if b = true then te σ2 H3 fun y H4 => ∃ acc, H4 D = some (.lst acc) ∧ acc.length < sizeLine ∧ Nx (upd H4 D (.lst (acc ++ [y]))) else Nx H3)
theorem q_lc {wi : TI} {vs : List Nat} (h : wi σ H (lcK g tt te vs σ Q)) : tLc wi g tt te vs σ H Q := h
def keepK (te : TE) (σ : L2.St) (D : Addr) (Nx : Hp → Prop) : Bool → Hp → Prop := fun b H3 => if b = true then te σ H3 fun y H4 => ∃ acc, H4 D = some (.lst acc) ∧ acc.length < sizeLine ∧ Nx (upd H4 D (.lst (acc ++ [y]))) else Nx H3
def accK (D : Addr) (Nx : Hp → Prop) : VK := fun y H4 => ∃ acc, H4 D = some (.lst acc) ∧ acc.length < sizeLine ∧ Nx (upd H4 D (.lst (acc ++ [y])))
theorem q_keepT {Nx : Hp → Prop} (h : te σ H (accK l Nx)) : keepK te σ l Nx true H := iteT h
theorem q_keepF {Nx : Hp → Prop} (h : Nx H) : keepK te σ l Nx false H := iteF h
theorem q_keep2 {Nx : Hp → Prop} {c : Bool} (h : c = true → te σ H (accK l Nx)) (h2 : c = false → Nx H) : keepK te σ l Nx c H := by
  cases c with
  | true => exact iteT (h rfl)
  | false => exact iteF (h2 rfl)
theorem q_accK {Nx : Hp → Prop} (h : H l = some (.lst xs)) (hl : xs.length < sizeLine) (k : Nx (upd H l (.lst (xs ++ [y])))) : accK l Nx y H := ⟨xs, h, hl, k⟩
theorem q_lcL {S : List V} {vs : List Nat} (h : SqL K H a S) (k : ∀ D, H D = none → ∃ Pv : Nat → Hp → Prop, Pv 0 (upd H D (.lst [])) ∧ (∀ i H, i ≤ S.length → Pv i H → SqL K H a S) ∧
      (∀ i x H, S[i]? = some x → Pv i H → g x (wipe σ vs) H fun σ2 H2 => wipe σ2 vs = wipe σ vs ∧ tt σ2 H2 (keepK te σ2 D (Pv (i + 1)))) ∧ ∀ H, Pv S.length H → Q (.ref D) H) :
    ∃ b, V.ref a = .ref b ∧ (∃ xs, SqL K H b xs) ∧ lcK g tt te vs σ Q (Itl K b) H := ⟨a, rfl, ⟨S, h⟩, fun D hD => by
      obtain ⟨Pv, h0, hl, hs, hd⟩ := k D hD
      exact lc_list Pv h0 hl hs hd⟩
theorem q_lcT {S : List V} {vs : List Nat} (h : SqT K H a S) (k : ∀ D, H D = none → ∃ Pv : Nat → Hp → Prop, Pv 0 (upd H D (.lst [])) ∧ (∀ i H, i ≤ S.length → Pv i H → SqT K H a S) ∧
      (∀ i x H, S[i]? = some x → Pv i H → g x (wipe σ vs) H fun σ2 H2 => wipe σ2 vs = wipe σ vs ∧ tt σ2 H2 (keepK te σ2 D (Pv (i + 1)))) ∧ ∀ H, Pv S.length H → Q (.ref D) H) :
    ∃ b, V.ref a = .ref b ∧ (∃ xs, SqT K H b xs) ∧ lcK g tt te vs σ Q (Itt K b) H := ⟨a, rfl, ⟨S, h⟩, fun D hD => by
      obtain ⟨Pv, h0, hl, hs, hd⟩ := k D hD
      exact lc_tup Pv h0 hl hs hd⟩
theorem q_lcR {vs : List Nat} (hj : 0 ≤ j ∧ j < 1000000000000000) (k : ∀ D, H D = none → ∃ Pv : Nat → Hp → Prop, Pv 0 (upd H D (.lst [])) ∧
      (∀ (i : Nat) H, (i : Int) < j → Pv i H → g (.int i) (wipe σ vs) H fun σ2 H2 => wipe σ2 vs = wipe σ vs ∧ tt σ2 H2 (keepK te σ2 D (Pv (i + 1)))) ∧ ∀ H, Pv j.toNat H → Q (.ref D) H) :
    rg1K (lcK g tt te vs σ Q) [.int j] H := ⟨j, rfl, by omega, by omega, fun D hD => by
      obtain ⟨Pv, h0, hs, hd⟩ := k D hD
      refine lc_range Pv h0 (fun i H hi hp => ?_) hd
      have e : (0 : Int) + (i : Int) = (i : Int) := Int.zero_add _
      rw [e]
      exact hs i H (by omega) hp⟩
end

/-! get and setdefault of a dict -/
section
variable {H : Hp} {σ : L2.St} {Q : VK} {td ty tx : TE} {a : Addr} {z v : V}
def dG2K (Q : VK) (a : Addr) (y : V) : VK := fun z H3 => ∃ o, DGet H3 a y o ∧ Q (o.getD z) H3
def dG2a (ty tx : TE) (σ : L2.St) (Q : VK) : VK := fun x H1 => ∃ a, x = .ref a ∧ IsD H1 a ∧ ty σ H1 fun y H2 => tx σ H2 (dG2K Q a y)
theorem q_tDGet2 (h : td σ H (dG2a ty tx σ Q)) : tDGet2 td ty tx σ H Q := h
theorem q_dG2a {kvs : List (Key × V)} (h : H a = some (.dK kvs)) (k : ty σ H fun y H2 => tx σ H2 (dG2K Q a y)) : dG2a ty tx σ Q (.ref a) H := ⟨a, rfl, .inl ⟨kvs, .inl h⟩, k⟩
theorem q_dG2S {kvs : List (Key × V)} {s : Str} (h : H a = some (.dK kvs)) (k : Q ((valV kvs (.inr s)).getD z) H) : dG2K Q a (.str s) z H := ⟨_, DGet.k (k := Sum.inr s) h, k⟩
theorem q_dG2I {kvs : List (Key × V)} {i : Int} (h : H a = some (.dK kvs)) (k : Q ((valV kvs (.inl i)).getD z) H) : dG2K Q a (.int i) z H := ⟨_, DGet.k (k := Sum.inl i) h, k⟩
def dSdK (Q : VK) (a : Addr) (y : V) : VK := fun z H3 => ∃ (kvs : List (Key × V)) (k : Key), H3 a = some (.dK kvs) ∧ y = kV k ∧ kvs.length < sizeLine ∧ (∀ v, valV kvs k = some v → Q v H3) ∧ (valV kvs k = none → Q z (upd H3 a (.dK (putK kvs k z))))
def dSda (ty tx : TE) (σ : L2.St) (Q : VK) : VK := fun x H1 => ∃ a, x = .ref a ∧ IsD H1 a ∧ ty σ H1 fun y H2 => tx σ H2 (dSdK Q a y)
theorem q_tDSetd (h : td σ H (dSda ty tx σ Q)) : tDSetd td ty tx σ H Q := h
theorem q_dSda {kvs : List (Key × V)} (h : H a = some (.dK kvs)) (k : ty σ H fun y H2 => tx σ H2 (dSdK Q a y)) : dSda ty tx σ Q (.ref a) H := ⟨a, rfl, .inl ⟨kvs, .inl h⟩, k⟩
theorem q_dSdS {kvs : List (Key × V)} {s : Str} (h : H a = some (.dK kvs)) (hl : kvs.length < sizeLine) (k1 : ∀ v, valV kvs (.inr s) = some v → Q v H) (k2 : valV kvs (.inr s) = none → Q z (upd H a (.dK (putK kvs (.inr s) z)))) : dSdK Q a (.str s) z H := ⟨kvs, .inr s, h, rfl, hl, k1, k2⟩
end

/-! methods that may raise within a try; the suite of one class; del of an item; a text times 1 -/
section
variable {K : PySem.W.Frag} {σ : L2.St} {H : Hp} {Q : VK} {D : Ends} {l : Addr} {xs : List V} {i : Int} {to ti : TE}
def delK (D : Ends) (σ : L2.St) (x : V) : VK := fun y H2 => ∃ (l : Addr) (xs : List V) (i : Int) (k : Nat), x = .ref l ∧ y = .int i ∧ H2 l = some (.lst xs) ∧ -(2 ^ 63) ≤ i ∧ i < 2 ^ 63 ∧ seqIndex? i xs.length = some k ∧ D.nx σ (upd H2 l (.lst (xs.eraseIdx k)))
theorem q_delL (h : to σ H fun x H1 => ti σ H1 (delK D σ x)) : tDelL to ti D σ H := h
theorem seqIx {n m : Nat} (h : n < m) : seqIndex? (n : Int) m = some n := by
  unfold seqIndex?
  have h1 : ¬ ((n : Int) < 0) := by omega
  have h2 : (n : Int) < (m : Int) := by omega
  have h3 : (0 : Int) ≤ (n : Int) := by omega
  simp [h1, h2, h3]
theorem q_delK {n : Nat} (h : H l = some (.lst xs)) (e : i = (n : Int)) (hn : n < xs.length) (hb : i < 2 ^ 63) (k : D.nx σ (upd H l (.lst (xs.eraseIdx n)))) : delK D σ (.ref l) (.int i) H :=
  ⟨l, xs, i, n, rfl, rfl, h, by omega, hb, by rw [e]; exact seqIx hn, k⟩
def rMulStr1 : R2 := fun x y H Q => ∃ s, x = .str s ∧ y = .int 1 ∧ Q (.str s) H
theorem oq_mulStr1 {X : Cx} : OpR X (binaryOp .Mult) rMulStr1 := by
  intro pins s σ H x y v u Q I rx ry h
  obtain ⟨z, rfl, rfl, q⟩ := h
  obtain ⟨t, rfl⟩ := rx
  obtain ⟨t', rfl⟩ := ry
  refine PySem.P.mul_str (by decide) (fun _ h => by cases h) (fun _ h => by cases h) ?_
  rw [if_neg (show ¬ (1 : Int) < 1 by omega), if_pos (by rfl)]
  exact ⟨.str z, H, I, ⟨_, rfl⟩, q⟩
theorem q_mulStr1 {s : Str} (k : Q (.str s) H) : rMulStr1 (.str s) (.int 1) H Q := ⟨s, rfl, rfl, k⟩
theorem q_int1b {c : Bool} (k : Q (.int (if c then 1 else 0)) H) : rInt1 [.bl c] H Q := .inr ⟨c, rfl, k⟩
theorem q_int1t (k : Q (.int 1) H) : rInt1 [.bl true] H Q := .inr ⟨true, rfl, k⟩
theorem q_neB {c d : Bool} (k : Q (.bl (c != d)) H) : rNe (.bl c) (.bl d) H Q := ⟨rfl, by
  have e : (!decide (V.bl c = V.bl d)) = (c != d) := by cases c <;> cases d <;> rfl
  rw [e]; exact k⟩
theorem q_neBs {c : Bool} (k : Q (.bl false) H) : rNe (.bl c) (.bl c) H Q := q_neB (by rw [bne_self_eq_false]; exact k)
def tMethA (C : Addr) (m : Str) (sp : Sp) (E : L2.St → XK) (ta : TE) (t : TA) : TE := fun σ H Q => ta σ H fun x H1 => ∃ a dx fs, x = .ref a ∧ H1 a = some (.ins C dx fs) ∧ fs.lookup m = none ∧ t σ H1 fun vs H2 => sp (x :: vs) H2 Q (E σ)
def methAK (C : Addr) (m : Str) (sp : Sp) (E : L2.St → XK) (t : TA) (σ : L2.St) (Q : VK) : VK := fun x H1 => ∃ a dx fs, x = .ref a ∧ H1 a = some (.ins C dx fs) ∧ fs.lookup m = none ∧ t σ H1 fun vs H2 => sp (x :: vs) H2 Q (E σ)
theorem q_methA {C : Addr} {m : Str} {sp : Sp} {E : L2.St → XK} {ta : TE} {t : TA} (h : ta σ H (methAK C m sp E t σ Q)) : tMethA C m sp E ta t σ H Q := h
theorem q_methAK {C dx a : Addr} {m : Str} {sp : Sp} {E : L2.St → XK} {t : TA} {fs : List (Str × V)} (h : H a = some (.ins C dx fs)) (hn : fs.lookup m = none) (k : t σ H fun vs H2 => sp (.ref a :: vs) H2 Q (E σ)) : methAK C m sp E t σ Q (.ref a) H := ⟨a, dx, fs, rfl, h, hn, k⟩
theorem q_callS {sp : Sp} {E : L2.St → XK} {t : TA} (h : t σ H fun vs H1 => sp vs H1 Q (E σ)) : tCallS sp E t σ H Q := h
theorem q_isE {D a C : Addr} {b : Bool} (e : PySem.W.kitOne K (.ref D) (.ref C) = some b) (k : Q (.bl b) H) : rIsE K D a [.ref a, .ref C] H Q := ⟨.ref C, .ref C, b, rfl, fun _ r => r, e, k⟩
end
section
variable {X : Cx} {CX : CXT} {k : Nat} {f C : Addr} {fd : FuncData} {ps : List Str} {sp : Sp} {E : L2.St → XK} {m : Str} {pos apos : Pos} {e o : Expr} {es : List Expr} {ta : TE} {t : TA}
theorem pe_methA {pl : Sem Bool} (he : PE X o ta) (c : Cls X.K C) (hm : Meth X.K C m f) (F : FnOk X.prog X.w X.K X.mg X.base CX k f fd ps sp) (hr : Room k X.A) (hb : Binds X.K fd ps []) (hx : ∀ σ, PassesAt CX X σ (E σ)) (ha : PA X (e :: es) t)
    (hst : starEach (e :: es) X.env = (false, eval e X.env) :: starEach es X.env := by rfl) (hpl : (backTo pos (starEach es X.env)).any (·.1) = false := by rfl)
    (ht : eval (.Call (.Attribute o m apos) (e :: es) [] pos) X.env = (do
      let ov ← eval o X.env
      standAt apos.atName
      let (f, first) ← holding [ov] (getMethod ov m pl)
      callWith pos f first (backTo pos (starEach (e :: es) X.env)) (backToKw pos (keywordEach [] X.env))) := by rfl) :
    PE X (.Call (.Attribute o m apos) (e :: es) [] pos) (tMethA C m sp E ta t) := by
  refine ⟨fun pins s σ H Q I h => ?_⟩
  refine PySem.W.methodCall_KW (pl := pl) (thn (he.run pins s σ H _ I h) fun u s1 ⟨x, H1, I1, rx, a, dx, fs, ex, ea, l, q⟩ => ?_) ht
  subst ex
  obtain rfl : u = Value.ref a := rx
  refine getmeth_ok I1 ea c hm l ?_
  refine PySem.W.callWith_K (first := [.ref a]) (h₀ := X.base) I.ok.mod.kin hm.kp (thn (ha.run pos pins s1 σ H1 _ I1 q) fun us s2 ⟨vs, H2, I2, r, q2⟩ => ⟨I2.kIn, ?_⟩) hst hpl
  exact run_fnS (us := .ref a :: us) (vs := .ref a :: vs) F hr hb (hx σ) I2 (.cons rfl r) q2
theorem pss_cls {oe : Obj} {cls : Value} {d : Option Addr} {b : List Stmt} {t : TS} (hz : Zc cls d oe) (h : Zc (.ref C) none oe → PSs X b t) : PSs X b (fun D σ H => (cls = .ref C ∧ d = none) ∧ t D σ H) :=
  ⟨fun pins s σ H D I q => (h (by obtain ⟨⟨e1, e2⟩, _⟩ := q; rw [e1, e2] at hz; exact hz)).run pins s σ H D I q.2⟩
end

/-! the sum of a dict's values; dicts keyed by tuples -/
section
variable {X : Cx} {o : Expr} {p pos apos mpos : Pos} {td : TE}
def tSumVals (td : TE) : TE := fun σ H Q => td σ H fun x H1 => ∃ (a : Addr) (kvs : List (Key × V)) (is : List Int), x = V.ref a ∧ H1 a = some (.dK kvs) ∧ kvs.map (·.2) = is.map V.int ∧ Q (.int is.sum) H1
theorem pre_sum (is : List Int) : ∀ n, n ≤ is.length → preSum (fun i => is.getD i 0) n = (is.take n).sum
  | 0, _ => by simp [preSum]
  | n + 1, h => by
    rw [preSum, pre_sum is n (by omega), List.take_add_one, List.sum_append, List.getElem?_eq_getElem (by omega), List.getD_eq_getElem?_getD, List.getElem?_eq_getElem (by omega)]
    simp
theorem pe_sumVals (hc : X.calm = true) (hg : Gl X "sum") (hm : X.mg "sum" = none) (hd : PE X o td) (hbase : attributeBase o "values" X.env (eval o X.env) = eval o X.env := by rfl) (hline : (apos.endLine == mpos.line) = true := by rfl)
    (hse : starEach [Expr.Call (.Attribute o "values" apos) [] [] mpos] X.env = [(false, eval (Expr.Call (.Attribute o "values" apos) [] [] mpos) X.env)] := by rfl) :
    PE X (.Call (.Name "sum" p) [.Call (.Attribute o "values" apos) [] [] mpos] [] pos) (tSumVals td) := by
  refine ⟨fun pins s σ H Q I h => ?_⟩
  refine wpAny_Call_Name_kw (ld_blt I hg hm (u := .builtin "sum") (by first | rfl | decide +kernel) ?_ (by first | decide +kernel | decide) (by first | decide +kernel | decide))
  rw [hse]
  refine PySem.callWith_builtin1 (wpAny_Call_method0_late hbase hline (thn (hd.run pins s σ H _ I h) fun v s1 ⟨x, H1, I1, r1, a, kvs, is, ex, ha, hv, q⟩ => ?_))
  subst ex
  obtain rfl : v = Value.ref a := r1
  obtain ⟨_, hsys, vs, rel, dof⟩ := dk_of I1.hok ha
  obtain ⟨ep, dat⟩ := dof.dictAt
  have dat' := dat
  obtain ⟨ob, es, ho, ex, hdat, hko, hpr, hnd⟩ := dat'
  refine ⟨"dict", "dict.values", PySem.F.plainAttrs_dict, PySem.F.slot_dict_values, PySem.F.type_dict_values, ⟨ob, ho, ex.1⟩, fun b e => ?_, Calls.callWith_builtin rfl (PySem.evalArgs_none ?_)⟩
  · cases e
    exact ⟨ob, ho, ex.2.1⟩
  refine call_meetsIn PySem.F.slot_dict_values ⟨ob, ho, ex.1⟩ PySem.F.entry_dict_values (PySem.F.args_dict_values_1 _) (meets_dict_values (mixKind X.prog X.w) a hsys) ⟨⟨vs, dof⟩, ?_⟩
  have k1 : ∀ b u, s1.heap.get? b = some u → (s1.heap.push { cls := .type "dict_values", data := .fields #[.ref a] }).get? b = some u := fun b u e => Heap.get?_push_of_some _ e
  have dat1 : (s1.heap.push { cls := .type "dict_values", data := .fields #[.ref a] }).DictAt (mixKind X.prog X.w) a vs ep := dat.keep k1
  have hlv : vs.length = is.length := by
    have e1 := congrArg List.length hv
    rw [List.length_map, List.length_map] at e1
    rw [← e1]
    exact (KV.length rel).symm
  have hval : ∀ (i : Nat) (v : Value), (∃ k, vs[i]? = some (k, v)) → ∃ t, v = Value.int (is.getD i 0) t := fun i v ⟨k, hk⟩ => by
    obtain ⟨x, h1, h2⟩ := KV.at' rel hk
    have e1 : (kvs.map (·.2))[i]? = some x := by rw [List.getElem?_map, h1] <;> rfl
    rw [hv, List.getElem?_map] at e1
    obtain ⟨j, hj, e2⟩ := Option.map_eq_some_iff.mp e1
    subst e2
    obtain ⟨t, e3⟩ := h2
    refine ⟨t, ?_⟩
    rw [e3, List.getD_eq_getElem?_getD, hj] <;> rfl
  refine call_sum_walkG (wpAny_pyIter_values (v := s1.heap.objs.size) (d := a) ⟨_, Heap.get?_push_size _ rfl, rfl, rfl⟩ dat1 ?_)
  have hlt : a < s1.heap.objs.size := Heap.lt_size ho
  have hsz : (s1.heap.push { cls := .type "dict_values", data := .fields #[.ref a] }).objs.size = s1.heap.objs.size + 1 := Heap.size_push _ _
  refine ⟨_, _, _, _, _, _, fun i => is.getD i 0, rfl, Walks.dictValues (knd := mixKind X.prog X.w) (A := X.A.in1) (I.ok.hd hc) (s1.heap.push { cls := .type "dict_values", data := .fields #[.ref a] }).objs.size a (by rw [hsz]; exact Nat.ne_of_lt (Nat.lt_succ_of_lt hlt)) vs ep,
    ⟨⟨_, Heap.get?_push_size _ rfl, rfl, rfl⟩, dat1.keep fun b u e => Heap.get?_push_of_some _ e⟩, fun b hb => ?_, hval, fun h' tk t' hk => ?_⟩
  · show b < ((s1.heap.push _).push _).objs.size
    rw [Heap.size_push, Heap.size_push]
    rw [hsz] at hb
    rcases List.mem_cons.mp hb with e | hb
    · rw [e]
      exact Nat.lt_succ_self _
    · have e : b = a := List.mem_singleton.mp hb
      rw [e]
      exact Nat.lt_succ_of_lt (Nat.lt_succ_of_lt hlt)
  · refine ⟨.int is.sum, H1, I1.kept (t' := tk) fun b u e => hk b u (fun hmem => ?_) (Heap.get?_push_of_some _ (k1 b u e)), ⟨t', ?_⟩, q⟩
    · have e1 : b = (s1.heap.push { cls := .type "dict_values", data := .fields #[.ref a] }).objs.size := List.mem_singleton.mp hmem
      have e2 := Heap.lt_size e
      rw [hsz] at e1
      rw [e1] at e2
      exact absurd e2 (Nat.not_lt.mpr (Nat.le_succ _))
    · rw [pre_sum is _ (by omega), hlv, List.take_length]
end
section
variable {K : PySem.W.Frag} {σ : L2.St} {H : Hp} {Q : VK} {D : Ends} {a b : Addr} {z v : V} {ty tx td : TE} {kvs : List (List Key × V)} {k : List Key}
def sumK (Q : VK) : VK := fun x H1 => ∃ (a : Addr) (kvs : List (Key × V)) (is : List Int), x = V.ref a ∧ H1 a = some (.dK kvs) ∧ kvs.map (·.2) = is.map V.int ∧ Q (.int is.sum) H1
theorem q_sumVals (h : td σ H (sumK Q)) : tSumVals td σ H Q := h
theorem q_sumK {kvs : List (Key × V)} {is : List Int} (h : H a = some (.dK kvs)) (e : kvs.map (·.2) = is.map V.int) (q : Q (.int is.sum) H) : sumK Q (.ref a) H := ⟨a, kvs, is, rfl, h, e, q⟩
theorem q_dG2aT (h : H a = some (.dT kvs)) (q : ty σ H fun y H2 => tx σ H2 (dG2K Q a y)) : dG2a ty tx σ Q (.ref a) H := ⟨a, rfl, .inr ⟨kvs, .inl h⟩, q⟩
theorem q_dG2T (h : H a = some (.dT kvs)) (hb : H b = some (.tup (k.map kV))) (q : Q ((valV kvs k).getD z) H) : dG2K Q a (.ref b) z H := ⟨_, DGet.t h hb, q⟩
theorem q_dPutT (h : H a = some (.dT kvs)) (hb : H b = some (.tup (k.map kV))) (hl : kvs.length < sizeLine) (q : D.nx σ (upd H a (.dT (putK kvs k v)))) : dPutK D σ v (.ref a) (.ref b) H := ⟨a, _, rfl, DPut.t h hb hl, q⟩
theorem q_dNewT (q : ∀ p, H p = none → Q (.ref p) (upd H p (.dT []))) : tDNewT σ H Q := q
end

/-! dicts keyed by nested tuples -/
mutual
inductive NV (H : Hp) : NestedKey → V → Prop
  | non : NV H .none .non
  | int (i : Int) : NV H (.num i) (.int i)
  | str (x : Str) : NV H (.text x) (.str x)
  | tup {b : Addr} {vs : List V} {ks : List NestedKey} : H b = some (.tup vs) → NVs H ks vs → NV H (.tup ks) (.ref b)
inductive NVs (H : Hp) : List NestedKey → List V → Prop
  | nil : NVs H [] []
  | cons {k : NestedKey} {v : V} {ks : List NestedKey} {vs : List V} : NV H k v → NVs H ks vs → NVs H (k :: ks) (v :: vs)
end
mutual
theorem NV.is {P : Program} {w : World} {H : Hp} {h : Heap} (ok : HOk P w H h) : ∀ {k : NestedKey} {v : V} {u : Value}, NV H k v → RelV v u → NestedIs h k u
  | _, _, _, .non, r => by cases (show _ = Value.none from r); exact .none
  | _, _, _, .int i, r => by obtain ⟨t, rfl⟩ := (show ∃ t, _ = Value.int i t from r); exact .int i t
  | _, _, _, .str x, r => by obtain ⟨t, rfl⟩ := (show ∃ t, _ = Value.str x t from r); exact .text x t
  | _, _, _, .tup (b := b) (vs := vs) hb hs, r => by
    cases (show _ = Value.ref b from r)
    obtain ⟨_, its, rv, o, o1, o2, n, o3⟩ := (show ObjOk P w H h b (.tup vs) from ok b _ hb)
    exact .tup o1 o2 o3 (by simpa using NVs.are ok hs rv)
theorem NVs.are {P : Program} {w : World} {H : Hp} {h : Heap} (ok : HOk P w H h) : ∀ {ks : List NestedKey} {vs : List V} {us : List Value}, NVs H ks vs → Vals vs us → NestedAll h ks us
  | _, _, _, .nil, r => by cases r; exact .nil
  | _, _, _, .cons a b, r => by
    cases r with
    | cons r1 r2 => exact .cons (NV.is ok a r1) (NVs.are ok b r2)
end
mutual
theorem NV.mono {H H' : Hp} (e : ∀ b ys, H b = some (.tup ys) → H' b = some (.tup ys)) : ∀ {k : NestedKey} {v : V}, NV H k v → NV H' k v
  | _, _, .non => .non
  | _, _, .int i => .int i
  | _, _, .str x => .str x
  | _, _, .tup h hs => .tup (e _ _ h) (NVs.mono e hs)
theorem NVs.mono {H H' : Hp} (e : ∀ b ys, H b = some (.tup ys) → H' b = some (.tup ys)) : ∀ {ks : List NestedKey} {vs : List V}, NVs H ks vs → NVs H' ks vs
  | _, _, .nil => .nil
  | _, _, .cons a b => .cons (NV.mono e a) (NVs.mono e b)
end
abbrev NKvs := List (NestedKey × Addr × V)
def nRel (p : NestedKey × Addr × V) (q : NestedKey × Addr × Value) : Prop := p.1 = q.1 ∧ p.2.1 = q.2.1 ∧ RelV p.2.2 q.2.2
def valN (kvs : NKvs) (k : NestedKey) : Option V := (kvs.find? fun p => decide (p.1 = k)).map (·.2.2)
/-- what is true of the object of such a dict -/
def dnP (P : Program) (w : World) (a : Addr) (kvs : NKvs) (h : Heap) : Prop := kvs.length ≤ sizeLine ∧ (a == sysModules) = false ∧ ∃ xs : List (NestedKey × Addr × Value), Paired nRel kvs xs ∧
  ∃ o es ep, h.get? a = some o ∧ o.ExactDict ∧ o.data = .dict es ep ∧ es.toList = xs.map (entryOfKey (nestedKind P w)) ∧ (xs.map (·.1)).Nodup
def DN (P : Program) (w : World) (a : Addr) (kvs : NKvs) : HO := .ext (dnP P w a kvs)
/-- its keys stand as tuples, to depth 8 -/
def NKeys (H : Hp) (kvs : NKvs) : Prop := ∀ p ∈ kvs, NV H p.1 (.ref p.2.1) ∧ p.1.depth ≤ 8
theorem NKeys.mono {H H' : Hp} {kvs : NKvs} (h : NKeys H kvs) (e : ∀ b ys, H b = some (.tup ys) → H' b = some (.tup ys)) : NKeys H' kvs := fun p hp => ⟨(h p hp).1.mono e, (h p hp).2⟩
theorem NKeys.snoc {H : Hp} {kvs : NKvs} {k : NestedKey} {b : Addr} {v : V} (h : NKeys H kvs) (hk : NV H k (.ref b)) (hd : k.depth ≤ 8) : NKeys H (kvs ++ [(k, b, v)]) := fun p hp => by
  rcases List.mem_append.mp hp with m | m
  · exact h p m
  · rw [List.mem_singleton.mp m]; exact ⟨hk, hd⟩
theorem n_val {kvs : NKvs} {xs : List (NestedKey × Addr × Value)} (r : Paired nRel kvs xs) (k : NestedKey) : RelO (valN kvs k) ((atKey xs k).map (·.2)) := by
  induction r with
  | nil => exact True.intro
  | @cons p q ps qs hpq t ih =>
    obtain ⟨e1, _, e3⟩ := hpq
    unfold valN atKey at ih ⊢
    rw [List.find?_cons, List.find?_cons, ← e1]
    by_cases e : p.1 = k
    · rw [decide_eq_true e]; exact e3
    · rw [decide_eq_false e]; exact ih
theorem dn_ok {P : Program} {w : World} {H : Hp} {h : Heap} {a : Addr} {kvs : NKvs} (d : dnP P w a kvs h) : ObjOk P w H h a (DN P w a kvs) := by
  refine ⟨d, ?_, fun g1 g2 q st => ?_⟩
  · obtain ⟨_, _, _, _, o, _, _, e, _⟩ := d
    exact ⟨o, e⟩
  · obtain ⟨z, y, xs, r, o, es, ep, e, c⟩ := q
    exact ⟨z, y, xs, r, o, es, ep, st _ e, c⟩
theorem n_keys {P : Program} {w : World} {H : Hp} {h : Heap} (ok : HOk P w H h) {kvs : NKvs} {xs : List (NestedKey × Addr × Value)} (r : Paired nRel kvs xs) : NKeys H kvs → ∀ x ∈ xs, (nestedKind P w).is h x.1 x.2.1 := by
  induction r with
  | nil => intro _ x hx; cases hx
  | @cons p q ps qs hpq t ih =>
    intro hk x hx
    rcases List.mem_cons.mp hx with m | m
    · obtain ⟨n1, n2⟩ := hk p List.mem_cons_self
      rw [m, ← hpq.1, ← hpq.2.1]
      exact ⟨NV.is ok n1 rfl, n2⟩
    · exact ih (fun p' hp' => hk p' (List.mem_cons_of_mem _ hp')) x m
section
variable {X : Cx} {pins : List (Addr × Obj)} {σ : L2.St} {H : Hp} {s : Shared} {a b : Addr} {kvs : NKvs} {k : NestedKey} {A : Around} {E : Value → Shared → Prop}
theorem dn_at (I : Inv X pins σ H s) (e : H a = some (DN X.prog X.w a kvs)) (hk : NKeys H kvs) : kvs.length ≤ sizeLine ∧ (a == sysModules) = false ∧ ∃ xs, Paired nRel kvs xs ∧ s.heap.DictOfH (nestedKind X.prog X.w) a xs := by
  obtain ⟨⟨z, y, xs, r, o, es, ep, e1, e2, e3, e4, e5⟩, _⟩ := (show ObjOk X.prog X.w H s.heap a (DN X.prog X.w a kvs) from I.hok a _ e)
  exact ⟨z, y, xs, r, o, es, ep, e1, e2, e3, e4, n_keys I.hok r hk, e5⟩
theorem dn_getItem {v : V} {Q : Value → Shared → Prop} (ha : A.units + 9 < cLine) (I : Inv X pins σ H s) (e : H a = some (DN X.prog X.w a kvs)) (hk : NKeys H kvs) (nk : NV H k (.ref b)) (dk : k.depth ≤ 8) (l : valN kvs k = some v)
    (q : ∀ u s', Inv X pins σ H s' → RelV v u → Q u s') : wpAny (model X.prog X.w) A (getItem (.ref a) (.ref b)) Q E s := by
  obtain ⟨z, hd, xs, rel, dd⟩ := dn_at I e hk
  obtain ⟨u, hu, ru⟩ := RelO.some_of (v := v) (o := (atKey xs k).map (·.2)) (by rw [← l]; exact n_val rel k)
  obtain ⟨p, hp, hp2⟩ := Option.map_eq_some_iff.mp hu
  refine wpAny_getItem_heap (knd := nestedKind X.prog X.w) (by show A.in1.units + 8 < cLine; exact ha) ⟨NV.is I.hok nk rfl, dk⟩ dd hp ?_
  rw [hp2]
  exact q u _ (I.tok _) ru
theorem dn_in {Q : Value → Shared → Prop} (ha : A.units + 9 < cLine) (I : Inv X pins σ H s) (e : H a = some (DN X.prog X.w a kvs)) (hk : NKeys H kvs) (nk : NV H k (.ref b)) (dk : k.depth ≤ 8)
    (q : ∀ s', Inv X pins σ H s' → Q (.bool (valN kvs k).isSome) s') : wpAny (model X.prog X.w) A (compareOp .In (.ref b) (.ref a)) Q E s := by
  obtain ⟨z, hd, xs, rel, dd⟩ := dn_at I e hk
  refine wpAny_in_heap (knd := nestedKind X.prog X.w) (by show A.in1.units + 8 < cLine; exact ha) ⟨NV.is I.hok nk rfl, dk⟩ hd dd ?_
  have t := (n_val rel k).isSome_eq
  rw [Option.isSome_map] at t
  rw [← t]
  exact q _ (I.tok _)
theorem dn_notIn {Q : Value → Shared → Prop} (ha : A.units + 9 < cLine) (I : Inv X pins σ H s) (e : H a = some (DN X.prog X.w a kvs)) (hk : NKeys H kvs) (nk : NV H k (.ref b)) (dk : k.depth ≤ 8)
    (q : ∀ s', Inv X pins σ H s' → Q (.bool (!(valN kvs k).isSome)) s') : wpAny (model X.prog X.w) A (compareOp .NotIn (.ref b) (.ref a)) Q E s := by
  obtain ⟨z, hd, xs, rel, dd⟩ := dn_at I e hk
  refine wpAny_notIn_heap (knd := nestedKind X.prog X.w) (by show A.in1.units + 8 < cLine; exact ha) ⟨NV.is I.hok nk rfl, dk⟩ hd dd ?_
  have t := (n_val rel k).isSome_eq
  rw [Option.isSome_map] at t
  rw [← t]
  exact q _ (I.tok _)
/-- a new key is stored -/
theorem dn_setItem {v : V} {u : Value} {Q : Unit → Shared → Prop} (ha : A.units + 9 < cLine) (I : Inv X pins σ H s) (e : H a = some (DN X.prog X.w a kvs)) (hk : NKeys H kvs) (nk : NV H k (.ref b)) (dk : k.depth ≤ 8) (l : valN kvs k = none) (hl : kvs.length < sizeLine) (ru : RelV v u)
    (q : ∀ s', Inv X pins σ (upd H a (DN X.prog X.w a (kvs ++ [(k, b, v)]))) s' → Q () s') : wpAny (model X.prog X.w) A (setItem (.ref a) (.ref b) u) Q E s := by
  obtain ⟨z, hd, xs, rel, dd⟩ := dn_at I e hk
  have hz : xs.length ≤ sizeLine := by rw [← Paired.length rel]; exact z
  have hn : atKey xs k = none := by
    have t := (n_val rel k).isSome_eq
    rw [l, Option.isSome_map] at t
    cases m : atKey xs k with
    | none => rfl
    | some _ => rw [m] at t; cases t
  refine wpAny_setItem_heap (knd := nestedKind X.prog X.w) (hsz := hz) (by show A.in1.units + 8 < cLine; exact ha) ⟨NV.is I.hok nk rfl, dk⟩ dd fun h' dd' hs => q _ ?_
  rw [storedH_new hn] at dd'
  obtain ⟨o, es, ep, e1, e2, e3, e4, _, e5⟩ := dd'
  exact d_write I (by rw [e]; exact True.intro) hs ⟨o, e1⟩ (dn_ok ⟨by rw [List.length_append]; exact hl, hd, _, Paired.snoc rel ⟨rfl, rfl, ru⟩, o, es, ep, e1, e2, e3, e4, e5⟩)
end
theorem hn_of {A : Around} {k : Nat} (hr : Room k A) : A.units + 9 < cLine := by have := hr65 hr; omega
def nGetK (P : Program) (w : World) (Q : VK) (x : V) : VK := fun y J => ∃ (a b : Addr) (kvs : NKvs) (k : NestedKey) (v : V), x = .ref a ∧ y = .ref b ∧ J a = some (DN P w a kvs) ∧ NKeys J kvs ∧ NV J k (.ref b) ∧ k.depth ≤ 8 ∧ valN kvs k = some v ∧ Q v J
def tNGet (P : Program) (w : World) (td ty : TE) : TE := fun σ H Q => td σ H fun x J => ty σ J (nGetK P w Q x)
def nInK (P : Program) (w : World) (n : Bool) (Q : VK) (y : V) : VK := fun x J => ∃ (a b : Addr) (kvs : NKvs) (k : NestedKey), x = .ref a ∧ y = .ref b ∧ J a = some (DN P w a kvs) ∧ NKeys J kvs ∧ NV J k (.ref b) ∧ k.depth ≤ 8 ∧ Q (.bl (xor n (valN kvs k).isSome)) J
def tNIn (P : Program) (w : World) (n : Bool) (ty td : TE) : TE := fun σ H Q => ty σ H fun y J => td σ J (nInK P w n Q y)
def nPutK (P : Program) (w : World) (D : Ends) (σ : L2.St) (v x : V) : VK := fun y J => ∃ (a b : Addr) (kvs : NKvs) (k : NestedKey), x = .ref a ∧ y = .ref b ∧ J a = some (DN P w a kvs) ∧ NKeys J kvs ∧ NV J k (.ref b) ∧ k.depth ≤ 8 ∧ valN kvs k = none ∧ kvs.length < sizeLine ∧ D.nx σ (upd J a (DN P w a (kvs ++ [(k, b, v)])))
def sNPut (P : Program) (w : World) (td ty tv : TE) : TS := fun D σ H => tv σ H fun v H1 => td σ H1 fun x H2 => ty σ H2 (nPutK P w D σ v x)
def tNNew (P : Program) (w : World) : TE := fun _ H Q => ∀ p, H p = none → Q (.ref p) (upd H p (DN P w p []))
section
variable {X : Cx} {o i value : Expr} {pos pos' : Pos} {td ty tv : TE}
theorem pe_nget (ha : X.A.units + 9 < cLine) (po : PE X o td) (pi : PE X i ty) (ns : NoSl i) : PE X (.Subscript o i pos) (tNGet X.prog X.w td ty) := ⟨fun pins s σ H Q I q => by
  refine subD_of PySem.F.slot_dict_getitem.lookup ns (thn (po.run pins s σ H _ I q) fun u s1 ⟨x, J, IJ, rx, q1⟩ => thn (pi.run pins s1 σ J _ IJ q1) fun iv s2 ⟨y, L, IL, ry, a, b, kvs, k, v, ex, ey, e, hk, nk, dk, l, q2⟩ => ?_)
  subst ex ey
  obtain rfl : u = Value.ref a := rx
  obtain rfl : iv = Value.ref b := ry
  obtain ⟨_, _, xs, _, dd⟩ := dn_at IL e hk
  exact ⟨dd.typeIs, dn_getItem ha IL e hk nk dk l fun z s3 I3 rz => ⟨v, L, I3, rz, q2⟩⟩⟩
theorem pc_nin (ha : X.A.units + 9 < cLine) (pi : PE X i ty) (po : PE X o td) : PC X .In i o (tNIn X.prog X.w false ty td) := ⟨fun pins s σ H Q I q => by
  refine thn (pi.run pins s σ H _ I q) fun iv s1 ⟨y, J, IJ, ry, q1⟩ => thn (po.run pins s1 σ J _ IJ q1) fun u s2 ⟨x, L, IL, rx, a, b, kvs, k, ex, ey, e, hk, nk, dk, q2⟩ => ?_
  subst ex ey
  obtain rfl : u = Value.ref a := rx
  obtain rfl : iv = Value.ref b := ry
  exact dn_in ha IL e hk nk dk fun s3 I3 => ⟨.bl (valN kvs k).isSome, L, I3, rfl, by rw [Bool.false_xor] at q2; exact q2⟩⟩
theorem pc_nnotin (ha : X.A.units + 9 < cLine) (pi : PE X i ty) (po : PE X o td) : PC X .NotIn i o (tNIn X.prog X.w true ty td) := ⟨fun pins s σ H Q I q => by
  refine thn (pi.run pins s σ H _ I q) fun iv s1 ⟨y, J, IJ, ry, q1⟩ => thn (po.run pins s1 σ J _ IJ q1) fun u s2 ⟨x, L, IL, rx, a, b, kvs, k, ex, ey, e, hk, nk, dk, q2⟩ => ?_
  subst ex ey
  obtain rfl : u = Value.ref a := rx
  obtain rfl : iv = Value.ref b := ry
  exact dn_notIn ha IL e hk nk dk fun s3 I3 => ⟨.bl (!(valN kvs k).isSome), L, I3, rfl, by rw [Bool.true_xor] at q2; exact q2⟩⟩
theorem ps_nput (ha : X.A.units + 9 < cLine) (po : PE X o td) (pi : PE X i ty) (pv' : PE X value tv) (sw : swapsWith value (some (.Subscript o i pos')) pos.line X.env = pure false) : PS X (.Assign [.Subscript o i pos'] value pos) (sNPut X.prog X.w td ty tv) := ⟨fun pins s σ H D I q => by
  refine wpAny_Assign_Subscript (thn (pv'.run pins s σ H _ I q) fun r s1 ⟨v, J1, I1, rv, q1⟩ => thn (po.run pins s1 σ J1 _ I1 q1) fun u s2 ⟨x, J2, I2, rx, q2⟩ => thn (pi.run pins s2 σ J2 _ I2 q2) fun iv s3 ⟨y, J3, I3, ry, a, b, kvs, k, ex, ey, e, hk, nk, dk, l, hl, q3⟩ => ?_) sw
  subst ex ey
  obtain rfl : u = Value.ref a := rx
  obtain rfl : iv = Value.ref b := ry
  exact dn_setItem ha I3 e hk nk dk l hl rv fun s4 I4 => ⟨σ, _, I4, q3⟩⟩
theorem pe_nnew : PE X (.Dict [] [] pos) (tNNew X.prog X.w) := ⟨fun pins s σ H Q I q =>
  wpAny_Dict_empty ⟨.ref s.heap.objs.size, _, I.laid (a := s.heap.objs.size) (o := DN X.prog X.w s.heap.objs.size []) (t' := s.toks) (fun _ _ z => Heap.get?_push_of_some _ z) (Nat.le_refl _)
    (dn_ok ⟨Nat.zero_le _, beq_eq_false_iff_ne.mpr (Ne.symm (Nat.ne_of_lt I.big)), [], .nil, _, #[], 0, Heap.get?_push_size _ rfl, ⟨rfl, rfl, rfl⟩, rfl, rfl, List.nodup_nil⟩), rfl, q _ (I.hok.fresh (Nat.le_refl _))⟩⟩
end
section
variable {P : Program} {w : World} {σ : L2.St} {H : Hp} {Q : VK} {D : Ends} {td ty tv : TE} {a b : Addr} {kvs : NKvs} {k : NestedKey} {v : V} {n : Bool}
theorem q_tNGet (q : td σ H fun x J => ty σ J (nGetK P w Q x)) : tNGet P w td ty σ H Q := q
theorem q_nGetK (e : H a = some (DN P w a kvs)) (hk : NKeys H kvs) (nk : NV H k (.ref b)) (dk : k.depth ≤ 8) (l : valN kvs k = some v) (q : Q v H) : nGetK P w Q (.ref a) (.ref b) H := ⟨a, b, kvs, k, v, rfl, rfl, e, hk, nk, dk, l, q⟩
theorem q_tNIn (q : ty σ H fun y J => td σ J (nInK P w n Q y)) : tNIn P w n ty td σ H Q := q
theorem q_nInK (e : H a = some (DN P w a kvs)) (hk : NKeys H kvs) (nk : NV H k (.ref b)) (dk : k.depth ≤ 8) (q : Q (.bl (xor n (valN kvs k).isSome)) H) : nInK P w n Q (.ref b) (.ref a) H := ⟨a, b, kvs, k, rfl, rfl, e, hk, nk, dk, q⟩
theorem q_sNPut (q : tv σ H fun v H1 => td σ H1 fun x H2 => ty σ H2 (nPutK P w D σ v x)) : sNPut P w td ty tv D σ H := q
theorem q_nPutK (e : H a = some (DN P w a kvs)) (hk : NKeys H kvs) (nk : NV H k (.ref b)) (dk : k.depth ≤ 8) (l : valN kvs k = none) (hl : kvs.length < sizeLine) (q : D.nx σ (upd H a (DN P w a (kvs ++ [(k, b, v)])))) : nPutK P w D σ v (.ref a) (.ref b) H := ⟨a, b, kvs, k, rfl, rfl, e, hk, nk, dk, l, hl, q⟩
theorem q_tNNew (q : ∀ p, H p = none → Q (.ref p) (upd H p (DN P w p []))) : tNNew P w σ H Q := q
end
theorem pss_cls2 {X : Cx} {oe : Obj} {cls : Value} {d : Option Addr} {b : List Stmt} {C C2 : Addr} {t t2 : TS} (hz : Zc cls d oe) (h : Zc (.ref C) none oe → PSs X b t) (h2 : Zc (.ref C2) none oe → PSs X b t2) :
    PSs X b (fun D σ H => ((cls = .ref C ∧ d = none) ∧ t D σ H) ∨ ((cls = .ref C2 ∧ d = none) ∧ t2 D σ H)) := ⟨fun pins s σ H D I q => by
  rcases q with ⟨⟨e1, e2⟩, q⟩ | ⟨⟨e1, e2⟩, q⟩
  · rw [e1, e2] at hz; exact (h hz).run pins s σ H D I q
  · rw [e1, e2] at hz; exact (h2 hz).run pins s σ H D I q⟩
theorem passF {P : Program} {w : World} {X : Cx} : Passes (L2.CX P w) X E0 := fun _ _ _ _ _ _ _ h => by
  obtain ⟨_, _, _, _, _, _, _, _, _, _, _, _, h⟩ := h
  exact h.elim

theorem q_nxE {D : Ends} {σ : L2.St} {H : Hp} {n : L2.St → Hp → Prop} {r : VK} {b c : L2.St → Hp → Prop} (e : D = ⟨n, r, b, c⟩) (h : n σ H) : D.nx σ H := by rw [e]; exact h
theorem q_rtE {D : Ends} {v : V} {H : Hp} {n : L2.St → Hp → Prop} {r : VK} {b c : L2.St → Hp → Prop} (e : D = ⟨n, r, b, c⟩) (h : r v H) : D.rt v H := by rw [e]; exact h
theorem q_bkE {D : Ends} {σ : L2.St} {H : Hp} {n : L2.St → Hp → Prop} {r : VK} {b c : L2.St → Hp → Prop} (e : D = ⟨n, r, b, c⟩) (h : b σ H) : D.bk σ H := by rw [e]; exact h
theorem q_cnE {D : Ends} {σ : L2.St} {H : Hp} {n : L2.St → Hp → Prop} {r : VK} {b c : L2.St → Hp → Prop} (e : D = ⟨n, r, b, c⟩) (h : c σ H) : D.ct σ H := by rw [e]; exact h
theorem q_bodyG {D : Ends} {t : TS} {σ : L2.St} {H : Hp} (h : ∀ (N : L2.St → Hp → Prop) (R : VK) (B C : L2.St → Hp → Prop), (∀ σ H, D.nx σ H → N σ H) → t ⟨N, R, B, C⟩ σ H) : t D σ H := h D.nx D.rt D.bk D.ct fun _ _ q => q
/-! an attribute or an item changed by an operator; a list unpacked; the sum over a dict's keys -/
section
variable {K : PySem.W.Frag} {σ : L2.St} {H : Hp} {Q : VK} {D : Ends} {a C dx : Addr} {v : V} {i j : Int} {ta tv td ty : TE} {rd : V → V → Hp → VK → Prop} {f s : Str} {fs : List (Str × V)} {kvs : List (Key × V)}
def faug2 (rd : V → V → Hp → VK → Prop) (v : V) (f : Str) (a C : Addr) (D : Ends) (σ : L2.St) : VK := fun y H2 => rd v y H2 fun z H3 => ∃ dx' fs', H3 a = some (.ins C dx' fs') ∧ fs'.length < 1000 ∧ D.nx σ (upd H3 a (.ins C dx' (putF f z fs')))
def faugK (K : PySem.W.Frag) (tv : TE) (rd : V → V → Hp → VK → Prop) (f : Str) (D : Ends) (σ : L2.St) : VK := fun x H1 => ∃ a C dx fs v, x = .ref a ∧ H1 a = some (.ins C dx fs) ∧ Cls K C ∧ NoAttr K C f ∧ fs.lookup f = some v ∧ tv σ H1 (faug2 rd v f a C D σ)
theorem q_sFldAug (h : ta σ H (faugK K tv rd f D σ)) : sFldAug K ta tv rd f D σ H := h
theorem q_faugK (h : H a = some (.ins C dx fs)) (hc : Cls K C) (hn : NoAttr K C f) (hl : fs.lookup f = some v) (k : tv σ H (faug2 rd v f a C D σ)) : faugK K tv rd f D σ (.ref a) H := ⟨a, C, dx, fs, v, rfl, h, hc, hn, hl, k⟩
theorem q_faugA (h : H a = some (.ins C dx fs)) (hl : fs.length < 1000) (k : D.nx σ (upd H a (.ins C dx (putF f (.int (i + j)) fs)))) : faug2 rAdd (.int i) f a C D σ (.int j) H := ⟨i, j, rfl, rfl, dx, fs, h, hl, k⟩
theorem q_faugS (h : H a = some (.ins C dx fs)) (hl : fs.length < 1000) (k : D.nx σ (upd H a (.ins C dx (putF f (.int (i - j)) fs)))) : faug2 rSub (.int i) f a C D σ (.int j) H := ⟨i, j, rfl, rfl, dx, fs, h, hl, k⟩
def daug2 (rd : V → V → Hp → VK → Prop) (D : Ends) (σ : L2.St) (v : V) (a : Addr) (y : V) : VK := fun y2 H3 => rd v y2 H3 fun z H4 => ∃ H5, DPut H4 a y z H5 ∧ D.nx σ H5
def daugK (tv : TE) (rd : V → V → Hp → VK → Prop) (D : Ends) (σ : L2.St) (x : V) : VK := fun y H2 => ∃ a v, x = .ref a ∧ DGet H2 a y (some v) ∧ tv σ H2 (daug2 rd D σ v a y)
theorem q_sDAug (h : td σ H fun x H1 => ty σ H1 (daugK tv rd D σ x)) : sDAug td ty tv rd D σ H := h
theorem q_daugK (h : H a = some (.dK kvs)) (hv : valV kvs (.inr s) = some v) (k : tv σ H (daug2 rd D σ v a (.str s))) : daugK tv rd D σ (.ref a) (.str s) H := ⟨a, v, rfl, by rw [← hv]; exact DGet.k (k := Sum.inr s) h, k⟩
theorem q_daugS (h : H a = some (.dK kvs)) (hl : kvs.length < sizeLine) (k : D.nx σ (upd H a (.dK (putK kvs (.inr s) (.int (i - j)))))) : daug2 rSub D σ (.int i) a (.str s) (.int j) H := ⟨i, j, rfl, rfl, _, DPut.k (k := Sum.inr s) h hl, k⟩
theorem q_daugA (h : H a = some (.dK kvs)) (hl : kvs.length < sizeLine) (k : D.nx σ (upd H a (.dK (putK kvs (.inr s) (.int (i + j)))))) : daug2 rAdd D σ (.int i) a (.str s) (.int j) H := ⟨i, j, rfl, rfl, _, DPut.k (k := Sum.inr s) h hl, k⟩
end
def rMulStr01 : R2 := fun x y H Q => ∃ s, x = .str s ∧ ((y = .int 1 ∧ Q (.str s) H) ∨ (y = .int 0 ∧ Q (.str Str.empty) H))
theorem oq_mulStr01 {X : Cx} : OpR X (binaryOp .Mult) rMulStr01 := by
  intro pins s σ H x y v u Q I rx ry h
  obtain ⟨z, rfl, h⟩ := h
  obtain ⟨t, rfl⟩ := rx
  rcases h with ⟨rfl, q⟩ | ⟨rfl, q⟩
  · obtain ⟨t', rfl⟩ := ry
    refine PySem.P.mul_str (by decide) (fun _ h => by cases h) (fun _ h => by cases h) ?_
    rw [if_neg (show ¬ (1 : Int) < 1 by omega), if_pos (by rfl)]
    exact ⟨.str z, H, I, ⟨_, rfl⟩, q⟩
  · obtain ⟨t', rfl⟩ := ry
    exact PySem.P.mul_str_none (by decide) (by decide) ⟨.str Str.empty, H, I.tok _, ⟨_, rfl⟩, q⟩
theorem q_mul1 {H : Hp} {Q : VK} {s : Str} (k : Q (.str s) H) : rMulStr01 (.str s) (.int 1) H Q := ⟨s, rfl, .inl ⟨rfl, k⟩⟩
theorem q_mul0 {H : Hp} {Q : VK} {s : Str} (k : Q (.str Str.empty) H) : rMulStr01 (.str s) (.int 0) H Q := ⟨s, rfl, .inr ⟨rfl, k⟩⟩
theorem q_int1f {H : Hp} {Q : VK} (k : Q (.int 0) H) : rInt1 [.bl false] H Q := .inr ⟨false, rfl, k⟩
/-! a walk over a dict's own keys, reading it -/
theorem q_unl {K : PySem.W.Frag} {σ : L2.St} {H : Hp} {a : Addr} {xs : List V} {n : Nat} {tg : TGs} {R : L2.St → Hp → Prop} (h : SqL K H a xs) (hn : xs.length = n) (k : tg xs σ H R) : gUnl K n tg (.ref a) σ H R := ⟨a, xs, rfl, h, hn, k⟩
/-! while -/
section
variable {σ : L2.St} {H : Hp} {D : Ends} {c : TT} {tb : TS}
def whK (tb : TS) (D : Ends) (Pv : Nat → L2.St → Hp → Prop) (m : Nat) (σ : L2.St) : Bool → Hp → Prop := fun b H1 => if b = true then ∃ N : L2.St → Hp → Prop, (∀ σ' H', N σ' H' → ∃ m', m' < m ∧ Pv m' σ' H') ∧ tb { D with nx := N, ct := N, bk := D.nx } σ H1 else D.nx σ H1
theorem q_while (Pv : Nat → L2.St → Hp → Prop) {m0 : Nat} (h0 : Pv m0 σ H) (hs : ∀ m σ H, Pv m σ H → c σ H (whK tb D Pv m σ)) : tWhile c tb D σ H := ⟨Pv, ⟨m0, h0⟩, hs⟩
theorem q_whT {Pv : Nat → L2.St → Hp → Prop} {m : Nat} (h : tb { D with nx := fun σ' H' => ∃ m', m' < m ∧ Pv m' σ' H', ct := fun σ' H' => ∃ m', m' < m ∧ Pv m' σ' H', bk := D.nx } σ H) : whK tb D Pv m σ true H := iteT ⟨_, fun _ _ h => h, h⟩
theorem q_whF {Pv : Nat → L2.St → Hp → Prop} {m : Nat} (h : D.nx σ H) : whK tb D Pv m σ false H := iteF h
theorem q_wh2 {Pv : Nat → L2.St → Hp → Prop} {m : Nat} {b : Bool} (h : b = true → tb { D with nx := fun σ' H' => ∃ m', m' < m ∧ Pv m' σ' H', ct := fun σ' H' => ∃ m', m' < m ∧ Pv m' σ' H', bk := D.nx } σ H) (h2 : b = false → D.nx σ H) : whK tb D Pv m σ b H := by
  cases b with
  | true => exact q_whT (h rfl)
  | false => exact q_whF (h2 rfl)
end
/-! one suite for several classes; get of one argument; del of an item of a dict; index; dict of pairs -/
theorem pss_clsC {X : Cx} {oe : Obj} {cls : Value} {d : Option Addr} {b : List Stmt} {C : Addr} {t t2 : TS} (hz : Zc cls d oe) (h : Zc (.ref C) none oe → PSs X b t) (h2 : PSs X b t2) :
    PSs X b (fun D σ H => ((cls = .ref C ∧ d = none) ∧ t D σ H) ∨ t2 D σ H) := ⟨fun pins s σ H D I q => by
  rcases q with ⟨⟨e1, e2⟩, q⟩ | q
  · rw [e1, e2] at hz; exact (h hz).run pins s σ H D I q
  · exact h2.run pins s σ H D I q⟩
section
variable {K : PySem.W.Frag} {σ : L2.St} {H : Hp} {Q : VK} {D : Ends} {a l : Addr} {v : V} {i : Int} {td ty : TE} {kvs : List (Key × V)} {s : Str}
def dG1K (Q : VK) (a : Addr) : VK := fun y H2 => ∃ o, DGet H2 a y o ∧ Q (o.getD .non) H2
def dG1a (ty : TE) (σ : L2.St) (Q : VK) : VK := fun x H1 => ∃ a, x = .ref a ∧ IsD H1 a ∧ ty σ H1 (dG1K Q a)
theorem q_tDGet1 (h : td σ H (dG1a ty σ Q)) : tDGet1 td ty σ H Q := h
theorem q_dG1a (h : H a = some (.dK kvs)) (k : ty σ H (dG1K Q a)) : dG1a ty σ Q (.ref a) H := ⟨a, rfl, .inl ⟨kvs, .inl h⟩, k⟩
theorem q_dG1S (h : H a = some (.dK kvs)) (k : Q ((valV kvs (.inr s)).getD .non) H) : dG1K Q a (.str s) H := ⟨_, DGet.k (k := Sum.inr s) h, k⟩
theorem q_dG1I (h : H a = some (.dK kvs)) (k : Q ((valV kvs (.inl i)).getD .non) H) : dG1K Q a (.int i) H := ⟨_, DGet.k (k := Sum.inl i) h, k⟩
def ddelK (D : Ends) (σ : L2.St) (x : V) : VK := fun y H2 => ∃ a kvs k, x = .ref a ∧ H2 a = some (.dK kvs) ∧ y = kV k ∧ (valV kvs k).isSome = true ∧ D.nx σ (upd H2 a (.dK (dropK kvs k)))
theorem q_sDDel (h : td σ H fun x H1 => ty σ H1 (ddelK D σ x)) : sDDel td ty D σ H := h
theorem q_ddelI (h : H a = some (.dK kvs)) (hs : (valV kvs (.inl i)).isSome = true) (k : D.nx σ (upd H a (.dK (dropK kvs (.inl i))))) : ddelK D σ (.ref a) (.int i) H := ⟨a, kvs, .inl i, rfl, h, rfl, hs, k⟩
theorem q_index {ys : List V} {y z : V} {j : Nat} (h : SqL K H a ys) (hy : flatV y = true) (ha : ys.all flatV = true) (hz : ys[j]? = some z) (he : eqV z y = true) (hf : ∀ (m : Nat) (z' : V), m < j → ys[m]? = some z' → eqV z' y = false) (k : Q (.int (j : Nat)) H) : rIndex K (.ref a) [y] H Q := ⟨a, ys, y, j, z, rfl, rfl, h, hy, ha, hz, he, hf, k⟩
theorem q_dSdS' {z : V} (h : H a = some (.dK kvs)) (hl : kvs.length < sizeLine) (k1 : ∀ v, valV kvs (.inr s) = some v → Q v H) (k2 : valV kvs (.inr s) = none → Q z (upd H a (.dK (putK kvs (.inr s) z)))) : dSdK Q a (.str s) z H := ⟨kvs, .inr s, h, rfl, hl, k1, k2⟩
def rDictP (K : PySem.W.Frag) : List V → Hp → VK → Prop := fun xs H Q => ∃ (a : Addr) (ps : List Addr) (kvs : List (Key × V)), xs = [.ref a] ∧ SqL K H a (ps.map V.ref) ∧ Paired (fun p kv => SqT K H p [kV kv.1, kv.2]) ps kvs ∧ ∀ p, H p = none → Q (.ref p) (upd H p (.dK (mergeK [] kvs)))
theorem cq_dictP {X : Cx} (hc : X.calm = true) : CallR X (.type "dict") (rDictP X.K) := call_dictP hc
def rLenD' : List V → Hp → VK → Prop := rLenD
theorem q_lenD (h : H a = some (.dK kvs)) (k : Q (.int kvs.length) H) : rLenD [.ref a] H Q := ⟨a, kvs, rfl, h, k⟩
theorem q_inL' {xs : List V} {x : V} (h : SqL K H l xs) (hx : flatV x = true) (ha : xs.all flatV = true) (k : Q (.bl (!inV x xs)) H) : rIn K true x (.ref l) H Q := ⟨l, xs, rfl, .inl h, hx, ha, k⟩
theorem q_eqB {c d : Bool} (k : Q (.bl (c == d)) H) : rEq (.bl c) (.bl d) H Q := ⟨rfl, by
  have e : decide (V.bl c = V.bl d) = (c == d) := by cases c <;> cases d <;> rfl
  rw [e]; exact k⟩
end
/-! a walk over a list that its body leaves ahead of the list's end: also within an except suite -/
def tForX (K : PySem.W.Frag) (te : TE) (g : TG) (tb : TS) : TS := fun D τ L => te τ L fun v M => ∃ (a : Addr) (ys : List V) (Pv : Nat → L2.St → Hp → Prop), v = .ref a ∧ SqL K M a ys ∧ Pv 0 τ M ∧
  ∀ n τ1 L1, Pv n τ1 L1 → SqL K L1 a ys ∧ ∃ y, ys[n]? = some y ∧ g y τ1 L1 fun τ2 L2 => tb { D with nx := Pv (n + 1), ct := Pv (n + 1), bk := D.nx } τ2 L2
theorem ps_forX {X : Cx} {tg l : Expr} {bd : List Stmt} {te : TE} {g : TG} {tb : TS} {ps : Pos} (own : PassesOwn (model X.prog X.w) X.A X.env X.xe) (hl : PE X l te) (hg : PG X tg g) (hb : PSs X bd tb)
    (fs : ∀ x, foldedSetIterable l X.env x = pure x := by intro _; rfl) : PS X (.For tg l bd [] ps) (tForX X.K te g tb) := by
  refine ⟨fun pn s0 τ0 L0 D J0 q0 => ?_⟩
  refine wpAny_For (thn (hl.run pn s0 τ0 L0 _ J0 q0) fun v0 sA ⟨x0, LA, JA, rA, a, ys, Pv, e0, hys, p0, turn⟩ => ?_) fs
  subst e0
  cases rA
  obtain ⟨_, _, isl, _⟩ := JA.list hys
  refine wpAny_pyIter_list isl.isList ?_
  have fok0 : FpOk X pn LA sA.heap.objs.size := JA.fpOk (Nat.le_refl _) (JA.hok.fresh (Nat.le_refl _))
  generalize hwalk : sA.heap.objs.size = wk at *
  have JB : Inv X pn τ0 LA { sA with heap := sA.heap.push { cls := .type "list_iterator", data := .fields #[.ref a, rawInt 0] } } := JA.kept (t' := sA.toks) fun b o e => Heap.get?_push_of_some _ e
  refine codeAny_forLoop_any (fun m s => ∃ n τ L, Inv X pn τ L s ∧ s.heap.IsListIter wk a n ∧ L wk = none ∧ Pv n τ L ∧ m + n = ys.length) ?_ ys.length ⟨0, τ0, LA, JB, ⟨_, by rw [← hwalk]; exact Heap.get?_push_size _ rfl, rfl, rfl⟩, fok0.1, p0, rfl⟩
  rintro m sB ⟨n, τ1, L1, J1, it1, none1, p1, hmn⟩
  obtain ⟨hys1, y, hy, st1⟩ := turn n τ1 L1 p1
  have hlt : n < ys.length := (List.getElem?_eq_some_iff.mp hy).1
  obtain ⟨_, rv1, isl1, _⟩ := J1.list hys1
  obtain ⟨u, hu, ru⟩ := rv1.get hy
  obtain ⟨_, z1, z2, z3, z4, z5⟩ := fok0
  refine wpAny_passesOwn own (wpAny_pyNext_list_item it1 isl1.isList (x := u) (by simpa using hu) fun h' it2 sb => ?_)
  have J2 : Inv X pn τ1 L1 { sB with heap := h' } := J1.turned (t' := sB.toks) (fun b o ne e => (sb.2 b ne).trans e) none1 z1 z3 z4 z5
  obtain ⟨oi, ei, ci, di⟩ := id it2
  refine wpAny_passesOwn own (go_of (s := { sB with heap := h' }) ei ci di (by decide) ?_)
  have hnc : ∀ v, oi.data ≠ .cell v := fun v z => by rw [di] at z; cases z
  have J3 : Inv X (pn ++ pinsAt [wk] h') τ1 L1 { sB with heap := h' } := J2.pinned (fun b hb => by rw [List.mem_singleton.mp hb]; exact ⟨none1, z1, z2, z3, z4, z5⟩) fun b hb => by rw [List.mem_singleton.mp hb]; exact ⟨oi, ei, hnc⟩
  have back : ∀ {τ L s}, Inv X (pn ++ pinsAt [wk] h') τ L s → Pv (n + 1) τ L → ∃ k, k < m ∧ ∃ n τ L, Inv X pn τ L s ∧ s.heap.IsListIter wk a n ∧ L wk = none ∧ Pv n τ L ∧ k + n = ys.length := fun {τ L s} J p => by
    obtain ⟨r1, r2, _⟩ := J.pin (wk, oi) (List.mem_append_right _ (List.mem_append_right _ (mem_pinsAt (List.mem_singleton.mpr rfl) ei)))
    exact ⟨m - 1, by omega, n + 1, τ, L, J.unpinned, ⟨oi, r1, ci, di⟩, r2, p, by omega⟩
  refine wpAny_passesOwn own (thn (hg.run _ _ τ1 L1 y u _ J3 ru st1) fun _ sC ⟨τ2, L2, J4, q4⟩ => ?_)
  refine wpAny_passesOwn own (thn (hb.run _ sC τ2 L2 _ J4 q4) fun fl sD q5 => ?_)
  cases fl with
  | next => obtain ⟨τ5, L5, J5, p5⟩ := q5; exact back J5 p5
  | cont => obtain ⟨τ5, L5, J5, p5⟩ := q5; exact back J5 p5
  | brk => obtain ⟨τ5, L5, J5, p5⟩ := q5; exact ⟨τ5, L5, J5.unpinned, p5⟩
  | ret v => obtain ⟨x5, τ5, L5, J5, r5, p5⟩ := q5; exact ⟨x5, τ5, L5, J5.unpinned, r5, p5⟩
theorem q_forX {K : PySem.W.Frag} {τ : L2.St} {M : Hp} {te : TE} {g : TG} {tb : TS} {D : Ends} (h : te τ M fun v M => ∃ (a : Addr) (ys : List V) (Pv : Nat → L2.St → Hp → Prop), v = .ref a ∧ SqL K M a ys ∧ Pv 0 τ M ∧
  ∀ n τ1 L1, Pv n τ1 L1 → SqL K L1 a ys ∧ ∃ y, ys[n]? = some y ∧ g y τ1 L1 fun τ2 L2 => tb { D with nx := Pv (n + 1), ct := Pv (n + 1), bk := D.nx } τ2 L2) : tForX K te g tb D τ M := h
theorem ps_forXK {K : PySem.W.Frag} {X : Cx} {tg l : Expr} {bd : List Stmt} {te : TE} {g : TG} {tb : TS} {ps : Pos} (hK : X.K = K) (own : PassesOwn (model X.prog X.w) X.A X.env X.xe) (hl : PE X l te) (hg : PG X tg g) (hb : PSs X bd tb)
    (fs : ∀ x, foldedSetIterable l X.env x = pure x := by intro _; rfl) : PS X (.For tg l bd [] ps) (tForX K te g tb) := hK ▸ ps_forX own hl hg hb fs
theorem ix_tupK {K : PySem.W.Frag} {X : Cx} (hK : X.K = K) : IxR X (rIxT K) := hK ▸ ix_tup
theorem ix_listK {K : PySem.W.Frag} {X : Cx} (hK : X.K = K) : IxR X (rIxL K) := hK ▸ ix_list
def mkA (C : Addr) (sp : Sp) (E : XK) (Q : VK) : List V → Hp → Prop := fun vs J => ∀ x dx, J x = none → J dx = none → dx ≠ x → sp (.ref x :: vs) (upd (upd J dx (.own x)) x (.ins C dx [])) (fun v L => v = .non ∧ Q (.ref x) L) E
theorem q_tMake {C : Addr} {sp : Sp} {E : XK} {t : TA} {σ : L2.St} {H : Hp} {Q : VK} (h : t σ H (mkA C sp E Q)) : tMake C sp [] E t σ H Q := by
  unfold tMake
  have e : mkA C sp E Q = fun vs J => ∀ x dx, J x = none → J dx = none → dx ≠ x → sp (.ref x :: (vs ++ [])) (upd (upd J dx (.own x)) x (.ins C dx [])) (fun v L => v = .non ∧ Q (.ref x) L) E := by
    funext vs J
    unfold mkA
    rw [List.append_nil]
  rw [← e]
  exact h

local macro_rules | `(tactic| walk_at "my_rd") => `(tactic| (repeat first
  | with_reducible refine q_tCons ?_
  | ((with_reducible apply q_var); (focus (exact rfl)))
  | with_reducible refine q_c ?_
  | ((with_reducible apply q_nxE); (focus (with_reducible exact rfl)))
  | with_reducible refine q_bK ?_
  | with_reducible refine q_call ?_
  | with_reducible refine q_callK ?_
  | with_reducible refine q_tNil ?_
  | with_reducible refine q_cb ?_
  | with_reducible refine q_seq ?_
  | with_reducible refine q_asg ?_
  | with_reducible refine q_gName ?_
  | with_reducible refine q_op ?_
  | with_reducible refine q_test ?_
  | with_reducible refine q_tB ?_
  | with_reducible refine q_ifS ?_
  | with_reducible refine q_ret ?_
  | ((with_reducible apply q_rtE); (focus (with_reducible exact rfl)))
  | with_reducible refine q_next ?_
  | with_reducible refine q_ifF ?_
  | with_reducible refine q_ifT ?_
  | with_reducible refine q_drop ?_
  | with_reducible refine q_and ?_
  | with_reducible refine q_or ?_
  | with_reducible refine q_andT ?_
  | with_reducible refine q_andF ?_
  | with_reducible refine q_orF ?_
  | with_reducible refine q_orT ?_
  | with_reducible refine q_andV ?_
  | with_reducible refine q_andVT ?_
  | with_reducible refine q_andVF ?_
  | with_reducible refine q_orV ?_
  | with_reducible refine q_gCons ?_
  | with_reducible refine q_gNil ?_
  | with_reducible refine q_tup ?_
  | with_reducible refine q_lst ?_
  | with_reducible refine q_not ?_
  | with_reducible refine q_notKT ?_
  | with_reducible refine q_notKF ?_
  | with_reducible refine q_I0 ?_
  | with_reducible refine q_eqI ?_
  | with_reducible refine q_neI ?_
  | ((with_reducible refine q_I ?_ ?_); first | decide | omega | exact ⟨by omega, by omega⟩ | exact ⟨by decide, by decide⟩ | exact .inl ⟨by omega, by omega⟩ | exact .inr ⟨by omega, by omega⟩ | exact .inr ⟨by decide, by decide⟩)
  | with_reducible refine q_eqS ?_
  | with_reducible refine q_neS ?_
  | with_reducible refine q_brk ?_
  | with_reducible refine q_ct ?_
  | ((with_reducible apply q_bkE); (focus (with_reducible exact rfl)))
  | ((with_reducible apply q_cnE); (focus (with_reducible exact rfl)))
  | with_reducible refine q_retN ?_
  | with_reducible refine q_gSub ?_
  | with_reducible refine q_for ?_
  | with_reducible refine q_iList ?_
  | with_reducible refine q_iTup ?_
  | with_reducible refine q_iRng1 ?_
  | with_reducible refine q_notK ?_
  | with_reducible refine q_orVT ?_
  | with_reducible refine q_orVF ?_
  | with_reducible refine q_notV ?_
  | with_reducible refine q_notVK ?_
  | with_reducible refine q_ifE ?_
  | with_reducible refine q_ifET ?_
  | with_reducible refine q_ifEF ?_
  | with_reducible refine q_yes ?_
  | with_reducible refine q_un ?_
  | with_reducible refine q_rU ?_
  | with_reducible refine q_abs ?_
  | with_reducible refine q_int1 ?_
  | with_reducible refine q_bm ?_
  | with_reducible refine q_bm0 ?_
  | with_reducible refine q_lc ?_
  | with_reducible refine q_keepT ?_
  | with_reducible refine q_keepF ?_
  | ((with_reducible apply q_aug); (focus (exact rfl)))
  | with_reducible refine q_ipI ?_
  | with_reducible refine q_chain ?_
  | with_reducible refine q_pairC ?_
  | with_reducible refine q_pairsK ?_
  | with_reducible refine q_pairN ?_
  | with_reducible refine q_fld ?_
  | with_reducible refine q_sFld ?_
  | with_reducible refine q_meth ?_
  | with_reducible refine q_makeK ?_
  | with_reducible refine q_isBl ?_
  | with_reducible refine q_notBl ?_
  | with_reducible refine q_sl ?_
  | with_reducible refine q_noPart ?_
  | with_reducible refine q_part ?_
  | with_reducible refine q_partK ?_
  | ((with_reducible apply q_mulStr); (focus (decide +kernel)))
  | with_reducible refine q_chT ?_
  | with_reducible refine q_chF ?_
  | with_reducible refine q_ord ?_
  | with_reducible refine q_iStr0 ?_
  | with_reducible refine q_iStr ?_
  | with_reducible refine q_tDIn ?_
  | with_reducible refine q_tDNotIn ?_
  | with_reducible refine q_tDGet ?_
  | with_reducible refine q_tDGet2 ?_
  | with_reducible refine q_tDGet1 ?_
  | with_reducible refine q_tDSetd ?_
  | ((with_reducible apply q_dG2a); (focus ((repeat first | (with_reducible exact upd_same) | (with_reducible assumption) | (with_reducible apply upd_new (by assumption)) | (with_reducible apply upd_other (by first | assumption | exact Ne.symm (by assumption))) | (with_reducible refine' Kp.get (by assumption) ?_ (by first | assumption | exact Ne.symm (by assumption))) | (with_reducible apply Same.get (by assumption))); done)))
  | ((with_reducible apply q_dSda); (focus ((repeat first | (with_reducible exact upd_same) | (with_reducible assumption) | (with_reducible apply upd_new (by assumption)) | (with_reducible apply upd_other (by first | assumption | exact Ne.symm (by assumption))) | (with_reducible refine' Kp.get (by assumption) ?_ (by first | assumption | exact Ne.symm (by assumption))) | (with_reducible apply Same.get (by assumption))); done)))
  | with_reducible refine q_sDPut ?_
  | ((with_reducible apply q_dInS); (focus ((repeat first | (with_reducible exact upd_same) | (with_reducible assumption) | (with_reducible apply upd_new (by assumption)) | (with_reducible apply upd_other (by first | assumption | exact Ne.symm (by assumption))) | (with_reducible refine' Kp.get (by assumption) ?_ (by first | assumption | exact Ne.symm (by assumption))) | (with_reducible apply Same.get (by assumption))); done)))
  | ((with_reducible apply q_dNInS); (focus ((repeat first | (with_reducible exact upd_same) | (with_reducible assumption) | (with_reducible apply upd_new (by assumption)) | (with_reducible apply upd_other (by first | assumption | exact Ne.symm (by assumption))) | (with_reducible refine' Kp.get (by assumption) ?_ (by first | assumption | exact Ne.symm (by assumption))) | (with_reducible apply Same.get (by assumption))); done)))
  | ((with_reducible apply q_dInI); (focus ((repeat first | (with_reducible exact upd_same) | (with_reducible assumption) | (with_reducible apply upd_new (by assumption)) | (with_reducible apply upd_other (by first | assumption | exact Ne.symm (by assumption))) | (with_reducible refine' Kp.get (by assumption) ?_ (by first | assumption | exact Ne.symm (by assumption))) | (with_reducible apply Same.get (by assumption))); done)))
  | ((with_reducible apply q_dNInI); (focus ((repeat first | (with_reducible exact upd_same) | (with_reducible assumption) | (with_reducible apply upd_new (by assumption)) | (with_reducible apply upd_other (by first | assumption | exact Ne.symm (by assumption))) | (with_reducible refine' Kp.get (by assumption) ?_ (by first | assumption | exact Ne.symm (by assumption))) | (with_reducible apply Same.get (by assumption))); done)))
  | ((with_reducible apply q_bmL); (focus ((repeat first | (with_reducible exact upd_same) | (with_reducible assumption) | (with_reducible apply upd_new (by assumption)) | (with_reducible apply upd_other (by first | assumption | exact Ne.symm (by assumption))) | (with_reducible refine' Kp.get (by assumption) ?_ (by first | assumption | exact Ne.symm (by assumption))) | (with_reducible apply Same.get (by assumption))); done)))
  | ((with_reducible apply q_bmL0); (focus ((repeat first | (with_reducible exact upd_same) | (with_reducible assumption) | (with_reducible apply upd_new (by assumption)) | (with_reducible apply upd_other (by first | assumption | exact Ne.symm (by assumption))) | (with_reducible refine' Kp.get (by assumption) ?_ (by first | assumption | exact Ne.symm (by assumption))) | (with_reducible apply Same.get (by assumption))); done)))
  | ((with_reducible apply q_ixLt); (focus ((repeat first | (with_reducible exact upd_same) | (with_reducible assumption) | (with_reducible apply upd_new (by assumption)) | (with_reducible apply upd_other (by first | assumption | exact Ne.symm (by assumption))) | (with_reducible refine' Kp.get (by assumption) ?_ (by first | assumption | exact Ne.symm (by assumption))) | (with_reducible apply Same.get (by assumption))); done)); (focus (exact rfl)))
  | ((with_reducible apply q_ixTt); (focus ((repeat first | (with_reducible exact upd_same) | (with_reducible assumption) | (with_reducible apply upd_new (by assumption)) | (with_reducible apply upd_other (by first | assumption | exact Ne.symm (by assumption))) | (with_reducible refine' Kp.get (by assumption) ?_ (by first | assumption | exact Ne.symm (by assumption))) | (with_reducible apply Same.get (by assumption))); done)); (focus (exact rfl)))
  | ((with_reducible apply q_lenLt); (focus ((repeat first | (with_reducible exact upd_same) | (with_reducible assumption) | (with_reducible apply upd_new (by assumption)) | (with_reducible apply upd_other (by first | assumption | exact Ne.symm (by assumption))) | (with_reducible refine' Kp.get (by assumption) ?_ (by first | assumption | exact Ne.symm (by assumption))) | (with_reducible apply Same.get (by assumption))); done)))
  | ((with_reducible apply q_lenTt); (focus ((repeat first | (with_reducible exact upd_same) | (with_reducible assumption) | (with_reducible apply upd_new (by assumption)) | (with_reducible apply upd_other (by first | assumption | exact Ne.symm (by assumption))) | (with_reducible refine' Kp.get (by assumption) ?_ (by first | assumption | exact Ne.symm (by assumption))) | (with_reducible apply Same.get (by assumption))); done)))
  | ((with_reducible apply q_append); (focus ((repeat first | (with_reducible exact upd_same) | (with_reducible assumption) | (with_reducible apply upd_new (by assumption)) | (with_reducible apply upd_other (by first | assumption | exact Ne.symm (by assumption))) | (with_reducible refine' Kp.get (by assumption) ?_ (by first | assumption | exact Ne.symm (by assumption))) | (with_reducible apply Same.get (by assumption))); done)); (focus ((first | (exact Nat.lt_of_ble_eq_true rfl) | (simp only [List.length_append, List.length_cons, List.length_nil, List.length_map]; exact small1000 (by omega))))))
  | ((with_reducible apply q_setL); (focus ((repeat first | (with_reducible exact upd_same) | (with_reducible assumption) | (with_reducible apply upd_new (by assumption)) | (with_reducible apply upd_other (by first | assumption | exact Ne.symm (by assumption))) | (with_reducible refine' Kp.get (by assumption) ?_ (by first | assumption | exact Ne.symm (by assumption))) | (with_reducible apply Same.get (by assumption))); done)); (focus (exact rfl)))
  | with_reducible refine q_ifNT ?_
  | with_reducible refine q_ifNF ?_
  | with_reducible refine q_andNT ?_
  | with_reducible refine q_andNF ?_
  | with_reducible refine q_orNT ?_
  | with_reducible refine q_orNF ?_
  | with_reducible refine q_bKNT ?_
  | with_reducible refine q_bKNF ?_
  | with_reducible refine q_tNGet ?_
  | with_reducible refine q_tNIn ?_
  | with_reducible refine q_sNPut ?_
  | with_reducible refine q_sFldAug ?_
  | with_reducible refine q_sDAug ?_
  | with_reducible refine q_sDDel ?_
  | with_reducible refine q_forX ?_
  | with_reducible refine q_tMake ?_
  | ((with_reducible apply q_dG1a); (focus ((repeat first | (with_reducible exact upd_same) | (with_reducible assumption) | (with_reducible apply upd_new (by assumption)) | (with_reducible apply upd_other (by first | assumption | exact Ne.symm (by assumption))) | (with_reducible refine' Kp.get (by assumption) ?_ (by first | assumption | exact Ne.symm (by assumption))) | (with_reducible apply Same.get (by assumption))); done)))))
def top (i : Nat) : Stmt := PySem.Challenge.pw_vaultbridge_k21_one_set_for_each_epoch.main.body.getD i (.Pass ⟨0, 0, 0, 0⟩)
abbrev s_is_integer : Stmt := top 12
theorem sc_is_integer : FnScope ["value"] ["value"] (defScope s_is_integer) := ⟨rfl, rfl, rfl, by decide +kernel, rfl, by decide +kernel, by decide +kernel⟩
abbrev s_is_at_least : Stmt := top 13
theorem sc_is_at_least : FnScope ["value", "least"] ["value", "least"] (defScope s_is_at_least) := ⟨rfl, rfl, rfl, by decide +kernel, rfl, by decide +kernel, by decide +kernel⟩
abbrev s_is_text : Stmt := top 14
theorem sc_is_text : FnScope ["value", "char", "code"] ["value"] (defScope s_is_text) := ⟨rfl, rfl, rfl, by decide +kernel, rfl, by decide +kernel, by decide +kernel⟩
abbrev s_is_short_text : Stmt := top 15
theorem sc_is_short_text : FnScope ["value", "most"] ["value", "most"] (defScope s_is_short_text) := ⟨rfl, rfl, rfl, by decide +kernel, rfl, by decide +kernel, by decide +kernel⟩
abbrev s_is_account : Stmt := top 16
theorem sc_is_account : FnScope ["value"] ["value"] (defScope s_is_account) := ⟨rfl, rfl, rfl, by decide +kernel, rfl, by decide +kernel, by decide +kernel⟩
abbrev s_is_side : Stmt := top 17
theorem sc_is_side : FnScope ["value"] ["value"] (defScope s_is_side) := ⟨rfl, rfl, rfl, by decide +kernel, rfl, by decide +kernel, by decide +kernel⟩
abbrev s_is_set : Stmt := top 19
theorem sc_is_set : FnScope ["value", "found", "part"] ["value"] (defScope s_is_set) := ⟨rfl, rfl, rfl, by decide +kernel, rfl, by decide +kernel, by decide +kernel⟩
abbrev s_is_pair : Stmt := top 20
theorem sc_is_pair : FnScope ["part"] ["part"] (defScope s_is_pair) := ⟨rfl, rfl, rfl, by decide +kernel, rfl, by decide +kernel, by decide +kernel⟩
abbrev s_approve : Stmt := top 22
theorem sc_approve : FnScope ["journal", "number", "guards", "entry", "steps", "other"] ["journal", "number", "guards"] (defScope s_approve) := ⟨rfl, rfl, rfl, by decide +kernel, rfl, by decide +kernel, by decide +kernel⟩
abbrev s_is_transfer : Stmt := top 27
theorem sc_is_transfer : FnScope ["value", "token", "units", "fee", "sender", "receiver", "deadline"] ["value"] (defScope s_is_transfer) := ⟨rfl, rfl, rfl, by decide +kernel, rfl, by decide +kernel, by decide +kernel⟩
abbrev s_is_bundle : Stmt := top 28
theorem sc_is_bundle : FnScope ["value", "part"] ["value"] (defScope s_is_bundle) := ⟨rfl, rfl, rfl, by decide +kernel, rfl, by decide +kernel, by decide +kernel⟩
abbrev s_is_letter : Stmt := top 29
theorem sc_is_letter : FnScope ["value", "kind", "side", "number", "body"] ["value"] (defScope s_is_letter) := ⟨rfl, rfl, rfl, by decide +kernel, rfl, by decide +kernel, by decide +kernel⟩
abbrev s_Notes_init : Stmt := inClass (top 31) 0
theorem sc_Notes_init : FnScope ["self"] ["self"] (defScope s_Notes_init) := ⟨rfl, rfl, rfl, by decide +kernel, rfl, by decide +kernel, by decide +kernel⟩
abbrev s_Notes_add : Stmt := inClass (top 31) 1
theorem sc_Notes_add : FnScope ["self", "row"] ["self", "row"] (defScope s_Notes_add) := ⟨rfl, rfl, rfl, by decide +kernel, rfl, by decide +kernel, by decide +kernel⟩
abbrev s_Notes_rows : Stmt := inClass (top 31) 2
theorem sc_Notes_rows : FnScope ["self"] ["self"] (defScope s_Notes_rows) := ⟨rfl, rfl, rfl, by decide +kernel, rfl, by decide +kernel, by decide +kernel⟩
abbrev s_Notes_flush : Stmt := inClass (top 31) 3
theorem sc_Notes_flush : FnScope ["self"] ["self"] (defScope s_Notes_flush) := ⟨rfl, rfl, rfl, by decide +kernel, rfl, by decide +kernel, by decide +kernel⟩
abbrev s_Notes_crash : Stmt := inClass (top 31) 4
theorem sc_Notes_crash : FnScope ["self", "lost", "kept"] ["self", "lost"] (defScope s_Notes_crash) := ⟨rfl, rfl, rfl, by decide +kernel, rfl, by decide +kernel, by decide +kernel⟩
abbrev s_Machine_init : Stmt := inClass (top 33) 0
theorem sc_Machine_init : FnScope ["self", "name", "notary"] ["self", "name", "notary"] (defScope s_Machine_init) := ⟨rfl, rfl, rfl, by decide +kernel, rfl, by decide +kernel, by decide +kernel⟩
abbrev s_Machine_journal : Stmt := inClass (top 33) 1
theorem sc_Machine_journal : FnScope ["self"] ["self"] (defScope s_Machine_journal) := ⟨rfl, rfl, rfl, by decide +kernel, rfl, by decide +kernel, by decide +kernel⟩
abbrev s_Machine_carry_out : Stmt := inClass (top 33) 2
theorem sc_Machine_carry_out : FnScope ["self", "steps", "count", "seals", "step", "word"] ["self", "steps", "count"] (defScope s_Machine_carry_out) := ⟨rfl, rfl, rfl, by decide +kernel, rfl, by decide +kernel, by decide +kernel⟩
abbrev s_Machine_crash : Stmt := inClass (top 33) 3
theorem sc_Machine_crash : FnScope ["self", "lost"] ["self", "lost"] (defScope s_Machine_crash) := ⟨rfl, rfl, rfl, by decide +kernel, rfl, by decide +kernel, by decide +kernel⟩
abbrev s_Notary_init : Stmt := inClass (top 35) 0
theorem sc_Notary_init : FnScope ["self"] ["self"] (defScope s_Notary_init) := ⟨rfl, rfl, rfl, by decide +kernel, rfl, by decide +kernel, by decide +kernel⟩
abbrev s_Notary_seal : Stmt := inClass (top 35) 1
theorem sc_Notary_seal : FnScope ["self", "guard", "letter", "entry"] ["self", "guard", "letter"] (defScope s_Notary_seal) := ⟨rfl, rfl, rfl, by decide +kernel, rfl, by decide +kernel, by decide +kernel⟩
abbrev s_Notary_count : Stmt := inClass (top 35) 2
theorem sc_Notary_count : FnScope ["self"] ["self"] (defScope s_Notary_count) := ⟨rfl, rfl, rfl, by decide +kernel, rfl, by decide +kernel, by decide +kernel⟩
abbrev s_Notary_check_seals : Stmt := inClass (top 35) 3
theorem sc_Notary_check_seals : FnScope ["self", "seals", "number"] ["self", "seals"] (defScope s_Notary_check_seals) := ⟨rfl, rfl, rfl, by decide +kernel, rfl, by decide +kernel, by decide +kernel⟩
abbrev s_Notary_shown : Stmt := inClass (top 35) 4
theorem sc_Notary_shown : FnScope ["self", "number"] ["self", "number"] (defScope s_Notary_shown) := ⟨rfl, rfl, rfl, by decide +kernel, rfl, by decide +kernel, by decide +kernel⟩
abbrev s_Notary_weight : Stmt := inClass (top 35) 5
theorem sc_Notary_weight : FnScope ["self", "guards", "letter", "seals", "sealers", "number", "guard", "sealed", "part"] ["self", "guards", "letter", "seals"] (defScope s_Notary_weight) := ⟨rfl, rfl, rfl, by decide +kernel, rfl, by decide +kernel, by decide +kernel⟩
abbrev s_L_pot : Stmt := top 37
theorem sc_L_pot : FnScope ["script", "seed", "cell"] ["script"] (defScope s_L_pot) := ⟨rfl, rfl, rfl, by decide +kernel, rfl, by decide +kernel, by decide +kernel⟩
abbrev s_L_next : Stmt := top 38
theorem sc_L_next : FnScope ["pot", "limit", "mixed", "cell", "found"] ["pot", "limit"] (defScope s_L_next) := ⟨rfl, rfl, rfl, by decide +kernel, rfl, by decide +kernel, by decide +kernel⟩
abbrev s_L_is_int : Stmt := top 39
theorem sc_L_is_int : FnScope ["value"] ["value"] (defScope s_L_is_int) := ⟨rfl, rfl, rfl, by decide +kernel, rfl, by decide +kernel, by decide +kernel⟩
abbrev s_L_set : Stmt := top 40
theorem sc_L_set : FnScope ["pot", "most", "names", "found", "k"] ["pot", "most"] (defScope s_L_set) := ⟨rfl, rfl, rfl, by decide +kernel, rfl, by decide +kernel, by decide +kernel⟩
abbrev s_L_steps : Stmt := top 41
theorem sc_L_steps : FnScope ["journal", "number", "guards", "e"] ["journal", "number", "guards"] (defScope s_L_steps) := ⟨rfl, rfl, rfl, by decide +kernel, rfl, by decide +kernel, by decide +kernel⟩
abbrev s_L_due : Stmt := top 42
theorem sc_L_due : FnScope ["journal", "number", "guards", "steps", "entry"] ["journal", "number", "guards"] (defScope s_L_due) := ⟨rfl, rfl, rfl, by decide +kernel, rfl, by decide +kernel, by decide +kernel⟩
abbrev s_law : Stmt := top 43
theorem sc_law : FnScope ["script", "pot", "notary", "machine", "sets", "journal", "flushed", "k", "chosen", "number", "lost", "guards", "due", "steps", "guard", "letter", "count", "seals", "step"] ["script"] (defScope s_law) := ⟨rfl, rfl, rfl, by decide +kernel, rfl, by decide +kernel, by decide +kernel⟩
structure Txt (K : PySem.W.Frag) (mg : Str → Option Value) where
  f_is_integer : Addr
  d_is_integer : FuncData
  F_is_integer : Fun K "is_integer" "is_integer" s_is_integer f_is_integer d_is_integer
  b_is_integer : Binds K d_is_integer ["value"] []
  g_is_integer : mg "is_integer" = some (.ref f_is_integer)
  f_is_at_least : Addr
  d_is_at_least : FuncData
  F_is_at_least : Fun K "is_at_least" "is_at_least" s_is_at_least f_is_at_least d_is_at_least
  b_is_at_least : Binds K d_is_at_least ["value", "least"] []
  g_is_at_least : mg "is_at_least" = some (.ref f_is_at_least)
  f_is_text : Addr
  d_is_text : FuncData
  F_is_text : Fun K "is_text" "is_text" s_is_text f_is_text d_is_text
  b_is_text : Binds K d_is_text ["value"] []
  g_is_text : mg "is_text" = some (.ref f_is_text)
  f_is_short_text : Addr
  d_is_short_text : FuncData
  F_is_short_text : Fun K "is_short_text" "is_short_text" s_is_short_text f_is_short_text d_is_short_text
  b_is_short_text : Binds K d_is_short_text ["value", "most"] []
  g_is_short_text : mg "is_short_text" = some (.ref f_is_short_text)
  f_is_account : Addr
  d_is_account : FuncData
  F_is_account : Fun K "is_account" "is_account" s_is_account f_is_account d_is_account
  b_is_account : Binds K d_is_account ["value"] []
  g_is_account : mg "is_account" = some (.ref f_is_account)
  f_is_side : Addr
  d_is_side : FuncData
  F_is_side : Fun K "is_side" "is_side" s_is_side f_is_side d_is_side
  b_is_side : Binds K d_is_side ["value"] []
  g_is_side : mg "is_side" = some (.ref f_is_side)
  f_is_set : Addr
  d_is_set : FuncData
  F_is_set : Fun K "is_set" "is_set" s_is_set f_is_set d_is_set
  b_is_set : Binds K d_is_set ["value"] []
  g_is_set : mg "is_set" = some (.ref f_is_set)
  f_is_pair : Addr
  d_is_pair : FuncData
  F_is_pair : Fun K "is_pair" "is_pair" s_is_pair f_is_pair d_is_pair
  b_is_pair : Binds K d_is_pair ["part"] []
  g_is_pair : mg "is_pair" = some (.ref f_is_pair)
  f_approve : Addr
  d_approve : FuncData
  F_approve : Fun K "approve" "approve" s_approve f_approve d_approve
  b_approve : Binds K d_approve ["journal", "number", "guards"] []
  g_approve : mg "approve" = some (.ref f_approve)
  f_is_transfer : Addr
  d_is_transfer : FuncData
  F_is_transfer : Fun K "is_transfer" "is_transfer" s_is_transfer f_is_transfer d_is_transfer
  b_is_transfer : Binds K d_is_transfer ["value"] []
  g_is_transfer : mg "is_transfer" = some (.ref f_is_transfer)
  f_is_bundle : Addr
  d_is_bundle : FuncData
  F_is_bundle : Fun K "is_bundle" "is_bundle" s_is_bundle f_is_bundle d_is_bundle
  b_is_bundle : Binds K d_is_bundle ["value"] []
  g_is_bundle : mg "is_bundle" = some (.ref f_is_bundle)
  f_is_letter : Addr
  d_is_letter : FuncData
  F_is_letter : Fun K "is_letter" "is_letter" s_is_letter f_is_letter d_is_letter
  b_is_letter : Binds K d_is_letter ["value"] []
  g_is_letter : mg "is_letter" = some (.ref f_is_letter)
  f_Notes_init : Addr
  d_Notes_init : FuncData
  F_Notes_init : Fun K "__init__" "Notes.__init__" s_Notes_init f_Notes_init d_Notes_init
  b_Notes_init : Binds K d_Notes_init ["self"] []
  f_Notes_add : Addr
  d_Notes_add : FuncData
  F_Notes_add : Fun K "add" "Notes.add" s_Notes_add f_Notes_add d_Notes_add
  b_Notes_add : Binds K d_Notes_add ["self", "row"] []
  f_Notes_rows : Addr
  d_Notes_rows : FuncData
  F_Notes_rows : Fun K "rows" "Notes.rows" s_Notes_rows f_Notes_rows d_Notes_rows
  b_Notes_rows : Binds K d_Notes_rows ["self"] []
  f_Notes_flush : Addr
  d_Notes_flush : FuncData
  F_Notes_flush : Fun K "flush" "Notes.flush" s_Notes_flush f_Notes_flush d_Notes_flush
  b_Notes_flush : Binds K d_Notes_flush ["self"] []
  f_Notes_crash : Addr
  d_Notes_crash : FuncData
  F_Notes_crash : Fun K "crash" "Notes.crash" s_Notes_crash f_Notes_crash d_Notes_crash
  b_Notes_crash : Binds K d_Notes_crash ["self", "lost"] []
  f_Machine_init : Addr
  d_Machine_init : FuncData
  F_Machine_init : Fun K "__init__" "Machine.__init__" s_Machine_init f_Machine_init d_Machine_init
  b_Machine_init : Binds K d_Machine_init ["self", "name", "notary"] []
  f_Machine_journal : Addr
  d_Machine_journal : FuncData
  F_Machine_journal : Fun K "journal" "Machine.journal" s_Machine_journal f_Machine_journal d_Machine_journal
  b_Machine_journal : Binds K d_Machine_journal ["self"] []
  f_Machine_carry_out : Addr
  d_Machine_carry_out : FuncData
  F_Machine_carry_out : Fun K "carry_out" "Machine.carry_out" s_Machine_carry_out f_Machine_carry_out d_Machine_carry_out
  b_Machine_carry_out : Binds K d_Machine_carry_out ["self", "steps", "count"] []
  f_Machine_crash : Addr
  d_Machine_crash : FuncData
  F_Machine_crash : Fun K "crash" "Machine.crash" s_Machine_crash f_Machine_crash d_Machine_crash
  b_Machine_crash : Binds K d_Machine_crash ["self", "lost"] []
  f_Notary_init : Addr
  d_Notary_init : FuncData
  F_Notary_init : Fun K "__init__" "Notary.__init__" s_Notary_init f_Notary_init d_Notary_init
  b_Notary_init : Binds K d_Notary_init ["self"] []
  f_Notary_seal : Addr
  d_Notary_seal : FuncData
  F_Notary_seal : Fun K "seal" "Notary.seal" s_Notary_seal f_Notary_seal d_Notary_seal
  b_Notary_seal : Binds K d_Notary_seal ["self", "guard", "letter"] []
  f_Notary_count : Addr
  d_Notary_count : FuncData
  F_Notary_count : Fun K "count" "Notary.count" s_Notary_count f_Notary_count d_Notary_count
  b_Notary_count : Binds K d_Notary_count ["self"] []
  f_Notary_check_seals : Addr
  d_Notary_check_seals : FuncData
  F_Notary_check_seals : Fun K "check_seals" "Notary.check_seals" s_Notary_check_seals f_Notary_check_seals d_Notary_check_seals
  b_Notary_check_seals : Binds K d_Notary_check_seals ["self", "seals"] []
  f_Notary_shown : Addr
  d_Notary_shown : FuncData
  F_Notary_shown : Fun K "shown" "Notary.shown" s_Notary_shown f_Notary_shown d_Notary_shown
  b_Notary_shown : Binds K d_Notary_shown ["self", "number"] []
  f_Notary_weight : Addr
  d_Notary_weight : FuncData
  F_Notary_weight : Fun K "weight" "Notary.weight" s_Notary_weight f_Notary_weight d_Notary_weight
  b_Notary_weight : Binds K d_Notary_weight ["self", "guards", "letter", "seals"] []
  f_L_pot : Addr
  d_L_pot : FuncData
  F_L_pot : Fun K "_law_pot" "_law_pot" s_L_pot f_L_pot d_L_pot
  b_L_pot : Binds K d_L_pot ["script"] []
  g_L_pot : mg "_law_pot" = some (.ref f_L_pot)
  f_L_next : Addr
  d_L_next : FuncData
  F_L_next : Fun K "_law_next" "_law_next" s_L_next f_L_next d_L_next
  b_L_next : Binds K d_L_next ["pot", "limit"] []
  g_L_next : mg "_law_next" = some (.ref f_L_next)
  f_L_is_int : Addr
  d_L_is_int : FuncData
  F_L_is_int : Fun K "_law_is_int" "_law_is_int" s_L_is_int f_L_is_int d_L_is_int
  b_L_is_int : Binds K d_L_is_int ["value"] []
  g_L_is_int : mg "_law_is_int" = some (.ref f_L_is_int)
  f_L_set : Addr
  d_L_set : FuncData
  F_L_set : Fun K "_law_set" "_law_set" s_L_set f_L_set d_L_set
  b_L_set : Binds K d_L_set ["pot", "most"] []
  g_L_set : mg "_law_set" = some (.ref f_L_set)
  f_L_steps : Addr
  d_L_steps : FuncData
  F_L_steps : Fun K "_law_steps" "_law_steps" s_L_steps f_L_steps d_L_steps
  b_L_steps : Binds K d_L_steps ["journal", "number", "guards"] []
  g_L_steps : mg "_law_steps" = some (.ref f_L_steps)
  f_L_due : Addr
  d_L_due : FuncData
  F_L_due : Fun K "_law_due" "_law_due" s_L_due f_L_due d_L_due
  b_L_due : Binds K d_L_due ["journal", "number", "guards"] []
  g_L_due : mg "_law_due" = some (.ref f_L_due)
  f_law : Addr
  d_law : FuncData
  F_law : Fun K "law" "law" s_law f_law d_law
  b_law : Binds K d_law ["script"] []
  g_law : mg "law" = some (.ref f_law)
  C_BridgeError : Addr
  g_BridgeError : mg "BridgeError" = some (.ref C_BridgeError)
  xe_BridgeError : PySem.W.excIn K C_BridgeError [.type "ValueError", .type "Exception", .type "BaseException", .type "object"] "ValueError.__new__" = true
  ke_BridgeError : PySem.W.keepIn K (.ref C_BridgeError) = true
  be_BridgeError : PySem.W.subIn K (.ref C_BridgeError) (.type "BaseException") = some true
  te_BridgeError : PySem.W.typeIn K (.ref C_BridgeError) = some (.type "type")
  ie_BridgeError : PySem.W.isClsIn K C_BridgeError = true
  se_BridgeError : PySem.W.subIn K (.ref C_BridgeError) (.ref C_BridgeError) = some true
  hd_BridgeError : PySem.W.hasDictIn K C_BridgeError = true
  C_InvalidArgument : Addr
  g_InvalidArgument : mg "InvalidArgument" = some (.ref C_InvalidArgument)
  xe_InvalidArgument : PySem.W.excIn K C_InvalidArgument [.type "ValueError", .type "Exception", .type "BaseException", .type "object"] "ValueError.__new__" = true
  ke_InvalidArgument : PySem.W.keepIn K (.ref C_InvalidArgument) = true
  be_InvalidArgument : PySem.W.subIn K (.ref C_InvalidArgument) (.type "BaseException") = some true
  te_InvalidArgument : PySem.W.typeIn K (.ref C_InvalidArgument) = some (.type "type")
  ie_InvalidArgument : PySem.W.isClsIn K C_InvalidArgument = true
  se_InvalidArgument : PySem.W.subIn K (.ref C_InvalidArgument) (.ref C_InvalidArgument) = some true
  hg_InvalidArgument : PySem.W.findIn K (.ref C_InvalidArgument) "__getattribute__" = some (some (.builtin "BaseException.__getattribute__"))
  hk_InvalidArgument : PySem.W.findIn K (.ref C_InvalidArgument) "__getattr__" = some none
  hd_InvalidArgument : PySem.W.hasDictIn K C_InvalidArgument = true
  ha_InvalidArgument : PySem.W.findIn K (.ref C_InvalidArgument) "__class__" = some (some (.builtin "object.__class__"))
  hm_InvalidArgument : PySem.W.mroIn K C_InvalidArgument (.type "object") = some true
  hn_InvalidArgument : PySem.W.specialIn K (.builtin "object.__class__") "__get__" = some (some (.builtin "getset_descriptor.__get__"))
  ht_InvalidArgument : PySem.W.takesIn K (.builtin "object.__class__") = some true
  ue_InvalidArgument : PySem.W.subIn K (.ref C_InvalidArgument) (.ref C_BridgeError) = some true
  C_InvalidOrder : Addr
  g_InvalidOrder : mg "InvalidOrder" = some (.ref C_InvalidOrder)
  xe_InvalidOrder : PySem.W.excIn K C_InvalidOrder [.type "ValueError", .type "Exception", .type "BaseException", .type "object"] "ValueError.__new__" = true
  ke_InvalidOrder : PySem.W.keepIn K (.ref C_InvalidOrder) = true
  be_InvalidOrder : PySem.W.subIn K (.ref C_InvalidOrder) (.type "BaseException") = some true
  te_InvalidOrder : PySem.W.typeIn K (.ref C_InvalidOrder) = some (.type "type")
  ie_InvalidOrder : PySem.W.isClsIn K C_InvalidOrder = true
  se_InvalidOrder : PySem.W.subIn K (.ref C_InvalidOrder) (.ref C_InvalidOrder) = some true
  ue_InvalidOrder : PySem.W.subIn K (.ref C_InvalidOrder) (.ref C_BridgeError) = some true
  C_UnknownSeal : Addr
  g_UnknownSeal : mg "UnknownSeal" = some (.ref C_UnknownSeal)
  xe_UnknownSeal : PySem.W.excIn K C_UnknownSeal [.type "ValueError", .type "Exception", .type "BaseException", .type "object"] "ValueError.__new__" = true
  ke_UnknownSeal : PySem.W.keepIn K (.ref C_UnknownSeal) = true
  be_UnknownSeal : PySem.W.subIn K (.ref C_UnknownSeal) (.type "BaseException") = some true
  te_UnknownSeal : PySem.W.typeIn K (.ref C_UnknownSeal) = some (.type "type")
  ie_UnknownSeal : PySem.W.isClsIn K C_UnknownSeal = true
  se_UnknownSeal : PySem.W.subIn K (.ref C_UnknownSeal) (.ref C_UnknownSeal) = some true
  ue_UnknownSeal : PySem.W.subIn K (.ref C_UnknownSeal) (.ref C_BridgeError) = some true
  C_AlreadyApproved : Addr
  g_AlreadyApproved : mg "AlreadyApproved" = some (.ref C_AlreadyApproved)
  xe_AlreadyApproved : PySem.W.excIn K C_AlreadyApproved [.type "ValueError", .type "Exception", .type "BaseException", .type "object"] "ValueError.__new__" = true
  ke_AlreadyApproved : PySem.W.keepIn K (.ref C_AlreadyApproved) = true
  be_AlreadyApproved : PySem.W.subIn K (.ref C_AlreadyApproved) (.type "BaseException") = some true
  te_AlreadyApproved : PySem.W.typeIn K (.ref C_AlreadyApproved) = some (.type "type")
  ie_AlreadyApproved : PySem.W.isClsIn K C_AlreadyApproved = true
  se_AlreadyApproved : PySem.W.subIn K (.ref C_AlreadyApproved) (.ref C_AlreadyApproved) = some true
  hg_AlreadyApproved : PySem.W.findIn K (.ref C_AlreadyApproved) "__getattribute__" = some (some (.builtin "BaseException.__getattribute__"))
  hk_AlreadyApproved : PySem.W.findIn K (.ref C_AlreadyApproved) "__getattr__" = some none
  hd_AlreadyApproved : PySem.W.hasDictIn K C_AlreadyApproved = true
  ha_AlreadyApproved : PySem.W.findIn K (.ref C_AlreadyApproved) "__class__" = some (some (.builtin "object.__class__"))
  hm_AlreadyApproved : PySem.W.mroIn K C_AlreadyApproved (.type "object") = some true
  hn_AlreadyApproved : PySem.W.specialIn K (.builtin "object.__class__") "__get__" = some (some (.builtin "getset_descriptor.__get__"))
  ht_AlreadyApproved : PySem.W.takesIn K (.builtin "object.__class__") = some true
  ue_AlreadyApproved : PySem.W.subIn K (.ref C_AlreadyApproved) (.ref C_BridgeError) = some true
  C_Notes : Addr
  cl_Notes : Cls K C_Notes
  g_Notes : mg "Notes" = some (.ref C_Notes)
  mk_Notes : Mk K C_Notes f_Notes_init
  m_Notes_add : Meth K C_Notes "add" f_Notes_add
  m_Notes_rows : Meth K C_Notes "rows" f_Notes_rows
  m_Notes_flush : Meth K C_Notes "flush" f_Notes_flush
  m_Notes_crash : Meth K C_Notes "crash" f_Notes_crash
  n_Notes_rows : NoAttr K C_Notes "_rows"
  n_Notes_flushed : NoAttr K C_Notes "_flushed"
  C_Machine : Addr
  cl_Machine : Cls K C_Machine
  g_Machine : mg "Machine" = some (.ref C_Machine)
  mk_Machine : Mk K C_Machine f_Machine_init
  m_Machine_journal : Meth K C_Machine "journal" f_Machine_journal
  m_Machine_carry_out : Meth K C_Machine "carry_out" f_Machine_carry_out
  m_Machine_crash : Meth K C_Machine "crash" f_Machine_crash
  n_Machine_name : NoAttr K C_Machine "_name"
  n_Machine_notary : NoAttr K C_Machine "_notary"
  n_Machine_notes : NoAttr K C_Machine "_notes"
  C_Notary : Addr
  cl_Notary : Cls K C_Notary
  g_Notary : mg "Notary" = some (.ref C_Notary)
  mk_Notary : Mk K C_Notary f_Notary_init
  m_Notary_seal : Meth K C_Notary "seal" f_Notary_seal
  m_Notary_count : Meth K C_Notary "count" f_Notary_count
  m_Notary_check_seals : Meth K C_Notary "check_seals" f_Notary_check_seals
  m_Notary_shown : Meth K C_Notary "shown" f_Notary_shown
  m_Notary_weight : Meth K C_Notary "weight" f_Notary_weight
  n_Notary_table : NoAttr K C_Notary "_table"
  n_Notary_numbers : NoAttr K C_Notary "_numbers"
  a_ABOUT_ALL : Addr
  c_ABOUT_ALL : mg "ABOUT_ALL" = some (.ref a_ABOUT_ALL)
  k_ABOUT_ALL : SqTK K a_ABOUT_ALL [.str "stop", .str "resume"]
  a_ABOUT_ONE : Addr
  c_ABOUT_ONE : mg "ABOUT_ONE" = some (.ref a_ABOUT_ONE)
  k_ABOUT_ONE : SqTK K a_ABOUT_ONE [.str "deliver", .str "return", .str "cancel"]
  t_ACCOUNT_LENGTH : Tok
  c_ACCOUNT_LENGTH : mg "ACCOUNT_LENGTH" = some (.int 20 t_ACCOUNT_LENGTH)
  t_BARRED_CODE : Tok
  c_BARRED_CODE : mg "BARRED_CODE" = some (.int 37 t_BARRED_CODE)
  t_FIRST_CODE : Tok
  c_FIRST_CODE : mg "FIRST_CODE" = some (.int 32 t_FIRST_CODE)
  t_LAST_CODE : Tok
  c_LAST_CODE : mg "LAST_CODE" = some (.int 126 t_LAST_CODE)
  t_MOST_TRANSFERS : Tok
  c_MOST_TRANSFERS : mg "MOST_TRANSFERS" = some (.int 8 t_MOST_TRANSFERS)
  a_SIDES : Addr
  c_SIDES : mg "SIDES" = some (.ref a_SIDES)
  k_SIDES : SqTK K a_SIDES [.str "west", .str "east"]
  z_abs : mg "abs" = none
  z_all : mg "all" = none
  z_bool : mg "bool" = none
  z_int : mg "int" = none
  z_isinstance : mg "isinstance" = none
  z_len : mg "len" = none
  z_list : mg "list" = none
  z_max : mg "max" = none
  z_min : mg "min" = none
  z_ord : mg "ord" = none
  z_range : mg "range" = none
  z_str : mg "str" = none
  z_sum : mg "sum" = none
  z_tuple : mg "tuple" = none
  hq_AlreadyApproved_InvalidArgument : PySem.W.kitOne K (.ref C_AlreadyApproved) (.ref C_InvalidArgument) = some false
  hq_InvalidArgument_AlreadyApproved : PySem.W.kitOne K (.ref C_InvalidArgument) (.ref C_AlreadyApproved) = some false
theorem Txt.ec_AlreadyApproved {K : PySem.W.Frag} {mg : Str → Option Value} (T : Txt K mg) : ExcC K T.C_AlreadyApproved := ⟨T.hg_AlreadyApproved, T.hk_AlreadyApproved, T.be_AlreadyApproved, T.hd_AlreadyApproved, T.ha_AlreadyApproved, T.hn_AlreadyApproved, T.ht_AlreadyApproved, T.hm_AlreadyApproved⟩
theorem Txt.hi_AlreadyApproved {K : PySem.W.Frag} {mg : Str → Option Value} (T : Txt K mg) : PySem.W.kitOne K (.ref T.C_AlreadyApproved) (.ref T.C_AlreadyApproved) = some true := by
  unfold PySem.W.kitOne
  rw [if_pos (beq_self_eq_true _)]
theorem Txt.ex_AlreadyApproved {K : PySem.W.Frag} {mg : Str → Option Value} (T : Txt K mg) : PySem.W.exmOne K (.ref T.C_AlreadyApproved) (.ref T.C_BridgeError) = some true := PySem.W.exm_ref T.be_BridgeError T.hd_BridgeError T.te_BridgeError T.ue_AlreadyApproved
theorem Txt.ec_InvalidArgument {K : PySem.W.Frag} {mg : Str → Option Value} (T : Txt K mg) : ExcC K T.C_InvalidArgument := ⟨T.hg_InvalidArgument, T.hk_InvalidArgument, T.be_InvalidArgument, T.hd_InvalidArgument, T.ha_InvalidArgument, T.hn_InvalidArgument, T.ht_InvalidArgument, T.hm_InvalidArgument⟩
theorem Txt.hi_InvalidArgument {K : PySem.W.Frag} {mg : Str → Option Value} (T : Txt K mg) : PySem.W.kitOne K (.ref T.C_InvalidArgument) (.ref T.C_InvalidArgument) = some true := by
  unfold PySem.W.kitOne
  rw [if_pos (beq_self_eq_true _)]
theorem Txt.ex_InvalidArgument {K : PySem.W.Frag} {mg : Str → Option Value} (T : Txt K mg) : PySem.W.exmOne K (.ref T.C_InvalidArgument) (.ref T.C_BridgeError) = some true := PySem.W.exm_ref T.be_BridgeError T.hd_BridgeError T.te_BridgeError T.ue_InvalidArgument
/-! the law's own numbers -/
def PotAt (H : Hp) (p l : Addr) : Prop := ∃ (ns : List Int) (i c s : Int), H p = some (.lst [.ref l, .int i, .int c, .int s]) ∧ H l = some (.lst (ns.map V.int)) ∧ 0 ≤ i ∧ 0 ≤ c ∧ 0 ≤ s ∧ s < 2147483647 ∧ ns.length ≤ 1000 ∧ p ≠ l
theorem PotAt.at {H : Hp} {p l : Addr} (h : PotAt H p l) : ∃ o, H p = some o := by
  obtain ⟨ns, i, c, s, h1, _⟩ := h; exact ⟨_, h1⟩
theorem PotAt.atl {H : Hp} {p l : Addr} (h : PotAt H p l) : ∃ o, H l = some o := by
  obtain ⟨ns, i, c, s, _, h1, _⟩ := h; exact ⟨_, h1⟩
theorem PotAt.same {H H' : Hp} {p l : Addr} (h : PotAt H p l) (e : Same H H') : PotAt H' p l := by
  obtain ⟨ns, i, c, s, h1, h2, r⟩ := h; exact ⟨ns, i, c, s, e _ _ h1, e _ _ h2, r⟩
theorem PotAt.upd {H : Hp} {p l a : Addr} {o : HO} (h : PotAt H p l) (n1 : a ≠ p) (n2 : a ≠ l) : PotAt (L2.upd H a o) p l := by
  obtain ⟨ns, i, c, s, h1, h2, r⟩ := h; exact ⟨ns, i, c, s, upd_other n1.symm h1, upd_other n2.symm h2, r⟩
theorem PotAt.new {H : Hp} {p l a : Addr} {o : HO} (h : PotAt H p l) (n : H a = none) : PotAt (L2.upd H a o) p l := by
  obtain ⟨ns, i, c, s, h1, h2, r⟩ := h; exact ⟨ns, i, c, s, upd_new n h1, upd_new n h2, r⟩
theorem PotAt.nep {H : Hp} {p l a : Addr} (h : PotAt H p l) (n : H a = none) : a ≠ p := by
  obtain ⟨o, h1⟩ := h.at; exact (ne_of_none h1 n).symm
theorem PotAt.nel {H : Hp} {p l a : Addr} (h : PotAt H p l) (n : H a = none) : a ≠ l := by
  obtain ⟨o, h1⟩ := h.atl; exact (ne_of_none h1 n).symm
def sp_pot (K : PySem.W.Frag) : Sp := fun vs H Q _ => ∃ (a : Addr) (ns : List Int), vs = [.ref a] ∧ SqL K H a (ns.map V.int) ∧ ns.length ≤ 63 ∧ ∀ (p l : Addr) (H' : Hp), H p = none → H l = none → PotAt H' p l → Same H H' → Q (.ref p) H'
def sp_next : Sp := fun vs H Q _ => ∃ (p l : Addr) (n : Int), vs = [.ref p, .int n] ∧ PotAt H p l ∧ 0 < n ∧ n < 1000000000 ∧ ∀ (r : Int) (H' : Hp), 0 ≤ r → r < n → PotAt H' p l → Kp p H H' → Q (.int r) H'
section
variable {P : Program} {w : World} {K : PySem.W.Frag} {mg : Str → Option Value} {base : Heap}
theorem map_at {ns : List Int} {i : Nat} {x : V} (h : (ns.map V.int)[i]? = some x) : ∃ z, x = .int z := by
  rw [List.getElem?_map] at h
  cases e : ns[i]? with
  | none => rw [e] at h; cases h
  | some z => rw [e] at h; exact ⟨z, (Option.some.inj h).symm⟩
theorem ok_L_pot (T : Txt K mg) : FnOk P w K mg base CX0 1 T.f_L_pot T.d_L_pot ["script"] (sp_pot K) := by
  refine T.F_L_pot.ok sc_L_pot (fun vs H Q E h => ?_) (fun cdv A outer s H vs Q E hr h => ?_)
  · obtain ⟨a, ns, rfl, _⟩ := h; rfl
  · obtain ⟨a, ns, rfl, hS, hlen, k⟩ := h
    refine ⟨_, (pss_cons (ps_set (i := 1) sc_L_pot.nd rfl (Or.inl rfl) pe_int)
      (pss_cons (ps_for PassesOwn.never rfl (pi_list (pv 0)) (pg_name (i := 2) sc_L_pot.nd rfl (Or.inl rfl))
        (pss_one (ps_set (i := 1) sc_L_pot.nd rfl (Or.inl rfl) (pe_op op_mod (pe_callTy cq_int1 (by rfl) T.z_int boot_int (pa_cons (pe_op op_add (pe_op op_mul (pv 1) pe_int) (pv 2)) pa_nil)) pe_int))))
      (pss_one (ps_ret (pe_lst (pa_cons (pe_callTy cq_listOf (by rfl) T.z_list boot_list (pa_cons (pv 0) pa_nil)) (pa_cons pe_int (pa_cons pe_int (pa_cons (pv 1) pa_nil))))))))), ?_⟩
    (dsimp only [cxOf, Cx.nox, Cx.wish, L2.start, List.map, List.length, List.replicate, List.cons_append, List.nil_append, List.append_eq, Nat.reduceSub, Nat.reduceAdd])
    walk_at "my_rd"
    refine q_forL hS (fun i σ H2 => ∃ (z : Int) (v : Option V), σ = [some (.ref a), some (.int z), v] ∧ H2 = H ∧ 0 ≤ z ∧ z < 2147483647) ⟨1, none, rfl, rfl, by omega, by omega⟩ (fun i σ H2 _ ⟨_, _, _, e, _⟩ => e ▸ hS) ?_ ?_
    · rintro i x σ H2 hx ⟨z, v, rfl, rfl, h0, h1⟩
      obtain ⟨y, rfl⟩ := map_at hx
      walk_at "my_rd"
      exact ⟨_, _, rfl, rfl, Int.emod_nonneg _ (by decide), Int.emod_lt_of_pos _ (by decide)⟩
    · rintro σ H2 ⟨z, v, rfl, rfl, h0, h1⟩
      walk_at "my_rd"
      refine q_listL hS fun l nl => ?_
      walk_at "my_rd"
      refine q_lstK (Nat.le_of_ble_eq_true rfl) fun p np => ?_
      walk_at "my_rd"
      refine k p l _ (upd_none_back np) nl ⟨ns, 0, 0, z, upd_same, upd_new np upd_same, by omega, by omega, h0, h1, by omega, ?_⟩ (Same.new (Same.new (Same.refl _) nl) (upd_none_back np))
      exact upd_none_ne np
theorem ok_L_next (T : Txt K mg) : FnOk P w K mg base CX0 1 T.f_L_next T.d_L_next ["pot", "limit"] sp_next := by
  refine T.F_L_next.ok sc_L_next (fun vs H Q E h => ?_) (fun cdv A outer s H vs Q E hr h => ?_)
  · obtain ⟨p, l, n, rfl, _⟩ := h; rfl
  · obtain ⟨p, l, n, rfl, ⟨ns, i, c, z, hp, hl, hi, hc, hz0, hz1, hns, hpl⟩, hn, hn2, k⟩ := h
    refine ⟨_, (Evl.pss_cut (ps_if (PW.pt (pw_and (pt_cmpR op_eq (pe_ix ix_list (pv 0) pe_int (fun _ _ => rfl)) pe_int (nomark _)) (pw_and1 (pt_cmpR op_lt (pe_ix ix_list (pv 0) pe_int (fun _ _ => rfl)) (pe_callB cq_len (by rfl) T.z_len boot_len (pa_cons (pe_ix ix_list (pv 0) pe_int (fun _ _ => rfl)) pa_nil)) (nomark _))))) (pss_cons (ps_set (i := 3) sc_L_next.nd rfl (Or.inl rfl) (pe_callB cq_abs (by rfl) T.z_abs boot_abs (pa_cons (pe_callTy cq_int1 (by rfl) T.z_int boot_int (pa_cons (pe_ix ix_list (pe_ix ix_list (pv 0) pe_int (fun _ _ => rfl)) (pe_ix ix_list (pv 0) pe_int (fun _ _ => rfl)) (fun _ _ => rfl)) pa_nil)) pa_nil)))
      (pss_cons (ps_asg (pe_op op_add (pe_ix ix_list (pv 0) pe_int (fun _ _ => rfl)) pe_int) (pg_sub (pv 0) pe_int set_list))
      (pss_cons (ps_if (pt_cmpR op_lt (pv 3) (pe_op op_pow pe_int pe_int) (nomark _)) (pss_one (ps_ret (pe_op op_mod (pe_callTy cq_int1 (by rfl) T.z_int boot_int (pa_cons (pv 3) pa_nil)) (pv 1)))) pss_nil)
      (pss_one (ps_asg (pv 3) (pg_sub (pv 0) pe_int set_list)))))) pss_nil)
      (pss_cons (ps_if (pt_cmpR op_gt (pe_ix ix_list (pv 0) pe_int (fun _ _ => rfl)) pe_int (nomark _)) (pss_cons (ps_set (i := 4) sc_L_next.nd rfl (Or.inl rfl) (pe_op op_mod (pe_callTy cq_int1 (by rfl) T.z_int boot_int (pa_cons (pe_ix ix_list (pv 0) pe_int (fun _ _ => rfl)) pa_nil)) (pv 1)))
      (pss_cons (ps_asg (pe_op op_fdiv (pe_ix ix_list (pv 0) pe_int (fun _ _ => rfl)) (pv 1)) (pg_sub (pv 0) pe_int set_list))
      (pss_one (ps_ret (pv 4))))) pss_nil)
      (pss_cons (ps_asg (pe_op op_mod (pe_callTy cq_int1 (by rfl) T.z_int boot_int (pa_cons (pe_op op_add (pe_op op_mul (pe_ix ix_list (pv 0) pe_int (fun _ _ => rfl)) pe_int) pe_int) pa_nil)) pe_int) (pg_sub (pv 0) pe_int set_list))
      (pss_cons (ps_set (i := 2) sc_L_next.nd rfl (Or.inl rfl) (pe_op op_mod (pe_callTy cq_int1 (by rfl) T.z_int boot_int (pa_cons (pe_op op_add (pe_op op_mul (pe_ix ix_list (pv 0) pe_int (fun _ _ => rfl)) pe_int) (pe_op op_fdiv (pe_ix ix_list (pv 0) pe_int (fun _ _ => rfl)) pe_int)) pa_nil)) pe_int))
      (pss_one (ps_ret (pe_op op_mod (pe_callTy cq_int1 (by rfl) T.z_int boot_int (pa_cons (pv 2) pa_nil)) (pv 1)))))))), ?_⟩
    (dsimp only [cxOf, Cx.nox, Cx.wish, L2.start, List.map, List.length, List.replicate, List.cons_append, List.nil_append, List.append_eq, Nat.reduceSub, Nat.reduceAdd])
    refine q_cut (Mid := fun σ' H' => ∃ (cell : Option V) (i c : Int), σ' = [some (.ref p), some (.int n), none, cell, none] ∧ H' p = some (.lst [.ref l, .int i, .int c, .int z]) ∧ H' l = some (.lst (ns.map V.int)) ∧ 0 ≤ i ∧ 0 ≤ c ∧ Kp p H H') ?_ ?_
    · walk_at "my_rd"
      refine q_and2 (fun h1 => ?_) (fun _ => ?_)
      · walk_at "my_rd"
        refine q_if2 (fun h2 => ?_) (fun _ => ?_)
        · have h2 := dec_t h2
          rw [List.length_map] at h2
          have hi2 : i.toNat < ns.length := by omega
          have ha : atI (ns.map V.int) i = some (V.int ns[i.toNat]) := at_int (n := i.toNat) (by omega) (by rw [List.getElem?_map, List.getElem?_eq_getElem hi2]; rfl)
          walk_at "my_rd"
          refine q_ixLt hl ha ?_
          walk_at "my_rd"
          refine q_if2 (fun h3 => ?_) (fun h3 => ?_)
          · walk_at "my_rd"
            refine k _ _ (Int.emod_nonneg _ (by omega)) (Int.emod_lt_of_pos _ hn) ⟨ns, i + 1, c, z, upd_same, upd_other hpl.symm hl, by omega, hc, hz0, hz1, hns, hpl⟩ (Kp.upd Kp.refl)
          · walk_at "my_rd"
            refine ⟨_, i + 1, _, rfl, upd_same, upd_other hpl.symm (upd_other hpl.symm hl), by omega, ?_, Kp.upd (Kp.upd Kp.refl)⟩
            split <;> omega
        · walk_at "my_rd"
          exact ⟨none, i, c, rfl, hp, hl, hi, hc, Kp.refl⟩
      · walk_at "my_rd"
        exact ⟨none, i, c, rfl, hp, hl, hi, hc, Kp.refl⟩
    · clear hp hl hi hc i c
      rintro σ' H2 ⟨cell, i, c, rfl, hp, hl, hi, hc, kp⟩
      walk_at "my_rd"
      refine q_if2 (fun h1 => ?_) (fun h1 => ?_)
      · have h1 := dec_t h1
        walk_at "my_rd"
        refine k _ _ (Int.emod_nonneg _ (by omega)) (Int.emod_lt_of_pos _ hn) ⟨ns, i, c / n, z, upd_same, upd_other hpl.symm hl, hi, Int.ediv_nonneg hc (by omega), hz0, hz1, hns, hpl⟩ (Kp.upd kp)
      · walk_at "my_rd"
        refine k _ _ (Int.emod_nonneg _ (by omega)) (Int.emod_lt_of_pos _ hn) ⟨ns, i, c, _, upd_same, upd_other hpl.symm hl, hi, hc, Int.emod_nonneg _ (by decide), Int.emod_lt_of_pos _ (by decide), hns, hpl⟩ (Kp.upd kp)
end

/-- rows that stand as tuples -/
structure RowsAt {α : Type} (f : α → List V) (H : Hp) (xs : List V) (rs : List α) : Prop where
  len : xs.length = rs.length
  at_ : ∀ (i : Nat) (r : α), rs[i]? = some r → ∃ a, xs[i]? = some (.ref a) ∧ H a = some (.tup (f r))
theorem RowsAt.mono {α : Type} {f : α → List V} {H H' : Hp} {xs : List V} {rs : List α} (h : RowsAt f H xs rs) (e : ∀ b ys, H b = some (.tup ys) → H' b = some (.tup ys)) : RowsAt f H' xs rs :=
  ⟨h.len, fun i r hr => by obtain ⟨a, h1, h2⟩ := h.at_ i r hr; exact ⟨a, h1, e _ _ h2⟩⟩
theorem RowsAt.same {α : Type} {f : α → List V} {H H' : Hp} {xs : List V} {rs : List α} (h : RowsAt f H xs rs) (e : Same H H') : RowsAt f H' xs rs := h.mono fun b ys q => e b _ q
theorem RowsAt.item {α : Type} {f : α → List V} {H : Hp} {xs : List V} {rs : List α} (h : RowsAt f H xs rs) {i : Nat} {x : V} (hx : xs[i]? = some x) : ∃ r a, rs[i]? = some r ∧ x = .ref a ∧ H a = some (.tup (f r)) := by
  have hi : i < rs.length := by rw [← h.len]; exact (List.getElem?_eq_some_iff.mp hx).1
  obtain ⟨a, h1, h2⟩ := h.at_ i rs[i] (List.getElem?_eq_getElem hi)
  exact ⟨rs[i], a, List.getElem?_eq_getElem hi, Option.some.inj (hx.symm.trans h1), h2⟩
theorem RowsAt.nil {α : Type} {f : α → List V} {H : Hp} : RowsAt f H [] [] := ⟨rfl, fun i r h => by simp at h⟩
theorem RowsAt.snoc {α : Type} {f : α → List V} {H : Hp} {xs : List V} {rs : List α} {a : Addr} {r : α} (h : RowsAt f H xs rs) (ha : H a = some (.tup (f r))) : RowsAt f H (xs ++ [.ref a]) (rs ++ [r]) := by
  refine ⟨by rw [List.length_append, List.length_append, h.len]; rfl, fun i g' hg => ?_⟩
  by_cases hi : i < rs.length
  · rw [List.getElem?_append_left hi] at hg
    rw [List.getElem?_append_left (by rw [h.len]; exact hi)]
    exact h.at_ i g' hg
  · have hi' : i = rs.length := by
      have := (List.getElem?_eq_some_iff.mp hg).1
      rw [List.length_append] at this
      simp at this
      omega
    subst hi'
    rw [List.getElem?_append_right (Nat.le_refl _)] at hg
    simp at hg
    subst hg
    refine ⟨a, ?_, ha⟩
    rw [List.getElem?_append_right (by rw [h.len]; exact Nat.le_refl _), h.len]
    simp

/-! sets of guards as data: names with weights -/
abbrev Gs := List (Str × Int)
def wsum (gs : Gs) : Int := (gs.map (·.2)).sum
structure PairsAt (H : Hp) (xs : List V) (gs : Gs) : Prop where
  len : xs.length = gs.length
  at_ : ∀ (i : Nat) (g : Str × Int), gs[i]? = some g → ∃ a, xs[i]? = some (.ref a) ∧ H a = some (.tup [.str g.1, .int g.2])
theorem PairsAt.nil {H : Hp} : PairsAt H [] [] := ⟨rfl, fun i g h => by simp at h⟩
theorem PairsAt.mono {H H' : Hp} {xs : List V} {gs : Gs} (h : PairsAt H xs gs) (e : ∀ b ys, H b = some (.tup ys) → H' b = some (.tup ys)) : PairsAt H' xs gs :=
  ⟨h.len, fun i g hg => by obtain ⟨a, h1, h2⟩ := h.at_ i g hg; exact ⟨a, h1, e _ _ h2⟩⟩
theorem PairsAt.same {H H' : Hp} {xs : List V} {gs : Gs} (h : PairsAt H xs gs) (e : Same H H') : PairsAt H' xs gs := h.mono fun b ys q => e b _ q
theorem PairsAt.item {H : Hp} {xs : List V} {gs : Gs} (h : PairsAt H xs gs) {i : Nat} {x : V} (hx : xs[i]? = some x) : ∃ g a, gs[i]? = some g ∧ x = .ref a ∧ H a = some (.tup [.str g.1, .int g.2]) := by
  have hi : i < gs.length := by rw [← h.len]; exact (List.getElem?_eq_some_iff.mp hx).1
  obtain ⟨a, h1, h2⟩ := h.at_ i gs[i] (List.getElem?_eq_getElem hi)
  exact ⟨gs[i], a, List.getElem?_eq_getElem hi, Option.some.inj (hx.symm.trans h1), h2⟩
theorem PairsAt.snoc {H : Hp} {xs : List V} {gs : Gs} {a : Addr} {g : Str × Int} (h : PairsAt H xs gs) (ha : H a = some (.tup [.str g.1, .int g.2])) : PairsAt H (xs ++ [.ref a]) (gs ++ [g]) := by
  refine ⟨by rw [List.length_append, List.length_append, h.len]; rfl, fun i g' hg => ?_⟩
  by_cases hi : i < gs.length
  · rw [List.getElem?_append_left hi] at hg
    rw [List.getElem?_append_left (by rw [h.len]; exact hi)]
    exact h.at_ i g' hg
  · have hi' : i = gs.length := by
      have := (List.getElem?_eq_some_iff.mp hg).1
      rw [List.length_append] at this
      simp at this
      omega
    subst hi'
    rw [List.getElem?_append_right (Nat.le_refl _)] at hg
    simp at hg
    subst hg
    refine ⟨a, ?_, ha⟩
    rw [List.getElem?_append_right (by rw [h.len]; exact Nat.le_refl _), h.len]
    simp
theorem take_snoc {α : Type} {l : List α} {i : Nat} {x : α} (h : l[i]? = some x) : l.take (i + 1) = l.take i ++ [x] := by
  rw [List.take_add_one, h]; rfl
theorem wsum_snoc (gs : Gs) (g : Str × Int) : wsum (gs ++ [g]) = wsum gs + g.2 := by
  unfold wsum; rw [List.map_append, List.sum_append]; simp
theorem wsum_nonneg {gs : Gs} (h : ∀ g ∈ gs, 1 ≤ g.2) : 0 ≤ wsum gs := by
  induction gs with
  | nil => exact Int.le_refl _
  | cons g r ih =>
    have h1 := h g (List.mem_cons_self ..)
    have h2 := ih fun x hx => h x (List.mem_cons_of_mem _ hx)
    show 0 ≤ (g.2 :: r.map (·.2)).sum
    rw [List.sum_cons]
    have h3 : 0 ≤ (r.map (·.2)).sum := h2
    omega
theorem wsum_pos {gs : Gs} (h : ∀ g ∈ gs, 1 ≤ g.2) (hn : gs ≠ []) : 1 ≤ wsum gs := by
  cases gs with
  | nil => exact absurd rfl hn
  | cons g r =>
    have h1 := h g (List.mem_cons_self ..)
    have h2 : 0 ≤ wsum r := wsum_nonneg fun x hx => h x (List.mem_cons_of_mem _ hx)
    show 1 ≤ (g.2 :: r.map (·.2)).sum
    rw [List.sum_cons]
    have h3 : 0 ≤ (r.map (·.2)).sum := h2
    omega
theorem wsum_le {gs : Gs} {m : Int} (h : ∀ g ∈ gs, g.2 ≤ m) : wsum gs ≤ m * gs.length := by
  induction gs with
  | nil => show (0 : Int) ≤ m * 0; omega
  | cons g r ih =>
    have h1 := h g (List.mem_cons_self ..)
    have h2 := ih fun x hx => h x (List.mem_cons_of_mem _ hx)
    have e : wsum (g :: r) = g.2 + wsum r := by show (g.2 :: r.map (·.2)).sum = _; rw [List.sum_cons]; rfl
    rw [e, List.length_cons, Int.natCast_add, Int.mul_add]
    omega
def thr (gs : Gs) : Int := wsum gs * 2 / 3 + 1
/-- a set's total, its bounds -/
structure GsOk (gs : Gs) : Prop where
  pos : ∀ g ∈ gs, 1 ≤ g.2
  top : ∀ g ∈ gs, g.2 ≤ 1000000
  few : gs.length ≤ 1000
theorem GsOk.lo {gs : Gs} (h : GsOk gs) : 0 ≤ wsum gs := wsum_nonneg h.pos
theorem GsOk.hi {gs : Gs} (h : GsOk gs) : wsum gs ≤ 1000000000 := by
  have h1 := wsum_le h.top
  have h2 := h.few
  omega
theorem GsOk.take {gs : Gs} (h : GsOk gs) (i : Nat) : GsOk (gs.take i) :=
  ⟨fun g hg => h.pos g (List.mem_of_mem_take hg), fun g hg => h.top g (List.mem_of_mem_take hg), by rw [List.length_take]; have := h.few; omega⟩
def sp_total (K : PySem.W.Frag) : Sp := fun vs H Q _ => ∃ (a : Addr) (xs : List V) (gs : Gs), vs = [.ref a] ∧ SqT K H a xs ∧ PairsAt H xs gs ∧ GsOk gs ∧ ∀ H', Same H H' → Q (.int (wsum gs)) H'
def sp_threshold (K : PySem.W.Frag) : Sp := fun vs H Q _ => ∃ (a : Addr) (xs : List V) (gs : Gs), vs = [.ref a] ∧ SqT K H a xs ∧ PairsAt H xs gs ∧ GsOk gs ∧ ∀ H', Same H H' → Q (.int (thr gs)) H'
def sp_minority (K : PySem.W.Frag) : Sp := fun vs H Q _ => ∃ (a : Addr) (xs : List V) (gs : Gs), vs = [.ref a] ∧ SqT K H a xs ∧ PairsAt H xs gs ∧ GsOk gs ∧ ∀ H', Same H H' → Q (.int (wsum gs - thr gs + 1)) H'

/-! the law's sets -/
def nm (k : Nat) : Str := ("g" : Str) ++ (toString (k : Int) : Str)
def allNames : List Str := (List.range 7).map nm
theorem allNames_nodup : allNames.Nodup := by decide +kernel
theorem allNames_len : allNames.length = 7 := rfl
/-- a drawn set -/
structure Drawn (gs : Gs) : Prop where
  ne : gs ≠ []
  few : gs.length ≤ 7
  nd : (gs.map (·.1)).Nodup
  nms : ∀ g ∈ gs, g.1 ∈ allNames
  pos : ∀ g ∈ gs, 1 ≤ g.2
  top : ∀ g ∈ gs, g.2 ≤ 50
theorem Drawn.ok {gs : Gs} (h : Drawn gs) : GsOk gs := ⟨h.pos, fun g hg => by have := h.top g hg; omega, by have := h.few; omega⟩
def sp_Lset : Sp := fun vs H Q _ => ∃ (p l : Addr) (m : Int), vs = [.ref p, .int m] ∧ PotAt H p l ∧ 0 < m ∧ m ≤ 7 ∧ ∀ (a : Addr) (xs : List V) (gs : Gs) (H' : Hp), H a = none → H' a = some (.tup xs) → PairsAt H' xs gs → Drawn gs → (gs.length : Int) ≤ m → PotAt H' p l → Kp p H H' → Q (.ref a) H'
theorem perm_eraseIdx {α : Type} : ∀ {l : List α} {n : Nat} {x : α}, l[n]? = some x → (x :: l.eraseIdx n).Perm l
  | [], _, _, h => by simp at h
  | a :: r, 0, x, h => by
    have e : a = x := Option.some.inj h
    subst e
    exact List.Perm.refl _
  | a :: r, n + 1, x, h => by
    have ih := perm_eraseIdx (l := r) (n := n) (x := x) h
    show (x :: a :: r.eraseIdx n).Perm (a :: r)
    exact (List.Perm.swap a x _).trans (List.Perm.cons a ih)
theorem map_erase {α β : Type} (f : α → β) : ∀ (l : List α) (n : Nat), (l.map f).eraseIdx n = (l.eraseIdx n).map f
  | [], _ => rfl
  | _ :: _, 0 => rfl
  | a :: r, n + 1 => by
    show f a :: (r.map f).eraseIdx n = f a :: (r.eraseIdx n).map f
    rw [map_erase f r n]
theorem PairsAt.updL {H : Hp} {xs zs ys : List V} {gs : Gs} {F : Addr} (h : PairsAt H xs gs) (hF : H F = some (.lst ys)) : PairsAt (upd H F (.lst zs)) xs gs :=
  h.mono fun b ws q => upd_other (ne_of q hF (by intro z; cases z)) q
theorem PairsAt.new {H : Hp} {xs : List V} {gs : Gs} {F : Addr} {o : HO} (h : PairsAt H xs gs) (hF : H F = none) : PairsAt (upd H F o) xs gs :=
  h.mono fun b ws q => upd_new hF q
theorem PairsAt.kp {H H' : Hp} {xs : List V} {gs : Gs} {p l : Addr} (h : PairsAt H xs gs) (pot : PotAt H p l) (kp : Kp p H H') : PairsAt H' xs gs :=
  h.mono fun b ws q => by
    obtain ⟨ns, i, c, s, h1, _⟩ := pot
    exact kp _ _ q (ne_of q h1 (by intro z; cases z))
theorem nm_short : ∀ k : Nat, k < 7 → (Str.ofString (toString (k : Int))).length ≤ 5 := by decide +kernel
theorem names_pop {gn ss : List Str} {x : Str} {n : Nat} (hx : ss[n]? = some x) (h : (gn ++ ss).Nodup) : ((gn ++ [x]) ++ ss.eraseIdx n).Nodup := by
  obtain ⟨hn, e⟩ := List.getElem?_eq_some_iff.mp hx
  have hp : (x :: ss.eraseIdx n).Perm ss := perm_eraseIdx hx
  rw [List.append_assoc]
  exact (List.Perm.append_left gn hp).nodup_iff.mpr h
section
variable {P : Program} {w : World} {K : PySem.W.Frag} {mg : Str → Option Value} {base : Heap}
theorem ok_L_set (T : Txt K mg) : FnOk P w K mg base CX0 2 T.f_L_set T.d_L_set ["pot", "most"] sp_Lset := by
  refine T.F_L_set.ok sc_L_set (fun vs H Q E h => ?_) (fun cdv A outer s H vs Q E hr h => ?_)
  · obtain ⟨p, l, m, rfl, _⟩ := h; rfl
  · obtain ⟨p, l, m, rfl, pot, hm, hm7, k⟩ := h
    refine ⟨_, (pss_cons (ps_setLc (i := 2) (own := [("k", 4)]) (g := (gName 4)) (tt := tYes) (te := (tOp rAddStr (tC (.str "g")) (tCB rStrInt (tCons (tVar 4) tNil)))) rfl sc_L_set.nd rfl rfl (sw_true rfl rfl rfl (by decide +kernel)) (pi_range1 (by rfl) T.z_range (pa_cons pe_int pa_nil)) (blkOk_by (own := [("k", 4)]) (N := ["pot", "most", "names", "found", "k"]) (sc := defScope s_L_set) (by decide +kernel)) (fun _ _ _ _ _ => (pg_name (i := 4) sc_L_set.nd rfl (Or.inl rfl))) (fun _ _ _ _ _ => pts_nil) (fun _ _ _ _ _ => (pe_op oq_addStr pe_str (pe_callTy cq_strInt (by rfl) T.z_str boot_str (pa_cons (pv 4) pa_nil)))))
      (pss_cons (ps_set (i := 3) sc_L_set.nd rfl (Or.inl rfl) (pe_lst pa_nil))
      (pss_cons (ps_for PassesOwn.never rfl (pi_range1 (by rfl) T.z_range (pa_cons (pe_op op_add pe_int (pe_call (ok_L_next T) (hr.mono (by decide)) (by rfl) T.g_L_next T.F_L_next.kp T.b_L_next .nil pass0 (pa_cons (pv 0) (pa_cons (pv 1) pa_nil)))) pa_nil)) (pg_name (i := 4) sc_L_set.nd rfl (Or.inl rfl))
        (pss_one (ps_expr (pe_bm PySem.F.plainAttrs_list PySem.F.slot_list_append PySem.F.type_list_append mt_append (pv 3) (pa_cons (pe_tup (pa_cons (pe_bm PySem.F.plainAttrs_list PySem.F.slot_list_pop PySem.F.type_list_pop mt_popAt (pv 2) (pa_cons (pe_call (ok_L_next T) (hr.mono (by decide)) (by rfl) T.g_L_next T.F_L_next.kp T.b_L_next .nil pass0 (pa_cons (pv 0) (pa_cons (pe_callB cq_len (by rfl) T.z_len boot_len (pa_cons (pv 2) pa_nil)) pa_nil))) pa_nil)) (pa_cons (pe_op op_add pe_int (pe_call (ok_L_next T) (hr.mono (by decide)) (by rfl) T.g_L_next T.F_L_next.kp T.b_L_next .nil pass0 (pa_cons (pv 0) (pa_cons (pe_ix ix_list (pe_lst (pa_cons pe_int (pa_cons pe_int (pa_cons pe_int pa_nil)))) (pe_call (ok_L_next T) (hr.mono (by decide)) (by rfl) T.g_L_next T.F_L_next.kp T.b_L_next .nil pass0 (pa_cons (pv 0) (pa_cons pe_int pa_nil))) (fun _ _ => rfl)) pa_nil)))) pa_nil))) pa_nil)))))
      (pss_one (ps_ret (pe_callTy cq_tupOf (by rfl) T.z_tuple boot_tuple (pa_cons (pv 3) pa_nil))))))), ?_⟩
    (dsimp only [cxOf, Cx.nox, Cx.wish, L2.start, List.map, List.length, List.replicate, List.cons_append, List.nil_append, List.append_eq, Nat.reduceSub, Nat.reduceAdd])
    walk_at "my_rd"
    refine q_lcR ⟨by decide, by decide⟩ (fun N nN => ⟨fun i H2 => Same H H2 ∧ H2 N = some (.lst (((List.range i).map nm).map V.str)), ⟨Same.new (Same.refl _) nN, upd_same⟩, ?_, ?_⟩)
    · rintro i H2 hi ⟨sm, hD⟩
      have hi7 : i < 7 := by omega
      walk_at "my_rd"
      refine ⟨rfl, ?_⟩
      walk_at "my_rd"
      refine q_strInt (Nat.lt_of_le_of_lt (Nat.log2_le_self _) (by omega)) ?_
      refine q_addStr ?_ ?_
      · have := nm_short i hi7
        have h1 : (Str.ofString "g").length = 1 := rfl
        exact Nat.le_of_lt (small1000 (by omega))
      · walk_at "my_rd"
        refine q_accK hD (by rw [List.length_map, List.length_map, List.length_range]; exact small1000 (by omega)) ⟨Same.new sm nN, ?_⟩
        rw [upd_same, List.range_succ, List.map_append, List.map_append]
        rfl
    · rintro H2 ⟨sm, hN⟩
      have hN : H2 N = some (.lst (allNames.map V.str)) := hN
      walk_at "my_rd"
      refine q_lstK (Nat.zero_le _) fun F nF => ?_
      have nNF : N ≠ F := ne_of_none hN nF
      have hF0 : H F = none := Same.free sm nF
      have nNp : N ≠ p := pot.nep nN
      have nNl : N ≠ l := pot.nel nN
      have nFp : F ≠ p := pot.nep hF0
      have nFl : F ≠ l := pot.nel hF0
      walk_at "my_rd"
      refine ⟨p, l, m, rfl, (pot.same sm).new nF, hm, by omega, fun r H4 r0 r1 pot4 kp4 => ?_⟩
      have hN4 : H4 N = some (.lst (allNames.map V.str)) := Kp.get kp4 (upd_new nF hN) nNp
      have hF4 : H4 F = some (.lst []) := Kp.get kp4 upd_same nFp
      have kp0 : Kp p H H4 := Kp.trans (Kp.new (Same.kp sm) hF0) kp4
      walk_at "my_rd"
      refine q_forR ⟨by omega, by omega⟩ (fun i σ H5 => ∃ (ss : List Str) (xs : List V) (gs : Gs) (kv : Option V), σ = [some (.ref p), some (.int m), some (.ref N), some (.ref F), kv] ∧ H5 N = some (.lst (ss.map V.str)) ∧ H5 F = some (.lst xs) ∧ PairsAt H5 xs gs ∧ gs.length = i ∧ ss.length + i = 7 ∧ (gs.map (·.1) ++ ss).Nodup ∧ (∀ g ∈ gs, g.1 ∈ allNames) ∧ (∀ s ∈ ss, s ∈ allNames) ∧ (∀ g ∈ gs, 1 ≤ g.2) ∧ (∀ g ∈ gs, g.2 ≤ 50) ∧ PotAt H5 p l ∧ Kp p H H5)
        ⟨allNames, [], [], none, rfl, hN4, hF4, PairsAt.nil, rfl, allNames_len, allNames_nodup, by simp, fun s hs => hs, by simp, by simp, pot4, kp0⟩ ?_ ?_
      · rintro i σ H5 hi ⟨ss, xs, gs, kv, rfl, hN5, hF5, hP5, hl, hsl, hnd, hnm, hss, hpos, htop, pot5, kp5⟩
        walk_at "my_rd"
        refine ⟨p, l, _, rfl, pot5, by rw [List.length_map]; omega, by rw [List.length_map]; omega, fun r2 H6 a0 a1 pot6 kp6 => ?_⟩
        rw [List.length_map] at a1
        have hN6 : H6 N = some (.lst (ss.map V.str)) := Kp.get kp6 hN5 nNp
        have hF6 : H6 F = some (.lst xs) := Kp.get kp6 hF5 nFp
        have hP6 := hP5.kp pot5 kp6
        have hr2 : r2.toNat < ss.length := by omega
        have hx : ss[r2.toNat]? = some ss[r2.toNat] := List.getElem?_eq_getElem hr2
        walk_at "my_rd"
        refine q_popAt (n := r2.toNat) hN6 (by omega) (by rw [List.length_map]; exact hr2) (by omega) (v := .str ss[r2.toNat]) (by rw [List.getElem?_map, hx]; rfl) ?_
        rw [map_erase]
        generalize hH7 : upd H6 N (HO.lst ((ss.eraseIdx r2.toNat).map V.str)) = H7
        have hN7 : H7 N = some (.lst ((ss.eraseIdx r2.toNat).map V.str)) := by rw [← hH7]; exact upd_same
        have hF7 : H7 F = some (.lst xs) := by rw [← hH7]; exact upd_other nNF.symm hF6
        have hP7 : PairsAt H7 xs gs := by rw [← hH7]; exact hP6.updL hN6
        have pot7 : PotAt H7 p l := by rw [← hH7]; exact pot6.upd nNp nNl
        have kp7 : Kp p H H7 := by rw [← hH7]; exact Kp.new (Kp.trans kp5 kp6) nN
        walk_at "my_rd"
        refine q_lstK (by decide) fun M nM => ?_
        walk_at "my_rd"
        refine ⟨p, l, 3, rfl, pot7.new nM, by omega, by omega, fun r3 H8 b0 b1 pot8 kp8 => ?_⟩
        have hM8 : H8 M = some (.lst [.int 1, .int 4, .int 50]) := Kp.get kp8 upd_same (pot7.nep nM)
        obtain ⟨lim, hlim, l0, l1⟩ : ∃ lim : Int, atI [V.int 1, V.int 4, V.int 50] r3 = some (.int lim) ∧ 1 ≤ lim ∧ lim ≤ 50 := by
          have : r3 = 0 ∨ r3 = 1 ∨ r3 = 2 := by omega
          rcases this with rfl | rfl | rfl
          · exact ⟨1, rfl, by omega, by omega⟩
          · exact ⟨4, rfl, by omega, by omega⟩
          · exact ⟨50, rfl, by omega, by omega⟩
        walk_at "my_rd"
        refine q_ixLt hM8 hlim ?_
        walk_at "my_rd"
        refine ⟨p, l, lim, rfl, pot8, by omega, by omega, fun r4 H9 c0 c1 pot9 kp9 => ?_⟩
        have kp79 : Kp p (upd H7 M (.lst [.int 1, .int 4, .int 50])) H9 := Kp.trans kp8 kp9
        have hN9 : H9 N = some (.lst ((ss.eraseIdx r2.toNat).map V.str)) := Kp.get kp79 (upd_new nM hN7) nNp
        have hF9 : H9 F = some (.lst xs) := Kp.get kp79 (upd_new nM hF7) nFp
        have hP9 : PairsAt H9 xs gs := (hP7.new nM).kp (pot7.new nM) kp79
        have hM0 : H M = none := Kp.fresh kp7 pot.at.choose_spec nM (pot7.nep nM)
        have kp09 : Kp p H H9 := Kp.trans (Kp.new kp7 hM0) kp79
        walk_at "my_rd"
        refine q_tupK (by show 2 ≤ sizeLine; decide) fun U nU => ?_
        have hU0 : H U = none := Kp.fresh kp09 pot.at.choose_spec nU (pot9.nep nU)
        have nFU : F ≠ U := ne_of_none hF9 nU
        have nNU : N ≠ U := ne_of_none hN9 nU
        walk_at "my_rd"
        refine q_append (upd_new nU hF9) (by rw [hP9.len]; exact small1000 (by omega)) ?_
        walk_at "my_rd"
        refine ⟨ss.eraseIdx r2.toNat, xs ++ [.ref U], gs ++ [(ss[r2.toNat], 1 + r4)], _, rfl, upd_other nNF (upd_new nU hN9), upd_same, ?_, by rw [List.length_append, hl]; rfl, ?_, ?_, ?_, ?_, ?_, ?_, (pot9.new nU).upd nFp nFl, Kp.new (Kp.new kp09 hU0) hF0⟩
        · exact ((hP9.new nU).snoc (g := (ss[r2.toNat], 1 + r4)) upd_same).updL (upd_new nU hF9)
        · rw [List.length_eraseIdx_of_lt hr2]; omega
        · rw [List.map_append]
          exact names_pop hx hnd
        · intro g hg
          rcases List.mem_append.mp hg with h | h
          · exact hnm g h
          · rw [List.mem_singleton.mp h]; exact hss _ (List.mem_of_getElem? hx)
        · intro z hz
          exact hss z (List.mem_of_mem_eraseIdx hz)
        · intro g hg
          rcases List.mem_append.mp hg with h | h
          · exact hpos g h
          · rw [List.mem_singleton.mp h]; show 1 ≤ 1 + r4; omega
        · intro g hg
          rcases List.mem_append.mp hg with h | h
          · exact htop g h
          · rw [List.mem_singleton.mp h]; show 1 + r4 ≤ 50; omega
      · rintro σ H5 ⟨ss, xs, gs, kv, rfl, hN5, hF5, hP5, hl, hsl, hnd, hnm, hss, hpos, htop, pot5, kp5⟩
        walk_at "my_rd"
        refine q_tupL (sqL hF5) fun a na => ?_
        walk_at "my_rd"
        refine k a xs gs _ (Kp.fresh kp5 pot.at.choose_spec na (pot5.nep na)) upd_same (hP5.new na) ⟨?_, by omega, (List.nodup_append.mp hnd).1, hnm, hpos, htop⟩ (by omega) (pot5.new na) (Kp.new kp5 (Kp.fresh kp5 pot.at.choose_spec na (pot5.nep na)))
        rintro rfl
        simp at hl
        omega
end

local macro_rules | `(tactic| walk_at "my_rd") => `(tactic| (repeat first
  | with_reducible refine q_tCons ?_
  | ((with_reducible apply q_var); (focus (exact rfl)))
  | with_reducible refine q_c ?_
  | ((with_reducible apply q_nxE); (focus (with_reducible exact rfl)))
  | with_reducible refine q_bK ?_
  | with_reducible refine q_call ?_
  | with_reducible refine q_callK ?_
  | with_reducible refine q_tNil ?_
  | with_reducible refine q_cb ?_
  | with_reducible refine q_seq ?_
  | with_reducible refine q_asg ?_
  | with_reducible refine q_gName ?_
  | with_reducible refine q_op ?_
  | with_reducible refine q_test ?_
  | with_reducible refine q_tB ?_
  | with_reducible refine q_ifS ?_
  | with_reducible refine q_ret ?_
  | ((with_reducible apply q_rtE); (focus (with_reducible exact rfl)))
  | with_reducible refine q_next ?_
  | with_reducible refine q_ifF ?_
  | with_reducible refine q_ifT ?_
  | with_reducible refine q_drop ?_
  | with_reducible refine q_and ?_
  | with_reducible refine q_or ?_
  | with_reducible refine q_andT ?_
  | with_reducible refine q_andF ?_
  | with_reducible refine q_orF ?_
  | with_reducible refine q_orT ?_
  | with_reducible refine q_andV ?_
  | with_reducible refine q_andVT ?_
  | with_reducible refine q_andVF ?_
  | with_reducible refine q_orV ?_
  | with_reducible refine q_gCons ?_
  | with_reducible refine q_gNil ?_
  | with_reducible refine q_tup ?_
  | with_reducible refine q_lst ?_
  | with_reducible refine q_not ?_
  | with_reducible refine q_notKT ?_
  | with_reducible refine q_notKF ?_
  | with_reducible refine q_I0 ?_
  | with_reducible refine q_eqI ?_
  | with_reducible refine q_neI ?_
  | ((with_reducible refine q_I ?_ ?_); first | decide | omega | exact ⟨by omega, by omega⟩ | exact ⟨by decide, by decide⟩ | exact .inl ⟨by omega, by omega⟩ | exact .inr ⟨by omega, by omega⟩ | exact .inr ⟨by decide, by decide⟩)
  | with_reducible refine q_eqS ?_
  | with_reducible refine q_neS ?_
  | with_reducible refine q_brk ?_
  | with_reducible refine q_ct ?_
  | ((with_reducible apply q_bkE); (focus (with_reducible exact rfl)))
  | ((with_reducible apply q_cnE); (focus (with_reducible exact rfl)))
  | with_reducible refine q_retN ?_
  | with_reducible refine q_gSub ?_
  | with_reducible refine q_for ?_
  | with_reducible refine q_iList ?_
  | with_reducible refine q_iTup ?_
  | with_reducible refine q_iRng1 ?_
  | with_reducible refine q_notK ?_
  | with_reducible refine q_orVT ?_
  | with_reducible refine q_orVF ?_
  | with_reducible refine q_notV ?_
  | with_reducible refine q_notVK ?_
  | with_reducible refine q_ifE ?_
  | with_reducible refine q_ifET ?_
  | with_reducible refine q_ifEF ?_
  | with_reducible refine q_yes ?_
  | with_reducible refine q_un ?_
  | with_reducible refine q_rU ?_
  | with_reducible refine q_abs ?_
  | with_reducible refine q_int1 ?_
  | with_reducible refine q_bm ?_
  | with_reducible refine q_bm0 ?_
  | with_reducible refine q_lc ?_
  | with_reducible refine q_keepT ?_
  | with_reducible refine q_keepF ?_
  | ((with_reducible apply q_aug); (focus (exact rfl)))
  | with_reducible refine q_ipI ?_
  | with_reducible refine q_chain ?_
  | with_reducible refine q_pairC ?_
  | with_reducible refine q_pairsK ?_
  | with_reducible refine q_pairN ?_
  | with_reducible refine q_fld ?_
  | with_reducible refine q_sFld ?_
  | with_reducible refine q_meth ?_
  | with_reducible refine q_makeK ?_
  | with_reducible refine q_isBl ?_
  | with_reducible refine q_notBl ?_
  | with_reducible refine q_sl ?_
  | with_reducible refine q_noPart ?_
  | with_reducible refine q_part ?_
  | with_reducible refine q_partK ?_
  | ((with_reducible apply q_mulStr); (focus (decide +kernel)))
  | with_reducible refine q_chT ?_
  | with_reducible refine q_chF ?_
  | with_reducible refine q_ord ?_
  | with_reducible refine q_iStr0 ?_
  | with_reducible refine q_iStr ?_
  | with_reducible refine q_tDIn ?_
  | with_reducible refine q_tDNotIn ?_
  | with_reducible refine q_tDGet ?_
  | with_reducible refine q_tDGet2 ?_
  | with_reducible refine q_tDGet1 ?_
  | with_reducible refine q_tDSetd ?_
  | ((with_reducible apply q_dG2a); (focus ((repeat first | (with_reducible exact upd_same) | (with_reducible assumption) | (with_reducible apply upd_new (by assumption)) | (with_reducible apply upd_other (by first | assumption | exact Ne.symm (by assumption))) | (with_reducible refine' Kp.get (by assumption) ?_ (by first | assumption | exact Ne.symm (by assumption))) | (with_reducible apply Same.get (by assumption))); done)))
  | ((with_reducible apply q_dSda); (focus ((repeat first | (with_reducible exact upd_same) | (with_reducible assumption) | (with_reducible apply upd_new (by assumption)) | (with_reducible apply upd_other (by first | assumption | exact Ne.symm (by assumption))) | (with_reducible refine' Kp.get (by assumption) ?_ (by first | assumption | exact Ne.symm (by assumption))) | (with_reducible apply Same.get (by assumption))); done)))
  | with_reducible refine q_sDPut ?_
  | ((with_reducible apply q_dInS); (focus ((repeat first | (with_reducible exact upd_same) | (with_reducible assumption) | (with_reducible apply upd_new (by assumption)) | (with_reducible apply upd_other (by first | assumption | exact Ne.symm (by assumption))) | (with_reducible refine' Kp.get (by assumption) ?_ (by first | assumption | exact Ne.symm (by assumption))) | (with_reducible apply Same.get (by assumption))); done)))
  | ((with_reducible apply q_dNInS); (focus ((repeat first | (with_reducible exact upd_same) | (with_reducible assumption) | (with_reducible apply upd_new (by assumption)) | (with_reducible apply upd_other (by first | assumption | exact Ne.symm (by assumption))) | (with_reducible refine' Kp.get (by assumption) ?_ (by first | assumption | exact Ne.symm (by assumption))) | (with_reducible apply Same.get (by assumption))); done)))
  | ((with_reducible apply q_dInI); (focus ((repeat first | (with_reducible exact upd_same) | (with_reducible assumption) | (with_reducible apply upd_new (by assumption)) | (with_reducible apply upd_other (by first | assumption | exact Ne.symm (by assumption))) | (with_reducible refine' Kp.get (by assumption) ?_ (by first | assumption | exact Ne.symm (by assumption))) | (with_reducible apply Same.get (by assumption))); done)))
  | ((with_reducible apply q_dNInI); (focus ((repeat first | (with_reducible exact upd_same) | (with_reducible assumption) | (with_reducible apply upd_new (by assumption)) | (with_reducible apply upd_other (by first | assumption | exact Ne.symm (by assumption))) | (with_reducible refine' Kp.get (by assumption) ?_ (by first | assumption | exact Ne.symm (by assumption))) | (with_reducible apply Same.get (by assumption))); done)))
  | ((with_reducible apply q_bmL); (focus ((repeat first | (with_reducible exact upd_same) | (with_reducible assumption) | (with_reducible apply upd_new (by assumption)) | (with_reducible apply upd_other (by first | assumption | exact Ne.symm (by assumption))) | (with_reducible refine' Kp.get (by assumption) ?_ (by first | assumption | exact Ne.symm (by assumption))) | (with_reducible apply Same.get (by assumption))); done)))
  | ((with_reducible apply q_bmL0); (focus ((repeat first | (with_reducible exact upd_same) | (with_reducible assumption) | (with_reducible apply upd_new (by assumption)) | (with_reducible apply upd_other (by first | assumption | exact Ne.symm (by assumption))) | (with_reducible refine' Kp.get (by assumption) ?_ (by first | assumption | exact Ne.symm (by assumption))) | (with_reducible apply Same.get (by assumption))); done)))
  | ((with_reducible apply q_ixLt); (focus ((repeat first | (with_reducible exact upd_same) | (with_reducible assumption) | (with_reducible apply upd_new (by assumption)) | (with_reducible apply upd_other (by first | assumption | exact Ne.symm (by assumption))) | (with_reducible refine' Kp.get (by assumption) ?_ (by first | assumption | exact Ne.symm (by assumption))) | (with_reducible apply Same.get (by assumption))); done)); (focus (exact rfl)))
  | ((with_reducible apply q_ixTt); (focus ((repeat first | (with_reducible exact upd_same) | (with_reducible assumption) | (with_reducible apply upd_new (by assumption)) | (with_reducible apply upd_other (by first | assumption | exact Ne.symm (by assumption))) | (with_reducible refine' Kp.get (by assumption) ?_ (by first | assumption | exact Ne.symm (by assumption))) | (with_reducible apply Same.get (by assumption))); done)); (focus (exact rfl)))
  | ((with_reducible apply q_lenLt); (focus ((repeat first | (with_reducible exact upd_same) | (with_reducible assumption) | (with_reducible apply upd_new (by assumption)) | (with_reducible apply upd_other (by first | assumption | exact Ne.symm (by assumption))) | (with_reducible refine' Kp.get (by assumption) ?_ (by first | assumption | exact Ne.symm (by assumption))) | (with_reducible apply Same.get (by assumption))); done)))
  | ((with_reducible apply q_lenTt); (focus ((repeat first | (with_reducible exact upd_same) | (with_reducible assumption) | (with_reducible apply upd_new (by assumption)) | (with_reducible apply upd_other (by first | assumption | exact Ne.symm (by assumption))) | (with_reducible refine' Kp.get (by assumption) ?_ (by first | assumption | exact Ne.symm (by assumption))) | (with_reducible apply Same.get (by assumption))); done)))
  | ((with_reducible apply q_append); (focus ((repeat first | (with_reducible exact upd_same) | (with_reducible assumption) | (with_reducible apply upd_new (by assumption)) | (with_reducible apply upd_other (by first | assumption | exact Ne.symm (by assumption))) | (with_reducible refine' Kp.get (by assumption) ?_ (by first | assumption | exact Ne.symm (by assumption))) | (with_reducible apply Same.get (by assumption))); done)); (focus ((first | (exact Nat.lt_of_ble_eq_true rfl) | (simp only [List.length_append, List.length_cons, List.length_nil, List.length_map]; exact small1000 (by omega))))))
  | ((with_reducible apply q_setL); (focus ((repeat first | (with_reducible exact upd_same) | (with_reducible assumption) | (with_reducible apply upd_new (by assumption)) | (with_reducible apply upd_other (by first | assumption | exact Ne.symm (by assumption))) | (with_reducible refine' Kp.get (by assumption) ?_ (by first | assumption | exact Ne.symm (by assumption))) | (with_reducible apply Same.get (by assumption))); done)); (focus (exact rfl)))
  | with_reducible refine q_ifNT ?_
  | with_reducible refine q_ifNF ?_
  | with_reducible refine q_andNT ?_
  | with_reducible refine q_andNF ?_
  | with_reducible refine q_orNT ?_
  | with_reducible refine q_orNF ?_
  | with_reducible refine q_bKNT ?_
  | with_reducible refine q_bKNF ?_
  | with_reducible refine q_tNGet ?_
  | with_reducible refine q_tNIn ?_
  | with_reducible refine q_sNPut ?_
  | with_reducible refine q_sFldAug ?_
  | with_reducible refine q_sDAug ?_
  | with_reducible refine q_sDDel ?_
  | with_reducible refine q_forX ?_
  | with_reducible refine q_tMake ?_
  | ((with_reducible apply q_dG1a); (focus ((repeat first | (with_reducible exact upd_same) | (with_reducible assumption) | (with_reducible apply upd_new (by assumption)) | (with_reducible apply upd_other (by first | assumption | exact Ne.symm (by assumption))) | (with_reducible refine' Kp.get (by assumption) ?_ (by first | assumption | exact Ne.symm (by assumption))) | (with_reducible apply Same.get (by assumption))); done)))))
/-! values as data -/
def intD : PyData → Bool
  | .int _ => true
  | _ => false
def boolD : PyData → Bool
  | .bool _ => true
  | _ => false
def strD : PyData → Bool
  | .str _ => true
  | _ => false
def tupD : PyData → Bool
  | .tuple _ => true
  | _ => false
def leastD (n : Int) : PyData → Bool
  | .int i => decide (n ≤ i)
  | _ => false
def okCode (c : Nat) : Bool := decide (32 ≤ c) && decide (c ≤ 126) && !decide (c = 37)
def textS (s : Str) : Bool := s.cps.toList.all okCode
def textD : PyData → Bool
  | .str s => textS s
  | _ => false
def shortD (m : Int) : PyData → Bool
  | .str s => textS s && (decide (1 ≤ (s.length : Int)) && decide ((s.length : Int) ≤ m))
  | _ => false
def accD : PyData → Bool := shortD 20
/-- the type of a value -/
def tyD : PyData → String
  | .none => "NoneType"
  | .bool _ => "bool"
  | .int _ => "int"
  | .str _ => "str"
  | .list _ => "list"
  | .tuple _ => "tuple"
  | .dict _ => "dict"
theorem dp_ty {K : PySem.W.Frag} {H : Hp} {v : V} {d : PyData} (h : Dp K H v d) : TyX K H v (.type (tyD d)) := by
  cases h with
  | non => exact .base .non
  | bl b => exact .base (.bl b)
  | int i => exact .base (.int i)
  | str x => exact .base (.str x)
  | lst h1 h2 =>
    rcases h1 with (h | ⟨o, h⟩) | ⟨o, its, n, h, h3, _⟩
    · exact .base (.lst h)
    · exact .base (.frz h)
    · exact .kList h h3
  | tup h1 h2 =>
    rcases h1 with (h | ⟨o, h⟩) | ⟨o, its, n, h, h3, _⟩
    · exact .base (.tup h)
    · exact .fTuple h
    · exact .kTuple h h3
def tyB (n : String) (d : PyData) : Bool := decide (tyD d = n) || (decide (n = "int") && decide (tyD d = "bool"))
theorem q_isiD {K : PySem.W.Frag} {H : Hp} {Q : VK} {v : V} {d : PyData} {n : String} {b : Bool} (h : Dp K H v d) (hk : kitB (tyD d) n = some b) (k : Q (.bl b) H) : rIsi K [v, .ty n] H Q := q_isi (dp_ty h) (kit_ty hk) k
theorem kit_int (d : PyData) : kitB (tyD d) "int" = some (intD d || boolD d) := by
  cases d <;> first | exact (by decide +kernel : kitB "NoneType" "int" = some false) | exact (by decide +kernel : kitB "bool" "int" = some true) | exact (by decide +kernel : kitB "int" "int" = some true) | exact (by decide +kernel : kitB "str" "int" = some false) | exact (by decide +kernel : kitB "list" "int" = some false) | exact (by decide +kernel : kitB "tuple" "int" = some false) | exact (by decide +kernel : kitB "dict" "int" = some false)
theorem kit_bool (d : PyData) : kitB (tyD d) "bool" = some (boolD d) := by
  cases d <;> first | exact (by decide +kernel : kitB "NoneType" "bool" = some false) | exact (by decide +kernel : kitB "bool" "bool" = some true) | exact (by decide +kernel : kitB "int" "bool" = some false) | exact (by decide +kernel : kitB "str" "bool" = some false) | exact (by decide +kernel : kitB "list" "bool" = some false) | exact (by decide +kernel : kitB "tuple" "bool" = some false) | exact (by decide +kernel : kitB "dict" "bool" = some false)
theorem kit_str (d : PyData) : kitB (tyD d) "str" = some (strD d) := by
  cases d <;> first | exact (by decide +kernel : kitB "NoneType" "str" = some false) | exact (by decide +kernel : kitB "bool" "str" = some false) | exact (by decide +kernel : kitB "int" "str" = some false) | exact (by decide +kernel : kitB "str" "str" = some true) | exact (by decide +kernel : kitB "list" "str" = some false) | exact (by decide +kernel : kitB "tuple" "str" = some false) | exact (by decide +kernel : kitB "dict" "str" = some false)
theorem kit_tuple (d : PyData) : kitB (tyD d) "tuple" = some (tupD d) := by
  cases d <;> first | exact (by decide +kernel : kitB "NoneType" "tuple" = some false) | exact (by decide +kernel : kitB "bool" "tuple" = some false) | exact (by decide +kernel : kitB "int" "tuple" = some false) | exact (by decide +kernel : kitB "str" "tuple" = some false) | exact (by decide +kernel : kitB "list" "tuple" = some false) | exact (by decide +kernel : kitB "tuple" "tuple" = some true) | exact (by decide +kernel : kitB "dict" "tuple" = some false)
mutual
theorem dp_mono {K : PySem.W.Frag} {H H' : Hp} (sm : Same H H') : ∀ {v : V} {d : PyData}, Dp K H v d → Dp K H' v d
  | _, _, .non => .non
  | _, _, .bl b => .bl b
  | _, _, .int i => .int i
  | _, _, .str x => .str x
  | _, _, .lst h1 h2 => .lst (Same.seq sm h1) (dpall_mono sm h2)
  | _, _, .tup h1 h2 => .tup (Same.sqT sm h1) (dpall_mono sm h2)
theorem dpall_mono {K : PySem.W.Frag} {H H' : Hp} (sm : Same H H') : ∀ {vs : List V} {ds : List PyData}, DpAll K H vs ds → DpAll K H' vs ds
  | _, _, .nil => .nil
  | _, _, .cons h1 h2 => .cons (dp_mono sm h1) (dpall_mono sm h2)
end
theorem dpall_len {K : PySem.W.Frag} {H : Hp} : ∀ {vs : List V} {ds : List PyData}, DpAll K H vs ds → vs.length = ds.length
  | _, _, .nil => rfl
  | _, _, .cons _ h => by rw [List.length_cons, List.length_cons, dpall_len h]
theorem dpall_get {K : PySem.W.Frag} {H : Hp} : ∀ {vs : List V} {ds : List PyData} {i : Nat} {v : V}, DpAll K H vs ds → vs[i]? = some v → ∃ d, ds[i]? = some d ∧ Dp K H v d
  | _, _, _, _, .nil, e => by simp at e
  | _, _, 0, _, .cons h _, e => by
    simp at e
    subst e
    exact ⟨_, rfl, h⟩
  | _, _, i + 1, v, .cons _ h, e => by
    obtain ⟨d, h1, h2⟩ := dpall_get h (i := i) (v := v) (by simpa using e)
    exact ⟨d, by simpa using h1, h2⟩
def Fine : PyData → Prop
  | .str s => s.length ≤ 100000
  | _ => True
/-- a def that tells something of one value -/
def sp_tell (K : PySem.W.Frag) (f : PyData → Bool) : Sp := fun vs H Q _ => ∃ (v : V) (d : PyData), vs = [v] ∧ Dp K H v d ∧ Fine d ∧ ∀ H', Same H H' → Q (.bl (f d)) H'
def sp_tell2 (K : PySem.W.Frag) (f : Int → PyData → Bool) : Sp := fun vs H Q _ => ∃ (v : V) (d : PyData) (n : Int), vs = [v, .int n] ∧ Dp K H v d ∧ Fine d ∧ ∀ H', Same H H' → Q (.bl (f n d)) H'
section
variable {P : Program} {w : World} {K : PySem.W.Frag} {mg : Str → Option Value} {base : Heap}
theorem ok_is_integer (T : Txt K mg) : FnOk P w K mg base CX0 1 T.f_is_integer T.d_is_integer ["value"] (sp_tell K intD) := by
  refine T.F_is_integer.ok sc_is_integer (fun vs H Q E h => ?_) (fun cdv A outer s H vs Q E hr h => ?_)
  · obtain ⟨v, d, rfl, _⟩ := h; rfl
  · obtain ⟨v, d, rfl, hd, _, k⟩ := h
    refine ⟨_, (pss_one (ps_ret (pe_and (pe_callB call_isi (by rfl) T.z_isinstance boot_isinstance (pa_cons (pv 0) (pa_cons (pe_bltn (v := .ty "int") (by rfl) T.z_int boot_int rfl) pa_nil))) (pe_one (pe_not (pe_callB call_isi (by rfl) T.z_isinstance boot_isinstance (pa_cons (pv 0) (pa_cons (pe_bltn (v := .ty "bool") (by rfl) T.z_bool boot_bool rfl) pa_nil)))))))), ?_⟩
    (dsimp only [cxOf, Cx.nox, Cx.wish, L2.start, List.map, List.length, List.replicate, List.cons_append, List.nil_append, List.append_eq, Nat.reduceSub, Nat.reduceAdd])
    walk_at "my_rd"
    refine q_isiD hd (kit_int d) ?_
    refine q_andV2 (fun h => ?_) (fun h => ?_)
    · walk_at "my_rd"
      refine q_isiD hd (kit_bool d) ?_
      walk_at "my_rd"
      have e : (!boolD d) = intD d := by cases d <;> first | rfl | cases h
      rw [e]
      exact k H (Same.refl _)
    · have e : false = intD d := by cases d <;> first | rfl | cases h
      rw [e]
      exact k H (Same.refl _)
theorem ok_is_at_least (T : Txt K mg) : FnOk P w K mg base CX0 2 T.f_is_at_least T.d_is_at_least ["value", "least"] (sp_tell2 K leastD) := by
  refine T.F_is_at_least.ok sc_is_at_least (fun vs H Q E h => ?_) (fun cdv A outer s H vs Q E hr h => ?_)
  · obtain ⟨v, d, n, rfl, _⟩ := h; rfl
  · obtain ⟨v, d, n, rfl, hd, hf, k⟩ := h
    refine ⟨_, (pss_one (ps_ret (pe_and (pe_call (ok_is_integer T) (hr.mono (by decide)) (by rfl) T.g_is_integer T.F_is_integer.kp T.b_is_integer .nil pass0 (pa_cons (pv 0) pa_nil)) (pe_one (pe_cmpR op_ge (pv 0) (pv 1) (nomark _)))))), ?_⟩
    (dsimp only [cxOf, Cx.nox, Cx.wish, L2.start, List.map, List.length, List.replicate, List.cons_append, List.nil_append, List.append_eq, Nat.reduceSub, Nat.reduceAdd])
    walk_at "my_rd"
    refine ⟨v, d, rfl, hd, hf, fun H1 sm => ?_⟩
    refine q_andV2 (fun h => ?_) (fun h => ?_)
    · cases hd with
      | int i =>
        walk_at "my_rd"
        exact k H1 sm
      | _ => cases h
    · have e : false = leastD n d := by cases d <;> first | rfl | cases h
      rw [e]
      exact k H1 sm
theorem ok_is_text (T : Txt K mg) : FnOk P w K mg base CX0 1 T.f_is_text T.d_is_text ["value"] (sp_tell K textD) := by
  refine T.F_is_text.ok sc_is_text (fun vs H Q E h => ?_) (fun cdv A outer s H vs Q E hr h => ?_)
  · obtain ⟨v, d, rfl, _⟩ := h; rfl
  · obtain ⟨v, d, rfl, hd, _, k⟩ := h
    refine ⟨_, (pss_cons (ps_if (pt_not (pt_val (pe_callB call_isi (by rfl) T.z_isinstance boot_isinstance (pa_cons (pv 0) (pa_cons (pe_bltn (v := .ty "str") (by rfl) T.z_str boot_str rfl) pa_nil))))) (pss_one (ps_ret pe_bl)) pss_nil)
      (pss_cons (ps_for PassesOwn.never rfl (pi_str (pv 0)) (pg_name (i := 1) sc_is_text.nd rfl (Or.inl rfl))
        (pss_cons (ps_set (i := 2) sc_is_text.nd rfl (Or.inl rfl) (pe_callB cq_ord (by rfl) T.z_ord boot_ord (pa_cons (pv 1) pa_nil)))
      (pss_one (ps_if (PW.pt (pw_or (pt_cmpR op_lt (pv 2) (pe_glob (v := .int 32) (by rfl) T.c_FIRST_CODE ⟨_, rfl⟩) (nomark _)) (pw_or (pt_cmpR op_gt (pv 2) (pe_glob (v := .int 126) (by rfl) T.c_LAST_CODE ⟨_, rfl⟩) (nomark _)) (pw_or1 (pt_cmpR op_eq (pv 2) (pe_glob (v := .int 37) (by rfl) T.c_BARRED_CODE ⟨_, rfl⟩) (nomark _)))))) (pss_one (ps_ret pe_bl)) pss_nil))))
      (pss_one (ps_ret pe_bl)))), ?_⟩
    (dsimp only [cxOf, Cx.nox, Cx.wish, L2.start, List.map, List.length, List.replicate, List.cons_append, List.nil_append, List.append_eq, Nat.reduceSub, Nat.reduceAdd])
    walk_at "my_rd"
    refine q_isiD hd (kit_str d) ?_
    walk_at "my_rd"
    cases hd with
    | str x =>
      show ifK _ _ _ _ false H
      walk_at "my_rd"
      refine q_forS (fun i σ H2 => ∃ c1 c2, σ = [some (.str x), c1, c2] ∧ H2 = H ∧ (x.cps.toList.take i).all okCode = true) ⟨_, _, rfl, rfl, rfl⟩ ?_ ?_
      · rintro i c σ H2 hc ⟨c1, c2, rfl, rfl, hall⟩
        have hc' : x.cps.toList[i]? = some c := by rw [Array.getElem?_toList]; exact hc
        have bad : okCode c = false → textD (.str x) = false := fun h => by
          show x.cps.toList.all okCode = false
          rw [List.all_eq_false]
          exact ⟨c, List.mem_of_getElem? hc', by rw [h]; exact Bool.false_ne_true⟩
        walk_at "my_rd"
        refine q_or2 (fun h => ?_) (fun h1 => ?_)
        · walk_at "my_rd"
          have h := dec_t h
          rw [← bad (by unfold okCode; rw [decide_eq_false (show ¬ 32 ≤ c by omega)]; rfl)]
          exact k _ (Same.refl _)
        · walk_at "my_rd"
          refine q_or2 (fun h => ?_) (fun h2 => ?_)
          · walk_at "my_rd"
            have h := dec_t h
            rw [← bad (by unfold okCode; rw [decide_eq_false (show ¬ c ≤ 126 by omega), Bool.and_false]; rfl)]
            exact k _ (Same.refl _)
          · walk_at "my_rd"
            refine q_if2 (fun h => ?_) (fun h3 => ?_)
            · walk_at "my_rd"
              have h := dec_t h
              rw [← bad (by unfold okCode; rw [decide_eq_true (show c = 37 by omega), Bool.and_comm]; rfl)]
              exact k _ (Same.refl _)
            · walk_at "my_rd"
              have h1 := dec_f h1
              have h2 := dec_f h2
              have h3 := dec_f h3
              refine ⟨_, _, rfl, rfl, ?_⟩
              rw [take_snoc hc', List.all_append, hall, Bool.true_and, List.all_cons, List.all_nil, Bool.and_true]
              unfold okCode
              rw [decide_eq_true (show 32 ≤ c by omega), decide_eq_true (show c ≤ 126 by omega), decide_eq_false (show ¬ c = 37 by omega)]
              rfl
      · rintro σ H2 ⟨c1, c2, rfl, rfl, hall⟩
        walk_at "my_rd"
        have e : textD (.str x) = true := by
          have e2 : x.cps.toList.take x.cps.size = x.cps.toList := List.take_of_length_le (by simp)
          rw [e2] at hall
          exact hall
        rw [← e]
        exact k _ (Same.refl _)
    | _ =>
      show ifK _ _ _ _ true H
      walk_at "my_rd"
      exact k H (Same.refl _)
theorem ok_is_short_text (T : Txt K mg) : FnOk P w K mg base CX0 2 T.f_is_short_text T.d_is_short_text ["value", "most"] (sp_tell2 K shortD) := by
  refine T.F_is_short_text.ok sc_is_short_text (fun vs H Q E h => ?_) (fun cdv A outer s H vs Q E hr h => ?_)
  · obtain ⟨v, d, n, rfl, _⟩ := h; rfl
  · obtain ⟨v, d, n, rfl, hd, hf, k⟩ := h
    refine ⟨_, (pss_one (ps_ret (pe_and (pe_call (ok_is_text T) (hr.mono (by decide)) (by rfl) T.g_is_text T.F_is_text.kp T.b_is_text .nil pass0 (pa_cons (pv 0) pa_nil)) (pe_one (pe_chain op_le op_le pe_int (pe_callB cq_lenS (by rfl) T.z_len boot_len (pa_cons (pv 0) pa_nil)) (pv 1)))))), ?_⟩
    (dsimp only [cxOf, Cx.nox, Cx.wish, L2.start, List.map, List.length, List.replicate, List.cons_append, List.nil_append, List.append_eq, Nat.reduceSub, Nat.reduceAdd])
    walk_at "my_rd"
    refine ⟨v, d, rfl, hd, hf, fun H1 sm => ?_⟩
    refine q_andV2 (fun h => ?_) (fun h => ?_)
    · cases hd with
      | str x =>
        have hx : x.length ≤ 100000 := hf
        walk_at "my_rd"
        refine q_lenS (Nat.le_trans hx (by decide)) ?_
        walk_at "my_rd"
        have e : shortD n (.str x) = (decide (1 ≤ (x.length : Int)) && decide ((x.length : Int) ≤ n)) := by
          show (textS x && _) = _
          rw [show textS x = true from h, Bool.true_and]
        refine q_ch2 (fun h1 => ?_) (fun h1 => ?_)
        · walk_at "my_rd"
          rw [h1, Bool.true_and] at e
          rw [← e]
          exact k H1 sm
        · rw [h1, Bool.false_and] at e
          rw [← e]
          exact k H1 sm
      | _ => cases h
    · have e : false = shortD n d := by
        cases d <;> first | rfl | (show false = (_ && _); rw [show textS _ = false from h]; rfl)
      rw [e]
      exact k H1 sm
theorem ok_is_account (T : Txt K mg) : FnOk P w K mg base CX0 3 T.f_is_account T.d_is_account ["value"] (sp_tell K accD) := by
  refine T.F_is_account.ok sc_is_account (fun vs H Q E h => ?_) (fun cdv A outer s H vs Q E hr h => ?_)
  · obtain ⟨v, d, rfl, _⟩ := h; rfl
  · obtain ⟨v, d, rfl, hd, hf, k⟩ := h
    refine ⟨_, (pss_one (ps_ret (pe_call (ok_is_short_text T) (hr.mono (by decide)) (by rfl) T.g_is_short_text T.F_is_short_text.kp T.b_is_short_text .nil pass0 (pa_cons (pv 0) (pa_cons (pe_glob (v := .int 20) (by rfl) T.c_ACCOUNT_LENGTH ⟨_, rfl⟩) pa_nil))))), ?_⟩
    (dsimp only [cxOf, Cx.nox, Cx.wish, L2.start, List.map, List.length, List.replicate, List.cons_append, List.nil_append, List.append_eq, Nat.reduceSub, Nat.reduceAdd])
    walk_at "my_rd"
    exact ⟨v, d, 20, rfl, hd, hf, fun H1 sm => k H1 sm⟩
end

local macro_rules | `(tactic| walk_at "my_rd") => `(tactic| (repeat first
  | with_reducible refine q_tCons ?_
  | ((with_reducible apply q_var); (focus (exact rfl)))
  | with_reducible refine q_c ?_
  | ((with_reducible apply q_nxE); (focus (with_reducible exact rfl)))
  | with_reducible refine q_bK ?_
  | with_reducible refine q_call ?_
  | with_reducible refine q_callK ?_
  | with_reducible refine q_tNil ?_
  | with_reducible refine q_cb ?_
  | with_reducible refine q_seq ?_
  | with_reducible refine q_asg ?_
  | with_reducible refine q_gName ?_
  | with_reducible refine q_op ?_
  | with_reducible refine q_test ?_
  | with_reducible refine q_tB ?_
  | with_reducible refine q_ifS ?_
  | with_reducible refine q_ret ?_
  | ((with_reducible apply q_rtE); (focus (with_reducible exact rfl)))
  | with_reducible refine q_next ?_
  | with_reducible refine q_ifF ?_
  | with_reducible refine q_ifT ?_
  | with_reducible refine q_drop ?_
  | with_reducible refine q_and ?_
  | with_reducible refine q_or ?_
  | with_reducible refine q_andT ?_
  | with_reducible refine q_andF ?_
  | with_reducible refine q_orF ?_
  | with_reducible refine q_orT ?_
  | with_reducible refine q_andV ?_
  | with_reducible refine q_andVT ?_
  | with_reducible refine q_andVF ?_
  | with_reducible refine q_orV ?_
  | with_reducible refine q_gCons ?_
  | with_reducible refine q_gNil ?_
  | with_reducible refine q_tup ?_
  | with_reducible refine q_lst ?_
  | with_reducible refine q_not ?_
  | with_reducible refine q_notKT ?_
  | with_reducible refine q_notKF ?_
  | with_reducible refine q_I0 ?_
  | with_reducible refine q_eqI ?_
  | with_reducible refine q_neI ?_
  | ((with_reducible refine q_I ?_ ?_); first | decide | omega | exact ⟨by omega, by omega⟩ | exact ⟨by decide, by decide⟩ | exact .inl ⟨by omega, by omega⟩ | exact .inr ⟨by omega, by omega⟩ | exact .inr ⟨by decide, by decide⟩)
  | with_reducible refine q_eqS ?_
  | with_reducible refine q_neS ?_
  | with_reducible refine q_brk ?_
  | with_reducible refine q_ct ?_
  | ((with_reducible apply q_bkE); (focus (with_reducible exact rfl)))
  | ((with_reducible apply q_cnE); (focus (with_reducible exact rfl)))
  | with_reducible refine q_retN ?_
  | with_reducible refine q_gSub ?_
  | with_reducible refine q_for ?_
  | with_reducible refine q_iList ?_
  | with_reducible refine q_iTup ?_
  | with_reducible refine q_iRng1 ?_
  | with_reducible refine q_notK ?_
  | with_reducible refine q_orVT ?_
  | with_reducible refine q_orVF ?_
  | with_reducible refine q_notV ?_
  | with_reducible refine q_notVK ?_
  | with_reducible refine q_ifE ?_
  | with_reducible refine q_ifET ?_
  | with_reducible refine q_ifEF ?_
  | with_reducible refine q_yes ?_
  | with_reducible refine q_un ?_
  | with_reducible refine q_rU ?_
  | with_reducible refine q_abs ?_
  | with_reducible refine q_int1 ?_
  | with_reducible refine q_bm ?_
  | with_reducible refine q_bm0 ?_
  | with_reducible refine q_lc ?_
  | with_reducible refine q_keepT ?_
  | with_reducible refine q_keepF ?_
  | ((with_reducible apply q_aug); (focus (exact rfl)))
  | with_reducible refine q_ipI ?_
  | with_reducible refine q_chain ?_
  | with_reducible refine q_pairC ?_
  | with_reducible refine q_pairsK ?_
  | with_reducible refine q_pairN ?_
  | with_reducible refine q_fld ?_
  | with_reducible refine q_sFld ?_
  | with_reducible refine q_meth ?_
  | with_reducible refine q_makeK ?_
  | with_reducible refine q_isBl ?_
  | with_reducible refine q_notBl ?_
  | with_reducible refine q_sl ?_
  | with_reducible refine q_noPart ?_
  | with_reducible refine q_part ?_
  | with_reducible refine q_partK ?_
  | ((with_reducible apply q_mulStr); (focus (decide +kernel)))
  | with_reducible refine q_chT ?_
  | with_reducible refine q_chF ?_
  | with_reducible refine q_ord ?_
  | with_reducible refine q_iStr0 ?_
  | with_reducible refine q_iStr ?_
  | with_reducible refine q_tDIn ?_
  | with_reducible refine q_tDNotIn ?_
  | with_reducible refine q_tDGet ?_
  | with_reducible refine q_tDGet2 ?_
  | with_reducible refine q_tDGet1 ?_
  | with_reducible refine q_tDSetd ?_
  | ((with_reducible apply q_dG2a); (focus ((repeat first | (with_reducible exact upd_same) | (with_reducible assumption) | (with_reducible apply upd_new (by assumption)) | (with_reducible apply upd_other (by first | assumption | exact Ne.symm (by assumption))) | (with_reducible refine' Kp.get (by assumption) ?_ (by first | assumption | exact Ne.symm (by assumption))) | (with_reducible apply Same.get (by assumption))); done)))
  | ((with_reducible apply q_dSda); (focus ((repeat first | (with_reducible exact upd_same) | (with_reducible assumption) | (with_reducible apply upd_new (by assumption)) | (with_reducible apply upd_other (by first | assumption | exact Ne.symm (by assumption))) | (with_reducible refine' Kp.get (by assumption) ?_ (by first | assumption | exact Ne.symm (by assumption))) | (with_reducible apply Same.get (by assumption))); done)))
  | with_reducible refine q_sDPut ?_
  | ((with_reducible apply q_dInS); (focus ((repeat first | (with_reducible exact upd_same) | (with_reducible assumption) | (with_reducible apply upd_new (by assumption)) | (with_reducible apply upd_other (by first | assumption | exact Ne.symm (by assumption))) | (with_reducible refine' Kp.get (by assumption) ?_ (by first | assumption | exact Ne.symm (by assumption))) | (with_reducible apply Same.get (by assumption))); done)))
  | ((with_reducible apply q_dNInS); (focus ((repeat first | (with_reducible exact upd_same) | (with_reducible assumption) | (with_reducible apply upd_new (by assumption)) | (with_reducible apply upd_other (by first | assumption | exact Ne.symm (by assumption))) | (with_reducible refine' Kp.get (by assumption) ?_ (by first | assumption | exact Ne.symm (by assumption))) | (with_reducible apply Same.get (by assumption))); done)))
  | ((with_reducible apply q_dInI); (focus ((repeat first | (with_reducible exact upd_same) | (with_reducible assumption) | (with_reducible apply upd_new (by assumption)) | (with_reducible apply upd_other (by first | assumption | exact Ne.symm (by assumption))) | (with_reducible refine' Kp.get (by assumption) ?_ (by first | assumption | exact Ne.symm (by assumption))) | (with_reducible apply Same.get (by assumption))); done)))
  | ((with_reducible apply q_dNInI); (focus ((repeat first | (with_reducible exact upd_same) | (with_reducible assumption) | (with_reducible apply upd_new (by assumption)) | (with_reducible apply upd_other (by first | assumption | exact Ne.symm (by assumption))) | (with_reducible refine' Kp.get (by assumption) ?_ (by first | assumption | exact Ne.symm (by assumption))) | (with_reducible apply Same.get (by assumption))); done)))
  | ((with_reducible apply q_bmL); (focus ((repeat first | (with_reducible exact upd_same) | (with_reducible assumption) | (with_reducible apply upd_new (by assumption)) | (with_reducible apply upd_other (by first | assumption | exact Ne.symm (by assumption))) | (with_reducible refine' Kp.get (by assumption) ?_ (by first | assumption | exact Ne.symm (by assumption))) | (with_reducible apply Same.get (by assumption))); done)))
  | ((with_reducible apply q_bmL0); (focus ((repeat first | (with_reducible exact upd_same) | (with_reducible assumption) | (with_reducible apply upd_new (by assumption)) | (with_reducible apply upd_other (by first | assumption | exact Ne.symm (by assumption))) | (with_reducible refine' Kp.get (by assumption) ?_ (by first | assumption | exact Ne.symm (by assumption))) | (with_reducible apply Same.get (by assumption))); done)))
  | ((with_reducible apply q_ixLt); (focus ((repeat first | (with_reducible exact upd_same) | (with_reducible assumption) | (with_reducible apply upd_new (by assumption)) | (with_reducible apply upd_other (by first | assumption | exact Ne.symm (by assumption))) | (with_reducible refine' Kp.get (by assumption) ?_ (by first | assumption | exact Ne.symm (by assumption))) | (with_reducible apply Same.get (by assumption))); done)); (focus (exact rfl)))
  | ((with_reducible apply q_ixTt); (focus ((repeat first | (with_reducible exact upd_same) | (with_reducible assumption) | (with_reducible apply upd_new (by assumption)) | (with_reducible apply upd_other (by first | assumption | exact Ne.symm (by assumption))) | (with_reducible refine' Kp.get (by assumption) ?_ (by first | assumption | exact Ne.symm (by assumption))) | (with_reducible apply Same.get (by assumption))); done)); (focus (exact rfl)))
  | ((with_reducible apply q_lenLt); (focus ((repeat first | (with_reducible exact upd_same) | (with_reducible assumption) | (with_reducible apply upd_new (by assumption)) | (with_reducible apply upd_other (by first | assumption | exact Ne.symm (by assumption))) | (with_reducible refine' Kp.get (by assumption) ?_ (by first | assumption | exact Ne.symm (by assumption))) | (with_reducible apply Same.get (by assumption))); done)))
  | ((with_reducible apply q_lenTt); (focus ((repeat first | (with_reducible exact upd_same) | (with_reducible assumption) | (with_reducible apply upd_new (by assumption)) | (with_reducible apply upd_other (by first | assumption | exact Ne.symm (by assumption))) | (with_reducible refine' Kp.get (by assumption) ?_ (by first | assumption | exact Ne.symm (by assumption))) | (with_reducible apply Same.get (by assumption))); done)))
  | ((with_reducible apply q_append); (focus ((repeat first | (with_reducible exact upd_same) | (with_reducible assumption) | (with_reducible apply upd_new (by assumption)) | (with_reducible apply upd_other (by first | assumption | exact Ne.symm (by assumption))) | (with_reducible refine' Kp.get (by assumption) ?_ (by first | assumption | exact Ne.symm (by assumption))) | (with_reducible apply Same.get (by assumption))); done)); (focus ((first | (exact Nat.lt_of_ble_eq_true rfl) | (simp only [List.length_append, List.length_cons, List.length_nil, List.length_map]; exact small1000 (by omega))))))
  | ((with_reducible apply q_setL); (focus ((repeat first | (with_reducible exact upd_same) | (with_reducible assumption) | (with_reducible apply upd_new (by assumption)) | (with_reducible apply upd_other (by first | assumption | exact Ne.symm (by assumption))) | (with_reducible refine' Kp.get (by assumption) ?_ (by first | assumption | exact Ne.symm (by assumption))) | (with_reducible apply Same.get (by assumption))); done)); (focus (exact rfl)))
  | with_reducible refine q_ifNT ?_
  | with_reducible refine q_ifNF ?_
  | with_reducible refine q_andNT ?_
  | with_reducible refine q_andNF ?_
  | with_reducible refine q_orNT ?_
  | with_reducible refine q_orNF ?_
  | with_reducible refine q_bKNT ?_
  | with_reducible refine q_bKNF ?_
  | with_reducible refine q_tNGet ?_
  | with_reducible refine q_tNIn ?_
  | with_reducible refine q_sNPut ?_
  | with_reducible refine q_sFldAug ?_
  | with_reducible refine q_sDAug ?_
  | with_reducible refine q_sDDel ?_
  | with_reducible refine q_forX ?_
  | with_reducible refine q_tMake ?_
  | ((with_reducible apply q_dG1a); (focus ((repeat first | (with_reducible exact upd_same) | (with_reducible assumption) | (with_reducible apply upd_new (by assumption)) | (with_reducible apply upd_other (by first | assumption | exact Ne.symm (by assumption))) | (with_reducible refine' Kp.get (by assumption) ?_ (by first | assumption | exact Ne.symm (by assumption))) | (with_reducible apply Same.get (by assumption))); done)))))
/-! pairs and sets, told of any value -/
def pairD : PyData → Bool
  | .tuple [a, b] => accD a && leastD 1 b
  | _ => false
def nameS : PyData → Str
  | .tuple (.str s :: _) => s
  | _ => ""
def setD : PyData → Bool
  | .tuple ds => !ds.isEmpty && (ds.all pairD && decide ((ds.map nameS).Nodup))
  | _ => false
def FineP (d : PyData) : Prop := ∀ a b, d = .tuple [a, b] → Fine a ∧ Fine b
def FineS (d : PyData) : Prop := ∀ ds, d = .tuple ds → ds.length ≤ 1000 ∧ ∀ x ∈ ds, FineP x
theorem pairD_shape {d : PyData} (h : pairD d = true) : ∃ s n, d = .tuple [.str s, .int n] ∧ accD (.str s) = true ∧ 1 ≤ n := by
  unfold pairD at h
  split at h
  · rename_i a b
    rw [Bool.and_eq_true] at h
    obtain ⟨h1, h2⟩ := h
    cases a <;> try cases h1
    cases b <;> try cases h2
    exact ⟨_, _, rfl, h1, of_decide_eq_true h2⟩
  · cases h
def sp_pair (K : PySem.W.Frag) : Sp := fun vs H Q _ => ∃ (v : V) (d : PyData), vs = [v] ∧ Dp K H v d ∧ FineP d ∧ ∀ H', Same H H' → Q (.bl (pairD d)) H'
def sp_set (K : PySem.W.Frag) : Sp := fun vs H Q _ => ∃ (v : V) (d : PyData), vs = [v] ∧ Dp K H v d ∧ FineS d ∧ ∀ H', Same H H' → Q (.bl (setD d)) H'
theorem mem_names {l : List Key} {s : Str} (ks : List Str) (h : l = ks.map Sum.inr) : (Sum.inr s : Key) ∈ l ↔ s ∈ ks := by
  subst h
  constructor
  · intro m
    obtain ⟨z, hz, e⟩ := List.mem_map.mp m
    cases e
    exact hz
  · exact fun m => List.mem_map.mpr ⟨s, m, rfl⟩
section
variable {P : Program} {w : World} {K : PySem.W.Frag} {mg : Str → Option Value} {base : Heap}
theorem ok_is_pair (T : Txt K mg) : FnOk P w K mg base CX0 4 T.f_is_pair T.d_is_pair ["part"] (sp_pair K) := by
  refine T.F_is_pair.ok sc_is_pair (fun vs H Q E h => ?_) (fun cdv A outer s H vs Q E hr h => ?_)
  · obtain ⟨v, d, rfl, _⟩ := h; rfl
  · obtain ⟨v, d, rfl, hd, hf, k⟩ := h
    refine ⟨_, (pss_one (ps_ret (pe_and (pe_callB call_isi (by rfl) T.z_isinstance boot_isinstance (pa_cons (pv 0) (pa_cons (pe_bltn (v := .ty "tuple") (by rfl) T.z_tuple boot_tuple rfl) pa_nil))) (pe_and (pe_cmpR op_eq (pe_callB cq_len (by rfl) T.z_len boot_len (pa_cons (pv 0) pa_nil)) pe_int (nomark _)) (pe_and (pe_call (ok_is_account T) (hr.mono (by decide)) (by rfl) T.g_is_account T.F_is_account.kp T.b_is_account .nil pass0 (pa_cons (pe_ix ix_tup (pv 0) pe_int (fun _ _ => rfl)) pa_nil)) (pe_one (pe_call (ok_is_at_least T) (hr.mono (by decide)) (by rfl) T.g_is_at_least T.F_is_at_least.kp T.b_is_at_least .nil pass0 (pa_cons (pe_ix ix_tup (pv 0) pe_int (fun _ _ => rfl)) (pa_cons pe_int pa_nil))))))))), ?_⟩
    (dsimp only [cxOf, Cx.nox, Cx.wish, L2.start, List.map, List.length, List.replicate, List.cons_append, List.nil_append, List.append_eq, Nat.reduceSub, Nat.reduceAdd])
    walk_at "my_rd"
    refine q_isiD hd (kit_tuple d) ?_
    cases hd with
    | @tup a xs ds h1 h2 =>
      show andVK _ _ _ (.bl true) H
      walk_at "my_rd"
      refine q_lenT h1 ?_
      walk_at "my_rd"
      have hl := dpall_len h2
      by_cases h : xs.length = 2
      · rw [decide_eq_true (show (xs.length : Int) = 2 by omega)]
        obtain ⟨v0, v1, rfl⟩ : ∃ v0 v1, xs = [v0, v1] := by
          match xs, h with
          | [v0, v1], _ => exact ⟨v0, v1, rfl⟩
        cases h2 with
        | cons d0 h2 =>
          cases h2 with
          | cons d1 h2 =>
            cases h2
            obtain ⟨f0, f1⟩ := hf _ _ rfl
            walk_at "my_rd"
            refine q_ixT h1 rfl ?_
            walk_at "my_rd"
            refine ⟨_, _, rfl, d0, f0, fun H1 sm => ?_⟩
            refine q_andV2 (fun h => ?_) (fun h => ?_)
            · walk_at "my_rd"
              refine q_ixT (Same.sqT sm h1) rfl ?_
              walk_at "my_rd"
              refine ⟨_, _, _, rfl, dp_mono sm d1, f1, fun H2 sm2 => ?_⟩
              rename_i y0 y1
              have e : pairD (.tuple [y0, y1]) = leastD 1 y1 := by
                show (accD y0 && leastD 1 y1) = _
                rw [h, Bool.true_and]
              rw [← e]
              exact k H2 (Same.trans sm sm2)
            · rename_i y0 y1
              have e : false = pairD (.tuple [y0, y1]) := by
                show false = (accD y0 && leastD 1 y1)
                rw [h, Bool.false_and]
              rw [e]
              exact k H1 sm
      · rw [decide_eq_false (show ¬ (xs.length : Int) = 2 by omega)]
        have e : false = pairD (.tuple ds) := by
          unfold pairD
          split
          · rename_i heq
            injection heq with heq
            subst heq
            exact absurd hl h
          · rfl
        walk_at "my_rd"
        rw [e]
        exact k H (Same.refl _)
    | _ =>
      show andVK _ _ _ (.bl false) H
      walk_at "my_rd"
      exact k H (Same.refl _)
theorem ok_is_set (T : Txt K mg) : FnOk P w K mg base CX0 5 T.f_is_set T.d_is_set ["value"] (sp_set K) := by
  refine T.F_is_set.ok sc_is_set (fun vs H Q E h => ?_) (fun cdv A outer s H vs Q E hr h => ?_)
  · obtain ⟨v, d, rfl, _⟩ := h; rfl
  · obtain ⟨v, d, rfl, hd, hf, k⟩ := h
    have hu := hu_of hr
    refine ⟨_, (pss_cons (ps_if (PW.pt (pw_or (pt_not (pt_val (pe_callB call_isi (by rfl) T.z_isinstance boot_isinstance (pa_cons (pv 0) (pa_cons (pe_bltn (v := .ty "tuple") (by rfl) T.z_tuple boot_tuple rfl) pa_nil))))) (pw_or1 (pt_not (pt_truth (pv 0) (by intro _; rfl)))))) (pss_one (ps_ret pe_bl)) pss_nil)
      (pss_cons (ps_set (i := 1) sc_is_set.nd rfl (Or.inl rfl) pe_dnewK)
      (pss_cons (ps_for PassesOwn.never rfl (pi_tup (pv 0)) (pg_name (i := 2) sc_is_set.nd rfl (Or.inl rfl))
        (pss_cons (ps_if (PW.pt (pw_or (pt_not (pt_val (pe_call (ok_is_pair T) (hr.mono (by decide)) (by rfl) T.g_is_pair T.F_is_pair.kp T.b_is_pair .nil pass0 (pa_cons (pv 2) pa_nil)))) (pw_or1 (pt_cmp (pc_din hu (pe_ix ix_tup (pv 2) pe_int (fun _ _ => rfl)) (pv 1)))))) (pss_one (ps_ret pe_bl)) pss_nil)
      (pss_one (ps_dput hu (pv 1) (pe_ix ix_tup (pv 2) pe_int (fun _ _ => rfl)) pe_bl rfl))))
      (pss_one (ps_ret pe_bl))))), ?_⟩
    (dsimp only [cxOf, Cx.nox, Cx.wish, L2.start, List.map, List.length, List.replicate, List.cons_append, List.nil_append, List.append_eq, Nat.reduceSub, Nat.reduceAdd])
    walk_at "my_rd"
    refine q_isiD hd (kit_tuple d) ?_
    cases hd with
    | @tup a xs ds h1 h2 =>
      show bK _ (.bl true) H
      walk_at "my_rd"
      have hl := dpall_len h2
      obtain ⟨hfl, hfp⟩ := hf ds rfl

      refine ⟨!xs.isEmpty, .inr (.inl ⟨xs, h1, rfl⟩), ?_⟩
      cases hx : xs.isEmpty with
      | true =>
        show ifK _ _ _ _ true H
        walk_at "my_rd"
        have e : xs = [] := List.isEmpty_iff.mp hx
        subst e
        have e2 : ds = [] := List.length_eq_zero_iff.mp hl.symm
        subst e2
        exact k H (Same.refl _)
      | false =>
        show ifK _ _ _ _ false H
        walk_at "my_rd"
        refine q_dNew fun F nF => ?_
        walk_at "my_rd"
        have e0 : ds.isEmpty = false := by
          cases ds with
          | nil => rw [List.length_eq_zero_iff.mp hl] at hx; cases hx
          | cons _ _ => rfl
        refine q_forT (Same.sqT (Same.new (Same.refl _) nF) h1) (fun i σ H2 => ∃ (kvs : List (Key × V)) (pv : Option V), σ = [some (.ref a), some (.ref F), pv] ∧ Same H H2 ∧ H2 F = some (.dK kvs) ∧ kvs.map (·.1) = ((ds.take i).map nameS).map Sum.inr ∧ (ds.take i).all pairD = true ∧ ((ds.take i).map nameS).Nodup)
          ⟨[], _, rfl, Same.new (Same.refl _) nF, upd_same, rfl, rfl, List.nodup_nil⟩ (fun i σ H2 _ ⟨_, _, _, sm, _⟩ => Same.sqT sm h1) ?_ ?_
        · rintro i x σ H2 hx ⟨kvs, pv, rfl, sm, hF, hk, hall, hnd⟩
          obtain ⟨dx, hdx, hdp⟩ := dpall_get h2 hx
          have hnf : ∀ b, (ds.take (i + 1)).all pairD = b → (b = false → ds.all pairD = false) := fun b hb hb2 => by
            rw [hb2] at hb
            rw [List.all_eq_false] at hb ⊢
            obtain ⟨z, hz, hp⟩ := hb
            exact ⟨z, List.mem_of_mem_take hz, hp⟩
          walk_at "my_rd"
          refine ⟨x, dx, rfl, dp_mono sm hdp, hfp dx (List.mem_of_getElem? hdx), fun H3 sm3 => ?_⟩
          cases hpd : pairD dx with
          | false =>
            walk_at "my_rd"

            walk_at "my_rd"
            have e : false = setD (.tuple ds) := by
              show false = (!ds.isEmpty && (ds.all pairD && _))
              rw [hnf false (by rw [take_snoc hdx, List.all_append, List.all_cons, hpd]; simp) rfl]
              simp
            rw [e]
            exact k H3 (Same.trans sm sm3)
          | true =>
            walk_at "my_rd"
            obtain ⟨nme, wt, rfl, _, _⟩ := pairD_shape hpd
            have hdp3 := dp_mono (Same.trans sm sm3) hdp
            have hF3 := sm3 _ _ hF
            cases hdp3 with
            | @tup b ys es t1 t2 =>
              cases t2 with
              | @cons v0 _ _ _ u0 t2 =>
                cases t2 with
                | cons u1 t3 =>
                cases t3
                cases u0 with
                | str _ =>
                  refine q_ixT t1 rfl ?_
                  walk_at "my_rd"
                  have key : (valV kvs (Sum.inr nme)).isSome = decide (nme ∈ (ds.take i).map nameS) := by
                    cases hv : valV kvs (Sum.inr nme) with
                    | none =>
                      have q := valV_not hv
                      rw [mem_names _ hk] at q
                      exact (decide_eq_false q).symm
                    | some _ =>
                      have q := valV_in hv
                      rw [mem_names _ hk] at q
                      exact (decide_eq_true q).symm
                  rw [key]
                  refine q_if2 (fun h => ?_) (fun h => ?_)
                  · have h := dec_t h
                    walk_at "my_rd"
                    have e : false = setD (.tuple ds) := by
                      show false = (!ds.isEmpty && (ds.all pairD && decide ((ds.map nameS).Nodup)))
                      rw [decide_eq_false, Bool.and_false, Bool.and_false]
                      intro hn
                      have h3 : ((ds.take (i + 1)).map nameS).Nodup := (List.Sublist.map _ (List.take_sublist _ _)).nodup hn
                      rw [take_snoc hdx, List.map_append] at h3
                      exact (List.nodup_append.mp h3).2.2 nme h nme (by simp [nameS]) rfl
                    rw [e]
                    exact k H3 (Same.trans sm sm3)
                  · have h := dec_f h
                    walk_at "my_rd"
                    refine q_ixT t1 rfl ?_
                    have hv : valV kvs (Sum.inr nme) = none := by
                      cases hv : valV kvs (Sum.inr nme) with
                      | none => rfl
                      | some _ =>
                        rw [hv] at key
                        exact absurd (dec_t key.symm) h
                    refine q_dPutS hF3 ?_ ?_
                    · have : kvs.length = (ds.take i).length := by
                        have := congrArg List.length hk
                        simpa using this
                      rw [List.length_take] at this
                      exact small1000 (by omega)
                    · walk_at "my_rd"
                      have e2 : ds.take (i + 1) = ds.take i ++ [PyData.tuple [.str nme, .int wt]] := take_snoc hdx
                      refine ⟨_, _, rfl, Same.new (Same.trans sm sm3) nF, upd_same, ?_, ?_, ?_⟩
                      · rw [putK_new _ hv, List.map_append, hk, e2, List.map_append, List.map_append]
                        rfl
                      · rw [e2, List.all_append, hall, List.all_cons, hpd]
                        rfl
                      · rw [e2, List.map_append]
                        exact nd_snoc hnd h
        · rintro σ H2 ⟨kvs, pv, rfl, sm, hF, hk, hall, hnd⟩
          walk_at "my_rd"
          have et : ds.take xs.length = ds := List.take_of_length_le (by rw [hl]; exact Nat.le_refl _)
          rw [et] at hall hnd
          have e : true = setD (.tuple ds) := by
            show true = (!ds.isEmpty && (ds.all pairD && decide ((ds.map nameS).Nodup)))
            rw [e0, hall, decide_eq_true hnd]
            rfl
          rw [e]
          exact k H2 sm
    | _ =>
      show bK _ (.bl false) H
      walk_at "my_rd"
      exact k H (Same.refl _)
end

/-! letters, told of any value -/
def flatD : PyData → Bool
  | .none => true
  | .bool _ => true
  | .int _ => true
  | .str _ => true
  | _ => false
def isS (s : Str) : PyData → Bool
  | .str z => decide (z = s)
  | _ => false
def sideD (d : PyData) : Bool := isS "west" d || isS "east" d
def oneD (d : PyData) : Bool := isS "deliver" d || (isS "return" d || isS "cancel" d)
def allD (d : PyData) : Bool := isS "stop" d || isS "resume" d
def emptyD : PyData → Bool
  | .tuple [] => true
  | _ => false
def leD : PyData → PyData → Bool
  | .int a, .int b => decide (a ≤ b)
  | _, _ => false
def transD : PyData → Bool
  | .tuple [t, u, f, s, r, d] => if !(textD t && (accD s && accD r)) then false else leastD 1 u && (leastD 0 f && (leD f u && leastD 0 d))
  | _ => false
def letterD : PyData → Bool
  | .tuple [k, s, n, b] => if isS "rotate" k then isS "both" s && (leastD 1 n && setD b) else if !(sideD s && leastD 0 n) then false else if oneD k then transD b else allD k && emptyD b
  | _ => false
def FineT (d : PyData) : Prop := ∀ t u f s r e, d = .tuple [t, u, f, s, r, e] → Fine t ∧ Fine u ∧ Fine f ∧ Fine s ∧ Fine r ∧ Fine e
structure FineB (b : PyData) : Prop where
  s : FineS b
  t : FineT b
  sh : SeqAt.shaped b = true
def FineL (d : PyData) : Prop := ∀ k s n b, d = .tuple [k, s, n, b] → flatD k = true ∧ flatD s = true ∧ Fine n ∧ FineB b ∧ isS "bundle" k = false
theorem six {α : Type} : ∀ {l : List α}, l.length = 6 → ∃ a b c d e f, l = [a, b, c, d, e, f]
  | [_, _, _, _, _, _], _ => ⟨_, _, _, _, _, _, rfl⟩
  | [], h => by simp at h
  | [_], h => by simp at h
  | [_, _], h => by simp at h
  | [_, _, _], h => by simp at h
  | [_, _, _, _], h => by simp at h
  | [_, _, _, _, _], h => by simp at h
  | _ :: _ :: _ :: _ :: _ :: _ :: _ :: _, h => by simp at h
theorem four {α : Type} : ∀ {l : List α}, l.length = 4 → ∃ a b c d, l = [a, b, c, d]
  | [_, _, _, _], _ => ⟨_, _, _, _, rfl⟩
  | [], h => by simp at h
  | [_], h => by simp at h
  | [_, _], h => by simp at h
  | [_, _, _], h => by simp at h
  | _ :: _ :: _ :: _ :: _ :: _, h => by simp at h
theorem dp_cons {K : PySem.W.Frag} {H : Hp} {xs : List V} {d : PyData} {ds : List PyData} (h : DpAll K H xs (d :: ds)) : ∃ v vs, xs = v :: vs ∧ Dp K H v d ∧ DpAll K H vs ds := by
  cases h with
  | cons a b => exact ⟨_, _, rfl, a, b⟩
theorem dp_nil {K : PySem.W.Frag} {H : Hp} {xs : List V} (h : DpAll K H xs []) : xs = [] := by cases h; rfl
theorem dp4 {K : PySem.W.Frag} {H : Hp} {xs : List V} {a b c d : PyData} (h : DpAll K H xs [a, b, c, d]) : ∃ v0 v1 v2 v3, xs = [v0, v1, v2, v3] ∧ Dp K H v0 a ∧ Dp K H v1 b ∧ Dp K H v2 c ∧ Dp K H v3 d := by
  obtain ⟨v0, xs, rfl, h0, h⟩ := dp_cons h
  obtain ⟨v1, xs, rfl, h1, h⟩ := dp_cons h
  obtain ⟨v2, xs, rfl, h2, h⟩ := dp_cons h
  obtain ⟨v3, xs, rfl, h3, h⟩ := dp_cons h
  obtain rfl := dp_nil h
  exact ⟨v0, v1, v2, v3, rfl, h0, h1, h2, h3⟩
theorem dp6 {K : PySem.W.Frag} {H : Hp} {xs : List V} {a b c d e f : PyData} (h : DpAll K H xs [a, b, c, d, e, f]) : ∃ v0 v1 v2 v3 v4 v5, xs = [v0, v1, v2, v3, v4, v5] ∧ Dp K H v0 a ∧ Dp K H v1 b ∧ Dp K H v2 c ∧ Dp K H v3 d ∧ Dp K H v4 e ∧ Dp K H v5 f := by
  obtain ⟨v0, xs, rfl, h0, h⟩ := dp_cons h
  obtain ⟨v1, xs, rfl, h1, h⟩ := dp_cons h
  obtain ⟨v2, v3, v4, v5, rfl, r⟩ := dp4 h
  exact ⟨v0, v1, v2, v3, v4, v5, rfl, h0, h1, r⟩
def sp_side (K : PySem.W.Frag) : Sp := fun vs H Q _ => ∃ (v : V) (d : PyData), vs = [v] ∧ Dp K H v d ∧ flatD d = true ∧ ∀ H', Same H H' → Q (.bl (sideD d)) H'
def sp_trans (K : PySem.W.Frag) : Sp := fun vs H Q _ => ∃ (v : V) (d : PyData), vs = [v] ∧ Dp K H v d ∧ FineT d ∧ ∀ H', Same H H' → Q (.bl (transD d)) H'
def sp_letter (K : PySem.W.Frag) : Sp := fun vs H Q _ => ∃ (v : V) (d : PyData), vs = [v] ∧ Dp K H v d ∧ FineL d ∧ ∀ H', Same H H' → Q (.bl (letterD d)) H'
def sp_none : Sp := fun _ _ _ _ => False
theorem flat_v {K : PySem.W.Frag} {H : Hp} {v : V} {d : PyData} (h : Dp K H v d) (f : flatD d = true) : flatV v = true := by
  cases h <;> first | rfl | cases f
theorem isS_v {K : PySem.W.Frag} {H : Hp} {v : V} {d : PyData} {s : Str} (h : Dp K H v d) (f : flatD d = true) : eqV (.str s) v = isS s d := by
  cases h with
  | str x =>
    show (s == x) = decide (x = s)
    by_cases e : x = s
    · subst e; simp
    · rw [decide_eq_false e]; exact beq_eq_false_iff_ne.mpr (fun q => e q.symm)
  | _ => first | rfl | cases f
theorem eqS_v {K : PySem.W.Frag} {H : Hp} {v : V} {d : PyData} {s : Str} (h : Dp K H v d) (f : flatD d = true) : scal v (.str s) = true ∧ decide (v = .str s) = isS s d := by
  cases h with
  | str x => exact ⟨rfl, dec_str x s⟩
  | non => exact ⟨rfl, decide_eq_false (fun e => by cases e)⟩
  | bl b => exact ⟨rfl, decide_eq_false (fun e => by cases e)⟩
  | int i => exact ⟨rfl, decide_eq_false (fun e => by cases e)⟩
  | lst _ _ => cases f
  | tup _ _ => cases f
theorem empty_eqv (d : PyData) : PyData.eqv d (.tuple []) = emptyD d := by
  cases d with
  | tuple xs => cases xs <;> simp [PyData.eqv, PyData.eqvAll, emptyD]
  | _ => simp [PyData.eqv, emptyD]
section
variable {P : Program} {w : World} {K : PySem.W.Frag} {mg : Str → Option Value} {base : Heap}
theorem ok_is_bundle (T : Txt K mg) : FnOk P w K mg base CX0 5 T.f_is_bundle T.d_is_bundle ["value"] sp_none :=
  ⟨fun _ _ _ _ h => h.elim, fun _ _ _ _ _ _ _ _ _ _ _ _ _ h => h.elim⟩
theorem ok_is_side (T : Txt K mg) : FnOk P w K mg base CX0 1 T.f_is_side T.d_is_side ["value"] (sp_side K) := by
  refine T.F_is_side.ok sc_is_side (fun vs H Q E h => ?_) (fun cdv A outer s H vs Q E hr h => ?_)
  · obtain ⟨v, d, rfl, _⟩ := h; rfl
  · obtain ⟨v, d, rfl, hd, hf, k⟩ := h
    refine ⟨_, (pss_one (ps_ret (pe_cmpR op_in_seq (pv 0) (pe_glob (v := .ref T.a_SIDES) (by rfl) T.c_SIDES rfl) (by rfl)))), ?_⟩
    (dsimp only [cxOf, Cx.nox, Cx.wish, L2.start, List.map, List.length, List.replicate, List.cons_append, List.nil_append, List.append_eq, Nat.reduceSub, Nat.reduceAdd])
    walk_at "my_rd"
    refine q_inT T.k_SIDES.sq (flat_v hd hf) rfl ?_
    walk_at "my_rd"
    have e : inV v [.str "west", .str "east"] = sideD d := by
      show (eqV (.str "west") v || (eqV (.str "east") v || false)) = _
      rw [isS_v hd hf, isS_v hd hf, Bool.or_false]
      rfl
    rw [e]
    exact k H (Same.refl _)
theorem ok_is_transfer (T : Txt K mg) : FnOk P w K mg base CX0 4 T.f_is_transfer T.d_is_transfer ["value"] (sp_trans K) := by
  refine T.F_is_transfer.ok sc_is_transfer (fun vs H Q E h => ?_) (fun cdv A outer s H vs Q E hr h => ?_)
  · obtain ⟨v, d, rfl, _⟩ := h; rfl
  · obtain ⟨v, d, rfl, hd, hf, k⟩ := h
    refine ⟨_, (pss_cons (ps_if (PW.pt (pw_or (pt_not (pt_val (pe_callB call_isi (by rfl) T.z_isinstance boot_isinstance (pa_cons (pv 0) (pa_cons (pe_bltn (v := .ty "tuple") (by rfl) T.z_tuple boot_tuple rfl) pa_nil))))) (pw_or1 (pt_cmpR op_ne (pe_callB cq_len (by rfl) T.z_len boot_len (pa_cons (pv 0) pa_nil)) pe_int (nomark _))))) (pss_one (ps_ret pe_bl)) pss_nil)
      (pss_cons (ps_asg (pv 0) (pg_tup rfl (pgs_cons (pg_name (i := 1) sc_is_transfer.nd rfl (Or.inl rfl)) (pgs_cons (pg_name (i := 2) sc_is_transfer.nd rfl (Or.inl rfl)) (pgs_cons (pg_name (i := 3) sc_is_transfer.nd rfl (Or.inl rfl)) (pgs_cons (pg_name (i := 4) sc_is_transfer.nd rfl (Or.inl rfl)) (pgs_cons (pg_name (i := 5) sc_is_transfer.nd rfl (Or.inl rfl)) (pgs_cons (pg_name (i := 6) sc_is_transfer.nd rfl (Or.inl rfl)) pgs_nil))))))))
      (pss_cons (ps_if (PW.pt (pw_or (pt_not (pt_val (pe_call (ok_is_text T) (hr.mono (by decide)) (by rfl) T.g_is_text T.F_is_text.kp T.b_is_text .nil pass0 (pa_cons (pv 1) pa_nil)))) (pw_or (pt_not (pt_val (pe_call (ok_is_account T) (hr.mono (by decide)) (by rfl) T.g_is_account T.F_is_account.kp T.b_is_account .nil pass0 (pa_cons (pv 4) pa_nil)))) (pw_or1 (pt_not (pt_val (pe_call (ok_is_account T) (hr.mono (by decide)) (by rfl) T.g_is_account T.F_is_account.kp T.b_is_account .nil pass0 (pa_cons (pv 5) pa_nil)))))))) (pss_one (ps_ret pe_bl)) pss_nil)
      (pss_one (ps_ret (pe_and (pe_call (ok_is_at_least T) (hr.mono (by decide)) (by rfl) T.g_is_at_least T.F_is_at_least.kp T.b_is_at_least .nil pass0 (pa_cons (pv 2) (pa_cons pe_int pa_nil))) (pe_and (pe_call (ok_is_at_least T) (hr.mono (by decide)) (by rfl) T.g_is_at_least T.F_is_at_least.kp T.b_is_at_least .nil pass0 (pa_cons (pv 3) (pa_cons pe_int pa_nil))) (pe_and (pe_cmpR op_le (pv 3) (pv 2) (nomark _)) (pe_one (pe_call (ok_is_at_least T) (hr.mono (by decide)) (by rfl) T.g_is_at_least T.F_is_at_least.kp T.b_is_at_least .nil pass0 (pa_cons (pv 6) (pa_cons pe_int pa_nil)))))))))))), ?_⟩
    (dsimp only [cxOf, Cx.nox, Cx.wish, L2.start, List.map, List.length, List.replicate, List.cons_append, List.nil_append, List.append_eq, Nat.reduceSub, Nat.reduceAdd])
    walk_at "my_rd"
    refine q_isiD hd (kit_tuple d) ?_
    cases hd with
    | @tup a xs ds h1 h2 =>
      show bK _ (.bl true) H
      walk_at "my_rd"
      refine q_lenT h1 ?_
      walk_at "my_rd"
      have hl := dpall_len h2
      by_cases h : ds.length = 6
      · rw [decide_eq_true (show (xs.length : Int) = 6 by omega)]
        walk_at "my_rd"
        obtain ⟨t, u, f, sn, rc, dl, rfl⟩ := six h
        obtain ⟨v0, v1, v2, v3, v4, v5, rfl, d0, d1, d2, d3, d4, d5⟩ := dp6 h2
        obtain ⟨f0, f1, f2, f3, f4, f5⟩ := hf _ _ _ _ _ _ rfl
        refine q_gTup h1 rfl ?_
        walk_at "my_rd"
        have eD : transD (.tuple [t, u, f, sn, rc, dl]) = if !(textD t && (accD sn && accD rc)) then false else leastD 1 u && (leastD 0 f && (leD f u && leastD 0 dl)) := rfl
        refine ⟨v0, t, rfl, d0, f0, fun H1 sm1 => ?_⟩
        walk_at "my_rd"
        cases b0 : textD t with
        | false =>
          walk_at "my_rd"
          have e : false = transD (.tuple [t, u, f, sn, rc, dl]) := by rw [eD, b0]; rfl
          rw [e]
          exact k _ sm1
        | true =>
          walk_at "my_rd"
          refine ⟨v3, sn, rfl, dp_mono sm1 d3, f3, fun H2 sm2 => ?_⟩
          have sm2 := Same.trans sm1 sm2
          walk_at "my_rd"
          cases b1 : accD sn with
          | false =>
            walk_at "my_rd"
            have e : false = transD (.tuple [t, u, f, sn, rc, dl]) := by rw [eD, b0, b1]; rfl
            rw [e]
            exact k _ sm2
          | true =>
            walk_at "my_rd"
            refine ⟨v4, rc, rfl, dp_mono sm2 d4, f4, fun H3 sm3 => ?_⟩
            have sm3 := Same.trans sm2 sm3
            walk_at "my_rd"
            cases b2 : accD rc with
            | false =>
              walk_at "my_rd"
              have e : false = transD (.tuple [t, u, f, sn, rc, dl]) := by rw [eD, b0, b1, b2]; rfl
              rw [e]
              exact k _ sm3
            | true =>
              walk_at "my_rd"
              have eD : transD (.tuple [t, u, f, sn, rc, dl]) = (leastD 1 u && (leastD 0 f && (leD f u && leastD 0 dl))) := by rw [eD, b0, b1, b2]; rfl
              refine ⟨v1, u, 1, rfl, dp_mono sm3 d1, f1, fun H4 sm4 => ?_⟩
              have sm4 := Same.trans sm3 sm4
              cases b3 : leastD 1 u with
              | false =>
                walk_at "my_rd"
                have e : false = transD (.tuple [t, u, f, sn, rc, dl]) := by rw [eD, b3]; rfl
                rw [e]
                exact k _ sm4
              | true =>
                walk_at "my_rd"
                refine ⟨v2, f, 0, rfl, dp_mono sm4 d2, f2, fun H5 sm5 => ?_⟩
                have sm5 := Same.trans sm4 sm5
                cases b4 : leastD 0 f with
                | false =>
                  walk_at "my_rd"
                  have e : false = transD (.tuple [t, u, f, sn, rc, dl]) := by rw [eD, b3, b4]; rfl
                  rw [e]
                  exact k _ sm5
                | true =>
                  walk_at "my_rd"
                  obtain ⟨iu, rfl⟩ : ∃ i, u = .int i := by cases u <;> first | exact ⟨_, rfl⟩ | cases b3
                  obtain ⟨jf, rfl⟩ : ∃ i, f = .int i := by cases f <;> first | exact ⟨_, rfl⟩ | cases b4
                  cases d1
                  cases d2
                  walk_at "my_rd"
                  cases b5 : decide (jf ≤ iu) with
                  | false =>
                    walk_at "my_rd"
                    have e : false = transD (.tuple [t, .int iu, .int jf, sn, rc, dl]) := by
                      rw [eD, b3, b4, show leD (.int jf) (.int iu) = false from b5]
                      rfl
                    rw [e]
                    exact k _ sm5
                  | true =>
                    walk_at "my_rd"
                    refine ⟨v5, dl, 0, rfl, dp_mono sm5 d5, f5, fun H6 sm6 => ?_⟩
                    have e : leastD 0 dl = transD (.tuple [t, .int iu, .int jf, sn, rc, dl]) := by
                      rw [eD, b3, b4, show leD (.int jf) (.int iu) = true from b5, Bool.true_and, Bool.true_and, Bool.true_and]
                    rw [e]
                    exact k _ (Same.trans sm5 sm6)
      · rw [decide_eq_false (show ¬ (xs.length : Int) = 6 by omega)]
        have e : false = transD (.tuple ds) := by
          unfold transD
          split
          · rename_i heq
            injection heq with heq
            subst heq
            exact absurd rfl h
          · rfl
        walk_at "my_rd"
        rw [e]
        exact k H (Same.refl _)
    | _ =>
      show bK _ (.bl false) H
      walk_at "my_rd"
      exact k H (Same.refl _)
end

section
variable {P : Program} {w : World} {K : PySem.W.Frag} {mg : Str → Option Value} {base : Heap}
theorem fold_in3 {K : PySem.W.Frag} {H : Hp} {v : V} {d : PyData} (hd : Dp K H v d) (hf : flatD d = true) : inV v [.str "deliver", .str "return", .str "cancel"] = oneD d := by
  show (eqV (.str "deliver") v || (eqV (.str "return") v || (eqV (.str "cancel") v || false))) = _
  rw [isS_v hd hf, isS_v hd hf, isS_v hd hf, Bool.or_false]
  rfl
theorem fold_in2 {K : PySem.W.Frag} {H : Hp} {v : V} {d : PyData} (hd : Dp K H v d) (hf : flatD d = true) : inV v [.str "stop", .str "resume"] = allD d := by
  show (eqV (.str "stop") v || (eqV (.str "resume") v || false)) = _
  rw [isS_v hd hf, isS_v hd hf, Bool.or_false]
  rfl
theorem q_eqF {H : Hp} {Q : VK} {v : V} {d : PyData} {s : Str} (hd : Dp K H v d) (hf : flatD d = true) (k : Q (.bl (isS s d)) H) : rEq v (.str s) H Q := by
  obtain ⟨h1, h2⟩ := eqS_v (s := s) hd hf
  exact q_eq h1 (by rw [h2]; exact k)
theorem empty_shaped : SeqAt.shaped (.tuple []) = true := by decide
theorem ok_is_letter (T : Txt K mg) : FnOk P w K mg base CX0 6 T.f_is_letter T.d_is_letter ["value"] (sp_letter K) := by
  refine T.F_is_letter.ok sc_is_letter (fun vs H Q E h => ?_) (fun cdv A outer s H vs Q E hr h => ?_)
  · obtain ⟨v, d, rfl, _⟩ := h; rfl
  · obtain ⟨v, d, rfl, hd, hf, k⟩ := h
    refine ⟨_, (pss_cons (ps_if (PW.pt (pw_or (pt_not (pt_val (pe_callB call_isi (by rfl) T.z_isinstance boot_isinstance (pa_cons (pv 0) (pa_cons (pe_bltn (v := .ty "tuple") (by rfl) T.z_tuple boot_tuple rfl) pa_nil))))) (pw_or1 (pt_cmpR op_ne (pe_callB cq_len (by rfl) T.z_len boot_len (pa_cons (pv 0) pa_nil)) pe_int (nomark _))))) (pss_one (ps_ret pe_bl)) pss_nil)
      (pss_cons (ps_asg (pv 0) (pg_tup rfl (pgs_cons (pg_name (i := 1) sc_is_letter.nd rfl (Or.inl rfl)) (pgs_cons (pg_name (i := 2) sc_is_letter.nd rfl (Or.inl rfl)) (pgs_cons (pg_name (i := 3) sc_is_letter.nd rfl (Or.inl rfl)) (pgs_cons (pg_name (i := 4) sc_is_letter.nd rfl (Or.inl rfl)) pgs_nil))))))
      (pss_cons (ps_if (pt_cmpR op_eq (pv 1) pe_str (nomark _)) (pss_one (ps_ret (pe_and (pe_cmpR op_eq (pv 2) pe_str (nomark _)) (pe_and (pe_call (ok_is_at_least T) (hr.mono (by decide)) (by rfl) T.g_is_at_least T.F_is_at_least.kp T.b_is_at_least .nil pass0 (pa_cons (pv 3) (pa_cons pe_int pa_nil))) (pe_one (pe_call (ok_is_set T) (hr.mono (by decide)) (by rfl) T.g_is_set T.F_is_set.kp T.b_is_set .nil pass0 (pa_cons (pv 4) pa_nil))))))) pss_nil)
      (pss_cons (ps_if (PW.pt (pw_or (pt_not (pt_val (pe_call (ok_is_side T) (hr.mono (by decide)) (by rfl) T.g_is_side T.F_is_side.kp T.b_is_side .nil pass0 (pa_cons (pv 2) pa_nil)))) (pw_or1 (pt_not (pt_val (pe_call (ok_is_at_least T) (hr.mono (by decide)) (by rfl) T.g_is_at_least T.F_is_at_least.kp T.b_is_at_least .nil pass0 (pa_cons (pv 3) (pa_cons pe_int pa_nil)))))))) (pss_one (ps_ret pe_bl)) pss_nil)
      (pss_cons (ps_if (pt_cmpR op_in_seq (pv 1) (pe_glob (v := .ref T.a_ABOUT_ONE) (by rfl) T.c_ABOUT_ONE rfl) (by rfl)) (pss_one (ps_ret (pe_call (ok_is_transfer T) (hr.mono (by decide)) (by rfl) T.g_is_transfer T.F_is_transfer.kp T.b_is_transfer .nil pass0 (pa_cons (pv 4) pa_nil)))) pss_nil)
      (pss_cons (ps_if (pt_cmpR op_eq (pv 1) pe_str (nomark _)) (pss_one (ps_ret (pe_call (ok_is_bundle T) (hr.mono (by decide)) (by rfl) T.g_is_bundle T.F_is_bundle.kp T.b_is_bundle .nil pass0 (pa_cons (pv 4) pa_nil)))) pss_nil)
      (pss_one (ps_ret (pe_and (pe_cmpR op_in_seq (pv 1) (pe_glob (v := .ref T.a_ABOUT_ALL) (by rfl) T.c_ABOUT_ALL rfl) (by rfl)) (pe_one (pe_cmpR (op_eqD hr.units) (pv 4) (pe_tup pa_nil) (nomark _)))))))))))), ?_⟩
    (dsimp only [cxOf, Cx.nox, Cx.wish, L2.start, List.map, List.length, List.replicate, List.cons_append, List.nil_append, List.append_eq, Nat.reduceSub, Nat.reduceAdd])
    walk_at "my_rd"
    refine q_isiD hd (kit_tuple d) ?_
    cases hd with
    | @tup a xs ds h1 h2 =>
      show bK _ (.bl true) H
      walk_at "my_rd"
      refine q_lenT h1 ?_
      walk_at "my_rd"
      have hl := dpall_len h2
      by_cases h : ds.length = 4
      · rw [decide_eq_true (show (xs.length : Int) = 4 by omega)]
        walk_at "my_rd"
        obtain ⟨kd, sd, nb, bd, rfl⟩ := four h
        obtain ⟨v0, v1, v2, v3, rfl, d0, d1, d2, d3⟩ := dp4 h2
        obtain ⟨f0, f1, f2, f3, hnb⟩ := hf _ _ _ _ rfl
        refine q_gTup h1 rfl ?_
        walk_at "my_rd"
        have eD : letterD (.tuple [kd, sd, nb, bd]) = if isS "rotate" kd then isS "both" sd && (leastD 1 nb && setD bd) else if !(sideD sd && leastD 0 nb) then false else if oneD kd then transD bd else allD kd && emptyD bd := rfl
        refine q_eqF d0 f0 ?_
        walk_at "my_rd"
        cases b0 : isS "rotate" kd with
        | true =>
          rw [b0, if_pos rfl] at eD
          walk_at "my_rd"
          refine q_eqF d1 f1 ?_
          cases b1 : isS "both" sd with
          | false =>
            rw [b1, Bool.false_and] at eD
            walk_at "my_rd"
            rw [← eD]
            exact k H (Same.refl _)
          | true =>
            rw [b1, Bool.true_and] at eD
            walk_at "my_rd"
            refine ⟨v2, nb, 1, rfl, d2, f2, fun H1 sm1 => ?_⟩
            cases b2 : leastD 1 nb with
            | false =>
              rw [b2, Bool.false_and] at eD
              walk_at "my_rd"
              rw [← eD]
              exact k _ sm1
            | true =>
              rw [b2, Bool.true_and] at eD
              walk_at "my_rd"
              refine ⟨v3, bd, rfl, dp_mono sm1 d3, f3.s, fun H2 sm2 => ?_⟩
              rw [← eD]
              exact k _ (Same.trans sm1 sm2)
        | false =>
          rw [b0, if_neg Bool.false_ne_true] at eD
          walk_at "my_rd"
          refine ⟨v1, sd, rfl, d1, f1, fun H1 sm1 => ?_⟩
          walk_at "my_rd"
          cases b1 : sideD sd with
          | false =>
            rw [b1, Bool.false_and] at eD
            walk_at "my_rd"
            have e : false = letterD (.tuple [kd, sd, nb, bd]) := by rw [eD]; rfl
            rw [e]
            exact k _ sm1
          | true =>
            rw [b1, Bool.true_and] at eD
            walk_at "my_rd"
            refine ⟨v2, nb, 0, rfl, dp_mono sm1 d2, f2, fun H2 sm2 => ?_⟩
            have sm2 := Same.trans sm1 sm2
            walk_at "my_rd"
            cases b2 : leastD 0 nb with
            | false =>
              rw [b2] at eD
              walk_at "my_rd"
              have e : false = letterD (.tuple [kd, sd, nb, bd]) := by rw [eD]; rfl
              rw [e]
              exact k _ sm2
            | true =>
              rw [b2, show (!true) = false from rfl, if_neg Bool.false_ne_true] at eD
              walk_at "my_rd"
              refine q_inT T.k_ABOUT_ONE.sq (flat_v (dp_mono sm2 d0) f0) rfl ?_
              rw [fold_in3 (dp_mono sm2 d0) f0]
              walk_at "my_rd"
              cases b3 : oneD kd with
              | true =>
                rw [b3, if_pos rfl] at eD
                walk_at "my_rd"
                refine ⟨v3, bd, rfl, dp_mono sm2 d3, f3.t, fun H3 sm3 => ?_⟩
                rw [← eD]
                exact k _ (Same.trans sm2 sm3)
              | false =>
                rw [b3, if_neg Bool.false_ne_true] at eD
                walk_at "my_rd"
                refine q_eqF (dp_mono sm2 d0) f0 ?_
                rw [hnb]
                walk_at "my_rd"
                refine q_inT T.k_ABOUT_ALL.sq (flat_v (dp_mono sm2 d0) f0) rfl ?_
                rw [fold_in2 (dp_mono sm2 d0) f0]
                cases b4 : allD kd with
                | false =>
                  rw [b4, Bool.false_and] at eD
                  walk_at "my_rd"
                  rw [← eD]
                  exact k _ sm2
                | true =>
                  rw [b4, Bool.true_and] at eD
                  walk_at "my_rd"
                  refine q_tupK (Nat.zero_le _) fun e ne => ?_
                  have sm3 : Same H2 (upd H2 e (.tup [])) := Same.new (Same.refl _) ne
                  refine q_eqD (dp_mono (Same.trans sm2 sm3) d3) (.tup (sqT upd_same) .nil) f3.sh empty_shaped ?_
                  rw [empty_eqv, ← eD]
                  exact k _ (Same.trans sm2 sm3)
      · rw [decide_eq_false (show ¬ (xs.length : Int) = 4 by omega)]
        have e : false = letterD (.tuple ds) := by
          unfold letterD
          split
          · rename_i heq
            injection heq with heq
            subst heq
            exact absurd rfl h
          · rfl
        walk_at "my_rd"
        rw [e]
        exact k H (Same.refl _)
    | _ =>
      show bK _ (.bl false) H
      walk_at "my_rd"
      exact k H (Same.refl _)
end

local macro_rules | `(tactic| walk_at "my_rd") => `(tactic| (repeat first
  | with_reducible refine q_tCons ?_
  | ((with_reducible apply q_var); (focus (exact rfl)))
  | with_reducible refine q_c ?_
  | ((with_reducible apply q_nxE); (focus (with_reducible exact rfl)))
  | with_reducible refine q_bK ?_
  | with_reducible refine q_call ?_
  | with_reducible refine q_callK ?_
  | with_reducible refine q_tNil ?_
  | with_reducible refine q_cb ?_
  | with_reducible refine q_seq ?_
  | with_reducible refine q_asg ?_
  | with_reducible refine q_gName ?_
  | with_reducible refine q_op ?_
  | with_reducible refine q_test ?_
  | with_reducible refine q_tB ?_
  | with_reducible refine q_ifS ?_
  | with_reducible refine q_ret ?_
  | ((with_reducible apply q_rtE); (focus (with_reducible exact rfl)))
  | with_reducible refine q_next ?_
  | with_reducible refine q_ifF ?_
  | with_reducible refine q_ifT ?_
  | with_reducible refine q_drop ?_
  | with_reducible refine q_and ?_
  | with_reducible refine q_or ?_
  | with_reducible refine q_andT ?_
  | with_reducible refine q_andF ?_
  | with_reducible refine q_orF ?_
  | with_reducible refine q_orT ?_
  | with_reducible refine q_andV ?_
  | with_reducible refine q_andVT ?_
  | with_reducible refine q_andVF ?_
  | with_reducible refine q_orV ?_
  | with_reducible refine q_gCons ?_
  | with_reducible refine q_gNil ?_
  | with_reducible refine q_tup ?_
  | with_reducible refine q_lst ?_
  | with_reducible refine q_not ?_
  | with_reducible refine q_notKT ?_
  | with_reducible refine q_notKF ?_
  | with_reducible refine q_I0 ?_
  | with_reducible refine q_eqI ?_
  | with_reducible refine q_neI ?_
  | ((with_reducible refine q_I ?_ ?_); first | decide | omega | exact ⟨by omega, by omega⟩ | exact ⟨by decide, by decide⟩ | exact .inl ⟨by omega, by omega⟩ | exact .inr ⟨by omega, by omega⟩ | exact .inr ⟨by decide, by decide⟩)
  | with_reducible refine q_eqS ?_
  | with_reducible refine q_neS ?_
  | with_reducible refine q_brk ?_
  | with_reducible refine q_ct ?_
  | ((with_reducible apply q_bkE); (focus (with_reducible exact rfl)))
  | ((with_reducible apply q_cnE); (focus (with_reducible exact rfl)))
  | with_reducible refine q_retN ?_
  | with_reducible refine q_gSub ?_
  | with_reducible refine q_for ?_
  | with_reducible refine q_iList ?_
  | with_reducible refine q_iTup ?_
  | with_reducible refine q_iRng1 ?_
  | with_reducible refine q_notK ?_
  | with_reducible refine q_orVT ?_
  | with_reducible refine q_orVF ?_
  | with_reducible refine q_notV ?_
  | with_reducible refine q_notVK ?_
  | with_reducible refine q_ifE ?_
  | with_reducible refine q_ifET ?_
  | with_reducible refine q_ifEF ?_
  | with_reducible refine q_yes ?_
  | with_reducible refine q_un ?_
  | with_reducible refine q_rU ?_
  | with_reducible refine q_abs ?_
  | with_reducible refine q_int1 ?_
  | with_reducible refine q_bm ?_
  | with_reducible refine q_bm0 ?_
  | with_reducible refine q_lc ?_
  | with_reducible refine q_keepT ?_
  | with_reducible refine q_keepF ?_
  | ((with_reducible apply q_aug); (focus (exact rfl)))
  | with_reducible refine q_ipI ?_
  | with_reducible refine q_chain ?_
  | with_reducible refine q_pairC ?_
  | with_reducible refine q_pairsK ?_
  | with_reducible refine q_pairN ?_
  | with_reducible refine q_fld ?_
  | with_reducible refine q_sFld ?_
  | with_reducible refine q_meth ?_
  | with_reducible refine q_makeK ?_
  | with_reducible refine q_isBl ?_
  | with_reducible refine q_notBl ?_
  | with_reducible refine q_sl ?_
  | with_reducible refine q_noPart ?_
  | with_reducible refine q_part ?_
  | with_reducible refine q_partK ?_
  | ((with_reducible apply q_mulStr); (focus (decide +kernel)))
  | with_reducible refine q_chT ?_
  | with_reducible refine q_chF ?_
  | with_reducible refine q_ord ?_
  | with_reducible refine q_iStr0 ?_
  | with_reducible refine q_iStr ?_
  | with_reducible refine q_tDIn ?_
  | with_reducible refine q_tDNotIn ?_
  | with_reducible refine q_tDGet ?_
  | with_reducible refine q_tDGet2 ?_
  | with_reducible refine q_tDGet1 ?_
  | with_reducible refine q_tDSetd ?_
  | ((with_reducible apply q_dG2a); (focus ((repeat first | (with_reducible exact upd_same) | (with_reducible assumption) | (with_reducible apply upd_new (by assumption)) | (with_reducible apply upd_other (by first | assumption | exact Ne.symm (by assumption))) | (with_reducible refine' Kp.get (by assumption) ?_ (by first | assumption | exact Ne.symm (by assumption))) | (with_reducible apply Same.get (by assumption))); done)))
  | ((with_reducible apply q_dSda); (focus ((repeat first | (with_reducible exact upd_same) | (with_reducible assumption) | (with_reducible apply upd_new (by assumption)) | (with_reducible apply upd_other (by first | assumption | exact Ne.symm (by assumption))) | (with_reducible refine' Kp.get (by assumption) ?_ (by first | assumption | exact Ne.symm (by assumption))) | (with_reducible apply Same.get (by assumption))); done)))
  | with_reducible refine q_sDPut ?_
  | ((with_reducible apply q_dInS); (focus ((repeat first | (with_reducible exact upd_same) | (with_reducible assumption) | (with_reducible apply upd_new (by assumption)) | (with_reducible apply upd_other (by first | assumption | exact Ne.symm (by assumption))) | (with_reducible refine' Kp.get (by assumption) ?_ (by first | assumption | exact Ne.symm (by assumption))) | (with_reducible apply Same.get (by assumption))); done)))
  | ((with_reducible apply q_dNInS); (focus ((repeat first | (with_reducible exact upd_same) | (with_reducible assumption) | (with_reducible apply upd_new (by assumption)) | (with_reducible apply upd_other (by first | assumption | exact Ne.symm (by assumption))) | (with_reducible refine' Kp.get (by assumption) ?_ (by first | assumption | exact Ne.symm (by assumption))) | (with_reducible apply Same.get (by assumption))); done)))
  | ((with_reducible apply q_dInI); (focus ((repeat first | (with_reducible exact upd_same) | (with_reducible assumption) | (with_reducible apply upd_new (by assumption)) | (with_reducible apply upd_other (by first | assumption | exact Ne.symm (by assumption))) | (with_reducible refine' Kp.get (by assumption) ?_ (by first | assumption | exact Ne.symm (by assumption))) | (with_reducible apply Same.get (by assumption))); done)))
  | ((with_reducible apply q_dNInI); (focus ((repeat first | (with_reducible exact upd_same) | (with_reducible assumption) | (with_reducible apply upd_new (by assumption)) | (with_reducible apply upd_other (by first | assumption | exact Ne.symm (by assumption))) | (with_reducible refine' Kp.get (by assumption) ?_ (by first | assumption | exact Ne.symm (by assumption))) | (with_reducible apply Same.get (by assumption))); done)))
  | ((with_reducible apply q_bmL); (focus ((repeat first | (with_reducible exact upd_same) | (with_reducible assumption) | (with_reducible apply upd_new (by assumption)) | (with_reducible apply upd_other (by first | assumption | exact Ne.symm (by assumption))) | (with_reducible refine' Kp.get (by assumption) ?_ (by first | assumption | exact Ne.symm (by assumption))) | (with_reducible apply Same.get (by assumption))); done)))
  | ((with_reducible apply q_bmL0); (focus ((repeat first | (with_reducible exact upd_same) | (with_reducible assumption) | (with_reducible apply upd_new (by assumption)) | (with_reducible apply upd_other (by first | assumption | exact Ne.symm (by assumption))) | (with_reducible refine' Kp.get (by assumption) ?_ (by first | assumption | exact Ne.symm (by assumption))) | (with_reducible apply Same.get (by assumption))); done)))
  | ((with_reducible apply q_ixLt); (focus ((repeat first | (with_reducible exact upd_same) | (with_reducible assumption) | (with_reducible apply upd_new (by assumption)) | (with_reducible apply upd_other (by first | assumption | exact Ne.symm (by assumption))) | (with_reducible refine' Kp.get (by assumption) ?_ (by first | assumption | exact Ne.symm (by assumption))) | (with_reducible apply Same.get (by assumption))); done)); (focus (exact rfl)))
  | ((with_reducible apply q_ixTt); (focus ((repeat first | (with_reducible exact upd_same) | (with_reducible assumption) | (with_reducible apply upd_new (by assumption)) | (with_reducible apply upd_other (by first | assumption | exact Ne.symm (by assumption))) | (with_reducible refine' Kp.get (by assumption) ?_ (by first | assumption | exact Ne.symm (by assumption))) | (with_reducible apply Same.get (by assumption))); done)); (focus (exact rfl)))
  | ((with_reducible apply q_lenLt); (focus ((repeat first | (with_reducible exact upd_same) | (with_reducible assumption) | (with_reducible apply upd_new (by assumption)) | (with_reducible apply upd_other (by first | assumption | exact Ne.symm (by assumption))) | (with_reducible refine' Kp.get (by assumption) ?_ (by first | assumption | exact Ne.symm (by assumption))) | (with_reducible apply Same.get (by assumption))); done)))
  | ((with_reducible apply q_lenTt); (focus ((repeat first | (with_reducible exact upd_same) | (with_reducible assumption) | (with_reducible apply upd_new (by assumption)) | (with_reducible apply upd_other (by first | assumption | exact Ne.symm (by assumption))) | (with_reducible refine' Kp.get (by assumption) ?_ (by first | assumption | exact Ne.symm (by assumption))) | (with_reducible apply Same.get (by assumption))); done)))
  | ((with_reducible apply q_append); (focus ((repeat first | (with_reducible exact upd_same) | (with_reducible assumption) | (with_reducible apply upd_new (by assumption)) | (with_reducible apply upd_other (by first | assumption | exact Ne.symm (by assumption))) | (with_reducible refine' Kp.get (by assumption) ?_ (by first | assumption | exact Ne.symm (by assumption))) | (with_reducible apply Same.get (by assumption))); done)); (focus ((first | (exact Nat.lt_of_ble_eq_true rfl) | (simp only [List.length_append, List.length_cons, List.length_nil, List.length_map]; exact small1000 (by omega))))))
  | ((with_reducible apply q_setL); (focus ((repeat first | (with_reducible exact upd_same) | (with_reducible assumption) | (with_reducible apply upd_new (by assumption)) | (with_reducible apply upd_other (by first | assumption | exact Ne.symm (by assumption))) | (with_reducible refine' Kp.get (by assumption) ?_ (by first | assumption | exact Ne.symm (by assumption))) | (with_reducible apply Same.get (by assumption))); done)); (focus (exact rfl)))
  | with_reducible refine q_ifNT ?_
  | with_reducible refine q_ifNF ?_
  | with_reducible refine q_andNT ?_
  | with_reducible refine q_andNF ?_
  | with_reducible refine q_orNT ?_
  | with_reducible refine q_orNF ?_
  | with_reducible refine q_bKNT ?_
  | with_reducible refine q_bKNF ?_
  | with_reducible refine q_tNGet ?_
  | with_reducible refine q_tNIn ?_
  | with_reducible refine q_sNPut ?_
  | with_reducible refine q_sFldAug ?_
  | with_reducible refine q_sDAug ?_
  | with_reducible refine q_sDDel ?_
  | with_reducible refine q_forX ?_
  | with_reducible refine q_tMake ?_
  | ((with_reducible apply q_dG1a); (focus ((repeat first | (with_reducible exact upd_same) | (with_reducible assumption) | (with_reducible apply upd_new (by assumption)) | (with_reducible apply upd_other (by first | assumption | exact Ne.symm (by assumption))) | (with_reducible refine' Kp.get (by assumption) ?_ (by first | assumption | exact Ne.symm (by assumption))) | (with_reducible apply Same.get (by assumption))); done)))))
/-! the law's letters -/
theorem menu {l : List V} {r : Int} (h0 : 0 ≤ r) (h1 : r < l.length) : ∃ v, atI l r = some v ∧ v ∈ l :=
  ⟨l[r.toNat]'(by omega), at_int (n := r.toNat) (by omega) (List.getElem?_eq_getElem _), List.getElem_mem _⟩
theorem menuS {ss : List Str} {r : Int} (h0 : 0 ≤ r) (h1 : r < ss.length) : ∃ s, atI (ss.map V.str) r = some (.str s) ∧ s ∈ ss := by
  obtain ⟨v, h, m⟩ := menu (l := ss.map V.str) h0 (by rw [List.length_map]; exact h1)
  obtain ⟨s, hs, rfl⟩ := List.mem_map.mp m
  exact ⟨s, h, hs⟩
def accs : List Str := ["ann", "bob", "cyd", "relayer"]
def toks : List Str := ["coin", "gold", "iron"]
def sides : List Str := ["west", "east"]
def stops : List Str := ["stop", "resume"]
def ones : List Str := ["deliver", "return", "cancel"]
theorem stops_ok : ∀ z ∈ stops, isS "rotate" (.str z) = false ∧ oneD (.str z) = false ∧ allD (.str z) = true ∧ z ≠ "rotate" := by decide +kernel
theorem ones_ok : ∀ z ∈ ones, isS "rotate" (.str z) = false ∧ oneD (.str z) = true ∧ allD (.str z) = false ∧ z ≠ "rotate" := by decide +kernel
def kinds : List Str := ["deliver", "return", "rotate", "stop", "resume", "cancel"]
theorem accs_ok : ∀ z ∈ accs, accD (.str z) = true ∧ PyData.strOk z = true ∧ z.length ≤ 20 := by decide +kernel
theorem toks_ok : ∀ z ∈ toks, textD (.str z) = true ∧ PyData.strOk z = true ∧ z.length ≤ 20 := by decide +kernel
theorem sides_ok : ∀ z ∈ sides, sideD (.str z) = true ∧ PyData.strOk z = true ∧ z.length ≤ 20 := by decide +kernel
theorem kinds_ok : ∀ z ∈ kinds, PyData.strOk z = true ∧ z.length ≤ 20 ∧ isS "bundle" (.str z) = false := by decide +kernel
theorem names_ok : ∀ z ∈ allNames, PyData.strOk z = true ∧ accD (.str z) = true ∧ z.length ≤ 20 := by decide +kernel
structure Tr where
  tok : Str
  units : Int
  fee : Int
  snd : Str
  rcv : Str
  dl : Int
def Tr.v (x : Tr) : List V := [.str x.tok, .int x.units, .int x.fee, .str x.snd, .str x.rcv, .int x.dl]
def Tr.d (x : Tr) : PyData := .tuple [.str x.tok, .int x.units, .int x.fee, .str x.snd, .str x.rcv, .int x.dl]
structure Tr.Ok (x : Tr) : Prop where
  t : x.tok ∈ toks
  u : 1 ≤ x.units
  u2 : x.units ≤ 1000
  f : 0 ≤ x.fee
  f2 : x.fee ≤ x.units
  s : x.snd ∈ accs
  r : x.rcv ∈ accs
  d : 0 ≤ x.dl
theorem Tr.dp {K : PySem.W.Frag} {H : Hp} {x : Tr} {a : Addr} (h : H a = some (.tup x.v)) : Dp K H (.ref a) x.d :=
  .tup (sqT h) (.cons (.str _) (.cons (.int _) (.cons (.int _) (.cons (.str _) (.cons (.str _) (.cons (.int _) .nil))))))
theorem Tr.Ok.trans {x : Tr} (h : x.Ok) : transD x.d = true := by
  show (if !(textD (.str x.tok) && (accD (.str x.snd) && accD (.str x.rcv))) then false else decide (1 ≤ x.units) && (decide (0 ≤ x.fee) && (decide (x.fee ≤ x.units) && decide (0 ≤ x.dl)))) = true
  rw [(toks_ok _ h.t).1, (accs_ok _ h.s).1, (accs_ok _ h.r).1, decide_eq_true h.u, decide_eq_true h.f, decide_eq_true h.f2, decide_eq_true h.d]
  rfl
/-- any tuple of texts, ints, Nones, bools: shaped -/
def scD : PyData → Bool
  | .none => true
  | .bool _ => true
  | .int _ => true
  | .str s => PyData.strOk s
  | _ => false
theorem sc_lay {d : PyData} (h : scD d = true) : d.canLay0 = true ∧ d.depth = 0 := by
  cases d with
  | str s => exact ⟨by simp [PyData.canLay0]; exact h, by simp [PyData.depth]⟩
  | none => exact ⟨by simp [PyData.canLay0], by simp [PyData.depth]⟩
  | bool b => exact ⟨by simp [PyData.canLay0], by simp [PyData.depth]⟩
  | int b => exact ⟨by simp [PyData.canLay0], by simp [PyData.depth]⟩
  | list _ => cases h
  | tuple _ => cases h
  | dict _ => cases h
theorem sc_all : ∀ {ds : List PyData}, ds.all scD = true → PyData.canLayAll0 ds = true ∧ PyData.depthAll ds = 0
  | [], _ => ⟨by simp [PyData.canLayAll0], by simp [PyData.depthAll]⟩
  | d :: ds, h => by
    rw [List.all_cons, Bool.and_eq_true] at h
    obtain ⟨h1, h2⟩ := sc_lay h.1
    obtain ⟨h3, h4⟩ := sc_all h.2
    exact ⟨by simp [PyData.canLayAll0, h1, h3], by simp [PyData.depthAll, h2, h4]⟩
theorem sc_shaped {ds : List PyData} (h : ds.all scD = true) : SeqAt.shaped (.tuple ds) = true := by
  obtain ⟨h1, h2⟩ := sc_all h
  show ((PyData.tuple ds).canLay0 && decide ((PyData.tuple ds).depth ≤ 64)) = true
  simp [PyData.canLay0, PyData.depth, h1, h2]
def smD : PyData → Bool
  | .str s => decide (s.length ≤ 100000)
  | _ => true
theorem sm_fine {d : PyData} (h : smD d = true) : Fine d := by
  cases d with
  | str s => exact (of_decide_eq_true (p := s.length ≤ 100000) h)
  | _ => trivial
/-- a flat tuple is fine -/
theorem flat_fine {ds : List PyData} (h : ds.all scD = true) (h2 : ds.all smD = true) (hl : ds.length ≤ 1000) : FineB (.tuple ds) where
  s := by
    intro es e
    injection e with e
    subst e
    refine ⟨hl, fun x hx => ?_⟩
    have hs := List.all_eq_true.mp h x hx
    intro a b e
    subst e
    cases hs
  t := by
    intro t u f s r e e2
    injection e2 with e2
    subst e2
    simp only [List.all_cons, Bool.and_eq_true] at h2
    exact ⟨sm_fine h2.1, sm_fine h2.2.1, sm_fine h2.2.2.1, sm_fine h2.2.2.2.1, sm_fine h2.2.2.2.2.1, sm_fine h2.2.2.2.2.2.1⟩
  sh := sc_shaped h
theorem none_fine : FineB .none := ⟨fun ds e => (nomatch e), fun _ _ _ _ _ _ e => (nomatch e), by decide⟩
theorem fine2 {a b : PyData} (ha : Fine a) (hb : Fine b) : FineP (.tuple [a, b]) := by
  intro x y e
  injection e with e
  injection e with e1 e
  injection e with e2 e
  subst e1 e2
  exact ⟨ha, hb⟩
theorem nest_fine : FineB (.tuple [.tuple [.tuple []]]) := by
  refine ⟨?_, (fun _ _ _ _ _ _ e => by cases e), by decide⟩
  intro ds e
  injection e with e
  subst e
  refine ⟨by decide, fun x hx => ?_⟩
  rw [List.mem_singleton.mp hx]
  intro a b e
  cases e
def prd (g : Str × Int) : PyData := .tuple [.str g.1, .int g.2]
theorem PairsAt.tail {H : Hp} {x : V} {xs : List V} {g : Str × Int} {gs : Gs} (h : PairsAt H (x :: xs) (g :: gs)) : PairsAt H xs gs :=
  ⟨by have := h.len; simpa using this, fun i g' hg => by have := h.at_ (i + 1) g' (by simpa using hg); simpa using this⟩
theorem PairsAt.dp {K : PySem.W.Frag} {H : Hp} : ∀ {xs : List V} {gs : Gs}, PairsAt H xs gs → DpAll K H xs (gs.map prd)
  | [], [], _ => .nil
  | [], g :: gs, h => by have := h.len; simp at this
  | x :: xs, [], h => by have := h.len; simp at this
  | x :: xs, g :: gs, h => by
    obtain ⟨a, e, ha⟩ := h.at_ 0 g rfl
    have e : x = .ref a := Option.some.inj e
    subst e
    exact .cons (.tup (sqT ha) (.cons (.str _) (.cons (.int _) .nil))) h.tail.dp
theorem Drawn.set {gs : Gs} (h : Drawn gs) : setD (.tuple (gs.map prd)) = true := by
  have h1 : (gs.map prd).isEmpty = false := by
    cases gs with
    | nil => exact absurd rfl h.ne
    | cons _ _ => rfl
  have h2 : (gs.map prd).all pairD = true := by
    rw [List.all_eq_true]
    intro d hd
    obtain ⟨g, hg, rfl⟩ := List.mem_map.mp hd
    show (accD (.str g.1) && leastD 1 (.int g.2)) = true
    rw [(names_ok _ (h.nms g hg)).2.1, Bool.true_and]
    exact decide_eq_true (h.pos g hg)
  have h3 : ((gs.map prd).map nameS) = gs.map (·.1) := by
    rw [List.map_map]
    rfl
  show (!(gs.map prd).isEmpty && ((gs.map prd).all pairD && decide (((gs.map prd).map nameS).Nodup))) = true
  rw [h1, h2, h3, decide_eq_true h.nd]
  rfl
theorem prds_lay : ∀ zs : Gs, (∀ z ∈ zs, PyData.strOk z.1 = true) → PyData.canLayAll0 (zs.map prd) = true ∧ PyData.depthAll (zs.map prd) ≤ 1
  | [], _ => ⟨by simp [PyData.canLayAll0], by simp [PyData.depthAll]⟩
  | z :: zs, h => by
    obtain ⟨h1, h2⟩ := prds_lay zs fun y hy => h y (List.mem_cons_of_mem _ hy)
    have h3 := h z (List.mem_cons_self ..)
    refine ⟨by simp [PyData.canLayAll0, prd, PyData.canLay0, h1, h3], ?_⟩
    simp only [List.map_cons, PyData.depthAll, prd, PyData.depth]
    omega
theorem Drawn.fine {gs : Gs} (h : Drawn gs) : FineB (.tuple (gs.map prd)) where
  s := by
    intro ds e
    injection e with e
    subst e
    refine ⟨by rw [List.length_map]; have := h.few; omega, fun x hx => ?_⟩
    obtain ⟨g, hg, rfl⟩ := List.mem_map.mp hx
    exact fine2 (by show g.1.length ≤ 100000; have := (names_ok _ (h.nms g hg)).2.2; omega) trivial
  t := by
    intro t u f s r e e2
    injection e2 with e2
    have : ∀ x ∈ gs.map prd, Fine x := fun x hx => by
      obtain ⟨g, _, rfl⟩ := List.mem_map.mp hx
      exact trivial
    rw [e2] at this
    exact ⟨this _ (by simp), this _ (by simp), this _ (by simp), this _ (by simp), this _ (by simp), this _ (by simp)⟩
  sh := by
    obtain ⟨h1, h2⟩ := prds_lay gs fun z hz => (names_ok _ (h.nms z hz)).1
    show ((PyData.tuple (gs.map prd)).canLay0 && decide ((PyData.tuple (gs.map prd)).depth ≤ 64)) = true
    rw [Bool.and_eq_true]
    refine ⟨by simp only [PyData.canLay0]; exact h1, decide_eq_true ?_⟩
    simp only [PyData.depth]
    omega
theorem Tr.Ok.fine {x : Tr} (h : x.Ok) : FineB x.d := by
  refine flat_fine ?_ ?_ (Nat.le_of_ble_eq_true rfl)
  · simp [scD, (toks_ok _ h.t).2.1, (accs_ok _ h.s).2.1, (accs_ok _ h.r).2.1]
  · have h1 := (toks_ok _ h.t).2.2
    have h2 := (accs_ok _ h.s).2.2
    have h3 := (accs_ok _ h.r).2.2
    simp only [List.all_cons, List.all_nil, smD, Bool.and_true, Bool.true_and, Bool.and_eq_true, decide_eq_true_eq]
    omega
/-- a drawn letter -/
inductive LetD : Str → Str → Int → PyData → Prop
  | rot {n : Int} {gs : Gs} (hn : 1 ≤ n) (hg : Drawn gs) : LetD "rotate" "both" n (.tuple (gs.map prd))
  | stop {k s : Str} {n : Int} (hk : k ∈ stops) (hs : s ∈ sides) (hn : 0 ≤ n) : LetD k s n (.tuple [])
  | tr {k s : Str} {n : Int} {x : Tr} (hk : k ∈ ones) (hs : s ∈ sides) (hn : 0 ≤ n) (hx : x.Ok) : LetD k s n x.d
theorem letterD_eq (k s n b : PyData) : letterD (.tuple [k, s, n, b]) = if isS "rotate" k then isS "both" s && (leastD 1 n && setD b) else if !(sideD s && leastD 0 n) then false else if oneD k then transD b else allD k && emptyD b := rfl
theorem empty_fine : FineB (.tuple []) := flat_fine rfl rfl (by decide)
theorem LetD.fine {k s : Str} {n : Int} {b : PyData} (h : LetD k s n b) : FineB b := by
  cases h with
  | rot hn hg => exact hg.fine
  | stop => exact empty_fine
  | tr _ _ _ hx => exact hx.fine
theorem kS (k z : Str) (e : k = z) (f : Str → Bool) (h : f z = true) : f k = true := by subst e; exact h
theorem LetD.ok {k s : Str} {n : Int} {b : PyData} (h : LetD k s n b) : letterD (.tuple [.str k, .str s, .int n, b]) = true := by
  rw [letterD_eq]
  cases h with
  | rot hn hg =>
    rw [if_pos (show isS "rotate" (.str "rotate") = true by decide +kernel), hg.set, show isS "both" (.str "both") = true by decide +kernel, show leastD 1 (.int n) = true from decide_eq_true hn]
    rfl
  | stop hk hs hn =>
    rw [(sides_ok _ hs).1, show leastD 0 (.int n) = true from decide_eq_true hn]
    obtain ⟨h1, h2, h3, _⟩ := stops_ok _ hk
    rw [h1, h2, h3]
    rfl
  | tr hk hs hn hx =>
    rw [(sides_ok _ hs).1, show leastD 0 (.int n) = true from decide_eq_true hn, hx.trans]
    obtain ⟨h1, h2, h3, _⟩ := ones_ok _ hk
    rw [h1, h2]
    rfl
theorem bad_sent (s n b : PyData) : letterD (.tuple [.str "sent", s, n, b]) = false := by
  rw [letterD_eq, show isS "rotate" (.str "sent") = false by decide +kernel, show oneD (.str "sent") = false by decide +kernel, show allD (.str "sent") = false by decide +kernel]
  cases sideD s <;> cases leastD 0 n <;> rfl
theorem bad_side {s : PyData} (h1 : isS "both" s = false) (h2 : sideD s = false) (k n b : PyData) : letterD (.tuple [k, s, n, b]) = false := by
  rw [letterD_eq, h1, h2]
  cases isS "rotate" k <;> rfl
theorem bad_side2 {k s : PyData} (h1 : isS "rotate" k = false) (h2 : sideD s = false) (n b : PyData) : letterD (.tuple [k, s, n, b]) = false := by
  rw [letterD_eq, h1, h2]
  rfl
theorem bad_num {n : PyData} (h1 : leastD 1 n = false) (h2 : leastD 0 n = false) (k s b : PyData) : letterD (.tuple [k, s, n, b]) = false := by
  rw [letterD_eq, h1, h2, Bool.false_and, Bool.and_false, Bool.and_false]
  cases isS "rotate" k <;> rfl
theorem bad_body {b : PyData} (h1 : setD b = false) (h2 : transD b = false) (h3 : emptyD b = false) (k s n : PyData) : letterD (.tuple [k, s, n, b]) = false := by
  rw [letterD_eq, h1, h2, h3, Bool.and_false, Bool.and_false, Bool.and_false]
  cases isS "rotate" k <;> cases sideD s <;> cases leastD 0 n <;> cases oneD k <;> rfl
theorem bad_none (s n b : PyData) : letterD (.tuple [.none, s, n, b]) = false := by
  rw [letterD_eq, show isS "rotate" .none = false from rfl, show oneD .none = false from rfl, show allD .none = false from rfl]
  cases sideD s <;> cases leastD 0 n <;> rfl
theorem bad_trans {k b : PyData} (h1 : isS "rotate" k = false) (h2 : oneD k = true) (h3 : transD b = false) (s n : PyData) : letterD (.tuple [k, s, n, b]) = false := by
  rw [letterD_eq, h1, h2, h3]
  cases sideD s <;> cases leastD 0 n <;> rfl
theorem bad_stop {k b : PyData} (h1 : isS "rotate" k = false) (h2 : oneD k = false) (h3 : emptyD b = false) (s n : PyData) : letterD (.tuple [k, s, n, b]) = false := by
  rw [letterD_eq, h1, h2, h3, Bool.and_false]
  cases sideD s <;> cases leastD 0 n <;> rfl
theorem bad_rot {k s n b : PyData} (h1 : isS "rotate" k = true) (h : (isS "both" s && (leastD 1 n && setD b)) = false) : letterD (.tuple [k, s, n, b]) = false := by
  rw [letterD_eq, h1, if_pos rfl, h]
theorem fineL4 {k s n b : PyData} (h1 : flatD k = true) (h2 : flatD s = true) (h3 : Fine n) (h4 : FineB b) (h5 : isS "bundle" k = false) : FineL (.tuple [k, s, n, b]) := by
  intro k' s' n' b' e
  injection e with e
  injection e with e1 e
  injection e with e2 e
  injection e with e3 e
  injection e with e4 e
  subst e1 e2 e3 e4
  exact ⟨h1, h2, h3, h4, h5⟩
mutual
inductive TupDp (K : PySem.W.Frag) (H : Hp) : V → PyData → Prop
  | non : TupDp K H .non .none
  | bl (b : Bool) : TupDp K H (.bl b) (.bool b)
  | int (i : Int) : TupDp K H (.int i) (.int i)
  | str (x : Str) : TupDp K H (.str x) (.str x)
  | tup {a : Addr} {xs : List V} {ds : List PyData} : H a = some (.tup xs) → TupAll K H xs ds → TupDp K H (.ref a) (.tuple ds)
inductive TupAll (K : PySem.W.Frag) (H : Hp) : List V → List PyData → Prop
  | nil : TupAll K H [] []
  | cons {v : V} {vs : List V} {d : PyData} {ds : List PyData} : TupDp K H v d → TupAll K H vs ds → TupAll K H (v :: vs) (d :: ds)
end
mutual
theorem TupDp.dp {K : PySem.W.Frag} {H : Hp} : ∀ {v : V} {d : PyData}, TupDp K H v d → Dp K H v d
  | _, _, .non => .non
  | _, _, .bl b => .bl b
  | _, _, .int i => .int i
  | _, _, .str x => .str x
  | _, _, .tup h1 h2 => .tup (sqT h1) (TupAll.dp h2)
theorem TupAll.dp {K : PySem.W.Frag} {H : Hp} : ∀ {vs : List V} {ds : List PyData}, TupAll K H vs ds → DpAll K H vs ds
  | _, _, .nil => .nil
  | _, _, .cons h1 h2 => .cons (TupDp.dp h1) (TupAll.dp h2)
end
mutual
theorem TupDp.mono {K : PySem.W.Frag} {H H' : Hp} (e : ∀ b ys, H b = some (.tup ys) → H' b = some (.tup ys)) : ∀ {v : V} {d : PyData}, TupDp K H v d → TupDp K H' v d
  | _, _, .non => .non
  | _, _, .bl b => .bl b
  | _, _, .int i => .int i
  | _, _, .str x => .str x
  | _, _, .tup h1 h2 => .tup (e _ _ h1) (TupAll.mono e h2)
theorem TupAll.mono {K : PySem.W.Frag} {H H' : Hp} (e : ∀ b ys, H b = some (.tup ys) → H' b = some (.tup ys)) : ∀ {vs : List V} {ds : List PyData}, TupAll K H vs ds → TupAll K H' vs ds
  | _, _, .nil => .nil
  | _, _, .cons h1 h2 => .cons (TupDp.mono e h1) (TupAll.mono e h2)
end
theorem Kp.tup {p l b : Addr} {ys : List V} {H H' : Hp} (k : Kp p H H') (pot : PotAt H p l) (h : H b = some (.tup ys)) : H' b = some (.tup ys) := by
  obtain ⟨ns, i, c, s, h1, _⟩ := pot
  exact k _ _ h (ne_of h h1 (by intro z; cases z))
theorem TupDp.kp {K : PySem.W.Frag} {H H' : Hp} {p l : Addr} {v : V} {d : PyData} (h : TupDp K H v d) (k : Kp p H H') (pot : PotAt H p l) : TupDp K H' v d := h.mono fun b ys q => k.tup pot q
theorem TupDp.same {K : PySem.W.Frag} {H H' : Hp} {v : V} {d : PyData} (h : TupDp K H v d) (k : Same H H') : TupDp K H' v d := h.mono fun b ys q => k _ _ q
theorem PairsAt.tall {K : PySem.W.Frag} {H : Hp} : ∀ {xs : List V} {gs : Gs}, PairsAt H xs gs → TupAll K H xs (gs.map prd)
  | [], [], _ => .nil
  | [], g :: gs, h => by have := h.len; simp at this
  | x :: xs, [], h => by have := h.len; simp at this
  | x :: xs, g :: gs, h => by
    obtain ⟨a, e, ha⟩ := h.at_ 0 g rfl
    have e : x = .ref a := Option.some.inj e
    subst e
    exact .cons (.tup ha (.cons (.str _) (.cons (.int _) .nil))) h.tail.tall
theorem Tr.tdp {K : PySem.W.Frag} {H : Hp} {x : Tr} {a : Addr} (h : H a = some (.tup x.v)) : TupDp K H (.ref a) x.d :=
  .tup h (.cons (.str _) (.cons (.int _) (.cons (.int _) (.cons (.str _) (.cons (.str _) (.cons (.int _) .nil))))))
def sp_Ltrans : Sp := fun vs H Q _ => ∃ (p l : Addr), vs = [.ref p] ∧ PotAt H p l ∧ ∀ (a : Addr) (x : Tr) (H' : Hp), H a = none → H' a = some (.tup x.v) → x.Ok → PotAt H' p l → Kp p H H' → Q (.ref a) H'
def sp_Lletter (K : PySem.W.Frag) : Sp := fun vs H Q _ => ∃ (p l : Addr), vs = [.ref p] ∧ PotAt H p l ∧ ∀ (a : Addr) (k s : Str) (n : Int) (bv : V) (bd : PyData) (H' : Hp), H a = none → H' a = some (.tup [.str k, .str s, .int n, bv]) → TupDp K H' bv bd → LetD k s n bd → k ∈ kinds → PotAt H' p l → Kp p H H' → Q (.ref a) H'
def sp_LbadT (K : PySem.W.Frag) : Sp := fun vs H Q _ => ∃ (p l a : Addr) (x : Tr), vs = [.ref p, .ref a] ∧ PotAt H p l ∧ H a = some (.tup x.v) ∧ x.Ok ∧ ∀ (v : V) (d : PyData) (H' : Hp), TupDp K H' v d → transD d = false → FineB d → PotAt H' p l → Kp p H H' → Q v H'

/-! letters as keys and as data -/
mutual
theorem NV.tdp {K : PySem.W.Frag} {H : Hp} : ∀ {k : NestedKey} {v : V}, NV H k v → TupDp K H v k.data
  | _, _, .non => by simp only [NestedKey.data]; exact .non
  | _, _, .int i => by simp only [NestedKey.data]; exact .int i
  | _, _, .str x => by simp only [NestedKey.data]; exact .str x
  | _, _, .tup h hs => by simp only [NestedKey.data]; exact .tup h (NVs.tdps hs)
theorem NVs.tdps {K : PySem.W.Frag} {H : Hp} : ∀ {ks : List NestedKey} {vs : List V}, NVs H ks vs → TupAll K H vs (NestedKey.datas ks)
  | _, _, .nil => by simp only [NestedKey.datas]; exact .nil
  | _, _, .cons a b => by simp only [NestedKey.datas]; exact .cons (NV.tdp a) (NVs.tdps b)
end
mutual
theorem key_eqv : ∀ a b : NestedKey, PyData.eqv a.data b.data = NestedKey.beq a b
  | .none, .none => by simp [NestedKey.data, NestedKey.beq, PyData.eqv]
  | .num a, .num b => by simp only [NestedKey.data, NestedKey.beq, PyData.eqv]; exact Bool.eq_iff_iff.mpr (by simp)
  | .text a, .text b => by simp only [NestedKey.data, NestedKey.beq, PyData.eqv]; exact Bool.eq_iff_iff.mpr (by simp)
  | .tup a, .tup b => by simp only [NestedKey.data, NestedKey.beq, PyData.eqv]; exact keys_eqv a b
  | .none, .num _ => by simp [NestedKey.data, NestedKey.beq, PyData.eqv]
  | .none, .text _ => by simp [NestedKey.data, NestedKey.beq, PyData.eqv]
  | .none, .tup _ => by simp [NestedKey.data, NestedKey.beq, PyData.eqv]
  | .num _, .none => by simp [NestedKey.data, NestedKey.beq, PyData.eqv]
  | .num _, .text _ => by simp [NestedKey.data, NestedKey.beq, PyData.eqv]
  | .num _, .tup _ => by simp [NestedKey.data, NestedKey.beq, PyData.eqv]
  | .text _, .none => by simp [NestedKey.data, NestedKey.beq, PyData.eqv]
  | .text _, .num _ => by simp [NestedKey.data, NestedKey.beq, PyData.eqv]
  | .text _, .tup _ => by simp [NestedKey.data, NestedKey.beq, PyData.eqv]
  | .tup _, .none => by simp [NestedKey.data, NestedKey.beq, PyData.eqv]
  | .tup _, .num _ => by simp [NestedKey.data, NestedKey.beq, PyData.eqv]
  | .tup _, .text _ => by simp [NestedKey.data, NestedKey.beq, PyData.eqv]
theorem keys_eqv : ∀ a b : List NestedKey, PyData.eqvAll (NestedKey.datas a) (NestedKey.datas b) = NestedKey.beqAll a b
  | [], [] => by simp [NestedKey.datas, NestedKey.beqAll, PyData.eqvAll]
  | [], _ :: _ => by simp [NestedKey.datas, NestedKey.beqAll, PyData.eqvAll]
  | _ :: _, [] => by simp [NestedKey.datas, NestedKey.beqAll, PyData.eqvAll]
  | x :: xs, y :: ys => by simp only [NestedKey.datas, NestedKey.beqAll, PyData.eqvAll]; rw [key_eqv x y, keys_eqv xs ys]
end
theorem key_dec (a b : NestedKey) : PyData.eqv a.data b.data = decide (a = b) := by rw [key_eqv, NestedKey.decide_eq]
/-- an entry: who sealed what -/
abbrev En := Str × NestedKey
def En.k (e : En) : NestedKey := .tup [.text e.1, e.2]
theorem En.k_inj {e f : En} (h : e.k = f.k) : e = f := by
  injection h with h
  injection h with h1 h
  injection h with h2 _
  injection h1 with h1
  exact Prod.ext h1 h2
structure EnOk (e : En) : Prop where
  s : SeqAt.shaped e.k.data = true
  l : e.k.data.canLay0 = true
  d : e.k.depth ≤ 8
/-- entries as tuples -/
structure Ents (H : Hp) (xs : List V) (es : List En) : Prop where
  len : xs.length = es.length
  at_ : ∀ (i : Nat) (e : En), es[i]? = some e → ∃ a lv, xs[i]? = some (.ref a) ∧ H a = some (.tup [.str e.1, lv]) ∧ NV H e.2 lv
theorem Ents.nil {H : Hp} : Ents H [] [] := ⟨rfl, fun i e h => by simp at h⟩
theorem Ents.mono {H H' : Hp} {xs : List V} {es : List En} (h : Ents H xs es) (e : ∀ b ys, H b = some (.tup ys) → H' b = some (.tup ys)) : Ents H' xs es :=
  ⟨h.len, fun i r hr => by obtain ⟨a, lv, h1, h2, h3⟩ := h.at_ i r hr; exact ⟨a, lv, h1, e _ _ h2, h3.mono e⟩⟩
theorem Ents.same {H H' : Hp} {xs : List V} {es : List En} (h : Ents H xs es) (e : Same H H') : Ents H' xs es := h.mono fun b ys q => e b _ q
theorem Ents.snoc {H : Hp} {xs : List V} {es : List En} {a : Addr} {lv : V} {e : En} (h : Ents H xs es) (ha : H a = some (.tup [.str e.1, lv])) (hv : NV H e.2 lv) : Ents H (xs ++ [.ref a]) (es ++ [e]) := by
  refine ⟨by rw [List.length_append, List.length_append, h.len]; rfl, fun i g hg => ?_⟩
  by_cases hi : i < es.length
  · rw [List.getElem?_append_left hi] at hg
    rw [List.getElem?_append_left (by rw [h.len]; exact hi)]
    exact h.at_ i g hg
  · have hi' : i = es.length := by
      have := (List.getElem?_eq_some_iff.mp hg).1
      rw [List.length_append] at this
      simp at this
      omega
    subst hi'
    rw [List.getElem?_append_right (Nat.le_refl _)] at hg
    simp at hg
    subst hg
    refine ⟨a, lv, ?_, ha, hv⟩
    rw [List.getElem?_append_right (by rw [h.len]; exact Nat.le_refl _), h.len]
    simp
theorem en_nv {H : Hp} {a : Addr} {lv : V} {e : En} (ha : H a = some (.tup [.str e.1, lv])) (hv : NV H e.2 lv) : NV H e.k (.ref a) := .tup ha (.cons (.str _) (.cons hv .nil))
/-- the place of an entry -/
def pl (es : List En) (e : En) : Option Nat := es.findIdx? fun f => decide (f = e)
theorem pl_at {es : List En} {e : En} {i : Nat} (h : pl es e = some i) : es[i]? = some e := by
  unfold pl at h
  rw [List.findIdx?_eq_some_iff_getElem] at h
  obtain ⟨hi, h1, _⟩ := h
  rw [List.getElem?_eq_getElem hi, of_decide_eq_true h1]
theorem pl_none {es : List En} {e : En} : pl es e = none ↔ e ∉ es := by
  unfold pl
  rw [List.findIdx?_eq_none_iff]
  constructor
  · intro h m
    have := h e m
    rw [decide_eq_true rfl] at this
    cases this
  · intro h x hx
    exact decide_eq_false fun q => h (q ▸ hx)
/-- the notary's numbers -/
structure Nums (kvs : NKvs) (es : List En) : Prop where
  len : kvs.length = es.length
  val : ∀ e, valN kvs e.k = (pl es e).map fun i : Nat => V.int (i : Int)
theorem Nums.nil : Nums [] [] := ⟨rfl, fun _ => rfl⟩
theorem pl_snoc {es : List En} {e f : En} (hn : e ∉ es) : pl (es ++ [e]) f = if f = e then some es.length else pl es f := by
  unfold pl
  rw [List.findIdx?_append]
  by_cases h : f = e
  · subst h
    rw [if_pos rfl, show es.findIdx? (fun g => decide (g = f)) = none from pl_none.mpr hn]
    simp
  · rw [if_neg h]
    have : ([e].findIdx? fun g => decide (g = f)) = none := by
      rw [List.findIdx?_eq_none_iff]
      intro x hx
      rw [List.mem_singleton.mp hx]
      exact decide_eq_false fun q => h q.symm
    rw [this]
    simp
theorem Nums.snoc {kvs : NKvs} {es : List En} {e : En} {b : Addr} (h : Nums kvs es) (hn : e ∉ es) : Nums (kvs ++ [(e.k, b, .int es.length)]) (es ++ [e]) := by
  refine ⟨by rw [List.length_append, List.length_append, h.len]; rfl, fun f => ?_⟩
  rw [pl_snoc hn]
  have hv := h.val f
  unfold valN at hv ⊢
  rw [List.find?_append]
  by_cases e2 : f = e
  · subst e2
    rw [if_pos rfl]
    have hnone : (kvs.find? fun p => decide (p.1 = f.k)) = none := by
      have := hv
      rw [pl_none.mpr hn] at this
      simpa using this
    rw [hnone]
    simp
  · rw [if_neg e2, ← hv]
    have : ([(e.k, b, V.int es.length)] : NKvs).find? (fun p => decide (p.1 = f.k)) = none := by
      rw [List.find?_eq_none]
      intro x hx
      rw [List.mem_singleton.mp hx]
      simp
      exact fun q => e2 (En.k_inj q).symm
    rw [this]
    simp
def notNames : List Str := ["_table", "_numbers"]
/-- a notary -/
structure NotAt (P : Program) (w : World) (C : Addr) (H : Hp) (x tl nd : Addr) (es : List En) : Prop where
  ex : ∃ dx fs xs kvs, H x = some (.ins C dx fs) ∧ fs.lookup ("_table" : Str) = some (.ref tl) ∧ fs.lookup ("_numbers" : Str) = some (.ref nd) ∧ (∀ m : Str, m ∉ notNames → fs.lookup m = none) ∧ H tl = some (.lst xs) ∧ Ents H xs es ∧ H nd = some (DN P w nd kvs) ∧ NKeys H kvs ∧ Nums kvs es
  nd : es.Nodup
  ok : ∀ e ∈ es, EnOk e
theorem NotAt.same {P : Program} {w : World} {C x tl nd : Addr} {H H' : Hp} {es : List En} (h : NotAt P w C H x tl nd es) (e : Same H H') : NotAt P w C H' x tl nd es := by
  obtain ⟨dx, fs, xs, kvs, h1, h2, h3, h4, h5, h6, h7, h8, h9⟩ := h.ex
  exact ⟨⟨dx, fs, xs, kvs, e _ _ h1, h2, h3, h4, e _ _ h5, h6.same e, e _ _ h7, h8.mono fun b ys q => e _ _ q, h9⟩, h.nd, h.ok⟩
def sp_notI (P : Program) (w : World) (C : Addr) : Sp := fun vs H Q _ => ∃ (x dx : Addr), vs = [.ref x] ∧ H x = some (.ins C dx []) ∧ ∀ (tl nd : Addr) (H' : Hp), H tl = none → H nd = none → NotAt P w C H' x tl nd [] → Kp x H H' → Q .non H'
def sp_count (P : Program) (w : World) (C : Addr) : Sp := fun vs H Q _ => ∃ (x tl nd : Addr) (es : List En), vs = [.ref x] ∧ NotAt P w C H x tl nd es ∧ Q (.int es.length) H
def sp_check (K : PySem.W.Frag) (P : Program) (w : World) (C : Addr) : Sp := fun vs H Q _ => ∃ (x tl nd sl : Addr) (es : List En) (ns : List Nat), vs = [.ref x, .ref sl] ∧ NotAt P w C H x tl nd es ∧ (H sl = some (.lst (ns.map fun n : Nat => V.int (n : Int))) ∨ H sl = some (.tup (ns.map fun n : Nat => V.int (n : Int)))) ∧ (∀ n ∈ ns, n < es.length) ∧ Q .non H
def sp_shown (P : Program) (w : World) (C : Addr) : Sp := fun vs H Q _ => ∃ (x tl nd : Addr) (es : List En) (n : Nat) (e : En), vs = [.ref x, .int n] ∧ NotAt P w C H x tl nd es ∧ es[n]? = some e ∧ ∀ (a : Addr) (lv : V) (H' : Hp), Same H H' → H' a = some (.tup [.str e.1, lv]) → NV H' e.2 lv → Q (.ref a) H'
def sp_seal (K : PySem.W.Frag) (P : Program) (w : World) (C : Addr) : Sp := fun vs H Q _ => ∃ (x tl nd la : Addr) (es : List En) (e : En), vs = [.ref x, .str e.1, .ref la] ∧ NotAt P w C H x tl nd es ∧ NV H e.2 (.ref la) ∧ letterD e.2.data = true ∧ FineL e.2.data ∧ EnOk e ∧ es.length ≤ 900 ∧
  (∀ i, pl es e = some i → ∀ H', Same H H' → Q (.int i) H') ∧ (e ∉ es → ∀ H', NotAt P w C H' x tl nd (es ++ [e]) → (∀ b o, H b = some o → b ≠ tl → b ≠ nd → H' b = some o) → Q (.int es.length) H')
theorem no_check : ("check_seals" : Str) ∉ notNames := by decide +kernel
section
variable {P : Program} {w : World} {K : PySem.W.Frag} {mg : Str → Option Value} {base : Heap}
theorem ok_Notary_init (T : Txt K mg) : FnOk P w K mg base CX0 1 T.f_Notary_init T.d_Notary_init ["self"] (sp_notI P w T.C_Notary) := by
  refine T.F_Notary_init.ok sc_Notary_init (fun vs H Q E h => ?_) (fun cdv A outer s H vs Q E hr h => ?_)
  · obtain ⟨x, dx, rfl, _⟩ := h; rfl
  · obtain ⟨x, dx, rfl, hx, k⟩ := h
    have hn := hn_of hr
    refine ⟨_, (pss_cons (ps_fld (pv 0) (pe_lst pa_nil) rfl)
      (pss_one (ps_fld (pv 0) pe_nnew rfl))), ?_⟩
    (dsimp only [cxOf, Cx.nox, Cx.wish, L2.start, List.map, List.length, List.replicate, List.cons_append, List.nil_append, List.append_eq, Nat.reduceSub, Nat.reduceAdd])
    walk_at "my_rd"
    refine q_lstK (Nat.le_of_ble_eq_true rfl) fun tl ntl => ?_
    walk_at "my_rd"
    have nxt : x ≠ tl := ne_of_none hx ntl
    refine q_fputK (upd_new ntl hx) T.cl_Notary T.n_Notary_table (by show 0 < 1000; decide) ?_
    walk_at "my_rd"
    refine q_tNNew fun nd nnd => ?_
    walk_at "my_rd"
    have nxd : x ≠ nd := ne_of_none upd_same nnd
    have nd0 : H nd = none := upd_none_back (upd_none_back nnd)
    have ntd : tl ≠ nd := ne_of_none (upd_other nxt.symm upd_same) nnd
    refine q_fputK (upd_other nxd upd_same) T.cl_Notary T.n_Notary_numbers (by show 1 < 1000; decide) ?_
    walk_at "my_rd"
    refine k tl nd _ ntl nd0 ⟨⟨dx, _, [], [], upd_same, ?_, ?_, ?_, upd_other nxt.symm (upd_other ntd (upd_other nxt.symm upd_same)), Ents.nil, upd_other nxd.symm upd_same, fun p hp => (by cases hp), Nums.nil⟩, List.nodup_nil, fun e he => (by cases he)⟩ ?_
    · (repeat first | rfl | rw [lookup_putF, if_pos rfl] | rw [lookup_putF, if_neg (by decide +kernel)])
    · (repeat first | rfl | rw [lookup_putF, if_pos rfl] | rw [lookup_putF, if_neg (by decide +kernel)])
    · intro m hm
      have hne : ∀ z ∈ notNames, ¬ m = z := fun z hz e => hm (e ▸ hz)
      rw [lookup_putF, if_neg (hne _ (by decide +kernel)), lookup_putF, if_neg (hne _ (by decide +kernel))]
      rfl
    · exact Kp.upd (Kp.new (Kp.upd (Kp.new Kp.refl ntl)) nd0)
theorem ok_Notary_count (T : Txt K mg) : FnOk P w K mg base CX0 1 T.f_Notary_count T.d_Notary_count ["self"] (sp_count P w T.C_Notary) := by
  refine T.F_Notary_count.ok sc_Notary_count (fun vs H Q E h => ?_) (fun cdv A outer s H vs Q E hr h => ?_)
  · obtain ⟨x, tl, nd, es, rfl, _⟩ := h; rfl
  · obtain ⟨x, tl, nd, es, rfl, hN, k⟩ := h
    obtain ⟨dx, fs, xs, kvs, h1, h2, h3, h4, h5, h6, h7, h8, h9⟩ := hN.ex
    refine ⟨_, (pss_one (ps_ret (pe_callB cq_len (by rfl) T.z_len boot_len (pa_cons (pe_fld (pv 0) rfl) pa_nil)))), ?_⟩
    (dsimp only [cxOf, Cx.nox, Cx.wish, L2.start, List.map, List.length, List.replicate, List.cons_append, List.nil_append, List.append_eq, Nat.reduceSub, Nat.reduceAdd])
    walk_at "my_rd"
    refine q_fldK h1 T.cl_Notary T.n_Notary_table h2 ?_
    walk_at "my_rd"
    rw [h6.len]
    exact k
theorem ok_Notary_check_seals (T : Txt K mg) : FnOk P w K mg base CX0 1 T.f_Notary_check_seals T.d_Notary_check_seals ["self", "seals"] (sp_check K P w T.C_Notary) := by
  refine T.F_Notary_check_seals.ok sc_Notary_check_seals (fun vs H Q E h => ?_) (fun cdv A outer s H vs Q E hr h => ?_)
  · obtain ⟨x, tl, nd, sl, es, ns, rfl, _⟩ := h; rfl
  · obtain ⟨x, tl, nd, sl, es, ns, rfl, hN, hs, hns, k⟩ := h
    obtain ⟨dx, fs, xs, kvs, h1, h2, h3, h4, h5, h6, h7, h8, h9⟩ := hN.ex
    refine ⟨_, (pss_one (ps_for PassesOwn.never rfl (pi_seq (pv 1)) (pg_name (i := 2) sc_Notary_check_seals.nd rfl (Or.inl rfl))
        (pss_one (ps_if (pt_not (pt_chain op_le op_lt pe_int (pv 2) (pe_callB cq_len (by rfl) T.z_len boot_len (pa_cons (pe_fld (pv 0) rfl) pa_nil)))) (pss_one ps_never) pss_nil)))), ?_⟩
    (dsimp only [cxOf, Cx.nox, Cx.wish, L2.start, List.map, List.length, List.replicate, List.cons_append, List.nil_append, List.append_eq, Nat.reduceSub, Nat.reduceAdd])
    walk_at "my_rd"
    have step : ∀ (i : Nat) (v : V) (σ : L2.St) (v2 : Option V), (ns.map fun n : Nat => V.int (n : Int))[i]? = some v → ∃ n : Nat, v = .int n ∧ n < es.length := fun i v σ v2 hv => by
      rw [List.getElem?_map] at hv
      cases q : ns[i]? with
      | none => rw [q] at hv; cases hv
      | some n => rw [q] at hv; exact ⟨n, (Option.some.inj hv).symm, hns n (List.mem_of_getElem? q)⟩
    rcases hs with hs | hs
    · refine q_iSeqL ?_
      refine q_var (v := .ref sl) rfl ?_
      refine q_forL (sqL hs) (fun i σ H' => ∃ v2 : Option V, σ = [some (.ref x), some (.ref sl), v2] ∧ H' = H) ⟨none, rfl, rfl⟩ (fun i σ H' _ ⟨_, _, e⟩ => e ▸ sqL hs) ?_ ?_
      · rintro i v σ H2 hv ⟨v2, rfl, rfl⟩
        obtain ⟨n, rfl, hn⟩ := step i v [] v2 hv
        walk_at "my_rd"
        rw [decide_eq_true (show (0 : Int) ≤ (n : Int) by omega)]
        walk_at "my_rd"
        refine q_fldK h1 T.cl_Notary T.n_Notary_table h2 ?_
        walk_at "my_rd"
        rw [decide_eq_true (show (n : Int) < (xs.length : Int) by rw [h6.len]; omega)]
        walk_at "my_rd"
        exact ⟨_, rfl, rfl⟩
      · rintro σ H2 ⟨v2, rfl, rfl⟩
        walk_at "my_rd"
        exact k
    · refine q_iSeqT ?_
      refine q_var (v := .ref sl) rfl ?_
      refine q_forT (sqT hs) (fun i σ H' => ∃ v2 : Option V, σ = [some (.ref x), some (.ref sl), v2] ∧ H' = H) ⟨none, rfl, rfl⟩ (fun i σ H' _ ⟨_, _, e⟩ => e ▸ sqT hs) ?_ ?_
      · rintro i v σ H2 hv ⟨v2, rfl, rfl⟩
        obtain ⟨n, rfl, hn⟩ := step i v [] v2 hv
        walk_at "my_rd"
        rw [decide_eq_true (show (0 : Int) ≤ (n : Int) by omega)]
        walk_at "my_rd"
        refine q_fldK h1 T.cl_Notary T.n_Notary_table h2 ?_
        walk_at "my_rd"
        rw [decide_eq_true (show (n : Int) < (xs.length : Int) by rw [h6.len]; omega)]
        walk_at "my_rd"
        exact ⟨_, rfl, rfl⟩
      · rintro σ H2 ⟨v2, rfl, rfl⟩
        walk_at "my_rd"
        exact k
theorem ok_Notary_shown (T : Txt K mg) : FnOk P w K mg base CX0 2 T.f_Notary_shown T.d_Notary_shown ["self", "number"] (sp_shown P w T.C_Notary) := by
  refine T.F_Notary_shown.ok sc_Notary_shown (fun vs H Q E h => ?_) (fun cdv A outer s H vs Q E hr h => ?_)
  · obtain ⟨x, tl, nd, es, n, e, rfl, _⟩ := h; rfl
  · obtain ⟨x, tl, nd, es, n, e, rfl, hN, he, k⟩ := h
    obtain ⟨dx, fs, xs, kvs, h1, h2, h3, h4, h5, h6, h7, h8, h9⟩ := hN.ex
    obtain ⟨a, lv, ha, hab, hlv⟩ := h6.at_ n e he
    have hnl := (List.getElem?_eq_some_iff.mp he).1
    refine ⟨_, (pss_cons (ps_expr (pe_meth (pv 0) T.cl_Notary T.m_Notary_check_seals (ok_Notary_check_seals T) (hr.mono (by decide)) T.b_Notary_check_seals .nil pass0 (pa_cons (pe_lst (pa_cons (pv 1) pa_nil)) pa_nil)))
      (pss_one (ps_ret (pe_ix ix_list (pe_fld (pv 0) rfl) (pv 1) (fun _ _ => rfl))))), ?_⟩
    (dsimp only [cxOf, Cx.nox, Cx.wish, L2.start, List.map, List.length, List.replicate, List.cons_append, List.nil_append, List.append_eq, Nat.reduceSub, Nat.reduceAdd])
    walk_at "my_rd"
    refine q_methK h1 (h4 _ no_check) fun R hR => ?_
    walk_at "my_rd"
    refine q_lstK (Nat.le_of_ble_eq_true rfl) fun q nq => ?_
    walk_at "my_rd"
    have sm : Same H (upd H q (.lst [.int n])) := Same.up (Same.refl _) nq
    refine hR _ _ ⟨x, tl, nd, q, es, [n], rfl, hN.same sm, .inl upd_same, fun m hm => by rw [List.mem_singleton.mp hm]; exact hnl, ?_⟩
    walk_at "my_rd"
    refine q_fldK (sm _ _ h1) T.cl_Notary T.n_Notary_table h2 ?_
    walk_at "my_rd"
    refine q_ixL (sqL (sm _ _ h5)) (at_int (n := n) rfl ha) ?_
    exact k a lv _ sm (sm _ _ hab) (hlv.mono fun b ys z => sm _ _ z)
theorem ok_Notary_seal (T : Txt K mg) : FnOk P w K mg base CX0 7 T.f_Notary_seal T.d_Notary_seal ["self", "guard", "letter"] (sp_seal K P w T.C_Notary) := by
  refine T.F_Notary_seal.ok sc_Notary_seal (fun vs H Q E h => ?_) (fun cdv A outer s H vs Q E hr h => ?_)
  · obtain ⟨x, tl, nd, la, es, e, rfl, _⟩ := h; rfl
  · obtain ⟨x, tl, nd, la, es, e, rfl, hN, hl, hgood, hfine, hok, hlen, k1, k2⟩ := h
    obtain ⟨dx, fs, xs, kvs, h1, h2, h3, h4, h5, h6, h7, h8, h9⟩ := hN.ex
    have hn := hn_of hr
    refine ⟨_, (pss_cons (ps_if (pt_not (pt_val (pe_call (ok_is_letter T) (hr.mono (by decide)) (by rfl) T.g_is_letter T.F_is_letter.kp T.b_is_letter .nil pass0 (pa_cons (pv 2) pa_nil)))) (pss_one ps_never) pss_nil)
      (pss_cons (ps_set (i := 3) sc_Notary_seal.nd rfl (Or.inl rfl) (pe_tup (pa_cons (pv 1) (pa_cons (pv 2) pa_nil))))
      (pss_cons (ps_if (pt_cmp (pc_nnotin hn (pv 3) (pe_fld (pv 0) rfl))) (pss_cons (ps_nput hn (pe_fld (pv 0) rfl) (pv 3) (pe_callB cq_len (by rfl) T.z_len boot_len (pa_cons (pe_fld (pv 0) rfl) pa_nil)) rfl)
      (pss_one (ps_expr (pe_bm PySem.F.plainAttrs_list PySem.F.slot_list_append PySem.F.type_list_append mt_append (pe_fld (pv 0) rfl) (pa_cons (pv 3) pa_nil))))) pss_nil)
      (pss_one (ps_ret (pe_nget hn (pe_fld (pv 0) rfl) (pv 3) (fun _ _ => rfl))))))), ?_⟩
    (dsimp only [cxOf, Cx.nox, Cx.wish, L2.start, List.map, List.length, List.replicate, List.cons_append, List.nil_append, List.append_eq, Nat.reduceSub, Nat.reduceAdd])
    walk_at "my_rd"
    refine ⟨.ref la, e.2.data, rfl, hl.tdp.dp (K := K), hfine, fun H1 sm1 => ?_⟩
    rw [hgood]
    walk_at "my_rd"
    refine q_tupK (Nat.le_of_ble_eq_true rfl) fun a na => ?_
    walk_at "my_rd"
    have sm2 : Same H (upd H1 a (.tup [.str e.1, .ref la])) := Same.up sm1 na
    have hab : upd H1 a (.tup [.str e.1, .ref la]) a = some (.tup [.str e.1, .ref la]) := upd_same
    generalize upd H1 a (.tup [.str e.1, .ref la]) = H2 at sm2 hab
    have hl2 : NV H2 e.2 (.ref la) := hl.mono fun b ys z => sm2 _ _ z
    have hk2 : NV H2 e.k (.ref a) := en_nv hab hl2
    have hK2 : NKeys H2 kvs := h8.mono fun b ys z => sm2 _ _ z
    refine q_fldK (sm2 _ _ h1) T.cl_Notary T.n_Notary_numbers h3 ?_
    refine q_nInK (sm2 _ _ h7) hK2 hk2 hok.d ?_
    rw [h9.val e]
    cases hp : pl es e with
    | some i =>
      rw [show (xor true (Option.map (fun i : Nat => V.int (i : Int)) (some i)).isSome) = false from rfl]
      walk_at "my_rd"
      refine q_fldK (sm2 _ _ h1) T.cl_Notary T.n_Notary_numbers h3 ?_
      walk_at "my_rd"
      refine q_nGetK (sm2 _ _ h7) hK2 hk2 hok.d (by rw [h9.val e, hp]; rfl) ?_
      exact k1 i hp _ sm2
    | none =>
      have hne := pl_none.mp hp
      have nxd : x ≠ nd := ne_of h1 h7 (by intro z; unfold DN at z; cases z)
      have ntd : tl ≠ nd := ne_of h5 h7 (by intro z; unfold DN at z; cases z)
      have nxt : x ≠ tl := ne_of h1 h5 (by intro z; cases z)
      rw [show (xor true (Option.map (fun i : Nat => V.int (i : Int)) none).isSome) = true from rfl]
      walk_at "my_rd"
      refine q_fldK (sm2 _ _ h1) T.cl_Notary T.n_Notary_table h2 ?_
      walk_at "my_rd"
      refine q_fldK (sm2 _ _ h1) T.cl_Notary T.n_Notary_numbers h3 ?_
      walk_at "my_rd"
      refine q_nPutK (sm2 _ _ h7) hK2 hk2 hok.d (by rw [h9.val e, hp]; rfl) (small1000 (by rw [h9.len]; omega)) ?_
      walk_at "my_rd"
      have h7b : upd H2 nd (DN P w nd (kvs ++ [(e.k, a, .int xs.length)])) nd = some (DN P w nd (kvs ++ [(e.k, a, .int xs.length)])) := upd_same
      have kp2 : Kp nd H2 (upd H2 nd (DN P w nd (kvs ++ [(e.k, a, .int xs.length)]))) := Kp.upd Kp.refl
      generalize upd H2 nd (DN P w nd (kvs ++ [(e.k, a, .int xs.length)])) = H3 at h7b kp2
      have tup3 : ∀ b ys, H2 b = some (HO.tup ys) → H3 b = some (.tup ys) := fun b ys z => kp2.get z (ne_of z (sm2 _ _ h7) (by intro q; unfold DN at q; cases q))
      refine q_fldK (kp2.get (sm2 _ _ h1) nxd) T.cl_Notary T.n_Notary_table h2 ?_
      walk_at "my_rd"
      refine q_append (kp2.get (sm2 _ _ h5) ntd) (small1000 (by rw [h6.len]; omega)) ?_
      walk_at "my_rd"
      have h5b : upd H3 tl (.lst (xs ++ [.ref a])) tl = some (.lst (xs ++ [.ref a])) := upd_same
      have kp3 : Kp tl H3 (upd H3 tl (.lst (xs ++ [.ref a]))) := Kp.upd Kp.refl
      have tl3 := kp2.get (sm2 _ _ h5) ntd
      generalize upd H3 tl (.lst (xs ++ [.ref a])) = H4 at h5b kp3
      have tup4 : ∀ b ys, H2 b = some (HO.tup ys) → H4 b = some (.tup ys) := fun b ys z => kp3.get (tup3 b ys z) (ne_of (tup3 b ys z) tl3 (by intro q; cases q))
      have h14 := kp3.get (kp2.get (sm2 _ _ h1) nxd) nxt
      have h74 := kp3.get h7b ntd.symm
      have hK4 : NKeys H4 (kvs ++ [(e.k, a, .int xs.length)]) := (hK2.mono tup4).snoc (hk2.mono tup4) hok.d
      have hN4 : Nums (kvs ++ [(e.k, a, .int xs.length)]) (es ++ [e]) := by rw [h6.len]; exact h9.snoc hne
      have hE4 : Ents H4 (xs ++ [.ref a]) (es ++ [e]) := Ents.snoc ((h6.same sm2).mono tup4) (tup4 _ _ hab) (hl2.mono tup4)
      refine q_fldK h14 T.cl_Notary T.n_Notary_numbers h3 ?_
      walk_at "my_rd"
      refine q_nGetK h74 hK4 (hk2.mono tup4) hok.d (v := .int es.length) (by rw [hN4.val e, pl_snoc hne, if_pos rfl]; rfl) ?_
      refine k2 hne _ ⟨⟨dx, fs, _, _, h14, h2, h3, h4, h5b, hE4, h74, hK4, hN4⟩, List.nodup_append.mpr ⟨hN.nd, by simp, fun u hu v hv => ?_⟩, fun f hf => ?_⟩ fun b o z n1 n2 => kp3 b o (kp2 b o (sm2 _ _ z) n2) n1
      · rw [List.mem_singleton.mp hv]
        rintro rfl
        exact hne hu
      · rcases List.mem_append.mp hf with m | m
        · exact hN.ok f m
        · rw [List.mem_singleton.mp m]; exact hok
end

local macro_rules | `(tactic| walk_at "my_rd") => `(tactic| (repeat first
  | with_reducible refine q_tCons ?_
  | ((with_reducible apply q_var); (focus (exact rfl)))
  | with_reducible refine q_c ?_
  | ((with_reducible apply q_nxE); (focus (with_reducible exact rfl)))
  | with_reducible refine q_bK ?_
  | with_reducible refine q_call ?_
  | with_reducible refine q_callK ?_
  | with_reducible refine q_tNil ?_
  | with_reducible refine q_cb ?_
  | with_reducible refine q_seq ?_
  | with_reducible refine q_asg ?_
  | with_reducible refine q_gName ?_
  | with_reducible refine q_op ?_
  | with_reducible refine q_test ?_
  | with_reducible refine q_tB ?_
  | with_reducible refine q_ifS ?_
  | with_reducible refine q_ret ?_
  | ((with_reducible apply q_rtE); (focus (with_reducible exact rfl)))
  | with_reducible refine q_next ?_
  | with_reducible refine q_ifF ?_
  | with_reducible refine q_ifT ?_
  | with_reducible refine q_drop ?_
  | with_reducible refine q_and ?_
  | with_reducible refine q_or ?_
  | with_reducible refine q_andT ?_
  | with_reducible refine q_andF ?_
  | with_reducible refine q_orF ?_
  | with_reducible refine q_orT ?_
  | with_reducible refine q_andV ?_
  | with_reducible refine q_andVT ?_
  | with_reducible refine q_andVF ?_
  | with_reducible refine q_orV ?_
  | with_reducible refine q_gCons ?_
  | with_reducible refine q_gNil ?_
  | with_reducible refine q_tup ?_
  | with_reducible refine q_lst ?_
  | with_reducible refine q_not ?_
  | with_reducible refine q_notKT ?_
  | with_reducible refine q_notKF ?_
  | with_reducible refine q_I0 ?_
  | with_reducible refine q_eqI ?_
  | with_reducible refine q_neI ?_
  | ((with_reducible refine q_I ?_ ?_); first | decide | omega | exact ⟨by omega, by omega⟩ | exact ⟨by decide, by decide⟩ | exact .inl ⟨by omega, by omega⟩ | exact .inr ⟨by omega, by omega⟩ | exact .inr ⟨by decide, by decide⟩)
  | with_reducible refine q_eqS ?_
  | with_reducible refine q_neS ?_
  | with_reducible refine q_brk ?_
  | with_reducible refine q_ct ?_
  | ((with_reducible apply q_bkE); (focus (with_reducible exact rfl)))
  | ((with_reducible apply q_cnE); (focus (with_reducible exact rfl)))
  | with_reducible refine q_retN ?_
  | with_reducible refine q_gSub ?_
  | with_reducible refine q_for ?_
  | with_reducible refine q_iList ?_
  | with_reducible refine q_iTup ?_
  | with_reducible refine q_iRng1 ?_
  | with_reducible refine q_notK ?_
  | with_reducible refine q_orVT ?_
  | with_reducible refine q_orVF ?_
  | with_reducible refine q_notV ?_
  | with_reducible refine q_notVK ?_
  | with_reducible refine q_ifE ?_
  | with_reducible refine q_ifET ?_
  | with_reducible refine q_ifEF ?_
  | with_reducible refine q_yes ?_
  | with_reducible refine q_un ?_
  | with_reducible refine q_rU ?_
  | with_reducible refine q_abs ?_
  | with_reducible refine q_int1 ?_
  | with_reducible refine q_bm ?_
  | with_reducible refine q_bm0 ?_
  | with_reducible refine q_lc ?_
  | with_reducible refine q_keepT ?_
  | with_reducible refine q_keepF ?_
  | ((with_reducible apply q_aug); (focus (exact rfl)))
  | with_reducible refine q_ipI ?_
  | with_reducible refine q_chain ?_
  | with_reducible refine q_pairC ?_
  | with_reducible refine q_pairsK ?_
  | with_reducible refine q_pairN ?_
  | with_reducible refine q_fld ?_
  | with_reducible refine q_sFld ?_
  | with_reducible refine q_meth ?_
  | with_reducible refine q_makeK ?_
  | with_reducible refine q_isBl ?_
  | with_reducible refine q_notBl ?_
  | with_reducible refine q_sl ?_
  | with_reducible refine q_noPart ?_
  | with_reducible refine q_part ?_
  | with_reducible refine q_partK ?_
  | ((with_reducible apply q_mulStr); (focus (decide +kernel)))
  | with_reducible refine q_chT ?_
  | with_reducible refine q_chF ?_
  | with_reducible refine q_ord ?_
  | with_reducible refine q_iStr0 ?_
  | with_reducible refine q_iStr ?_
  | with_reducible refine q_tDIn ?_
  | with_reducible refine q_tDNotIn ?_
  | with_reducible refine q_tDGet ?_
  | with_reducible refine q_tDGet2 ?_
  | with_reducible refine q_tDGet1 ?_
  | with_reducible refine q_tDSetd ?_
  | ((with_reducible apply q_dG2a); (focus ((repeat first | (with_reducible exact upd_same) | (with_reducible assumption) | (with_reducible apply upd_new (by assumption)) | (with_reducible apply upd_other (by first | assumption | exact Ne.symm (by assumption))) | (with_reducible refine' Kp.get (by assumption) ?_ (by first | assumption | exact Ne.symm (by assumption))) | (with_reducible apply Same.get (by assumption))); done)))
  | ((with_reducible apply q_dSda); (focus ((repeat first | (with_reducible exact upd_same) | (with_reducible assumption) | (with_reducible apply upd_new (by assumption)) | (with_reducible apply upd_other (by first | assumption | exact Ne.symm (by assumption))) | (with_reducible refine' Kp.get (by assumption) ?_ (by first | assumption | exact Ne.symm (by assumption))) | (with_reducible apply Same.get (by assumption))); done)))
  | with_reducible refine q_sDPut ?_
  | ((with_reducible apply q_dInS); (focus ((repeat first | (with_reducible exact upd_same) | (with_reducible assumption) | (with_reducible apply upd_new (by assumption)) | (with_reducible apply upd_other (by first | assumption | exact Ne.symm (by assumption))) | (with_reducible refine' Kp.get (by assumption) ?_ (by first | assumption | exact Ne.symm (by assumption))) | (with_reducible apply Same.get (by assumption))); done)))
  | ((with_reducible apply q_dNInS); (focus ((repeat first | (with_reducible exact upd_same) | (with_reducible assumption) | (with_reducible apply upd_new (by assumption)) | (with_reducible apply upd_other (by first | assumption | exact Ne.symm (by assumption))) | (with_reducible refine' Kp.get (by assumption) ?_ (by first | assumption | exact Ne.symm (by assumption))) | (with_reducible apply Same.get (by assumption))); done)))
  | ((with_reducible apply q_dInI); (focus ((repeat first | (with_reducible exact upd_same) | (with_reducible assumption) | (with_reducible apply upd_new (by assumption)) | (with_reducible apply upd_other (by first | assumption | exact Ne.symm (by assumption))) | (with_reducible refine' Kp.get (by assumption) ?_ (by first | assumption | exact Ne.symm (by assumption))) | (with_reducible apply Same.get (by assumption))); done)))
  | ((with_reducible apply q_dNInI); (focus ((repeat first | (with_reducible exact upd_same) | (with_reducible assumption) | (with_reducible apply upd_new (by assumption)) | (with_reducible apply upd_other (by first | assumption | exact Ne.symm (by assumption))) | (with_reducible refine' Kp.get (by assumption) ?_ (by first | assumption | exact Ne.symm (by assumption))) | (with_reducible apply Same.get (by assumption))); done)))
  | ((with_reducible apply q_bmL); (focus ((repeat first | (with_reducible exact upd_same) | (with_reducible assumption) | (with_reducible apply upd_new (by assumption)) | (with_reducible apply upd_other (by first | assumption | exact Ne.symm (by assumption))) | (with_reducible refine' Kp.get (by assumption) ?_ (by first | assumption | exact Ne.symm (by assumption))) | (with_reducible apply Same.get (by assumption))); done)))
  | ((with_reducible apply q_bmL0); (focus ((repeat first | (with_reducible exact upd_same) | (with_reducible assumption) | (with_reducible apply upd_new (by assumption)) | (with_reducible apply upd_other (by first | assumption | exact Ne.symm (by assumption))) | (with_reducible refine' Kp.get (by assumption) ?_ (by first | assumption | exact Ne.symm (by assumption))) | (with_reducible apply Same.get (by assumption))); done)))
  | ((with_reducible apply q_ixLt); (focus ((repeat first | (with_reducible exact upd_same) | (with_reducible assumption) | (with_reducible apply upd_new (by assumption)) | (with_reducible apply upd_other (by first | assumption | exact Ne.symm (by assumption))) | (with_reducible refine' Kp.get (by assumption) ?_ (by first | assumption | exact Ne.symm (by assumption))) | (with_reducible apply Same.get (by assumption))); done)); (focus (exact rfl)))
  | ((with_reducible apply q_ixTt); (focus ((repeat first | (with_reducible exact upd_same) | (with_reducible assumption) | (with_reducible apply upd_new (by assumption)) | (with_reducible apply upd_other (by first | assumption | exact Ne.symm (by assumption))) | (with_reducible refine' Kp.get (by assumption) ?_ (by first | assumption | exact Ne.symm (by assumption))) | (with_reducible apply Same.get (by assumption))); done)); (focus (exact rfl)))
  | ((with_reducible apply q_lenLt); (focus ((repeat first | (with_reducible exact upd_same) | (with_reducible assumption) | (with_reducible apply upd_new (by assumption)) | (with_reducible apply upd_other (by first | assumption | exact Ne.symm (by assumption))) | (with_reducible refine' Kp.get (by assumption) ?_ (by first | assumption | exact Ne.symm (by assumption))) | (with_reducible apply Same.get (by assumption))); done)))
  | ((with_reducible apply q_lenTt); (focus ((repeat first | (with_reducible exact upd_same) | (with_reducible assumption) | (with_reducible apply upd_new (by assumption)) | (with_reducible apply upd_other (by first | assumption | exact Ne.symm (by assumption))) | (with_reducible refine' Kp.get (by assumption) ?_ (by first | assumption | exact Ne.symm (by assumption))) | (with_reducible apply Same.get (by assumption))); done)))
  | ((with_reducible apply q_append); (focus ((repeat first | (with_reducible exact upd_same) | (with_reducible assumption) | (with_reducible apply upd_new (by assumption)) | (with_reducible apply upd_other (by first | assumption | exact Ne.symm (by assumption))) | (with_reducible refine' Kp.get (by assumption) ?_ (by first | assumption | exact Ne.symm (by assumption))) | (with_reducible apply Same.get (by assumption))); done)); (focus ((first | (exact Nat.lt_of_ble_eq_true rfl) | (simp only [List.length_append, List.length_cons, List.length_nil, List.length_map]; exact small1000 (by omega))))))
  | ((with_reducible apply q_setL); (focus ((repeat first | (with_reducible exact upd_same) | (with_reducible assumption) | (with_reducible apply upd_new (by assumption)) | (with_reducible apply upd_other (by first | assumption | exact Ne.symm (by assumption))) | (with_reducible refine' Kp.get (by assumption) ?_ (by first | assumption | exact Ne.symm (by assumption))) | (with_reducible apply Same.get (by assumption))); done)); (focus (exact rfl)))
  | with_reducible refine q_ifNT ?_
  | with_reducible refine q_ifNF ?_
  | with_reducible refine q_andNT ?_
  | with_reducible refine q_andNF ?_
  | with_reducible refine q_orNT ?_
  | with_reducible refine q_orNF ?_
  | with_reducible refine q_bKNT ?_
  | with_reducible refine q_bKNF ?_
  | with_reducible refine q_tNGet ?_
  | with_reducible refine q_tNIn ?_
  | with_reducible refine q_sNPut ?_
  | with_reducible refine q_sFldAug ?_
  | with_reducible refine q_sDAug ?_
  | with_reducible refine q_sDDel ?_
  | with_reducible refine q_forX ?_
  | with_reducible refine q_tMake ?_
  | ((with_reducible apply q_dG1a); (focus ((repeat first | (with_reducible exact upd_same) | (with_reducible assumption) | (with_reducible apply upd_new (by assumption)) | (with_reducible apply upd_other (by first | assumption | exact Ne.symm (by assumption))) | (with_reducible refine' Kp.get (by assumption) ?_ (by first | assumption | exact Ne.symm (by assumption))) | (with_reducible apply Same.get (by assumption))); done)))))
theorem putF_len {f : Str} {v z : V} : ∀ {fs : List (Str × V)}, fs.lookup f = some z → (putF f v fs).length = fs.length
  | [], h => by cases h
  | (g, x) :: r, h => by
    show (if g = f then (g, v) :: r else (g, x) :: putF f v r).length = _
    by_cases e : g = f
    · rw [if_pos e]; rfl
    · rw [if_neg e]
      have h2 : r.lookup f = some z := by
        simp only [List.lookup] at h
        have : (f == g) = false := by
          cases q : f == g with
          | false => rfl
          | true => exact absurd (eq_of_beq q).symm e
        rw [this] at h
        exact h
      exact congrArg (· + 1) (putF_len h2)
/-! del xs[a:] -/
theorem bounds_run2 {a n : Nat} (ha : a ≤ n) : sliceBounds (some (a : Int)) none none n = ((a : Int), (n : Int), 1) := by
  simp only [sliceBounds, Option.getD_none]
  have h1 : ¬ ((a : Int) < 0) := by omega
  simp only [h1, if_false, show (1 : Int) > 0 by decide, if_true]
  congr 1
  · omega
theorem keep_front (F : Value × Nat → Option Value) (a : Nat) : ∀ (its : List Value) (k : Nat), (∀ x j, j < k + its.length → F (x, j) = if a ≤ j then none else some x) → (its.zipIdx k).filterMap F = its.take (a - k)
  | [], _, _ => by simp
  | x :: its, k, h => by
    have h0 := h x k (by simp only [List.length_cons]; omega)
    have hr : ∀ x j, j < (k + 1) + its.length → F (x, j) = if a ≤ j then none else some x := fun x j hj => h x j (by simp only [List.length_cons]; omega)
    have ih := keep_front F a its (k + 1) hr
    rw [List.zipIdx_cons, List.filterMap_cons, h0]
    by_cases hk : a ≤ k
    · simp only [if_pos hk, show a - k = 0 by omega, List.take_zero]
      rw [ih, show a - (k + 1) = 0 by omega, List.take_zero]
    · simp only [if_neg hk, show a - k = (a - (k + 1)) + 1 by omega, List.take_succ_cons]
      rw [ih]
section
variable {prog : Program} {w : World} {A : Around} {E : Value → Shared → Prop} {s : Shared}
set_option maxRecDepth 100000 in
theorem delItem_slice {l sl : Addr} {items : Array Value} {n : Nat} {vl vu : Value} {a : Nat} {Q : Unit → Shared → Prop}
    (e : s.heap.get? l = some { cls := .type "list", data := .seq items n })
    (hs : s.heap.IsSliceOf sl vl vu .none) (pl : IsPart vl (some (a : Int))) (pu : IsPart vu none) (ha : a ≤ items.size)
    (hsz : items.size ≤ sizeLine) (h : ∀ F : Array Value → Array Value, F items = (items.toList.take a).toArray → Q () { s with heap := s.heap.update l (Obj.mapSeq F) }) :
    wpAny (model prog w) A (delItem (.ref l) (.ref sl)) Q E s := by
  have hl : s.heap.IsList l items := PySem.IsL.isList e
  obtain ⟨os, hos, hcs, hds⟩ := id hs
  have hTs : s.TypeIs (.ref sl) "slice" := ⟨os, hos, hcs⟩
  have hstep : ¬ ((rawPart none == rawInt 0) = true) := Bool.false_ne_true
  unfold delItem
  try with_reducible refine wpAny_holding ?_
  first | refine wpAny_bind (wpAny_pure ?_) | skip
  refine wpAny_bind (wpAny_sequenceKey hl.typeIs (by decide) ?_)
  refine wpAny_bind (wpAny_callSpecial?_slot (name := Str.ofString "__delitem__") hl.typeIs PySem.F.slot_list_delitem
    (wpAny_call_entry PySem.F.slot_list_delitem hl.typeIs PySem.F.entry_list_delitem ?_ (PySem.F.args_list_delitem_2 _ _)))
  show wpAny _ _ (Builtin.List.listSubscript? (.ref sl) >>= _) _ _ s
  refine wpAny_bind ?_
  unfold Builtin.List.listSubscript?
  refine wpAny_bind (wpAny_specialOf hTs slice_no_index ?_)
  simp only [Option.isNone_none, if_true]
  refine wpAny_pure ?_
  show wpAny _ _ (typeOf (.ref sl) >>= _) _ _ s
  refine wpAny_bind (wpAny_typeOf hTs ?_)
  first
    | rw [if_neg (by decide)]
    | refine PySem.W.KFB.if_not (by decide) ?_
  rw [listSliceParts_eq]
  refine wpAny_bind (wpAny_bind (wpAny_field hos hds (x := .none) rfl (wpAny_bind (wpAny_listPart .none ?_))))
  rw [if_neg hstep]
  refine wpAny_bind (wpAny_field hos hds (x := vl) rfl (wpAny_bind (wpAny_listPart pl ?_)))
  refine wpAny_bind (wpAny_field hos hds (x := vu) rfl (wpAny_bind (wpAny_listPart pu (wpAny_pure ?_))))
  unfold Builtin.List.listItems
  refine wpAny_bind (wpAny_bind (wpAny_seqItems e rfl (wpAny_pure ?_)))
  refine wpAny_bind (wpAny_of_eq ((sliceIndices_raw (some (a : Int)) none none items.size (by simp)).trans (congrArg (pure : Int × Int × Int → Sem (Int × Int × Int)) (bounds_run2 ha))) ?_)
  refine wpAny_bind (wpAny_rule ?_)
  refine wpAny_bind (wpAny_updateSeq e rfl ?_ hsz ?_)
  · refine wpAny_bind (wpAny_letGo (keep := []) ?_)
    refine wpAny_pure ⟨_, rfl, wpAny_pure (h _ ?_)⟩
    refine congrArg List.toArray ((keep_front _ a items.toList 0 ?_).trans (by rw [Nat.sub_zero]))
    intro x j hj
    have hj' : j < items.size := by simpa using hj
    show (if (if (1 : Int) > 0 then decide ((a : Int) ≤ (j : Int)) && decide ((j : Int) < (items.size : Int)) && (((j : Int) - (a : Int)) % 1 == 0) else _) = true then none else some x) = _
    rw [if_pos (show (1 : Int) > 0 by decide)]
    by_cases hk : a ≤ j
    · rw [if_pos hk, if_pos (by simp; omega)]
    · rw [if_neg hk, if_neg (by simp; omega)]
  · refine Nat.le_trans ?_ (Nat.le_succ_of_le hsz)
    rw [List.size_toArray]
    refine Nat.le_trans (List.length_filterMap_le _ _) ?_
    simp
end
section
variable {X : Cx} {pos p2 tpos : Pos}
theorem del_slice {pins : List (Addr × Obj)} {s : Shared} {σ : L2.St} {H : Hp} {l sl : Addr} {xs : List V} {a : Int} {vl vu : Value} {Q : Unit → Shared → Prop} (I : L2.Inv X pins σ H s)
    (hH : H l = some (.lst xs)) (hs : s.heap.IsSliceOf sl vl vu .none) (pl : IsPart vl (some a)) (pu : IsPart vu none) (h0 : 0 ≤ a) (ha : a ≤ xs.length)
    (h : ∀ s', L2.Inv X pins σ (upd H l (.lst (xs.take a.toNat))) s' → Q () s') : wpAny (model X.prog X.w) X.A (delItem (.ref l) (.ref sl)) Q X.xe s := by
  obtain ⟨z, its, n, r, hl, e⟩ := I.lstM hH
  obtain ⟨a', rfl⟩ := Int.eq_ofNat_of_zero_le h0
  simp only [Int.toNat_natCast] at h
  refine delItem_slice (a := a') e hs pl pu (by rw [List.size_toArray]; omega) (by rw [List.size_toArray]; omega) fun F hF => h _ ?_
  refine I.lset (its' := its.take a') (t' := s.toks) hH e hF (r.take _) ?_
  rw [List.length_take]; omega
def tDelSl (to : TE) (tl : TO) : TS := fun D σ H => to σ H fun x H1 => tl σ H1 fun o H2 => ∃ (l : Addr) (xs : List V) (a : Int), x = .ref l ∧ o = some a ∧ H2 l = some (.lst xs) ∧ 0 ≤ a ∧ a ≤ xs.length ∧ D.nx σ (upd H2 l (.lst (xs.take a.toNat)))
theorem ps_delSl {o : Expr} {lo : Option Expr} {to : TE} {tl : TO} (ho : PE X o to) (hlo : PO X lo tl) : PS X (.Delete [.Subscript o (.Slice lo none none p2) tpos] pos) (tDelSl to tl) := by
  refine ⟨fun pins s σ H D I h => ?_⟩
  refine wpAny_Delete (wpAny_deleteEach_cons (wpAny_delete_Subscript (thn (ho.run pins s σ H _ I h) fun u s1 ⟨x, H1, I1, rx, q1⟩ => ?_)))
  refine wpAny_Slice (thn (hlo.run pins s1 σ H1 _ I1 q1) fun vl s2 ⟨l, H2, I2, pl, q2⟩ => ?_)
  rw [evalPart_none]
  refine wpAny_pure (wpAny_pure ?_)
  obtain ⟨l', xs, a, ex, ey, hH, h0, ha, q2⟩ := q2
  subst ex
  subst ey
  cases (show u = Value.ref l' from rx)
  have I4 : L2.Inv X pins σ H2 { s2 with heap := s2.heap.push { cls := .type "slice", data := .fields #[vl, .none, .none] } } := I2.kept (t' := s2.toks) fun b ob q => Heap.get?_push_of_some _ q
  exact del_slice I4 hH (Heap.IsSliceOf.new ..) pl .none h0 ha fun s3 I3 => wpAny_deleteEach_nil ⟨σ, _, I3, q2⟩
end

/-! notes -/
def ntNames : List Str := ["_rows", "_flushed"]
structure NtAt (C : Addr) (H : Hp) (x l : Addr) (xs : List V) (f : Nat) : Prop where
  ex : ∃ dx fs, H x = some (.ins C dx fs) ∧ fs.lookup ("_rows" : Str) = some (.ref l) ∧ fs.lookup ("_flushed" : Str) = some (.int f) ∧ (∀ m : Str, m ∉ ntNames → fs.lookup m = none) ∧ fs.length = 2 ∧ H l = some (.lst xs)
  le : f ≤ xs.length
theorem NtAt.kp {C : Addr} {H H' : Hp} {x l : Addr} {xs : List V} {f : Nat} (h : NtAt C H x l xs f) (e1 : ∀ o, H x = some o → H' x = some o) (e2 : ∀ o, H l = some o → H' l = some o) : NtAt C H' x l xs f := by
  obtain ⟨dx, fs, h1, h2, h3, h4, h5, h6⟩ := h.ex
  exact ⟨⟨dx, fs, e1 _ h1, h2, h3, h4, h5, e2 _ h6⟩, h.le⟩
theorem NtAt.same {C : Addr} {H H' : Hp} {x l : Addr} {xs : List V} {f : Nat} (h : NtAt C H x l xs f) (e : Same H H') : NtAt C H' x l xs f := h.kp (fun o q => e _ _ q) fun o q => e _ _ q
def sp_ntI (C : Addr) : Sp := fun vs H Q _ => ∃ (x dx : Addr), vs = [.ref x] ∧ H x = some (.ins C dx []) ∧ ∀ (l : Addr) (H' : Hp), H l = none → NtAt C H' x l [] 0 → Kp x H H' → Q .non H'
def sp_ntA (C : Addr) : Sp := fun vs H Q _ => ∃ (x l : Addr) (xs : List V) (f : Nat) (y : V), vs = [.ref x, y] ∧ NtAt C H x l xs f ∧ xs.length < 900 ∧ (NtAt C (upd H l (.lst (xs ++ [y]))) x l (xs ++ [y]) f → Q .non (upd H l (.lst (xs ++ [y]))))
def sp_ntR (C : Addr) : Sp := fun vs H Q _ => ∃ (x l : Addr) (xs : List V) (f : Nat), vs = [.ref x] ∧ NtAt C H x l xs f ∧ ∀ q, H q = none → Q (.ref q) (upd H q (.lst xs))
def sp_ntF (C : Addr) : Sp := fun vs H Q _ => ∃ (x l : Addr) (xs : List V) (f : Nat), vs = [.ref x] ∧ NtAt C H x l xs f ∧ ∀ H', NtAt C H' x l xs xs.length → Kp x H H' → Q .non H'
def sp_ntC (C : Addr) : Sp := fun vs H Q _ => ∃ (x l : Addr) (xs : List V) (f : Nat) (n : Nat), vs = [.ref x, .int n] ∧ NtAt C H x l xs f ∧ (NtAt C (upd H l (.lst (xs.take (max f (xs.length - n))))) x l (xs.take (max f (xs.length - n))) f → Q .non (upd H l (.lst (xs.take (max f (xs.length - n))))))
section
variable {P : Program} {w : World} {K : PySem.W.Frag} {mg : Str → Option Value} {base : Heap}
theorem ok_Notes_init (T : Txt K mg) : FnOk P w K mg base CX0 1 T.f_Notes_init T.d_Notes_init ["self"] (sp_ntI T.C_Notes) := by
  refine T.F_Notes_init.ok sc_Notes_init (fun vs H Q E h => ?_) (fun cdv A outer s H vs Q E hr h => ?_)
  · obtain ⟨x, dx, rfl, _⟩ := h; rfl
  · obtain ⟨x, dx, rfl, hx, k⟩ := h
    refine ⟨_, (pss_cons (ps_fld (pv 0) (pe_lst pa_nil) rfl)
      (pss_one (ps_fld (pv 0) pe_int rfl))), ?_⟩
    (dsimp only [cxOf, Cx.nox, Cx.wish, L2.start, List.map, List.length, List.replicate, List.cons_append, List.nil_append, List.append_eq, Nat.reduceSub, Nat.reduceAdd])
    walk_at "my_rd"
    refine q_lstK (Nat.le_of_ble_eq_true rfl) fun tl ntl => ?_
    walk_at "my_rd"
    have nxt : x ≠ tl := ne_of_none hx ntl
    refine q_fputK (upd_new ntl hx) T.cl_Notes T.n_Notes_rows (by show 0 < 1000; decide) ?_
    walk_at "my_rd"
    refine q_fputK upd_same T.cl_Notes T.n_Notes_flushed (by show 1 < 1000; decide) ?_
    walk_at "my_rd"
    refine k tl _ ntl ⟨⟨dx, _, upd_same, ?_, ?_, ?_, rfl, upd_other nxt.symm (upd_other nxt.symm upd_same)⟩, Nat.le_refl _⟩ ?_
    · (repeat first | rfl | rw [lookup_putF, if_pos rfl] | rw [lookup_putF, if_neg (by decide +kernel)])
    · (repeat first | rfl | rw [lookup_putF, if_pos rfl] | rw [lookup_putF, if_neg (by decide +kernel)])
    · intro m hm
      have hne : ∀ z ∈ ntNames, ¬ m = z := fun z hz e => hm (e ▸ hz)
      rw [lookup_putF, if_neg (hne _ (by decide +kernel)), lookup_putF, if_neg (hne _ (by decide +kernel))]
      rfl
    · exact Kp.upd (Kp.upd (Kp.new Kp.refl ntl))
theorem ok_Notes_add (T : Txt K mg) : FnOk P w K mg base CX0 1 T.f_Notes_add T.d_Notes_add ["self", "row"] (sp_ntA T.C_Notes) := by
  refine T.F_Notes_add.ok sc_Notes_add (fun vs H Q E h => ?_) (fun cdv A outer s H vs Q E hr h => ?_)
  · obtain ⟨x, l, xs, f, y, rfl, _⟩ := h; rfl
  · obtain ⟨x, l, xs, f, y, rfl, hN, hl, k⟩ := h
    obtain ⟨dx, fs, h1, h2, h3, h4, h5, h6⟩ := hN.ex
    refine ⟨_, (pss_one (ps_expr (pe_bm PySem.F.plainAttrs_list PySem.F.slot_list_append PySem.F.type_list_append mt_append (pe_fld (pv 0) rfl) (pa_cons (pv 1) pa_nil)))), ?_⟩
    (dsimp only [cxOf, Cx.nox, Cx.wish, L2.start, List.map, List.length, List.replicate, List.cons_append, List.nil_append, List.append_eq, Nat.reduceSub, Nat.reduceAdd])
    walk_at "my_rd"
    refine q_fldK h1 T.cl_Notes T.n_Notes_rows h2 ?_
    walk_at "my_rd"
    refine q_append h6 (small1000 (by omega)) ?_
    walk_at "my_rd"
    have nxl : x ≠ l := ne_of h1 h6 (by intro z; cases z)
    exact k ⟨⟨dx, fs, upd_other nxl h1, h2, h3, h4, h5, upd_same⟩, by rw [List.length_append]; have := hN.le; omega⟩
theorem ok_Notes_rows (T : Txt K mg) : FnOk P w K mg base CX0 1 T.f_Notes_rows T.d_Notes_rows ["self"] (sp_ntR T.C_Notes) := by
  refine T.F_Notes_rows.ok sc_Notes_rows (fun vs H Q E h => ?_) (fun cdv A outer s H vs Q E hr h => ?_)
  · obtain ⟨x, l, xs, f, rfl, _⟩ := h; rfl
  · obtain ⟨x, l, xs, f, rfl, hN, k⟩ := h
    obtain ⟨dx, fs, h1, h2, h3, h4, h5, h6⟩ := hN.ex
    refine ⟨_, (pss_one (ps_ret (pe_callTy cq_listOf (by rfl) T.z_list boot_list (pa_cons (pe_fld (pv 0) rfl) pa_nil)))), ?_⟩
    (dsimp only [cxOf, Cx.nox, Cx.wish, L2.start, List.map, List.length, List.replicate, List.cons_append, List.nil_append, List.append_eq, Nat.reduceSub, Nat.reduceAdd])
    walk_at "my_rd"
    refine q_fldK h1 T.cl_Notes T.n_Notes_rows h2 ?_
    walk_at "my_rd"
    refine q_listL (sqL h6) fun q nq => ?_
    walk_at "my_rd"
    exact k q nq
theorem ok_Notes_flush (T : Txt K mg) : FnOk P w K mg base CX0 1 T.f_Notes_flush T.d_Notes_flush ["self"] (sp_ntF T.C_Notes) := by
  refine T.F_Notes_flush.ok sc_Notes_flush (fun vs H Q E h => ?_) (fun cdv A outer s H vs Q E hr h => ?_)
  · obtain ⟨x, l, xs, f, rfl, _⟩ := h; rfl
  · obtain ⟨x, l, xs, f, rfl, hN, k⟩ := h
    obtain ⟨dx, fs, h1, h2, h3, h4, h5, h6⟩ := hN.ex
    refine ⟨_, (pss_one (ps_fld (pv 0) (pe_callB cq_len (by rfl) T.z_len boot_len (pa_cons (pe_fld (pv 0) rfl) pa_nil)) rfl)), ?_⟩
    (dsimp only [cxOf, Cx.nox, Cx.wish, L2.start, List.map, List.length, List.replicate, List.cons_append, List.nil_append, List.append_eq, Nat.reduceSub, Nat.reduceAdd])
    walk_at "my_rd"
    refine q_fldK h1 T.cl_Notes T.n_Notes_rows h2 ?_
    walk_at "my_rd"
    refine q_fputK h1 T.cl_Notes T.n_Notes_flushed (by omega) ?_
    walk_at "my_rd"
    have nxl : x ≠ l := ne_of h1 h6 (by intro z; cases z)
    refine k _ ⟨⟨dx, _, upd_same, ?_, ?_, ?_, ?_, upd_other nxl.symm h6⟩, Nat.le_refl _⟩ (Kp.upd Kp.refl)
    · rw [lookup_putF, if_neg (by decide +kernel)]; exact h2
    · rw [lookup_putF, if_pos rfl]
    · intro m hm
      rw [lookup_putF, if_neg (fun e => hm (by rw [e]; decide +kernel))]
      exact h4 m hm
    · rw [← h5]; exact putF_len h3
theorem ok_Notes_crash (T : Txt K mg) : FnOk P w K mg base CX0 1 T.f_Notes_crash T.d_Notes_crash ["self", "lost"] (sp_ntC T.C_Notes) := by
  refine T.F_Notes_crash.ok sc_Notes_crash (fun vs H Q E h => ?_) (fun cdv A outer s H vs Q E hr h => ?_)
  · obtain ⟨x, l, xs, f, n, rfl, _⟩ := h; rfl
  · obtain ⟨x, l, xs, f, n, rfl, hN, k⟩ := h
    obtain ⟨dx, fs, h1, h2, h3, h4, h5, h6⟩ := hN.ex
    refine ⟨_, (pss_cons (ps_set (i := 2) sc_Notes_crash.nd rfl (Or.inl rfl) (pe_callB (call_max2 rfl) (by rfl) T.z_max boot_max (pa_cons (pe_fld (pv 0) rfl) (pa_cons (pe_op op_sub (pe_callB cq_len (by rfl) T.z_len boot_len (pa_cons (pe_fld (pv 0) rfl) pa_nil)) (pv 1)) pa_nil))))
      (pss_one (ps_delSl (pe_fld (pv 0) rfl) (po_some (pv 2))))), ?_⟩
    (dsimp only [cxOf, Cx.nox, Cx.wish, L2.start, List.map, List.length, List.replicate, List.cons_append, List.nil_append, List.append_eq, Nat.reduceSub, Nat.reduceAdd])
    walk_at "my_rd"
    refine q_fldK h1 T.cl_Notes T.n_Notes_flushed h3 ?_
    walk_at "my_rd"
    refine q_fldK h1 T.cl_Notes T.n_Notes_rows h2 ?_
    walk_at "my_rd"
    refine ⟨_, _, rfl, ?_⟩
    walk_at "my_rd"
    unfold tDelSl
    walk_at "my_rd"
    refine q_fldK h1 T.cl_Notes T.n_Notes_rows h2 ?_
    walk_at "my_rd"
    have le := hN.le
    have e : (if (xs.length : Int) - (n : Int) > (f : Int) then (xs.length : Int) - (n : Int) else (f : Int)).toNat = max f (xs.length - n) := by split <;> omega
    have nxl : x ≠ l := ne_of h1 h6 (by intro z; cases z)
    first | refine q_partK ?_ | skip
    refine ⟨l, xs, _, rfl, rfl, h6, ?_, ?_, ?_⟩
    · split <;> omega
    · split <;> omega
    · rw [e]
      walk_at "my_rd"
      exact k ⟨⟨dx, fs, upd_other nxl h1, h2, h3, h4, h5, upd_same⟩, by rw [List.length_take]; omega⟩
end

local macro_rules | `(tactic| walk_at "my_rd") => `(tactic| (repeat first
  | with_reducible refine q_tCons ?_
  | ((with_reducible apply q_var); (focus (exact rfl)))
  | with_reducible refine q_c ?_
  | ((with_reducible apply q_nxE); (focus (with_reducible exact rfl)))
  | with_reducible refine q_bK ?_
  | with_reducible refine q_call ?_
  | with_reducible refine q_callK ?_
  | with_reducible refine q_tNil ?_
  | with_reducible refine q_cb ?_
  | with_reducible refine q_seq ?_
  | with_reducible refine q_asg ?_
  | with_reducible refine q_gName ?_
  | with_reducible refine q_op ?_
  | with_reducible refine q_test ?_
  | with_reducible refine q_tB ?_
  | with_reducible refine q_ifS ?_
  | with_reducible refine q_ret ?_
  | ((with_reducible apply q_rtE); (focus (with_reducible exact rfl)))
  | with_reducible refine q_next ?_
  | with_reducible refine q_ifF ?_
  | with_reducible refine q_ifT ?_
  | with_reducible refine q_drop ?_
  | with_reducible refine q_and ?_
  | with_reducible refine q_or ?_
  | with_reducible refine q_andT ?_
  | with_reducible refine q_andF ?_
  | with_reducible refine q_orF ?_
  | with_reducible refine q_orT ?_
  | with_reducible refine q_andV ?_
  | with_reducible refine q_andVT ?_
  | with_reducible refine q_andVF ?_
  | with_reducible refine q_orV ?_
  | with_reducible refine q_gCons ?_
  | with_reducible refine q_gNil ?_
  | with_reducible refine q_tup ?_
  | with_reducible refine q_lst ?_
  | with_reducible refine q_not ?_
  | with_reducible refine q_notKT ?_
  | with_reducible refine q_notKF ?_
  | with_reducible refine q_I0 ?_
  | with_reducible refine q_eqI ?_
  | with_reducible refine q_neI ?_
  | ((with_reducible refine q_I ?_ ?_); first | decide | omega | exact ⟨by omega, by omega⟩ | exact ⟨by decide, by decide⟩ | exact .inl ⟨by omega, by omega⟩ | exact .inr ⟨by omega, by omega⟩ | exact .inr ⟨by decide, by decide⟩)
  | with_reducible refine q_eqS ?_
  | with_reducible refine q_neS ?_
  | with_reducible refine q_brk ?_
  | with_reducible refine q_ct ?_
  | ((with_reducible apply q_bkE); (focus (with_reducible exact rfl)))
  | ((with_reducible apply q_cnE); (focus (with_reducible exact rfl)))
  | with_reducible refine q_retN ?_
  | with_reducible refine q_gSub ?_
  | with_reducible refine q_for ?_
  | with_reducible refine q_iList ?_
  | with_reducible refine q_iTup ?_
  | with_reducible refine q_iRng1 ?_
  | with_reducible refine q_notK ?_
  | with_reducible refine q_orVT ?_
  | with_reducible refine q_orVF ?_
  | with_reducible refine q_notV ?_
  | with_reducible refine q_notVK ?_
  | with_reducible refine q_ifE ?_
  | with_reducible refine q_ifET ?_
  | with_reducible refine q_ifEF ?_
  | with_reducible refine q_yes ?_
  | with_reducible refine q_un ?_
  | with_reducible refine q_rU ?_
  | with_reducible refine q_abs ?_
  | with_reducible refine q_int1 ?_
  | with_reducible refine q_bm ?_
  | with_reducible refine q_bm0 ?_
  | with_reducible refine q_lc ?_
  | with_reducible refine q_keepT ?_
  | with_reducible refine q_keepF ?_
  | ((with_reducible apply q_aug); (focus (exact rfl)))
  | with_reducible refine q_ipI ?_
  | with_reducible refine q_chain ?_
  | with_reducible refine q_pairC ?_
  | with_reducible refine q_pairsK ?_
  | with_reducible refine q_pairN ?_
  | with_reducible refine q_fld ?_
  | with_reducible refine q_sFld ?_
  | with_reducible refine q_meth ?_
  | with_reducible refine q_makeK ?_
  | with_reducible refine q_isBl ?_
  | with_reducible refine q_notBl ?_
  | with_reducible refine q_sl ?_
  | with_reducible refine q_noPart ?_
  | with_reducible refine q_part ?_
  | with_reducible refine q_partK ?_
  | ((with_reducible apply q_mulStr); (focus (decide +kernel)))
  | with_reducible refine q_chT ?_
  | with_reducible refine q_chF ?_
  | with_reducible refine q_ord ?_
  | with_reducible refine q_iStr0 ?_
  | with_reducible refine q_iStr ?_
  | with_reducible refine q_tDIn ?_
  | with_reducible refine q_tDNotIn ?_
  | with_reducible refine q_tDGet ?_
  | with_reducible refine q_tDGet2 ?_
  | with_reducible refine q_tDGet1 ?_
  | with_reducible refine q_tDSetd ?_
  | ((with_reducible apply q_dG2a); (focus ((repeat first | (with_reducible exact upd_same) | (with_reducible assumption) | (with_reducible apply upd_new (by assumption)) | (with_reducible apply upd_other (by first | assumption | exact Ne.symm (by assumption))) | (with_reducible refine' Kp.get (by assumption) ?_ (by first | assumption | exact Ne.symm (by assumption))) | (with_reducible apply Same.get (by assumption))); done)))
  | ((with_reducible apply q_dSda); (focus ((repeat first | (with_reducible exact upd_same) | (with_reducible assumption) | (with_reducible apply upd_new (by assumption)) | (with_reducible apply upd_other (by first | assumption | exact Ne.symm (by assumption))) | (with_reducible refine' Kp.get (by assumption) ?_ (by first | assumption | exact Ne.symm (by assumption))) | (with_reducible apply Same.get (by assumption))); done)))
  | with_reducible refine q_sDPut ?_
  | ((with_reducible apply q_dInS); (focus ((repeat first | (with_reducible exact upd_same) | (with_reducible assumption) | (with_reducible apply upd_new (by assumption)) | (with_reducible apply upd_other (by first | assumption | exact Ne.symm (by assumption))) | (with_reducible refine' Kp.get (by assumption) ?_ (by first | assumption | exact Ne.symm (by assumption))) | (with_reducible apply Same.get (by assumption))); done)))
  | ((with_reducible apply q_dNInS); (focus ((repeat first | (with_reducible exact upd_same) | (with_reducible assumption) | (with_reducible apply upd_new (by assumption)) | (with_reducible apply upd_other (by first | assumption | exact Ne.symm (by assumption))) | (with_reducible refine' Kp.get (by assumption) ?_ (by first | assumption | exact Ne.symm (by assumption))) | (with_reducible apply Same.get (by assumption))); done)))
  | ((with_reducible apply q_dInI); (focus ((repeat first | (with_reducible exact upd_same) | (with_reducible assumption) | (with_reducible apply upd_new (by assumption)) | (with_reducible apply upd_other (by first | assumption | exact Ne.symm (by assumption))) | (with_reducible refine' Kp.get (by assumption) ?_ (by first | assumption | exact Ne.symm (by assumption))) | (with_reducible apply Same.get (by assumption))); done)))
  | ((with_reducible apply q_dNInI); (focus ((repeat first | (with_reducible exact upd_same) | (with_reducible assumption) | (with_reducible apply upd_new (by assumption)) | (with_reducible apply upd_other (by first | assumption | exact Ne.symm (by assumption))) | (with_reducible refine' Kp.get (by assumption) ?_ (by first | assumption | exact Ne.symm (by assumption))) | (with_reducible apply Same.get (by assumption))); done)))
  | ((with_reducible apply q_bmL); (focus ((repeat first | (with_reducible exact upd_same) | (with_reducible assumption) | (with_reducible apply upd_new (by assumption)) | (with_reducible apply upd_other (by first | assumption | exact Ne.symm (by assumption))) | (with_reducible refine' Kp.get (by assumption) ?_ (by first | assumption | exact Ne.symm (by assumption))) | (with_reducible apply Same.get (by assumption))); done)))
  | ((with_reducible apply q_bmL0); (focus ((repeat first | (with_reducible exact upd_same) | (with_reducible assumption) | (with_reducible apply upd_new (by assumption)) | (with_reducible apply upd_other (by first | assumption | exact Ne.symm (by assumption))) | (with_reducible refine' Kp.get (by assumption) ?_ (by first | assumption | exact Ne.symm (by assumption))) | (with_reducible apply Same.get (by assumption))); done)))
  | ((with_reducible apply q_ixLt); (focus ((repeat first | (with_reducible exact upd_same) | (with_reducible assumption) | (with_reducible apply upd_new (by assumption)) | (with_reducible apply upd_other (by first | assumption | exact Ne.symm (by assumption))) | (with_reducible refine' Kp.get (by assumption) ?_ (by first | assumption | exact Ne.symm (by assumption))) | (with_reducible apply Same.get (by assumption))); done)); (focus (exact rfl)))
  | ((with_reducible apply q_ixTt); (focus ((repeat first | (with_reducible exact upd_same) | (with_reducible assumption) | (with_reducible apply upd_new (by assumption)) | (with_reducible apply upd_other (by first | assumption | exact Ne.symm (by assumption))) | (with_reducible refine' Kp.get (by assumption) ?_ (by first | assumption | exact Ne.symm (by assumption))) | (with_reducible apply Same.get (by assumption))); done)); (focus (exact rfl)))
  | ((with_reducible apply q_lenLt); (focus ((repeat first | (with_reducible exact upd_same) | (with_reducible assumption) | (with_reducible apply upd_new (by assumption)) | (with_reducible apply upd_other (by first | assumption | exact Ne.symm (by assumption))) | (with_reducible refine' Kp.get (by assumption) ?_ (by first | assumption | exact Ne.symm (by assumption))) | (with_reducible apply Same.get (by assumption))); done)))
  | ((with_reducible apply q_lenTt); (focus ((repeat first | (with_reducible exact upd_same) | (with_reducible assumption) | (with_reducible apply upd_new (by assumption)) | (with_reducible apply upd_other (by first | assumption | exact Ne.symm (by assumption))) | (with_reducible refine' Kp.get (by assumption) ?_ (by first | assumption | exact Ne.symm (by assumption))) | (with_reducible apply Same.get (by assumption))); done)))
  | ((with_reducible apply q_append); (focus ((repeat first | (with_reducible exact upd_same) | (with_reducible assumption) | (with_reducible apply upd_new (by assumption)) | (with_reducible apply upd_other (by first | assumption | exact Ne.symm (by assumption))) | (with_reducible refine' Kp.get (by assumption) ?_ (by first | assumption | exact Ne.symm (by assumption))) | (with_reducible apply Same.get (by assumption))); done)); (focus ((first | (exact Nat.lt_of_ble_eq_true rfl) | (simp only [List.length_append, List.length_cons, List.length_nil, List.length_map]; exact small1000 (by omega))))))
  | ((with_reducible apply q_setL); (focus ((repeat first | (with_reducible exact upd_same) | (with_reducible assumption) | (with_reducible apply upd_new (by assumption)) | (with_reducible apply upd_other (by first | assumption | exact Ne.symm (by assumption))) | (with_reducible refine' Kp.get (by assumption) ?_ (by first | assumption | exact Ne.symm (by assumption))) | (with_reducible apply Same.get (by assumption))); done)); (focus (exact rfl)))
  | with_reducible refine q_ifNT ?_
  | with_reducible refine q_ifNF ?_
  | with_reducible refine q_andNT ?_
  | with_reducible refine q_andNF ?_
  | with_reducible refine q_orNT ?_
  | with_reducible refine q_orNF ?_
  | with_reducible refine q_bKNT ?_
  | with_reducible refine q_bKNF ?_
  | with_reducible refine q_tNGet ?_
  | with_reducible refine q_tNIn ?_
  | with_reducible refine q_sNPut ?_
  | with_reducible refine q_sFldAug ?_
  | with_reducible refine q_sDAug ?_
  | with_reducible refine q_sDDel ?_
  | with_reducible refine q_forX ?_
  | with_reducible refine q_tMake ?_
  | ((with_reducible apply q_dG1a); (focus ((repeat first | (with_reducible exact upd_same) | (with_reducible assumption) | (with_reducible apply upd_new (by assumption)) | (with_reducible apply upd_other (by first | assumption | exact Ne.symm (by assumption))) | (with_reducible refine' Kp.get (by assumption) ?_ (by first | assumption | exact Ne.symm (by assumption))) | (with_reducible apply Same.get (by assumption))); done)))))
/-! the weight of seals -/
/-- has guard g sealed k, by these numbers? -/
def sealed (es : List En) (ns : List Nat) (g : Str) (k : NestedKey) : Bool := ns.any fun n => decide (es[n]? = some (g, k))
def wgt (es : List En) (ns : List Nat) (k : NestedKey) (gs : Gs) : Int := ((gs.filter fun g => sealed es ns g.1 k).map (·.2)).sum
def sp_weight (K : PySem.W.Frag) (P : Program) (w : World) (C : Addr) : Sp := fun vs H Q _ => ∃ (x tl nd g la sl : Addr) (es : List En) (ns : List Nat) (gv : List V) (gs : Gs) (k : NestedKey), vs = [.ref x, .ref g, .ref la, .ref sl] ∧ NotAt P w C H x tl nd es ∧ (H sl = some (.lst (ns.map fun n : Nat => V.int (n : Int))) ∨ H sl = some (.tup (ns.map fun n : Nat => V.int (n : Int)))) ∧ (∀ n ∈ ns, n < es.length) ∧ ns.length ≤ 900 ∧
  H g = some (.tup gv) ∧ PairsAt H gv gs ∧ gs.length ≤ 100 ∧ NV H k (.ref la) ∧ SeqAt.shaped k.data = true ∧ (∀ e ∈ es, SeqAt.shaped e.2.data = true) ∧ ∀ H', Same H H' → Q (.int (wgt es ns k gs)) H'
theorem no_cs : ("check_seals" : Str) ∉ notNames := by decide +kernel
/-- who is in the table of sealers -/
def SealT (kvs : List (Key × V)) (es : List En) (ns : List Nat) (k : NestedKey) : Prop := ∀ g : Str, (valV kvs (Sum.inr g)).isSome = sealed es ns g k
theorem sealed_snoc (es : List En) (ns : List Nat) (n : Nat) (g : Str) (k : NestedKey) : sealed es (ns ++ [n]) g k = (sealed es ns g k || decide (es[n]? = some (g, k))) := by
  unfold sealed
  rw [List.any_append, List.any_cons, List.any_nil, Bool.or_false]
theorem SealT.nil {es : List En} {k : NestedKey} : SealT [] es [] k := fun _ => rfl
theorem SealT.yes {kvs : List (Key × V)} {es : List En} {ns : List Nat} {k : NestedKey} {n : Nat} {e : En} {v : V} (h : SealT kvs es ns k) (he : es[n]? = some e) (hk : e.2 = k) : SealT (putK kvs (Sum.inr e.1) v) es (ns ++ [n]) k := fun g => by
  rw [L2.valV_put, sealed_snoc, he]
  by_cases q : (Sum.inr g : Key) = Sum.inr e.1
  · rw [if_pos q]
    have q := Sum.inr.inj q
    rw [decide_eq_true (show some e = some (g, k) by rw [q, ← hk])]
    simp
  · rw [if_neg q, h g, decide_eq_false (show ¬ some e = some (g, k) from fun z => q (by rw [show g = e.1 from by rw [Option.some.inj z]])), Bool.or_false]
theorem SealT.no {kvs : List (Key × V)} {es : List En} {ns : List Nat} {k : NestedKey} {n : Nat} {e : En} (h : SealT kvs es ns k) (he : es[n]? = some e) (hk : ¬ e.2 = k) : SealT kvs es (ns ++ [n]) k := fun g => by
  rw [sealed_snoc, he, h g, decide_eq_false (show ¬ some e = some (g, k) from fun z => hk (by rw [Option.some.inj z])), Bool.or_false]
theorem nat_at {ns : List Nat} {i : Nat} {v : V} (h : (ns.map fun n : Nat => V.int (n : Int))[i]? = some v) : ∃ n, ns[i]? = some n ∧ v = .int (n : Int) := by
  rw [List.getElem?_map] at h
  cases q : ns[i]? with
  | none => rw [q] at h; cases h
  | some n => rw [q] at h; exact ⟨n, rfl, (Option.some.inj h).symm⟩
theorem filter_st {α : Type} {p : α → Bool} {xs : List α} {x : α} (h : p x = true) : (xs ++ [x]).filter p = xs.filter p ++ [x] := by
  rw [List.filter_append, List.filter_cons_of_pos h]; rfl
theorem filter_sf {α : Type} {p : α → Bool} {xs : List α} {x : α} (h : p x = false) : (xs ++ [x]).filter p = xs.filter p := by
  rw [List.filter_append, List.filter_cons_of_neg (by rw [h]; exact Bool.false_ne_true), List.filter_nil, List.append_nil]
section
variable {K : PySem.W.Frag} {g : TG} {tb : TS} {D : Ends} {σ : L2.St} {H : Hp} {a : Addr} {S : List V} {n : Nat}
theorem q_forQ (hv : σ[n]? = some (some (.ref a))) (h : H a = some (.lst S) ∨ H a = some (.tup S)) (Pv : Nat → L2.St → Hp → Prop) (h0 : Pv 0 σ H) (hl : ∀ i σ' H', Pv i σ' H' → ∀ o, H a = some o → H' a = some o)
    (hs : ∀ i x σ H, S[i]? = some x → Pv i σ H → g x σ H fun σ2 H2 => tb { D with nx := Pv (i + 1), ct := Pv (i + 1), bk := D.nx } σ2 H2) (hd : ∀ σ H, Pv S.length σ H → D.nx σ H) : iSeq K (tVar n) σ H (forK g tb D σ) := by
  rcases h with h | h
  · exact q_iSeqL (q_var hv (q_forL (sqL h) Pv h0 (fun i σ' H' _ p => sqL (hl i σ' H' p _ h)) hs hd))
  · exact q_iSeqT (q_var hv (q_forT (sqT h) Pv h0 (fun i σ' H' _ p => sqT (hl i σ' H' p _ h)) hs hd))
end
section
variable {P : Program} {w : World} {K : PySem.W.Frag} {mg : Str → Option Value} {base : Heap}
theorem ok_Notary_weight (T : Txt K mg) : FnOk P w K mg base CX0 2 T.f_Notary_weight T.d_Notary_weight ["self", "guards", "letter", "seals"] (sp_weight K P w T.C_Notary) := by
  refine T.F_Notary_weight.ok sc_Notary_weight (fun vs H Q E h => ?_) (fun cdv A outer s H vs Q E hr h => ?_)
  · obtain ⟨x, tl, nd, g, la, sl, es, ns, gv, gs, k, rfl, _⟩ := h; rfl
  · obtain ⟨x, tl, nd, g, la, sl, es, ns, gv, gs, k, rfl, hN, hs, hns, hnl, hg, hP, hgl, hk, hsh, hse, kQ⟩ := h
    obtain ⟨dx, fs, xs, kvs, h1, h2, h3, h4, h5, h6, h7, h8, h9⟩ := hN.ex
    have hu := hu_of hr
    refine ⟨_, (pss_cons (ps_expr (pe_meth (pv 0) T.cl_Notary T.m_Notary_check_seals (ok_Notary_check_seals T) (hr.mono (by decide)) T.b_Notary_check_seals .nil pass0 (pa_cons (pv 3) pa_nil)))
      (pss_cons (ps_set (i := 4) sc_Notary_weight.nd rfl (Or.inr rfl) pe_dnewK)
      (pss_cons (ps_for PassesOwn.never rfl (pi_seq (pv 3)) (pg_name (i := 5) sc_Notary_weight.nd rfl (Or.inl rfl))
        (pss_cons (ps_asg (pe_ix ix_list (pe_fld (pv 0) rfl) (pv 5) (fun _ _ => rfl)) (pg_tup rfl (pgs_cons (pg_name (i := 6) sc_Notary_weight.nd rfl (Or.inl rfl)) (pgs_cons (pg_name (i := 7) sc_Notary_weight.nd rfl (Or.inl rfl)) pgs_nil))))
      (pss_one (ps_if (pt_cmpR (op_eqD hr.units) (pv 7) (pv 2) (nomark _)) (pss_one (ps_dput hu (pv 4) (pv 6) pe_bl rfl)) pss_nil))))
      (pss_one (ps_ret (pe_callB (cr_sum rfl) (by rfl) T.z_sum boot_sum (pa_cons (pe_lc (own := [("guard", 6), ("part", 8)]) (g := (gTup K 2 (gCons (gName 6) (gCons (gName 8) gNil)))) (tt := (tB (tDIn (tVar 6) (tVar 4)))) (te := (tVar 8)) rfl sc_Notary_weight.nd (pi_tup (pv 1)) (blkOk_by (own := [("guard", 6), ("part", 8)]) (N := ["self", "guards", "letter", "seals", "sealers", "number", "guard", "sealed", "part"]) (sc := defScope s_Notary_weight) (by decide +kernel)) (fun _ _ _ _ _ => (pg_tup rfl (pgs_cons (pg_name (i := 6) sc_Notary_weight.nd rfl (Or.inl rfl)) (pgs_cons (pg_name (i := 8) sc_Notary_weight.nd rfl (Or.inl rfl)) pgs_nil)))) (fun _ _ _ _ _ => (pts_one (pt_cmp (pc_din hu (pv 6) (pv 4))))) (fun _ _ _ _ _ => (pv 8))) pa_nil))))))), ?_⟩
    (dsimp only [cxOf, Cx.nox, Cx.wish, L2.start, List.map, List.length, List.replicate, List.cons_append, List.nil_append, List.append_eq, Nat.reduceSub, Nat.reduceAdd])
    walk_at "my_rd"
    refine q_methK h1 (h4 _ no_cs) fun R hR => ?_
    walk_at "my_rd"
    refine hR _ _ ⟨x, tl, nd, sl, es, ns, rfl, hN, hs, hns, ?_⟩
    walk_at "my_rd"
    refine q_dNew fun sd nsd => ?_
    have smS : Same H (upd H sd (.dK [])) := Same.up (Same.refl _) nsd
    have hsd : upd H sd (.dK []) sd = some (.dK []) := upd_same
    generalize upd H sd (.dK []) = H1 at smS hsd
    walk_at "my_rd"
    have kp0 : Kp sd H1 H1 := Kp.refl
    refine q_forQ rfl (hs.imp (smS _ _) (smS _ _)) (fun i σ H' => ∃ (v5 v6 v7 v8 : Option V) (sk : List (Key × V)), σ = [some (.ref x), some (.ref g), some (.ref la), some (.ref sl), some (.ref sd), v5, v6, v7, v8] ∧ Kp sd H1 H' ∧ H' sd = some (.dK sk) ∧ SealT sk es (ns.take i) k ∧ sk.length ≤ i)
      ⟨_, _, _, _, [], rfl, kp0, hsd, SealT.nil, Nat.le_refl _⟩ (fun i σ' H' ⟨_, _, _, _, _, _, kp, _⟩ o q => by
        rcases hs with hs | hs
        · exact kp.get q (ne_of_none hs nsd)
        · exact kp.get q (ne_of_none hs nsd)) ?_ ?_
    · rintro i v σ H2 hv ⟨v5, v6, v7, v8, sk, rfl, kp2, hsd2, hST, hkl⟩
      obtain ⟨n, hn, rfl⟩ := nat_at hv
      have hnm := hns n (List.mem_of_getElem? hn)
      have hil := (List.getElem?_eq_some_iff.mp hn).1
      obtain ⟨e, he⟩ : ∃ e, es[n]? = some e := ⟨_, List.getElem?_eq_getElem hnm⟩
      obtain ⟨a, lv, ha, hab0, hlv0⟩ := h6.at_ n e he
      have old : ∀ b o, H b = some o → H2 b = some o := fun b o q => kp2.get (smS _ _ q) (ne_of_none q nsd)
      have hab : H2 a = some (.tup [.str e.1, lv]) := old _ _ hab0
      have hlv : NV H2 e.2 lv := hlv0.mono fun b ys q => old _ _ q
      have hk2 : NV H2 k (.ref la) := hk.mono fun b ys q => old _ _ q
      walk_at "my_rd"
      refine q_fldK (old _ _ h1) T.cl_Notary T.n_Notary_table h2 ?_
      walk_at "my_rd"
      refine q_ixL (sqL (old _ _ h5)) (at_int (n := n) rfl ha) ?_
      refine q_gTup (sqT hab) rfl ?_
      walk_at "my_rd"
      refine q_eqD (d := e.2.data) (e := k.data) (hlv.tdp.dp (K := K)) (hk2.tdp.dp (K := K)) (hse e (List.mem_of_getElem? he)) hsh ?_
      rw [key_dec]
      walk_at "my_rd"
      by_cases hq : e.2 = k
      · rw [decide_eq_true hq]
        walk_at "my_rd"
        refine q_dPutS hsd2 (small1000 (by omega)) ?_
        walk_at "my_rd"
        refine ⟨_, _, _, _, _, rfl, Kp.upd kp2, upd_same, ?_, ?_⟩
        · rw [take_snoc hn]
          exact hST.yes he hq
        · unfold putK
          split
          · rw [List.length_map]; omega
          · rw [List.length_append]; show sk.length + 1 ≤ i + 1; omega
      · rw [decide_eq_false hq]
        walk_at "my_rd"
        refine ⟨_, _, _, _, sk, rfl, kp2, hsd2, ?_, by omega⟩
        rw [take_snoc hn]
        exact hST.no he hq
    · rintro σ H2 ⟨v5, v6, v7, v8, sk, rfl, kp2, hsd2, hST, hkl⟩
      rw [List.length_map, List.take_length] at hST
      have old : ∀ b o, H b = some o → H2 b = some o := fun b o q => kp2.get (smS _ _ q) (ne_of_none q nsd)
      have sm2 : Same H H2 := old
      walk_at "my_rd"
      refine q_lcT (sqT (old _ _ hg)) (fun D nD => ⟨fun j H' => Same H2 H' ∧ H' D = some (.lst ((((gs.take j).filter fun g => sealed es ns g.1 k).map (·.2)).map V.int)), ⟨Same.new (Same.refl _) nD, upd_same⟩, fun j H' _ h => sqT (h.1 _ _ (old _ _ hg)), ?_, ?_⟩)
      · rintro j w' H3 hw ⟨sm3, hD⟩
        obtain ⟨gg, b, hgg, rfl, hb0⟩ := hP.item hw
        have hb : H3 b = some (.tup [.str gg.1, .int gg.2]) := sm3 _ _ (old _ _ hb0)
        have hsd3 := sm3 _ _ hsd2
        refine q_gTup (sqT hb) rfl ?_
        walk_at "my_rd"
        refine ⟨rfl, ?_⟩
        walk_at "my_rd"
        rw [hST gg.1]
        have fl := List.length_filter_le (fun g : Str × Int => sealed es ns g.1 k) (gs.take j)
        rw [List.length_take] at fl
        refine q_keep2 (fun h => ?_) (fun h => ?_)
        · walk_at "my_rd"
          refine q_accK hD (by rw [List.length_map, List.length_map]; exact small1000 (by omega)) ⟨Same.new sm3 nD, ?_⟩
          rw [upd_same, take_snoc hgg, filter_st (p := fun g : Str × Int => sealed es ns g.1 k) h, List.map_append, List.map_append]
          rfl
        · refine ⟨sm3, ?_⟩
          rw [take_snoc hgg, filter_sf (p := fun g : Str × Int => sealed es ns g.1 k) h]
          exact hD
      · rintro H3 ⟨sm3, hD⟩
        rw [List.take_of_length_le (by rw [hP.len]; exact Nat.le_refl _)] at hD
        walk_at "my_rd"
        refine q_sum (sqL hD) ?_
        walk_at "my_rd"
        exact kQ _ (Same.trans sm2 sm3)
end

/-! letters as keys -/
theorem lays {α : Type} (f : α → PyData) (n : Nat) : ∀ xs : List α, (∀ x ∈ xs, (f x).canLay0 = true ∧ (f x).depth ≤ n) → PyData.canLayAll0 (xs.map f) = true ∧ PyData.depthAll (xs.map f) ≤ n
  | [], _ => ⟨by simp [PyData.canLayAll0], by simp [PyData.depthAll]⟩
  | x :: r, h => by
    obtain ⟨h1, h2⟩ := lays f n r fun y hy => h y (List.mem_cons_of_mem _ hy)
    obtain ⟨h3, h4⟩ := h x List.mem_cons_self
    exact ⟨by simp [PyData.canLayAll0, h1, h3], by simp only [List.map_cons, PyData.depthAll]; omega⟩
theorem shaped_of {d : PyData} (h1 : d.canLay0 = true) (h2 : d.depth ≤ 60) : SeqAt.shaped d = true := by
  show (d.canLay0 && decide (d.depth ≤ 64)) = true
  rw [h1, Bool.true_and, decide_eq_true_eq]
  omega
theorem shaped_l {α : Type} (f : α → PyData) (n : Nat) (hn : n ≤ 50) (xs : List α) (h : ∀ x ∈ xs, (f x).canLay0 = true ∧ (f x).depth ≤ n) : SeqAt.shaped (.list (xs.map f)) = true := by
  obtain ⟨h1, h2⟩ := lays f n xs h
  exact shaped_of (by simp only [PyData.canLay0]; exact h1) (by simp only [PyData.depth]; omega)
mutual
theorem key_depth : ∀ k : NestedKey, k.data.depth = k.depth
  | .none => by simp [NestedKey.data, NestedKey.depth, PyData.depth]
  | .num _ => by simp [NestedKey.data, NestedKey.depth, PyData.depth]
  | .text _ => by simp [NestedKey.data, NestedKey.depth, PyData.depth]
  | .tup ks => by simp only [NestedKey.data, NestedKey.depth, PyData.depth]; rw [keys_depth ks]
theorem keys_depth : ∀ ks : List NestedKey, PyData.depthAll (NestedKey.datas ks) = NestedKey.depthAll ks
  | [] => by simp [NestedKey.datas, NestedKey.depthAll, PyData.depthAll]
  | k :: r => by simp only [NestedKey.datas, NestedKey.depthAll, PyData.depthAll]; rw [key_depth k, keys_depth r]
end
mutual
theorem NV.of {K : PySem.W.Frag} {H : Hp} : ∀ (k : NestedKey) (v : V), TupDp K H v k.data → NV H k v
  | .none, v, h => by simp only [NestedKey.data] at h; cases h; exact .non
  | .num i, v, h => by simp only [NestedKey.data] at h; cases h; exact .int i
  | .text x, v, h => by simp only [NestedKey.data] at h; cases h; exact .str x
  | .tup ks, v, h => by simp only [NestedKey.data] at h; cases h with | tup h1 h2 => exact .tup h1 (NVs.of ks _ h2)
theorem NVs.of {K : PySem.W.Frag} {H : Hp} : ∀ (ks : List NestedKey) (vs : List V), TupAll K H vs (NestedKey.datas ks) → NVs H ks vs
  | [], vs, h => by simp only [NestedKey.datas] at h; cases h; exact .nil
  | k :: r, vs, h => by simp only [NestedKey.datas] at h; cases h with | cons h1 h2 => exact .cons (NV.of k _ h1) (NVs.of r _ h2)
end
def gk (g : Str × Int) : NestedKey := .tup [.text g.1, .num g.2]
theorem gk_data (g : Str × Int) : (gk g).data = prd g := by simp [gk, prd, NestedKey.data, NestedKey.datas]
theorem gks_data : ∀ gs : Gs, NestedKey.datas (gs.map gk) = gs.map prd
  | [] => by simp [NestedKey.datas]
  | g :: gs => by simp only [List.map_cons, NestedKey.datas]; rw [gk_data, gks_data gs]
def Tr.key (x : Tr) : NestedKey := .tup [.text x.tok, .num x.units, .num x.fee, .text x.snd, .text x.rcv, .num x.dl]
theorem Tr.key_data (x : Tr) : x.key.data = x.d := by simp [Tr.key, Tr.d, NestedKey.data, NestedKey.datas]
theorem prd_bd {g : Str × Int} (h1 : PyData.strOk g.1 = true) : (prd g).canLay0 = true ∧ (prd g).depth ≤ 1 := ⟨by simp [prd, PyData.canLay0, PyData.canLayAll0, h1], by simp [prd, PyData.depth, PyData.depthAll]⟩
theorem both_ok : PyData.strOk "both" = true := by decide +kernel
theorem LetD.key {k s : Str} {n : Int} {b : PyData} (h : LetD k s n b) : PyData.strOk s = true ∧ b.canLay0 = true ∧ b.depth ≤ 3 ∧ ∃ bk : NestedKey, bk.data = b := by
  cases h with
  | @rot _ gs hn hg =>
    obtain ⟨h1, h2⟩ := lays prd 1 gs fun g hm => prd_bd (names_ok _ (hg.nms g hm)).1
    exact ⟨both_ok, by simp only [PyData.canLay0]; exact h1, by simp only [PyData.depth]; omega, .tup (gs.map gk), by simp only [NestedKey.data]; rw [gks_data]⟩
  | stop hk hs hn => exact ⟨(sides_ok _ hs).2.1, by simp [PyData.canLay0, PyData.canLayAll0], by simp [PyData.depth, PyData.depthAll], .tup [], by simp [NestedKey.data, NestedKey.datas]⟩
  | @tr _ _ _ x hk hs hn hx =>
    refine ⟨(sides_ok _ hs).2.1, ?_, ?_, x.key, x.key_data⟩
    · simp [Tr.d, PyData.canLay0, PyData.canLayAll0, (toks_ok _ hx.t).2.1, (accs_ok _ hx.s).2.1, (accs_ok _ hx.r).2.1]
    · simp [Tr.d, PyData.depth, PyData.depthAll]
/-- a letter -/
structure LetOk (k : NestedKey) : Prop where
  d : letterD k.data = true
  f : FineL k.data
  l : k.data.canLay0 = true
  dep : k.data.depth ≤ 4
theorem LetOk.sh {k : NestedKey} (h : LetOk k) : SeqAt.shaped k.data = true := shaped_of h.l (by have := h.dep; omega)
theorem let_key {K : PySem.W.Frag} {H : Hp} {a : Addr} {kk s : Str} {n : Int} {bv : V} {bd : PyData} (ha : H a = some (.tup [.str kk, .str s, .int n, bv])) (hb : TupDp K H bv bd) (hl : LetD kk s n bd) (hk : kk ∈ kinds) : ∃ k, NV H k (.ref a) ∧ LetOk k := by
  obtain ⟨q1, q2, q3, bk, rfl⟩ := hl.key
  have e : (NestedKey.tup [.text kk, .text s, .num n, bk]).data = .tuple [.str kk, .str s, .int n, bk.data] := by simp [NestedKey.data, NestedKey.datas]
  refine ⟨.tup [.text kk, .text s, .num n, bk], .tup ha (.cons (.str _) (.cons (.str _) (.cons (.int _) (.cons (NV.of _ _ hb) .nil)))), ?_, ?_, ?_, ?_⟩
  · rw [e]; exact hl.ok
  · rw [e]; exact fineL4 rfl rfl trivial hl.fine (kinds_ok _ hk).2.2
  · rw [e]; simp [PyData.canLay0, PyData.canLayAll0, (kinds_ok _ hk).1, q1, q2]
  · rw [e]; simp only [PyData.depth, PyData.depthAll]; omega
theorem en_data (e : En) : e.k.data = .tuple [.str e.1, e.2.data] := by simp [En.k, NestedKey.data, NestedKey.datas]
theorem EnOk.of {g : Str} {k : NestedKey} (hg : PyData.strOk g = true) (hk : LetOk k) : EnOk (g, k) := by
  have e := en_data (g, k)
  have h1 : (En.k (g, k)).data.canLay0 = true := by rw [e]; simp [PyData.canLay0, PyData.canLayAll0, hg, hk.l]
  have h2 : (En.k (g, k)).data.depth ≤ 5 := by rw [e]; have := hk.dep; simp only [PyData.depth, PyData.depthAll]; omega
  exact ⟨shaped_of h1 (by omega), h1, by rw [← key_depth]; omega⟩
/-- letters in a list -/
structure Lets (H : Hp) (xs : List V) (ks : List NestedKey) : Prop where
  len : xs.length = ks.length
  at_ : ∀ (i : Nat) (k : NestedKey), ks[i]? = some k → ∃ a, xs[i]? = some (.ref a) ∧ NV H k (.ref a)
  ok : ∀ k ∈ ks, LetOk k
theorem Lets.nil {H : Hp} : Lets H [] [] := ⟨rfl, fun i e h => by simp at h, fun k h => by cases h⟩
theorem Lets.mono {H H' : Hp} {xs : List V} {ks : List NestedKey} (h : Lets H xs ks) (e : ∀ b ys, H b = some (.tup ys) → H' b = some (.tup ys)) : Lets H' xs ks :=
  ⟨h.len, fun i r hr => by obtain ⟨a, h1, h2⟩ := h.at_ i r hr; exact ⟨a, h1, h2.mono e⟩, h.ok⟩
theorem Lets.snoc {H : Hp} {xs : List V} {ks : List NestedKey} {a : Addr} {k : NestedKey} (h : Lets H xs ks) (hv : NV H k (.ref a)) (ho : LetOk k) : Lets H (xs ++ [.ref a]) (ks ++ [k]) := by
  refine ⟨by rw [List.length_append, List.length_append, h.len]; rfl, fun i g hg => ?_, fun q hq => ?_⟩
  · by_cases hi : i < ks.length
    · rw [List.getElem?_append_left hi] at hg
      rw [List.getElem?_append_left (by rw [h.len]; exact hi)]
      exact h.at_ i g hg
    · have hi' : i = ks.length := by
        have := (List.getElem?_eq_some_iff.mp hg).1
        rw [List.length_append] at this
        simp at this
        omega
      subst hi'
      rw [List.getElem?_append_right (Nat.le_refl _)] at hg
      simp at hg
      subst hg
      refine ⟨a, ?_, hv⟩
      rw [List.getElem?_append_right (by rw [h.len]; exact Nat.le_refl _), h.len]
      simp
  · rcases List.mem_append.mp hq with m | m
    · exact h.ok q m
    · rw [List.mem_singleton.mp m]; exact ho
theorem Ents.tail {H : Hp} {x : V} {xs : List V} {e : En} {es : List En} (h : Ents H (x :: xs) (e :: es)) : Ents H xs es :=
  ⟨by have := h.len; simpa using this, fun i g hg => by have := h.at_ (i + 1) g (by simpa using hg); simpa using this⟩
theorem Ents.dp {K : PySem.W.Frag} {H : Hp} : ∀ {xs : List V} {es : List En}, Ents H xs es → DpAll K H xs (es.map fun e => e.k.data)
  | [], [], _ => .nil
  | [], e :: es, h => by have := h.len; simp at this
  | x :: xs, [], h => by have := h.len; simp at this
  | x :: xs, e :: es, h => by
    obtain ⟨a, lv, h1, h2, h3⟩ := h.at_ 0 e rfl
    obtain rfl : x = .ref a := by simpa using h1
    exact .cons (en_nv h2 h3).tdp.dp (Ents.dp h.tail)
theorem any_mem (es : List En) (e : En) : ((es.map fun f => f.k.data).any fun z => PyData.eqv z e.k.data) = decide (e ∈ es) := by
  rw [Bool.eq_iff_iff, List.any_eq_true, decide_eq_true_eq]
  constructor
  · rintro ⟨z, hz, q⟩
    obtain ⟨f, hf, rfl⟩ := List.mem_map.mp hz
    rw [key_dec] at q
    rw [← En.k_inj (of_decide_eq_true q)]
    exact hf
  · intro m
    exact ⟨_, List.mem_map.mpr ⟨e, m, rfl⟩, by rw [key_dec]; exact decide_eq_true rfl⟩
theorem en_dec (e f : En) : PyData.eqv e.k.data f.k.data = decide (e = f) := by
  rw [key_dec]
  exact decide_eq_decide.mpr ⟨fun h => En.k_inj h, fun h => by rw [h]⟩
/-! what stays -/
theorem PotAt.lst {H : Hp} {p l : Addr} (h : PotAt H p l) : ∃ xs, H p = some (.lst xs) := by
  obtain ⟨ns, i, c, s, h1, _⟩ := h; exact ⟨_, h1⟩
theorem tup_kp {H H' : Hp} {q : Addr} {ys : List V} (hq : H q = some (.lst ys)) (k : Kp q H H') : ∀ b zs, H b = some (HO.tup zs) → H' b = some (.tup zs) := fun b zs z => k.get z (ne_of z hq (by intro q; cases q))
theorem NotAt.out {P : Program} {w : World} {C x tl nd q : Addr} {H H' : Hp} {es : List En} {ys : List V} (h : NotAt P w C H x tl nd es) (hq : H q = some (.lst ys)) (n : tl ≠ q) (k : Kp q H H') : NotAt P w C H' x tl nd es := by
  obtain ⟨dx, fs, xs, kvs, h1, h2, h3, h4, h5, h6, h7, h8, h9⟩ := h.ex
  have t := tup_kp hq k
  exact ⟨⟨dx, fs, xs, kvs, k.get h1 (ne_of h1 hq (by intro z; cases z)), h2, h3, h4, k.get h5 n, h6.mono t, k.get h7 (ne_of h7 hq (by intro z; unfold DN at z; cases z)), h8.mono t, h9⟩, h.nd, h.ok⟩
/-- what differs -/
structure Dj (p l tl tb L : Addr) : Prop where
  tlp : tl ≠ p
  tll : tl ≠ l
  tbp : tb ≠ p
  tbl : tb ≠ l
  lp : L ≠ p
  ltl : L ≠ tl
  ltb : L ≠ tb
  tbtl : tb ≠ tl
/-- what the law keeps -/
structure NI (P : Program) (w : World) (C p l x tl nd tb L g : Addr) (es : List En) (ks : List NestedKey) (gs : Gs) (H : Hp) : Prop where
  pot : PotAt H p l
  nt : NotAt P w C H x tl nd es
  tb : ∃ xs, H tb = some (.lst xs) ∧ Ents H xs es
  lt : ∃ ls, H L = some (.lst ls) ∧ Lets H ls ks
  gd : ∃ gv, H g = some (.tup gv) ∧ PairsAt H gv gs
section
variable {P : Program} {w : World} {C p l x tl nd tb L g : Addr} {es : List En} {ks : List NestedKey} {gs : Gs} {H H' : Hp}
theorem NI.same (h : NI P w C p l x tl nd tb L g es ks gs H) (e : Same H H') : NI P w C p l x tl nd tb L g es ks gs H' := by
  obtain ⟨xs, b1, b2⟩ := h.tb
  obtain ⟨ls, l1, l2⟩ := h.lt
  obtain ⟨gv, g1, g2⟩ := h.gd
  exact ⟨h.pot.same e, h.nt.same e, ⟨xs, e _ _ b1, b2.same e⟩, ⟨ls, e _ _ l1, l2.mono fun b ys z => e _ _ z⟩, ⟨gv, e _ _ g1, g2.mono fun b ys z => e _ _ z⟩⟩
theorem NI.next (h : NI P w C p l x tl nd tb L g es ks gs H) (d : Dj p l tl tb L) (k : Kp p H H') (pot : PotAt H' p l) : NI P w C p l x tl nd tb L g es ks gs H' := by
  obtain ⟨xs, b1, b2⟩ := h.tb
  obtain ⟨ls, l1, l2⟩ := h.lt
  obtain ⟨gv, g1, g2⟩ := h.gd
  obtain ⟨ys, hp⟩ := h.pot.lst
  have t := tup_kp hp k
  exact ⟨pot, h.nt.out hp d.tlp k, ⟨xs, k.get b1 d.tbp, b2.mono t⟩, ⟨ls, k.get l1 d.lp, l2.mono t⟩, ⟨gv, t _ _ g1, g2.mono t⟩⟩
/-- a seal is added to the notary and to the table -/
theorem NI.add {e : En} {a : Addr} {xs : List V} {lv : V} (h : NI P w C p l x tl nd tb L g es ks gs H) (d : Dj p l tl tb L) (h2 : NotAt P w C H' x tl nd (es ++ [e])) (hf : ∀ b o, H b = some o → b ≠ tl → b ≠ nd → b ≠ tb → H' b = some o)
    (hb : H' tb = some (.lst (xs ++ [.ref a]))) (hx : Ents H xs es) (ha : H a = some (.tup [.str e.1, lv])) (hl : NV H e.2 lv) : NI P w C p l x tl nd tb L g (es ++ [e]) ks gs H' := by
  obtain ⟨xs', b1, b2⟩ := h.tb
  obtain ⟨ls, l1, l2⟩ := h.lt
  obtain ⟨gv, g1, g2⟩ := h.gd
  obtain ⟨dx, fs, xs2, kvs, h1, _, _, _, h5, _, h7, _, _⟩ := h.nt.ex
  have t : ∀ b ys, H b = some (HO.tup ys) → H' b = some (.tup ys) := fun b ys z => hf b _ z (ne_of z h5 (by intro q; cases q)) (ne_of z h7 (by intro q; unfold DN at q; cases q)) (ne_of z b1 (by intro q; cases q))
  refine ⟨?_, h2, ⟨_, hb, (hx.mono t).snoc (t _ _ ha) (hl.mono t)⟩, ⟨ls, hf _ _ l1 d.ltl (ne_of l1 h7 (by intro q; unfold DN at q; cases q)) d.ltb, l2.mono t⟩, ⟨gv, t _ _ g1, g2.mono t⟩⟩
  obtain ⟨ns, i, c, s, p1, p2, r⟩ := h.pot
  exact ⟨ns, i, c, s, hf _ _ p1 d.tlp.symm (ne_of p1 h7 (by intro q; unfold DN at q; cases q)) d.tbp.symm, hf _ _ p2 d.tll.symm (ne_of p2 h7 (by intro q; unfold DN at q; cases q)) d.tbl.symm, r⟩
end
/-! the law's own comparison: plain values, and lists of them -/
def scV : V → Bool
  | .non => true
  | .bl _ => true
  | .int _ => true
  | .str _ => true
  | _ => false
theorem scV_ty {K : PySem.W.Frag} {H : Hp} {x : V} (h : scV x = true) : (x = .non ∧ TyX K H x (.type "NoneType")) ∨ (∃ b, x = .bl b ∧ TyX K H x (.type "bool")) ∨ (∃ i, x = .int i ∧ TyX K H x (.type "int")) ∨ (∃ s, x = .str s ∧ TyX K H x (.type "str")) := by
  cases x with
  | non => exact .inl ⟨rfl, .base .non⟩
  | bl b => exact .inr (.inl ⟨b, rfl, .base (.bl b)⟩)
  | int i => exact .inr (.inr (.inl ⟨i, rfl, .base (.int i)⟩))
  | str s => exact .inr (.inr (.inr ⟨s, rfl, .base (.str s)⟩))
  | byt => cases h
  | flt => cases h
  | ref => cases h
  | ty => cases h
theorem q_is {K : PySem.W.Frag} {H : Hp} {Q : VK} {x : V} {t : String} {n : String} {b : Bool} (ht : TyX K H x (.type t)) (hk : kitB t n = some b) (k : Q (.bl b) H) : rIsi K [x, .ty n] H Q := q_isi ht (kit_ty hk) k
def sp_isint (K : PySem.W.Frag) : Sp := fun vs H Q _ => ∃ x : V, vs = [x] ∧ scV x = true ∧ Q (.bl (match x with | .int _ => true | _ => false)) H
section
variable {P : Program} {w : World} {K : PySem.W.Frag} {mg : Str → Option Value} {base : Heap}
theorem ok_L_is_int (T : Txt K mg) : FnOk P w K mg base CX0 1 T.f_L_is_int T.d_L_is_int ["value"] (sp_isint K) := by
  refine T.F_L_is_int.ok sc_L_is_int (fun vs H Q E h => ?_) (fun cdv A outer s H vs Q E hr h => ?_)
  · obtain ⟨x, rfl, _⟩ := h; rfl
  · obtain ⟨x, rfl, hx, k⟩ := h
    refine ⟨_, (pss_one (ps_ret (pe_and (pe_callB call_isi (by rfl) T.z_isinstance boot_isinstance (pa_cons (pv 0) (pa_cons (pe_bltn (v := .ty "int") (by rfl) T.z_int boot_int rfl) pa_nil))) (pe_one (pe_not (pe_callB call_isi (by rfl) T.z_isinstance boot_isinstance (pa_cons (pv 0) (pa_cons (pe_bltn (v := .ty "bool") (by rfl) T.z_bool boot_bool rfl) pa_nil)))))))), ?_⟩
    (dsimp only [cxOf, Cx.nox, Cx.wish, L2.start, List.map, List.length, List.replicate, List.cons_append, List.nil_append, List.append_eq, Nat.reduceSub, Nat.reduceAdd])
    walk_at "my_rd"
    rcases scV_ty (K := K) (H := H) hx with ⟨rfl, ht⟩ | ⟨b, rfl, ht⟩ | ⟨i, rfl, ht⟩ | ⟨z, rfl, ht⟩
    · refine q_is ht (b := false) (by decide +kernel) ?_
      walk_at "my_rd"
      exact k
    · refine q_is ht (b := true) (by decide +kernel) ?_
      walk_at "my_rd"
      refine q_is ht (b := true) (by decide +kernel) ?_
      walk_at "my_rd"
      exact k
    · refine q_is ht (b := true) (by decide +kernel) ?_
      walk_at "my_rd"
      refine q_is ht (b := false) (by decide +kernel) ?_
      walk_at "my_rd"
      exact k
    · refine q_is ht (b := false) (by decide +kernel) ?_
      walk_at "my_rd"
      exact k
end
theorem EnOk.sh {e : En} (h : EnOk e) : SeqAt.shaped e.2.data = true := by
  have h1 := h.l
  have h2 := h.d
  rw [← key_depth] at h2
  rw [en_data] at h1 h2
  refine shaped_of ?_ ?_
  · simp [PyData.canLay0, PyData.canLayAll0] at h1; exact h1.2
  · simp only [PyData.depth, PyData.depthAll] at h2; omega
theorem EnOk.dep {e : En} (h : EnOk e) : e.k.data.depth ≤ 8 := by rw [key_depth]; exact h.d
theorem wgt_t {es : List En} {ns : List Nat} {k : NestedKey} {gs : Gs} {g : Str × Int} (h : sealed es ns g.1 k = true) : wgt es ns k (gs ++ [g]) = wgt es ns k gs + g.2 := by
  unfold wgt
  rw [filter_st (p := fun g : Str × Int => sealed es ns g.1 k) h, List.map_append, List.sum_append]
  simp
theorem wgt_f {es : List En} {ns : List Nat} {k : NestedKey} {gs : Gs} {g : Str × Int} (h : sealed es ns g.1 k = false) : wgt es ns k (gs ++ [g]) = wgt es ns k gs := by
  unfold wgt
  rw [filter_sf (p := fun g : Str × Int => sealed es ns g.1 k) h]
theorem any_sealed (es : List En) (ns : List Nat) (g : Str) (k : NestedKey) : (ns.map fun n => decide (es[n]? = some (g, k))).any id = sealed es ns g k := by
  rw [List.any_map]
  rfl
section
variable {P : Program} {w : World} {C p l x tl nd tb L g : Addr} {es : List En} {ks : List NestedKey} {gs : Gs} {H H' : Hp}
theorem NI.ne (h : NI P w C p l x tl nd tb L g es ks gs H) {S : Addr} (n : H S = none) : S ≠ p ∧ S ≠ l ∧ S ≠ tl ∧ S ≠ tb ∧ S ≠ L := by
  obtain ⟨xs, b1, b2⟩ := h.tb
  obtain ⟨ls, l1, l2⟩ := h.lt
  obtain ⟨dx, fs, xs2, kvs, h1, _, _, _, h5, _⟩ := h.nt.ex
  exact ⟨h.pot.nep n, h.pot.nel n, (ne_of_none h5 n).symm, (ne_of_none b1 n).symm, (ne_of_none l1 n).symm⟩
theorem NI.lst (h : NI P w C p l x tl nd tb L g es ks gs H) {S : Addr} {ys zs : List V} (hS : H S = some (.lst ys)) (n : S ≠ p ∧ S ≠ l ∧ S ≠ tl ∧ S ≠ tb ∧ S ≠ L) : NI P w C p l x tl nd tb L g es ks gs (upd H S (.lst zs)) := by
  obtain ⟨xs, b1, b2⟩ := h.tb
  obtain ⟨ls, l1, l2⟩ := h.lt
  obtain ⟨gv, g1, g2⟩ := h.gd
  have kp : Kp S H (upd H S (.lst zs)) := Kp.upd Kp.refl
  have t := tup_kp hS kp
  exact ⟨h.pot.upd n.1 n.2.1, h.nt.out hS n.2.2.1.symm kp, ⟨xs, kp.get b1 n.2.2.2.1.symm, b2.mono t⟩, ⟨ls, kp.get l1 n.2.2.2.2.symm, l2.mono t⟩, ⟨gv, t _ _ g1, g2.mono t⟩⟩
/-- a letter of the list -/
theorem NI.letter (h : NI P w C p l x tl nd tb L g es ks gs H) {i : Int} (h0 : 0 ≤ i) (h1 : i < ks.length) : ∃ ls la k, H L = some (.lst ls) ∧ atI ls i = some (.ref la) ∧ NV H k (.ref la) ∧ LetOk k := by
  obtain ⟨ls, l1, l2⟩ := h.lt
  have hk : ks[i.toNat]? = some ks[i.toNat] := List.getElem?_eq_getElem (by omega)
  obtain ⟨la, q1, q2⟩ := l2.at_ _ _ hk
  exact ⟨ls, la, _, l1, at_int (n := i.toNat) (by omega) q1, q2, l2.ok _ (List.mem_of_getElem? hk)⟩
end
theorem nms7 : ∀ k : Nat, k < 7 → PyData.strOk (nm k) = true := by decide +kernel

/-! machines -/
inductive Stp
  | wr (e : NestedKey)
  | fl
  | se (k : NestedKey)
def Stp.isSe : Stp → Bool
  | .se _ => true
  | _ => false
inductive StpAt (H : Hp) : V → Stp → Prop
  | wr {a : Addr} {v : V} {e : NestedKey} : H a = some (.tup [.str "write", v]) → NV H e v → StpAt H (.ref a) (.wr e)
  | fl {a : Addr} : H a = some (.tup [.str "flush"]) → StpAt H (.ref a) .fl
  | se {a la : Addr} {k : NestedKey} : H a = some (.tup [.str "seal", .ref la]) → NV H k (.ref la) → LetOk k → StpAt H (.ref a) (.se k)
theorem StpAt.mono {H H' : Hp} {v : V} {s : Stp} (h : StpAt H v s) (e : ∀ b ys, H b = some (HO.tup ys) → H' b = some (.tup ys)) : StpAt H' v s := by
  cases h with
  | wr h1 h2 => exact .wr (e _ _ h1) (h2.mono e)
  | fl h1 => exact .fl (e _ _ h1)
  | se h1 h2 h3 => exact .se (e _ _ h1) (h2.mono e) h3
def StpsAt (H : Hp) (vs : List V) (ss : List Stp) : Prop := vs.length = ss.length ∧ ∀ (i : Nat) (s : Stp), ss[i]? = some s → ∃ v, vs[i]? = some v ∧ StpAt H v s
theorem StpsAt.mono {H H' : Hp} {vs : List V} {ss : List Stp} (h : StpsAt H vs ss) (e : ∀ b ys, H b = some (HO.tup ys) → H' b = some (.tup ys)) : StpsAt H' vs ss :=
  ⟨h.1, fun i s q => by obtain ⟨v, h1, h2⟩ := h.2 i s q; exact ⟨v, h1, h2.mono e⟩⟩
theorem StpsAt.take {H : Hp} {vs : List V} {ss : List Stp} (h : StpsAt H vs ss) (n : Nat) : StpsAt H (vs.take n) (ss.take n) := by
  refine ⟨by rw [List.length_take, List.length_take, h.1], fun i s q => ?_⟩
  rw [List.getElem?_take] at q
  by_cases hi : i < n
  · rw [if_pos hi] at q
    obtain ⟨v, h1, h2⟩ := h.2 i s q
    exact ⟨v, by rw [List.getElem?_take, if_pos hi]; exact h1, h2⟩
  · rw [if_neg hi] at q; cases q
structure MS where
  js : List NestedKey
  f : Nat
  es : List En
def MS.step (g : Str) (S : MS) : Stp → MS
  | .wr e => { S with js := S.js ++ [e] }
  | .fl => { S with f := S.js.length }
  | .se k => if (pl S.es (g, k)).isSome = true then S else { S with es := S.es ++ [(g, k)] }
def MS.run (g : Str) (S : MS) (ss : List Stp) : MS := ss.foldl (MS.step g) S
theorem MS.step_len (g : Str) (S : MS) (s : Stp) : (S.step g s).js.length ≤ S.js.length + 1 ∧ (S.step g s).es.length ≤ S.es.length + 1 := by
  cases s with
  | wr e => exact ⟨by simp [MS.step], by simp [MS.step]⟩
  | fl => exact ⟨by simp [MS.step], by simp [MS.step]⟩
  | se k =>
    show (if (pl S.es (g, k)).isSome = true then S else { S with es := S.es ++ [(g, k)] }).js.length ≤ _ ∧ (if (pl S.es (g, k)).isSome = true then S else { S with es := S.es ++ [(g, k)] }).es.length ≤ _
    by_cases h : (pl S.es (g, k)).isSome = true
    · rw [if_pos h]; omega
    · rw [if_neg h]; exact ⟨by simp, by simp⟩
theorem MS.run_len (g : Str) : ∀ (ss : List Stp) (S : MS), (S.run g ss).js.length ≤ S.js.length + ss.length ∧ (S.run g ss).es.length ≤ S.es.length + ss.length
  | [], S => ⟨Nat.le_refl _, Nat.le_refl _⟩
  | s :: ss, S => by
    have h1 := S.step_len g s
    have h2 := MS.run_len g ss (S.step g s)
    have e : S.run g (s :: ss) = (S.step g s).run g ss := rfl
    rw [e, List.length_cons]
    omega
theorem take_next {α : Type} {xs : List α} {i : Nat} {x : α} (h : xs[i]? = some x) : xs.take (i + 1) = xs.take i ++ [x] := by
  rw [List.take_succ, h]; rfl
theorem MS.run_next {g : Str} {S : MS} {ss : List Stp} {i : Nat} {s : Stp} (h : ss[i]? = some s) : S.run g (ss.take (i + 1)) = (S.run g (ss.take i)).step g s := by
  rw [take_next h]
  unfold MS.run
  rw [List.foldl_append]; rfl
def mcNames : List Str := ["_name", "_notary", "_notes"]
structure McA where
  m : Addr
  x : Addr
  tl : Addr
  nd : Addr
  nt : Addr
  l : Addr
structure McAt (P : Program) (w : World) (Cm Cn Cy : Addr) (H : Hp) (A : McA) (g : Str) (S : MS) : Prop where
  ex : ∃ dx fs, H A.m = some (.ins Cm dx fs) ∧ fs.lookup ("_name" : Str) = some (.str g) ∧ fs.lookup ("_notary" : Str) = some (.ref A.x) ∧ fs.lookup ("_notes" : Str) = some (.ref A.nt) ∧ ∀ m : Str, m ∉ mcNames → fs.lookup m = none
  no : NotAt P w Cy H A.x A.tl A.nd S.es
  nt : ∃ xs, NtAt Cn H A.nt A.l xs S.f ∧ NVs H S.js xs
  n1 : A.x ≠ A.nt
  n2 : A.m ≠ A.nt
  n3 : A.l ≠ A.tl
theorem NotAt.of {P : Program} {w : World} {C x tl nd : Addr} {H H' : Hp} {es : List En} (h : NotAt P w C H x tl nd es) (t : ∀ b ys, H b = some (HO.tup ys) → H' b = some (.tup ys)) (e1 : ∀ o, H x = some o → H' x = some o) (e2 : ∀ o, H tl = some o → H' tl = some o) (e3 : ∀ o, H nd = some o → H' nd = some o) : NotAt P w C H' x tl nd es := by
  obtain ⟨dx, fs, xs, kvs, h1, h2, h3, h4, h5, h6, h7, h8, h9⟩ := h.ex
  exact ⟨⟨dx, fs, xs, kvs, e1 _ h1, h2, h3, h4, e2 _ h5, h6.mono t, e3 _ h7, h8.mono t, h9⟩, h.nd, h.ok⟩
def Fr (A : McA) (H H' : Hp) : Prop := ∀ b o, H b = some o → b ≠ A.l → b ≠ A.nt → b ≠ A.tl → b ≠ A.nd → H' b = some o
section
variable {P : Program} {w : World} {Cm Cn Cy : Addr} {H H' : Hp} {A : McA} {g : Str} {S : MS}
theorem McAt.of (h : McAt P w Cm Cn Cy H A g S) (t : ∀ b ys, H b = some (HO.tup ys) → H' b = some (.tup ys)) (e : ∀ b o, H b = some o → b = A.m ∨ b = A.x ∨ b = A.tl ∨ b = A.nd ∨ b = A.nt ∨ b = A.l → H' b = some o) : McAt P w Cm Cn Cy H' A g S := by
  obtain ⟨dx, fs, h1, h2, h3, h4, h5⟩ := h.ex
  obtain ⟨xs, n1, n2⟩ := h.nt
  exact ⟨⟨dx, fs, e _ _ h1 (.inl rfl), h2, h3, h4, h5⟩, h.no.of t (fun o q => e _ o q (.inr (.inl rfl))) (fun o q => e _ o q (.inr (.inr (.inl rfl)))) (fun o q => e _ o q (.inr (.inr (.inr (.inl rfl))))), ⟨xs, n1.kp (fun o q => e _ o q (.inr (.inr (.inr (.inr (.inl rfl)))))) (fun o q => e _ o q (.inr (.inr (.inr (.inr (.inr rfl)))))), n2.mono t⟩, h.n1, h.n2, h.n3⟩
theorem McAt.same (h : McAt P w Cm Cn Cy H A g S) (e : Same H H') : McAt P w Cm Cn Cy H' A g S := h.of (fun b ys q => e _ _ q) fun b o q _ => e _ _ q
/-- what is not tuple stays out of the way of tuples -/
theorem McAt.fr (h : McAt P w Cm Cn Cy H A g S) (f : Fr A H H') : ∀ b ys, H b = some (HO.tup ys) → H' b = some (.tup ys) := fun b ys q => by
  obtain ⟨xs, n1, n2⟩ := h.nt
  obtain ⟨dx, fs, k1, _, _, _, _, k6⟩ := n1.ex
  obtain ⟨_, _, _, _, _, _, _, _, h5, _, h7, _⟩ := h.no.ex
  exact f b _ q (ne_of q k6 (by intro z; cases z)) (ne_of q k1 (by intro z; cases z)) (ne_of q h5 (by intro z; cases z)) (ne_of q h7 (by intro z; unfold DN at z; cases z))
theorem McAt.free (h : McAt P w Cm Cn Cy H A g S) {q : Addr} (n : H q = none) : ∀ b, b = A.m ∨ b = A.x ∨ b = A.tl ∨ b = A.nd ∨ b = A.nt ∨ b = A.l → b ≠ q := by
  obtain ⟨xs, n1, n2⟩ := h.nt
  obtain ⟨dx, fs, k1, _, _, _, _, k6⟩ := n1.ex
  obtain ⟨_, _, _, _, h1, _, _, _, h5, _, h7, _⟩ := h.no.ex
  obtain ⟨_, _, m1, _⟩ := h.ex
  rintro b (rfl | rfl | rfl | rfl | rfl | rfl)
  · exact ne_of_none m1 n
  · exact ne_of_none h1 n
  · exact ne_of_none h5 n
  · exact ne_of_none h7 n
  · exact ne_of_none k1 n
  · exact ne_of_none k6 n
end
theorem NVs.snoc {H : Hp} {k : NestedKey} {v : V} (hv : NV H k v) : ∀ {ks : List NestedKey} {vs : List V}, NVs H ks vs → NVs H (ks ++ [k]) (vs ++ [v])
  | _, _, .nil => .cons hv .nil
  | _, _, .cons a b => .cons a (NVs.snoc hv b)
theorem NVs.take {H : Hp} : ∀ (n : Nat) {ks : List NestedKey} {vs : List V}, NVs H ks vs → NVs H (ks.take n) (vs.take n)
  | 0, _, _, _ => by simp only [List.take_zero]; exact .nil
  | n + 1, _, _, .nil => by simp only [List.take_nil]; exact .nil
  | n + 1, _, _, .cons a b => by simp only [List.take_succ_cons]; exact .cons a (NVs.take n b)
theorem NVs.length {H : Hp} : ∀ {ks : List NestedKey} {vs : List V}, NVs H ks vs → ks.length = vs.length
  | _, _, .nil => rfl
  | _, _, .cons a b => congrArg (· + 1) (NVs.length b)
theorem cut_any {xs : List V} (n : Nat) : cutV xs none (some (n : Int)) = xs.take n := by
  unfold cutV
  rw [HT.sIx_none, show HT.sIx xs.length xs.length (some (n : Int)) = min n xs.length from HT.sIx_nat xs.length xs.length n, List.drop_zero, Nat.sub_zero]
  by_cases h : n ≤ xs.length
  · rw [Nat.min_eq_left h]
  · rw [Nat.min_eq_right (by omega), List.take_of_length_le (Nat.le_refl _), List.take_of_length_le (by omega)]
def sp_mcI (Cm Cn Cy : Addr) (P : Program) (w : World) : Sp := fun vs H Q _ => ∃ (m dm x tl nd : Addr) (g : Str) (es : List En), vs = [.ref m, .str g, .ref x] ∧ H m = some (.ins Cm dm []) ∧ NotAt P w Cy H x tl nd es ∧ x ≠ m ∧
  ∀ (nt l : Addr) (H' : Hp), H nt = none → H l = none → McAt P w Cm Cn Cy H' ⟨m, x, tl, nd, nt, l⟩ g ⟨[], 0, es⟩ → Kp m H H' → Q .non H'
def sp_mcJ (P : Program) (w : World) (Cm Cn Cy : Addr) : Sp := fun vs H Q _ => ∃ (A : McA) (g : Str) (S : MS), vs = [.ref A.m] ∧ McAt P w Cm Cn Cy H A g S ∧ ∀ q xs, H q = none → NVs H S.js xs → Q (.ref q) (upd H q (.lst xs))
def sp_mcC (P : Program) (w : World) (Cm Cn Cy : Addr) : Sp := fun vs H Q _ => ∃ (A : McA) (g : Str) (S : MS) (n : Nat), vs = [.ref A.m, .int n] ∧ McAt P w Cm Cn Cy H A g S ∧
  ∀ H', McAt P w Cm Cn Cy H' A g { S with js := S.js.take (max S.f (S.js.length - n)) } → Kp A.l H H' → Q .non H'
def sp_mcO (P : Program) (w : World) (Cm Cn Cy : Addr) : Sp := fun vs H Q _ => ∃ (A : McA) (g : Str) (S : MS) (sl : Addr) (svs : List V) (ss : List Stp) (c : Nat), vs = [.ref A.m, .ref sl, .int c] ∧ McAt P w Cm Cn Cy H A g S ∧ PyData.strOk g = true ∧
  H sl = some (.lst svs) ∧ StpsAt H svs ss ∧ S.js.length + ss.length ≤ 890 ∧ S.es.length + ss.length ≤ 890 ∧ ∀ (q : Addr) (H' : Hp) (ns : List Nat), H q = none → H' q = some (.lst (ns.map fun n : Nat => V.int (n : Int))) → ns.length = ((ss.take c).filter Stp.isSe).length →
  McAt P w Cm Cn Cy H' A g (S.run g (ss.take c)) → Fr A H H' → Q (.ref q) H'
theorem no_mc : ("rows" : Str) ∉ ntNames ∧ ("add" : Str) ∉ ntNames ∧ ("flush" : Str) ∉ ntNames ∧ ("crash" : Str) ∉ ntNames ∧ ("seal" : Str) ∉ notNames := by decide +kernel

local macro_rules | `(tactic| walk_at "my_rd") => `(tactic| (repeat first
  | with_reducible refine q_tCons ?_
  | ((with_reducible apply q_var); (focus (exact rfl)))
  | with_reducible refine q_c ?_
  | ((with_reducible apply q_nxE); (focus (with_reducible exact rfl)))
  | with_reducible refine q_bK ?_
  | with_reducible refine q_call ?_
  | with_reducible refine q_callK ?_
  | with_reducible refine q_tNil ?_
  | with_reducible refine q_cb ?_
  | with_reducible refine q_seq ?_
  | with_reducible refine q_asg ?_
  | with_reducible refine q_gName ?_
  | with_reducible refine q_op ?_
  | with_reducible refine q_test ?_
  | with_reducible refine q_tB ?_
  | with_reducible refine q_ifS ?_
  | with_reducible refine q_ret ?_
  | ((with_reducible apply q_rtE); (focus (with_reducible exact rfl)))
  | with_reducible refine q_next ?_
  | with_reducible refine q_ifF ?_
  | with_reducible refine q_ifT ?_
  | with_reducible refine q_drop ?_
  | with_reducible refine q_and ?_
  | with_reducible refine q_or ?_
  | with_reducible refine q_andT ?_
  | with_reducible refine q_andF ?_
  | with_reducible refine q_orF ?_
  | with_reducible refine q_orT ?_
  | with_reducible refine q_andV ?_
  | with_reducible refine q_andVT ?_
  | with_reducible refine q_andVF ?_
  | with_reducible refine q_orV ?_
  | with_reducible refine q_gCons ?_
  | with_reducible refine q_gNil ?_
  | with_reducible refine q_tup ?_
  | with_reducible refine q_lst ?_
  | with_reducible refine q_not ?_
  | with_reducible refine q_notKT ?_
  | with_reducible refine q_notKF ?_
  | with_reducible refine q_I0 ?_
  | with_reducible refine q_eqI ?_
  | with_reducible refine q_neI ?_
  | ((with_reducible refine q_I ?_ ?_); first | decide | omega | exact ⟨by omega, by omega⟩ | exact ⟨by decide, by decide⟩ | exact .inl ⟨by omega, by omega⟩ | exact .inr ⟨by omega, by omega⟩ | exact .inr ⟨by decide, by decide⟩)
  | with_reducible refine q_eqS ?_
  | with_reducible refine q_neS ?_
  | with_reducible refine q_brk ?_
  | with_reducible refine q_ct ?_
  | ((with_reducible apply q_bkE); (focus (with_reducible exact rfl)))
  | ((with_reducible apply q_cnE); (focus (with_reducible exact rfl)))
  | with_reducible refine q_retN ?_
  | with_reducible refine q_gSub ?_
  | with_reducible refine q_for ?_
  | with_reducible refine q_iList ?_
  | with_reducible refine q_iTup ?_
  | with_reducible refine q_iRng1 ?_
  | with_reducible refine q_notK ?_
  | with_reducible refine q_orVT ?_
  | with_reducible refine q_orVF ?_
  | with_reducible refine q_notV ?_
  | with_reducible refine q_notVK ?_
  | with_reducible refine q_ifE ?_
  | with_reducible refine q_ifET ?_
  | with_reducible refine q_ifEF ?_
  | with_reducible refine q_yes ?_
  | with_reducible refine q_un ?_
  | with_reducible refine q_rU ?_
  | with_reducible refine q_abs ?_
  | with_reducible refine q_int1 ?_
  | with_reducible refine q_bm ?_
  | with_reducible refine q_bm0 ?_
  | with_reducible refine q_lc ?_
  | with_reducible refine q_keepT ?_
  | with_reducible refine q_keepF ?_
  | ((with_reducible apply q_aug); (focus (exact rfl)))
  | with_reducible refine q_ipI ?_
  | with_reducible refine q_chain ?_
  | with_reducible refine q_pairC ?_
  | with_reducible refine q_pairsK ?_
  | with_reducible refine q_pairN ?_
  | with_reducible refine q_fld ?_
  | with_reducible refine q_sFld ?_
  | with_reducible refine q_meth ?_
  | with_reducible refine q_makeK ?_
  | with_reducible refine q_isBl ?_
  | with_reducible refine q_notBl ?_
  | with_reducible refine q_sl ?_
  | with_reducible refine q_noPart ?_
  | with_reducible refine q_part ?_
  | with_reducible refine q_partK ?_
  | ((with_reducible apply q_mulStr); (focus (decide +kernel)))
  | with_reducible refine q_chT ?_
  | with_reducible refine q_chF ?_
  | with_reducible refine q_ord ?_
  | with_reducible refine q_iStr0 ?_
  | with_reducible refine q_iStr ?_
  | with_reducible refine q_tDIn ?_
  | with_reducible refine q_tDNotIn ?_
  | with_reducible refine q_tDGet ?_
  | with_reducible refine q_tDGet2 ?_
  | with_reducible refine q_tDGet1 ?_
  | with_reducible refine q_tDSetd ?_
  | ((with_reducible apply q_dG2a); (focus ((repeat first | (with_reducible exact upd_same) | (with_reducible assumption) | (with_reducible apply upd_new (by assumption)) | (with_reducible apply upd_other (by first | assumption | exact Ne.symm (by assumption))) | (with_reducible refine' Kp.get (by assumption) ?_ (by first | assumption | exact Ne.symm (by assumption))) | (with_reducible apply Same.get (by assumption))); done)))
  | ((with_reducible apply q_dSda); (focus ((repeat first | (with_reducible exact upd_same) | (with_reducible assumption) | (with_reducible apply upd_new (by assumption)) | (with_reducible apply upd_other (by first | assumption | exact Ne.symm (by assumption))) | (with_reducible refine' Kp.get (by assumption) ?_ (by first | assumption | exact Ne.symm (by assumption))) | (with_reducible apply Same.get (by assumption))); done)))
  | with_reducible refine q_sDPut ?_
  | ((with_reducible apply q_dInS); (focus ((repeat first | (with_reducible exact upd_same) | (with_reducible assumption) | (with_reducible apply upd_new (by assumption)) | (with_reducible apply upd_other (by first | assumption | exact Ne.symm (by assumption))) | (with_reducible refine' Kp.get (by assumption) ?_ (by first | assumption | exact Ne.symm (by assumption))) | (with_reducible apply Same.get (by assumption))); done)))
  | ((with_reducible apply q_dNInS); (focus ((repeat first | (with_reducible exact upd_same) | (with_reducible assumption) | (with_reducible apply upd_new (by assumption)) | (with_reducible apply upd_other (by first | assumption | exact Ne.symm (by assumption))) | (with_reducible refine' Kp.get (by assumption) ?_ (by first | assumption | exact Ne.symm (by assumption))) | (with_reducible apply Same.get (by assumption))); done)))
  | ((with_reducible apply q_dInI); (focus ((repeat first | (with_reducible exact upd_same) | (with_reducible assumption) | (with_reducible apply upd_new (by assumption)) | (with_reducible apply upd_other (by first | assumption | exact Ne.symm (by assumption))) | (with_reducible refine' Kp.get (by assumption) ?_ (by first | assumption | exact Ne.symm (by assumption))) | (with_reducible apply Same.get (by assumption))); done)))
  | ((with_reducible apply q_dNInI); (focus ((repeat first | (with_reducible exact upd_same) | (with_reducible assumption) | (with_reducible apply upd_new (by assumption)) | (with_reducible apply upd_other (by first | assumption | exact Ne.symm (by assumption))) | (with_reducible refine' Kp.get (by assumption) ?_ (by first | assumption | exact Ne.symm (by assumption))) | (with_reducible apply Same.get (by assumption))); done)))
  | ((with_reducible apply q_bmL); (focus ((repeat first | (with_reducible exact upd_same) | (with_reducible assumption) | (with_reducible apply upd_new (by assumption)) | (with_reducible apply upd_other (by first | assumption | exact Ne.symm (by assumption))) | (with_reducible refine' Kp.get (by assumption) ?_ (by first | assumption | exact Ne.symm (by assumption))) | (with_reducible apply Same.get (by assumption))); done)))
  | ((with_reducible apply q_bmL0); (focus ((repeat first | (with_reducible exact upd_same) | (with_reducible assumption) | (with_reducible apply upd_new (by assumption)) | (with_reducible apply upd_other (by first | assumption | exact Ne.symm (by assumption))) | (with_reducible refine' Kp.get (by assumption) ?_ (by first | assumption | exact Ne.symm (by assumption))) | (with_reducible apply Same.get (by assumption))); done)))
  | ((with_reducible apply q_ixLt); (focus ((repeat first | (with_reducible exact upd_same) | (with_reducible assumption) | (with_reducible apply upd_new (by assumption)) | (with_reducible apply upd_other (by first | assumption | exact Ne.symm (by assumption))) | (with_reducible refine' Kp.get (by assumption) ?_ (by first | assumption | exact Ne.symm (by assumption))) | (with_reducible apply Same.get (by assumption))); done)); (focus (exact rfl)))
  | ((with_reducible apply q_ixTt); (focus ((repeat first | (with_reducible exact upd_same) | (with_reducible assumption) | (with_reducible apply upd_new (by assumption)) | (with_reducible apply upd_other (by first | assumption | exact Ne.symm (by assumption))) | (with_reducible refine' Kp.get (by assumption) ?_ (by first | assumption | exact Ne.symm (by assumption))) | (with_reducible apply Same.get (by assumption))); done)); (focus (exact rfl)))
  | ((with_reducible apply q_lenLt); (focus ((repeat first | (with_reducible exact upd_same) | (with_reducible assumption) | (with_reducible apply upd_new (by assumption)) | (with_reducible apply upd_other (by first | assumption | exact Ne.symm (by assumption))) | (with_reducible refine' Kp.get (by assumption) ?_ (by first | assumption | exact Ne.symm (by assumption))) | (with_reducible apply Same.get (by assumption))); done)))
  | ((with_reducible apply q_lenTt); (focus ((repeat first | (with_reducible exact upd_same) | (with_reducible assumption) | (with_reducible apply upd_new (by assumption)) | (with_reducible apply upd_other (by first | assumption | exact Ne.symm (by assumption))) | (with_reducible refine' Kp.get (by assumption) ?_ (by first | assumption | exact Ne.symm (by assumption))) | (with_reducible apply Same.get (by assumption))); done)))
  | ((with_reducible apply q_append); (focus ((repeat first | (with_reducible exact upd_same) | (with_reducible assumption) | (with_reducible apply upd_new (by assumption)) | (with_reducible apply upd_other (by first | assumption | exact Ne.symm (by assumption))) | (with_reducible refine' Kp.get (by assumption) ?_ (by first | assumption | exact Ne.symm (by assumption))) | (with_reducible apply Same.get (by assumption))); done)); (focus ((first | (exact Nat.lt_of_ble_eq_true rfl) | (simp only [List.length_append, List.length_cons, List.length_nil, List.length_map]; exact small1000 (by omega))))))
  | ((with_reducible apply q_setL); (focus ((repeat first | (with_reducible exact upd_same) | (with_reducible assumption) | (with_reducible apply upd_new (by assumption)) | (with_reducible apply upd_other (by first | assumption | exact Ne.symm (by assumption))) | (with_reducible refine' Kp.get (by assumption) ?_ (by first | assumption | exact Ne.symm (by assumption))) | (with_reducible apply Same.get (by assumption))); done)); (focus (exact rfl)))
  | with_reducible refine q_ifNT ?_
  | with_reducible refine q_ifNF ?_
  | with_reducible refine q_andNT ?_
  | with_reducible refine q_andNF ?_
  | with_reducible refine q_orNT ?_
  | with_reducible refine q_orNF ?_
  | with_reducible refine q_bKNT ?_
  | with_reducible refine q_bKNF ?_
  | with_reducible refine q_tNGet ?_
  | with_reducible refine q_tNIn ?_
  | with_reducible refine q_sNPut ?_
  | with_reducible refine q_sFldAug ?_
  | with_reducible refine q_sDAug ?_
  | with_reducible refine q_sDDel ?_
  | with_reducible refine q_forX ?_
  | with_reducible refine q_tMake ?_
  | ((with_reducible apply q_dG1a); (focus ((repeat first | (with_reducible exact upd_same) | (with_reducible assumption) | (with_reducible apply upd_new (by assumption)) | (with_reducible apply upd_other (by first | assumption | exact Ne.symm (by assumption))) | (with_reducible refine' Kp.get (by assumption) ?_ (by first | assumption | exact Ne.symm (by assumption))) | (with_reducible apply Same.get (by assumption))); done)))))
section
variable {P : Program} {w : World} {K : PySem.W.Frag} {mg : Str → Option Value} {base : Heap}
theorem ok_Machine_init (T : Txt K mg) : FnOk P w K mg base CX0 3 T.f_Machine_init T.d_Machine_init ["self", "name", "notary"] (sp_mcI T.C_Machine T.C_Notes T.C_Notary P w) := by
  refine T.F_Machine_init.ok sc_Machine_init (fun vs H Q E h => ?_) (fun cdv A outer s H vs Q E hr h => ?_)
  · obtain ⟨m, dm, x, tl, nd, g, es, rfl, _⟩ := h; rfl
  · obtain ⟨m, dm, x, tl, nd, g, es, rfl, hm, hN, nxm, k⟩ := h
    refine ⟨_, (pss_cons (ps_fld (pv 0) (pv 1) rfl)
      (pss_cons (ps_fld (pv 0) (pv 2) rfl)
      (pss_one (ps_fld (pv 0) (pe_make0 T.mk_Notes (ok_Notes_init T) (hr.mono (by decide)) (by rfl) T.g_Notes T.b_Notes_init .nil pass0) rfl)))), ?_⟩
    (dsimp only [cxOf, Cx.nox, Cx.wish, L2.start, List.map, List.length, List.replicate, List.cons_append, List.nil_append, List.append_eq, Nat.reduceSub, Nat.reduceAdd])
    walk_at "my_rd"
    refine q_fputK hm T.cl_Machine T.n_Machine_name (by show 0 < 1000; decide) ?_
    walk_at "my_rd"
    refine q_fputK upd_same T.cl_Machine T.n_Machine_notary (by show 1 < 1000; decide) ?_
    walk_at "my_rd"
    have kp : Kp m H (upd (upd H m (.ins T.C_Machine dm (putF "_name" (.str g) []))) m (.ins T.C_Machine dm (putF "_notary" (.ref x) (putF "_name" (.str g) [])))) := Kp.upd (Kp.upd Kp.refl)
    have hm2 : upd (upd H m (.ins T.C_Machine dm (putF "_name" (.str g) []))) m (.ins T.C_Machine dm (putF "_notary" (.ref x) (putF "_name" (.str g) []))) m = some (.ins T.C_Machine dm (putF "_notary" (.ref x) (putF "_name" (.str g) []))) := upd_same
    have hnn : ∀ b, upd (upd H m (.ins T.C_Machine dm (putF "_name" (.str g) []))) m (.ins T.C_Machine dm (putF "_notary" (.ref x) (putF "_name" (.str g) []))) b = none → H b = none := fun b q => upd_none_back (upd_none_back q)
    generalize upd (upd H m (.ins T.C_Machine dm (putF "_name" (.str g) []))) m (.ins T.C_Machine dm (putF "_notary" (.ref x) (putF "_name" (.str g) []))) = H1 at kp hm2 hnn
    intro nt dn hnt hdn hne
    refine ⟨nt, dn, rfl, upd_same, fun l H2 nl hNt kpN => ⟨rfl, ?_⟩⟩
    walk_at "my_rd"
    have bk : ∀ b o, H1 b = some o → b ≠ nt ∧ upd (upd H1 dn (.own nt)) nt (.ins T.C_Notes dn []) b = some o := fun b o q => ⟨ne_of_none q hnt, upd_other (ne_of_none q hnt) (upd_other (ne_of_none q hdn) q)⟩
    have f2 : ∀ b o, H1 b = some o → H2 b = some o := fun b o q => kpN _ _ (bk b o q).2 (bk b o q).1
    have f1 : ∀ b o, H b = some o → b ≠ m → H2 b = some o := fun b o q n => f2 b o (kp _ _ q n)
    refine q_fputK (f2 _ _ hm2) T.cl_Machine T.n_Machine_notes (by show 2 < 1000; decide) ?_
    walk_at "my_rd"
    obtain ⟨dN, fN, xN, kN, g1, g2, g3, g4, g5, g6, g7, g8, g9⟩ := hN.ex
    have kp3 : Kp m H2 (upd H2 m (.ins T.C_Machine dm (putF "_notes" (.ref nt) (putF "_notary" (.ref x) (putF "_name" (.str g) []))))) := Kp.upd Kp.refl
    have hm3 : upd H2 m (.ins T.C_Machine dm (putF "_notes" (.ref nt) (putF "_notary" (.ref x) (putF "_name" (.str g) [])))) m = some (.ins T.C_Machine dm (putF "_notes" (.ref nt) (putF "_notary" (.ref x) (putF "_name" (.str g) [])))) := upd_same
    generalize upd H2 m (.ins T.C_Machine dm (putF "_notes" (.ref nt) (putF "_notary" (.ref x) (putF "_name" (.str g) [])))) = H3 at kp3 hm3
    have f3 : ∀ b o, H b = some o → b ≠ m → H3 b = some o := fun b o q n => kp3 _ _ (f1 b o q n) n
    have t3 : ∀ b ys, H b = some (HO.tup ys) → H3 b = some (.tup ys) := fun b ys q => f3 _ _ q (ne_of q hm (by intro z; cases z))
    have ntm : m ≠ nt := (bk _ _ hm2).1
    obtain ⟨dT, fT, e1, e2, e3, e4, e5, e6⟩ := hNt.ex
    have nlm : l ≠ m := ne_of e6 (f2 _ _ hm2) (by intro z; cases z)
    have ntl : tl ≠ m := ne_of g5 hm (by intro z; cases z)
    have ltl : l ≠ tl := (ne_of_none (bk _ _ (kp _ _ g5 ntl)).2 nl).symm
    have hl0 : H l = none := hnn _ (upd_none_back (upd_none_back nl))
    refine k nt l _ (hnn _ hnt) hl0 ⟨⟨dm, _, hm3, ?_, ?_, ?_, ?_⟩, hN.of t3 (fun o q => f3 _ _ q nxm) (fun o q => f3 _ _ q ntl) (fun o q => f3 _ _ q (ne_of g7 hm (by intro z; unfold DN at z; cases z))), ⟨[], hNt.kp (fun o q => kp3 _ _ q ntm.symm) (fun o q => kp3 _ _ q nlm), .nil⟩, (bk _ _ (kp _ _ g1 nxm)).1, ntm, ltl⟩ (fun b o q n => f3 _ _ q n)
    · (repeat first | rfl | rw [lookup_putF, if_pos rfl] | rw [lookup_putF, if_neg (by decide +kernel)])
    · (repeat first | rfl | rw [lookup_putF, if_pos rfl] | rw [lookup_putF, if_neg (by decide +kernel)])
    · (repeat first | rfl | rw [lookup_putF, if_pos rfl] | rw [lookup_putF, if_neg (by decide +kernel)])
    · intro z hz
      have hne : ∀ y ∈ mcNames, ¬ z = y := fun y hy e => hz (e ▸ hy)
      rw [lookup_putF, if_neg (hne _ (by decide +kernel)), lookup_putF, if_neg (hne _ (by decide +kernel)), lookup_putF, if_neg (hne _ (by decide +kernel))]
      rfl
theorem ok_Machine_journal (T : Txt K mg) : FnOk P w K mg base CX0 2 T.f_Machine_journal T.d_Machine_journal ["self"] (sp_mcJ P w T.C_Machine T.C_Notes T.C_Notary) := by
  refine T.F_Machine_journal.ok sc_Machine_journal (fun vs H Q E h => ?_) (fun cdv A outer s H vs Q E hr h => ?_)
  · obtain ⟨A, g, S, rfl, _⟩ := h; rfl
  · obtain ⟨M, g, S, rfl, hM, k⟩ := h
    obtain ⟨dx, fs, h1, h2, h3, h4, h5⟩ := hM.ex
    obtain ⟨xs, n1, n2⟩ := hM.nt
    obtain ⟨dy, gs, m1, m2, m3, m4, m5, m6⟩ := n1.ex
    refine ⟨_, (pss_one (ps_ret (pe_meth0 (pe_fld (pv 0) rfl) T.cl_Notes T.m_Notes_rows (ok_Notes_rows T) (hr.mono (by decide)) T.b_Notes_rows .nil pass0))), ?_⟩
    (dsimp only [cxOf, Cx.nox, Cx.wish, L2.start, List.map, List.length, List.replicate, List.cons_append, List.nil_append, List.append_eq, Nat.reduceSub, Nat.reduceAdd])
    walk_at "my_rd"
    refine q_fldK h1 T.cl_Machine T.n_Machine_notes h4 ?_
    walk_at "my_rd"
    refine q_methK m1 (m4 _ no_mc.1) fun R hR => ?_
    walk_at "my_rd"
    refine hR _ _ ⟨M.nt, M.l, xs, S.f, rfl, n1, fun q nq => ?_⟩
    walk_at "my_rd"
    exact k q xs nq n2
theorem ok_Machine_crash (T : Txt K mg) : FnOk P w K mg base CX0 2 T.f_Machine_crash T.d_Machine_crash ["self", "lost"] (sp_mcC P w T.C_Machine T.C_Notes T.C_Notary) := by
  refine T.F_Machine_crash.ok sc_Machine_crash (fun vs H Q E h => ?_) (fun cdv A outer s H vs Q E hr h => ?_)
  · obtain ⟨A, g, S, n, rfl, _⟩ := h; rfl
  · obtain ⟨M, g, S, n, rfl, hM, k⟩ := h
    obtain ⟨dx, fs, h1, h2, h3, h4, h5⟩ := hM.ex
    obtain ⟨xs, n1, n2⟩ := hM.nt
    obtain ⟨dy, gs, m1, m2, m3, m4, m5, m6⟩ := n1.ex
    refine ⟨_, (pss_one (ps_expr (pe_meth (pe_fld (pv 0) rfl) T.cl_Notes T.m_Notes_crash (ok_Notes_crash T) (hr.mono (by decide)) T.b_Notes_crash .nil pass0 (pa_cons (pv 1) pa_nil)))), ?_⟩
    (dsimp only [cxOf, Cx.nox, Cx.wish, L2.start, List.map, List.length, List.replicate, List.cons_append, List.nil_append, List.append_eq, Nat.reduceSub, Nat.reduceAdd])
    walk_at "my_rd"
    refine q_fldK h1 T.cl_Machine T.n_Machine_notes h4 ?_
    walk_at "my_rd"
    refine q_methK m1 (m4 _ no_mc.2.2.2.1) fun R hR => ?_
    walk_at "my_rd"
    refine hR _ _ ⟨M.nt, M.l, xs, S.f, n, rfl, n1, fun hN => ?_⟩
    walk_at "my_rd"
    have kp : Kp M.l H (upd H M.l (.lst (xs.take (max S.f (xs.length - n))))) := Kp.upd Kp.refl
    generalize upd H M.l (.lst (xs.take (max S.f (xs.length - n)))) = H2 at hN kp
    have t : ∀ b ys, H b = some (HO.tup ys) → H2 b = some (.tup ys) := fun b ys z => kp _ _ z (ne_of z m6 (by intro q; cases q))
    obtain ⟨dN, fN, xN, kN, g1, g2, g3, g4, g5, g6, g7, g8, g9⟩ := hM.no.ex
    have hl := n2.length
    refine k _ ⟨⟨dx, fs, kp _ _ h1 (ne_of h1 m6 (by intro q; cases q)), h2, h3, h4, h5⟩, hM.no.of t (fun o q => kp _ _ q (ne_of g1 m6 (by intro q; cases q))) (fun o q => kp _ _ q hM.n3.symm) (fun o q => kp _ _ q (ne_of g7 m6 (by intro q; unfold DN at q; cases q))), ⟨_, hN, ?_⟩, hM.n1, hM.n2, hM.n3⟩ kp
    show NVs H2 (S.js.take (max S.f (S.js.length - n))) _
    rw [hl]
    exact NVs.take _ (n2.mono t)
end

local macro_rules | `(tactic| walk_at "my_rd") => `(tactic| (repeat first
  | with_reducible refine q_tCons ?_
  | ((with_reducible apply q_var); (focus (exact rfl)))
  | with_reducible refine q_c ?_
  | ((with_reducible apply q_nxE); (focus (with_reducible exact rfl)))
  | with_reducible refine q_bK ?_
  | with_reducible refine q_call ?_
  | with_reducible refine q_callK ?_
  | with_reducible refine q_tNil ?_
  | with_reducible refine q_cb ?_
  | with_reducible refine q_seq ?_
  | with_reducible refine q_asg ?_
  | with_reducible refine q_gName ?_
  | with_reducible refine q_op ?_
  | with_reducible refine q_test ?_
  | with_reducible refine q_tB ?_
  | with_reducible refine q_ifS ?_
  | with_reducible refine q_ret ?_
  | ((with_reducible apply q_rtE); (focus (with_reducible exact rfl)))
  | with_reducible refine q_next ?_
  | with_reducible refine q_ifF ?_
  | with_reducible refine q_ifT ?_
  | with_reducible refine q_drop ?_
  | with_reducible refine q_and ?_
  | with_reducible refine q_or ?_
  | with_reducible refine q_andT ?_
  | with_reducible refine q_andF ?_
  | with_reducible refine q_orF ?_
  | with_reducible refine q_orT ?_
  | with_reducible refine q_andV ?_
  | with_reducible refine q_andVT ?_
  | with_reducible refine q_andVF ?_
  | with_reducible refine q_orV ?_
  | with_reducible refine q_gCons ?_
  | with_reducible refine q_gNil ?_
  | with_reducible refine q_tup ?_
  | with_reducible refine q_lst ?_
  | with_reducible refine q_not ?_
  | with_reducible refine q_notKT ?_
  | with_reducible refine q_notKF ?_
  | with_reducible refine q_I0 ?_
  | with_reducible refine q_eqI ?_
  | with_reducible refine q_neI ?_
  | ((with_reducible refine q_I ?_ ?_); first | decide | omega | exact ⟨by omega, by omega⟩ | exact ⟨by decide, by decide⟩ | exact .inl ⟨by omega, by omega⟩ | exact .inr ⟨by omega, by omega⟩ | exact .inr ⟨by decide, by decide⟩)
  | with_reducible refine q_eqS ?_
  | with_reducible refine q_neS ?_
  | with_reducible refine q_brk ?_
  | with_reducible refine q_ct ?_
  | ((with_reducible apply q_bkE); (focus (with_reducible exact rfl)))
  | ((with_reducible apply q_cnE); (focus (with_reducible exact rfl)))
  | with_reducible refine q_retN ?_
  | with_reducible refine q_gSub ?_
  | with_reducible refine q_for ?_
  | with_reducible refine q_iList ?_
  | with_reducible refine q_iTup ?_
  | with_reducible refine q_iRng1 ?_
  | with_reducible refine q_notK ?_
  | with_reducible refine q_orVT ?_
  | with_reducible refine q_orVF ?_
  | with_reducible refine q_notV ?_
  | with_reducible refine q_notVK ?_
  | with_reducible refine q_ifE ?_
  | with_reducible refine q_ifET ?_
  | with_reducible refine q_ifEF ?_
  | with_reducible refine q_yes ?_
  | with_reducible refine q_un ?_
  | with_reducible refine q_rU ?_
  | with_reducible refine q_abs ?_
  | with_reducible refine q_int1 ?_
  | with_reducible refine q_bm ?_
  | with_reducible refine q_bm0 ?_
  | with_reducible refine q_lc ?_
  | with_reducible refine q_keepT ?_
  | with_reducible refine q_keepF ?_
  | ((with_reducible apply q_aug); (focus (exact rfl)))
  | with_reducible refine q_ipI ?_
  | with_reducible refine q_chain ?_
  | with_reducible refine q_pairC ?_
  | with_reducible refine q_pairsK ?_
  | with_reducible refine q_pairN ?_
  | with_reducible refine q_fld ?_
  | with_reducible refine q_sFld ?_
  | with_reducible refine q_meth ?_
  | with_reducible refine q_makeK ?_
  | with_reducible refine q_isBl ?_
  | with_reducible refine q_notBl ?_
  | with_reducible refine q_sl ?_
  | with_reducible refine q_noPart ?_
  | with_reducible refine q_part ?_
  | with_reducible refine q_partK ?_
  | ((with_reducible apply q_mulStr); (focus (decide +kernel)))
  | with_reducible refine q_chT ?_
  | with_reducible refine q_chF ?_
  | with_reducible refine q_ord ?_
  | with_reducible refine q_iStr0 ?_
  | with_reducible refine q_iStr ?_
  | with_reducible refine q_tDIn ?_
  | with_reducible refine q_tDNotIn ?_
  | with_reducible refine q_tDGet ?_
  | with_reducible refine q_tDGet2 ?_
  | with_reducible refine q_tDGet1 ?_
  | with_reducible refine q_tDSetd ?_
  | ((with_reducible apply q_dG2a); (focus ((repeat first | (with_reducible exact upd_same) | (with_reducible assumption) | (with_reducible apply upd_new (by assumption)) | (with_reducible apply upd_other (by first | assumption | exact Ne.symm (by assumption))) | (with_reducible refine' Kp.get (by assumption) ?_ (by first | assumption | exact Ne.symm (by assumption))) | (with_reducible apply Same.get (by assumption))); done)))
  | ((with_reducible apply q_dSda); (focus ((repeat first | (with_reducible exact upd_same) | (with_reducible assumption) | (with_reducible apply upd_new (by assumption)) | (with_reducible apply upd_other (by first | assumption | exact Ne.symm (by assumption))) | (with_reducible refine' Kp.get (by assumption) ?_ (by first | assumption | exact Ne.symm (by assumption))) | (with_reducible apply Same.get (by assumption))); done)))
  | with_reducible refine q_sDPut ?_
  | ((with_reducible apply q_dInS); (focus ((repeat first | (with_reducible exact upd_same) | (with_reducible assumption) | (with_reducible apply upd_new (by assumption)) | (with_reducible apply upd_other (by first | assumption | exact Ne.symm (by assumption))) | (with_reducible refine' Kp.get (by assumption) ?_ (by first | assumption | exact Ne.symm (by assumption))) | (with_reducible apply Same.get (by assumption))); done)))
  | ((with_reducible apply q_dNInS); (focus ((repeat first | (with_reducible exact upd_same) | (with_reducible assumption) | (with_reducible apply upd_new (by assumption)) | (with_reducible apply upd_other (by first | assumption | exact Ne.symm (by assumption))) | (with_reducible refine' Kp.get (by assumption) ?_ (by first | assumption | exact Ne.symm (by assumption))) | (with_reducible apply Same.get (by assumption))); done)))
  | ((with_reducible apply q_dInI); (focus ((repeat first | (with_reducible exact upd_same) | (with_reducible assumption) | (with_reducible apply upd_new (by assumption)) | (with_reducible apply upd_other (by first | assumption | exact Ne.symm (by assumption))) | (with_reducible refine' Kp.get (by assumption) ?_ (by first | assumption | exact Ne.symm (by assumption))) | (with_reducible apply Same.get (by assumption))); done)))
  | ((with_reducible apply q_dNInI); (focus ((repeat first | (with_reducible exact upd_same) | (with_reducible assumption) | (with_reducible apply upd_new (by assumption)) | (with_reducible apply upd_other (by first | assumption | exact Ne.symm (by assumption))) | (with_reducible refine' Kp.get (by assumption) ?_ (by first | assumption | exact Ne.symm (by assumption))) | (with_reducible apply Same.get (by assumption))); done)))
  | ((with_reducible apply q_bmL); (focus ((repeat first | (with_reducible exact upd_same) | (with_reducible assumption) | (with_reducible apply upd_new (by assumption)) | (with_reducible apply upd_other (by first | assumption | exact Ne.symm (by assumption))) | (with_reducible refine' Kp.get (by assumption) ?_ (by first | assumption | exact Ne.symm (by assumption))) | (with_reducible apply Same.get (by assumption))); done)))
  | ((with_reducible apply q_bmL0); (focus ((repeat first | (with_reducible exact upd_same) | (with_reducible assumption) | (with_reducible apply upd_new (by assumption)) | (with_reducible apply upd_other (by first | assumption | exact Ne.symm (by assumption))) | (with_reducible refine' Kp.get (by assumption) ?_ (by first | assumption | exact Ne.symm (by assumption))) | (with_reducible apply Same.get (by assumption))); done)))
  | ((with_reducible apply q_ixLt); (focus ((repeat first | (with_reducible exact upd_same) | (with_reducible assumption) | (with_reducible apply upd_new (by assumption)) | (with_reducible apply upd_other (by first | assumption | exact Ne.symm (by assumption))) | (with_reducible refine' Kp.get (by assumption) ?_ (by first | assumption | exact Ne.symm (by assumption))) | (with_reducible apply Same.get (by assumption))); done)); (focus (exact rfl)))
  | ((with_reducible apply q_ixTt); (focus ((repeat first | (with_reducible exact upd_same) | (with_reducible assumption) | (with_reducible apply upd_new (by assumption)) | (with_reducible apply upd_other (by first | assumption | exact Ne.symm (by assumption))) | (with_reducible refine' Kp.get (by assumption) ?_ (by first | assumption | exact Ne.symm (by assumption))) | (with_reducible apply Same.get (by assumption))); done)); (focus (exact rfl)))
  | ((with_reducible apply q_lenLt); (focus ((repeat first | (with_reducible exact upd_same) | (with_reducible assumption) | (with_reducible apply upd_new (by assumption)) | (with_reducible apply upd_other (by first | assumption | exact Ne.symm (by assumption))) | (with_reducible refine' Kp.get (by assumption) ?_ (by first | assumption | exact Ne.symm (by assumption))) | (with_reducible apply Same.get (by assumption))); done)))
  | ((with_reducible apply q_lenTt); (focus ((repeat first | (with_reducible exact upd_same) | (with_reducible assumption) | (with_reducible apply upd_new (by assumption)) | (with_reducible apply upd_other (by first | assumption | exact Ne.symm (by assumption))) | (with_reducible refine' Kp.get (by assumption) ?_ (by first | assumption | exact Ne.symm (by assumption))) | (with_reducible apply Same.get (by assumption))); done)))
  | ((with_reducible apply q_append); (focus ((repeat first | (with_reducible exact upd_same) | (with_reducible assumption) | (with_reducible apply upd_new (by assumption)) | (with_reducible apply upd_other (by first | assumption | exact Ne.symm (by assumption))) | (with_reducible refine' Kp.get (by assumption) ?_ (by first | assumption | exact Ne.symm (by assumption))) | (with_reducible apply Same.get (by assumption))); done)); (focus ((first | (exact Nat.lt_of_ble_eq_true rfl) | (simp only [List.length_append, List.length_cons, List.length_nil, List.length_map]; exact small1000 (by omega))))))
  | ((with_reducible apply q_setL); (focus ((repeat first | (with_reducible exact upd_same) | (with_reducible assumption) | (with_reducible apply upd_new (by assumption)) | (with_reducible apply upd_other (by first | assumption | exact Ne.symm (by assumption))) | (with_reducible refine' Kp.get (by assumption) ?_ (by first | assumption | exact Ne.symm (by assumption))) | (with_reducible apply Same.get (by assumption))); done)); (focus (exact rfl)))
  | with_reducible refine q_ifNT ?_
  | with_reducible refine q_ifNF ?_
  | with_reducible refine q_andNT ?_
  | with_reducible refine q_andNF ?_
  | with_reducible refine q_orNT ?_
  | with_reducible refine q_orNF ?_
  | with_reducible refine q_bKNT ?_
  | with_reducible refine q_bKNF ?_
  | with_reducible refine q_tNGet ?_
  | with_reducible refine q_tNIn ?_
  | with_reducible refine q_sNPut ?_
  | with_reducible refine q_sFldAug ?_
  | with_reducible refine q_sDAug ?_
  | with_reducible refine q_sDDel ?_
  | with_reducible refine q_forX ?_
  | with_reducible refine q_tMake ?_
  | ((with_reducible apply q_dG1a); (focus ((repeat first | (with_reducible exact upd_same) | (with_reducible assumption) | (with_reducible apply upd_new (by assumption)) | (with_reducible apply upd_other (by first | assumption | exact Ne.symm (by assumption))) | (with_reducible refine' Kp.get (by assumption) ?_ (by first | assumption | exact Ne.symm (by assumption))) | (with_reducible apply Same.get (by assumption))); done)))))
section
variable {P : Program} {w : World} {Cm Cn Cy : Addr} {H H' : Hp} {A : McA} {g : Str} {S : MS}
/-- a row is added -/
theorem McAt.wr {e : NestedKey} {v : V} {xs : List V} {H' : Hp} (h : McAt P w Cm Cn Cy H A g S) (n2 : NVs H S.js xs) (m6 : H A.l = some (.lst xs)) (hv : NV H e v) (hN : NtAt Cn H' A.nt A.l (xs ++ [v]) S.f) (kp : Kp A.l H H') : McAt P w Cm Cn Cy H' A g (S.step g (.wr e)) := by
  obtain ⟨dx, fs, h1, h2, h3, h4, h5⟩ := h.ex
  obtain ⟨dN, fN, xN, kN, g1, g2, g3, g4, g5, g6, g7, g8, g9⟩ := h.no.ex
  have t : ∀ b ys, H b = some (HO.tup ys) → H' b = some (.tup ys) := fun b ys z => kp _ _ z (ne_of z m6 (by intro q; cases q))
  exact ⟨⟨dx, fs, kp _ _ h1 (ne_of h1 m6 (by intro q; cases q)), h2, h3, h4, h5⟩, h.no.of t (fun o q => kp _ _ q (ne_of g1 m6 (by intro q; cases q))) (fun o q => kp _ _ q h.n3.symm) (fun o q => kp _ _ q (ne_of g7 m6 (by intro q; unfold DN at q; cases q))), ⟨_, hN, NVs.snoc (hv.mono t) (n2.mono t)⟩, h.n1, h.n2, h.n3⟩
/-- all is flushed -/
theorem McAt.flu {xs : List V} {H' : Hp} {dy : Addr} {gs : List (Str × V)} (h : McAt P w Cm Cn Cy H A g S) (n2 : NVs H S.js xs) (m1 : H A.nt = some (.ins Cn dy gs)) (hN : NtAt Cn H' A.nt A.l xs xs.length) (kp : Kp A.nt H H') : McAt P w Cm Cn Cy H' A g (S.step g .fl) := by
  obtain ⟨dx, fs, h1, h2, h3, h4, h5⟩ := h.ex
  obtain ⟨dN, fN, xN, kN, g1, g2, g3, g4, g5, g6, g7, g8, g9⟩ := h.no.ex
  have t : ∀ b ys, H b = some (HO.tup ys) → H' b = some (.tup ys) := fun b ys z => kp _ _ z (ne_of z m1 (by intro q; cases q))
  exact ⟨⟨dx, fs, kp _ _ h1 h.n2, h2, h3, h4, h5⟩, h.no.of t (fun o q => kp _ _ q h.n1) (fun o q => kp _ _ q (ne_of g5 m1 (by intro q; cases q))) (fun o q => kp _ _ q (ne_of g7 m1 (by intro q; unfold DN at q; cases q))), ⟨xs, by show NtAt Cn H' A.nt A.l xs S.js.length; rw [n2.length]; exact hN, n2.mono t⟩, h.n1, h.n2, h.n3⟩
/-- a new seal -/
theorem McAt.sea {k : NestedKey} {H' : Hp} (h : McAt P w Cm Cn Cy H A g S) (hp : pl S.es (g, k) = none) (hN : NotAt P w Cy H' A.x A.tl A.nd (S.es ++ [(g, k)])) (kp : ∀ b o, H b = some o → b ≠ A.tl → b ≠ A.nd → H' b = some o) : McAt P w Cm Cn Cy H' A g (S.step g (.se k)) := by
  obtain ⟨dx, fs, h1, h2, h3, h4, h5⟩ := h.ex
  obtain ⟨xs, n1, n2⟩ := h.nt
  obtain ⟨dy, gs, m1, m2, m3, m4, m5, m6⟩ := n1.ex
  obtain ⟨dN, fN, xN, kN, g1, g2, g3, g4, g5, g6, g7, g8, g9⟩ := h.no.ex
  have t : ∀ b ys, H b = some (HO.tup ys) → H' b = some (.tup ys) := fun b ys z => kp _ _ z (ne_of z g5 (by intro q; cases q)) (ne_of z g7 (by intro q; unfold DN at q; cases q))
  have e : S.step g (.se k) = { S with es := S.es ++ [(g, k)] } := by
    show (if (pl S.es (g, k)).isSome = true then S else { S with es := S.es ++ [(g, k)] }) = _
    rw [hp]; rfl
  rw [e]
  exact ⟨⟨dx, fs, kp _ _ h1 (ne_of h1 g5 (by intro q; cases q)) (ne_of h1 g7 (by intro q; unfold DN at q; cases q)), h2, h3, h4, h5⟩, hN, ⟨xs, n1.kp (fun o q => kp _ _ q (ne_of m1 g5 (by intro q; cases q)) (ne_of m1 g7 (by intro q; unfold DN at q; cases q))) (fun o q => kp _ _ q h.n3 (ne_of m6 g7 (by intro q; unfold DN at q; cases q))), n2.mono t⟩, h.n1, h.n2, h.n3⟩
theorem MS.step_old {k : NestedKey} {i : Nat} (hp : pl S.es (g, k) = some i) : S.step g (.se k) = S := by
  show (if (pl S.es (g, k)).isSome = true then S else { S with es := S.es ++ [(g, k)] }) = _
  rw [hp]; rfl
theorem McAt.out {q : Addr} {ys zs : List V} (h : McAt P w Cm Cn Cy H A g S) (hq : H q = some (.lst ys)) (n : ∀ b, b = A.m ∨ b = A.x ∨ b = A.tl ∨ b = A.nd ∨ b = A.nt ∨ b = A.l → b ≠ q) : McAt P w Cm Cn Cy (upd H q (.lst zs)) A g S :=
  h.of (fun b ys z => upd_other (ne_of z hq (by intro q; cases q)) z) fun b o z m => upd_other (n b m) z
end
theorem Fr.refl {A : McA} {H : Hp} : Fr A H H := fun _ _ q _ _ _ _ => q
theorem Fr.trans {A : McA} {H H1 H2 : Hp} (f : Fr A H H1) (h : Fr A H1 H2) : Fr A H H2 := fun b o q n1 n2 n3 n4 => h b o (f b o q n1 n2 n3 n4) n1 n2 n3 n4
theorem Fr.same {A : McA} {H H1 : Hp} (f : Same H H1) : Fr A H H1 := fun b o q _ _ _ _ => f b o q
theorem Fr.upq {A : McA} {H H1 : Hp} {q : Addr} {o : HO} (f : Fr A H H1) (n : H q = none) : Fr A H (upd H1 q o) := fun b z q1 n1 n2 n3 n4 => upd_other (ne_of_none q1 n) (f b z q1 n1 n2 n3 n4)
theorem filter_next {ss : List Stp} {i : Nat} {s : Stp} (h : ss[i]? = some s) : ((ss.take (i + 1)).filter Stp.isSe).length = ((ss.take i).filter Stp.isSe).length + (if s.isSe = true then 1 else 0) := by
  rw [take_next h, List.filter_append, List.length_append]
  cases s <;> rfl
section
variable {P : Program} {w : World} {K : PySem.W.Frag} {mg : Str → Option Value} {base : Heap}
theorem ok_Machine_carry_out (T : Txt K mg) : FnOk P w K mg base CX0 8 T.f_Machine_carry_out T.d_Machine_carry_out ["self", "steps", "count"] (sp_mcO P w T.C_Machine T.C_Notes T.C_Notary) := by
  refine T.F_Machine_carry_out.ok sc_Machine_carry_out (fun vs H Q E h => ?_) (fun cdv A outer s H vs Q E hr h => ?_)
  · obtain ⟨A, g, S, sl, svs, ss, c, rfl, _⟩ := h; rfl
  · obtain ⟨M, g, S, sl, svs, ss, c, rfl, hM, hg, hsl, hss, hj, he, k⟩ := h
    have hn := hn_of hr
    refine ⟨_, (pss_cons (ps_set (i := 3) sc_Machine_carry_out.nd rfl (Or.inl rfl) (pe_lst pa_nil))
      (pss_cons (ps_for PassesOwn.never rfl (pi_list (pe_slice sl_list (pv 1) po_none (po_some (pe_callB (call_max2 rfl) (by rfl) T.z_max boot_max (pa_cons pe_int (pa_cons (pv 2) pa_nil)))))) (pg_name (i := 4) sc_Machine_carry_out.nd rfl (Or.inl rfl))
        (pss_cons (ps_set (i := 5) sc_Machine_carry_out.nd rfl (Or.inl rfl) (pe_ix ix_tup (pv 4) pe_int (fun _ _ => rfl)))
      (pss_one (ps_if (pt_cmpR op_eq (pv 5) pe_str (nomark _)) (pss_one (ps_expr (pe_meth (pe_fld (pv 0) rfl) T.cl_Notes T.m_Notes_add (ok_Notes_add T) (hr.mono (by decide)) T.b_Notes_add .nil pass0 (pa_cons (pe_ix ix_tup (pv 4) pe_int (fun _ _ => rfl)) pa_nil)))) (pss_one (ps_if (pt_cmpR op_eq (pv 5) pe_str (nomark _)) (pss_one (ps_expr (pe_meth0 (pe_fld (pv 0) rfl) T.cl_Notes T.m_Notes_flush (ok_Notes_flush T) (hr.mono (by decide)) T.b_Notes_flush .nil pass0))) (pss_one (ps_if (pt_val (pe_call (ok_is_letter T) (hr.mono (by decide)) (by rfl) T.g_is_letter T.F_is_letter.kp T.b_is_letter .nil pass0 (pa_cons (pe_ix ix_tup (pv 4) pe_int (fun _ _ => rfl)) pa_nil))) (pss_one (ps_expr (pe_bm PySem.F.plainAttrs_list PySem.F.slot_list_append PySem.F.type_list_append mt_append (pv 3) (pa_cons (pe_meth (pe_fld (pv 0) rfl) T.cl_Notary T.m_Notary_seal (ok_Notary_seal T) (hr.mono (by decide)) T.b_Notary_seal .nil pass0 (pa_cons (pe_fld (pv 0) rfl) (pa_cons (pe_ix ix_tup (pv 4) pe_int (fun _ _ => rfl)) pa_nil))) pa_nil)))) pss_nil))))))))
      (pss_one (ps_ret (pv 3))))), ?_⟩
    (dsimp only [cxOf, Cx.nox, Cx.wish, L2.start, List.map, List.length, List.replicate, List.cons_append, List.nil_append, List.append_eq, Nat.reduceSub, Nat.reduceAdd])
    walk_at "my_rd"
    refine q_lstK (Nat.le_of_ble_eq_true rfl) fun q nq => ?_
    walk_at "my_rd"
    refine ⟨_, _, rfl, ?_⟩
    walk_at "my_rd"
    have smq : Same H (upd H q (.lst [])) := Same.up (Same.refl _) nq
    have hq1 : upd H q (.lst []) q = some (.lst []) := upd_same
    generalize upd H q (.lst []) = H1 at smq hq1
    have ec : (if (c : Int) > 0 then (c : Int) else 0) = ((c : Nat) : Int) := by split <;> omega
    rw [ec]
    refine q_slL (sqL (smq _ _ hsl)) fun z nz => ?_
    rw [cut_any]
    have smz : Same H1 (upd H1 z (.lst (svs.take c))) := Same.up (Same.refl _) nz
    have hz : upd H1 z (.lst (svs.take c)) z = some (.lst (svs.take c)) := upd_same
    have nzq : z ≠ q := (ne_of_none hq1 nz).symm
    generalize upd H1 z (.lst (svs.take c)) = H2 at smz hz
    have fq := hM.free nq
    have fz := (hM.same smq).free nz
    have sm2 := Same.trans smq smz
    have hsc := hss.take c
    have hcl : (ss.take c).length ≤ ss.length := by rw [List.length_take]; omega
    generalize ss.take c = SS at hsc k hcl
    generalize svs.take c = SV at hsc hz
    refine q_forL (sqL hz) (fun i σ H' => ∃ a b, σ = [some (.ref M.m), some (.ref sl), some (.int c), some (.ref q), a, b] ∧ H' z = some (.lst SV) ∧ McAt P w T.C_Machine T.C_Notes T.C_Notary H' M g (S.run g (SS.take i)) ∧ Fr M H H' ∧
      ∃ ns : List Nat, H' q = some (.lst (ns.map fun n : Nat => V.int (n : Int))) ∧ ns.length = ((SS.take i).filter Stp.isSe).length) ⟨_, _, rfl, hz, hM.same sm2, Fr.same sm2, [], smz _ _ hq1, rfl⟩ ?_ ?_ ?_
    · rintro i σ H' hi ⟨a, b, rfl, h1, _⟩
      exact sqL h1
    · rintro i v σ H' hv ⟨a0, b0, rfl, hz', hM', hf, ns, hq', hns⟩
      have hi : i < SS.length := by rw [← hsc.1]; exact (List.getElem?_eq_some_iff.mp hv).1
      obtain ⟨v', hv', hst⟩ := hsc.2 i _ (List.getElem?_eq_getElem hi)
      cases hv.symm.trans hv'
      have hS := List.getElem?_eq_getElem hi
      generalize SS[i] = st at hst hS
      have hst' := hst.mono (hM.fr hf)
      have hlen := S.run_len g (SS.take i)
      have hti : (SS.take i).length = i := by rw [List.length_take]; omega
      have hnl : ns.length ≤ i := by rw [hns]; exact Nat.le_trans (List.length_filter_le _ _) (Nat.le_of_eq hti)
      rw [MS.run_next hS, filter_next hS]
      generalize S.run g (SS.take i) = S1 at hM' hlen
      obtain ⟨dx, fs, h1, h2, h3, h4, h5⟩ := hM'.ex
      obtain ⟨xs, n1, n2⟩ := hM'.nt
      obtain ⟨dy, gs, m1, m2, m3, m4, m5, m6⟩ := n1.ex
      have hxl := n2.length
      have zq : ∀ b, b = M.m ∨ b = M.x ∨ b = M.tl ∨ b = M.nd ∨ b = M.nt ∨ b = M.l → b ≠ q := fq
      have zz : ∀ b, b = M.m ∨ b = M.x ∨ b = M.tl ∨ b = M.nd ∨ b = M.nt ∨ b = M.l → b ≠ z := fz
      walk_at "my_rd"
      cases hst' with
      | @wr a ev e ha hev =>
        refine q_ixT (sqT ha) rfl ?_
        walk_at "my_rd"
        rw [show decide (("write" : Str) = "write") = true from by decide +kernel]
        walk_at "my_rd"
        refine q_fldK h1 T.cl_Machine T.n_Machine_notes h4 ?_
        refine q_methK m1 (m4 _ no_mc.2.1) fun R hR => ?_
        walk_at "my_rd"
        refine hR _ _ ⟨M.nt, M.l, xs, S1.f, ev, rfl, n1, by omega, fun hN => ?_⟩
        walk_at "my_rd"
        have kp : Kp M.l H' (upd H' M.l (.lst (xs ++ [ev]))) := Kp.upd Kp.refl
        generalize upd H' M.l (.lst (xs ++ [ev])) = H3 at hN kp
        exact ⟨_, _, rfl, kp _ _ hz' (zz _ (by simp)).symm, hM'.wr n2 m6 hev hN kp, hf.trans fun b o q1 z1 _ _ _ => kp _ _ q1 z1, ns, kp _ _ hq' (zq _ (by simp)).symm, by simpa [Stp.isSe] using hns⟩
      | @fl a ha =>
        refine q_ixT (sqT ha) rfl ?_
        walk_at "my_rd"
        rw [show decide (("flush" : Str) = "write") = false from by decide +kernel]
        walk_at "my_rd"
        rw [show decide (("flush" : Str) = "flush") = true from by decide +kernel]
        walk_at "my_rd"
        refine q_fldK h1 T.cl_Machine T.n_Machine_notes h4 ?_
        refine q_methK m1 (m4 _ no_mc.2.2.1) fun R hR => ?_
        walk_at "my_rd"
        refine hR _ _ ⟨M.nt, M.l, xs, S1.f, rfl, n1, fun H3 hN kp => ?_⟩
        walk_at "my_rd"
        exact ⟨_, _, rfl, kp _ _ hz' (zz _ (by simp)).symm, hM'.flu n2 m1 hN kp, hf.trans fun b o q1 _ z1 _ _ => kp _ _ q1 z1, ns, kp _ _ hq' (zq _ (by simp)).symm, by simpa [Stp.isSe] using hns⟩
      | @se a la kk ha hk hok =>
        refine q_ixT (sqT ha) rfl ?_
        walk_at "my_rd"
        rw [show decide (("seal" : Str) = "write") = false from by decide +kernel]
        walk_at "my_rd"
        rw [show decide (("seal" : Str) = "flush") = false from by decide +kernel]
        walk_at "my_rd"
        refine ⟨.ref la, kk.data, rfl, hk.tdp.dp (K := K), hok.f, fun H3 sm3 => ?_⟩
        rw [hok.d]
        walk_at "my_rd"
        have hM3 := hM'.same sm3
        have ha3 := sm3 _ _ ha
        refine q_fldK (sm3 _ _ h1) T.cl_Machine T.n_Machine_notary h3 ?_
        obtain ⟨dN, fN, xN, kN, g1, g2, g3, g4, g5, g6, g7, g8, g9⟩ := hM3.no.ex
        refine q_methK g1 (g4 _ no_mc.2.2.2.2) fun R hR => ?_
        walk_at "my_rd"
        refine q_fldK (sm3 _ _ h1) T.cl_Machine T.n_Machine_name h2 ?_
        walk_at "my_rd"
        refine hR _ _ ⟨M.x, M.tl, M.nd, la, S1.es, (g, kk), rfl, hM3.no, hk.mono fun b ys z => sm3 _ _ z, hok.d, hok.f, EnOk.of hg hok, by omega, fun j hj H4 sm4 => ?_, fun hne H4 hN4 kp4 => ?_⟩
        · have hq4 := sm4 _ _ (sm3 _ _ hq')
          walk_at "my_rd"
          rw [MS.step_old hj]
          have hM4 := hM3.same sm4
          refine ⟨_, _, rfl, upd_other nzq (sm4 _ _ (sm3 _ _ hz')), hM4.out hq4 zq, (hf.trans (Fr.same (Same.trans sm3 sm4))).upq nq, ns ++ [j], ?_, ?_⟩
          · rw [upd_same, List.map_append]; rfl
          · rw [List.length_append, hns]; rfl
        · walk_at "my_rd"
          have nqt : q ≠ M.tl := (zq _ (by simp)).symm
          have nqn : q ≠ M.nd := (zq _ (by simp)).symm
          have hq4 := kp4 _ _ (sm3 _ _ hq') nqt nqn
          refine q_append hq4 (small1000 (by rw [List.length_map]; omega)) ?_
          walk_at "my_rd"
          have hM4 := hM3.sea (pl_none.mpr hne) hN4 kp4
          refine ⟨_, _, rfl, upd_other nzq (kp4 _ _ (sm3 _ _ hz') (zz _ (by simp)).symm (zz _ (by simp)).symm), hM4.out hq4 zq, ((hf.trans (Fr.same sm3)).trans fun b o q1 _ _ z3 z4 => kp4 _ _ q1 z3 z4).upq nq, ns ++ [S1.es.length], ?_, ?_⟩
          · rw [upd_same, List.map_append]; rfl
          · rw [List.length_append, hns]; rfl
    · rintro σ H' ⟨a, b, rfl, hz', hM', hf, ns, hq', hns⟩
      rw [show SS.take SV.length = SS from by rw [hsc.1]; exact List.take_of_length_le (Nat.le_refl _)] at hM' hns
      walk_at "my_rd"
      exact k q H' ns nq hq' hns hM' hf
end

local macro_rules | `(tactic| walk_at "my_rd") => `(tactic| (repeat first
  | with_reducible refine q_tCons ?_
  | ((with_reducible apply q_var); (focus (exact rfl)))
  | with_reducible refine q_c ?_
  | ((with_reducible apply q_nxE); (focus (with_reducible exact rfl)))
  | with_reducible refine q_bK ?_
  | with_reducible refine q_call ?_
  | with_reducible refine q_callK ?_
  | with_reducible refine q_tNil ?_
  | with_reducible refine q_cb ?_
  | with_reducible refine q_seq ?_
  | with_reducible refine q_asg ?_
  | with_reducible refine q_gName ?_
  | with_reducible refine q_op ?_
  | with_reducible refine q_test ?_
  | with_reducible refine q_tB ?_
  | with_reducible refine q_ifS ?_
  | with_reducible refine q_ret ?_
  | ((with_reducible apply q_rtE); (focus (with_reducible exact rfl)))
  | with_reducible refine q_next ?_
  | with_reducible refine q_ifF ?_
  | with_reducible refine q_ifT ?_
  | with_reducible refine q_drop ?_
  | with_reducible refine q_and ?_
  | with_reducible refine q_or ?_
  | with_reducible refine q_andT ?_
  | with_reducible refine q_andF ?_
  | with_reducible refine q_orF ?_
  | with_reducible refine q_orT ?_
  | with_reducible refine q_andV ?_
  | with_reducible refine q_andVT ?_
  | with_reducible refine q_andVF ?_
  | with_reducible refine q_orV ?_
  | with_reducible refine q_gCons ?_
  | with_reducible refine q_gNil ?_
  | with_reducible refine q_tup ?_
  | with_reducible refine q_lst ?_
  | with_reducible refine q_not ?_
  | with_reducible refine q_notKT ?_
  | with_reducible refine q_notKF ?_
  | with_reducible refine q_I0 ?_
  | with_reducible refine q_eqI ?_
  | with_reducible refine q_neI ?_
  | ((with_reducible refine q_I ?_ ?_); first | decide | omega | exact ⟨by omega, by omega⟩ | exact ⟨by decide, by decide⟩ | exact .inl ⟨by omega, by omega⟩ | exact .inr ⟨by omega, by omega⟩ | exact .inr ⟨by decide, by decide⟩)
  | with_reducible refine q_eqS ?_
  | with_reducible refine q_neS ?_
  | with_reducible refine q_brk ?_
  | with_reducible refine q_ct ?_
  | ((with_reducible apply q_bkE); (focus (with_reducible exact rfl)))
  | ((with_reducible apply q_cnE); (focus (with_reducible exact rfl)))
  | with_reducible refine q_retN ?_
  | with_reducible refine q_gSub ?_
  | with_reducible refine q_for ?_
  | with_reducible refine q_iList ?_
  | with_reducible refine q_iTup ?_
  | with_reducible refine q_iRng1 ?_
  | with_reducible refine q_notK ?_
  | with_reducible refine q_orVT ?_
  | with_reducible refine q_orVF ?_
  | with_reducible refine q_notV ?_
  | with_reducible refine q_notVK ?_
  | with_reducible refine q_ifE ?_
  | with_reducible refine q_ifET ?_
  | with_reducible refine q_ifEF ?_
  | with_reducible refine q_yes ?_
  | with_reducible refine q_un ?_
  | with_reducible refine q_rU ?_
  | with_reducible refine q_abs ?_
  | with_reducible refine q_int1 ?_
  | with_reducible refine q_bm ?_
  | with_reducible refine q_bm0 ?_
  | with_reducible refine q_lc ?_
  | with_reducible refine q_keepT ?_
  | with_reducible refine q_keepF ?_
  | ((with_reducible apply q_aug); (focus (exact rfl)))
  | with_reducible refine q_ipI ?_
  | with_reducible refine q_chain ?_
  | with_reducible refine q_pairC ?_
  | with_reducible refine q_pairsK ?_
  | with_reducible refine q_pairN ?_
  | with_reducible refine q_fld ?_
  | with_reducible refine q_sFld ?_
  | with_reducible refine q_meth ?_
  | with_reducible refine q_makeK ?_
  | with_reducible refine q_isBl ?_
  | with_reducible refine q_notBl ?_
  | with_reducible refine q_sl ?_
  | with_reducible refine q_noPart ?_
  | with_reducible refine q_part ?_
  | with_reducible refine q_partK ?_
  | ((with_reducible apply q_mulStr); (focus (decide +kernel)))
  | with_reducible refine q_chT ?_
  | with_reducible refine q_chF ?_
  | with_reducible refine q_ord ?_
  | with_reducible refine q_iStr0 ?_
  | with_reducible refine q_iStr ?_
  | with_reducible refine q_tDIn ?_
  | with_reducible refine q_tDNotIn ?_
  | with_reducible refine q_tDGet ?_
  | with_reducible refine q_tDGet2 ?_
  | with_reducible refine q_tDGet1 ?_
  | with_reducible refine q_tDSetd ?_
  | ((with_reducible apply q_dG2a); (focus ((repeat first | (with_reducible exact upd_same) | (with_reducible assumption) | (with_reducible apply upd_new (by assumption)) | (with_reducible apply upd_other (by first | assumption | exact Ne.symm (by assumption))) | (with_reducible refine' Kp.get (by assumption) ?_ (by first | assumption | exact Ne.symm (by assumption))) | (with_reducible apply Same.get (by assumption))); done)))
  | ((with_reducible apply q_dSda); (focus ((repeat first | (with_reducible exact upd_same) | (with_reducible assumption) | (with_reducible apply upd_new (by assumption)) | (with_reducible apply upd_other (by first | assumption | exact Ne.symm (by assumption))) | (with_reducible refine' Kp.get (by assumption) ?_ (by first | assumption | exact Ne.symm (by assumption))) | (with_reducible apply Same.get (by assumption))); done)))
  | with_reducible refine q_sDPut ?_
  | ((with_reducible apply q_dInS); (focus ((repeat first | (with_reducible exact upd_same) | (with_reducible assumption) | (with_reducible apply upd_new (by assumption)) | (with_reducible apply upd_other (by first | assumption | exact Ne.symm (by assumption))) | (with_reducible refine' Kp.get (by assumption) ?_ (by first | assumption | exact Ne.symm (by assumption))) | (with_reducible apply Same.get (by assumption))); done)))
  | ((with_reducible apply q_dNInS); (focus ((repeat first | (with_reducible exact upd_same) | (with_reducible assumption) | (with_reducible apply upd_new (by assumption)) | (with_reducible apply upd_other (by first | assumption | exact Ne.symm (by assumption))) | (with_reducible refine' Kp.get (by assumption) ?_ (by first | assumption | exact Ne.symm (by assumption))) | (with_reducible apply Same.get (by assumption))); done)))
  | ((with_reducible apply q_dInI); (focus ((repeat first | (with_reducible exact upd_same) | (with_reducible assumption) | (with_reducible apply upd_new (by assumption)) | (with_reducible apply upd_other (by first | assumption | exact Ne.symm (by assumption))) | (with_reducible refine' Kp.get (by assumption) ?_ (by first | assumption | exact Ne.symm (by assumption))) | (with_reducible apply Same.get (by assumption))); done)))
  | ((with_reducible apply q_dNInI); (focus ((repeat first | (with_reducible exact upd_same) | (with_reducible assumption) | (with_reducible apply upd_new (by assumption)) | (with_reducible apply upd_other (by first | assumption | exact Ne.symm (by assumption))) | (with_reducible refine' Kp.get (by assumption) ?_ (by first | assumption | exact Ne.symm (by assumption))) | (with_reducible apply Same.get (by assumption))); done)))
  | ((with_reducible apply q_bmL); (focus ((repeat first | (with_reducible exact upd_same) | (with_reducible assumption) | (with_reducible apply upd_new (by assumption)) | (with_reducible apply upd_other (by first | assumption | exact Ne.symm (by assumption))) | (with_reducible refine' Kp.get (by assumption) ?_ (by first | assumption | exact Ne.symm (by assumption))) | (with_reducible apply Same.get (by assumption))); done)))
  | ((with_reducible apply q_bmL0); (focus ((repeat first | (with_reducible exact upd_same) | (with_reducible assumption) | (with_reducible apply upd_new (by assumption)) | (with_reducible apply upd_other (by first | assumption | exact Ne.symm (by assumption))) | (with_reducible refine' Kp.get (by assumption) ?_ (by first | assumption | exact Ne.symm (by assumption))) | (with_reducible apply Same.get (by assumption))); done)))
  | ((with_reducible apply q_ixLt); (focus ((repeat first | (with_reducible exact upd_same) | (with_reducible assumption) | (with_reducible apply upd_new (by assumption)) | (with_reducible apply upd_other (by first | assumption | exact Ne.symm (by assumption))) | (with_reducible refine' Kp.get (by assumption) ?_ (by first | assumption | exact Ne.symm (by assumption))) | (with_reducible apply Same.get (by assumption))); done)); (focus (exact rfl)))
  | ((with_reducible apply q_ixTt); (focus ((repeat first | (with_reducible exact upd_same) | (with_reducible assumption) | (with_reducible apply upd_new (by assumption)) | (with_reducible apply upd_other (by first | assumption | exact Ne.symm (by assumption))) | (with_reducible refine' Kp.get (by assumption) ?_ (by first | assumption | exact Ne.symm (by assumption))) | (with_reducible apply Same.get (by assumption))); done)); (focus (exact rfl)))
  | ((with_reducible apply q_lenLt); (focus ((repeat first | (with_reducible exact upd_same) | (with_reducible assumption) | (with_reducible apply upd_new (by assumption)) | (with_reducible apply upd_other (by first | assumption | exact Ne.symm (by assumption))) | (with_reducible refine' Kp.get (by assumption) ?_ (by first | assumption | exact Ne.symm (by assumption))) | (with_reducible apply Same.get (by assumption))); done)))
  | ((with_reducible apply q_lenTt); (focus ((repeat first | (with_reducible exact upd_same) | (with_reducible assumption) | (with_reducible apply upd_new (by assumption)) | (with_reducible apply upd_other (by first | assumption | exact Ne.symm (by assumption))) | (with_reducible refine' Kp.get (by assumption) ?_ (by first | assumption | exact Ne.symm (by assumption))) | (with_reducible apply Same.get (by assumption))); done)))
  | ((with_reducible apply q_append); (focus ((repeat first | (with_reducible exact upd_same) | (with_reducible assumption) | (with_reducible apply upd_new (by assumption)) | (with_reducible apply upd_other (by first | assumption | exact Ne.symm (by assumption))) | (with_reducible refine' Kp.get (by assumption) ?_ (by first | assumption | exact Ne.symm (by assumption))) | (with_reducible apply Same.get (by assumption))); done)); (focus ((first | (exact Nat.lt_of_ble_eq_true rfl) | (simp only [List.length_append, List.length_cons, List.length_nil, List.length_map]; exact small1000 (by omega))))))
  | ((with_reducible apply q_setL); (focus ((repeat first | (with_reducible exact upd_same) | (with_reducible assumption) | (with_reducible apply upd_new (by assumption)) | (with_reducible apply upd_other (by first | assumption | exact Ne.symm (by assumption))) | (with_reducible refine' Kp.get (by assumption) ?_ (by first | assumption | exact Ne.symm (by assumption))) | (with_reducible apply Same.get (by assumption))); done)); (focus (exact rfl)))
  | with_reducible refine q_ifNT ?_
  | with_reducible refine q_ifNF ?_
  | with_reducible refine q_andNT ?_
  | with_reducible refine q_andNF ?_
  | with_reducible refine q_orNT ?_
  | with_reducible refine q_orNF ?_
  | with_reducible refine q_bKNT ?_
  | with_reducible refine q_bKNF ?_
  | with_reducible refine q_tNGet ?_
  | with_reducible refine q_tNIn ?_
  | with_reducible refine q_sNPut ?_
  | with_reducible refine q_sFldAug ?_
  | with_reducible refine q_sDAug ?_
  | with_reducible refine q_sDDel ?_
  | with_reducible refine q_forX ?_
  | with_reducible refine q_tMake ?_
  | ((with_reducible apply q_dG1a); (focus ((repeat first | (with_reducible exact upd_same) | (with_reducible assumption) | (with_reducible apply upd_new (by assumption)) | (with_reducible apply upd_other (by first | assumption | exact Ne.symm (by assumption))) | (with_reducible refine' Kp.get (by assumption) ?_ (by first | assumption | exact Ne.symm (by assumption))) | (with_reducible apply Same.get (by assumption))); done)))))
/-! approving -/
theorem StpsAt.nil {H : Hp} : StpsAt H [] [] := ⟨rfl, fun i s h => by simp at h⟩
theorem StpsAt.cons {H : Hp} {v : V} {s : Stp} {vs : List V} {ss : List Stp} (h : StpAt H v s) (t : StpsAt H vs ss) : StpsAt H (v :: vs) (s :: ss) := by
  refine ⟨congrArg (· + 1) t.1, fun i s' hs => ?_⟩
  cases i with
  | zero => cases hs; exact ⟨v, rfl, h⟩
  | succ i =>
    obtain ⟨v', h1, h2⟩ := t.2 i s' (by simpa using hs)
    exact ⟨v', by simpa using h1, h2⟩
def entK (n : Int) (gk : NestedKey) : NestedKey := .tup [.text "approved", .num n, gk]
def preK (n : Int) : NestedKey := .tup [.text "approved", .num n]
def rotK (n : Int) (gk : NestedKey) : NestedKey := .tup [.text "rotate", .text "both", .num n, gk]
def pre : NestedKey → NestedKey
  | .tup ks => .tup (ks.take 2)
  | k => k
structure JOk (k : NestedKey) : Prop where
  t : ∃ ks, k = .tup ks
  l : k.data.canLay0 = true
  d : k.data.depth ≤ 10
def hit (js : List NestedKey) (n : Int) : Bool := js.any fun k => decide (pre k = preK n)
def appr (js : List NestedKey) (n : Int) (gk : NestedKey) : List Stp := if entK n gk ∈ js then [.fl, .se (rotK n gk)] else [.wr (entK n gk), .fl, .se (rotK n gk)]
theorem datas_map : ∀ T : List NestedKey, NestedKey.datas T = T.map NestedKey.data
  | [] => by simp [NestedKey.datas]
  | k :: r => by simp only [NestedKey.datas, List.map_cons]; rw [datas_map r]
theorem any_in {T : List NestedKey} {k : NestedKey} : ((T.map NestedKey.data).any fun z => PyData.eqv z k.data) = decide (k ∈ T) := by
  rw [List.any_map]
  by_cases h : k ∈ T
  · rw [decide_eq_true h, List.any_eq_true]
    exact ⟨k, h, by show PyData.eqv k.data k.data = true; rw [key_dec, decide_eq_true rfl]⟩
  · rw [decide_eq_false h, List.any_eq_false]
    intro x hx q
    have q2 : PyData.eqv x.data k.data = true := q
    rw [key_dec] at q2
    exact h (of_decide_eq_true q2 ▸ hx)
theorem take_lay : ∀ (ks : List NestedKey) (n : Nat), PyData.canLayAll0 (NestedKey.datas ks) = true → PyData.canLayAll0 (NestedKey.datas (ks.take n)) = true ∧ PyData.depthAll (NestedKey.datas (ks.take n)) ≤ PyData.depthAll (NestedKey.datas ks)
  | [], n, h => by rw [List.take_nil]; exact ⟨h, Nat.le_refl _⟩
  | k :: ks, 0, h => by rw [List.take_zero]; exact ⟨by simp [NestedKey.datas, PyData.canLayAll0], by simp [NestedKey.datas, PyData.depthAll]⟩
  | k :: ks, n + 1, h => by
    rw [List.take_succ_cons]
    simp only [NestedKey.datas, PyData.canLayAll0, Bool.and_eq_true] at h
    obtain ⟨i1, i2⟩ := take_lay ks n h.2
    simp only [NestedKey.datas, PyData.canLayAll0, PyData.depthAll]
    exact ⟨by rw [h.1, i1]; rfl, by omega⟩
theorem JOk.sh {k : NestedKey} (h : JOk k) : SeqAt.shaped k.data = true := shaped_of h.l (by have := h.d; omega)
theorem JOk.pre {k : NestedKey} (h : JOk k) : SeqAt.shaped (pre k).data = true := by
  obtain ⟨ks, rfl⟩ := h.t
  have h1 := h.l
  have h2 := h.d
  simp only [NestedKey.data, PyData.canLay0, PyData.depth] at h1 h2
  obtain ⟨i1, i2⟩ := take_lay ks 2 h1
  refine shaped_of ?_ ?_
  · simp only [Pf.pre, NestedKey.data, PyData.canLay0]; exact i1
  · simp only [Pf.pre, NestedKey.data, PyData.depth]; omega
theorem NVs.dps {K : PySem.W.Frag} {H : Hp} {T : List NestedKey} {ws : List V} (h : NVs H T ws) : DpAll K H ws (T.map NestedKey.data) := by
  rw [← datas_map]
  exact h.tdps.dp
theorem NVs.at_ {H : Hp} : ∀ {T : List NestedKey} {ws : List V} {i : Nat} {v : V}, NVs H T ws → ws[i]? = some v → ∃ k, T[i]? = some k ∧ NV H k v
  | _, _, i, v, .nil, h => by simp at h
  | _, _, 0, v, .cons a b, h => ⟨_, rfl, by cases h; exact a⟩
  | _, _, i + 1, v, .cons a b, h => by
    obtain ⟨k, h1, h2⟩ := NVs.at_ b (by simpa using h)
    exact ⟨k, by simpa using h1, h2⟩
structure GOk (gk : NestedKey) : Prop where
  s : FineS gk.data
  b : FineB gk.data
  l : gk.data.canLay0 = true
  d : gk.data.depth ≤ 3
def sp_app (K : PySem.W.Frag) (CA CI : Addr) : Sp := fun vs H Q E => ∃ (jl gv : Addr) (n : Int) (gk : NestedKey) (xs : List V) (js : List NestedKey), vs = [.ref jl, .int n, .ref gv] ∧ H jl = some (.lst xs) ∧ NVs H js xs ∧ (∀ k ∈ js, JOk k) ∧ js.length ≤ 900 ∧ NV H gk (.ref gv) ∧ GOk gk ∧
  ((n < 1 ∨ setD gk.data = false) → ∀ H', Same H H' → E (.ref CI) none H') ∧
  (1 ≤ n → setD gk.data = true → entK n gk ∉ js → hit js n = true → ∀ H', Same H H' → E (.ref CA) none H') ∧
  (1 ≤ n → setD gk.data = true → (entK n gk ∈ js ∨ hit js n = false) → ∀ (q : Addr) (svs : List V) (H' : Hp), Same H H' → H q = none → H' q = some (.lst svs) → StpsAt H' svs (appr js n gk) → Q (.ref q) H')
theorem rot_ok {n : Int} {gk : NestedKey} (h : GOk gk) (h1 : 1 ≤ n) (h2 : setD gk.data = true) : LetOk (rotK n gk) := by
  have e : (rotK n gk).data = .tuple [.str "rotate", .str "both", .int n, gk.data] := by simp [rotK, NestedKey.data, NestedKey.datas]
  refine ⟨?_, ?_, ?_, ?_⟩
  · rw [e, letterD_eq]
    rw [if_pos (by decide +kernel), h2, Bool.and_true]
    rw [show isS "both" (.str "both") = true from by decide +kernel, Bool.true_and]
    simp [leastD]
    exact h1
  · rw [e]; exact fineL4 rfl rfl trivial h.b (by decide +kernel)
  · rw [e]; simp [PyData.canLay0, PyData.canLayAll0, both_ok, h.l, (show PyData.strOk "rotate" = true from by decide +kernel)]
  · rw [e]; have := h.d; simp only [PyData.depth, PyData.depthAll]; omega
theorem ent_ok {n : Int} {gk : NestedKey} (h : GOk gk) : JOk (entK n gk) := by
  have e : (entK n gk).data = .tuple [.str "approved", .int n, gk.data] := by simp [entK, NestedKey.data, NestedKey.datas]
  refine ⟨⟨_, rfl⟩, ?_, ?_⟩
  · rw [e]; simp [PyData.canLay0, PyData.canLayAll0, h.l, (show PyData.strOk "approved" = true from by decide +kernel)]
  · rw [e]; have := h.d; simp only [PyData.depth, PyData.depthAll]; omega
section
variable {P : Program} {w : World} {K : PySem.W.Frag} {mg : Str → Option Value} {base : Heap}
theorem ok_approve (T : Txt K mg) : FnOk P w K mg base (L2.CX P w) 6 T.f_approve T.d_approve ["journal", "number", "guards"] (sp_app K T.C_AlreadyApproved T.C_InvalidArgument) := by
  refine T.F_approve.okX sc_approve (fun vs H Q E h => ?_) (fun cdv A outer s H vs Q E hr h => ?_)
  · obtain ⟨jl, gv, n, gk, xs, js, rfl, _⟩ := h; rfl
  · obtain ⟨jl, gv, n, gk, xs, js, rfl, hj, hnv, hjo, hjl, hg, hgo, kI, kA, kQ⟩ := h
    have hu := hu_of hr
    have hn := hn_of hr
    refine ⟨_, (pss_cons (ps_if (PW.pt (pw_or (pt_cmpR op_lt (pv 1) pe_int (nomark _)) (pw_or1 (pt_not (pt_val (pe_call (ok_is_set T) (hr.mono (by decide)) (by rfl) T.g_is_set T.F_is_set.kp T.b_is_set .nil pass0 (pa_cons (pv 2) pa_nil))))))) (pss_one (ps_raise rfl (takes_of rfl rfl rfl rfl) (pmk_own PySem.F.excBase_ValueError T.xe_InvalidArgument T.g_InvalidArgument T.ke_InvalidArgument (raises_own T.be_InvalidArgument T.te_InvalidArgument) (by exact rfl)))) pss_nil)
      (pss_cons (ps_set (i := 3) sc_approve.nd rfl (Or.inr rfl) (pe_tup (pa_cons pe_str (pa_cons (pv 1) (pa_cons (pv 2) pa_nil)))))
      (pss_cons (ps_set (i := 4) sc_approve.nd rfl (Or.inl rfl) (pe_lst (pa_cons (pe_tup (pa_cons pe_str pa_nil)) (pa_cons (pe_tup (pa_cons pe_str (pa_cons (pe_tup (pa_cons pe_str (pa_cons pe_str (pa_cons (pv 1) (pa_cons (pv 2) pa_nil))))) pa_nil))) pa_nil))))
      (pss_cons (ps_if (pt_cmpR (op_inD (hr65 hr)) (pv 3) (pv 0) (by rfl)) (pss_one (ps_ret (pv 4))) pss_nil)
      (pss_cons (ps_if (pt_truth (pe_lc (own := [("other", 5)]) (g := (gName 5)) (tt := (tTest (tOp (rEqD K) (tSl (rSlA K) (tVar 5) tNoPart (tPart (tC (.int 2)))) (tSl (rSlA K) (tVar 3) tNoPart (tPart (tC (.int 2))))))) (te := (tVar 5)) rfl sc_approve.nd (pi_list (pv 0)) (blkOk_by (own := [("other", 5)]) (N := ["journal", "number", "guards", "entry", "steps", "other"]) (sc := defScope s_approve) (by decide +kernel)) (fun _ _ _ _ _ => (pg_name (i := 5) sc_approve.nd rfl (Or.inl rfl))) (fun _ _ _ _ _ => (pts_one (pt_cmpR (op_eqD hr.units) (pe_slice sl_tupA (pv 5) po_none (po_some pe_int)) (pe_slice sl_tupA (pv 3) po_none (po_some pe_int)) (nomark _)))) (fun _ _ _ _ _ => (pv 5))) (by intro _; rfl)) (pss_one (ps_raise rfl (takes_of rfl rfl rfl rfl) (pmk_own PySem.F.excBase_ValueError T.xe_AlreadyApproved T.g_AlreadyApproved T.ke_AlreadyApproved (raises_own T.be_AlreadyApproved T.te_AlreadyApproved) (by exact rfl)))) pss_nil)
      (pss_one (ps_ret (pe_op op_cat (pe_lst (pa_cons (pe_tup (pa_cons pe_str (pa_cons (pv 3) pa_nil))) pa_nil)) (pv 4))))))))), ?_⟩
    (dsimp only [cxOf, Cx.nox, Cx.wish, L2.start, List.map, List.length, List.replicate, List.cons_append, List.nil_append, List.append_eq, Nat.reduceSub, Nat.reduceAdd])
    walk_at "my_rd"
    by_cases hn1 : n < 1
    · rw [decide_eq_true hn1]
      walk_at "my_rd"
      exact kI (.inl hn1) _ (Same.refl _)
    · rw [decide_eq_false hn1]
      walk_at "my_rd"
      refine ⟨.ref gv, gk.data, rfl, hg.tdp.dp (K := K), hgo.s, fun H1 sm1 => ?_⟩
      by_cases hsd : setD gk.data = true
      · rw [hsd]
        walk_at "my_rd"
        refine q_tupK (Nat.le_of_ble_eq_true rfl) fun a na => ?_
        walk_at "my_rd"
        have sma : Same H1 (upd H1 a (.tup [.str "approved", .int n, .ref gv])) := Same.up (Same.refl _) na
        have haE : upd H1 a (.tup [.str "approved", .int n, .ref gv]) a = some (.tup [.str "approved", .int n, .ref gv]) := upd_same
        generalize upd H1 a (.tup [.str "approved", .int n, .ref gv]) = H2 at sma haE
        refine q_tupK (Nat.le_of_ble_eq_true rfl) fun f nf => ?_
        walk_at "my_rd"
        refine q_tupK (Nat.le_of_ble_eq_true rfl) fun r nr => ?_
        walk_at "my_rd"
        refine q_tupK (Nat.le_of_ble_eq_true rfl) fun z nz => ?_
        walk_at "my_rd"
        refine q_lstK (Nat.le_of_ble_eq_true rfl) fun S nS => ?_
        walk_at "my_rd"
        have sm7 : Same H2 (upd (upd (upd (upd H2 f (.tup [.str "flush"])) r (.tup [.str "rotate", .str "both", .int n, .ref gv])) z (.tup [.str "seal", .ref r])) S (.lst [.ref f, .ref z])) := Same.up (Same.up (Same.up (Same.up (Same.refl _) nf) nr) nz) nS
        have hS7 : (upd (upd (upd (upd H2 f (.tup [.str "flush"])) r (.tup [.str "rotate", .str "both", .int n, .ref gv])) z (.tup [.str "seal", .ref r])) S (.lst [.ref f, .ref z])) S = some (.lst [.ref f, .ref z]) := upd_same
        have hf7 : (upd (upd (upd (upd H2 f (.tup [.str "flush"])) r (.tup [.str "rotate", .str "both", .int n, .ref gv])) z (.tup [.str "seal", .ref r])) S (.lst [.ref f, .ref z])) f = some (.tup [.str "flush"]) := upd_new nS (upd_new nz (upd_new nr upd_same))
        have hr7 : (upd (upd (upd (upd H2 f (.tup [.str "flush"])) r (.tup [.str "rotate", .str "both", .int n, .ref gv])) z (.tup [.str "seal", .ref r])) S (.lst [.ref f, .ref z])) r = some (.tup [.str "rotate", .str "both", .int n, .ref gv]) := upd_new nS (upd_new nz upd_same)
        have hz7 : (upd (upd (upd (upd H2 f (.tup [.str "flush"])) r (.tup [.str "rotate", .str "both", .int n, .ref gv])) z (.tup [.str "seal", .ref r])) S (.lst [.ref f, .ref z])) z = some (.tup [.str "seal", .ref r]) := upd_new nS upd_same
        have nS0 : H S = none := Same.free sm1 (Same.free sma (upd_none_back (upd_none_back (upd_none_back nS))))
        generalize (upd (upd (upd (upd H2 f (.tup [.str "flush"])) r (.tup [.str "rotate", .str "both", .int n, .ref gv])) z (.tup [.str "seal", .ref r])) S (.lst [.ref f, .ref z])) = H7 at sm7 hS7 hf7 hr7 hz7
        have sm : Same H H7 := Same.trans sm1 (Same.trans sma sm7)
        have hg7 : NV H7 gk (.ref gv) := hg.mono fun b ys q => sm _ _ q
        have hlo : LetOk (rotK n gk) := rot_ok hgo (by omega) hsd
        have hrot : NV H7 (rotK n gk) (.ref r) := .tup hr7 (.cons (.str _) (.cons (.str _) (.cons (.int _) (.cons hg7 .nil))))
        have hent : NV H7 (entK n gk) (.ref a) := .tup (sm7 _ _ haE) (.cons (.str _) (.cons (.int _) (.cons hg7 .nil)))
        have hj7 := sm _ _ hj
        have hnv7 : NVs H7 js xs := NVs.mono (fun b ys q => sm _ _ q) hnv
        refine q_inD hent.tdp.dp (.lst (sqL hj7) hnv7.dps) (ent_ok hgo).sh (shaped_l NestedKey.data 10 (by omega) js fun k hk => ⟨(hjo k hk).l, (hjo k hk).d⟩) ?_
        rw [any_in]
        have two : StpsAt H7 [.ref f, .ref z] [.fl, .se (rotK n gk)] := .cons (.fl hf7) (.cons (.se hz7 hrot hlo) .nil)
        by_cases hm : entK n gk ∈ js
        · rw [decide_eq_true hm]
          walk_at "my_rd"
          exact kQ (by omega) hsd (.inl hm) S _ H7 sm nS0 hS7 (by unfold appr; rw [if_pos hm]; exact two)
        · rw [decide_eq_false hm]
          walk_at "my_rd"
          refine q_lcL (sqL hj7) fun D nD => ?_
          have nDS : S ≠ D := ne_of_none hS7 nD
          refine ⟨fun i H' => Same H7 H' ∧ ∃ ys, H' D = some (.lst ys) ∧ ys.length ≤ i ∧ (ys = [] ↔ hit (js.take i) n = false), ⟨Same.up (Same.refl _) nD, [], upd_same, Nat.le_refl _, by simp [hit]⟩, fun i H' hi q => sqL (q.1 _ _ hj7), ?_, ?_⟩
          · rintro i v H' hv ⟨sm8, ys, hD, hyl, hye⟩
            obtain ⟨k1, hk1, hv1⟩ := hnv7.at_ hv
            walk_at "my_rd"
            refine ⟨rfl, ?_⟩
            walk_at "my_rd"
            obtain ⟨ks, rfl⟩ := (hjo k1 (List.mem_of_getElem? hk1)).t
            obtain ⟨b, vs', rfl, hb, hvs⟩ : ∃ b vs', v = .ref b ∧ H7 b = some (.tup vs') ∧ NVs H7 ks vs' := by cases hv1 with | tup h1 h2 => exact ⟨_, _, rfl, h1, h2⟩
            refine q_slA (sm8 _ _ hb) fun p1 H9 s9 hp1 => ?_
            walk_at "my_rd"
            refine q_slA (s9 _ _ (sm8 _ _ (sm7 _ _ haE))) fun p2 H10 s10 hp2 => ?_
            have t10 : ∀ b ys, H7 b = some (HO.tup ys) → H10 b = some (.tup ys) := fun b ys q => s10 _ _ (s9 _ _ (sm8 _ _ q))
            have e1 : NV H10 (pre (.tup ks)) (.ref p1) := .tup (s10 _ _ hp1) (by rw [show cutV vs' none (some 2) = vs'.take 2 from cut_any 2]; exact NVs.mono t10 (NVs.take 2 hvs))
            have e2 : NV H10 (preK n) (.ref p2) := .tup hp2 (by rw [show cutV [V.str "approved", .int n, .ref gv] none (some 2) = [V.str "approved", .int n].take 2 from cut_any 2]; exact .cons (.str _) (.cons (.int _) .nil))
            refine q_eqD (d := (pre (.tup ks)).data) (e := (preK n).data) e1.tdp.dp e2.tdp.dp (hjo _ (List.mem_of_getElem? hk1)).pre (by
              have := (ent_ok (n := n) hgo).pre
              exact this) ?_
            rw [key_dec]
            have eh : hit (js.take (i + 1)) n = (hit (js.take i) n || decide (pre (.tup ks) = preK n)) := by
              rw [take_next hk1]
              unfold hit
              rw [List.any_append, List.any_cons, List.any_nil, Bool.or_false]
            have hD10 : H10 D = some (.lst ys) := s10 _ _ (s9 _ _ hD)
            by_cases hp : pre (.tup ks) = preK n
            · rw [decide_eq_true hp]
              walk_at "my_rd"
              refine q_accK hD10 (small1000 (by have := hnv7.length; have := (List.getElem?_eq_some_iff.mp hv).1; omega)) ?_
              exact ⟨fun b o q => upd_other (ne_of_none q nD) (s10 _ _ (s9 _ _ (sm8 _ _ q))), _, upd_same, by rw [List.length_append]; simp; omega, by rw [eh, decide_eq_true hp, Bool.or_true]; simp⟩
            · rw [decide_eq_false hp]
              walk_at "my_rd"
              exact ⟨fun b o q => s10 _ _ (s9 _ _ (sm8 _ _ q)), ys, hD10, by omega, by rw [eh, decide_eq_false hp, Bool.or_false]; exact hye⟩
          · rintro H' ⟨sm8, ys, hD, hyl, hye⟩
            rw [List.take_of_length_le (by rw [hnv7.length]; exact Nat.le_refl _)] at hye
            refine ⟨_, .inl ⟨ys, sqL hD, rfl⟩, ?_⟩
            have sm9 : Same H H' := Same.trans sm sm8
            cases hh : hit js n with
            | true =>
              have : ys ≠ [] := fun q => by rw [hye.mp q] at hh; cases hh
              rw [show ys.isEmpty = false from by cases ys with | nil => exact absurd rfl this | cons => rfl]
              walk_at "my_rd"
              exact kA (by omega) hsd hm hh _ sm9
            | false =>
              rw [hye.mpr hh, show (!(([] : List V).isEmpty)) = false from rfl]
              walk_at "my_rd"
              refine q_tupK (Nat.le_of_ble_eq_true rfl) fun W nW => ?_
              walk_at "my_rd"
              refine q_lstK (Nat.le_of_ble_eq_true rfl) fun L nL => ?_
              walk_at "my_rd"
              have smL : Same H' (upd (upd H' W (.tup [.str "write", .ref a])) L (.lst [.ref W])) := Same.up (Same.up (Same.refl _) nW) nL
              have hLL : upd (upd H' W (.tup [.str "write", .ref a])) L (.lst [.ref W]) L = some (.lst [.ref W]) := upd_same
              have hWW : upd (upd H' W (.tup [.str "write", .ref a])) L (.lst [.ref W]) W = some (.tup [.str "write", .ref a]) := upd_new nL upd_same
              generalize upd (upd H' W (.tup [.str "write", .ref a])) L (.lst [.ref W]) = HL at smL hLL hWW
              have smx : Same H7 HL := Same.trans sm8 smL
              refine ⟨L, S, _, _, rfl, rfl, hLL, smx _ _ hS7, by show 1 + 2 ≤ sizeLine; exact small1000 (by decide), fun q nq => ?_⟩
              walk_at "my_rd"
              have t9 : ∀ b ys, H7 b = some (HO.tup ys) → upd HL q (.lst [.ref W, .ref f, .ref z]) b = some (.tup ys) := fun b ys z => upd_new nq (smx _ _ z)
              refine kQ (by omega) hsd (.inr hh) q [.ref W, .ref f, .ref z] _ (fun b o z => upd_new nq (smx _ _ (sm _ _ z))) (Same.free sm (Same.free smx nq)) upd_same ?_
              unfold appr
              rw [if_neg hm]
              exact .cons (.wr (upd_new nq hWW) (hent.mono t9)) (two.mono t9)
      · have hsd : setD gk.data = false := by simpa using hsd
        rw [hsd]
        walk_at "my_rd"
        exact kI (.inr hsd) _ sm1
end

local macro_rules | `(tactic| walk_at "my_rd") => `(tactic| (repeat first
  | with_reducible refine q_tCons ?_
  | ((with_reducible apply q_var); (focus (exact rfl)))
  | with_reducible refine q_c ?_
  | ((with_reducible apply q_nxE); (focus (with_reducible exact rfl)))
  | with_reducible refine q_bK ?_
  | with_reducible refine q_call ?_
  | with_reducible refine q_callK ?_
  | with_reducible refine q_tNil ?_
  | with_reducible refine q_cb ?_
  | with_reducible refine q_seq ?_
  | with_reducible refine q_asg ?_
  | with_reducible refine q_gName ?_
  | with_reducible refine q_op ?_
  | with_reducible refine q_test ?_
  | with_reducible refine q_tB ?_
  | with_reducible refine q_ifS ?_
  | with_reducible refine q_ret ?_
  | ((with_reducible apply q_rtE); (focus (with_reducible exact rfl)))
  | with_reducible refine q_next ?_
  | with_reducible refine q_ifF ?_
  | with_reducible refine q_ifT ?_
  | with_reducible refine q_drop ?_
  | with_reducible refine q_and ?_
  | with_reducible refine q_or ?_
  | with_reducible refine q_andT ?_
  | with_reducible refine q_andF ?_
  | with_reducible refine q_orF ?_
  | with_reducible refine q_orT ?_
  | with_reducible refine q_andV ?_
  | with_reducible refine q_andVT ?_
  | with_reducible refine q_andVF ?_
  | with_reducible refine q_orV ?_
  | with_reducible refine q_gCons ?_
  | with_reducible refine q_gNil ?_
  | with_reducible refine q_tup ?_
  | with_reducible refine q_lst ?_
  | with_reducible refine q_not ?_
  | with_reducible refine q_notKT ?_
  | with_reducible refine q_notKF ?_
  | with_reducible refine q_I0 ?_
  | with_reducible refine q_eqI ?_
  | with_reducible refine q_neI ?_
  | ((with_reducible refine q_I ?_ ?_); first | decide | omega | exact ⟨by omega, by omega⟩ | exact ⟨by decide, by decide⟩ | exact .inl ⟨by omega, by omega⟩ | exact .inr ⟨by omega, by omega⟩ | exact .inr ⟨by decide, by decide⟩)
  | with_reducible refine q_eqS ?_
  | with_reducible refine q_neS ?_
  | with_reducible refine q_brk ?_
  | with_reducible refine q_ct ?_
  | ((with_reducible apply q_bkE); (focus (with_reducible exact rfl)))
  | ((with_reducible apply q_cnE); (focus (with_reducible exact rfl)))
  | with_reducible refine q_retN ?_
  | with_reducible refine q_gSub ?_
  | with_reducible refine q_for ?_
  | with_reducible refine q_iList ?_
  | with_reducible refine q_iTup ?_
  | with_reducible refine q_iRng1 ?_
  | with_reducible refine q_notK ?_
  | with_reducible refine q_orVT ?_
  | with_reducible refine q_orVF ?_
  | with_reducible refine q_notV ?_
  | with_reducible refine q_notVK ?_
  | with_reducible refine q_ifE ?_
  | with_reducible refine q_ifET ?_
  | with_reducible refine q_ifEF ?_
  | with_reducible refine q_yes ?_
  | with_reducible refine q_un ?_
  | with_reducible refine q_rU ?_
  | with_reducible refine q_abs ?_
  | with_reducible refine q_int1 ?_
  | with_reducible refine q_bm ?_
  | with_reducible refine q_bm0 ?_
  | with_reducible refine q_lc ?_
  | with_reducible refine q_keepT ?_
  | with_reducible refine q_keepF ?_
  | ((with_reducible apply q_aug); (focus (exact rfl)))
  | with_reducible refine q_ipI ?_
  | with_reducible refine q_chain ?_
  | with_reducible refine q_pairC ?_
  | with_reducible refine q_pairsK ?_
  | with_reducible refine q_pairN ?_
  | with_reducible refine q_fld ?_
  | with_reducible refine q_sFld ?_
  | with_reducible refine q_meth ?_
  | with_reducible refine q_makeK ?_
  | with_reducible refine q_isBl ?_
  | with_reducible refine q_notBl ?_
  | with_reducible refine q_sl ?_
  | with_reducible refine q_noPart ?_
  | with_reducible refine q_part ?_
  | with_reducible refine q_partK ?_
  | ((with_reducible apply q_mulStr); (focus (decide +kernel)))
  | with_reducible refine q_chT ?_
  | with_reducible refine q_chF ?_
  | with_reducible refine q_ord ?_
  | with_reducible refine q_iStr0 ?_
  | with_reducible refine q_iStr ?_
  | with_reducible refine q_tDIn ?_
  | with_reducible refine q_tDNotIn ?_
  | with_reducible refine q_tDGet ?_
  | with_reducible refine q_tDGet2 ?_
  | with_reducible refine q_tDGet1 ?_
  | with_reducible refine q_tDSetd ?_
  | ((with_reducible apply q_dG2a); (focus ((repeat first | (with_reducible exact upd_same) | (with_reducible assumption) | (with_reducible apply upd_new (by assumption)) | (with_reducible apply upd_other (by first | assumption | exact Ne.symm (by assumption))) | (with_reducible refine' Kp.get (by assumption) ?_ (by first | assumption | exact Ne.symm (by assumption))) | (with_reducible apply Same.get (by assumption))); done)))
  | ((with_reducible apply q_dSda); (focus ((repeat first | (with_reducible exact upd_same) | (with_reducible assumption) | (with_reducible apply upd_new (by assumption)) | (with_reducible apply upd_other (by first | assumption | exact Ne.symm (by assumption))) | (with_reducible refine' Kp.get (by assumption) ?_ (by first | assumption | exact Ne.symm (by assumption))) | (with_reducible apply Same.get (by assumption))); done)))
  | with_reducible refine q_sDPut ?_
  | ((with_reducible apply q_dInS); (focus ((repeat first | (with_reducible exact upd_same) | (with_reducible assumption) | (with_reducible apply upd_new (by assumption)) | (with_reducible apply upd_other (by first | assumption | exact Ne.symm (by assumption))) | (with_reducible refine' Kp.get (by assumption) ?_ (by first | assumption | exact Ne.symm (by assumption))) | (with_reducible apply Same.get (by assumption))); done)))
  | ((with_reducible apply q_dNInS); (focus ((repeat first | (with_reducible exact upd_same) | (with_reducible assumption) | (with_reducible apply upd_new (by assumption)) | (with_reducible apply upd_other (by first | assumption | exact Ne.symm (by assumption))) | (with_reducible refine' Kp.get (by assumption) ?_ (by first | assumption | exact Ne.symm (by assumption))) | (with_reducible apply Same.get (by assumption))); done)))
  | ((with_reducible apply q_dInI); (focus ((repeat first | (with_reducible exact upd_same) | (with_reducible assumption) | (with_reducible apply upd_new (by assumption)) | (with_reducible apply upd_other (by first | assumption | exact Ne.symm (by assumption))) | (with_reducible refine' Kp.get (by assumption) ?_ (by first | assumption | exact Ne.symm (by assumption))) | (with_reducible apply Same.get (by assumption))); done)))
  | ((with_reducible apply q_dNInI); (focus ((repeat first | (with_reducible exact upd_same) | (with_reducible assumption) | (with_reducible apply upd_new (by assumption)) | (with_reducible apply upd_other (by first | assumption | exact Ne.symm (by assumption))) | (with_reducible refine' Kp.get (by assumption) ?_ (by first | assumption | exact Ne.symm (by assumption))) | (with_reducible apply Same.get (by assumption))); done)))
  | ((with_reducible apply q_bmL); (focus ((repeat first | (with_reducible exact upd_same) | (with_reducible assumption) | (with_reducible apply upd_new (by assumption)) | (with_reducible apply upd_other (by first | assumption | exact Ne.symm (by assumption))) | (with_reducible refine' Kp.get (by assumption) ?_ (by first | assumption | exact Ne.symm (by assumption))) | (with_reducible apply Same.get (by assumption))); done)))
  | ((with_reducible apply q_bmL0); (focus ((repeat first | (with_reducible exact upd_same) | (with_reducible assumption) | (with_reducible apply upd_new (by assumption)) | (with_reducible apply upd_other (by first | assumption | exact Ne.symm (by assumption))) | (with_reducible refine' Kp.get (by assumption) ?_ (by first | assumption | exact Ne.symm (by assumption))) | (with_reducible apply Same.get (by assumption))); done)))
  | ((with_reducible apply q_ixLt); (focus ((repeat first | (with_reducible exact upd_same) | (with_reducible assumption) | (with_reducible apply upd_new (by assumption)) | (with_reducible apply upd_other (by first | assumption | exact Ne.symm (by assumption))) | (with_reducible refine' Kp.get (by assumption) ?_ (by first | assumption | exact Ne.symm (by assumption))) | (with_reducible apply Same.get (by assumption))); done)); (focus (exact rfl)))
  | ((with_reducible apply q_ixTt); (focus ((repeat first | (with_reducible exact upd_same) | (with_reducible assumption) | (with_reducible apply upd_new (by assumption)) | (with_reducible apply upd_other (by first | assumption | exact Ne.symm (by assumption))) | (with_reducible refine' Kp.get (by assumption) ?_ (by first | assumption | exact Ne.symm (by assumption))) | (with_reducible apply Same.get (by assumption))); done)); (focus (exact rfl)))
  | ((with_reducible apply q_lenLt); (focus ((repeat first | (with_reducible exact upd_same) | (with_reducible assumption) | (with_reducible apply upd_new (by assumption)) | (with_reducible apply upd_other (by first | assumption | exact Ne.symm (by assumption))) | (with_reducible refine' Kp.get (by assumption) ?_ (by first | assumption | exact Ne.symm (by assumption))) | (with_reducible apply Same.get (by assumption))); done)))
  | ((with_reducible apply q_lenTt); (focus ((repeat first | (with_reducible exact upd_same) | (with_reducible assumption) | (with_reducible apply upd_new (by assumption)) | (with_reducible apply upd_other (by first | assumption | exact Ne.symm (by assumption))) | (with_reducible refine' Kp.get (by assumption) ?_ (by first | assumption | exact Ne.symm (by assumption))) | (with_reducible apply Same.get (by assumption))); done)))
  | ((with_reducible apply q_append); (focus ((repeat first | (with_reducible exact upd_same) | (with_reducible assumption) | (with_reducible apply upd_new (by assumption)) | (with_reducible apply upd_other (by first | assumption | exact Ne.symm (by assumption))) | (with_reducible refine' Kp.get (by assumption) ?_ (by first | assumption | exact Ne.symm (by assumption))) | (with_reducible apply Same.get (by assumption))); done)); (focus ((first | (exact Nat.lt_of_ble_eq_true rfl) | (simp only [List.length_append, List.length_cons, List.length_nil, List.length_map]; exact small1000 (by omega))))))
  | ((with_reducible apply q_setL); (focus ((repeat first | (with_reducible exact upd_same) | (with_reducible assumption) | (with_reducible apply upd_new (by assumption)) | (with_reducible apply upd_other (by first | assumption | exact Ne.symm (by assumption))) | (with_reducible refine' Kp.get (by assumption) ?_ (by first | assumption | exact Ne.symm (by assumption))) | (with_reducible apply Same.get (by assumption))); done)); (focus (exact rfl)))
  | with_reducible refine q_ifNT ?_
  | with_reducible refine q_ifNF ?_
  | with_reducible refine q_andNT ?_
  | with_reducible refine q_andNF ?_
  | with_reducible refine q_orNT ?_
  | with_reducible refine q_orNF ?_
  | with_reducible refine q_bKNT ?_
  | with_reducible refine q_bKNF ?_
  | with_reducible refine q_tNGet ?_
  | with_reducible refine q_tNIn ?_
  | with_reducible refine q_sNPut ?_
  | with_reducible refine q_sFldAug ?_
  | with_reducible refine q_sDAug ?_
  | with_reducible refine q_sDDel ?_
  | with_reducible refine q_forX ?_
  | with_reducible refine q_tMake ?_
  | ((with_reducible apply q_dG1a); (focus ((repeat first | (with_reducible exact upd_same) | (with_reducible assumption) | (with_reducible apply upd_new (by assumption)) | (with_reducible apply upd_other (by first | assumption | exact Ne.symm (by assumption))) | (with_reducible refine' Kp.get (by assumption) ?_ (by first | assumption | exact Ne.symm (by assumption))) | (with_reducible apply Same.get (by assumption))); done)))))
/-! the law's own copies -/
structure Jn (js : List NestedKey) : Prop where
  ok : ∀ k ∈ js, JOk k
  en : ∀ k ∈ js, ∀ n : Int, pre k = preK n → ∃ g, k = entK n g ∧ GOk g
  un : ∀ (n : Int) (g g' : NestedKey), entK n g ∈ js → entK n g' ∈ js → g = g'
  le : js.length ≤ 900
def spThree (K : PySem.W.Frag) (H : Hp) (js : List NestedKey) (n : Int) (gk : NestedKey) (Q : VK) : Prop :=
  ((n < 1 ∨ setD gk.data = false) → ∀ H', Same H H' → Q (.int 2) H') ∧
  (1 ≤ n → setD gk.data = true → entK n gk ∉ js → hit js n = true → ∀ H', Same H H' → Q (.int 1) H') ∧
  (1 ≤ n → setD gk.data = true → (entK n gk ∈ js ∨ hit js n = false) → ∀ (q : Addr) (svs : List V) (H' : Hp), Same H H' → H q = none → H' q = some (.lst svs) → StpsAt H' svs (appr js n gk) → Q (.ref q) H')
def sp_Lst (K : PySem.W.Frag) : Sp := fun vs H Q _ => ∃ (jl gv : Addr) (n : Int) (gk : NestedKey) (xs : List V) (js : List NestedKey), vs = [.ref jl, .int n, .ref gv] ∧ H jl = some (.lst xs) ∧ NVs H js xs ∧ (∀ k ∈ js, JOk k) ∧ js.length ≤ 900 ∧ NV H gk (.ref gv) ∧ GOk gk ∧ spThree K H js n gk Q
def sp_Ldue (K : PySem.W.Frag) : Sp := fun vs H Q _ => ∃ (jl gv : Addr) (n : Int) (gk : NestedKey) (xs : List V) (js : List NestedKey), vs = [.ref jl, .int n, .ref gv] ∧ H jl = some (.lst xs) ∧ NVs H js xs ∧ Jn js ∧ NV H gk (.ref gv) ∧ GOk gk ∧ 1 ≤ n ∧ setD gk.data = true ∧
  (entK n gk ∉ js → hit js n = true → ∀ H', Same H H' → Q (.int 1) H') ∧
  ((entK n gk ∈ js ∨ hit js n = false) → ∀ (q : Addr) (svs : List V) (H' : Hp), Same H H' → H q = none → H' q = some (.lst svs) → StpsAt H' svs (appr js n gk) → Q (.ref q) H')
theorem pre_ent (n : Int) (g : NestedKey) : pre (entK n g) = preK n := rfl
theorem hit_of {js : List NestedKey} {n : Int} {k : NestedKey} (h : k ∈ js) (e : pre k = preK n) : hit js n = true := List.any_eq_true.mpr ⟨k, h, decide_eq_true e⟩
section
variable {P : Program} {w : World} {K : PySem.W.Frag} {mg : Str → Option Value} {base : Heap}
theorem ok_L_steps (T : Txt K mg) : FnOk P w K mg base CX0 7 T.f_L_steps T.d_L_steps ["journal", "number", "guards"] (sp_Lst K) := by
  refine T.F_L_steps.ok sc_L_steps (fun vs H Q E h => ?_) (fun cdv A outer s H vs Q E hr h => ?_)
  · obtain ⟨jl, gv, n, gk, xs, js, rfl, _⟩ := h; rfl
  · obtain ⟨jl, gv, n, gk, xs, js, rfl, hj, hnv, hjo, hjl, hg, hgo, k2, k1, kQ⟩ := h
    refine ⟨_, (pss_one (ps_try_as (i := 3) rfl rfl sc_L_steps.nd rfl rfl ⟨rfl, by decide, .inl T.g_BridgeError⟩ takes0 (fun W pn xe tk _ => (pss_one (ps_ret (pe_callS (ok_approve T) (hr.mono (by decide)) (by rfl) T.g_approve T.F_approve.kp T.b_approve (fun σ => passAt tk σ) (pa_cons (pv 0) (pa_cons (pv 1) (pa_cons (pv 2) pa_nil)))))))
      (fun a oe cls d pn hz hf => (pss_cls2 (C := T.C_AlreadyApproved) (C2 := T.C_InvalidArgument) hz (fun hz => (pss_one (ps_ret (pe_op op_add (pe_callTy cq_int1 (by rfl) T.z_int boot_int (pa_cons (pe_callB (call_isE (T.ec_AlreadyApproved) hz hf) (by rfl) T.z_isinstance boot_isinstance (pa_cons (pv 3) (pa_cons (pe_glob (v := .ref T.C_AlreadyApproved) (by rfl) T.g_AlreadyApproved rfl) pa_nil))) pa_nil)) (pe_op op_mul pe_int (pe_callTy cq_int1 (by rfl) T.z_int boot_int (pa_cons (pe_callB (call_isE (T.ec_AlreadyApproved) hz hf) (by rfl) T.z_isinstance boot_isinstance (pa_cons (pv 3) (pa_cons (pe_glob (v := .ref T.C_InvalidArgument) (by rfl) T.g_InvalidArgument rfl) pa_nil))) pa_nil))))))) (fun hz => (pss_one (ps_ret (pe_op op_add (pe_callTy cq_int1 (by rfl) T.z_int boot_int (pa_cons (pe_callB (call_isE (T.ec_InvalidArgument) hz hf) (by rfl) T.z_isinstance boot_isinstance (pa_cons (pv 3) (pa_cons (pe_glob (v := .ref T.C_AlreadyApproved) (by rfl) T.g_AlreadyApproved rfl) pa_nil))) pa_nil)) (pe_op op_mul pe_int (pe_callTy cq_int1 (by rfl) T.z_int boot_int (pa_cons (pe_callB (call_isE (T.ec_InvalidArgument) hz hf) (by rfl) T.z_isinstance boot_isinstance (pa_cons (pv 3) (pa_cons (pe_glob (v := .ref T.C_InvalidArgument) (by rfl) T.g_InvalidArgument rfl) pa_nil))) pa_nil))))))))))), ?_⟩
    (dsimp only [cxOf, Cx.nox, Cx.wish, L2.start, List.map, List.length, List.replicate, List.cons_append, List.nil_append, List.append_eq, Nat.reduceSub, Nat.reduceAdd])
    walk_at "my_rd"
    unfold tCallS
    walk_at "my_rd"
    refine ⟨jl, gv, n, gk, xs, js, rfl, hj, hnv, hjo, hjl, hg, hgo, fun hb H1 sm => ⟨true, T.ex_InvalidArgument, fun _ e he => .inr ⟨⟨rfl, rfl⟩, ?_⟩, fun q => nomatch q⟩, fun a1 a2 a3 a4 H1 sm => ⟨true, T.ex_AlreadyApproved, fun _ e he => .inl ⟨⟨rfl, rfl⟩, ?_⟩, fun q => nomatch q⟩, fun a1 a2 a3 q svs H1 sm nq hq hs => ?_⟩
    · walk_at "my_rd"
      refine q_isE T.hq_InvalidArgument_AlreadyApproved ?_
      walk_at "my_rd"
      refine q_int1b ?_
      walk_at "my_rd"
      refine q_isE T.hi_InvalidArgument ?_
      walk_at "my_rd"
      refine q_int1t ?_
      walk_at "my_rd"
      exact k2 hb _ sm
    · walk_at "my_rd"
      refine q_isE T.hi_AlreadyApproved ?_
      walk_at "my_rd"
      refine q_int1t ?_
      walk_at "my_rd"
      refine q_isE T.hq_AlreadyApproved_InvalidArgument ?_
      walk_at "my_rd"
      refine q_int1b ?_
      walk_at "my_rd"
      exact k1 a1 a2 a3 a4 _ sm
    · walk_at "my_rd"
      exact kQ a1 a2 a3 q svs _ sm nq hq hs
theorem ok_L_due (T : Txt K mg) : FnOk P w K mg base CX0 1 T.f_L_due T.d_L_due ["journal", "number", "guards"] (sp_Ldue K) := by
  refine T.F_L_due.ok sc_L_due (fun vs H Q E h => ?_) (fun cdv A outer s H vs Q E hr h => ?_)
  · obtain ⟨jl, gv, n, gk, xs, js, rfl, _⟩ := h; rfl
  · obtain ⟨jl, gv, n, gk, xs, js, rfl, hj, hnv, hJ, hg, hgo, hn1, hsd, k1, kQ⟩ := h
    refine ⟨_, (pss_cons (ps_set (i := 3) sc_L_due.nd rfl (Or.inl rfl) (pe_lst (pa_cons (pe_tup (pa_cons pe_str pa_nil)) (pa_cons (pe_tup (pa_cons pe_str (pa_cons (pe_tup (pa_cons pe_str (pa_cons pe_str (pa_cons (pv 1) (pa_cons (pv 2) pa_nil))))) pa_nil))) pa_nil))))
      (pss_cons (ps_for PassesOwn.never rfl (pi_list (pv 0)) (pg_name (i := 4) sc_L_due.nd rfl (Or.inl rfl))
        (pss_one (ps_if (pt_cmpR (op_eqD hr.units) (pe_slice sl_tupA (pv 4) po_none (po_some pe_int)) (pe_tup (pa_cons pe_str (pa_cons (pv 1) pa_nil))) (nomark _)) (pss_cons (ps_if (pt_cmpR (op_neD hr.units) (pe_ix ix_tup (pv 4) pe_int (fun _ _ => rfl)) (pv 2) (nomark _)) (pss_one (ps_ret pe_int)) pss_nil)
      (pss_one (ps_ret (pv 3)))) pss_nil)))
      (pss_one (ps_ret (pe_op op_cat (pe_lst (pa_cons (pe_tup (pa_cons pe_str (pa_cons (pe_tup (pa_cons pe_str (pa_cons (pv 1) (pa_cons (pv 2) pa_nil)))) pa_nil))) pa_nil)) (pv 3)))))), ?_⟩
    (dsimp only [cxOf, Cx.nox, Cx.wish, L2.start, List.map, List.length, List.replicate, List.cons_append, List.nil_append, List.append_eq, Nat.reduceSub, Nat.reduceAdd])
    walk_at "my_rd"
    refine q_tupK (Nat.le_of_ble_eq_true rfl) fun f nf => ?_
    walk_at "my_rd"
    refine q_tupK (Nat.le_of_ble_eq_true rfl) fun r nr => ?_
    walk_at "my_rd"
    refine q_tupK (Nat.le_of_ble_eq_true rfl) fun z nz => ?_
    walk_at "my_rd"
    refine q_lstK (Nat.le_of_ble_eq_true rfl) fun S nS => ?_
    walk_at "my_rd"
    have sm7 : Same H (upd (upd (upd (upd H f (.tup [.str "flush"])) r (.tup [.str "rotate", .str "both", .int n, .ref gv])) z (.tup [.str "seal", .ref r])) S (.lst [.ref f, .ref z])) := Same.up (Same.up (Same.up (Same.up (Same.refl _) nf) nr) nz) nS
    have hS7 : (upd (upd (upd (upd H f (.tup [.str "flush"])) r (.tup [.str "rotate", .str "both", .int n, .ref gv])) z (.tup [.str "seal", .ref r])) S (.lst [.ref f, .ref z])) S = some (.lst [.ref f, .ref z]) := upd_same
    have hf7 : (upd (upd (upd (upd H f (.tup [.str "flush"])) r (.tup [.str "rotate", .str "both", .int n, .ref gv])) z (.tup [.str "seal", .ref r])) S (.lst [.ref f, .ref z])) f = some (.tup [.str "flush"]) := upd_new nS (upd_new nz (upd_new nr upd_same))
    have hr7 : (upd (upd (upd (upd H f (.tup [.str "flush"])) r (.tup [.str "rotate", .str "both", .int n, .ref gv])) z (.tup [.str "seal", .ref r])) S (.lst [.ref f, .ref z])) r = some (.tup [.str "rotate", .str "both", .int n, .ref gv]) := upd_new nS (upd_new nz upd_same)
    have hz7 : (upd (upd (upd (upd H f (.tup [.str "flush"])) r (.tup [.str "rotate", .str "both", .int n, .ref gv])) z (.tup [.str "seal", .ref r])) S (.lst [.ref f, .ref z])) z = some (.tup [.str "seal", .ref r]) := upd_new nS upd_same
    have nS0 : H S = none := upd_none_back (upd_none_back (upd_none_back nS))
    generalize (upd (upd (upd (upd H f (.tup [.str "flush"])) r (.tup [.str "rotate", .str "both", .int n, .ref gv])) z (.tup [.str "seal", .ref r])) S (.lst [.ref f, .ref z])) = H7 at sm7 hS7 hf7 hr7 hz7
    have hg7 : NV H7 gk (.ref gv) := hg.mono fun b ys q => sm7 _ _ q
    have hlo : LetOk (rotK n gk) := rot_ok hgo hn1 hsd
    have hrot : NV H7 (rotK n gk) (.ref r) := .tup hr7 (.cons (.str _) (.cons (.str _) (.cons (.int _) (.cons hg7 .nil))))
    have hj7 := sm7 _ _ hj
    have hnv7 : NVs H7 js xs := NVs.mono (fun b ys q => sm7 _ _ q) hnv
    have two : StpsAt H7 [.ref f, .ref z] [.fl, .se (rotK n gk)] := .cons (.fl hf7) (.cons (.se hz7 hrot hlo) .nil)
    refine q_forL (sqL hj7) (fun i σ H' => ∃ o, σ = [some (.ref jl), some (.int n), some (.ref gv), some (.ref S), o] ∧ Same H7 H' ∧ hit (js.take i) n = false) ⟨_, rfl, Same.refl _, rfl⟩ ?_ ?_ ?_
    · rintro i σ H' hi ⟨o, rfl, sm8, _⟩
      exact sqL (sm8 _ _ hj7)
    · rintro i v σ H' hv ⟨o, rfl, sm8, hh⟩
      obtain ⟨k0, hk0, hv0⟩ := hnv7.at_ hv
      have hm0 := List.mem_of_getElem? hk0
      obtain ⟨ks, rfl⟩ := (hJ.ok k0 hm0).t
      obtain ⟨b, vs', rfl, hb, hvs⟩ : ∃ b vs', v = .ref b ∧ H7 b = some (.tup vs') ∧ NVs H7 ks vs' := by cases hv0 with | tup h1 h2 => exact ⟨_, _, rfl, h1, h2⟩
      walk_at "my_rd"
      refine q_slA (sm8 _ _ hb) fun p1 H9 s9 hp1 => ?_
      walk_at "my_rd"
      refine q_tupK (Nat.le_of_ble_eq_true rfl) fun p2 np2 => ?_
      walk_at "my_rd"
      have s10 : Same H9 (upd H9 p2 (.tup [.str "approved", .int n])) := Same.up (Same.refl _) np2
      have hp2 : upd H9 p2 (.tup [.str "approved", .int n]) p2 = some (.tup [.str "approved", .int n]) := upd_same
      generalize upd H9 p2 (.tup [.str "approved", .int n]) = H10 at s10 hp2
      have t10 : ∀ b ys, H7 b = some (HO.tup ys) → H10 b = some (.tup ys) := fun b ys q => s10 _ _ (s9 _ _ (sm8 _ _ q))
      have e1 : NV H10 (pre (.tup ks)) (.ref p1) := .tup (s10 _ _ hp1) (by rw [show cutV vs' none (some 2) = vs'.take 2 from cut_any 2]; exact NVs.mono t10 (NVs.take 2 hvs))
      have e2 : NV H10 (preK n) (.ref p2) := .tup hp2 (.cons (.str _) (.cons (.int _) .nil))
      refine q_eqD (d := (pre (.tup ks)).data) (e := (preK n).data) e1.tdp.dp e2.tdp.dp (hJ.ok _ hm0).pre (by
        have := (ent_ok (n := n) hgo).pre
        exact this) ?_
      rw [key_dec]
      by_cases hp : pre (.tup ks) = preK n
      · rw [decide_eq_true hp]
        walk_at "my_rd"
        obtain ⟨g, eg, hgg⟩ := hJ.en _ hm0 n hp
        have hkk : ks = [.text "approved", .num n, g] := NestedKey.tup.inj eg
        subst hkk
        obtain ⟨v2, rfl, hv2⟩ : ∃ v2, vs' = [.str "approved", .int n, v2] ∧ NV H7 g v2 := by
          cases hvs with
          | cons a1 b1 =>
            cases a1
            cases b1 with
            | cons a2 b2 =>
              cases a2
              cases b2 with
              | cons a3 b3 =>
                cases b3
                exact ⟨_, rfl, a3⟩
        refine q_ixT (sqT (t10 _ _ hb)) rfl ?_
        walk_at "my_rd"
        refine q_neD (d := g.data) (e := gk.data) (hv2.mono t10).tdp.dp (hg7.mono t10).tdp.dp (shaped_of hgg.l (by have := hgg.d; omega)) (shaped_of hgo.l (by have := hgo.d; omega)) ?_
        rw [key_dec]
        have hmm : entK n g ∈ js := hm0
        by_cases eg : g = gk
        · subst eg
          rw [decide_eq_true rfl]
          walk_at "my_rd"
          have s11 : Same H7 H10 := Same.trans sm8 (Same.trans s9 s10)
          exact kQ (.inl hmm) S _ _ (Same.trans sm7 s11) nS0 (s11 _ _ hS7) (by unfold appr; rw [if_pos hmm]; exact two.mono t10)
        · rw [decide_eq_false eg]
          walk_at "my_rd"
          exact k1 (fun hm => eg (hJ.un n g gk hmm hm)) (hit_of hmm (pre_ent n g)) _ (Same.trans sm7 (Same.trans sm8 (Same.trans s9 s10)))
      · rw [decide_eq_false hp]
        walk_at "my_rd"
        refine ⟨_, rfl, Same.trans sm8 (Same.trans s9 s10), ?_⟩
        rw [take_next hk0]
        unfold hit at hh ⊢
        rw [List.any_append, hh, List.any_cons, List.any_nil, decide_eq_false hp]; rfl
    · rintro σ H' ⟨o, rfl, sm8, hh⟩
      rw [List.take_of_length_le (by rw [hnv7.length]; exact Nat.le_refl _)] at hh
      have hm : entK n gk ∉ js := fun hm => by rw [hit_of hm (pre_ent n gk)] at hh; cases hh
      walk_at "my_rd"
      refine q_tupK (Nat.le_of_ble_eq_true rfl) fun a na => ?_
      walk_at "my_rd"
      refine q_tupK (Nat.le_of_ble_eq_true rfl) fun W nW => ?_
      walk_at "my_rd"
      refine q_lstK (Nat.le_of_ble_eq_true rfl) fun L nL => ?_
      walk_at "my_rd"
      have sma : Same H' (upd (upd (upd H' a (.tup [.str "approved", .int n, .ref gv])) W (.tup [.str "write", .ref a])) L (.lst [.ref W])) := Same.up (Same.up (Same.up (Same.refl _) na) nW) nL
      have hLL : upd (upd (upd H' a (.tup [.str "approved", .int n, .ref gv])) W (.tup [.str "write", .ref a])) L (.lst [.ref W]) L = some (.lst [.ref W]) := upd_same
      have hWW : upd (upd (upd H' a (.tup [.str "approved", .int n, .ref gv])) W (.tup [.str "write", .ref a])) L (.lst [.ref W]) W = some (.tup [.str "write", .ref a]) := upd_new nL upd_same
      have haa : upd (upd (upd H' a (.tup [.str "approved", .int n, .ref gv])) W (.tup [.str "write", .ref a])) L (.lst [.ref W]) a = some (.tup [.str "approved", .int n, .ref gv]) := upd_new nL (upd_new nW upd_same)
      generalize upd (upd (upd H' a (.tup [.str "approved", .int n, .ref gv])) W (.tup [.str "write", .ref a])) L (.lst [.ref W]) = HL at sma hLL hWW haa
      have smx : Same H7 HL := Same.trans sm8 sma
      have hent : NV HL (entK n gk) (.ref a) := .tup haa (.cons (.str _) (.cons (.int _) (.cons (hg7.mono fun b ys z => smx _ _ z) .nil)))
      refine ⟨L, S, _, _, rfl, rfl, hLL, smx _ _ hS7, by show 1 + 2 ≤ sizeLine; exact small1000 (by decide), fun q nq => ?_⟩
      walk_at "my_rd"
      have t9 : ∀ b ys, HL b = some (HO.tup ys) → upd HL q (.lst [.ref W, .ref f, .ref z]) b = some (.tup ys) := fun b ys z => upd_new nq z
      refine kQ (.inr hh) q [.ref W, .ref f, .ref z] _ (fun b o z => upd_new nq (smx _ _ (sm7 _ _ z))) (Same.free sm7 (Same.free smx nq)) upd_same ?_
      unfold appr
      rw [if_neg hm]
      exact .cons (.wr (upd_new nq hWW) (hent.mono t9)) (two.mono fun b ys z => t9 _ _ (smx _ _ z))
end

local macro_rules | `(tactic| walk_at "my_rd") => `(tactic| (repeat first
  | with_reducible refine q_tCons ?_
  | ((with_reducible apply q_var); (focus (exact rfl)))
  | with_reducible refine q_c ?_
  | ((with_reducible apply q_nxE); (focus (with_reducible exact rfl)))
  | with_reducible refine q_bK ?_
  | with_reducible refine q_call ?_
  | with_reducible refine q_callK ?_
  | with_reducible refine q_tNil ?_
  | with_reducible refine q_cb ?_
  | with_reducible refine q_seq ?_
  | with_reducible refine q_asg ?_
  | with_reducible refine q_gName ?_
  | with_reducible refine q_op ?_
  | with_reducible refine q_test ?_
  | with_reducible refine q_tB ?_
  | with_reducible refine q_ifS ?_
  | with_reducible refine q_ret ?_
  | ((with_reducible apply q_rtE); (focus (with_reducible exact rfl)))
  | with_reducible refine q_next ?_
  | with_reducible refine q_ifF ?_
  | with_reducible refine q_ifT ?_
  | with_reducible refine q_drop ?_
  | with_reducible refine q_and ?_
  | with_reducible refine q_or ?_
  | with_reducible refine q_andT ?_
  | with_reducible refine q_andF ?_
  | with_reducible refine q_orF ?_
  | with_reducible refine q_orT ?_
  | with_reducible refine q_andV ?_
  | with_reducible refine q_andVT ?_
  | with_reducible refine q_andVF ?_
  | with_reducible refine q_orV ?_
  | with_reducible refine q_gCons ?_
  | with_reducible refine q_gNil ?_
  | with_reducible refine q_tup ?_
  | with_reducible refine q_lst ?_
  | with_reducible refine q_not ?_
  | with_reducible refine q_notKT ?_
  | with_reducible refine q_notKF ?_
  | with_reducible refine q_I0 ?_
  | with_reducible refine q_eqI ?_
  | with_reducible refine q_neI ?_
  | ((with_reducible refine q_I ?_ ?_); first | decide | omega | exact ⟨by omega, by omega⟩ | exact ⟨by decide, by decide⟩ | exact .inl ⟨by omega, by omega⟩ | exact .inr ⟨by omega, by omega⟩ | exact .inr ⟨by decide, by decide⟩)
  | with_reducible refine q_eqS ?_
  | with_reducible refine q_neS ?_
  | with_reducible refine q_brk ?_
  | with_reducible refine q_ct ?_
  | ((with_reducible apply q_bkE); (focus (with_reducible exact rfl)))
  | ((with_reducible apply q_cnE); (focus (with_reducible exact rfl)))
  | with_reducible refine q_retN ?_
  | with_reducible refine q_gSub ?_
  | with_reducible refine q_for ?_
  | with_reducible refine q_iList ?_
  | with_reducible refine q_iTup ?_
  | with_reducible refine q_iRng1 ?_
  | with_reducible refine q_notK ?_
  | with_reducible refine q_orVT ?_
  | with_reducible refine q_orVF ?_
  | with_reducible refine q_notV ?_
  | with_reducible refine q_notVK ?_
  | with_reducible refine q_ifE ?_
  | with_reducible refine q_ifET ?_
  | with_reducible refine q_ifEF ?_
  | with_reducible refine q_yes ?_
  | with_reducible refine q_un ?_
  | with_reducible refine q_rU ?_
  | with_reducible refine q_abs ?_
  | with_reducible refine q_int1 ?_
  | with_reducible refine q_bm ?_
  | with_reducible refine q_bm0 ?_
  | with_reducible refine q_lc ?_
  | with_reducible refine q_keepT ?_
  | with_reducible refine q_keepF ?_
  | ((with_reducible apply q_aug); (focus (exact rfl)))
  | with_reducible refine q_ipI ?_
  | with_reducible refine q_chain ?_
  | with_reducible refine q_pairC ?_
  | with_reducible refine q_pairsK ?_
  | with_reducible refine q_pairN ?_
  | with_reducible refine q_fld ?_
  | with_reducible refine q_sFld ?_
  | with_reducible refine q_meth ?_
  | with_reducible refine q_makeK ?_
  | with_reducible refine q_isBl ?_
  | with_reducible refine q_notBl ?_
  | with_reducible refine q_sl ?_
  | with_reducible refine q_noPart ?_
  | with_reducible refine q_part ?_
  | with_reducible refine q_partK ?_
  | ((with_reducible apply q_mulStr); (focus (decide +kernel)))
  | with_reducible refine q_chT ?_
  | with_reducible refine q_chF ?_
  | with_reducible refine q_ord ?_
  | with_reducible refine q_iStr0 ?_
  | with_reducible refine q_iStr ?_
  | with_reducible refine q_tDIn ?_
  | with_reducible refine q_tDNotIn ?_
  | with_reducible refine q_tDGet ?_
  | with_reducible refine q_tDGet2 ?_
  | with_reducible refine q_tDGet1 ?_
  | with_reducible refine q_tDSetd ?_
  | ((with_reducible apply q_dG2a); (focus ((repeat first | (with_reducible exact upd_same) | (with_reducible assumption) | (with_reducible apply upd_new (by assumption)) | (with_reducible apply upd_other (by first | assumption | exact Ne.symm (by assumption))) | (with_reducible refine' Kp.get (by assumption) ?_ (by first | assumption | exact Ne.symm (by assumption))) | (with_reducible apply Same.get (by assumption))); done)))
  | ((with_reducible apply q_dSda); (focus ((repeat first | (with_reducible exact upd_same) | (with_reducible assumption) | (with_reducible apply upd_new (by assumption)) | (with_reducible apply upd_other (by first | assumption | exact Ne.symm (by assumption))) | (with_reducible refine' Kp.get (by assumption) ?_ (by first | assumption | exact Ne.symm (by assumption))) | (with_reducible apply Same.get (by assumption))); done)))
  | with_reducible refine q_sDPut ?_
  | ((with_reducible apply q_dInS); (focus ((repeat first | (with_reducible exact upd_same) | (with_reducible assumption) | (with_reducible apply upd_new (by assumption)) | (with_reducible apply upd_other (by first | assumption | exact Ne.symm (by assumption))) | (with_reducible refine' Kp.get (by assumption) ?_ (by first | assumption | exact Ne.symm (by assumption))) | (with_reducible apply Same.get (by assumption))); done)))
  | ((with_reducible apply q_dNInS); (focus ((repeat first | (with_reducible exact upd_same) | (with_reducible assumption) | (with_reducible apply upd_new (by assumption)) | (with_reducible apply upd_other (by first | assumption | exact Ne.symm (by assumption))) | (with_reducible refine' Kp.get (by assumption) ?_ (by first | assumption | exact Ne.symm (by assumption))) | (with_reducible apply Same.get (by assumption))); done)))
  | ((with_reducible apply q_dInI); (focus ((repeat first | (with_reducible exact upd_same) | (with_reducible assumption) | (with_reducible apply upd_new (by assumption)) | (with_reducible apply upd_other (by first | assumption | exact Ne.symm (by assumption))) | (with_reducible refine' Kp.get (by assumption) ?_ (by first | assumption | exact Ne.symm (by assumption))) | (with_reducible apply Same.get (by assumption))); done)))
  | ((with_reducible apply q_dNInI); (focus ((repeat first | (with_reducible exact upd_same) | (with_reducible assumption) | (with_reducible apply upd_new (by assumption)) | (with_reducible apply upd_other (by first | assumption | exact Ne.symm (by assumption))) | (with_reducible refine' Kp.get (by assumption) ?_ (by first | assumption | exact Ne.symm (by assumption))) | (with_reducible apply Same.get (by assumption))); done)))
  | ((with_reducible apply q_bmL); (focus ((repeat first | (with_reducible exact upd_same) | (with_reducible assumption) | (with_reducible apply upd_new (by assumption)) | (with_reducible apply upd_other (by first | assumption | exact Ne.symm (by assumption))) | (with_reducible refine' Kp.get (by assumption) ?_ (by first | assumption | exact Ne.symm (by assumption))) | (with_reducible apply Same.get (by assumption))); done)))
  | ((with_reducible apply q_bmL0); (focus ((repeat first | (with_reducible exact upd_same) | (with_reducible assumption) | (with_reducible apply upd_new (by assumption)) | (with_reducible apply upd_other (by first | assumption | exact Ne.symm (by assumption))) | (with_reducible refine' Kp.get (by assumption) ?_ (by first | assumption | exact Ne.symm (by assumption))) | (with_reducible apply Same.get (by assumption))); done)))
  | ((with_reducible apply q_ixLt); (focus ((repeat first | (with_reducible exact upd_same) | (with_reducible assumption) | (with_reducible apply upd_new (by assumption)) | (with_reducible apply upd_other (by first | assumption | exact Ne.symm (by assumption))) | (with_reducible refine' Kp.get (by assumption) ?_ (by first | assumption | exact Ne.symm (by assumption))) | (with_reducible apply Same.get (by assumption))); done)); (focus (exact rfl)))
  | ((with_reducible apply q_ixTt); (focus ((repeat first | (with_reducible exact upd_same) | (with_reducible assumption) | (with_reducible apply upd_new (by assumption)) | (with_reducible apply upd_other (by first | assumption | exact Ne.symm (by assumption))) | (with_reducible refine' Kp.get (by assumption) ?_ (by first | assumption | exact Ne.symm (by assumption))) | (with_reducible apply Same.get (by assumption))); done)); (focus (exact rfl)))
  | ((with_reducible apply q_lenLt); (focus ((repeat first | (with_reducible exact upd_same) | (with_reducible assumption) | (with_reducible apply upd_new (by assumption)) | (with_reducible apply upd_other (by first | assumption | exact Ne.symm (by assumption))) | (with_reducible refine' Kp.get (by assumption) ?_ (by first | assumption | exact Ne.symm (by assumption))) | (with_reducible apply Same.get (by assumption))); done)))
  | ((with_reducible apply q_lenTt); (focus ((repeat first | (with_reducible exact upd_same) | (with_reducible assumption) | (with_reducible apply upd_new (by assumption)) | (with_reducible apply upd_other (by first | assumption | exact Ne.symm (by assumption))) | (with_reducible refine' Kp.get (by assumption) ?_ (by first | assumption | exact Ne.symm (by assumption))) | (with_reducible apply Same.get (by assumption))); done)))
  | ((with_reducible apply q_append); (focus ((repeat first | (with_reducible exact upd_same) | (with_reducible assumption) | (with_reducible apply upd_new (by assumption)) | (with_reducible apply upd_other (by first | assumption | exact Ne.symm (by assumption))) | (with_reducible refine' Kp.get (by assumption) ?_ (by first | assumption | exact Ne.symm (by assumption))) | (with_reducible apply Same.get (by assumption))); done)); (focus ((first | (exact Nat.lt_of_ble_eq_true rfl) | (simp only [List.length_append, List.length_cons, List.length_nil, List.length_map]; exact small1000 (by omega))))))
  | ((with_reducible apply q_setL); (focus ((repeat first | (with_reducible exact upd_same) | (with_reducible assumption) | (with_reducible apply upd_new (by assumption)) | (with_reducible apply upd_other (by first | assumption | exact Ne.symm (by assumption))) | (with_reducible refine' Kp.get (by assumption) ?_ (by first | assumption | exact Ne.symm (by assumption))) | (with_reducible apply Same.get (by assumption))); done)); (focus (exact rfl)))
  | with_reducible refine q_ifNT ?_
  | with_reducible refine q_ifNF ?_
  | with_reducible refine q_andNT ?_
  | with_reducible refine q_andNF ?_
  | with_reducible refine q_orNT ?_
  | with_reducible refine q_orNF ?_
  | with_reducible refine q_bKNT ?_
  | with_reducible refine q_bKNF ?_
  | with_reducible refine q_tNGet ?_
  | with_reducible refine q_tNIn ?_
  | with_reducible refine q_sNPut ?_
  | with_reducible refine q_sFldAug ?_
  | with_reducible refine q_sDAug ?_
  | with_reducible refine q_sDDel ?_
  | with_reducible refine q_forX ?_
  | with_reducible refine q_tMake ?_
  | ((with_reducible apply q_dG1a); (focus ((repeat first | (with_reducible exact upd_same) | (with_reducible assumption) | (with_reducible apply upd_new (by assumption)) | (with_reducible apply upd_other (by first | assumption | exact Ne.symm (by assumption))) | (with_reducible refine' Kp.get (by assumption) ?_ (by first | assumption | exact Ne.symm (by assumption))) | (with_reducible apply Same.get (by assumption))); done)))))
/-! what the law keeps -/
theorem PotAt.kpo {p l y : Addr} {H H' : Hp} (h : PotAt H p l) (k : Kp y H H') (n1 : p ≠ y) (n2 : l ≠ y) : PotAt H' p l := by
  obtain ⟨ns, i, c, s, h1, h2, r⟩ := h
  exact ⟨ns, i, c, s, k _ _ h1 n1, k _ _ h2 n2, r⟩
/-- the lists' addresses differ -/
structure LD (A : McA) (p l sa jl : Addr) : Prop where
  ap : A.l ≠ p
  al : A.l ≠ l
  tp : A.tl ≠ p
  tl_ : A.tl ≠ l
  sp : sa ≠ p
  sl : sa ≠ l
  sal : sa ≠ A.l
  sat : sa ≠ A.tl
  jp : jl ≠ p
  jl_ : jl ≠ l
  jal : jl ≠ A.l
  jat : jl ≠ A.tl
  js : jl ≠ sa
structure LI (P : Program) (w : World) (Cm Cn Cy : Addr) (A : McA) (p l sa jl : Addr) (gs : List NestedKey) (S : MS) (js : List NestedKey) (H : Hp) : Prop where
  pot : PotAt H p l
  mc : McAt P w Cm Cn Cy H A "g0" S
  st : ∃ gv, H sa = some (.lst gv) ∧ NVs H gs gv
  jr : ∃ xs, H jl = some (.lst xs) ∧ NVs H js xs
  ds : LD A p l sa jl
section
variable {P : Program} {w : World} {Cm Cn Cy : Addr} {A : McA} {p l sa jl : Addr} {gs : List NestedKey} {S S' : MS} {js js' : List NestedKey} {H H' : Hp}
theorem LI.same (h : LI P w Cm Cn Cy A p l sa jl gs S js H) (e : Same H H') : LI P w Cm Cn Cy A p l sa jl gs S js H' := by
  obtain ⟨gv, s1, s2⟩ := h.st
  obtain ⟨xs, j1, j2⟩ := h.jr
  exact ⟨h.pot.same e, h.mc.same e, ⟨gv, e _ _ s1, NVs.mono (fun b ys q => e _ _ q) s2⟩, ⟨xs, e _ _ j1, NVs.mono (fun b ys q => e _ _ q) j2⟩, h.ds⟩
/-- a list apart from the machine changes -/
theorem McAt.lst {y : Addr} {ys : List V} {g : Str} (h : McAt P w Cm Cn Cy H A g S) (hy : H y = some (.lst ys)) (k : Kp y H H') (n1 : A.l ≠ y) (n2 : A.tl ≠ y) : McAt P w Cm Cn Cy H' A g S := by
  obtain ⟨xs, m1, m2⟩ := h.nt
  obtain ⟨dx, fs, k1, _, _, _, _, k6⟩ := m1.ex
  obtain ⟨_, _, _, _, h1, _, _, _, h5, _, h7, _⟩ := h.no.ex
  obtain ⟨_, _, z1, _⟩ := h.ex
  refine h.of (fun b zs q => k _ _ q (ne_of q hy (by intro z; cases z))) ?_
  rintro b o q (rfl | rfl | rfl | rfl | rfl | rfl)
  · exact k _ _ q (ne_of z1 hy (by intro z; cases z))
  · exact k _ _ q (ne_of h1 hy (by intro z; cases z))
  · exact k _ _ q n2
  · exact k _ _ q (ne_of h7 hy (by intro z; unfold DN at z; cases z))
  · exact k _ _ q (ne_of k1 hy (by intro z; cases z))
  · exact k _ _ q n1
theorem LI.next (h : LI P w Cm Cn Cy A p l sa jl gs S js H) (k : Kp p H H') (pot : PotAt H' p l) : LI P w Cm Cn Cy A p l sa jl gs S js H' := by
  obtain ⟨gv, s1, s2⟩ := h.st
  obtain ⟨xs, j1, j2⟩ := h.jr
  obtain ⟨ys, hp⟩ := h.pot.lst
  have t := tup_kp hp k
  exact ⟨pot, h.mc.lst hp k h.ds.ap h.ds.tp, ⟨gv, k _ _ s1 h.ds.sp, NVs.mono t s2⟩, ⟨xs, k _ _ j1 h.ds.jp, NVs.mono t j2⟩, h.ds⟩
/-- the machine moves -/
theorem LI.mach (h : LI P w Cm Cn Cy A p l sa jl gs S js H) (f : Fr A H H') (m : McAt P w Cm Cn Cy H' A "g0" S') : LI P w Cm Cn Cy A p l sa jl gs S' js H' := by
  obtain ⟨gv, s1, s2⟩ := h.st
  obtain ⟨xs, j1, j2⟩ := h.jr
  obtain ⟨ns, i, c, s, p1, p2, r⟩ := h.pot
  have t := h.mc.fr f
  obtain ⟨ys, m1, m2⟩ := h.mc.nt
  obtain ⟨dx, fs, k1, _, _, _, _, k6⟩ := m1.ex
  obtain ⟨_, _, _, _, _, _, _, _, h5, _, h7, _⟩ := h.mc.no.ex
  have g : ∀ b zs, H b = some (.lst zs) → b ≠ A.l → b ≠ A.tl → H' b = some (.lst zs) := fun b zs q n1 n2 => f b _ q n1 (ne_of q k1 (by intro z; cases z)) n2 (ne_of q h7 (by intro z; unfold DN at z; cases z))
  exact ⟨⟨ns, i, c, s, g _ _ p1 h.ds.ap.symm h.ds.tp.symm, g _ _ p2 h.ds.al.symm h.ds.tl_.symm, r⟩, m, ⟨gv, g _ _ s1 h.ds.sal h.ds.sat, NVs.mono t s2⟩, ⟨xs, g _ _ j1 h.ds.jal h.ds.jat, NVs.mono t j2⟩, h.ds⟩
/-- the law's journal changes -/
theorem LI.jou {xs' : List V} (h : LI P w Cm Cn Cy A p l sa jl gs S js H) (k : Kp jl H H') (hj : H' jl = some (.lst xs')) (n : NVs H' js' xs') : LI P w Cm Cn Cy A p l sa jl gs S js' H' := by
  obtain ⟨gv, s1, s2⟩ := h.st
  obtain ⟨xs, j1, j2⟩ := h.jr
  have t := tup_kp j1 k
  exact ⟨h.pot.kpo k h.ds.jp.symm h.ds.jl_.symm, h.mc.lst j1 k h.ds.jal.symm h.ds.jat.symm, ⟨gv, k _ _ s1 h.ds.js.symm, NVs.mono t s2⟩, ⟨xs', hj, n⟩, h.ds⟩
/-- another list is the law's journal now -/
theorem LI.jnew {q : Addr} {xs' : List V} (h : LI P w Cm Cn Cy A p l sa jl gs S js H) (hq : H q = none) (e : Same H H') (hj : H' q = some (.lst xs')) (n : NVs H' js' xs') : LI P w Cm Cn Cy A p l sa q gs S js' H' := by
  obtain ⟨gv, s1, s2⟩ := h.st
  have fr := h.mc.free hq
  exact ⟨h.pot.same e, h.mc.same e, ⟨gv, e _ _ s1, NVs.mono (fun b ys z => e _ _ z) s2⟩, ⟨xs', hj, n⟩, ⟨h.ds.ap, h.ds.al, h.ds.tp, h.ds.tl_, h.ds.sp, h.ds.sl, h.ds.sal, h.ds.sat, h.pot.nep hq, h.pot.nel hq, (fr _ (by simp)).symm, (fr _ (by simp)).symm, (ne_of_none s1 hq).symm⟩⟩
theorem Fr.kl (k : Kp A.l H H') : Fr A H H' := fun b o q n1 _ _ _ => k _ _ q n1
end
/-! the model -/
/-- what is so of journal, flushed part and table -/
structure MOk (i : Nat) (S : MS) : Prop where
  j : Jn S.js
  f : S.f ≤ S.js.length
  t : ∀ e ∈ S.es, e.1 = "g0" ∧ ∃ (n : Int) (g : NestedKey), e.2 = rotK n g ∧ entK n g ∈ S.js.take S.f
  lj : S.js.length ≤ 1 + i
  le : S.es.length ≤ i
theorem Jn.sub {js js' : List NestedKey} (h : Jn js) (s : ∀ k ∈ js', k ∈ js) (l : js'.length ≤ 900) : Jn js' :=
  ⟨fun k m => h.ok k (s k m), fun k m => h.en k (s k m), fun n g g' m m' => h.un n g g' (s _ m) (s _ m'), l⟩
theorem MOk.crash {i : Nat} {S : MS} (h : MOk i S) (n : Nat) : MOk (i + 1) { S with js := S.js.take (max S.f (S.js.length - n)) } := by
  have hl : (S.js.take (max S.f (S.js.length - n))).length ≤ S.js.length := by rw [List.length_take]; omega
  have hf := h.f
  have hlj := h.lj
  have hle := h.le
  refine ⟨h.j.sub (fun k m => List.mem_of_mem_take m) (Nat.le_trans hl h.j.le), ?_, ?_, by show (S.js.take _).length ≤ _; omega, by show S.es.length ≤ _; omega⟩
  · show S.f ≤ (S.js.take _).length
    rw [List.length_take]; omega
  · intro e he
    obtain ⟨a, n', g, b, c⟩ := h.t e he
    refine ⟨a, n', g, b, ?_⟩
    show _ ∈ (S.js.take _).take S.f
    rw [List.take_take, Nat.min_eq_left (by omega)]
    exact c
theorem preK_inj {n m : Int} (h : preK n = preK m) : n = m := by
  unfold preK at h
  injection h with h
  injection h with _ h
  injection h with h _
  injection h
theorem entK_inj {n m : Int} {g g' : NestedKey} (h : entK n g = entK m g') : n = m ∧ g = g' := by
  unfold entK at h
  injection h with h
  injection h with _ h
  injection h with h1 h2
  injection h1 with h1
  injection h2 with h2 _
  exact ⟨h1, h2⟩
theorem Jn.add {js : List NestedKey} {n : Int} {g : NestedKey} (h : Jn js) (hg : GOk g) (hh : hit js n = false) (hl : js.length < 900) : Jn (js ++ [entK n g]) := by
  have no : ∀ g', entK n g' ∉ js := fun g' m => by rw [hit_of m (pre_ent n g')] at hh; cases hh
  refine ⟨fun k m => ?_, fun k m m' e => ?_, fun m g1 g2 m1 m2 => ?_, by rw [List.length_append]; simp; omega⟩
  · rcases List.mem_append.mp m with q | q
    · exact h.ok k q
    · rw [List.mem_singleton.mp q]; exact ent_ok hg
  · rcases List.mem_append.mp m with q | q
    · exact h.en k q m' e
    · rw [List.mem_singleton.mp q] at e ⊢
      rw [pre_ent] at e
      exact ⟨g, by rw [preK_inj e], hg⟩
  · rcases List.mem_append.mp m1 with q1 | q1 <;> rcases List.mem_append.mp m2 with q2 | q2
    · exact h.un m g1 g2 q1 q2
    · obtain ⟨rfl, rfl⟩ := entK_inj (List.mem_singleton.mp q2)
      exact absurd q1 (no _)
    · obtain ⟨rfl, rfl⟩ := entK_inj (List.mem_singleton.mp q1)
      exact absurd q2 (no _)
    · exact (entK_inj (List.mem_singleton.mp q1)).2.trans (entK_inj (List.mem_singleton.mp q2)).2.symm
/-- all is flushed -/
theorem MOk.flu {i : Nat} {S : MS} (h : MOk i S) : MOk i (S.step "g0" .fl) := by
  refine ⟨h.j, Nat.le_refl _, fun e he => ?_, h.lj, h.le⟩
  obtain ⟨a, n', g, b, c⟩ := h.t e he
  exact ⟨a, n', g, b, by show _ ∈ S.js.take S.js.length; rw [List.take_length]; exact List.mem_of_mem_take c⟩
theorem MOk.sea {i : Nat} {S : MS} {n : Int} {g : NestedKey} (h : MOk i S) (hf : S.f = S.js.length) (hm : entK n g ∈ S.js) (hl : S.es.length + 1 ≤ i) : MOk i (S.step "g0" (.se (rotK n g))) := by
  show MOk i (if (pl S.es (("g0" : Str), rotK n g)).isSome = true then S else { S with es := S.es ++ [(("g0" : Str), rotK n g)] })
  split
  · exact h
  · refine ⟨h.j, h.f, fun e he => ?_, h.lj, by show (S.es ++ [_]).length ≤ i; rw [List.length_append]; simpa using hl⟩
    rcases List.mem_append.mp he with q | q
    · exact h.t e q
    · rw [List.mem_singleton.mp q]
      exact ⟨rfl, n, g, rfl, by show _ ∈ S.js.take S.f; rw [hf, List.take_length]; exact hm⟩
theorem MOk.wr {i : Nat} {S : MS} {n : Int} {g : NestedKey} (h : MOk i S) (hg : GOk g) (hh : hit S.js n = false) (hi : i < 800) : MOk (i + 1) (S.step "g0" (.wr (entK n g))) := by
  have hlj := h.lj
  have hle := h.le
  refine ⟨h.j.add hg hh (by omega), ?_, fun e he => ?_, ?_, ?_⟩
  · show S.f ≤ (S.js ++ [_]).length
    rw [List.length_append]; have := h.f; omega
  · obtain ⟨a, n', g', b, c⟩ := h.t e he
    refine ⟨a, n', g', b, ?_⟩
    show _ ∈ (S.js ++ [_]).take S.f
    rw [List.take_append_of_le_length h.f]
    exact c
  · show (S.js ++ [_]).length ≤ _
    rw [List.length_append]; simp; omega
  · show S.es.length ≤ _; omega
theorem MOk.mono {i : Nat} {S : MS} (h : MOk i S) : MOk (i + 1) S := ⟨h.j, h.f, h.t, by have := h.lj; omega, by have := h.le; omega⟩
theorem run3 {i : Nat} {S : MS} {n : Int} {g : NestedKey} (h : MOk (i + 1) S) (hm : entK n g ∈ S.js) (hl : S.es.length ≤ i) : ∀ c, MOk (i + 1) (S.run "g0" ([Stp.fl, .se (rotK n g)].take c))
  | 0 => h
  | 1 => h.flu
  | c + 2 => by
    rw [List.take_of_length_le (by simp)]
    exact h.flu.sea rfl hm (by show S.es.length + 1 ≤ _; omega)
theorem MOk.run {i : Nat} {S : MS} {n : Int} {g : NestedKey} (h : MOk i S) (hg : GOk g) (hh : entK n g ∈ S.js ∨ hit S.js n = false) (hi : i < 800) (c : Nat) : MOk (i + 1) (S.run "g0" ((appr S.js n g).take c)) := by
  unfold appr
  by_cases hm : entK n g ∈ S.js
  · rw [if_pos hm]
    exact run3 h.mono hm h.le c
  · rw [if_neg hm]
    have hh : hit S.js n = false := by rcases hh with q | q; exact absurd q hm; exact q
    cases c with
    | zero => exact h.mono
    | succ c =>
      rw [List.take_succ_cons]
      exact run3 (S := S.step "g0" (.wr (entK n g))) (h.wr hg hh hi) (List.mem_append.mpr (.inr List.mem_cons_self)) h.le c
/-! steps as data -/
def stpK : Stp → NestedKey
  | .wr e => .tup [.text "write", e]
  | .fl => .tup [.text "flush"]
  | .se k => .tup [.text "seal", k]
theorem StpAt.nv {H : Hp} {v : V} {s : Stp} (h : StpAt H v s) : NV H (stpK s) v := by
  cases h with
  | wr h1 h2 => exact .tup h1 (.cons (.str _) (.cons h2 .nil))
  | fl h1 => exact .tup h1 (.cons (.str _) .nil)
  | se h1 h2 _ => exact .tup h1 (.cons (.str _) (.cons h2 .nil))
theorem StpsAt.tail {H : Hp} {v : V} {s : Stp} {vs : List V} {ss : List Stp} (h : StpsAt H (v :: vs) (s :: ss)) : StpAt H v s ∧ StpsAt H vs ss := by
  obtain ⟨v', h1, h2⟩ := h.2 0 s rfl
  cases h1
  exact ⟨h2, by have := h.1; simpa using this, fun i s' q => by have := h.2 (i + 1) s' (by simpa using q); simpa using this⟩
theorem StpsAt.nvs {H : Hp} : ∀ {vs : List V} {ss : List Stp}, StpsAt H vs ss → NVs H (ss.map stpK) vs
  | [], [], _ => .nil
  | [], s :: ss, h => by have := h.1; simp at this
  | v :: vs, [], h => by have := h.1; simp at this
  | v :: vs, s :: ss, h => .cons h.tail.1.nv (StpsAt.nvs h.tail.2)
theorem lay_wr {k : NestedKey} (z : Str) (hz : PyData.strOk z = true) (h1 : k.data.canLay0 = true) (h2 : k.data.depth ≤ 10) : (NestedKey.tup [.text z, k]).data.canLay0 = true ∧ (NestedKey.tup [.text z, k]).data.depth ≤ 12 := by
  have e : (NestedKey.tup [.text z, k]).data = .tuple [.str z, k.data] := by simp [NestedKey.data, NestedKey.datas]
  rw [e]
  exact ⟨by simp [PyData.canLay0, PyData.canLayAll0, hz, h1], by simp only [PyData.depth, PyData.depthAll]; omega⟩
theorem appr_lay {js : List NestedKey} {n : Int} {g : NestedKey} (h : GOk g) (h1 : 1 ≤ n) (h2 : setD g.data = true) : ∀ s ∈ appr js n g, (stpK s).data.canLay0 = true ∧ (stpK s).data.depth ≤ 12 := by
  have hr := rot_ok h h1 h2
  have he := ent_ok (n := n) h
  have a : ∀ s ∈ [Stp.wr (entK n g), .fl, .se (rotK n g)], (stpK s).data.canLay0 = true ∧ (stpK s).data.depth ≤ 12 := by
    intro s hs
    simp only [List.mem_cons, List.not_mem_nil, or_false] at hs
    rcases hs with rfl | rfl | rfl
    · exact lay_wr _ (by decide +kernel) he.l he.d
    · exact ⟨by decide +kernel, by decide +kernel⟩
    · exact lay_wr _ (by decide +kernel) hr.l (by have := hr.dep; omega)
  intro s hs
  unfold appr at hs
  split at hs
  · exact a s (List.mem_cons_of_mem _ hs)
  · exact a s hs
theorem appr_sh {js : List NestedKey} {n : Int} {g : NestedKey} (h : GOk g) (h1 : 1 ≤ n) (h2 : setD g.data = true) : SeqAt.shaped (.list (((appr js n g).map stpK).map NestedKey.data)) = true :=
  shaped_l NestedKey.data 12 (by omega) _ fun x hx => by
    obtain ⟨s, hs, rfl⟩ := List.mem_map.mp hx
    exact appr_lay h h1 h2 s hs

local macro_rules | `(tactic| walk_at "my_rd") => `(tactic| (repeat first
  | with_reducible refine q_tCons ?_
  | ((with_reducible apply q_var); (focus (exact rfl)))
  | with_reducible refine q_c ?_
  | ((with_reducible apply q_nxE); (focus (with_reducible exact rfl)))
  | with_reducible refine q_bK ?_
  | with_reducible refine q_call ?_
  | with_reducible refine q_callK ?_
  | with_reducible refine q_tNil ?_
  | with_reducible refine q_cb ?_
  | with_reducible refine q_seq ?_
  | with_reducible refine q_asg ?_
  | with_reducible refine q_gName ?_
  | with_reducible refine q_op ?_
  | with_reducible refine q_test ?_
  | with_reducible refine q_tB ?_
  | with_reducible refine q_ifS ?_
  | with_reducible refine q_ret ?_
  | ((with_reducible apply q_rtE); (focus (with_reducible exact rfl)))
  | with_reducible refine q_next ?_
  | with_reducible refine q_ifF ?_
  | with_reducible refine q_ifT ?_
  | with_reducible refine q_drop ?_
  | with_reducible refine q_and ?_
  | with_reducible refine q_or ?_
  | with_reducible refine q_andT ?_
  | with_reducible refine q_andF ?_
  | with_reducible refine q_orF ?_
  | with_reducible refine q_orT ?_
  | with_reducible refine q_andV ?_
  | with_reducible refine q_andVT ?_
  | with_reducible refine q_andVF ?_
  | with_reducible refine q_orV ?_
  | with_reducible refine q_gCons ?_
  | with_reducible refine q_gNil ?_
  | with_reducible refine q_tup ?_
  | with_reducible refine q_lst ?_
  | with_reducible refine q_not ?_
  | with_reducible refine q_notKT ?_
  | with_reducible refine q_notKF ?_
  | with_reducible refine q_I0 ?_
  | with_reducible refine q_eqI ?_
  | with_reducible refine q_neI ?_
  | ((with_reducible refine q_I ?_ ?_); first | decide | omega | exact ⟨by omega, by omega⟩ | exact ⟨by decide, by decide⟩ | exact .inl ⟨by omega, by omega⟩ | exact .inr ⟨by omega, by omega⟩ | exact .inr ⟨by decide, by decide⟩)
  | with_reducible refine q_eqS ?_
  | with_reducible refine q_neS ?_
  | with_reducible refine q_brk ?_
  | with_reducible refine q_ct ?_
  | ((with_reducible apply q_bkE); (focus (with_reducible exact rfl)))
  | ((with_reducible apply q_cnE); (focus (with_reducible exact rfl)))
  | with_reducible refine q_retN ?_
  | with_reducible refine q_gSub ?_
  | with_reducible refine q_for ?_
  | with_reducible refine q_iList ?_
  | with_reducible refine q_iTup ?_
  | with_reducible refine q_iRng1 ?_
  | with_reducible refine q_notK ?_
  | with_reducible refine q_orVT ?_
  | with_reducible refine q_orVF ?_
  | with_reducible refine q_notV ?_
  | with_reducible refine q_notVK ?_
  | with_reducible refine q_ifE ?_
  | with_reducible refine q_ifET ?_
  | with_reducible refine q_ifEF ?_
  | with_reducible refine q_yes ?_
  | with_reducible refine q_un ?_
  | with_reducible refine q_rU ?_
  | with_reducible refine q_abs ?_
  | with_reducible refine q_int1 ?_
  | with_reducible refine q_bm ?_
  | with_reducible refine q_bm0 ?_
  | with_reducible refine q_lc ?_
  | with_reducible refine q_keepT ?_
  | with_reducible refine q_keepF ?_
  | ((with_reducible apply q_aug); (focus (exact rfl)))
  | with_reducible refine q_ipI ?_
  | with_reducible refine q_chain ?_
  | with_reducible refine q_pairC ?_
  | with_reducible refine q_pairsK ?_
  | with_reducible refine q_pairN ?_
  | with_reducible refine q_fld ?_
  | with_reducible refine q_sFld ?_
  | with_reducible refine q_meth ?_
  | with_reducible refine q_makeK ?_
  | with_reducible refine q_isBl ?_
  | with_reducible refine q_notBl ?_
  | with_reducible refine q_sl ?_
  | with_reducible refine q_noPart ?_
  | with_reducible refine q_part ?_
  | with_reducible refine q_partK ?_
  | ((with_reducible apply q_mulStr); (focus (decide +kernel)))
  | with_reducible refine q_chT ?_
  | with_reducible refine q_chF ?_
  | with_reducible refine q_ord ?_
  | with_reducible refine q_iStr0 ?_
  | with_reducible refine q_iStr ?_
  | with_reducible refine q_tDIn ?_
  | with_reducible refine q_tDNotIn ?_
  | with_reducible refine q_tDGet ?_
  | with_reducible refine q_tDGet2 ?_
  | with_reducible refine q_tDGet1 ?_
  | with_reducible refine q_tDSetd ?_
  | ((with_reducible apply q_dG2a); (focus ((repeat first | (with_reducible exact upd_same) | (with_reducible assumption) | (with_reducible apply upd_new (by assumption)) | (with_reducible apply upd_other (by first | assumption | exact Ne.symm (by assumption))) | (with_reducible refine' Kp.get (by assumption) ?_ (by first | assumption | exact Ne.symm (by assumption))) | (with_reducible apply Same.get (by assumption))); done)))
  | ((with_reducible apply q_dSda); (focus ((repeat first | (with_reducible exact upd_same) | (with_reducible assumption) | (with_reducible apply upd_new (by assumption)) | (with_reducible apply upd_other (by first | assumption | exact Ne.symm (by assumption))) | (with_reducible refine' Kp.get (by assumption) ?_ (by first | assumption | exact Ne.symm (by assumption))) | (with_reducible apply Same.get (by assumption))); done)))
  | with_reducible refine q_sDPut ?_
  | ((with_reducible apply q_dInS); (focus ((repeat first | (with_reducible exact upd_same) | (with_reducible assumption) | (with_reducible apply upd_new (by assumption)) | (with_reducible apply upd_other (by first | assumption | exact Ne.symm (by assumption))) | (with_reducible refine' Kp.get (by assumption) ?_ (by first | assumption | exact Ne.symm (by assumption))) | (with_reducible apply Same.get (by assumption))); done)))
  | ((with_reducible apply q_dNInS); (focus ((repeat first | (with_reducible exact upd_same) | (with_reducible assumption) | (with_reducible apply upd_new (by assumption)) | (with_reducible apply upd_other (by first | assumption | exact Ne.symm (by assumption))) | (with_reducible refine' Kp.get (by assumption) ?_ (by first | assumption | exact Ne.symm (by assumption))) | (with_reducible apply Same.get (by assumption))); done)))
  | ((with_reducible apply q_dInI); (focus ((repeat first | (with_reducible exact upd_same) | (with_reducible assumption) | (with_reducible apply upd_new (by assumption)) | (with_reducible apply upd_other (by first | assumption | exact Ne.symm (by assumption))) | (with_reducible refine' Kp.get (by assumption) ?_ (by first | assumption | exact Ne.symm (by assumption))) | (with_reducible apply Same.get (by assumption))); done)))
  | ((with_reducible apply q_dNInI); (focus ((repeat first | (with_reducible exact upd_same) | (with_reducible assumption) | (with_reducible apply upd_new (by assumption)) | (with_reducible apply upd_other (by first | assumption | exact Ne.symm (by assumption))) | (with_reducible refine' Kp.get (by assumption) ?_ (by first | assumption | exact Ne.symm (by assumption))) | (with_reducible apply Same.get (by assumption))); done)))
  | ((with_reducible apply q_bmL); (focus ((repeat first | (with_reducible exact upd_same) | (with_reducible assumption) | (with_reducible apply upd_new (by assumption)) | (with_reducible apply upd_other (by first | assumption | exact Ne.symm (by assumption))) | (with_reducible refine' Kp.get (by assumption) ?_ (by first | assumption | exact Ne.symm (by assumption))) | (with_reducible apply Same.get (by assumption))); done)))
  | ((with_reducible apply q_bmL0); (focus ((repeat first | (with_reducible exact upd_same) | (with_reducible assumption) | (with_reducible apply upd_new (by assumption)) | (with_reducible apply upd_other (by first | assumption | exact Ne.symm (by assumption))) | (with_reducible refine' Kp.get (by assumption) ?_ (by first | assumption | exact Ne.symm (by assumption))) | (with_reducible apply Same.get (by assumption))); done)))
  | ((with_reducible apply q_ixLt); (focus ((repeat first | (with_reducible exact upd_same) | (with_reducible assumption) | (with_reducible apply upd_new (by assumption)) | (with_reducible apply upd_other (by first | assumption | exact Ne.symm (by assumption))) | (with_reducible refine' Kp.get (by assumption) ?_ (by first | assumption | exact Ne.symm (by assumption))) | (with_reducible apply Same.get (by assumption))); done)); (focus (exact rfl)))
  | ((with_reducible apply q_ixTt); (focus ((repeat first | (with_reducible exact upd_same) | (with_reducible assumption) | (with_reducible apply upd_new (by assumption)) | (with_reducible apply upd_other (by first | assumption | exact Ne.symm (by assumption))) | (with_reducible refine' Kp.get (by assumption) ?_ (by first | assumption | exact Ne.symm (by assumption))) | (with_reducible apply Same.get (by assumption))); done)); (focus (exact rfl)))
  | ((with_reducible apply q_lenLt); (focus ((repeat first | (with_reducible exact upd_same) | (with_reducible assumption) | (with_reducible apply upd_new (by assumption)) | (with_reducible apply upd_other (by first | assumption | exact Ne.symm (by assumption))) | (with_reducible refine' Kp.get (by assumption) ?_ (by first | assumption | exact Ne.symm (by assumption))) | (with_reducible apply Same.get (by assumption))); done)))
  | ((with_reducible apply q_lenTt); (focus ((repeat first | (with_reducible exact upd_same) | (with_reducible assumption) | (with_reducible apply upd_new (by assumption)) | (with_reducible apply upd_other (by first | assumption | exact Ne.symm (by assumption))) | (with_reducible refine' Kp.get (by assumption) ?_ (by first | assumption | exact Ne.symm (by assumption))) | (with_reducible apply Same.get (by assumption))); done)))
  | ((with_reducible apply q_append); (focus ((repeat first | (with_reducible exact upd_same) | (with_reducible assumption) | (with_reducible apply upd_new (by assumption)) | (with_reducible apply upd_other (by first | assumption | exact Ne.symm (by assumption))) | (with_reducible refine' Kp.get (by assumption) ?_ (by first | assumption | exact Ne.symm (by assumption))) | (with_reducible apply Same.get (by assumption))); done)); (focus ((first | (exact Nat.lt_of_ble_eq_true rfl) | (simp only [List.length_append, List.length_cons, List.length_nil, List.length_map]; exact small1000 (by omega))))))
  | ((with_reducible apply q_setL); (focus ((repeat first | (with_reducible exact upd_same) | (with_reducible assumption) | (with_reducible apply upd_new (by assumption)) | (with_reducible apply upd_other (by first | assumption | exact Ne.symm (by assumption))) | (with_reducible refine' Kp.get (by assumption) ?_ (by first | assumption | exact Ne.symm (by assumption))) | (with_reducible apply Same.get (by assumption))); done)); (focus (exact rfl)))
  | with_reducible refine q_ifNT ?_
  | with_reducible refine q_ifNF ?_
  | with_reducible refine q_andNT ?_
  | with_reducible refine q_andNF ?_
  | with_reducible refine q_orNT ?_
  | with_reducible refine q_orNF ?_
  | with_reducible refine q_bKNT ?_
  | with_reducible refine q_bKNF ?_
  | with_reducible refine q_tNGet ?_
  | with_reducible refine q_tNIn ?_
  | with_reducible refine q_sNPut ?_
  | with_reducible refine q_sFldAug ?_
  | with_reducible refine q_sDAug ?_
  | with_reducible refine q_sDDel ?_
  | with_reducible refine q_forX ?_
  | with_reducible refine q_tMake ?_
  | ((with_reducible apply q_dG1a); (focus ((repeat first | (with_reducible exact upd_same) | (with_reducible assumption) | (with_reducible apply upd_new (by assumption)) | (with_reducible apply upd_other (by first | assumption | exact Ne.symm (by assumption))) | (with_reducible refine' Kp.get (by assumption) ?_ (by first | assumption | exact Ne.symm (by assumption))) | (with_reducible apply Same.get (by assumption))); done)))))
theorem q_make {C : Addr} {sp : Sp} {E : XK} {ta : TA} {σ : L2.St} {H : Hp} {Q : VK} (h : ta σ H fun vs H2 => ∀ x dx, H2 x = none → H2 dx = none → dx ≠ x → sp (.ref x :: vs) (upd (upd H2 dx (.own x)) x (.ins C dx [])) (fun v H3 => v = .non ∧ Q (.ref x) H3) E) : tMake C sp [] E ta σ H Q := by
  unfold tMake
  simp only [List.append_nil]
  exact h
/-! the law of approvals -/
def spLaw (K : PySem.W.Frag) : Sp := fun vs H Q _ => ∃ (a : Addr) (ns : List Int), vs = [.ref a] ∧ SqL K H a (ns.map V.int) ∧ ns.length ≤ 63 ∧ ∀ H', Q (.bl true) H'
theorem q_join {D : Ends} {t u : TS} {σ : L2.St} {c : Bool} {H : Hp} (J : L2.St → Hp → Prop) (hJ : ∀ σ H, J σ H → D.nx σ H) (h : ∀ N : L2.St → Hp → Prop, (∀ σ H, J σ H → N σ H) → ifK { D with nx := N } t u σ c H) : ifK D t u σ c H := h D.nx hJ
theorem q_joinG {D : Ends} {t u : TS} {σ : L2.St} {c : Bool} {H : Hp} (J : L2.St → Hp → Prop) (hJ : ∀ σ H, J σ H → D.nx σ H) (h : ∀ (N : L2.St → Hp → Prop) (R : VK) (B C : L2.St → Hp → Prop), (∀ σ H, J σ H → N σ H) → ifK ⟨N, R, B, C⟩ t u σ c H) : ifK D t u σ c H := h D.nx D.rt D.bk D.ct hJ
theorem pairs_nv {H : Hp} : ∀ {xs : List V} {gs : Gs}, PairsAt H xs gs → NVs H (gs.map gk) xs
  | [], [], _ => .nil
  | [], g :: gs, h => by have := h.len; simp at this
  | x :: xs, [], h => by have := h.len; simp at this
  | x :: xs, g :: gs, h => by
    obtain ⟨a, e, ha⟩ := h.at_ 0 g rfl
    have e : x = .ref a := Option.some.inj e
    subst e
    exact .cons (.tup ha (.cons (.str _) (.cons (.int _) .nil))) (pairs_nv h.tail)
def setK (gs : Gs) : NestedKey := .tup (gs.map gk)
theorem setK_data (gs : Gs) : (setK gs).data = .tuple (gs.map prd) := by
  unfold setK
  simp only [NestedKey.data]
  rw [gks_data]
theorem set_ok {gs : Gs} (h : Drawn gs) : GOk (setK gs) ∧ setD (setK gs).data = true := by
  rw [show (setD (setK gs).data = true) = (setD (PyData.tuple (gs.map prd)) = true) by rw [setK_data]]
  obtain ⟨h1, h2⟩ := prds_lay gs fun z hz => (names_ok _ (h.nms z hz)).1
  refine ⟨⟨?_, by rw [setK_data]; exact h.fine, by rw [setK_data]; simp only [PyData.canLay0]; exact h1, by rw [setK_data]; simp only [PyData.depth]; omega⟩, h.set⟩
  rw [setK_data]
  intro ds e
  injection e with e
  subst e
  refine ⟨by rw [List.length_map]; have := h.few; omega, fun x hx => ?_⟩
  obtain ⟨g, hg, rfl⟩ := List.mem_map.mp hx
  exact fine2 (by show g.1.length ≤ 100000; have := (names_ok _ (h.nms g hg)).2.2; omega) trivial
def g5 : Gs := [(("g5" : Str), 3)]
theorem g5_drawn : Drawn g5 where
  ne := by simp [g5]
  few := by simp [g5]
  nd := by simp [g5]
  nms := by intro g hg; rw [List.mem_singleton.mp hg]; decide +kernel
  pos := by intro g hg; rw [List.mem_singleton.mp hg]; decide
  top := by intro g hg; rw [List.mem_singleton.mp hg]; decide
def k0 : NestedKey := .tup [.text "sealed", .tup [.text "stop", .text "west", .num 0, .tup []]]
theorem k0_ok : JOk k0 := ⟨⟨_, rfl⟩, by decide +kernel, by decide +kernel⟩
theorem k0_pre (n : Int) : pre k0 ≠ preK n := by
  intro h
  unfold preK at h
  injection h with h
  injection h with h _
  injection h with h
  exact absurd h (by decide +kernel)
theorem j0 : MOk 1 ⟨[k0], 0, []⟩ := by
  refine ⟨⟨fun k m => by rw [List.mem_singleton.mp m]; exact k0_ok, fun k m n e => by rw [List.mem_singleton.mp m] at e; exact absurd e (k0_pre n), fun n g g' m _ => ?_, by simp⟩, by simp, fun e he => (by cases he), by simp, by simp⟩
  have := List.mem_singleton.mp m
  exact absurd (this ▸ pre_ent n g) (k0_pre n)
theorem eqv_refl (js : List NestedKey) : PyData.eqv (.list (js.map NestedKey.data)) (.list (js.map NestedKey.data)) = true := by
  have h := key_dec (.tup js) (.tup js)
  rw [decide_eq_true rfl] at h
  simp only [NestedKey.data, PyData.eqv] at h
  rw [datas_map] at h
  simp only [PyData.eqv]
  exact h
theorem no_mcs : ("carry_out" : Str) ∉ mcNames ∧ ("crash" : Str) ∉ mcNames ∧ ("journal" : Str) ∉ mcNames ∧ ("count" : Str) ∉ notNames ∧ ("shown" : Str) ∉ notNames := by decide +kernel
section
variable {P : Program} {w : World} {K : PySem.W.Frag} {mg : Str → Option Value} {base : Heap}
set_option maxHeartbeats 0 in
theorem ok_law (T : Txt K mg) : FnOk P w K mg base CX0 14 T.f_law T.d_law ["script"] (spLaw K) := by
  refine T.F_law.ok sc_law (fun vs H Q E h => ?_) (fun cdv A outer s H vs Q E hr h => ?_)
  · obtain ⟨a, ns, rfl, _⟩ := h; rfl
  · obtain ⟨a0, ns0, rfl, hS, hlen, k⟩ := h
    have hu := hu_of hr
    have hn := hn_of hr
    refine ⟨_, (pss_cons (ps_set (i := 1) sc_law.nd rfl (Or.inl rfl) (pe_call (ok_L_pot T) (hr.mono (by decide)) (by rfl) T.g_L_pot T.F_L_pot.kp T.b_L_pot .nil pass0 (pa_cons (pv 0) pa_nil)))
      (pss_cons (ps_set (i := 2) sc_law.nd rfl (Or.inl rfl) (pe_make0 T.mk_Notary (ok_Notary_init T) (hr.mono (by decide)) (by rfl) T.g_Notary T.b_Notary_init .nil pass0))
      (pss_cons (ps_set (i := 3) sc_law.nd rfl (Or.inl rfl) (pe_make T.mk_Machine (ok_Machine_init T) (hr.mono (by decide)) (by rfl) T.g_Machine T.b_Machine_init .nil pass0 (pa_cons pe_str (pa_cons (pv 2) pa_nil))))
      (pss_cons (ps_set (i := 4) sc_law.nd rfl (Or.inl rfl) (pe_lst (pa_cons (pe_call (ok_L_set T) (hr.mono (by decide)) (by rfl) T.g_L_set T.F_L_set.kp T.b_L_set .nil pass0 (pa_cons (pv 1) (pa_cons pe_int pa_nil))) (pa_cons (pe_call (ok_L_set T) (hr.mono (by decide)) (by rfl) T.g_L_set T.F_L_set.kp T.b_L_set .nil pass0 (pa_cons (pv 1) (pa_cons pe_int pa_nil))) (pa_cons (pe_tup (pa_cons (pe_tup (pa_cons pe_str (pa_cons pe_int pa_nil))) pa_nil)) pa_nil)))))
      (pss_cons (ps_set (i := 5) sc_law.nd rfl (Or.inl rfl) (pe_lst (pa_cons (pe_tup (pa_cons pe_str (pa_cons (pe_tup (pa_cons pe_str (pa_cons pe_str (pa_cons pe_int (pa_cons (pe_tup pa_nil) pa_nil))))) pa_nil))) pa_nil)))
      (pss_cons (ps_expr (pe_meth (pv 3) T.cl_Machine T.m_Machine_carry_out (ok_Machine_carry_out T) (hr.mono (by decide)) T.b_Machine_carry_out .nil pass0 (pa_cons (pe_lst (pa_cons (pe_tup (pa_cons pe_str (pa_cons (pe_ix ix_list (pv 5) pe_int (fun _ _ => rfl)) pa_nil))) pa_nil)) (pa_cons pe_int pa_nil))))
      (pss_cons (ps_set (i := 6) sc_law.nd rfl (Or.inl rfl) pe_int)
      (pss_cons (ps_for PassesOwn.never rfl (pi_range1 (by rfl) T.z_range (pa_cons (pe_op op_add pe_int (pe_callB (call_min2 rfl) (by rfl) T.z_min boot_min (pa_cons (pe_callB cq_len (by rfl) T.z_len boot_len (pa_cons (pv 0) pa_nil)) (pa_cons pe_int pa_nil)))) pa_nil)) (pg_name (i := 7) sc_law.nd rfl (Or.inl rfl))
        (pss_cons (ps_if (pt_cmpR op_eq (pe_call (ok_L_next T) (hr.mono (by decide)) (by rfl) T.g_L_next T.F_L_next.kp T.b_L_next .nil pass0 (pa_cons (pv 1) (pa_cons pe_int pa_nil))) pe_int (nomark _)) (pss_cons (ps_set (i := 10) sc_law.nd rfl (Or.inl rfl) (pe_call (ok_L_next T) (hr.mono (by decide)) (by rfl) T.g_L_next T.F_L_next.kp T.b_L_next .nil pass0 (pa_cons (pv 1) (pa_cons pe_int pa_nil))))
      (pss_cons (ps_if (pt_cmpR op_notN (pe_meth (pv 3) T.cl_Machine T.m_Machine_crash (ok_Machine_crash T) (hr.mono (by decide)) T.b_Machine_crash .nil pass0 (pa_cons (pv 10) pa_nil)) pe_non (nomark _)) (pss_one (ps_ret pe_bl)) pss_nil)
      (pss_one (ps_set (i := 5) sc_law.nd rfl (Or.inl rfl) (pe_slice sl_list (pv 5) po_none (po_some (pe_callB (call_max2 rfl) (by rfl) T.z_max boot_max (pa_cons (pv 6) (pa_cons (pe_op op_sub (pe_callB cq_len (by rfl) T.z_len boot_len (pa_cons (pv 5) pa_nil)) (pv 10)) pa_nil))))))))) (pss_cons (ps_set (i := 9) sc_law.nd rfl (Or.inl rfl) (pe_op op_add pe_int (pe_call (ok_L_next T) (hr.mono (by decide)) (by rfl) T.g_L_next T.F_L_next.kp T.b_L_next .nil pass0 (pa_cons (pv 1) (pa_cons pe_int pa_nil)))))
      (pss_cons (ps_set (i := 11) sc_law.nd rfl (Or.inl rfl) (pe_ix ix_list (pv 4) (pe_call (ok_L_next T) (hr.mono (by decide)) (by rfl) T.g_L_next T.F_L_next.kp T.b_L_next .nil pass0 (pa_cons (pv 1) (pa_cons pe_int pa_nil))) (fun _ _ => rfl)))
      (pss_cons (ps_set (i := 12) sc_law.nd rfl (Or.inl rfl) (pe_call (ok_L_due T) (hr.mono (by decide)) (by rfl) T.g_L_due T.F_L_due.kp T.b_L_due .nil pass0 (pa_cons (pv 5) (pa_cons (pv 9) (pa_cons (pv 11) pa_nil)))))
      (pss_cons (ps_set (i := 13) sc_law.nd rfl (Or.inl rfl) (pe_call (ok_L_steps T) (hr.mono (by decide)) (by rfl) T.g_L_steps T.F_L_steps.kp T.b_L_steps .nil pass0 (pa_cons (pe_meth0 (pv 3) T.cl_Machine T.m_Machine_journal (ok_Machine_journal T) (hr.mono (by decide)) T.b_Machine_journal .nil pass0) (pa_cons (pv 9) (pa_cons (pv 11) pa_nil)))))
      (pss_cons (ps_if (PW.pt (pw_or (pt_cmpR (op_neD hr.units) (pv 13) (pv 12) (nomark _)) (pw_or1 (PW.pt (pw_and (pt_val (pe_callB call_isi (by rfl) T.z_isinstance boot_isinstance (pa_cons (pv 12) (pa_cons (pe_bltn (v := .ty "int") (by rfl) T.z_int boot_int rfl) pa_nil)))) (pw_and1 (pt_not (pt_val (pe_call (ok_L_is_int T) (hr.mono (by decide)) (by rfl) T.g_L_is_int T.F_L_is_int.kp T.b_L_is_int .nil pass0 (pa_cons (pv 13) pa_nil)))))))))) (pss_one (ps_ret pe_bl)) pss_nil)
      (pss_one (ps_if (pt_cmpR (op_neD hr.units) (pv 12) pe_int (nomark _)) (pss_cons (ps_set (i := 16) sc_law.nd rfl (Or.inl rfl) (pe_ix ix_list (pe_lst (pa_cons pe_int (pa_cons (pe_call (ok_L_next T) (hr.mono (by decide)) (by rfl) T.g_L_next T.F_L_next.kp T.b_L_next .nil pass0 (pa_cons (pv 1) (pa_cons pe_int pa_nil))) pa_nil))) (pe_call (ok_L_next T) (hr.mono (by decide)) (by rfl) T.g_L_next T.F_L_next.kp T.b_L_next .nil pass0 (pa_cons (pv 1) (pa_cons pe_int pa_nil))) (fun _ _ => rfl)))
      (pss_cons (ps_set (i := 17) sc_law.nd rfl (Or.inl rfl) (pe_meth (pv 3) T.cl_Machine T.m_Machine_carry_out (ok_Machine_carry_out T) (hr.mono (by decide)) T.b_Machine_carry_out .nil pass0 (pa_cons (pv 13) (pa_cons (pv 16) pa_nil))))
      (pss_cons (ps_if (pt_cmpR op_ne (pe_callB cq_len (by rfl) T.z_len boot_len (pa_cons (pv 17) pa_nil)) (pe_callB cq_len (by rfl) T.z_len boot_len (pa_cons (pe_lc (own := [("step", 18)]) (g := (gName 18)) (tt := (tTest (tOp rEq (tOp (rIxT K) (tVar 18) (tC (.int 0))) (tC (.str "seal"))))) (te := (tVar 18)) rfl sc_law.nd (pi_list (pe_slice sl_list (pv 12) po_none (po_some (pv 16)))) (blkOk_by (own := [("step", 18)]) (N := ["script", "pot", "notary", "machine", "sets", "journal", "flushed", "k", "chosen", "number", "lost", "guards", "due", "steps", "guard", "letter", "count", "seals", "step"]) (sc := defScope s_law) (by decide +kernel)) (fun _ _ _ _ _ => (pg_name (i := 18) sc_law.nd rfl (Or.inl rfl))) (fun _ _ _ _ _ => (pts_one (pt_cmpR op_eq (pe_ix ix_tup (pv 18) pe_int (fun _ _ => rfl)) pe_str (nomark _)))) (fun _ _ _ _ _ => (pv 18))) pa_nil)) (nomark _)) (pss_one (ps_ret pe_bl)) pss_nil)
      (pss_one (ps_for PassesOwn.never rfl (pi_list (pe_slice sl_list (pv 12) po_none (po_some (pv 16)))) (pg_name (i := 18) sc_law.nd rfl (Or.inl rfl))
        (pss_one (ps_if (pt_cmpR op_eq (pe_ix ix_tup (pv 18) pe_int (fun _ _ => rfl)) pe_str (nomark _)) (pss_one (ps_expr (pe_bm PySem.F.plainAttrs_list PySem.F.slot_list_append PySem.F.type_list_append mt_append (pv 5) (pa_cons (pe_ix ix_tup (pv 18) pe_int (fun _ _ => rfl)) pa_nil)))) (pss_one (ps_if (pt_cmpR op_eq (pe_ix ix_tup (pv 18) pe_int (fun _ _ => rfl)) pe_str (nomark _)) (pss_one (ps_set (i := 6) sc_law.nd rfl (Or.inl rfl) (pe_callB cq_len (by rfl) T.z_len boot_len (pa_cons (pv 5) pa_nil)))) pss_nil))))))))) pss_nil))))))))
      (pss_cons (ps_if (pt_cmpR (op_neD hr.units) (pe_meth0 (pv 3) T.cl_Machine T.m_Machine_journal (ok_Machine_journal T) (hr.mono (by decide)) T.b_Machine_journal .nil pass0) (pv 5) (nomark _)) (pss_one (ps_ret pe_bl)) pss_nil)
      (pss_one (ps_expr (pe_bm PySem.F.plainAttrs_list PySem.F.slot_list_append PySem.F.type_list_append mt_append (pe_meth0 (pv 3) T.cl_Machine T.m_Machine_journal (ok_Machine_journal T) (hr.mono (by decide)) T.b_Machine_journal .nil pass0) (pa_cons pe_int pa_nil)))))))
      (pss_cons (ps_set (i := 8) sc_law.nd rfl (Or.inl rfl) pe_dnewK)
      (pss_cons (ps_for PassesOwn.never rfl (pi_range1 (by rfl) T.z_range (pa_cons (pe_meth0 (pv 2) T.cl_Notary T.m_Notary_count (ok_Notary_count T) (hr.mono (by decide)) T.b_Notary_count .nil pass0) pa_nil)) (pg_name (i := 9) sc_law.nd rfl (Or.inl rfl))
        (pss_cons (ps_asg (pe_meth (pv 2) T.cl_Notary T.m_Notary_shown (ok_Notary_shown T) (hr.mono (by decide)) T.b_Notary_shown .nil pass0 (pa_cons (pv 9) pa_nil)) (pg_tup rfl (pgs_cons (pg_name (i := 14) sc_law.nd rfl (Or.inl rfl)) (pgs_cons (pg_name (i := 15) sc_law.nd rfl (Or.inl rfl)) pgs_nil))))
      (pss_cons (ps_if (PW.pt (pw_or (pt_cmpR op_ne (pv 14) pe_str (nomark _)) (pw_or1 (pt_cmpR (op_neD hr.units) (pe_dget2 hu (pv 8) (pe_ix ix_tup (pv 15) pe_int (fun _ _ => rfl)) (pe_ix ix_tup (pv 15) pe_int (fun _ _ => rfl)) ⟨rfl, rfl, rfl, rfl⟩) (pe_ix ix_tup (pv 15) pe_int (fun _ _ => rfl)) (nomark _))))) (pss_one (ps_ret pe_bl)) pss_nil)
      (pss_one (ps_dput hu (pv 8) (pe_ix ix_tup (pv 15) pe_int (fun _ _ => rfl)) (pe_ix ix_tup (pv 15) pe_int (fun _ _ => rfl)) rfl)))))
      (pss_one (ps_ret (pe_and (pe_cmpR op_eq (pe_call (ok_L_steps T) (hr.mono (by decide)) (by rfl) T.g_L_steps T.F_L_steps.kp T.b_L_steps .nil pass0 (pa_cons (pe_lst pa_nil) (pa_cons pe_int (pa_cons (pe_ix ix_list (pv 4) pe_int (fun _ _ => rfl)) pa_nil)))) pe_int (nomark _)) (pe_one (pe_cmpR op_eq (pe_call (ok_L_steps T) (hr.mono (by decide)) (by rfl) T.g_L_steps T.F_L_steps.kp T.b_L_steps .nil pass0 (pa_cons (pe_lst pa_nil) (pa_cons pe_int (pa_cons (pe_tup pa_nil) pa_nil)))) pe_int (nomark _)))))))))))))))), ?_⟩
    (dsimp only [cxOf, Cx.nox, Cx.wish, L2.start, List.map, List.length, List.replicate, List.cons_append, List.nil_append, List.append_eq, Nat.reduceSub, Nat.reduceAdd])
    walk_at "my_rd"
    refine ⟨a0, ns0, rfl, hS, hlen, fun p l H1 np nl pot1 sm1 => ?_⟩
    walk_at "my_rd"
    intro x dx nx ndx hne
    have smM : Same H1 (upd (upd H1 dx (.own x)) x (.ins T.C_Notary dx [])) := Same.up (Same.up (Same.refl _) ndx) (upd_free hne.symm nx)
    refine ⟨x, dx, rfl, upd_same, fun tl nd H2 ntl nnd hN2 kpx => ⟨rfl, ?_⟩⟩
    have ntl1 : H1 tl = none := Same.free smM ntl
    have sm2 : Same H1 H2 := fun b o q => kpx b o (smM _ _ q) (ne_of_none q nx)
    have pot2 := pot1.same sm2
    have tlp : tl ≠ p := pot1.nep ntl1
    have tll : tl ≠ l := pot1.nel ntl1
    have ntl0 : H tl = none := Same.free sm1 ntl1
    have nnd0 : H nd = none := Same.free sm1 (Same.free smM nnd)
    clear smM kpx ntl nnd
    walk_at "my_rd"
    intro m dm nm ndm hnem
    have smM : Same H2 (upd (upd H2 dm (.own m)) m (.ins T.C_Machine dm [])) := Same.up (Same.up (Same.refl _) ndm) (upd_free hnem.symm nm)
    obtain ⟨_, _, _, _, hx2, _, _, _, htl2, _⟩ := hN2.ex
    refine ⟨m, dm, x, tl, nd, "g0", [], rfl, upd_same, hN2.same smM, ne_of_none hx2 nm, fun nt ml H3 nnt nml hM3 kpm => ⟨rfl, ?_⟩⟩
    have nml2 : H2 ml = none := Same.free smM nml
    have sm3 : Same H2 H3 := fun b o q => kpm b o (smM _ _ q) (ne_of_none q nm)
    have pot3 := pot2.same sm3
    have mlp : ml ≠ p := pot2.nep nml2
    have mll : ml ≠ l := pot2.nel nml2
    have sm03 : Same H H3 := Same.trans sm1 (Same.trans sm2 sm3)
    have nml0 : H ml = none := Same.free sm1 (Same.free sm2 nml2)
    have nnt0 : H nt = none := Same.free sm1 (Same.free sm2 (Same.free smM nnt))
    clear smM kpm nnt nml hN2 sm1 sm2 sm3 pot1 pot2
    generalize hA : (⟨m, x, tl, nd, nt, ml⟩ : McA) = A at hM3
    have eA : A.m = m ∧ A.x = x ∧ A.tl = tl ∧ A.nd = nd ∧ A.l = ml ∧ A.nt = nt := by subst hA; exact ⟨rfl, rfl, rfl, rfl, rfl, rfl⟩
    walk_at "my_rd"
    refine ⟨p, l, 3, rfl, pot3, by omega, by omega, fun s1 gv1 gs1 H4 ns1 hs1 hP1 hD1 hl1 pot4 kp4 => ?_⟩
    obtain ⟨py3, hp3⟩ := pot3.lst
    have hM4 := hM3.lst hp3 kp4 (by rw [eA.2.2.2.2.1]; exact mlp) (by rw [eA.2.2.1]; exact tlp)
    have sm4 : Same H H4 := fun b o q => kp4 b o (sm03 _ _ q) (ne_of_none q np)
    walk_at "my_rd"
    refine ⟨p, l, 3, rfl, pot4, by omega, by omega, fun s2 gv2 gs2 H5 ns2 hs2 hP2 hD2 hl2 pot5 kp5 => ?_⟩
    obtain ⟨py4, hp4⟩ := pot4.lst
    have hM5 := hM4.lst hp4 kp5 (by rw [eA.2.2.2.2.1]; exact mlp) (by rw [eA.2.2.1]; exact tlp)
    have t5 := tup_kp hp4 kp5
    have e1 : NV H5 (setK gs1) (.ref s1) := .tup (t5 _ _ hs1) (pairs_nv (hP1.mono t5))
    have e2 : NV H5 (setK gs2) (.ref s2) := .tup hs2 (pairs_nv hP2)
    have sm5 : Same H H5 := fun b o q => kp5 b o (sm4 _ _ q) (ne_of_none q np)
    clear hM3 hM4 kp4 kp5 hs1 hs2 hP1 hP2 t5 sm03 sm4 hp3 hp4 pot3 pot4
    walk_at "my_rd"
    refine q_tupK (Nat.le_of_ble_eq_true rfl) fun u1 nu1 => ?_
    walk_at "my_rd"
    refine q_tupK (Nat.le_of_ble_eq_true rfl) fun u2 nu2 => ?_
    walk_at "my_rd"
    refine q_lstK (Nat.le_of_ble_eq_true rfl) fun sa nsa => ?_
    walk_at "my_rd"
    have sm6 : Same H5 (upd (upd (upd H5 u1 (.tup [.str "g5", .int 3])) u2 (.tup [.ref u1])) sa (.lst [.ref s1, .ref s2, .ref u2])) := Same.up (Same.up (Same.up (Same.refl _) nu1) nu2) nsa
    have hsa : (upd (upd (upd H5 u1 (.tup [.str "g5", .int 3])) u2 (.tup [.ref u1])) sa (.lst [.ref s1, .ref s2, .ref u2])) sa = some (.lst [.ref s1, .ref s2, .ref u2]) := upd_same
    have e3 : NV (upd (upd (upd H5 u1 (.tup [.str "g5", .int 3])) u2 (.tup [.ref u1])) sa (.lst [.ref s1, .ref s2, .ref u2])) (setK g5) (.ref u2) := .tup (upd_new nsa upd_same) (.cons (.tup (upd_new nsa (upd_new nu2 upd_same)) (.cons (.str _) (.cons (.int _) .nil))) .nil)
    have nsa5 : H5 sa = none := upd_none_back (upd_none_back nsa)
    generalize (upd (upd (upd H5 u1 (.tup [.str "g5", .int 3])) u2 (.tup [.ref u1])) sa (.lst [.ref s1, .ref s2, .ref u2])) = H6 at sm6 hsa e3
    have t6 : ∀ b ys, H5 b = some (HO.tup ys) → H6 b = some (.tup ys) := fun b ys q => sm6 _ _ q
    have hgv : NVs H6 [setK gs1, setK gs2, setK g5] [.ref s1, .ref s2, .ref u2] := .cons (e1.mono t6) (.cons (e2.mono t6) (.cons e3 .nil))
    have hM6 := hM5.same sm6
    have pot6 := pot5.same sm6
    have sm06 := Same.trans sm5 sm6
    have fsa := hM5.free nsa5
    have sap : sa ≠ p := pot5.nep nsa5
    have sal : sa ≠ l := pot5.nel nsa5
    clear e1 e2 e3 hM5 pot5 sm5 sm6 t6
    refine q_tupK (Nat.le_of_ble_eq_true rfl) fun b1 nb1 => ?_
    walk_at "my_rd"
    refine q_tupK (Nat.le_of_ble_eq_true rfl) fun b2 nb2 => ?_
    walk_at "my_rd"
    refine q_tupK (Nat.le_of_ble_eq_true rfl) fun b3 nb3 => ?_
    walk_at "my_rd"
    refine q_lstK (Nat.le_of_ble_eq_true rfl) fun jl njl => ?_
    walk_at "my_rd"
    have sm7 : Same H6 (upd (upd (upd (upd H6 b1 (.tup [])) b2 (.tup [.str "stop", .str "west", .int 0, .ref b1])) b3 (.tup [.str "sealed", .ref b2])) jl (.lst [.ref b3])) := Same.up (Same.up (Same.up (Same.up (Same.refl _) nb1) nb2) nb3) njl
    have hjl : (upd (upd (upd (upd H6 b1 (.tup [])) b2 (.tup [.str "stop", .str "west", .int 0, .ref b1])) b3 (.tup [.str "sealed", .ref b2])) jl (.lst [.ref b3])) jl = some (.lst [.ref b3]) := upd_same
    have e3 : NV (upd (upd (upd (upd H6 b1 (.tup [])) b2 (.tup [.str "stop", .str "west", .int 0, .ref b1])) b3 (.tup [.str "sealed", .ref b2])) jl (.lst [.ref b3])) k0 (.ref b3) := .tup (upd_new njl upd_same) (.cons (.str _) (.cons (.tup (upd_new njl (upd_new nb3 upd_same)) (.cons (.str _) (.cons (.str _) (.cons (.int _) (.cons (.tup (upd_new njl (upd_new nb3 (upd_new nb2 upd_same))) .nil) .nil))))) .nil))
    have njl6 : H6 jl = none := upd_none_back (upd_none_back (upd_none_back njl))
    generalize (upd (upd (upd (upd H6 b1 (.tup [])) b2 (.tup [.str "stop", .str "west", .int 0, .ref b1])) b3 (.tup [.str "sealed", .ref b2])) jl (.lst [.ref b3])) = H7 at sm7 hjl e3
    have fjl := hM6.free njl6
    have I7 : LI P w T.C_Machine T.C_Notes T.C_Notary A p l sa jl [setK gs1, setK gs2, setK g5] ⟨[], 0, []⟩ [k0] H7 := ⟨pot6.same sm7, hM6.same sm7, ⟨_, sm7 _ _ hsa, NVs.mono (fun b ys q => sm7 _ _ q) hgv⟩, ⟨_, hjl, .cons e3 .nil⟩,
      ⟨by rw [eA.2.2.2.2.1]; exact mlp, by rw [eA.2.2.2.2.1]; exact mll, by rw [eA.2.2.1]; exact tlp, by rw [eA.2.2.1]; exact tll, sap, sal, (fsa _ (by simp)).symm, (fsa _ (by simp)).symm, pot6.nep njl6, pot6.nel njl6, (fjl _ (by simp)).symm, (fjl _ (by simp)).symm, (ne_of_none hsa njl6).symm⟩⟩
    have sm07 := Same.trans sm06 sm7
    clear hM6 pot6 sm06 hgv hsa sm7
    walk_at "my_rd"
    obtain ⟨dm7, mf7, hm7, _, _, _, mn7⟩ := I7.mc.ex
    rw [eA.1] at hm7
    refine q_methK hm7 (mn7 _ no_mcs.1) fun R hR => ?_
    clear hm7 mn7
    walk_at "my_rd"
    refine q_tupK (Nat.le_of_ble_eq_true rfl) fun w1 nw1 => ?_
    walk_at "my_rd"
    refine q_lstK (Nat.le_of_ble_eq_true rfl) fun st nst => ?_
    walk_at "my_rd"
    have sm8 : Same H7 (upd (upd H7 w1 (.tup [.str "write", .ref b3])) st (.lst [.ref w1])) := Same.up (Same.up (Same.refl _) nw1) nst
    have hst : (upd (upd H7 w1 (.tup [.str "write", .ref b3])) st (.lst [.ref w1])) st = some (.lst [.ref w1]) := upd_same
    have hw1 : (upd (upd H7 w1 (.tup [.str "write", .ref b3])) st (.lst [.ref w1])) w1 = some (.tup [.str "write", .ref b3]) := upd_new nst upd_same
    generalize (upd (upd H7 w1 (.tup [.str "write", .ref b3])) st (.lst [.ref w1])) = H8 at sm8 hst hw1
    have I8 := I7.same sm8
    refine hR _ _ ⟨A, "g0", ⟨[], 0, []⟩, st, [.ref w1], [.wr k0], 1, by rw [eA.1]; rfl, I8.mc, by decide +kernel, hst, .cons (.wr hw1 (e3.mono fun b ys z => sm8 _ _ z)) .nil, by decide, by decide, fun q H9 ns9 nq hq9 hn9 hM9 hf9 => ?_⟩
    clear hR
    have I9 := I8.mach hf9 hM9
    have hM0 : (MS.run "g0" ⟨[], 0, []⟩ (List.take 1 [Stp.wr k0])) = ⟨[k0], 0, []⟩ := rfl
    rw [hM0] at I9
    have s09 : ∀ b o, H b = some o → H9 b = some o := fun b o z => hf9 b o (sm8 _ _ (sm07 _ _ z)) (by rw [eA.2.2.2.2.1]; exact ne_of_none z nml0) (by rw [eA.2.2.2.2.2]; exact ne_of_none z nnt0) (by rw [eA.2.2.1]; exact ne_of_none z ntl0) (by rw [eA.2.2.2.1]; exact ne_of_none z nnd0)
    have hS9 : SqL K H9 a0 (ns0.map V.int) := by
      rcases hS with (h | ⟨o, h⟩) | h
      · exact .inl (.inl (s09 _ _ h))
      · exact .inl (.inr ⟨o, s09 _ _ h⟩)
      · exact .inr h
    clear s09 hf9 hM9 hq9 hn9 nq I8 hst hw1 sm8 sm07 I7 e3
    walk_at "my_rd"
    refine q_lenL hS9 ?_
    walk_at "my_rd"
    refine ⟨_, _, rfl, ?_⟩
    walk_at "my_rd"
    rw [List.length_map]
    have hN : 0 ≤ (4 : Int) + (if (28 : Int) < (ns0.length : Int) then 28 else (ns0.length : Int)) ∧ (4 : Int) + (if (28 : Int) < (ns0.length : Int) then 28 else (ns0.length : Int)) ≤ 32 := by split <;> omega
    generalize (4 : Int) + (if (28 : Int) < (ns0.length : Int) then 28 else (ns0.length : Int)) = N at hN
    have hok : ∀ g ∈ [setK gs1, setK gs2, setK g5], GOk g ∧ setD g.data = true ∧ ∃ ks, g = .tup ks := by
      intro g hg
      rcases List.mem_cons.mp hg with rfl | hg
      · exact ⟨(set_ok hD1).1, (set_ok hD1).2, _, rfl⟩
      · rcases List.mem_cons.mp hg with rfl | hg
        · exact ⟨(set_ok hD2).1, (set_ok hD2).2, _, rfl⟩
        · rw [List.mem_singleton.mp hg]; exact ⟨(set_ok g5_drawn).1, (set_ok g5_drawn).2, _, rfl⟩
    have hgl : [setK gs1, setK gs2, setK g5].length = 3 := rfl
    have hget0 : ∃ g, [setK gs1, setK gs2, setK g5][0]? = some g := ⟨_, rfl⟩
    generalize [setK gs1, setK gs2, setK g5] = gs at I9 hok hgl hget0
    refine q_forR ⟨hN.1, by omega⟩ (fun i σ H' => ∃ (jl : Addr) (S : MS) (v7 v8 v9 v10 v11 v12 v13 v14 v15 v16 v17 v18 : Option V), σ = [some (.ref a0), some (.ref p), some (.ref x), some (.ref m), some (.ref sa), some (.ref jl), some (.int S.f), v7, v8, v9, v10, v11, v12, v13, v14, v15, v16, v17, v18] ∧
      LI P w T.C_Machine T.C_Notes T.C_Notary A p l sa jl gs S S.js H' ∧ MOk (1 + i) S) ⟨jl, ⟨[k0], 0, []⟩, _, _, _, _, _, _, _, _, _, _, _, _, rfl, I9, j0⟩ ?_ ?_
    · clear I9 hS9 hS hlen
      rintro i σ H4 hi ⟨jl, S, v7, v8, v9, v10, v11, v12, v13, v14, v15, v16, v17, v18, rfl, I4, O4⟩
      refine q_gName ?_
      refine q_bodyG fun N1 R1 B1 C1 hD1 => ?_
      walk_at "my_rd"
      refine ⟨p, l, 4, rfl, I4.pot, by omega, by omega, fun r H5 r0 r1 pot5 kp5 => ?_⟩
      have I5 := I4.next kp5 pot5
      clear I4
      walk_at "my_rd"
      refine q_joinG (fun σ H' => ∃ (jl : Addr) (S : MS) (v7 v8 v9 v10 v11 v12 v13 v14 v15 v16 v17 v18 : Option V), σ = [some (.ref a0), some (.ref p), some (.ref x), some (.ref m), some (.ref sa), some (.ref jl), some (.int S.f), v7, v8, v9, v10, v11, v12, v13, v14, v15, v16, v17, v18] ∧
        LI P w T.C_Machine T.C_Notes T.C_Notary A p l sa jl gs S S.js H' ∧ MOk (1 + (i + 1)) S) ?_ ?_
      · clear I5 O4 kp5 pot5
        rintro σ H6 ⟨jl, S, v7, v8, v9, v10, v11, v12, v13, v14, v15, v16, v17, v18, rfl, I6, O6⟩
        obtain ⟨dm7, mf7, hm7, _, _, _, mn7⟩ := I6.mc.ex
        rw [eA.1] at hm7
        walk_at "my_rd"
        refine q_methK hm7 (mn7 _ no_mcs.2.2.1) fun R hR => ?_
        walk_at "my_rd"
        refine hR _ _ ⟨A, "g0", S, by rw [eA.1], I6.mc, fun q xs nq hx => ?_⟩
        clear hR
        have sq : Same H6 (upd H6 q (.lst xs)) := Same.up (Same.refl _) nq
        have hq : upd H6 q (.lst xs) q = some (.lst xs) := upd_same
        have hxq : NVs (upd H6 q (.lst xs)) S.js xs := NVs.mono (fun b ys z => sq _ _ z) hx
        generalize upd H6 q (.lst xs) = H7 at sq hq hxq
        have I7 := I6.same sq
        obtain ⟨xj, hj1, hj2⟩ := I7.jr
        have hsh : SeqAt.shaped (.list (S.js.map NestedKey.data)) = true := shaped_l NestedKey.data 10 (by omega) S.js fun z hz => ⟨(O6.j.ok z hz).l, (O6.j.ok z hz).d⟩
        walk_at "my_rd"
        refine q_neD (d := .list (S.js.map NestedKey.data)) (e := .list (S.js.map NestedKey.data)) (.lst (sqL hq) hxq.dps) (.lst (sqL hj1) hj2.dps) hsh hsh ?_
        rw [eqv_refl]
        walk_at "my_rd"
        obtain ⟨dm8, mf8, hm8, _, _, _, mn8⟩ := I7.mc.ex
        rw [eA.1] at hm8
        refine q_methK hm8 (mn8 _ no_mcs.2.2.1) fun R hR => ?_
        walk_at "my_rd"
        refine hR _ _ ⟨A, "g0", S, by rw [eA.1], I7.mc, fun q2 xs2 nq2 hx2 => ?_⟩
        clear hR
        walk_at "my_rd"
        refine q_append upd_same (small1000 (by have := hx2.length; have := O6.j.le; omega)) ?_
        walk_at "my_rd"
        exact hD1 _ _ ⟨jl, S, _, _, _, _, _, _, _, _, _, _, _, _, rfl, I7.same fun b o z => upd_other (ne_of_none z nq2) (upd_new nq2 z), O6⟩
      · intro N RR BB CC hNN
        by_cases hr3 : r = 3
        · rw [decide_eq_true hr3]
          --[A
          walk_at "my_rd"
          refine ⟨p, l, 6, rfl, pot5, by omega, by omega, fun lost H6 l0 l1 pot6 kp6 => ?_⟩
          have I6 := I5.next kp6 pot6
          clear I5
          obtain ⟨n, rfl⟩ := Int.eq_ofNat_of_zero_le l0
          obtain ⟨dm7, mf7, hm7, _, _, _, mn7⟩ := I6.mc.ex
          rw [eA.1] at hm7
          walk_at "my_rd"
          refine q_methK hm7 (mn7 _ no_mcs.2.1) fun R hR => ?_
          walk_at "my_rd"
          refine hR _ _ ⟨A, "g0", S, n, by rw [eA.1], I6.mc, fun H7 hM7 kp7 => ?_⟩
          clear hR
          have I7 := I6.mach (Fr.kl kp7) hM7
          obtain ⟨xj, hj1, hj2⟩ := I7.jr
          walk_at "my_rd"
          refine ⟨rfl, ?_⟩
          walk_at "my_rd"
          rw [show (!decide ((V.non : V) = .non)) = false from by simp]
          walk_at "my_rd"
          walk_at "my_rd"
          refine ⟨_, _, rfl, ?_⟩
          walk_at "my_rd"
          have hl := hj2.length
          have hfl := O4.f
          have e : (if (xj.length : Int) - (n : Int) > (S.f : Int) then (xj.length : Int) - (n : Int) else (S.f : Int)) = ((max S.f (S.js.length - n) : Nat) : Int) := by rw [hl]; split <;> omega
          have O5 := O4.crash n
          have j5 := NVs.take (max S.f (S.js.length - n)) hj2
          obtain ⟨S', eS⟩ : ∃ S' : MS, S' = { S with js := S.js.take (max S.f (S.js.length - n)) } := ⟨_, rfl⟩
          have ef : S.f = S'.f := by rw [eS]
          have ej : S.js.take (max S.f (S.js.length - n)) = S'.js := by rw [eS]
          rw [← eS] at O5 I7
          rw [ej] at j5
          rw [e]
          generalize (max S.f (S.js.length - n)) = M at j5 ⊢
          refine q_slL (sqL hj1) fun q nq => ?_
          rw [cut_any]
          walk_at "my_rd"
          have sq : Same H7 (upd H7 q (.lst (xj.take M))) := Same.up (Same.refl _) nq
          have hq : upd H7 q (.lst (xj.take M)) q = some (.lst (xj.take M)) := upd_same
          have jq := NVs.mono (fun b ys z => sq _ _ z) j5
          generalize upd H7 q (.lst (xj.take M)) = H8 at sq hq jq
          have I8 := I7.jnew nq sq hq jq
          rw [ef]
          exact hNN _ _ ⟨q, S', _, _, _, _, _, _, _, _, _, _, _, _, rfl, I8, O5⟩
          --]A
        · rw [decide_eq_false hr3]
          --[B
          walk_at "my_rd"
          refine ⟨p, l, 3, rfl, pot5, by omega, by omega, fun n0 H6 n0a n0b pot6 kp6 => ?_⟩
          have I6 := I5.next kp6 pot6
          clear I5
          walk_at "my_rd"
          refine ⟨p, l, 3, rfl, I6.pot, by omega, by omega, fun gi H7 g0 g1 pot7 kp7 => ?_⟩
          have I7 := I6.next kp7 pot7
          clear I6
          obtain ⟨gv, hg1, hg2⟩ := I7.st
          obtain ⟨gj, rfl⟩ := Int.eq_ofNat_of_zero_le g0
          have hgj : gj < gv.length := by rw [← hg2.length, hgl]; omega
          obtain ⟨gk, hgk, hgkv⟩ := hg2.at_ (List.getElem?_eq_getElem hgj)
          obtain ⟨hGk, hGs, ks, hks⟩ := hok gk (List.mem_of_getElem? hgk)
          obtain ⟨ga, hga⟩ : ∃ ga, gv[gj] = .ref ga := by
            rw [hks] at hgkv
            cases hq : gv[gj] with
            | ref a => exact ⟨a, rfl⟩
            | _ => rw [hq] at hgkv; cases hgkv
          rw [hga] at hgkv
          clear hks
          walk_at "my_rd"
          refine q_ixL (sqL hg1) (at_int rfl (by rw [List.getElem?_eq_getElem hgj, hga])) ?_
          walk_at "my_rd"
          obtain ⟨xj, hj1, hj2⟩ := I7.jr
          refine ⟨jl, ga, 1 + n0, gk, xj, S.js, rfl, hj1, hj2, O4.j, hgkv, hGk, by omega, hGs, fun hc1 hc2 H8 sm8 => ?_, fun hc dq dvs H8 sm8 ndq hdq hds => ?_⟩
          · have I8 := I7.same sm8
            obtain ⟨dm9, mf9, hm9, _, _, _, mn9⟩ := I8.mc.ex
            rw [eA.1] at hm9
            walk_at "my_rd"
            refine q_methK hm9 (mn9 _ no_mcs.2.2.1) fun R hR => ?_
            walk_at "my_rd"
            refine hR _ _ ⟨A, "g0", S, by rw [eA.1], I8.mc, fun q xs nq hx => ?_⟩
            clear hR
            have sq : Same H8 (upd H8 q (.lst xs)) := Same.up (Same.refl _) nq
            have hq : upd H8 q (.lst xs) q = some (.lst xs) := upd_same
            have hxq : NVs (upd H8 q (.lst xs)) S.js xs := NVs.mono (fun b ys z => sq _ _ z) hx
            generalize upd H8 q (.lst xs) = H9 at sq hq hxq
            have I9 := I8.same sq
            have hgk9 := hgkv.mono fun b ys z => sq _ _ (sm8 b (.tup ys) z)
            walk_at "my_rd"
            refine ⟨q, ga, 1 + n0, gk, xs, S.js, rfl, hq, hxq, O4.j.ok, O4.j.le, hgk9, hGk, fun hb => ?_, fun _ _ _ _ H10 sm10 => ?_, fun _ _ hb => ?_⟩
            · rcases hb with hb | hb
              · omega
              · rw [hGs] at hb; cases hb
            · have I10 := I9.same sm10
              walk_at "my_rd"
              refine q_neD (d := .int 1) (e := .int 1) (.int _) (.int _) rfl rfl ?_
              rw [show (!PyData.eqv (.int 1) (.int 1)) = false from by decide]
              walk_at "my_rd"
              refine q_is (.base (.int _)) (b := true) (by decide +kernel) ?_
              walk_at "my_rd"
              refine ⟨.int 1, rfl, rfl, ?_⟩
              walk_at "my_rd"
              refine q_neD (d := .int 1) (e := .int 1) (.int _) (.int _) rfl rfl ?_
              rw [show (!PyData.eqv (.int 1) (.int 1)) = false from by decide]
              walk_at "my_rd"
              exact hNN _ _ ⟨jl, S, _, _, _, _, _, _, _, _, _, _, _, _, rfl, I10, O4.mono⟩
            · rcases hb with hb | hb
              · exact absurd hb hc1
              · rw [hc2] at hb; cases hb
          ·
            --[C
            have I8 := I7.same sm8
            have fdq := I7.mc.free ndq
            have dqp : dq ≠ p := I7.pot.nep ndq
            have hsh := appr_sh (js := S.js) hGk (show (1 : Int) ≤ 1 + n0 by omega) hGs
            have hrun := fun c => O4.run hGk hc (show 1 + i < 800 by omega) c
            have hAl : (appr S.js (1 + n0) gk).length ≤ 3 := by unfold appr; split <;> simp
            generalize hAP : appr S.js (1 + n0) gk = AP at hds hsh hrun hAl
            obtain ⟨dm9, mf9, hm9, _, _, _, mn9⟩ := I8.mc.ex
            rw [eA.1] at hm9
            walk_at "my_rd"
            refine q_methK hm9 (mn9 _ no_mcs.2.2.1) fun R hR => ?_
            walk_at "my_rd"
            refine hR _ _ ⟨A, "g0", S, by rw [eA.1], I8.mc, fun q xs nq hx => ?_⟩
            clear hR hm9 mn9
            have sq : Same H8 (upd H8 q (.lst xs)) := Same.up (Same.refl _) nq
            have hq : upd H8 q (.lst xs) q = some (.lst xs) := upd_same
            have hxq : NVs (upd H8 q (.lst xs)) S.js xs := NVs.mono (fun b ys z => sq _ _ z) hx
            have hdq9 := sq _ _ hdq
            have hds9 := hds.mono fun b ys z => sq _ _ z
            generalize upd H8 q (.lst xs) = H9 at sq hq hxq hdq9 hds9
            have I9 := I8.same sq
            have hgk9 := hgkv.mono fun b ys z => sq _ _ (sm8 b (.tup ys) z)
            clear sq hx hdq hds I8
            walk_at "my_rd"
            refine ⟨q, ga, 1 + n0, gk, xs, S.js, rfl, hq, hxq, O4.j.ok, O4.j.le, hgk9, hGk, fun hb => ?_, fun _ _ ha hb => ?_, fun _ _ _ st svs H10 sm10 nst hst hss => ?_⟩
            · rcases hb with hb | hb
              · omega
              · rw [hGs] at hb; cases hb
            · rcases hc with z | z
              · exact absurd z ha
              · rw [z] at hb; cases hb
            ·
              --[D
              rw [hAP] at hss
              have I10 := I9.same sm10
              have hdq10 := sm10 _ _ hdq9
              have hds10 := hds9.mono fun b ys z => sm10 _ _ z
              have stp : st ≠ p := I9.pot.nep nst
              have fst := I9.mc.free nst
              clear hds9 hdq9 hxq hq nst I9 hgk9
              walk_at "my_rd"
              refine q_neD (d := .list ((AP.map stpK).map NestedKey.data)) (e := .list ((AP.map stpK).map NestedKey.data)) (.lst (sqL hst) hss.nvs.dps) (.lst (sqL hdq10) hds10.nvs.dps) hsh hsh ?_
              rw [eqv_refl]
              walk_at "my_rd"
              refine q_is (.base (.lst hdq10)) (b := false) (by decide +kernel) ?_
              walk_at "my_rd"
              refine q_neD (d := .list ((AP.map stpK).map NestedKey.data)) (e := .int 1) (.lst (sqL hdq10) hds10.nvs.dps) (.int _) hsh rfl ?_
              rw [show (!PyData.eqv (.list ((AP.map stpK).map NestedKey.data)) (.int 1)) = true from by simp [PyData.eqv]]
              walk_at "my_rd"
              refine ⟨p, l, 4, rfl, I10.pot, by omega, by omega, fun c1 H11 c1a c1b pot11 kp11 => ?_⟩
              have I11 := I10.next kp11 pot11
              obtain ⟨py10, hp10⟩ := I10.pot.lst
              have t11 := tup_kp hp10 kp11
              have hst11 := kp11 _ _ hst stp
              have hdq11 := kp11 _ _ hdq10 dqp
              have hss11 := hss.mono t11
              have hds11 := hds10.mono t11
              clear hst hss hds10 hdq10 t11 hp10 I10 kp11 pot11
              walk_at "my_rd"
              refine q_lstK (Nat.le_of_ble_eq_true rfl) fun cl ncl => ?_
              walk_at "my_rd"
              have sm12 : Same H11 (upd H11 cl (.lst [.int 9, .int c1])) := Same.up (Same.refl _) ncl
              have hcl12 : upd H11 cl (.lst [.int 9, .int c1]) cl = some (.lst [.int 9, .int c1]) := upd_same
              have clp : cl ≠ p := I11.pot.nep ncl
              generalize upd H11 cl (.lst [.int 9, .int c1]) = H12 at sm12 hcl12
              have I12 := I11.same sm12
              refine ⟨p, l, 2, rfl, I12.pot, by omega, by omega, fun c2 H13 c2a c2b pot13 kp13 => ?_⟩
              have I13 := I12.next kp13 pot13
              obtain ⟨py12, hp12⟩ := I12.pot.lst
              have t13 := tup_kp hp12 kp13
              have hst13 := kp13 _ _ (sm12 _ _ hst11) stp
              have hdq13 := kp13 _ _ (sm12 _ _ hdq11) dqp
              have hss13 := hss11.mono fun b ys z => t13 b ys (sm12 _ _ z)
              have hds13 := hds11.mono fun b ys z => t13 b ys (sm12 _ _ z)
              have hcl13 := kp13 _ _ hcl12 clp
              obtain ⟨c, hcv⟩ : ∃ c : Nat, atI [V.int 9, V.int c1] c2 = some (.int (c : Int)) := by
                obtain ⟨c1n, rfl⟩ := Int.eq_ofNat_of_zero_le c1a
                rcases (show c2 = 0 ∨ c2 = 1 by omega) with rfl | rfl
                · exact ⟨9, at_int (n := 0) rfl rfl⟩
                · exact ⟨c1n, at_int (n := 1) rfl rfl⟩
              clear hst11 hdq11 hss11 hds11 hcl12 t13 hp12 I11 I12 kp13 pot13 sm12
              walk_at "my_rd"
              refine q_ixL (sqL hcl13) hcv ?_
              walk_at "my_rd"
              obtain ⟨dma, mfa, hma, _, _, _, mna⟩ := I13.mc.ex
              rw [eA.1] at hma
              refine q_methK hma (mna _ no_mcs.1) fun R hR => ?_
              walk_at "my_rd"
              refine hR _ _ ⟨A, "g0", S, st, svs, AP, c, by rw [eA.1], I13.mc, by decide +kernel, hst13, hss13, by have := O4.lj; omega, by have := O4.le; omega, fun z H14 ns nz hz hns hM14 hf14 => ?_⟩
              clear hR hma mna
              have I14 := I13.mach hf14 hM14
              have hdq14 := hf14 _ _ hdq13 (fdq _ (by simp)).symm (fdq _ (by simp)).symm (fdq _ (by simp)).symm (fdq _ (by simp)).symm
              have hds14 := (hds13.mono (I13.mc.fr hf14)).take c
              have hSl : (AP.take c).length ≤ 3 := by rw [List.length_take]; omega
              have hrun := hrun c
              clear hds13 hdq13 hcl13 hst13 hss13 I13 hM14 hf14 hcv
              walk_at "my_rd"
              refine q_slL (sqL hdq14) fun y ny => ?_
              rw [cut_any]
              generalize AP.take c = SS at hns I14 hds14 hSl hrun
              generalize hSV : dvs.take c = SV at hds14
              have sm15 : Same H14 (upd H14 y (.lst SV)) := Same.up (Same.refl _) ny
              have hy15 : upd H14 y (.lst SV) y = some (.lst SV) := upd_same
              generalize upd H14 y (.lst SV) = H15 at sm15 hy15
              have hds15 := hds14.mono fun b ys z => sm15 _ _ z
              refine q_lcL (sqL hy15) fun D nD => ?_
              refine ⟨fun i H' => Same H15 H' ∧ ∃ ys, H' D = some (.lst ys) ∧ ys.length = ((SS.take i).filter Stp.isSe).length, ⟨Same.up (Same.refl _) nD, [], upd_same, rfl⟩, fun i H' _ q => sqL (q.1 _ _ hy15), ?_, ?_⟩
              ·
                --[F
                rintro i v H' hv ⟨sm16, ys, hD, hyl⟩
                have hi : i < SS.length := by rw [← hds15.1]; exact (List.getElem?_eq_some_iff.mp hv).1
                obtain ⟨v', hv', hstp⟩ := hds15.2 i _ (List.getElem?_eq_getElem hi)
                cases hv.symm.trans hv'
                have hS := List.getElem?_eq_getElem hi
                generalize SS[i] = sp at hstp hS
                have hst' := hstp.mono fun b ys z => sm16 _ _ z
                have hyb : ys.length ≤ 3 := by
                  rw [hyl]
                  refine Nat.le_trans (List.length_filter_le _ _) ?_
                  rw [List.length_take]; omega
                walk_at "my_rd"
                refine ⟨rfl, ?_⟩
                walk_at "my_rd"
                cases hst' with
                | @wr a ev e ha hev =>
                  refine q_ixT (sqT ha) rfl ?_
                  walk_at "my_rd"
                  rw [show decide (("write" : Str) = "seal") = false from by decide +kernel]
                  walk_at "my_rd"
                  exact ⟨sm16, ys, hD, by rw [filter_next hS]; simpa [Stp.isSe] using hyl⟩
                | @fl a ha =>
                  refine q_ixT (sqT ha) rfl ?_
                  walk_at "my_rd"
                  rw [show decide (("flush" : Str) = "seal") = false from by decide +kernel]
                  walk_at "my_rd"
                  exact ⟨sm16, ys, hD, by rw [filter_next hS]; simpa [Stp.isSe] using hyl⟩
                | @se a la kk ha hk hok =>
                  refine q_ixT (sqT ha) rfl ?_
                  walk_at "my_rd"
                  rw [show decide (("seal" : Str) = "seal") = true from by decide +kernel]
                  walk_at "my_rd"
                  refine q_accK hD (small1000 (by omega)) ?_
                  exact ⟨fun b o q => upd_other (ne_of_none q nD) (sm16 _ _ q), _, upd_same, by rw [filter_next hS, List.length_append, hyl]; simp [Stp.isSe]⟩
                --]F
              ·
                --[G
                rintro H' ⟨sm16, ys, hD, hyl⟩
                rw [List.take_of_length_le (by rw [hds15.1]; exact Nat.le_refl _)] at hyl
                have I16 := I14.same (Same.trans sm15 sm16)
                have hdq16 := sm16 _ _ (sm15 _ _ hdq14)
                have hds16 := hds15.mono fun b ys z => sm16 _ _ z
                clear I14 hds14 hds15 sm15 hy15 hdq14
                walk_at "my_rd"
                rw [hyl, List.length_map, hns, decide_eq_true rfl]
                walk_at "my_rd"
                refine q_slL (sqL hdq16) fun y2 ny2 => ?_
                rw [cut_any, hSV]
                have sm17 : Same H' (upd H' y2 (.lst SV)) := Same.up (Same.refl _) ny2
                have hy17 : upd H' y2 (.lst SV) y2 = some (.lst SV) := upd_same
                generalize upd H' y2 (.lst SV) = H17 at sm17 hy17
                have I17 := I16.same sm17
                have hds17 := hds16.mono fun b ys z => sm17 _ _ z
                have y2j : y2 ≠ jl := by
                  obtain ⟨xj, hj1, hj2⟩ := I16.jr
                  exact (ne_of_none hj1 ny2).symm
                clear I16 hds16 sm17 sm16 hD hyl hdq16
                --[J
                refine q_forL (sqL hy17) (fun i σ H' => ∃ (v7 v8 v9 v10 v11 v12 v13 v14 v15 v16 v17 v18 : Option V), σ = [some (.ref a0), some (.ref p), some (.ref x), some (.ref m), some (.ref sa), some (.ref jl), some (.int (S.run "g0" (SS.take i)).f), v7, v8, v9, v10, v11, v12, v13, v14, v15, v16, v17, v18] ∧
                  LI P w T.C_Machine T.C_Notes T.C_Notary A p l sa jl gs (S.run "g0" SS) (S.run "g0" (SS.take i)).js H' ∧ H' y2 = some (.lst SV) ∧ StpsAt H' SV SS) ⟨_, _, _, _, _, _, _, _, _, _, _, _, rfl, I17, hy17, hds17⟩ ?_ ?_ ?_
                · rintro j σ H3 hj ⟨_, _, _, _, _, _, _, _, _, _, _, _, rfl, _, h2, _⟩
                  exact sqL h2
                · clear I17 hy17 hds17
                  rintro j v σ H3 hv ⟨v7, v8, v9, v10, v11, v12, v13, v14, v15, v16, v17, v18, rfl, I, hy, hds⟩
                  have hi : j < SS.length := by rw [← hds.1]; exact (List.getElem?_eq_some_iff.mp hv).1
                  obtain ⟨v', hv', hstp⟩ := hds.2 j _ (List.getElem?_eq_getElem hi)
                  cases hv.symm.trans hv'
                  have hS := List.getElem?_eq_getElem hi
                  have hl := S.run_len "g0" (SS.take j)
                  have hlj := O4.lj
                  have hjl : (SS.take j).length ≤ 3 := by rw [List.length_take]; omega
                  rw [MS.run_next hS]
                  generalize SS[j] = sp at hstp hS
                  generalize S.run "g0" (SS.take j) = M at I hl
                  obtain ⟨xj, hj1, hj2⟩ := I.jr
                  have hxl := hj2.length
                  walk_at "my_rd"
                  cases hstp with
                  | @wr a ev e ha hev =>
                    refine q_ixT (sqT ha) rfl ?_
                    walk_at "my_rd"
                    rw [show decide (("write" : Str) = "write") = true from by decide +kernel]
                    walk_at "my_rd"
                    refine q_append hj1 (small1000 (by omega)) ?_
                    have kj : Kp jl H3 (upd H3 jl (.lst (xj ++ [ev]))) := Kp.upd Kp.refl
                    have hj3 : upd H3 jl (.lst (xj ++ [ev])) jl = some (.lst (xj ++ [ev])) := upd_same
                    have tj := tup_kp hj1 kj
                    have nj := NVs.snoc (hev.mono tj) (NVs.mono tj hj2)
                    generalize upd H3 jl (.lst (xj ++ [ev])) = H4 at kj hj3 tj nj
                    walk_at "my_rd"
                    exact ⟨_, _, _, _, _, _, _, _, _, _, _, _, rfl, I.jou kj hj3 nj, kj _ _ hy y2j, hds.mono tj⟩
                  | @fl a ha =>
                    refine q_ixT (sqT ha) rfl ?_
                    walk_at "my_rd"
                    rw [show decide (("flush" : Str) = "write") = false from by decide +kernel]
                    walk_at "my_rd"
                    rw [show decide (("flush" : Str) = "flush") = true from by decide +kernel]
                    walk_at "my_rd"
                    rw [← hxl]
                    exact ⟨_, _, _, _, _, _, _, _, _, _, _, _, rfl, I, hy, hds⟩
                  | @se a la kk ha hk hok =>
                    refine q_ixT (sqT ha) rfl ?_
                    walk_at "my_rd"
                    rw [show decide (("seal" : Str) = "write") = false from by decide +kernel]
                    walk_at "my_rd"
                    rw [show decide (("seal" : Str) = "flush") = false from by decide +kernel]
                    walk_at "my_rd"
                    have e1 : (M.step "g0" (.se kk)).f = M.f := by
                      show (if (pl M.es (("g0" : Str), kk)).isSome = true then M else { M with es := M.es ++ [(("g0" : Str), kk)] }).f = _
                      split <;> rfl
                    have e2 : (M.step "g0" (.se kk)).js = M.js := by
                      show (if (pl M.es (("g0" : Str), kk)).isSome = true then M else { M with es := M.es ++ [(("g0" : Str), kk)] }).js = _
                      split <;> rfl
                    rw [e1, e2]
                    exact ⟨_, _, _, _, _, _, _, _, _, _, _, _, rfl, I, hy, hds⟩
                · rintro σ H3 ⟨v7, v8, v9, v10, v11, v12, v13, v14, v15, v16, v17, v18, rfl, I, hy, hds⟩
                  rw [List.take_of_length_le (by rw [hds.1]; exact Nat.le_refl _)] at I ⊢
                  exact hNN _ _ ⟨jl, S.run "g0" SS, _, _, _, _, _, _, _, _, _, _, _, _, rfl, I, hrun⟩
                --]J
                --]G
              --]D
            --]C
          --]B
    ·
      --[E
      rintro σ H4 ⟨jl, S, v7, v8, v9, v10, v11, v12, v13, v14, v15, v16, v17, v18, rfl, I4, O4⟩
      walk_at "my_rd"
      refine q_dNew fun cd ncd => ?_
      have sm5 : Same H4 (upd H4 cd (.dK [])) := Same.up (Same.refl _) ncd
      have hcd : upd H4 cd (.dK []) cd = some (.dK []) := upd_same
      have fcd := I4.mc.free ncd
      generalize upd H4 cd (.dK []) = H5 at sm5 hcd
      have I5 := I4.same sm5
      clear I4 sm5 ncd
      walk_at "my_rd"
      obtain ⟨dn5, nf5, hn51, _, _, _, _, mn5⟩ : ∃ dx fs, H5 A.x = some (.ins T.C_Notary dx fs) ∧ True ∧ True ∧ True ∧ True ∧ ∀ z : Str, z ∉ notNames → fs.lookup z = none := by
        obtain ⟨dx, fs, _, _, h1, _, _, h4, _⟩ := I5.mc.no.ex
        exact ⟨dx, fs, h1, trivial, trivial, trivial, trivial, h4⟩
      rw [eA.2.1] at hn51
      refine q_methK hn51 (mn5 _ no_mcs.2.2.2.1) fun R hR => ?_
      walk_at "my_rd"
      refine hR _ _ ⟨A.x, A.tl, A.nd, S.es, by rw [eA.2.1], I5.mc.no, ?_⟩
      clear hR
      walk_at "my_rd"
      refine q_forR ⟨by omega, by have := O4.le; omega⟩ (fun i σ H' => ∃ (v6 v7 v9 v10 v11 v12 v13 v14 v15 v16 v17 v18 : Option V) (kvs : List (Key × V)), σ = [some (.ref a0), some (.ref p), some (.ref x), some (.ref m), some (.ref sa), some (.ref jl), v6, v7, some (.ref cd), v9, v10, v11, v12, v13, v14, v15, v16, v17, v18] ∧
        LI P w T.C_Machine T.C_Notes T.C_Notary A p l sa jl gs S S.js H' ∧ H' cd = some (.dK kvs) ∧ kvs.length ≤ i ∧ ∀ (n : Int) (v : V), valV kvs (.inl n) = some v → ∃ g, NV H' g v ∧ entK n g ∈ S.js) ⟨_, _, _, _, _, _, _, _, _, _, _, _, [], rfl, I5, hcd, Nat.le_refl _, fun n v q => by cases q⟩ ?_ ?_
      · clear I5 hcd hn51 mn5
        rintro i σ H6 hi ⟨v6, v7, v9, v10, v11, v12, v13, v14, v15, v16, v17, v18, kvs, rfl, I6, hcd, hkl, hkv⟩
        have hi' : i < S.es.length := by omega
        have hmem : S.es[i] ∈ S.es := List.getElem_mem hi'
        obtain ⟨ee, n, g, eg, hmj⟩ := O4.t _ hmem
        have hmj := List.mem_of_mem_take hmj
        obtain ⟨g', eg', hgg⟩ := O4.j.en _ hmj n (pre_ent n g)
        have egg : g = g' := (entK_inj eg').2
        subst egg
        walk_at "my_rd"
        obtain ⟨dn6, nf6, hn61, mn6⟩ : ∃ dx fs, H6 A.x = some (.ins T.C_Notary dx fs) ∧ ∀ z : Str, z ∉ notNames → fs.lookup z = none := by
          obtain ⟨dx, fs, _, _, h1, _, _, h4, _⟩ := I6.mc.no.ex
          exact ⟨dx, fs, h1, h4⟩
        rw [eA.2.1] at hn61
        refine q_methK hn61 (mn6 _ no_mcs.2.2.2.2) fun R hR => ?_
        walk_at "my_rd"
        refine hR _ _ ⟨A.x, A.tl, A.nd, S.es, i, S.es[i], by rw [eA.2.1], I6.mc.no, List.getElem?_eq_getElem hi', fun a lv H7 sm7 ha hlv => ?_⟩
        clear hR hn61 mn6
        rw [ee] at ha
        rw [eg] at hlv
        obtain ⟨b, vg, rfl, hb, hvg⟩ : ∃ b vg, lv = .ref b ∧ H7 b = some (.tup [.str "rotate", .str "both", .int n, vg]) ∧ NV H7 g vg := by
          unfold rotK at hlv
          cases hlv with
          | tup h1 h2 =>
            cases h2 with
            | cons a1 b1 =>
              cases a1
              cases b1 with
              | cons a2 b2 =>
                cases a2
                cases b2 with
                | cons a3 b3 =>
                  cases a3
                  cases b3 with
                  | cons a4 b4 =>
                    cases b4
                    exact ⟨_, _, rfl, h1, a4⟩
        have I7 := I6.same sm7
        have hcd7 := sm7 _ _ hcd
        walk_at "my_rd"
        refine q_gTup (sqT ha) rfl ?_
        walk_at "my_rd"
        rw [show decide (("g0" : Str) = "g0") = true from by decide +kernel]
        walk_at "my_rd"
        refine q_dG2I hcd7 ?_
        obtain ⟨u, hu2, hnu⟩ : ∃ u, (valV kvs (.inl n)).getD vg = u ∧ NV H7 g u := by
          cases q : valV kvs (.inl n) with
          | none => exact ⟨vg, rfl, hvg⟩
          | some v =>
            obtain ⟨g2, h2, h3⟩ := hkv n v q
            rw [O4.j.un n g g2 hmj h3]
            exact ⟨v, rfl, h2.mono fun b ys z => sm7 _ _ z⟩
        rw [hu2]
        walk_at "my_rd"
        refine q_neD (d := g.data) (e := g.data) hnu.tdp.dp hvg.tdp.dp (shaped_of hgg.l (by have := hgg.d; omega)) (shaped_of hgg.l (by have := hgg.d; omega)) ?_
        rw [key_dec, decide_eq_true rfl]
        walk_at "my_rd"
        refine q_dPutI hcd7 (small1000 (by have := O4.le; omega)) ?_
        have kcd : Kp cd H7 (upd H7 cd (.dK (putK kvs (Sum.inl n) vg))) := Kp.upd Kp.refl
        have hcd8 : upd H7 cd (.dK (putK kvs (Sum.inl n) vg)) cd = some (.dK (putK kvs (Sum.inl n) vg)) := upd_same
        generalize upd H7 cd (.dK (putK kvs (Sum.inl n) vg)) = H8 at kcd hcd8
        have tk : ∀ b ys, H7 b = some (HO.tup ys) → H8 b = some (.tup ys) := fun b ys q => kcd _ _ q (ne_of q hcd7 (by intro z; cases z))
        have lk : ∀ b ys, H7 b = some (HO.lst ys) → H8 b = some (.lst ys) := fun b ys q => kcd _ _ q (ne_of q hcd7 (by intro z; cases z))
        have I8 : LI P w T.C_Machine T.C_Notes T.C_Notary A p l sa jl gs S S.js H8 := by
          obtain ⟨gv, s1, s2⟩ := I7.st
          obtain ⟨xs, j1, j2⟩ := I7.jr
          obtain ⟨ns_, i_, c_, s_, p1, p2, r⟩ := I7.pot
          exact ⟨⟨ns_, i_, c_, s_, lk _ _ p1, lk _ _ p2, r⟩, I7.mc.of tk (fun b o q m => kcd _ _ q (fcd b m)), ⟨gv, lk _ _ s1, NVs.mono tk s2⟩, ⟨xs, lk _ _ j1, NVs.mono tk j2⟩, I7.ds⟩
        refine ⟨_, _, _, _, _, _, _, _, _, _, _, _, putK kvs (Sum.inl n) vg, rfl, I8, hcd8, Nat.le_trans (length_putK _ _ _) (Nat.succ_le_succ hkl), fun n' v' q => ?_⟩
        rw [valV_put] at q
        by_cases e : (Sum.inl n' : Key) = Sum.inl n
        · rw [if_pos e] at q
          cases q
          rw [Sum.inl.inj e]
          exact ⟨g, hvg.mono tk, hmj⟩
        · rw [if_neg e] at q
          obtain ⟨g2, h2, h3⟩ := hkv n' v' q
          exact ⟨g2, (h2.mono fun b ys z => sm7 _ _ z).mono tk, h3⟩
      · rintro σ H6 ⟨v6, v7, v9, v10, v11, v12, v13, v14, v15, v16, v17, v18, kvs, rfl, I6, hcd, hkl, hkv⟩
        clear hkl hkv hcd I5
        walk_at "my_rd"
        refine q_lstK (Nat.le_of_ble_eq_true rfl) fun eq neq => ?_
        walk_at "my_rd"
        have sm7 : Same H6 (upd H6 eq (.lst [])) := Same.up (Same.refl _) neq
        have heq : upd H6 eq (.lst []) eq = some (.lst []) := upd_same
        generalize upd H6 eq (.lst []) = H7 at sm7 heq
        have I7 := I6.same sm7
        clear I6 sm7 neq
        obtain ⟨gv, hg1, hg2⟩ := I7.st
        have hg0 : 0 < gv.length := by rw [← hg2.length, hgl]; omega
        obtain ⟨gk, hgk, hgkv⟩ := hg2.at_ (List.getElem?_eq_getElem hg0)
        obtain ⟨hGk, hGs, ks, hks⟩ := hok gk (List.mem_of_getElem? hgk)
        obtain ⟨ga, hga⟩ : ∃ ga, gv[0] = .ref ga := by
          rw [hks] at hgkv
          cases hq : gv[0] with
          | ref a => exact ⟨a, rfl⟩
          | _ => rw [hq] at hgkv; cases hgkv
        rw [hga] at hgkv
        refine q_ixL (sqL hg1) (at_int (n := 0) rfl (by rw [List.getElem?_eq_getElem hg0, hga])) ?_
        walk_at "my_rd"
        refine ⟨eq, ga, 0, gk, [], [], rfl, heq, .nil, fun k m => (by cases m), Nat.zero_le _, hgkv, hGk, fun _ H8 sm8 => ?_, fun h1 => absurd h1 (by omega), fun h1 => absurd h1 (by omega)⟩
        walk_at "my_rd"
        rw [show decide ((2 : Int) = 2) = true from rfl]
        walk_at "my_rd"
        refine q_lstK (Nat.le_of_ble_eq_true rfl) fun eq2 neq2 => ?_
        walk_at "my_rd"
        refine q_tupK (Nat.le_of_ble_eq_true rfl) fun et net => ?_
        walk_at "my_rd"
        refine ⟨eq2, et, 1, .tup [], [], [], rfl, upd_new net upd_same, .nil, fun k m => (by cases m), Nat.zero_le _, .tup upd_same .nil, ⟨?_, ?_, by decide +kernel, by decide +kernel⟩, fun _ H9 sm9 => ?_, fun _ h2 => ?_, fun _ h2 => ?_⟩
        · intro ds e
          rw [show (NestedKey.tup []).data = .tuple [] from by simp [NestedKey.data, NestedKey.datas]] at e
          injection e with e
          subst e
          exact ⟨by decide, fun x hx => by cases hx⟩
        · rw [show (NestedKey.tup []).data = .tuple [] from by simp [NestedKey.data, NestedKey.datas]]
          exact flat_fine rfl rfl (by decide)
        · walk_at "my_rd"
          rw [show decide ((2 : Int) = 2) = true from rfl]
          walk_at "my_rd"
          exact k _
        · exact absurd h2 (by decide +kernel)
        · exact absurd h2 (by decide +kernel)
      --]E
end

def txt_mk {K : PySem.W.Frag} {h : Heap} {mg : Str → Option Value} (X : K.In h) (G : h.Ns mainGlobals mg)
    {f0 f1 f2 f3 f4 f5 f6 f7 f8 f9 f10 f11 f12 f13 f14 f15 f16 f17 f18 f19 f20 f21 f22 f23 f24 f25 f26 f27 f28 f29 f30 f31 f32 f33 C0 C1 C2 C3 C4 C5 C6 C7 g0 g1 g7 : Addr} {od0 an0 od1 an1 od2 an2 od3 an3 od4 an4 od5 an5 od6 an6 od7 an7 od8 an8 od9 an9 od10 an10 od11 an11 od12 an12 od13 an13 od14 an14 od15 an15 od16 an16 od17 an17 od18 an18 od19 an19 od20 an20 od21 an21 od22 an22 od23 an23 od24 an24 od25 an25 od26 an26 od27 an27 od28 an28 od29 an29 od30 an30 od31 an31 od32 an32 od33 an33 : Option Addr} {sl0 sl1 sl2 sl3 sl4 sl5 sl6 sl7 sl8 sl9 sl10 sl11 sl12 sl13 sl14 sl15 sl16 sl17 sl18 sl19 sl20 sl21 sl22 sl23 sl24 sl25 sl26 sl27 sl28 sl29 sl30 sl31 sl32 sl33 : Array (Option Value)} {oc0 kV0 dc0 pm0 cd0 ct0 oc1 kV1 dc1 pm1 cd1 ct1 oc2 kV2 dc2 pm2 cd2 ct2 oc3 kV3 dc3 pm3 cd3 ct3 oc4 kV4 dc4 pm4 cd4 ct4 oc5 kV5 dc5 pm5 cd5 ct5 oc6 kV6 dc6 pm6 cd6 ct6 oc7 kV7 dc7 pm7 cd7 ct7 oc8 kV8 dc8 pm8 cd8 ct8 oc9 kV9 dc9 pm9 cd9 ct9 oc10 kV10 dc10 pm10 cd10 ct10 oc11 kV11 dc11 pm11 cd11 ct11 oc12 kV12 dc12 pm12 cd12 ct12 oc13 kV13 dc13 pm13 cd13 ct13 oc14 kV14 dc14 pm14 cd14 ct14 oc15 kV15 dc15 pm15 cd15 ct15 oc16 kV16 dc16 pm16 cd16 ct16 oc17 kV17 dc17 pm17 cd17 ct17 oc18 kV18 dc18 pm18 cd18 ct18 oc19 kV19 dc19 pm19 cd19 ct19 oc20 kV20 dc20 pm20 cd20 ct20 oc21 kV21 dc21 pm21 cd21 ct21 oc22 kV22 dc22 pm22 cd22 ct22 oc23 kV23 dc23 pm23 cd23 ct23 oc24 kV24 dc24 pm24 cd24 ct24 oc25 kV25 dc25 pm25 cd25 ct25 oc26 kV26 dc26 pm26 cd26 ct26 oc27 kV27 dc27 pm27 cd27 ct27 oc28 kV28 dc28 pm28 cd28 ct28 oc29 kV29 dc29 pm29 cd29 ct29 oc30 kV30 dc30 pm30 cd30 ct30 oc31 kV31 dc31 pm31 cd31 ct31 oc32 kV32 dc32 pm32 cd32 ct32 oc33 kV33 dc33 pm33 cd33 ct33 : Value} {tk2 tk3 tk4 tk5 tk6 : Tok} {odg0 : Option Addr} {itg0 : Array Value} {ng0 : Nat} {slg0 : Array (Option Value)} {odg1 : Option Addr} {itg1 : Array Value} {ng1 : Nat} {slg1 : Array (Option Value)} {odg7 : Option Addr} {itg7 : Array Value} {ng7 : Nat} {slg7 : Array (Option Value)}
    (a0 : PySem.W.nsIn K mainGlobals "is_integer" = some (some (.ref f0)))
    (a1 : PySem.W.nsIn K mainGlobals "is_at_least" = some (some (.ref f1)))
    (a2 : PySem.W.nsIn K mainGlobals "is_text" = some (some (.ref f2)))
    (a3 : PySem.W.nsIn K mainGlobals "is_short_text" = some (some (.ref f3)))
    (a4 : PySem.W.nsIn K mainGlobals "is_account" = some (some (.ref f4)))
    (a5 : PySem.W.nsIn K mainGlobals "is_side" = some (some (.ref f5)))
    (a6 : PySem.W.nsIn K mainGlobals "is_set" = some (some (.ref f6)))
    (a7 : PySem.W.nsIn K mainGlobals "is_pair" = some (some (.ref f7)))
    (a8 : PySem.W.nsIn K mainGlobals "approve" = some (some (.ref f8)))
    (a9 : PySem.W.nsIn K mainGlobals "is_transfer" = some (some (.ref f9)))
    (a10 : PySem.W.nsIn K mainGlobals "is_bundle" = some (some (.ref f10)))
    (a11 : PySem.W.nsIn K mainGlobals "is_letter" = some (some (.ref f11)))
    (a27 : PySem.W.nsIn K mainGlobals "_law_pot" = some (some (.ref f27)))
    (a28 : PySem.W.nsIn K mainGlobals "_law_next" = some (some (.ref f28)))
    (a29 : PySem.W.nsIn K mainGlobals "_law_is_int" = some (some (.ref f29)))
    (a30 : PySem.W.nsIn K mainGlobals "_law_set" = some (some (.ref f30)))
    (a31 : PySem.W.nsIn K mainGlobals "_law_steps" = some (some (.ref f31)))
    (a32 : PySem.W.nsIn K mainGlobals "_law_due" = some (some (.ref f32)))
    (a33 : PySem.W.nsIn K mainGlobals "law" = some (some (.ref f33)))
    (aC0 : PySem.W.nsIn K mainGlobals "BridgeError" = some (some (.ref C0)))
    (aC1 : PySem.W.nsIn K mainGlobals "InvalidArgument" = some (some (.ref C1)))
    (aC2 : PySem.W.nsIn K mainGlobals "InvalidOrder" = some (some (.ref C2)))
    (aC3 : PySem.W.nsIn K mainGlobals "UnknownSeal" = some (some (.ref C3)))
    (aC4 : PySem.W.nsIn K mainGlobals "AlreadyApproved" = some (some (.ref C4)))
    (aC5 : PySem.W.nsIn K mainGlobals "Notes" = some (some (.ref C5)))
    (aC6 : PySem.W.nsIn K mainGlobals "Machine" = some (some (.ref C6)))
    (aC7 : PySem.W.nsIn K mainGlobals "Notary" = some (some (.ref C7)))
    (m12 : PySem.W.findIn K (.ref C5) "__init__" = some (some (.ref f12)))
    (m13 : PySem.W.findIn K (.ref C5) "add" = some (some (.ref f13)))
    (m14 : PySem.W.findIn K (.ref C5) "rows" = some (some (.ref f14)))
    (m15 : PySem.W.findIn K (.ref C5) "flush" = some (some (.ref f15)))
    (m16 : PySem.W.findIn K (.ref C5) "crash" = some (some (.ref f16)))
    (m17 : PySem.W.findIn K (.ref C6) "__init__" = some (some (.ref f17)))
    (m18 : PySem.W.findIn K (.ref C6) "journal" = some (some (.ref f18)))
    (m19 : PySem.W.findIn K (.ref C6) "carry_out" = some (some (.ref f19)))
    (m20 : PySem.W.findIn K (.ref C6) "crash" = some (some (.ref f20)))
    (m21 : PySem.W.findIn K (.ref C7) "__init__" = some (some (.ref f21)))
    (m22 : PySem.W.findIn K (.ref C7) "seal" = some (some (.ref f22)))
    (m23 : PySem.W.findIn K (.ref C7) "count" = some (some (.ref f23)))
    (m24 : PySem.W.findIn K (.ref C7) "check_seals" = some (some (.ref f24)))
    (m25 : PySem.W.findIn K (.ref C7) "shown" = some (some (.ref f25)))
    (m26 : PySem.W.findIn K (.ref C7) "weight" = some (some (.ref f26)))
    (l0 : K.lookup f0 = some ⟨oc0, od0, .func (PySem.W.fnOf "is_integer" "is_integer" (defArgs s_is_integer) (defBody s_is_integer) (defScope s_is_integer) .none kV0 dc0 pm0 an0 cd0 ct0), sl0⟩)
    (c0 : PySem.W.codeIn K cd0 "is_integer" = true)
    (k0 : PySem.W.keepIn K (.ref f0) = true)
    (l1 : K.lookup f1 = some ⟨oc1, od1, .func (PySem.W.fnOf "is_at_least" "is_at_least" (defArgs s_is_at_least) (defBody s_is_at_least) (defScope s_is_at_least) .none kV1 dc1 pm1 an1 cd1 ct1), sl1⟩)
    (c1 : PySem.W.codeIn K cd1 "is_at_least" = true)
    (k1 : PySem.W.keepIn K (.ref f1) = true)
    (l2 : K.lookup f2 = some ⟨oc2, od2, .func (PySem.W.fnOf "is_text" "is_text" (defArgs s_is_text) (defBody s_is_text) (defScope s_is_text) .none kV2 dc2 pm2 an2 cd2 ct2), sl2⟩)
    (c2 : PySem.W.codeIn K cd2 "is_text" = true)
    (k2 : PySem.W.keepIn K (.ref f2) = true)
    (l3 : K.lookup f3 = some ⟨oc3, od3, .func (PySem.W.fnOf "is_short_text" "is_short_text" (defArgs s_is_short_text) (defBody s_is_short_text) (defScope s_is_short_text) .none kV3 dc3 pm3 an3 cd3 ct3), sl3⟩)
    (c3 : PySem.W.codeIn K cd3 "is_short_text" = true)
    (k3 : PySem.W.keepIn K (.ref f3) = true)
    (l4 : K.lookup f4 = some ⟨oc4, od4, .func (PySem.W.fnOf "is_account" "is_account" (defArgs s_is_account) (defBody s_is_account) (defScope s_is_account) .none kV4 dc4 pm4 an4 cd4 ct4), sl4⟩)
    (c4 : PySem.W.codeIn K cd4 "is_account" = true)
    (k4 : PySem.W.keepIn K (.ref f4) = true)
    (l5 : K.lookup f5 = some ⟨oc5, od5, .func (PySem.W.fnOf "is_side" "is_side" (defArgs s_is_side) (defBody s_is_side) (defScope s_is_side) .none kV5 dc5 pm5 an5 cd5 ct5), sl5⟩)
    (c5 : PySem.W.codeIn K cd5 "is_side" = true)
    (k5 : PySem.W.keepIn K (.ref f5) = true)
    (l6 : K.lookup f6 = some ⟨oc6, od6, .func (PySem.W.fnOf "is_set" "is_set" (defArgs s_is_set) (defBody s_is_set) (defScope s_is_set) .none kV6 dc6 pm6 an6 cd6 ct6), sl6⟩)
    (c6 : PySem.W.codeIn K cd6 "is_set" = true)
    (k6 : PySem.W.keepIn K (.ref f6) = true)
    (l7 : K.lookup f7 = some ⟨oc7, od7, .func (PySem.W.fnOf "is_pair" "is_pair" (defArgs s_is_pair) (defBody s_is_pair) (defScope s_is_pair) .none kV7 dc7 pm7 an7 cd7 ct7), sl7⟩)
    (c7 : PySem.W.codeIn K cd7 "is_pair" = true)
    (k7 : PySem.W.keepIn K (.ref f7) = true)
    (l8 : K.lookup f8 = some ⟨oc8, od8, .func (PySem.W.fnOf "approve" "approve" (defArgs s_approve) (defBody s_approve) (defScope s_approve) .none kV8 dc8 pm8 an8 cd8 ct8), sl8⟩)
    (c8 : PySem.W.codeIn K cd8 "approve" = true)
    (k8 : PySem.W.keepIn K (.ref f8) = true)
    (l9 : K.lookup f9 = some ⟨oc9, od9, .func (PySem.W.fnOf "is_transfer" "is_transfer" (defArgs s_is_transfer) (defBody s_is_transfer) (defScope s_is_transfer) .none kV9 dc9 pm9 an9 cd9 ct9), sl9⟩)
    (c9 : PySem.W.codeIn K cd9 "is_transfer" = true)
    (k9 : PySem.W.keepIn K (.ref f9) = true)
    (l10 : K.lookup f10 = some ⟨oc10, od10, .func (PySem.W.fnOf "is_bundle" "is_bundle" (defArgs s_is_bundle) (defBody s_is_bundle) (defScope s_is_bundle) .none kV10 dc10 pm10 an10 cd10 ct10), sl10⟩)
    (c10 : PySem.W.codeIn K cd10 "is_bundle" = true)
    (k10 : PySem.W.keepIn K (.ref f10) = true)
    (l11 : K.lookup f11 = some ⟨oc11, od11, .func (PySem.W.fnOf "is_letter" "is_letter" (defArgs s_is_letter) (defBody s_is_letter) (defScope s_is_letter) .none kV11 dc11 pm11 an11 cd11 ct11), sl11⟩)
    (c11 : PySem.W.codeIn K cd11 "is_letter" = true)
    (k11 : PySem.W.keepIn K (.ref f11) = true)
    (l12 : K.lookup f12 = some ⟨oc12, od12, .func (PySem.W.fnOf "__init__" "Notes.__init__" (defArgs s_Notes_init) (defBody s_Notes_init) (defScope s_Notes_init) .none kV12 dc12 pm12 an12 cd12 ct12), sl12⟩)
    (c12 : PySem.W.codeIn K cd12 "Notes.__init__" = true)
    (k12 : PySem.W.keepIn K (.ref f12) = true)
    (l13 : K.lookup f13 = some ⟨oc13, od13, .func (PySem.W.fnOf "add" "Notes.add" (defArgs s_Notes_add) (defBody s_Notes_add) (defScope s_Notes_add) .none kV13 dc13 pm13 an13 cd13 ct13), sl13⟩)
    (c13 : PySem.W.codeIn K cd13 "Notes.add" = true)
    (k13 : PySem.W.keepIn K (.ref f13) = true)
    (l14 : K.lookup f14 = some ⟨oc14, od14, .func (PySem.W.fnOf "rows" "Notes.rows" (defArgs s_Notes_rows) (defBody s_Notes_rows) (defScope s_Notes_rows) .none kV14 dc14 pm14 an14 cd14 ct14), sl14⟩)
    (c14 : PySem.W.codeIn K cd14 "Notes.rows" = true)
    (k14 : PySem.W.keepIn K (.ref f14) = true)
    (l15 : K.lookup f15 = some ⟨oc15, od15, .func (PySem.W.fnOf "flush" "Notes.flush" (defArgs s_Notes_flush) (defBody s_Notes_flush) (defScope s_Notes_flush) .none kV15 dc15 pm15 an15 cd15 ct15), sl15⟩)
    (c15 : PySem.W.codeIn K cd15 "Notes.flush" = true)
    (k15 : PySem.W.keepIn K (.ref f15) = true)
    (l16 : K.lookup f16 = some ⟨oc16, od16, .func (PySem.W.fnOf "crash" "Notes.crash" (defArgs s_Notes_crash) (defBody s_Notes_crash) (defScope s_Notes_crash) .none kV16 dc16 pm16 an16 cd16 ct16), sl16⟩)
    (c16 : PySem.W.codeIn K cd16 "Notes.crash" = true)
    (k16 : PySem.W.keepIn K (.ref f16) = true)
    (l17 : K.lookup f17 = some ⟨oc17, od17, .func (PySem.W.fnOf "__init__" "Machine.__init__" (defArgs s_Machine_init) (defBody s_Machine_init) (defScope s_Machine_init) .none kV17 dc17 pm17 an17 cd17 ct17), sl17⟩)
    (c17 : PySem.W.codeIn K cd17 "Machine.__init__" = true)
    (k17 : PySem.W.keepIn K (.ref f17) = true)
    (l18 : K.lookup f18 = some ⟨oc18, od18, .func (PySem.W.fnOf "journal" "Machine.journal" (defArgs s_Machine_journal) (defBody s_Machine_journal) (defScope s_Machine_journal) .none kV18 dc18 pm18 an18 cd18 ct18), sl18⟩)
    (c18 : PySem.W.codeIn K cd18 "Machine.journal" = true)
    (k18 : PySem.W.keepIn K (.ref f18) = true)
    (l19 : K.lookup f19 = some ⟨oc19, od19, .func (PySem.W.fnOf "carry_out" "Machine.carry_out" (defArgs s_Machine_carry_out) (defBody s_Machine_carry_out) (defScope s_Machine_carry_out) .none kV19 dc19 pm19 an19 cd19 ct19), sl19⟩)
    (c19 : PySem.W.codeIn K cd19 "Machine.carry_out" = true)
    (k19 : PySem.W.keepIn K (.ref f19) = true)
    (l20 : K.lookup f20 = some ⟨oc20, od20, .func (PySem.W.fnOf "crash" "Machine.crash" (defArgs s_Machine_crash) (defBody s_Machine_crash) (defScope s_Machine_crash) .none kV20 dc20 pm20 an20 cd20 ct20), sl20⟩)
    (c20 : PySem.W.codeIn K cd20 "Machine.crash" = true)
    (k20 : PySem.W.keepIn K (.ref f20) = true)
    (l21 : K.lookup f21 = some ⟨oc21, od21, .func (PySem.W.fnOf "__init__" "Notary.__init__" (defArgs s_Notary_init) (defBody s_Notary_init) (defScope s_Notary_init) .none kV21 dc21 pm21 an21 cd21 ct21), sl21⟩)
    (c21 : PySem.W.codeIn K cd21 "Notary.__init__" = true)
    (k21 : PySem.W.keepIn K (.ref f21) = true)
    (l22 : K.lookup f22 = some ⟨oc22, od22, .func (PySem.W.fnOf "seal" "Notary.seal" (defArgs s_Notary_seal) (defBody s_Notary_seal) (defScope s_Notary_seal) .none kV22 dc22 pm22 an22 cd22 ct22), sl22⟩)
    (c22 : PySem.W.codeIn K cd22 "Notary.seal" = true)
    (k22 : PySem.W.keepIn K (.ref f22) = true)
    (l23 : K.lookup f23 = some ⟨oc23, od23, .func (PySem.W.fnOf "count" "Notary.count" (defArgs s_Notary_count) (defBody s_Notary_count) (defScope s_Notary_count) .none kV23 dc23 pm23 an23 cd23 ct23), sl23⟩)
    (c23 : PySem.W.codeIn K cd23 "Notary.count" = true)
    (k23 : PySem.W.keepIn K (.ref f23) = true)
    (l24 : K.lookup f24 = some ⟨oc24, od24, .func (PySem.W.fnOf "check_seals" "Notary.check_seals" (defArgs s_Notary_check_seals) (defBody s_Notary_check_seals) (defScope s_Notary_check_seals) .none kV24 dc24 pm24 an24 cd24 ct24), sl24⟩)
    (c24 : PySem.W.codeIn K cd24 "Notary.check_seals" = true)
    (k24 : PySem.W.keepIn K (.ref f24) = true)
    (l25 : K.lookup f25 = some ⟨oc25, od25, .func (PySem.W.fnOf "shown" "Notary.shown" (defArgs s_Notary_shown) (defBody s_Notary_shown) (defScope s_Notary_shown) .none kV25 dc25 pm25 an25 cd25 ct25), sl25⟩)
    (c25 : PySem.W.codeIn K cd25 "Notary.shown" = true)
    (k25 : PySem.W.keepIn K (.ref f25) = true)
    (l26 : K.lookup f26 = some ⟨oc26, od26, .func (PySem.W.fnOf "weight" "Notary.weight" (defArgs s_Notary_weight) (defBody s_Notary_weight) (defScope s_Notary_weight) .none kV26 dc26 pm26 an26 cd26 ct26), sl26⟩)
    (c26 : PySem.W.codeIn K cd26 "Notary.weight" = true)
    (k26 : PySem.W.keepIn K (.ref f26) = true)
    (l27 : K.lookup f27 = some ⟨oc27, od27, .func (PySem.W.fnOf "_law_pot" "_law_pot" (defArgs s_L_pot) (defBody s_L_pot) (defScope s_L_pot) .none kV27 dc27 pm27 an27 cd27 ct27), sl27⟩)
    (c27 : PySem.W.codeIn K cd27 "_law_pot" = true)
    (k27 : PySem.W.keepIn K (.ref f27) = true)
    (l28 : K.lookup f28 = some ⟨oc28, od28, .func (PySem.W.fnOf "_law_next" "_law_next" (defArgs s_L_next) (defBody s_L_next) (defScope s_L_next) .none kV28 dc28 pm28 an28 cd28 ct28), sl28⟩)
    (c28 : PySem.W.codeIn K cd28 "_law_next" = true)
    (k28 : PySem.W.keepIn K (.ref f28) = true)
    (l29 : K.lookup f29 = some ⟨oc29, od29, .func (PySem.W.fnOf "_law_is_int" "_law_is_int" (defArgs s_L_is_int) (defBody s_L_is_int) (defScope s_L_is_int) .none kV29 dc29 pm29 an29 cd29 ct29), sl29⟩)
    (c29 : PySem.W.codeIn K cd29 "_law_is_int" = true)
    (k29 : PySem.W.keepIn K (.ref f29) = true)
    (l30 : K.lookup f30 = some ⟨oc30, od30, .func (PySem.W.fnOf "_law_set" "_law_set" (defArgs s_L_set) (defBody s_L_set) (defScope s_L_set) .none kV30 dc30 pm30 an30 cd30 ct30), sl30⟩)
    (c30 : PySem.W.codeIn K cd30 "_law_set" = true)
    (k30 : PySem.W.keepIn K (.ref f30) = true)
    (l31 : K.lookup f31 = some ⟨oc31, od31, .func (PySem.W.fnOf "_law_steps" "_law_steps" (defArgs s_L_steps) (defBody s_L_steps) (defScope s_L_steps) .none kV31 dc31 pm31 an31 cd31 ct31), sl31⟩)
    (c31 : PySem.W.codeIn K cd31 "_law_steps" = true)
    (k31 : PySem.W.keepIn K (.ref f31) = true)
    (l32 : K.lookup f32 = some ⟨oc32, od32, .func (PySem.W.fnOf "_law_due" "_law_due" (defArgs s_L_due) (defBody s_L_due) (defScope s_L_due) .none kV32 dc32 pm32 an32 cd32 ct32), sl32⟩)
    (c32 : PySem.W.codeIn K cd32 "_law_due" = true)
    (k32 : PySem.W.keepIn K (.ref f32) = true)
    (l33 : K.lookup f33 = some ⟨oc33, od33, .func (PySem.W.fnOf "law" "law" (defArgs s_law) (defBody s_law) (defScope s_law) .none kV33 dc33 pm33 an33 cd33 ct33), sl33⟩)
    (c33 : PySem.W.codeIn K cd33 "law" = true)
    (k33 : PySem.W.keepIn K (.ref f33) = true)
    (xe0 : PySem.W.excIn K C0 [.type "ValueError", .type "Exception", .type "BaseException", .type "object"] "ValueError.__new__" = true)
    (ke0 : PySem.W.keepIn K (.ref C0) = true)
    (be0 : PySem.W.subIn K (.ref C0) (.type "BaseException") = some true)
    (te0 : PySem.W.typeIn K (.ref C0) = some (.type "type"))
    (ie0 : PySem.W.isClsIn K C0 = true)
    (se0 : PySem.W.subIn K (.ref C0) (.ref C0) = some true)
    (hd0 : PySem.W.hasDictIn K C0 = true)
    (xe1 : PySem.W.excIn K C1 [.type "ValueError", .type "Exception", .type "BaseException", .type "object"] "ValueError.__new__" = true)
    (ke1 : PySem.W.keepIn K (.ref C1) = true)
    (be1 : PySem.W.subIn K (.ref C1) (.type "BaseException") = some true)
    (te1 : PySem.W.typeIn K (.ref C1) = some (.type "type"))
    (ie1 : PySem.W.isClsIn K C1 = true)
    (se1 : PySem.W.subIn K (.ref C1) (.ref C1) = some true)
    (hg1 : PySem.W.findIn K (.ref C1) "__getattribute__" = some (some (.builtin "BaseException.__getattribute__")))
    (hk1 : PySem.W.findIn K (.ref C1) "__getattr__" = some none)
    (hd1 : PySem.W.hasDictIn K C1 = true)
    (ha1 : PySem.W.findIn K (.ref C1) "__class__" = some (some (.builtin "object.__class__")))
    (hm1 : PySem.W.mroIn K C1 (.type "object") = some true)
    (hn1 : PySem.W.specialIn K (.builtin "object.__class__") "__get__" = some (some (.builtin "getset_descriptor.__get__")))
    (ht1 : PySem.W.takesIn K (.builtin "object.__class__") = some true)
    (ue1 : PySem.W.subIn K (.ref C1) (.ref C0) = some true)
    (xe2 : PySem.W.excIn K C2 [.type "ValueError", .type "Exception", .type "BaseException", .type "object"] "ValueError.__new__" = true)
    (ke2 : PySem.W.keepIn K (.ref C2) = true)
    (be2 : PySem.W.subIn K (.ref C2) (.type "BaseException") = some true)
    (te2 : PySem.W.typeIn K (.ref C2) = some (.type "type"))
    (ie2 : PySem.W.isClsIn K C2 = true)
    (se2 : PySem.W.subIn K (.ref C2) (.ref C2) = some true)
    (ue2 : PySem.W.subIn K (.ref C2) (.ref C0) = some true)
    (xe3 : PySem.W.excIn K C3 [.type "ValueError", .type "Exception", .type "BaseException", .type "object"] "ValueError.__new__" = true)
    (ke3 : PySem.W.keepIn K (.ref C3) = true)
    (be3 : PySem.W.subIn K (.ref C3) (.type "BaseException") = some true)
    (te3 : PySem.W.typeIn K (.ref C3) = some (.type "type"))
    (ie3 : PySem.W.isClsIn K C3 = true)
    (se3 : PySem.W.subIn K (.ref C3) (.ref C3) = some true)
    (ue3 : PySem.W.subIn K (.ref C3) (.ref C0) = some true)
    (xe4 : PySem.W.excIn K C4 [.type "ValueError", .type "Exception", .type "BaseException", .type "object"] "ValueError.__new__" = true)
    (ke4 : PySem.W.keepIn K (.ref C4) = true)
    (be4 : PySem.W.subIn K (.ref C4) (.type "BaseException") = some true)
    (te4 : PySem.W.typeIn K (.ref C4) = some (.type "type"))
    (ie4 : PySem.W.isClsIn K C4 = true)
    (se4 : PySem.W.subIn K (.ref C4) (.ref C4) = some true)
    (hg4 : PySem.W.findIn K (.ref C4) "__getattribute__" = some (some (.builtin "BaseException.__getattribute__")))
    (hk4 : PySem.W.findIn K (.ref C4) "__getattr__" = some none)
    (hd4 : PySem.W.hasDictIn K C4 = true)
    (ha4 : PySem.W.findIn K (.ref C4) "__class__" = some (some (.builtin "object.__class__")))
    (hm4 : PySem.W.mroIn K C4 (.type "object") = some true)
    (hn4 : PySem.W.specialIn K (.builtin "object.__class__") "__get__" = some (some (.builtin "getset_descriptor.__get__")))
    (ht4 : PySem.W.takesIn K (.builtin "object.__class__") = some true)
    (ue4 : PySem.W.subIn K (.ref C4) (.ref C0) = some true)
    (pg5 : PySem.W.plainGet K C5 Str.empty = true)
    (hd5 : PySem.W.hasDictIn K C5 = true)
    (po5 : PySem.W.plainOver K C5 = true)
    (sa5 : PySem.W.findIn K (.ref C5) "__setattr__" = some (some (.builtin "object.__setattr__")))
    (mk5 : PySem.W.makesIn K C5 = true)
    (kc5 : PySem.W.keepIn K (.ref C5) = true)
    (i12 : PySem.W.isFn K (.ref f12) = true)
    (i13 : PySem.W.isFn K (.ref f13) = true)
    (i14 : PySem.W.isFn K (.ref f14) = true)
    (i15 : PySem.W.isFn K (.ref f15) = true)
    (i16 : PySem.W.isFn K (.ref f16) = true)
    (n5_0 : PySem.W.findIn K (.ref C5) "_rows" = some none)
    (n5_1 : PySem.W.findIn K (.ref C5) "_flushed" = some none)
    (pg6 : PySem.W.plainGet K C6 Str.empty = true)
    (hd6 : PySem.W.hasDictIn K C6 = true)
    (po6 : PySem.W.plainOver K C6 = true)
    (sa6 : PySem.W.findIn K (.ref C6) "__setattr__" = some (some (.builtin "object.__setattr__")))
    (mk6 : PySem.W.makesIn K C6 = true)
    (kc6 : PySem.W.keepIn K (.ref C6) = true)
    (i17 : PySem.W.isFn K (.ref f17) = true)
    (i18 : PySem.W.isFn K (.ref f18) = true)
    (i19 : PySem.W.isFn K (.ref f19) = true)
    (i20 : PySem.W.isFn K (.ref f20) = true)
    (n6_0 : PySem.W.findIn K (.ref C6) "_name" = some none)
    (n6_1 : PySem.W.findIn K (.ref C6) "_notary" = some none)
    (n6_2 : PySem.W.findIn K (.ref C6) "_notes" = some none)
    (pg7 : PySem.W.plainGet K C7 Str.empty = true)
    (hd7 : PySem.W.hasDictIn K C7 = true)
    (po7 : PySem.W.plainOver K C7 = true)
    (sa7 : PySem.W.findIn K (.ref C7) "__setattr__" = some (some (.builtin "object.__setattr__")))
    (mk7 : PySem.W.makesIn K C7 = true)
    (kc7 : PySem.W.keepIn K (.ref C7) = true)
    (i21 : PySem.W.isFn K (.ref f21) = true)
    (i22 : PySem.W.isFn K (.ref f22) = true)
    (i23 : PySem.W.isFn K (.ref f23) = true)
    (i24 : PySem.W.isFn K (.ref f24) = true)
    (i25 : PySem.W.isFn K (.ref f25) = true)
    (i26 : PySem.W.isFn K (.ref f26) = true)
    (n7_0 : PySem.W.findIn K (.ref C7) "_table" = some none)
    (n7_1 : PySem.W.findIn K (.ref C7) "_numbers" = some none)
    (q0 : PySem.W.nsIn K mainGlobals "ABOUT_ALL" = some (some (.ref g0)))
    (r0 : K.lookup g0 = some ⟨.type "tuple", odg0, .seq itg0 ng0, slg0⟩)
    (v0 : ValsB [.str "stop", .str "resume"] itg0.toList = true)
    (q1 : PySem.W.nsIn K mainGlobals "ABOUT_ONE" = some (some (.ref g1)))
    (r1 : K.lookup g1 = some ⟨.type "tuple", odg1, .seq itg1 ng1, slg1⟩)
    (v1 : ValsB [.str "deliver", .str "return", .str "cancel"] itg1.toList = true)
    (q2 : PySem.W.nsIn K mainGlobals "ACCOUNT_LENGTH" = some (some (.int 20 tk2)))
    (q3 : PySem.W.nsIn K mainGlobals "BARRED_CODE" = some (some (.int 37 tk3)))
    (q4 : PySem.W.nsIn K mainGlobals "FIRST_CODE" = some (some (.int 32 tk4)))
    (q5 : PySem.W.nsIn K mainGlobals "LAST_CODE" = some (some (.int 126 tk5)))
    (q6 : PySem.W.nsIn K mainGlobals "MOST_TRANSFERS" = some (some (.int 8 tk6)))
    (q7 : PySem.W.nsIn K mainGlobals "SIDES" = some (some (.ref g7)))
    (r7 : K.lookup g7 = some ⟨.type "tuple", odg7, .seq itg7 ng7, slg7⟩)
    (v7 : ValsB [.str "west", .str "east"] itg7.toList = true)
    (hq0 : PySem.W.kitOne K (.ref C4) (.ref C1) = some false)
    (hq1 : PySem.W.kitOne K (.ref C1) (.ref C4) = some false)
    (z0 : PySem.W.nsIn K mainGlobals "abs" = some none)
    (z1 : PySem.W.nsIn K mainGlobals "all" = some none)
    (z2 : PySem.W.nsIn K mainGlobals "bool" = some none)
    (z3 : PySem.W.nsIn K mainGlobals "int" = some none)
    (z4 : PySem.W.nsIn K mainGlobals "isinstance" = some none)
    (z5 : PySem.W.nsIn K mainGlobals "len" = some none)
    (z6 : PySem.W.nsIn K mainGlobals "list" = some none)
    (z7 : PySem.W.nsIn K mainGlobals "max" = some none)
    (z8 : PySem.W.nsIn K mainGlobals "min" = some none)
    (z9 : PySem.W.nsIn K mainGlobals "ord" = some none)
    (z10 : PySem.W.nsIn K mainGlobals "range" = some none)
    (z11 : PySem.W.nsIn K mainGlobals "str" = some none)
    (z12 : PySem.W.nsIn K mainGlobals "sum" = some none)
    (z13 : PySem.W.nsIn K mainGlobals "tuple" = some none) : Txt K mg where
  f_is_integer := f0
  d_is_integer := PySem.W.fnOf "is_integer" "is_integer" (defArgs s_is_integer) (defBody s_is_integer) (defScope s_is_integer) .none kV0 dc0 pm0 an0 cd0 ct0
  F_is_integer := fun_mk (st := s_is_integer) l0 c0 k0
  b_is_integer := Fun.binds (fun_mk (st := s_is_integer) l0 c0 k0) (ps := ["value"]) fun _ _ _ _ _ _ us hl => match us, hl with | [_], _ => rfl
  g_is_integer := PySem.W.mg_of X G a0
  f_is_at_least := f1
  d_is_at_least := PySem.W.fnOf "is_at_least" "is_at_least" (defArgs s_is_at_least) (defBody s_is_at_least) (defScope s_is_at_least) .none kV1 dc1 pm1 an1 cd1 ct1
  F_is_at_least := fun_mk (st := s_is_at_least) l1 c1 k1
  b_is_at_least := Fun.binds (fun_mk (st := s_is_at_least) l1 c1 k1) (ps := ["value", "least"]) fun _ _ _ _ _ _ us hl => match us, hl with | [_, _], _ => rfl
  g_is_at_least := PySem.W.mg_of X G a1
  f_is_text := f2
  d_is_text := PySem.W.fnOf "is_text" "is_text" (defArgs s_is_text) (defBody s_is_text) (defScope s_is_text) .none kV2 dc2 pm2 an2 cd2 ct2
  F_is_text := fun_mk (st := s_is_text) l2 c2 k2
  b_is_text := Fun.binds (fun_mk (st := s_is_text) l2 c2 k2) (ps := ["value"]) fun _ _ _ _ _ _ us hl => match us, hl with | [_], _ => rfl
  g_is_text := PySem.W.mg_of X G a2
  f_is_short_text := f3
  d_is_short_text := PySem.W.fnOf "is_short_text" "is_short_text" (defArgs s_is_short_text) (defBody s_is_short_text) (defScope s_is_short_text) .none kV3 dc3 pm3 an3 cd3 ct3
  F_is_short_text := fun_mk (st := s_is_short_text) l3 c3 k3
  b_is_short_text := Fun.binds (fun_mk (st := s_is_short_text) l3 c3 k3) (ps := ["value", "most"]) fun _ _ _ _ _ _ us hl => match us, hl with | [_, _], _ => rfl
  g_is_short_text := PySem.W.mg_of X G a3
  f_is_account := f4
  d_is_account := PySem.W.fnOf "is_account" "is_account" (defArgs s_is_account) (defBody s_is_account) (defScope s_is_account) .none kV4 dc4 pm4 an4 cd4 ct4
  F_is_account := fun_mk (st := s_is_account) l4 c4 k4
  b_is_account := Fun.binds (fun_mk (st := s_is_account) l4 c4 k4) (ps := ["value"]) fun _ _ _ _ _ _ us hl => match us, hl with | [_], _ => rfl
  g_is_account := PySem.W.mg_of X G a4
  f_is_side := f5
  d_is_side := PySem.W.fnOf "is_side" "is_side" (defArgs s_is_side) (defBody s_is_side) (defScope s_is_side) .none kV5 dc5 pm5 an5 cd5 ct5
  F_is_side := fun_mk (st := s_is_side) l5 c5 k5
  b_is_side := Fun.binds (fun_mk (st := s_is_side) l5 c5 k5) (ps := ["value"]) fun _ _ _ _ _ _ us hl => match us, hl with | [_], _ => rfl
  g_is_side := PySem.W.mg_of X G a5
  f_is_set := f6
  d_is_set := PySem.W.fnOf "is_set" "is_set" (defArgs s_is_set) (defBody s_is_set) (defScope s_is_set) .none kV6 dc6 pm6 an6 cd6 ct6
  F_is_set := fun_mk (st := s_is_set) l6 c6 k6
  b_is_set := Fun.binds (fun_mk (st := s_is_set) l6 c6 k6) (ps := ["value"]) fun _ _ _ _ _ _ us hl => match us, hl with | [_], _ => rfl
  g_is_set := PySem.W.mg_of X G a6
  f_is_pair := f7
  d_is_pair := PySem.W.fnOf "is_pair" "is_pair" (defArgs s_is_pair) (defBody s_is_pair) (defScope s_is_pair) .none kV7 dc7 pm7 an7 cd7 ct7
  F_is_pair := fun_mk (st := s_is_pair) l7 c7 k7
  b_is_pair := Fun.binds (fun_mk (st := s_is_pair) l7 c7 k7) (ps := ["part"]) fun _ _ _ _ _ _ us hl => match us, hl with | [_], _ => rfl
  g_is_pair := PySem.W.mg_of X G a7
  f_approve := f8
  d_approve := PySem.W.fnOf "approve" "approve" (defArgs s_approve) (defBody s_approve) (defScope s_approve) .none kV8 dc8 pm8 an8 cd8 ct8
  F_approve := fun_mk (st := s_approve) l8 c8 k8
  b_approve := Fun.binds (fun_mk (st := s_approve) l8 c8 k8) (ps := ["journal", "number", "guards"]) fun _ _ _ _ _ _ us hl => match us, hl with | [_, _, _], _ => rfl
  g_approve := PySem.W.mg_of X G a8
  f_is_transfer := f9
  d_is_transfer := PySem.W.fnOf "is_transfer" "is_transfer" (defArgs s_is_transfer) (defBody s_is_transfer) (defScope s_is_transfer) .none kV9 dc9 pm9 an9 cd9 ct9
  F_is_transfer := fun_mk (st := s_is_transfer) l9 c9 k9
  b_is_transfer := Fun.binds (fun_mk (st := s_is_transfer) l9 c9 k9) (ps := ["value"]) fun _ _ _ _ _ _ us hl => match us, hl with | [_], _ => rfl
  g_is_transfer := PySem.W.mg_of X G a9
  f_is_bundle := f10
  d_is_bundle := PySem.W.fnOf "is_bundle" "is_bundle" (defArgs s_is_bundle) (defBody s_is_bundle) (defScope s_is_bundle) .none kV10 dc10 pm10 an10 cd10 ct10
  F_is_bundle := fun_mk (st := s_is_bundle) l10 c10 k10
  b_is_bundle := Fun.binds (fun_mk (st := s_is_bundle) l10 c10 k10) (ps := ["value"]) fun _ _ _ _ _ _ us hl => match us, hl with | [_], _ => rfl
  g_is_bundle := PySem.W.mg_of X G a10
  f_is_letter := f11
  d_is_letter := PySem.W.fnOf "is_letter" "is_letter" (defArgs s_is_letter) (defBody s_is_letter) (defScope s_is_letter) .none kV11 dc11 pm11 an11 cd11 ct11
  F_is_letter := fun_mk (st := s_is_letter) l11 c11 k11
  b_is_letter := Fun.binds (fun_mk (st := s_is_letter) l11 c11 k11) (ps := ["value"]) fun _ _ _ _ _ _ us hl => match us, hl with | [_], _ => rfl
  g_is_letter := PySem.W.mg_of X G a11
  f_Notes_init := f12
  d_Notes_init := PySem.W.fnOf "__init__" "Notes.__init__" (defArgs s_Notes_init) (defBody s_Notes_init) (defScope s_Notes_init) .none kV12 dc12 pm12 an12 cd12 ct12
  F_Notes_init := fun_mk (st := s_Notes_init) l12 c12 k12
  b_Notes_init := Fun.binds (fun_mk (st := s_Notes_init) l12 c12 k12) (ps := ["self"]) fun _ _ _ _ _ _ us hl => match us, hl with | [_], _ => rfl
  f_Notes_add := f13
  d_Notes_add := PySem.W.fnOf "add" "Notes.add" (defArgs s_Notes_add) (defBody s_Notes_add) (defScope s_Notes_add) .none kV13 dc13 pm13 an13 cd13 ct13
  F_Notes_add := fun_mk (st := s_Notes_add) l13 c13 k13
  b_Notes_add := Fun.binds (fun_mk (st := s_Notes_add) l13 c13 k13) (ps := ["self", "row"]) fun _ _ _ _ _ _ us hl => match us, hl with | [_, _], _ => rfl
  f_Notes_rows := f14
  d_Notes_rows := PySem.W.fnOf "rows" "Notes.rows" (defArgs s_Notes_rows) (defBody s_Notes_rows) (defScope s_Notes_rows) .none kV14 dc14 pm14 an14 cd14 ct14
  F_Notes_rows := fun_mk (st := s_Notes_rows) l14 c14 k14
  b_Notes_rows := Fun.binds (fun_mk (st := s_Notes_rows) l14 c14 k14) (ps := ["self"]) fun _ _ _ _ _ _ us hl => match us, hl with | [_], _ => rfl
  f_Notes_flush := f15
  d_Notes_flush := PySem.W.fnOf "flush" "Notes.flush" (defArgs s_Notes_flush) (defBody s_Notes_flush) (defScope s_Notes_flush) .none kV15 dc15 pm15 an15 cd15 ct15
  F_Notes_flush := fun_mk (st := s_Notes_flush) l15 c15 k15
  b_Notes_flush := Fun.binds (fun_mk (st := s_Notes_flush) l15 c15 k15) (ps := ["self"]) fun _ _ _ _ _ _ us hl => match us, hl with | [_], _ => rfl
  f_Notes_crash := f16
  d_Notes_crash := PySem.W.fnOf "crash" "Notes.crash" (defArgs s_Notes_crash) (defBody s_Notes_crash) (defScope s_Notes_crash) .none kV16 dc16 pm16 an16 cd16 ct16
  F_Notes_crash := fun_mk (st := s_Notes_crash) l16 c16 k16
  b_Notes_crash := Fun.binds (fun_mk (st := s_Notes_crash) l16 c16 k16) (ps := ["self", "lost"]) fun _ _ _ _ _ _ us hl => match us, hl with | [_, _], _ => rfl
  f_Machine_init := f17
  d_Machine_init := PySem.W.fnOf "__init__" "Machine.__init__" (defArgs s_Machine_init) (defBody s_Machine_init) (defScope s_Machine_init) .none kV17 dc17 pm17 an17 cd17 ct17
  F_Machine_init := fun_mk (st := s_Machine_init) l17 c17 k17
  b_Machine_init := Fun.binds (fun_mk (st := s_Machine_init) l17 c17 k17) (ps := ["self", "name", "notary"]) fun _ _ _ _ _ _ us hl => match us, hl with | [_, _, _], _ => rfl
  f_Machine_journal := f18
  d_Machine_journal := PySem.W.fnOf "journal" "Machine.journal" (defArgs s_Machine_journal) (defBody s_Machine_journal) (defScope s_Machine_journal) .none kV18 dc18 pm18 an18 cd18 ct18
  F_Machine_journal := fun_mk (st := s_Machine_journal) l18 c18 k18
  b_Machine_journal := Fun.binds (fun_mk (st := s_Machine_journal) l18 c18 k18) (ps := ["self"]) fun _ _ _ _ _ _ us hl => match us, hl with | [_], _ => rfl
  f_Machine_carry_out := f19
  d_Machine_carry_out := PySem.W.fnOf "carry_out" "Machine.carry_out" (defArgs s_Machine_carry_out) (defBody s_Machine_carry_out) (defScope s_Machine_carry_out) .none kV19 dc19 pm19 an19 cd19 ct19
  F_Machine_carry_out := fun_mk (st := s_Machine_carry_out) l19 c19 k19
  b_Machine_carry_out := Fun.binds (fun_mk (st := s_Machine_carry_out) l19 c19 k19) (ps := ["self", "steps", "count"]) fun _ _ _ _ _ _ us hl => match us, hl with | [_, _, _], _ => rfl
  f_Machine_crash := f20
  d_Machine_crash := PySem.W.fnOf "crash" "Machine.crash" (defArgs s_Machine_crash) (defBody s_Machine_crash) (defScope s_Machine_crash) .none kV20 dc20 pm20 an20 cd20 ct20
  F_Machine_crash := fun_mk (st := s_Machine_crash) l20 c20 k20
  b_Machine_crash := Fun.binds (fun_mk (st := s_Machine_crash) l20 c20 k20) (ps := ["self", "lost"]) fun _ _ _ _ _ _ us hl => match us, hl with | [_, _], _ => rfl
  f_Notary_init := f21
  d_Notary_init := PySem.W.fnOf "__init__" "Notary.__init__" (defArgs s_Notary_init) (defBody s_Notary_init) (defScope s_Notary_init) .none kV21 dc21 pm21 an21 cd21 ct21
  F_Notary_init := fun_mk (st := s_Notary_init) l21 c21 k21
  b_Notary_init := Fun.binds (fun_mk (st := s_Notary_init) l21 c21 k21) (ps := ["self"]) fun _ _ _ _ _ _ us hl => match us, hl with | [_], _ => rfl
  f_Notary_seal := f22
  d_Notary_seal := PySem.W.fnOf "seal" "Notary.seal" (defArgs s_Notary_seal) (defBody s_Notary_seal) (defScope s_Notary_seal) .none kV22 dc22 pm22 an22 cd22 ct22
  F_Notary_seal := fun_mk (st := s_Notary_seal) l22 c22 k22
  b_Notary_seal := Fun.binds (fun_mk (st := s_Notary_seal) l22 c22 k22) (ps := ["self", "guard", "letter"]) fun _ _ _ _ _ _ us hl => match us, hl with | [_, _, _], _ => rfl
  f_Notary_count := f23
  d_Notary_count := PySem.W.fnOf "count" "Notary.count" (defArgs s_Notary_count) (defBody s_Notary_count) (defScope s_Notary_count) .none kV23 dc23 pm23 an23 cd23 ct23
  F_Notary_count := fun_mk (st := s_Notary_count) l23 c23 k23
  b_Notary_count := Fun.binds (fun_mk (st := s_Notary_count) l23 c23 k23) (ps := ["self"]) fun _ _ _ _ _ _ us hl => match us, hl with | [_], _ => rfl
  f_Notary_check_seals := f24
  d_Notary_check_seals := PySem.W.fnOf "check_seals" "Notary.check_seals" (defArgs s_Notary_check_seals) (defBody s_Notary_check_seals) (defScope s_Notary_check_seals) .none kV24 dc24 pm24 an24 cd24 ct24
  F_Notary_check_seals := fun_mk (st := s_Notary_check_seals) l24 c24 k24
  b_Notary_check_seals := Fun.binds (fun_mk (st := s_Notary_check_seals) l24 c24 k24) (ps := ["self", "seals"]) fun _ _ _ _ _ _ us hl => match us, hl with | [_, _], _ => rfl
  f_Notary_shown := f25
  d_Notary_shown := PySem.W.fnOf "shown" "Notary.shown" (defArgs s_Notary_shown) (defBody s_Notary_shown) (defScope s_Notary_shown) .none kV25 dc25 pm25 an25 cd25 ct25
  F_Notary_shown := fun_mk (st := s_Notary_shown) l25 c25 k25
  b_Notary_shown := Fun.binds (fun_mk (st := s_Notary_shown) l25 c25 k25) (ps := ["self", "number"]) fun _ _ _ _ _ _ us hl => match us, hl with | [_, _], _ => rfl
  f_Notary_weight := f26
  d_Notary_weight := PySem.W.fnOf "weight" "Notary.weight" (defArgs s_Notary_weight) (defBody s_Notary_weight) (defScope s_Notary_weight) .none kV26 dc26 pm26 an26 cd26 ct26
  F_Notary_weight := fun_mk (st := s_Notary_weight) l26 c26 k26
  b_Notary_weight := Fun.binds (fun_mk (st := s_Notary_weight) l26 c26 k26) (ps := ["self", "guards", "letter", "seals"]) fun _ _ _ _ _ _ us hl => match us, hl with | [_, _, _, _], _ => rfl
  f_L_pot := f27
  d_L_pot := PySem.W.fnOf "_law_pot" "_law_pot" (defArgs s_L_pot) (defBody s_L_pot) (defScope s_L_pot) .none kV27 dc27 pm27 an27 cd27 ct27
  F_L_pot := fun_mk (st := s_L_pot) l27 c27 k27
  b_L_pot := Fun.binds (fun_mk (st := s_L_pot) l27 c27 k27) (ps := ["script"]) fun _ _ _ _ _ _ us hl => match us, hl with | [_], _ => rfl
  g_L_pot := PySem.W.mg_of X G a27
  f_L_next := f28
  d_L_next := PySem.W.fnOf "_law_next" "_law_next" (defArgs s_L_next) (defBody s_L_next) (defScope s_L_next) .none kV28 dc28 pm28 an28 cd28 ct28
  F_L_next := fun_mk (st := s_L_next) l28 c28 k28
  b_L_next := Fun.binds (fun_mk (st := s_L_next) l28 c28 k28) (ps := ["pot", "limit"]) fun _ _ _ _ _ _ us hl => match us, hl with | [_, _], _ => rfl
  g_L_next := PySem.W.mg_of X G a28
  f_L_is_int := f29
  d_L_is_int := PySem.W.fnOf "_law_is_int" "_law_is_int" (defArgs s_L_is_int) (defBody s_L_is_int) (defScope s_L_is_int) .none kV29 dc29 pm29 an29 cd29 ct29
  F_L_is_int := fun_mk (st := s_L_is_int) l29 c29 k29
  b_L_is_int := Fun.binds (fun_mk (st := s_L_is_int) l29 c29 k29) (ps := ["value"]) fun _ _ _ _ _ _ us hl => match us, hl with | [_], _ => rfl
  g_L_is_int := PySem.W.mg_of X G a29
  f_L_set := f30
  d_L_set := PySem.W.fnOf "_law_set" "_law_set" (defArgs s_L_set) (defBody s_L_set) (defScope s_L_set) .none kV30 dc30 pm30 an30 cd30 ct30
  F_L_set := fun_mk (st := s_L_set) l30 c30 k30
  b_L_set := Fun.binds (fun_mk (st := s_L_set) l30 c30 k30) (ps := ["pot", "most"]) fun _ _ _ _ _ _ us hl => match us, hl with | [_, _], _ => rfl
  g_L_set := PySem.W.mg_of X G a30
  f_L_steps := f31
  d_L_steps := PySem.W.fnOf "_law_steps" "_law_steps" (defArgs s_L_steps) (defBody s_L_steps) (defScope s_L_steps) .none kV31 dc31 pm31 an31 cd31 ct31
  F_L_steps := fun_mk (st := s_L_steps) l31 c31 k31
  b_L_steps := Fun.binds (fun_mk (st := s_L_steps) l31 c31 k31) (ps := ["journal", "number", "guards"]) fun _ _ _ _ _ _ us hl => match us, hl with | [_, _, _], _ => rfl
  g_L_steps := PySem.W.mg_of X G a31
  f_L_due := f32
  d_L_due := PySem.W.fnOf "_law_due" "_law_due" (defArgs s_L_due) (defBody s_L_due) (defScope s_L_due) .none kV32 dc32 pm32 an32 cd32 ct32
  F_L_due := fun_mk (st := s_L_due) l32 c32 k32
  b_L_due := Fun.binds (fun_mk (st := s_L_due) l32 c32 k32) (ps := ["journal", "number", "guards"]) fun _ _ _ _ _ _ us hl => match us, hl with | [_, _, _], _ => rfl
  g_L_due := PySem.W.mg_of X G a32
  f_law := f33
  d_law := PySem.W.fnOf "law" "law" (defArgs s_law) (defBody s_law) (defScope s_law) .none kV33 dc33 pm33 an33 cd33 ct33
  F_law := fun_mk (st := s_law) l33 c33 k33
  b_law := Fun.binds (fun_mk (st := s_law) l33 c33 k33) (ps := ["script"]) fun _ _ _ _ _ _ us hl => match us, hl with | [_], _ => rfl
  g_law := PySem.W.mg_of X G a33
  C_BridgeError := C0
  g_BridgeError := PySem.W.mg_of X G aC0
  xe_BridgeError := xe0
  ke_BridgeError := ke0
  be_BridgeError := be0
  te_BridgeError := te0
  ie_BridgeError := ie0
  se_BridgeError := se0
  hd_BridgeError := hd0
  C_InvalidArgument := C1
  g_InvalidArgument := PySem.W.mg_of X G aC1
  xe_InvalidArgument := xe1
  ke_InvalidArgument := ke1
  be_InvalidArgument := be1
  te_InvalidArgument := te1
  ie_InvalidArgument := ie1
  se_InvalidArgument := se1
  hg_InvalidArgument := hg1
  hk_InvalidArgument := hk1
  hd_InvalidArgument := hd1
  ha_InvalidArgument := ha1
  hm_InvalidArgument := hm1
  hn_InvalidArgument := hn1
  ht_InvalidArgument := ht1
  ue_InvalidArgument := ue1
  C_InvalidOrder := C2
  g_InvalidOrder := PySem.W.mg_of X G aC2
  xe_InvalidOrder := xe2
  ke_InvalidOrder := ke2
  be_InvalidOrder := be2
  te_InvalidOrder := te2
  ie_InvalidOrder := ie2
  se_InvalidOrder := se2
  ue_InvalidOrder := ue2
  C_UnknownSeal := C3
  g_UnknownSeal := PySem.W.mg_of X G aC3
  xe_UnknownSeal := xe3
  ke_UnknownSeal := ke3
  be_UnknownSeal := be3
  te_UnknownSeal := te3
  ie_UnknownSeal := ie3
  se_UnknownSeal := se3
  ue_UnknownSeal := ue3
  C_AlreadyApproved := C4
  g_AlreadyApproved := PySem.W.mg_of X G aC4
  xe_AlreadyApproved := xe4
  ke_AlreadyApproved := ke4
  be_AlreadyApproved := be4
  te_AlreadyApproved := te4
  ie_AlreadyApproved := ie4
  se_AlreadyApproved := se4
  hg_AlreadyApproved := hg4
  hk_AlreadyApproved := hk4
  hd_AlreadyApproved := hd4
  ha_AlreadyApproved := ha4
  hm_AlreadyApproved := hm4
  hn_AlreadyApproved := hn4
  ht_AlreadyApproved := ht4
  ue_AlreadyApproved := ue4
  C_Notes := C5
  cl_Notes := ⟨pg5, hd5, po5, sa5⟩
  g_Notes := PySem.W.mg_of X G aC5
  mk_Notes := ⟨mk5, m12, i12, kc5⟩
  m_Notes_add := ⟨m13, i13, k13⟩
  m_Notes_rows := ⟨m14, i14, k14⟩
  m_Notes_flush := ⟨m15, i15, k15⟩
  m_Notes_crash := ⟨m16, i16, k16⟩
  n_Notes_rows := n5_0
  n_Notes_flushed := n5_1
  C_Machine := C6
  cl_Machine := ⟨pg6, hd6, po6, sa6⟩
  g_Machine := PySem.W.mg_of X G aC6
  mk_Machine := ⟨mk6, m17, i17, kc6⟩
  m_Machine_journal := ⟨m18, i18, k18⟩
  m_Machine_carry_out := ⟨m19, i19, k19⟩
  m_Machine_crash := ⟨m20, i20, k20⟩
  n_Machine_name := n6_0
  n_Machine_notary := n6_1
  n_Machine_notes := n6_2
  C_Notary := C7
  cl_Notary := ⟨pg7, hd7, po7, sa7⟩
  g_Notary := PySem.W.mg_of X G aC7
  mk_Notary := ⟨mk7, m21, i21, kc7⟩
  m_Notary_seal := ⟨m22, i22, k22⟩
  m_Notary_count := ⟨m23, i23, k23⟩
  m_Notary_check_seals := ⟨m24, i24, k24⟩
  m_Notary_shown := ⟨m25, i25, k25⟩
  m_Notary_weight := ⟨m26, i26, k26⟩
  n_Notary_table := n7_0
  n_Notary_numbers := n7_1
  a_ABOUT_ALL := g0
  c_ABOUT_ALL := PySem.W.mg_of X G q0
  k_ABOUT_ALL := ⟨_, _, _, r0, rfl, rfl, (ValsB.size v0 (by decide)), ValsB.vals v0⟩
  a_ABOUT_ONE := g1
  c_ABOUT_ONE := PySem.W.mg_of X G q1
  k_ABOUT_ONE := ⟨_, _, _, r1, rfl, rfl, (ValsB.size v1 (by decide)), ValsB.vals v1⟩
  t_ACCOUNT_LENGTH := tk2
  c_ACCOUNT_LENGTH := PySem.W.mg_of X G q2
  t_BARRED_CODE := tk3
  c_BARRED_CODE := PySem.W.mg_of X G q3
  t_FIRST_CODE := tk4
  c_FIRST_CODE := PySem.W.mg_of X G q4
  t_LAST_CODE := tk5
  c_LAST_CODE := PySem.W.mg_of X G q5
  t_MOST_TRANSFERS := tk6
  c_MOST_TRANSFERS := PySem.W.mg_of X G q6
  a_SIDES := g7
  c_SIDES := PySem.W.mg_of X G q7
  k_SIDES := ⟨_, _, _, r7, rfl, rfl, (ValsB.size v7 (by decide)), ValsB.vals v7⟩
  hq_AlreadyApproved_InvalidArgument := hq0
  hq_InvalidArgument_AlreadyApproved := hq1
  z_abs := PySem.W.mg_none_of X G z0
  z_all := PySem.W.mg_none_of X G z1
  z_bool := PySem.W.mg_none_of X G z2
  z_int := PySem.W.mg_none_of X G z3
  z_isinstance := PySem.W.mg_none_of X G z4
  z_len := PySem.W.mg_none_of X G z5
  z_list := PySem.W.mg_none_of X G z6
  z_max := PySem.W.mg_none_of X G z7
  z_min := PySem.W.mg_none_of X G z8
  z_ord := PySem.W.mg_none_of X G z9
  z_range := PySem.W.mg_none_of X G z10
  z_str := PySem.W.mg_none_of X G z11
  z_sum := PySem.W.mg_none_of X G z12
  z_tuple := PySem.W.mg_none_of X G z13
theorem all_mk {l : PySem.W.OpenLaw} {w : World} {K : PySem.W.Frag} {h : Heap} {mg : Str → Option Value} {fa : Addr} (X : K.In h) (G : h.Ns mainGlobals mg) (hfa : mg "law" = some (.ref fa))
    {f0 f1 f2 f3 f4 f5 f6 f7 f8 f9 f10 f11 f12 f13 f14 f15 f16 f17 f18 f19 f20 f21 f22 f23 f24 f25 f26 f27 f28 f29 f30 f31 f32 f33 C0 C1 C2 C3 C4 C5 C6 C7 g0 g1 g7 : Addr} {od0 an0 od1 an1 od2 an2 od3 an3 od4 an4 od5 an5 od6 an6 od7 an7 od8 an8 od9 an9 od10 an10 od11 an11 od12 an12 od13 an13 od14 an14 od15 an15 od16 an16 od17 an17 od18 an18 od19 an19 od20 an20 od21 an21 od22 an22 od23 an23 od24 an24 od25 an25 od26 an26 od27 an27 od28 an28 od29 an29 od30 an30 od31 an31 od32 an32 od33 an33 : Option Addr} {sl0 sl1 sl2 sl3 sl4 sl5 sl6 sl7 sl8 sl9 sl10 sl11 sl12 sl13 sl14 sl15 sl16 sl17 sl18 sl19 sl20 sl21 sl22 sl23 sl24 sl25 sl26 sl27 sl28 sl29 sl30 sl31 sl32 sl33 : Array (Option Value)} {oc0 kV0 dc0 pm0 cd0 ct0 oc1 kV1 dc1 pm1 cd1 ct1 oc2 kV2 dc2 pm2 cd2 ct2 oc3 kV3 dc3 pm3 cd3 ct3 oc4 kV4 dc4 pm4 cd4 ct4 oc5 kV5 dc5 pm5 cd5 ct5 oc6 kV6 dc6 pm6 cd6 ct6 oc7 kV7 dc7 pm7 cd7 ct7 oc8 kV8 dc8 pm8 cd8 ct8 oc9 kV9 dc9 pm9 cd9 ct9 oc10 kV10 dc10 pm10 cd10 ct10 oc11 kV11 dc11 pm11 cd11 ct11 oc12 kV12 dc12 pm12 cd12 ct12 oc13 kV13 dc13 pm13 cd13 ct13 oc14 kV14 dc14 pm14 cd14 ct14 oc15 kV15 dc15 pm15 cd15 ct15 oc16 kV16 dc16 pm16 cd16 ct16 oc17 kV17 dc17 pm17 cd17 ct17 oc18 kV18 dc18 pm18 cd18 ct18 oc19 kV19 dc19 pm19 cd19 ct19 oc20 kV20 dc20 pm20 cd20 ct20 oc21 kV21 dc21 pm21 cd21 ct21 oc22 kV22 dc22 pm22 cd22 ct22 oc23 kV23 dc23 pm23 cd23 ct23 oc24 kV24 dc24 pm24 cd24 ct24 oc25 kV25 dc25 pm25 cd25 ct25 oc26 kV26 dc26 pm26 cd26 ct26 oc27 kV27 dc27 pm27 cd27 ct27 oc28 kV28 dc28 pm28 cd28 ct28 oc29 kV29 dc29 pm29 cd29 ct29 oc30 kV30 dc30 pm30 cd30 ct30 oc31 kV31 dc31 pm31 cd31 ct31 oc32 kV32 dc32 pm32 cd32 ct32 oc33 kV33 dc33 pm33 cd33 ct33 : Value} {tk2 tk3 tk4 tk5 tk6 : Tok} {odg0 : Option Addr} {itg0 : Array Value} {ng0 : Nat} {slg0 : Array (Option Value)} {odg1 : Option Addr} {itg1 : Array Value} {ng1 : Nat} {slg1 : Array (Option Value)} {odg7 : Option Addr} {itg7 : Array Value} {ng7 : Nat} {slg7 : Array (Option Value)}
    (a0 : PySem.W.nsIn K mainGlobals "is_integer" = some (some (.ref f0)))
    (a1 : PySem.W.nsIn K mainGlobals "is_at_least" = some (some (.ref f1)))
    (a2 : PySem.W.nsIn K mainGlobals "is_text" = some (some (.ref f2)))
    (a3 : PySem.W.nsIn K mainGlobals "is_short_text" = some (some (.ref f3)))
    (a4 : PySem.W.nsIn K mainGlobals "is_account" = some (some (.ref f4)))
    (a5 : PySem.W.nsIn K mainGlobals "is_side" = some (some (.ref f5)))
    (a6 : PySem.W.nsIn K mainGlobals "is_set" = some (some (.ref f6)))
    (a7 : PySem.W.nsIn K mainGlobals "is_pair" = some (some (.ref f7)))
    (a8 : PySem.W.nsIn K mainGlobals "approve" = some (some (.ref f8)))
    (a9 : PySem.W.nsIn K mainGlobals "is_transfer" = some (some (.ref f9)))
    (a10 : PySem.W.nsIn K mainGlobals "is_bundle" = some (some (.ref f10)))
    (a11 : PySem.W.nsIn K mainGlobals "is_letter" = some (some (.ref f11)))
    (a27 : PySem.W.nsIn K mainGlobals "_law_pot" = some (some (.ref f27)))
    (a28 : PySem.W.nsIn K mainGlobals "_law_next" = some (some (.ref f28)))
    (a29 : PySem.W.nsIn K mainGlobals "_law_is_int" = some (some (.ref f29)))
    (a30 : PySem.W.nsIn K mainGlobals "_law_set" = some (some (.ref f30)))
    (a31 : PySem.W.nsIn K mainGlobals "_law_steps" = some (some (.ref f31)))
    (a32 : PySem.W.nsIn K mainGlobals "_law_due" = some (some (.ref f32)))
    (a33 : PySem.W.nsIn K mainGlobals "law" = some (some (.ref f33)))
    (aC0 : PySem.W.nsIn K mainGlobals "BridgeError" = some (some (.ref C0)))
    (aC1 : PySem.W.nsIn K mainGlobals "InvalidArgument" = some (some (.ref C1)))
    (aC2 : PySem.W.nsIn K mainGlobals "InvalidOrder" = some (some (.ref C2)))
    (aC3 : PySem.W.nsIn K mainGlobals "UnknownSeal" = some (some (.ref C3)))
    (aC4 : PySem.W.nsIn K mainGlobals "AlreadyApproved" = some (some (.ref C4)))
    (aC5 : PySem.W.nsIn K mainGlobals "Notes" = some (some (.ref C5)))
    (aC6 : PySem.W.nsIn K mainGlobals "Machine" = some (some (.ref C6)))
    (aC7 : PySem.W.nsIn K mainGlobals "Notary" = some (some (.ref C7)))
    (m12 : PySem.W.findIn K (.ref C5) "__init__" = some (some (.ref f12)))
    (m13 : PySem.W.findIn K (.ref C5) "add" = some (some (.ref f13)))
    (m14 : PySem.W.findIn K (.ref C5) "rows" = some (some (.ref f14)))
    (m15 : PySem.W.findIn K (.ref C5) "flush" = some (some (.ref f15)))
    (m16 : PySem.W.findIn K (.ref C5) "crash" = some (some (.ref f16)))
    (m17 : PySem.W.findIn K (.ref C6) "__init__" = some (some (.ref f17)))
    (m18 : PySem.W.findIn K (.ref C6) "journal" = some (some (.ref f18)))
    (m19 : PySem.W.findIn K (.ref C6) "carry_out" = some (some (.ref f19)))
    (m20 : PySem.W.findIn K (.ref C6) "crash" = some (some (.ref f20)))
    (m21 : PySem.W.findIn K (.ref C7) "__init__" = some (some (.ref f21)))
    (m22 : PySem.W.findIn K (.ref C7) "seal" = some (some (.ref f22)))
    (m23 : PySem.W.findIn K (.ref C7) "count" = some (some (.ref f23)))
    (m24 : PySem.W.findIn K (.ref C7) "check_seals" = some (some (.ref f24)))
    (m25 : PySem.W.findIn K (.ref C7) "shown" = some (some (.ref f25)))
    (m26 : PySem.W.findIn K (.ref C7) "weight" = some (some (.ref f26)))
    (l0 : K.lookup f0 = some ⟨oc0, od0, .func (PySem.W.fnOf "is_integer" "is_integer" (defArgs s_is_integer) (defBody s_is_integer) (defScope s_is_integer) .none kV0 dc0 pm0 an0 cd0 ct0), sl0⟩)
    (c0 : PySem.W.codeIn K cd0 "is_integer" = true)
    (k0 : PySem.W.keepIn K (.ref f0) = true)
    (l1 : K.lookup f1 = some ⟨oc1, od1, .func (PySem.W.fnOf "is_at_least" "is_at_least" (defArgs s_is_at_least) (defBody s_is_at_least) (defScope s_is_at_least) .none kV1 dc1 pm1 an1 cd1 ct1), sl1⟩)
    (c1 : PySem.W.codeIn K cd1 "is_at_least" = true)
    (k1 : PySem.W.keepIn K (.ref f1) = true)
    (l2 : K.lookup f2 = some ⟨oc2, od2, .func (PySem.W.fnOf "is_text" "is_text" (defArgs s_is_text) (defBody s_is_text) (defScope s_is_text) .none kV2 dc2 pm2 an2 cd2 ct2), sl2⟩)
    (c2 : PySem.W.codeIn K cd2 "is_text" = true)
    (k2 : PySem.W.keepIn K (.ref f2) = true)
    (l3 : K.lookup f3 = some ⟨oc3, od3, .func (PySem.W.fnOf "is_short_text" "is_short_text" (defArgs s_is_short_text) (defBody s_is_short_text) (defScope s_is_short_text) .none kV3 dc3 pm3 an3 cd3 ct3), sl3⟩)
    (c3 : PySem.W.codeIn K cd3 "is_short_text" = true)
    (k3 : PySem.W.keepIn K (.ref f3) = true)
    (l4 : K.lookup f4 = some ⟨oc4, od4, .func (PySem.W.fnOf "is_account" "is_account" (defArgs s_is_account) (defBody s_is_account) (defScope s_is_account) .none kV4 dc4 pm4 an4 cd4 ct4), sl4⟩)
    (c4 : PySem.W.codeIn K cd4 "is_account" = true)
    (k4 : PySem.W.keepIn K (.ref f4) = true)
    (l5 : K.lookup f5 = some ⟨oc5, od5, .func (PySem.W.fnOf "is_side" "is_side" (defArgs s_is_side) (defBody s_is_side) (defScope s_is_side) .none kV5 dc5 pm5 an5 cd5 ct5), sl5⟩)
    (c5 : PySem.W.codeIn K cd5 "is_side" = true)
    (k5 : PySem.W.keepIn K (.ref f5) = true)
    (l6 : K.lookup f6 = some ⟨oc6, od6, .func (PySem.W.fnOf "is_set" "is_set" (defArgs s_is_set) (defBody s_is_set) (defScope s_is_set) .none kV6 dc6 pm6 an6 cd6 ct6), sl6⟩)
    (c6 : PySem.W.codeIn K cd6 "is_set" = true)
    (k6 : PySem.W.keepIn K (.ref f6) = true)
    (l7 : K.lookup f7 = some ⟨oc7, od7, .func (PySem.W.fnOf "is_pair" "is_pair" (defArgs s_is_pair) (defBody s_is_pair) (defScope s_is_pair) .none kV7 dc7 pm7 an7 cd7 ct7), sl7⟩)
    (c7 : PySem.W.codeIn K cd7 "is_pair" = true)
    (k7 : PySem.W.keepIn K (.ref f7) = true)
    (l8 : K.lookup f8 = some ⟨oc8, od8, .func (PySem.W.fnOf "approve" "approve" (defArgs s_approve) (defBody s_approve) (defScope s_approve) .none kV8 dc8 pm8 an8 cd8 ct8), sl8⟩)
    (c8 : PySem.W.codeIn K cd8 "approve" = true)
    (k8 : PySem.W.keepIn K (.ref f8) = true)
    (l9 : K.lookup f9 = some ⟨oc9, od9, .func (PySem.W.fnOf "is_transfer" "is_transfer" (defArgs s_is_transfer) (defBody s_is_transfer) (defScope s_is_transfer) .none kV9 dc9 pm9 an9 cd9 ct9), sl9⟩)
    (c9 : PySem.W.codeIn K cd9 "is_transfer" = true)
    (k9 : PySem.W.keepIn K (.ref f9) = true)
    (l10 : K.lookup f10 = some ⟨oc10, od10, .func (PySem.W.fnOf "is_bundle" "is_bundle" (defArgs s_is_bundle) (defBody s_is_bundle) (defScope s_is_bundle) .none kV10 dc10 pm10 an10 cd10 ct10), sl10⟩)
    (c10 : PySem.W.codeIn K cd10 "is_bundle" = true)
    (k10 : PySem.W.keepIn K (.ref f10) = true)
    (l11 : K.lookup f11 = some ⟨oc11, od11, .func (PySem.W.fnOf "is_letter" "is_letter" (defArgs s_is_letter) (defBody s_is_letter) (defScope s_is_letter) .none kV11 dc11 pm11 an11 cd11 ct11), sl11⟩)
    (c11 : PySem.W.codeIn K cd11 "is_letter" = true)
    (k11 : PySem.W.keepIn K (.ref f11) = true)
    (l12 : K.lookup f12 = some ⟨oc12, od12, .func (PySem.W.fnOf "__init__" "Notes.__init__" (defArgs s_Notes_init) (defBody s_Notes_init) (defScope s_Notes_init) .none kV12 dc12 pm12 an12 cd12 ct12), sl12⟩)
    (c12 : PySem.W.codeIn K cd12 "Notes.__init__" = true)
    (k12 : PySem.W.keepIn K (.ref f12) = true)
    (l13 : K.lookup f13 = some ⟨oc13, od13, .func (PySem.W.fnOf "add" "Notes.add" (defArgs s_Notes_add) (defBody s_Notes_add) (defScope s_Notes_add) .none kV13 dc13 pm13 an13 cd13 ct13), sl13⟩)
    (c13 : PySem.W.codeIn K cd13 "Notes.add" = true)
    (k13 : PySem.W.keepIn K (.ref f13) = true)
    (l14 : K.lookup f14 = some ⟨oc14, od14, .func (PySem.W.fnOf "rows" "Notes.rows" (defArgs s_Notes_rows) (defBody s_Notes_rows) (defScope s_Notes_rows) .none kV14 dc14 pm14 an14 cd14 ct14), sl14⟩)
    (c14 : PySem.W.codeIn K cd14 "Notes.rows" = true)
    (k14 : PySem.W.keepIn K (.ref f14) = true)
    (l15 : K.lookup f15 = some ⟨oc15, od15, .func (PySem.W.fnOf "flush" "Notes.flush" (defArgs s_Notes_flush) (defBody s_Notes_flush) (defScope s_Notes_flush) .none kV15 dc15 pm15 an15 cd15 ct15), sl15⟩)
    (c15 : PySem.W.codeIn K cd15 "Notes.flush" = true)
    (k15 : PySem.W.keepIn K (.ref f15) = true)
    (l16 : K.lookup f16 = some ⟨oc16, od16, .func (PySem.W.fnOf "crash" "Notes.crash" (defArgs s_Notes_crash) (defBody s_Notes_crash) (defScope s_Notes_crash) .none kV16 dc16 pm16 an16 cd16 ct16), sl16⟩)
    (c16 : PySem.W.codeIn K cd16 "Notes.crash" = true)
    (k16 : PySem.W.keepIn K (.ref f16) = true)
    (l17 : K.lookup f17 = some ⟨oc17, od17, .func (PySem.W.fnOf "__init__" "Machine.__init__" (defArgs s_Machine_init) (defBody s_Machine_init) (defScope s_Machine_init) .none kV17 dc17 pm17 an17 cd17 ct17), sl17⟩)
    (c17 : PySem.W.codeIn K cd17 "Machine.__init__" = true)
    (k17 : PySem.W.keepIn K (.ref f17) = true)
    (l18 : K.lookup f18 = some ⟨oc18, od18, .func (PySem.W.fnOf "journal" "Machine.journal" (defArgs s_Machine_journal) (defBody s_Machine_journal) (defScope s_Machine_journal) .none kV18 dc18 pm18 an18 cd18 ct18), sl18⟩)
    (c18 : PySem.W.codeIn K cd18 "Machine.journal" = true)
    (k18 : PySem.W.keepIn K (.ref f18) = true)
    (l19 : K.lookup f19 = some ⟨oc19, od19, .func (PySem.W.fnOf "carry_out" "Machine.carry_out" (defArgs s_Machine_carry_out) (defBody s_Machine_carry_out) (defScope s_Machine_carry_out) .none kV19 dc19 pm19 an19 cd19 ct19), sl19⟩)
    (c19 : PySem.W.codeIn K cd19 "Machine.carry_out" = true)
    (k19 : PySem.W.keepIn K (.ref f19) = true)
    (l20 : K.lookup f20 = some ⟨oc20, od20, .func (PySem.W.fnOf "crash" "Machine.crash" (defArgs s_Machine_crash) (defBody s_Machine_crash) (defScope s_Machine_crash) .none kV20 dc20 pm20 an20 cd20 ct20), sl20⟩)
    (c20 : PySem.W.codeIn K cd20 "Machine.crash" = true)
    (k20 : PySem.W.keepIn K (.ref f20) = true)
    (l21 : K.lookup f21 = some ⟨oc21, od21, .func (PySem.W.fnOf "__init__" "Notary.__init__" (defArgs s_Notary_init) (defBody s_Notary_init) (defScope s_Notary_init) .none kV21 dc21 pm21 an21 cd21 ct21), sl21⟩)
    (c21 : PySem.W.codeIn K cd21 "Notary.__init__" = true)
    (k21 : PySem.W.keepIn K (.ref f21) = true)
    (l22 : K.lookup f22 = some ⟨oc22, od22, .func (PySem.W.fnOf "seal" "Notary.seal" (defArgs s_Notary_seal) (defBody s_Notary_seal) (defScope s_Notary_seal) .none kV22 dc22 pm22 an22 cd22 ct22), sl22⟩)
    (c22 : PySem.W.codeIn K cd22 "Notary.seal" = true)
    (k22 : PySem.W.keepIn K (.ref f22) = true)
    (l23 : K.lookup f23 = some ⟨oc23, od23, .func (PySem.W.fnOf "count" "Notary.count" (defArgs s_Notary_count) (defBody s_Notary_count) (defScope s_Notary_count) .none kV23 dc23 pm23 an23 cd23 ct23), sl23⟩)
    (c23 : PySem.W.codeIn K cd23 "Notary.count" = true)
    (k23 : PySem.W.keepIn K (.ref f23) = true)
    (l24 : K.lookup f24 = some ⟨oc24, od24, .func (PySem.W.fnOf "check_seals" "Notary.check_seals" (defArgs s_Notary_check_seals) (defBody s_Notary_check_seals) (defScope s_Notary_check_seals) .none kV24 dc24 pm24 an24 cd24 ct24), sl24⟩)
    (c24 : PySem.W.codeIn K cd24 "Notary.check_seals" = true)
    (k24 : PySem.W.keepIn K (.ref f24) = true)
    (l25 : K.lookup f25 = some ⟨oc25, od25, .func (PySem.W.fnOf "shown" "Notary.shown" (defArgs s_Notary_shown) (defBody s_Notary_shown) (defScope s_Notary_shown) .none kV25 dc25 pm25 an25 cd25 ct25), sl25⟩)
    (c25 : PySem.W.codeIn K cd25 "Notary.shown" = true)
    (k25 : PySem.W.keepIn K (.ref f25) = true)
    (l26 : K.lookup f26 = some ⟨oc26, od26, .func (PySem.W.fnOf "weight" "Notary.weight" (defArgs s_Notary_weight) (defBody s_Notary_weight) (defScope s_Notary_weight) .none kV26 dc26 pm26 an26 cd26 ct26), sl26⟩)
    (c26 : PySem.W.codeIn K cd26 "Notary.weight" = true)
    (k26 : PySem.W.keepIn K (.ref f26) = true)
    (l27 : K.lookup f27 = some ⟨oc27, od27, .func (PySem.W.fnOf "_law_pot" "_law_pot" (defArgs s_L_pot) (defBody s_L_pot) (defScope s_L_pot) .none kV27 dc27 pm27 an27 cd27 ct27), sl27⟩)
    (c27 : PySem.W.codeIn K cd27 "_law_pot" = true)
    (k27 : PySem.W.keepIn K (.ref f27) = true)
    (l28 : K.lookup f28 = some ⟨oc28, od28, .func (PySem.W.fnOf "_law_next" "_law_next" (defArgs s_L_next) (defBody s_L_next) (defScope s_L_next) .none kV28 dc28 pm28 an28 cd28 ct28), sl28⟩)
    (c28 : PySem.W.codeIn K cd28 "_law_next" = true)
    (k28 : PySem.W.keepIn K (.ref f28) = true)
    (l29 : K.lookup f29 = some ⟨oc29, od29, .func (PySem.W.fnOf "_law_is_int" "_law_is_int" (defArgs s_L_is_int) (defBody s_L_is_int) (defScope s_L_is_int) .none kV29 dc29 pm29 an29 cd29 ct29), sl29⟩)
    (c29 : PySem.W.codeIn K cd29 "_law_is_int" = true)
    (k29 : PySem.W.keepIn K (.ref f29) = true)
    (l30 : K.lookup f30 = some ⟨oc30, od30, .func (PySem.W.fnOf "_law_set" "_law_set" (defArgs s_L_set) (defBody s_L_set) (defScope s_L_set) .none kV30 dc30 pm30 an30 cd30 ct30), sl30⟩)
    (c30 : PySem.W.codeIn K cd30 "_law_set" = true)
    (k30 : PySem.W.keepIn K (.ref f30) = true)
    (l31 : K.lookup f31 = some ⟨oc31, od31, .func (PySem.W.fnOf "_law_steps" "_law_steps" (defArgs s_L_steps) (defBody s_L_steps) (defScope s_L_steps) .none kV31 dc31 pm31 an31 cd31 ct31), sl31⟩)
    (c31 : PySem.W.codeIn K cd31 "_law_steps" = true)
    (k31 : PySem.W.keepIn K (.ref f31) = true)
    (l32 : K.lookup f32 = some ⟨oc32, od32, .func (PySem.W.fnOf "_law_due" "_law_due" (defArgs s_L_due) (defBody s_L_due) (defScope s_L_due) .none kV32 dc32 pm32 an32 cd32 ct32), sl32⟩)
    (c32 : PySem.W.codeIn K cd32 "_law_due" = true)
    (k32 : PySem.W.keepIn K (.ref f32) = true)
    (l33 : K.lookup f33 = some ⟨oc33, od33, .func (PySem.W.fnOf "law" "law" (defArgs s_law) (defBody s_law) (defScope s_law) .none kV33 dc33 pm33 an33 cd33 ct33), sl33⟩)
    (c33 : PySem.W.codeIn K cd33 "law" = true)
    (k33 : PySem.W.keepIn K (.ref f33) = true)
    (xe0 : PySem.W.excIn K C0 [.type "ValueError", .type "Exception", .type "BaseException", .type "object"] "ValueError.__new__" = true)
    (ke0 : PySem.W.keepIn K (.ref C0) = true)
    (be0 : PySem.W.subIn K (.ref C0) (.type "BaseException") = some true)
    (te0 : PySem.W.typeIn K (.ref C0) = some (.type "type"))
    (ie0 : PySem.W.isClsIn K C0 = true)
    (se0 : PySem.W.subIn K (.ref C0) (.ref C0) = some true)
    (hd0 : PySem.W.hasDictIn K C0 = true)
    (xe1 : PySem.W.excIn K C1 [.type "ValueError", .type "Exception", .type "BaseException", .type "object"] "ValueError.__new__" = true)
    (ke1 : PySem.W.keepIn K (.ref C1) = true)
    (be1 : PySem.W.subIn K (.ref C1) (.type "BaseException") = some true)
    (te1 : PySem.W.typeIn K (.ref C1) = some (.type "type"))
    (ie1 : PySem.W.isClsIn K C1 = true)
    (se1 : PySem.W.subIn K (.ref C1) (.ref C1) = some true)
    (hg1 : PySem.W.findIn K (.ref C1) "__getattribute__" = some (some (.builtin "BaseException.__getattribute__")))
    (hk1 : PySem.W.findIn K (.ref C1) "__getattr__" = some none)
    (hd1 : PySem.W.hasDictIn K C1 = true)
    (ha1 : PySem.W.findIn K (.ref C1) "__class__" = some (some (.builtin "object.__class__")))
    (hm1 : PySem.W.mroIn K C1 (.type "object") = some true)
    (hn1 : PySem.W.specialIn K (.builtin "object.__class__") "__get__" = some (some (.builtin "getset_descriptor.__get__")))
    (ht1 : PySem.W.takesIn K (.builtin "object.__class__") = some true)
    (ue1 : PySem.W.subIn K (.ref C1) (.ref C0) = some true)
    (xe2 : PySem.W.excIn K C2 [.type "ValueError", .type "Exception", .type "BaseException", .type "object"] "ValueError.__new__" = true)
    (ke2 : PySem.W.keepIn K (.ref C2) = true)
    (be2 : PySem.W.subIn K (.ref C2) (.type "BaseException") = some true)
    (te2 : PySem.W.typeIn K (.ref C2) = some (.type "type"))
    (ie2 : PySem.W.isClsIn K C2 = true)
    (se2 : PySem.W.subIn K (.ref C2) (.ref C2) = some true)
    (ue2 : PySem.W.subIn K (.ref C2) (.ref C0) = some true)
    (xe3 : PySem.W.excIn K C3 [.type "ValueError", .type "Exception", .type "BaseException", .type "object"] "ValueError.__new__" = true)
    (ke3 : PySem.W.keepIn K (.ref C3) = true)
    (be3 : PySem.W.subIn K (.ref C3) (.type "BaseException") = some true)
    (te3 : PySem.W.typeIn K (.ref C3) = some (.type "type"))
    (ie3 : PySem.W.isClsIn K C3 = true)
    (se3 : PySem.W.subIn K (.ref C3) (.ref C3) = some true)
    (ue3 : PySem.W.subIn K (.ref C3) (.ref C0) = some true)
    (xe4 : PySem.W.excIn K C4 [.type "ValueError", .type "Exception", .type "BaseException", .type "object"] "ValueError.__new__" = true)
    (ke4 : PySem.W.keepIn K (.ref C4) = true)
    (be4 : PySem.W.subIn K (.ref C4) (.type "BaseException") = some true)
    (te4 : PySem.W.typeIn K (.ref C4) = some (.type "type"))
    (ie4 : PySem.W.isClsIn K C4 = true)
    (se4 : PySem.W.subIn K (.ref C4) (.ref C4) = some true)
    (hg4 : PySem.W.findIn K (.ref C4) "__getattribute__" = some (some (.builtin "BaseException.__getattribute__")))
    (hk4 : PySem.W.findIn K (.ref C4) "__getattr__" = some none)
    (hd4 : PySem.W.hasDictIn K C4 = true)
    (ha4 : PySem.W.findIn K (.ref C4) "__class__" = some (some (.builtin "object.__class__")))
    (hm4 : PySem.W.mroIn K C4 (.type "object") = some true)
    (hn4 : PySem.W.specialIn K (.builtin "object.__class__") "__get__" = some (some (.builtin "getset_descriptor.__get__")))
    (ht4 : PySem.W.takesIn K (.builtin "object.__class__") = some true)
    (ue4 : PySem.W.subIn K (.ref C4) (.ref C0) = some true)
    (pg5 : PySem.W.plainGet K C5 Str.empty = true)
    (hd5 : PySem.W.hasDictIn K C5 = true)
    (po5 : PySem.W.plainOver K C5 = true)
    (sa5 : PySem.W.findIn K (.ref C5) "__setattr__" = some (some (.builtin "object.__setattr__")))
    (mk5 : PySem.W.makesIn K C5 = true)
    (kc5 : PySem.W.keepIn K (.ref C5) = true)
    (i12 : PySem.W.isFn K (.ref f12) = true)
    (i13 : PySem.W.isFn K (.ref f13) = true)
    (i14 : PySem.W.isFn K (.ref f14) = true)
    (i15 : PySem.W.isFn K (.ref f15) = true)
    (i16 : PySem.W.isFn K (.ref f16) = true)
    (n5_0 : PySem.W.findIn K (.ref C5) "_rows" = some none)
    (n5_1 : PySem.W.findIn K (.ref C5) "_flushed" = some none)
    (pg6 : PySem.W.plainGet K C6 Str.empty = true)
    (hd6 : PySem.W.hasDictIn K C6 = true)
    (po6 : PySem.W.plainOver K C6 = true)
    (sa6 : PySem.W.findIn K (.ref C6) "__setattr__" = some (some (.builtin "object.__setattr__")))
    (mk6 : PySem.W.makesIn K C6 = true)
    (kc6 : PySem.W.keepIn K (.ref C6) = true)
    (i17 : PySem.W.isFn K (.ref f17) = true)
    (i18 : PySem.W.isFn K (.ref f18) = true)
    (i19 : PySem.W.isFn K (.ref f19) = true)
    (i20 : PySem.W.isFn K (.ref f20) = true)
    (n6_0 : PySem.W.findIn K (.ref C6) "_name" = some none)
    (n6_1 : PySem.W.findIn K (.ref C6) "_notary" = some none)
    (n6_2 : PySem.W.findIn K (.ref C6) "_notes" = some none)
    (pg7 : PySem.W.plainGet K C7 Str.empty = true)
    (hd7 : PySem.W.hasDictIn K C7 = true)
    (po7 : PySem.W.plainOver K C7 = true)
    (sa7 : PySem.W.findIn K (.ref C7) "__setattr__" = some (some (.builtin "object.__setattr__")))
    (mk7 : PySem.W.makesIn K C7 = true)
    (kc7 : PySem.W.keepIn K (.ref C7) = true)
    (i21 : PySem.W.isFn K (.ref f21) = true)
    (i22 : PySem.W.isFn K (.ref f22) = true)
    (i23 : PySem.W.isFn K (.ref f23) = true)
    (i24 : PySem.W.isFn K (.ref f24) = true)
    (i25 : PySem.W.isFn K (.ref f25) = true)
    (i26 : PySem.W.isFn K (.ref f26) = true)
    (n7_0 : PySem.W.findIn K (.ref C7) "_table" = some none)
    (n7_1 : PySem.W.findIn K (.ref C7) "_numbers" = some none)
    (q0 : PySem.W.nsIn K mainGlobals "ABOUT_ALL" = some (some (.ref g0)))
    (r0 : K.lookup g0 = some ⟨.type "tuple", odg0, .seq itg0 ng0, slg0⟩)
    (v0 : ValsB [.str "stop", .str "resume"] itg0.toList = true)
    (q1 : PySem.W.nsIn K mainGlobals "ABOUT_ONE" = some (some (.ref g1)))
    (r1 : K.lookup g1 = some ⟨.type "tuple", odg1, .seq itg1 ng1, slg1⟩)
    (v1 : ValsB [.str "deliver", .str "return", .str "cancel"] itg1.toList = true)
    (q2 : PySem.W.nsIn K mainGlobals "ACCOUNT_LENGTH" = some (some (.int 20 tk2)))
    (q3 : PySem.W.nsIn K mainGlobals "BARRED_CODE" = some (some (.int 37 tk3)))
    (q4 : PySem.W.nsIn K mainGlobals "FIRST_CODE" = some (some (.int 32 tk4)))
    (q5 : PySem.W.nsIn K mainGlobals "LAST_CODE" = some (some (.int 126 tk5)))
    (q6 : PySem.W.nsIn K mainGlobals "MOST_TRANSFERS" = some (some (.int 8 tk6)))
    (q7 : PySem.W.nsIn K mainGlobals "SIDES" = some (some (.ref g7)))
    (r7 : K.lookup g7 = some ⟨.type "tuple", odg7, .seq itg7 ng7, slg7⟩)
    (v7 : ValsB [.str "west", .str "east"] itg7.toList = true)
    (hq0 : PySem.W.kitOne K (.ref C4) (.ref C1) = some false)
    (hq1 : PySem.W.kitOne K (.ref C1) (.ref C4) = some false)
    (z0 : PySem.W.nsIn K mainGlobals "abs" = some none)
    (z1 : PySem.W.nsIn K mainGlobals "all" = some none)
    (z2 : PySem.W.nsIn K mainGlobals "bool" = some none)
    (z3 : PySem.W.nsIn K mainGlobals "int" = some none)
    (z4 : PySem.W.nsIn K mainGlobals "isinstance" = some none)
    (z5 : PySem.W.nsIn K mainGlobals "len" = some none)
    (z6 : PySem.W.nsIn K mainGlobals "list" = some none)
    (z7 : PySem.W.nsIn K mainGlobals "max" = some none)
    (z8 : PySem.W.nsIn K mainGlobals "min" = some none)
    (z9 : PySem.W.nsIn K mainGlobals "ord" = some none)
    (z10 : PySem.W.nsIn K mainGlobals "range" = some none)
    (z11 : PySem.W.nsIn K mainGlobals "str" = some none)
    (z12 : PySem.W.nsIn K mainGlobals "sum" = some none)
    (z13 : PySem.W.nsIn K mainGlobals "tuple" = some none) :
    ∃ fd : FuncData, (∀ (s : Shared) (v : Value), BindsTo s fd ⟨[v], []⟩ [("script", v)]) ∧ ∀ base : Heap, K.In base → base.Ns mainGlobals mg → FnOk l.prog w K mg base CX0 14 fa fd ["script"] (spLaw K) := by
  have e := hfa.symm.trans (PySem.W.mg_of X G a33)
  cases e
  exact ⟨PySem.W.fnOf "law" "law" (defArgs s_law) (defBody s_law) (defScope s_law) .none kV33 dc33 pm33 an33 cd33 ct33, fun s v => .of_eq rfl, fun base _ _ => ok_law (txt_mk X G a0 a1 a2 a3 a4 a5 a6 a7 a8 a9 a10 a11 a27 a28 a29 a30 a31 a32 a33 aC0 aC1 aC2 aC3 aC4 aC5 aC6 aC7 m12 m13 m14 m15 m16 m17 m18 m19 m20 m21 m22 m23 m24 m25 m26 l0 c0 k0 l1 c1 k1 l2 c2 k2 l3 c3 k3 l4 c4 k4 l5 c5 k5 l6 c6 k6 l7 c7 k7 l8 c8 k8 l9 c9 k9 l10 c10 k10 l11 c11 k11 l12 c12 k12 l13 c13 k13 l14 c14 k14 l15 c15 k15 l16 c16 k16 l17 c17 k17 l18 c18 k18 l19 c19 k19 l20 c20 k20 l21 c21 k21 l22 c22 k22 l23 c23 k23 l24 c24 k24 l25 c25 k25 l26 c26 k26 l27 c27 k27 l28 c28 k28 l29 c29 k29 l30 c30 k30 l31 c31 k31 l32 c32 k32 l33 c33 k33 xe0 ke0 be0 te0 ie0 se0 hd0 xe1 ke1 be1 te1 ie1 se1 hg1 hk1 hd1 ha1 hm1 hn1 ht1 ue1 xe2 ke2 be2 te2 ie2 se2 ue2 xe3 ke3 be3 te3 ie3 se3 ue3 xe4 ke4 be4 te4 ie4 se4 hg4 hk4 hd4 ha4 hm4 hn4 ht4 ue4 pg5 hd5 po5 sa5 mk5 kc5 i12 i13 i14 i15 i16 n5_0 n5_1 pg6 hd6 po6 sa6 mk6 kc6 i17 i18 i19 i20 n6_0 n6_1 n6_2 pg7 hd7 po7 sa7 mk7 kc7 i21 i22 i23 i24 i25 i26 n7_0 n7_1 q0 r0 v0 q1 r1 v1 q2 q3 q4 q5 q6 q7 r7 v7 hq0 hq1 z0 z1 z2 z3 z4 z5 z6 z7 z8 z9 z10 z11 z12 z13)⟩
end Pf
open PySem PySem.W PyProof.Rows
set_option maxRecDepth 100000 in
set_option maxHeartbeats 0 in
theorem PySem.Challenge.cw_vaultbridge_k21_one_set_for_each_epoch_holds : PySem.Challenge.rw_vaultbridge_k21_one_set_for_each_epoch.Holds := by
  w_on; o_law; k_head; (case hw => w_witness2)
  k_fill
  refine L2.walk_of (l := PySem.Challenge.rw_vaultbridge_k21_one_set_for_each_epoch) (n := 63) (k := 14) (x := "script") (CX := fun _ => L2.CX0) (sp := fun w => Pf.spLaw _) rfl (by decide) rfl ⟨rfl, by decide, by decide⟩ (fun w h Y => PySem.W.kIn_of Y) ?F (fun _ _ a ns hl _ hS => ⟨a, ns, rfl, hS, hl, fun _ => rfl⟩) (fun _ _ _ _ _ h => h)
  case F =>
    intro w mg fa h KX G hmg
    refine' Pf.all_mk KX G hmg ?a0 ?a1 ?a2 ?a3 ?a4 ?a5 ?a6 ?a7 ?a8 ?a9 ?a10 ?a11 ?a27 ?a28 ?a29 ?a30 ?a31 ?a32 ?a33 ?aC0 ?aC1 ?aC2 ?aC3 ?aC4 ?aC5 ?aC6 ?aC7 ?m12 ?m13 ?m14 ?m15 ?m16 ?m17 ?m18 ?m19 ?m20 ?m21 ?m22 ?m23 ?m24 ?m25 ?m26 ?l0 ?c0 ?k0 ?l1 ?c1 ?k1 ?l2 ?c2 ?k2 ?l3 ?c3 ?k3 ?l4 ?c4 ?k4 ?l5 ?c5 ?k5 ?l6 ?c6 ?k6 ?l7 ?c7 ?k7 ?l8 ?c8 ?k8 ?l9 ?c9 ?k9 ?l10 ?c10 ?k10 ?l11 ?c11 ?k11 ?l12 ?c12 ?k12 ?l13 ?c13 ?k13 ?l14 ?c14 ?k14 ?l15 ?c15 ?k15 ?l16 ?c16 ?k16 ?l17 ?c17 ?k17 ?l18 ?c18 ?k18 ?l19 ?c19 ?k19 ?l20 ?c20 ?k20 ?l21 ?c21 ?k21 ?l22 ?c22 ?k22 ?l23 ?c23 ?k23 ?l24 ?c24 ?k24 ?l25 ?c25 ?k25 ?l26 ?c26 ?k26 ?l27 ?c27 ?k27 ?l28 ?c28 ?k28 ?l29 ?c29 ?k29 ?l30 ?c30 ?k30 ?l31 ?c31 ?k31 ?l32 ?c32 ?k32 ?l33 ?c33 ?k33 ?xe0 ?ke0 ?be0 ?te0 ?ie0 ?se0 ?hd0 ?xe1 ?ke1 ?be1 ?te1 ?ie1 ?se1 ?hg1 ?hk1 ?hd1 ?ha1 ?hm1 ?hn1 ?ht1 ?ue1 ?xe2 ?ke2 ?be2 ?te2 ?ie2 ?se2 ?ue2 ?xe3 ?ke3 ?be3 ?te3 ?ie3 ?se3 ?ue3 ?xe4 ?ke4 ?be4 ?te4 ?ie4 ?se4 ?hg4 ?hk4 ?hd4 ?ha4 ?hm4 ?hn4 ?ht4 ?ue4 ?pg5 ?hd5 ?po5 ?sa5 ?mk5 ?kc5 ?i12 ?i13 ?i14 ?i15 ?i16 ?n5_0 ?n5_1 ?pg6 ?hd6 ?po6 ?sa6 ?mk6 ?kc6 ?i17 ?i18 ?i19 ?i20 ?n6_0 ?n6_1 ?n6_2 ?pg7 ?hd7 ?po7 ?sa7 ?mk7 ?kc7 ?i21 ?i22 ?i23 ?i24 ?i25 ?i26 ?n7_0 ?n7_1 ?q0 ?r0 ?v0 ?q1 ?r1 ?v1 ?q2 ?q3 ?q4 ?q5 ?q6 ?q7 ?r7 ?v7 ?hq0 ?hq1 ?z0 ?z1 ?z2 ?z3 ?z4 ?z5 ?z6 ?z7 ?z8 ?z9 ?z10 ?z11 ?z12 ?z13
    (case a0 => k_is)
    (case a1 => k_is)
    (case a2 => k_is)
    (case a3 => k_is)
    (case a4 => k_is)
    (case a5 => k_is)
    (case a6 => k_is)
    (case a7 => k_is)
    (case a8 => k_is)
    (case a9 => k_is)
    (case a10 => k_is)
    (case a11 => k_is)
    (case a27 => k_is)
    (case a28 => k_is)
    (case a29 => k_is)
    (case a30 => k_is)
    (case a31 => k_is)
    (case a32 => k_is)
    (case a33 => k_is)
    (case aC0 => k_is)
    (case aC1 => k_is)
    (case aC2 => k_is)
    (case aC3 => k_is)
    (case aC4 => k_is)
    (case aC5 => k_is)
    (case aC6 => k_is)
    (case aC7 => k_is)
    (case m12 => k_is)
    (case m13 => k_is)
    (case m14 => k_is)
    (case m15 => k_is)
    (case m16 => k_is)
    (case m17 => k_is)
    (case m18 => k_is)
    (case m19 => k_is)
    (case m20 => k_is)
    (case m21 => k_is)
    (case m22 => k_is)
    (case m23 => k_is)
    (case m24 => k_is)
    (case m25 => k_is)
    (case m26 => k_is)
    (case l0 => k_is)
    (case c0 => k_is)
    (case k0 => k_is)
    (case l1 => k_is)
    (case c1 => k_is)
    (case k1 => k_is)
    (case l2 => k_is)
    (case c2 => k_is)
    (case k2 => k_is)
    (case l3 => k_is)
    (case c3 => k_is)
    (case k3 => k_is)
    (case l4 => k_is)
    (case c4 => k_is)
    (case k4 => k_is)
    (case l5 => k_is)
    (case c5 => k_is)
    (case k5 => k_is)
    (case l6 => k_is)
    (case c6 => k_is)
    (case k6 => k_is)
    (case l7 => k_is)
    (case c7 => k_is)
    (case k7 => k_is)
    (case l8 => k_is)
    (case c8 => k_is)
    (case k8 => k_is)
    (case l9 => k_is)
    (case c9 => k_is)
    (case k9 => k_is)
    (case l10 => k_is)
    (case c10 => k_is)
    (case k10 => k_is)
    (case l11 => k_is)
    (case c11 => k_is)
    (case k11 => k_is)
    (case l12 => k_is)
    (case c12 => k_is)
    (case k12 => k_is)
    (case l13 => k_is)
    (case c13 => k_is)
    (case k13 => k_is)
    (case l14 => k_is)
    (case c14 => k_is)
    (case k14 => k_is)
    (case l15 => k_is)
    (case c15 => k_is)
    (case k15 => k_is)
    (case l16 => k_is)
    (case c16 => k_is)
    (case k16 => k_is)
    (case l17 => k_is)
    (case c17 => k_is)
    (case k17 => k_is)
    (case l18 => k_is)
    (case c18 => k_is)
    (case k18 => k_is)
    (case l19 => k_is)
    (case c19 => k_is)
    (case k19 => k_is)
    (case l20 => k_is)
    (case c20 => k_is)
    (case k20 => k_is)
    (case l21 => k_is)
    (case c21 => k_is)
    (case k21 => k_is)
    (case l22 => k_is)
    (case c22 => k_is)
    (case k22 => k_is)
    (case l23 => k_is)
    (case c23 => k_is)
    (case k23 => k_is)
    (case l24 => k_is)
    (case c24 => k_is)
    (case k24 => k_is)
    (case l25 => k_is)
    (case c25 => k_is)
    (case k25 => k_is)
    (case l26 => k_is)
    (case c26 => k_is)
    (case k26 => k_is)
    (case l27 => k_is)
    (case c27 => k_is)
    (case k27 => k_is)
    (case l28 => k_is)
    (case c28 => k_is)
    (case k28 => k_is)
    (case l29 => k_is)
    (case c29 => k_is)
    (case k29 => k_is)
    (case l30 => k_is)
    (case c30 => k_is)
    (case k30 => k_is)
    (case l31 => k_is)
    (case c31 => k_is)
    (case k31 => k_is)
    (case l32 => k_is)
    (case c32 => k_is)
    (case k32 => k_is)
    (case l33 => k_is)
    (case c33 => k_is)
    (case k33 => k_is)
    (case xe0 => k_exc)
    (case ke0 => k_is)
    (case be0 => k_is)
    (case te0 => k_is)
    (case ie0 => k_is)
    (case se0 => k_is)
    (case hd0 => k_is)
    (case xe1 => k_exc)
    (case ke1 => k_is)
    (case be1 => k_is)
    (case te1 => k_is)
    (case ie1 => k_is)
    (case se1 => k_is)
    (case hg1 => k_is)
    (case hk1 => k_is)
    (case hd1 => k_is)
    (case ha1 => k_is)
    (case hm1 => k_is)
    (case hn1 => k_is)
    (case ht1 => k_is)
    (case ue1 => k_is)
    (case xe2 => k_exc)
    (case ke2 => k_is)
    (case be2 => k_is)
    (case te2 => k_is)
    (case ie2 => k_is)
    (case se2 => k_is)
    (case ue2 => k_is)
    (case xe3 => k_exc)
    (case ke3 => k_is)
    (case be3 => k_is)
    (case te3 => k_is)
    (case ie3 => k_is)
    (case se3 => k_is)
    (case ue3 => k_is)
    (case xe4 => k_exc)
    (case ke4 => k_is)
    (case be4 => k_is)
    (case te4 => k_is)
    (case ie4 => k_is)
    (case se4 => k_is)
    (case hg4 => k_is)
    (case hk4 => k_is)
    (case hd4 => k_is)
    (case ha4 => k_is)
    (case hm4 => k_is)
    (case hn4 => k_is)
    (case ht4 => k_is)
    (case ue4 => k_is)
    (case pg5 => k_is)
    (case hd5 => k_is)
    (case po5 => k_is)
    (case sa5 => k_is)
    (case mk5 => k_is)
    (case kc5 => k_is)
    (case i12 => k_is)
    (case i13 => k_is)
    (case i14 => k_is)
    (case i15 => k_is)
    (case i16 => k_is)
    (case n5_0 => k_is)
    (case n5_1 => k_is)
    (case pg6 => k_is)
    (case hd6 => k_is)
    (case po6 => k_is)
    (case sa6 => k_is)
    (case mk6 => k_is)
    (case kc6 => k_is)
    (case i17 => k_is)
    (case i18 => k_is)
    (case i19 => k_is)
    (case i20 => k_is)
    (case n6_0 => k_is)
    (case n6_1 => k_is)
    (case n6_2 => k_is)
    (case pg7 => k_is)
    (case hd7 => k_is)
    (case po7 => k_is)
    (case sa7 => k_is)
    (case mk7 => k_is)
    (case kc7 => k_is)
    (case i21 => k_is)
    (case i22 => k_is)
    (case i23 => k_is)
    (case i24 => k_is)
    (case i25 => k_is)
    (case i26 => k_is)
    (case n7_0 => k_is)
    (case n7_1 => k_is)
    (case q0 => k_is)
    (case r0 => k_is)
    (case v0 => decide +kernel)
    (case q1 => k_is)
    (case r1 => k_is)
    (case v1 => decide +kernel)
    (case q2 => k_is)
    (case q3 => k_is)
    (case q4 => k_is)
    (case q5 => k_is)
    (case q6 => k_is)
    (case q7 => k_is)
    (case r7 => k_is)
    (case v7 => decide +kernel)
    (case hq0 => kit_is)
    (case hq1 => kit_is)
    (case z0 => k_is)
    (case z1 => k_is)
    (case z2 => k_is)
    (case z3 => k_is)
    (case z4 => k_is)
    (case z5 => k_is)
    (case z6 => k_is)
    (case z7 => k_is)
    (case z8 => k_is)
    (case z9 => k_is)
    (case z10 => k_is)
    (case z11 => k_is)
    (case z12 => k_is)
    (case z13 => k_is)
