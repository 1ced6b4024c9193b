
import PyProof.Rows.All
import HandS.WordsExc
import HandS.SetKeys
import HandS.Flow
import HandS.ExcIs
import HandS.Sort
import HandS.Wide
import HandS.NoneIn
import HandS.Walk
import PyProof.SumWalkG
import KE.KeyNested
import Wide.All
import OpenK.AllK
import Wide.FinOn
import HandS.ForMost
import HandS.TupAny
import HandS.Deep
import HandS.IsInst
import HandS.Style
import HandS.Steps
import HandS.Evl
import HandS.Defaults
import HandS.MakeKwOnly
import PySem.Challenge.RW_vaultbridge_k46_escrows
set_option Elab.async false
set_option linter.all false
set_option maxRecDepth 100000
set_option maxHeartbeats 1000000
namespace Pf
open PySem PySem.Spec PyProof.Rows L2


/-! readings, one step a lemma -/
section
open PySem PySem.Spec PyProof.Rows L2
variable {K : PySem.W.Frag} {σ : L2.St} {H H1 H' : Hp} {Q : VK} {D : Ends} {t u : TS} {ta tb tc te : TE} {tt tu : TT} {tr : TA} {g : TG} {v x y : V} {i j : Int} {a b p l : Addr} {xs ys : List V} {o : HO}

/-! heaps -/
theorem upd_new {c : Addr} {w : HO} (hb : H b = none) (h : H c = some o) : upd H b w c = some o := by
  rw [upd_ne (ne_of_none h hb)]; exact h
theorem upd_other {c : Addr} {w : HO} (hb : c ≠ b) (h : H c = some o) : upd H b w c = some o := by
  rw [upd_ne hb]; exact h
theorem upd_free {c : Addr} {w : HO} (hb : c ≠ b) (h : H c = none) : upd H b w c = none := by
  rw [upd_ne hb]; exact h
theorem upd_none_ne {c : Addr} {w : HO} (h : upd H b w c = none) : c ≠ b := fun e => by rw [e, upd_same] at h; cases h
theorem upd_none_back {c : Addr} {w : HO} (h : upd H b w c = none) : H c = none := by rw [upd_ne (upd_none_ne h)] at h; exact h
/-- everything but p stays -/
def Kp (p : Addr) (H H' : Hp) : Prop := ∀ b o, H b = some o → b ≠ p → H' b = some o
theorem Kp.get {c : Addr} (k : Kp p H H') (h : H c = some o) (n : c ≠ p) : H' c = some o := k c o h n
theorem Kp.refl : Kp p H H := fun _ _ h _ => h
theorem Kp.trans (k : Kp p H H1) (k2 : Kp p H1 H') : Kp p H H' := fun b o h n => k2 b o (k b o h n) n
theorem Kp.upd {w : HO} (k : Kp p H H') : Kp p H (upd H' p w) := fun b o h n => upd_other n (k b o h n)
theorem Kp.new {w : HO} (k : Kp p H H') (h : H a = none) : Kp p H (L2.upd H' a w) := fun b o hb n => upd_other (ne_of_none hb h) (k b o hb n)
theorem Kp.fresh (k : Kp p H H') (hp : H p = some o) (h : H' a = none) (n : a ≠ p) : H a = none := by
  cases q : H a with
  | none => rfl
  | some w => rw [k a w q n] at h; cases h
theorem Same.get {c : Addr} (k : Same H H') (h : H c = some o) : H' c = some o := k c o h
theorem Same.new {w : HO} (k : Same H H') (h : H a = none) : Same H (L2.upd H' a w) := fun b o hb => upd_other (ne_of_none hb h) (k b o hb)
theorem Same.up {w : HO} (k : Same H H') (h : H' a = none) : Same H (L2.upd H' a w) := Same.new k (Same.free k h)
theorem Same.kp (k : Same H H') : Kp p H H' := fun b o h _ => k b o h
theorem sqL (h : H a = some (.lst xs)) : SqL K H a xs := .inl (.inl h)
theorem sqT (h : H a = some (.tup xs)) : SqT K H a xs := .inl (.inl h)

/-- a tuple of the written part -/
def SqTK (K : PySem.W.Frag) (a : Addr) (xs : List V) : Prop := ∃ (o : Obj) (its : Array Value) (n : Nat), K.lookup a = some o ∧ o.cls = .type "tuple" ∧ o.data = .seq its n ∧ its.size ≤ sizeLine ∧ Vals xs its.toList
theorem SqTK.sq {xs : List V} (h : SqTK K a xs) : SqT K H a xs := .inr h
def relB : V → Value → Bool
  | .str x, .str z _ => decide (x = z)
  | .int i, .int k _ => decide (i = k)
  | _, _ => false
theorem relB_rel : ∀ {x : V} {u : Value}, relB x u = true → RelV x u := by
  intro x u h
  cases x <;> cases u <;> first | (cases h; done) | skip
  · have e := of_decide_eq_true h
    subst e
    exact ⟨_, rfl⟩
  · have e := of_decide_eq_true h
    subst e
    exact ⟨_, rfl⟩
def ValsB : List V → List Value → Bool
  | [], [] => true
  | x :: xs, u :: us => relB x u && ValsB xs us
  | _, _ => false
theorem ValsB.vals : ∀ {xs : List V} {us : List Value}, ValsB xs us = true → Vals xs us
  | [], [], _ => .nil
  | [], _ :: _, h => by cases h
  | _ :: _, [], h => by cases h
  | x :: xs, u :: us, h => by
    have h : (relB x u && ValsB xs us) = true := h
    rw [Bool.and_eq_true] at h
    exact .cons (relB_rel h.1) (ValsB.vals h.2)
theorem ValsB.size {xs : List V} {its : Array Value} (h : ValsB xs its.toList = true) (hl : xs.length ≤ sizeLine) : its.size ≤ sizeLine := by
  have e := (ValsB.vals h).length
  have : its.toList.length = its.size := rfl
  omega
theorem hr65 {A : Around} {k : Nat} (hr : Room k A) : A.units + 65 < cLine := by have := hr.un; omega
theorem Same.sqT {xs : List V} (e : Same H H') (h : SqT K H a xs) : SqT K H' a xs := by
  rcases h with (h | ⟨o, h⟩) | h
  · exact .inl (.inl (e _ _ h))
  · exact .inl (.inr ⟨o, e _ _ h⟩)
  · exact .inr h
/-! statements -/
theorem q_seq (h : t { D with nx := u D } σ H) : tSeq t u D σ H := h
theorem q_next (h : D.nx σ H) : tNext D σ H := h
theorem q_brk (h : D.bk σ H) : tBreak D σ H := h
theorem q_ct (h : D.ct σ H) : tCont D σ H := h
theorem q_nx {f : L2.St → Hp → Prop} {r : VK} {b c : L2.St → Hp → Prop} (h : f σ H) : Ends.nx ⟨f, r, b, c⟩ σ H := h
theorem q_bk {f : L2.St → Hp → Prop} {r : VK} {b c : L2.St → Hp → Prop} (h : b σ H) : Ends.bk ⟨f, r, b, c⟩ σ H := h
theorem q_cn {f : L2.St → Hp → Prop} {r : VK} {b c : L2.St → Hp → Prop} (h : c σ H) : Ends.ct ⟨f, r, b, c⟩ σ H := h
theorem q_rt {f : L2.St → Hp → Prop} {r : VK} {b c : L2.St → Hp → Prop} (h : r v H) : Ends.rt ⟨f, r, b, c⟩ v H := h
theorem q_drop (h : te σ H fun _ H1 => D.nx σ H1) : tDrop te D σ H := h
theorem q_ret (h : te σ H D.rt) : tRet te D σ H := h
theorem q_retN (h : D.rt .non H) : tRetN D σ H := h
def ifK (D : Ends) (t u : TS) (σ : L2.St) : Bool → Hp → Prop := fun b H => if b = true then t D σ H else u D σ H
theorem q_ifS (h : tt σ H (ifK D t u σ)) : tIfS tt t u D σ H := h
theorem q_ifT (h : t D σ H) : ifK D t u σ true H := iteT h
theorem q_ifF (h : u D σ H) : ifK D t u σ false H := iteF h
theorem q_if2 {c : Bool} (h : c = true → t D σ H) (h2 : c = false → u D σ H) : ifK D t u σ c H := by
  cases c with
  | true => exact iteT (h rfl)
  | false => exact iteF (h2 rfl)
theorem q_asg (h : te σ H fun x H1 => g x σ H1 D.nx) : tAsg te g D σ H := h
theorem q_gName {n : Nat} {R : L2.St → Hp → Prop} (h : R (σ.set n (some v)) H) : gName n v σ H R := h
theorem q_gTup {n : Nat} {tg : TGs} {R : L2.St → Hp → Prop} (h : SqT K H a xs) (hn : xs.length = n) (k : tg xs σ H R) : gTup K n tg (.ref a) σ H R := ⟨a, xs, rfl, h, hn, k⟩
theorem q_gCons {tg : TGs} {R : L2.St → Hp → Prop} (k : g v σ H fun σ' H' => tg xs σ' H' R) : gCons g tg (v :: xs) σ H R := ⟨v, xs, rfl, k⟩
theorem q_gNil {R : L2.St → Hp → Prop} (k : R σ H) : gNil [] σ H R := ⟨rfl, k⟩
theorem q_gSub {to ti : TE} {ts : TSet} {R : L2.St → Hp → Prop} (k : to σ H fun o H1 => ti σ H1 fun i H2 => ts o i v H2 fun H3 => R σ H3) : gSub to ti ts v σ H R := k
theorem q_setL {R : Hp → Prop} {n : Nat} (h : H p = some (.lst xs)) (hi : ixN xs.length i = some n) (k : R (upd H p (.lst (xs.set n v)))) : rSetL (.ref p) (.int i) v H R := ⟨p, xs, i, n, rfl, rfl, h, hi, k⟩
theorem q_aug {n : Nat} {ti : TIp} (hx : σ[n]? = some (some x)) (h : te σ H fun y H1 => ti x y H1 fun z H2 => D.nx (σ.set n (some z)) H2) : tAug n te ti D σ H := ⟨x, hx, h⟩
theorem q_ipI {f : Int → Int → Int} (k : Q (.int (f i j)) H) : ipI f (.int i) (.int j) H Q := ⟨i, j, rfl, rfl, k⟩
theorem q_cut {Mid : L2.St → Hp → Prop} (h : t { D with nx := Mid } σ H) (k : ∀ σ' H', Mid σ' H' → u D σ' H') : Evl.tCut t u D σ H := ⟨Mid, h, k⟩
theorem dec_t {c : Prop} [Decidable c] (h : decide c = true) : c := of_decide_eq_true h
theorem dec_f {c : Prop} [Decidable c] (h : decide c = false) : ¬ c := of_decide_eq_false h
theorem ndec_t {c : Prop} [Decidable c] (h : (!decide c) = true) : ¬ c := fun q => by rw [decide_eq_true q] at h; cases h
theorem ndec_f {c : Prop} [Decidable c] (h : (!decide c) = false) : c := by
  by_cases q : c
  · exact q
  · rw [decide_eq_false q] at h; cases h
def forK (g : TG) (tb : TS) (D : Ends) (σ : L2.St) : It → Hp → Prop := fun J H1 => ∃ W : Nat → Nat → L2.St → Hp → Prop, (∃ m, W 0 m σ H1) ∧ ∀ i m σ H, W i m σ H →
  (J.stop i H ∧ D.nx σ H) ∨ (J.go i H ∧ ∃ N : L2.St → Hp → Prop, (∀ σ' H', N σ' H' → ∃ m', m' < m ∧ W (i + 1) m' σ' H') ∧ ∀ x H', J.yld i H x H' → g x σ H' fun σ2 H2 => tb { D with nx := N, ct := N, bk := D.nx } σ2 H2)
theorem q_for {wi : TI} (h : wi σ H (forK g t D σ)) : tFor wi g t D σ H := h
theorem q_iList {R : It → Hp → Prop} (h : te σ H fun x H1 => ∃ a, x = .ref a ∧ (∃ xs, SqL K H1 a xs) ∧ R (Itl K a) H1) : iList K te σ H R := h
theorem q_iTup {R : It → Hp → Prop} (h : te σ H fun x H1 => ∃ a, x = .ref a ∧ (∃ xs, SqT K H1 a xs) ∧ R (Itt K a) H1) : iTup K te σ H R := h
theorem q_forL {S : List V} (h : SqL K H a S) (Pv : Nat → L2.St → Hp → Prop) (h0 : Pv 0 σ H) (hl : ∀ i σ H, i ≤ S.length → Pv i σ H → SqL K H a S)
    (hs : ∀ i x σ H, S[i]? = some x → Pv i σ H → g x σ H fun σ2 H2 => t { D with nx := Pv (i + 1), ct := Pv (i + 1), bk := D.nx } σ2 H2) (hd : ∀ σ H, Pv S.length σ H → D.nx σ H) :
    ∃ b, V.ref a = .ref b ∧ (∃ xs, SqL K H b xs) ∧ forK g t D σ (Itl K b) H := ⟨a, rfl, ⟨S, h⟩, for_list Pv h0 hl hs hd⟩
theorem q_forT {S : List V} (h : SqT K H a S) (Pv : Nat → L2.St → Hp → Prop) (h0 : Pv 0 σ H) (hl : ∀ i σ H, i ≤ S.length → Pv i σ H → SqT K H a S)
    (hs : ∀ i x σ H, S[i]? = some x → Pv i σ H → g x σ H fun σ2 H2 => t { D with nx := Pv (i + 1), ct := Pv (i + 1), bk := D.nx } σ2 H2) (hd : ∀ σ H, Pv S.length σ H → D.nx σ H) :
    ∃ b, V.ref a = .ref b ∧ (∃ xs, SqT K H b xs) ∧ forK g t D σ (Itt K b) H := ⟨a, rfl, ⟨S, h⟩, for_tup Pv h0 hl hs hd⟩
def rg1K (R : It → Hp → Prop) : List V → Hp → Prop := fun vs H1 => ∃ j : Int, vs = [.int j] ∧ -(2 ^ 62) ≤ j ∧ j < 2 ^ 62 ∧ R (Itr 0 j.toNat) H1
theorem q_iRng1 {R : It → Hp → Prop} (h : tr σ H (rg1K R)) : iRng1 tr σ H R := h
theorem q_forR (hj : 0 ≤ j ∧ j < 1000000000000000) (Pv : Nat → L2.St → Hp → Prop) (h0 : Pv 0 σ H)
    (hs : ∀ (i : Nat) σ H, (i : Int) < j → Pv i σ H → g (.int i) σ H fun σ2 H2 => t { D with nx := Pv (i + 1), ct := Pv (i + 1), bk := D.nx } σ2 H2) (hd : ∀ σ H, Pv j.toNat σ H → D.nx σ H) :
    rg1K (forK g t D σ) [.int j] H := ⟨j, rfl, by omega, by omega, for_range Pv h0 (fun i σ H hi hp => by have e : (0 : Int) + (i : Int) = (i : Int) := Int.zero_add _; rw [e]; exact hs i σ H (by omega) hp) hd⟩

/-! tests and values -/
def bK (Q : Bool → Hp → Prop) : VK := fun x H => ∃ k, x = .bl k ∧ Q k H
theorem q_test {R : Bool → Hp → Prop} (h : te σ H (bK R)) : tTest te σ H R := h
theorem q_tB {R : Bool → Hp → Prop} (h : te σ H (bK R)) : tB te σ H R := h
theorem q_bK {R : Bool → Hp → Prop} {c : Bool} (k : R c H) : bK R (.bl c) H := ⟨c, rfl, k⟩
def andK (u : TT) (σ : L2.St) (R : Bool → Hp → Prop) : Bool → Hp → Prop := fun c H1 => if c = true then u σ H1 R else R false H1
def orK (u : TT) (σ : L2.St) (R : Bool → Hp → Prop) : Bool → Hp → Prop := fun c H1 => if c = true then R true H1 else u σ H1 R
theorem q_and {R : Bool → Hp → Prop} (h : tt σ H (andK tu σ R)) : tAnd tt tu σ H R := h
theorem q_or {R : Bool → Hp → Prop} (h : tt σ H (orK tu σ R)) : tOr tt tu σ H R := h
theorem q_andT {R : Bool → Hp → Prop} (h : tu σ H R) : andK tu σ R true H := iteT h
theorem q_andF {R : Bool → Hp → Prop} (h : R false H) : andK tu σ R false H := iteF h
theorem q_orT {R : Bool → Hp → Prop} (h : R true H) : orK tu σ R true H := iteT h
theorem q_orF {R : Bool → Hp → Prop} (h : tu σ H R) : orK tu σ R false H := iteF h
theorem q_and2 {R : Bool → Hp → Prop} {c : Bool} (h : c = true → tu σ H R) (h2 : c = false → R false H) : andK tu σ R c H := by
  cases c with
  | true => exact iteT (h rfl)
  | false => exact iteF (h2 rfl)
theorem q_or2 {R : Bool → Hp → Prop} {c : Bool} (h : c = true → R true H) (h2 : c = false → tu σ H R) : orK tu σ R c H := by
  cases c with
  | true => exact iteT (h rfl)
  | false => exact iteF (h2 rfl)
def notK (R : Bool → Hp → Prop) : Bool → Hp → Prop := fun c H1 => R (!c) H1
theorem q_not {R : Bool → Hp → Prop} (h : tt σ H (notK R)) : tNot tt σ H R := h
theorem q_notKT {R : Bool → Hp → Prop} (h : R false H) : notK R true H := h
theorem q_notKF {R : Bool → Hp → Prop} (h : R true H) : notK R false H := h
theorem q_notK {R : Bool → Hp → Prop} {c : Bool} (h : R (!c) H) : notK R c H := h
def andVK (tb : TE) (σ : L2.St) (Q : VK) : VK := fun x H1 => ∃ c, x = .bl c ∧ if c = true then tb σ H1 Q else Q (.bl false) H1
def orVK (tb : TE) (σ : L2.St) (Q : VK) : VK := fun x H1 => ∃ c, x = .bl c ∧ if c = true then Q (.bl true) H1 else tb σ H1 Q
theorem q_andV (h : ta σ H (andVK tb σ Q)) : tAndV ta tb σ H Q := h
theorem q_orV (h : ta σ H (orVK tb σ Q)) : tOrV ta tb σ H Q := h
theorem q_andVT (h : tb σ H Q) : andVK tb σ Q (.bl true) H := ⟨true, rfl, iteT h⟩
theorem q_andVF (h : Q (.bl false) H) : andVK tb σ Q (.bl false) H := ⟨false, rfl, iteF h⟩
theorem q_orVT (h : Q (.bl true) H) : orVK tb σ Q (.bl true) H := ⟨true, rfl, iteT h⟩
theorem q_orVF (h : tb σ H Q) : orVK tb σ Q (.bl false) H := ⟨false, rfl, iteF h⟩
theorem q_andV2 {c : Bool} (h : c = true → tb σ H Q) (h2 : c = false → Q (.bl false) H) : andVK tb σ Q (.bl c) H := by
  cases c with
  | true => exact q_andVT (h rfl)
  | false => exact q_andVF (h2 rfl)
theorem q_orV2 {c : Bool} (h : c = true → Q (.bl true) H) (h2 : c = false → tb σ H Q) : orVK tb σ Q (.bl c) H := by
  cases c with
  | true => exact q_orVT (h rfl)
  | false => exact q_orVF (h2 rfl)
def notVK (Q : VK) : VK := fun x H1 => ∃ c, x = .bl c ∧ Q (.bl (!c)) H1
theorem q_notV (h : ta σ H (notVK Q)) : tNotV ta σ H Q := h
theorem q_notVK {c : Bool} (k : Q (.bl (!c)) H) : notVK Q (.bl c) H := ⟨c, rfl, k⟩
def ifEK (ta tb : TE) (σ : L2.St) (Q : VK) : Bool → Hp → Prop := fun c H1 => if c = true then ta σ H1 Q else tb σ H1 Q
theorem q_ifE (h : tt σ H (ifEK ta tb σ Q)) : tIf tt ta tb σ H Q := h
theorem q_ifET (h : ta σ H Q) : ifEK ta tb σ Q true H := iteT h
theorem q_ifEF (h : tb σ H Q) : ifEK ta tb σ Q false H := iteF h
theorem q_ifE2 {c : Bool} (h : c = true → ta σ H Q) (h2 : c = false → tb σ H Q) : ifEK ta tb σ Q c H := by
  cases c with
  | true => exact iteT (h rfl)
  | false => exact iteF (h2 rfl)
theorem q_yes {R : Bool → Hp → Prop} (k : R true H) : tYes σ H R := k
theorem q_var {n : Nat} (h : σ[n]? = some (some v)) (k : Q v H) : tVar n σ H Q := ⟨v, h, k⟩
theorem q_c (k : Q v H) : tC v σ H Q := k
theorem q_op {r : R2} (h : ta σ H fun x H1 => tb σ H1 fun y H2 => r x y H2 Q) : tOp r ta tb σ H Q := h
theorem q_un {r : V → Hp → VK → Prop} (h : ta σ H fun x H1 => r x H1 Q) : tUn r ta σ H Q := h
theorem q_rU {f : Int → V} (k : Q (f i) H) : rU f (.int i) H Q := ⟨i, rfl, k⟩
theorem q_I0 {f : Int → Int → V} (k : Q (f i j) H) : rI0 f (.int i) (.int j) H Q := ⟨i, j, rfl, rfl, k⟩
theorem q_I {C : Int → Int → Prop} {f : Int → Int → V} (hc : C i j) (k : Q (f i j) H) : rI C f (.int i) (.int j) H Q := ⟨i, j, rfl, rfl, hc, k⟩
theorem q_eq (hs : scal x y = true) (k : Q (.bl (decide (x = y))) H) : rEq x y H Q := ⟨hs, k⟩
theorem q_ne (hs : scal x y = true) (k : Q (.bl (!decide (x = y))) H) : rNe x y H Q := ⟨hs, k⟩
theorem dec_int (i j : Int) : decide (V.int i = V.int j) = decide (i = j) := by
  by_cases h : i = j
  · subst h; simp
  · rw [decide_eq_false h, decide_eq_false (fun e => h (V.int.inj e))]
theorem q_eqI (k : Q (.bl (decide (i = j))) H) : rEq (.int i) (.int j) H Q := ⟨rfl, by rw [dec_int]; exact k⟩
theorem q_neI (k : Q (.bl (!decide (i = j))) H) : rNe (.int i) (.int j) H Q := ⟨rfl, by rw [dec_int]; exact k⟩
theorem dec_str (i j : Str) : decide (V.str i = V.str j) = decide (i = j) := by
  by_cases h : i = j
  · subst h; simp
  · rw [decide_eq_false h, decide_eq_false (fun e => h (V.str.inj e))]
theorem q_eqS {s z : Str} (k : Q (.bl (decide (s = z))) H) : rEq (.str s) (.str z) H Q := ⟨rfl, by rw [dec_str]; exact k⟩
theorem q_neS {s z : Str} (k : Q (.bl (!decide (s = z))) H) : rNe (.str s) (.str z) H Q := ⟨rfl, by rw [dec_str]; exact k⟩
theorem q_ixL (h : SqL K H p xs) (ha : atI xs i = some v) (k : Q v H) : rIxL K (.ref p) (.int i) H Q := ⟨p, xs, i, v, rfl, rfl, h, ha, k⟩
theorem q_ixT (h : SqT K H p xs) (ha : atI xs i = some v) (k : Q v H) : rIxT K (.ref p) (.int i) H Q := ⟨p, xs, i, v, rfl, rfl, h, ha, k⟩
theorem q_ixLt (h : H p = some (.lst xs)) (ha : atI xs i = some v) (k : Q v H) : rIxL K (.ref p) (.int i) H Q := q_ixL (sqL h) ha k
theorem q_ixTt (h : H p = some (.tup xs)) (ha : atI xs i = some v) (k : Q v H) : rIxT K (.ref p) (.int i) H Q := q_ixT (sqT h) ha k
theorem q_ixSL (h : SqL K H p xs) (ha : atI xs i = some v) (k : Q v H) : rIx K (.ref p) (.int i) H Q := .inl ⟨p, xs, i, v, rfl, rfl, h, ha, k⟩
theorem q_ixST (h : SqT K H p xs) (ha : atI xs i = some v) (k : Q v H) : rIx K (.ref p) (.int i) H Q := .inr (.inl ⟨p, xs, i, v, rfl, rfl, h, ha, k⟩)
theorem at_int {α : Type} {xs : List α} {i : Int} {x : α} {n : Nat} (e : i = (n : Int)) (h : xs[n]? = some x) : atI xs i = some x := by rw [e]; exact atI_nat h
theorem q_tNil {R : List V → Hp → Prop} (k : R [] H) : tNil σ H R := k
theorem q_tCons {R : List V → Hp → Prop} (h : ta σ H fun x H1 => tr σ H1 fun xs H2 => R (x :: xs) H2) : tCons ta tr σ H R := h
def tupK (Q : VK) : List V → Hp → Prop := fun xs H1 => xs.length ≤ sizeLine ∧ ∀ p, H1 p = none → Q (.ref p) (upd H1 p (.tup xs))
def lstK (Q : VK) : List V → Hp → Prop := fun xs H1 => xs.length ≤ sizeLine ∧ ∀ p, H1 p = none → Q (.ref p) (upd H1 p (.lst xs))
theorem q_tup (h : tr σ H (tupK Q)) : tTup tr σ H Q := h
theorem q_lst (h : tr σ H (lstK Q)) : tLst tr σ H Q := h
theorem q_tupK (hl : xs.length ≤ sizeLine) (k : ∀ p, H p = none → Q (.ref p) (upd H p (.tup xs))) : tupK Q xs H := ⟨hl, k⟩
theorem q_lstK (hl : xs.length ≤ sizeLine) (k : ∀ p, H p = none → Q (.ref p) (upd H p (.lst xs))) : lstK Q xs H := ⟨hl, k⟩
theorem q_cb {r : List V → Hp → VK → Prop} (h : tr σ H fun vs H1 => r vs H1 Q) : tCB r tr σ H Q := h
def callK (sp : Sp) (dvs : List V) (E : XK) (Q : VK) : List V → Hp → Prop := fun vs H1 => sp (vs ++ dvs) H1 Q E
theorem q_call {sp : Sp} {dvs : List V} {E : XK} (h : tr σ H (callK sp dvs E Q)) : tCall sp dvs E tr σ H Q := h
theorem q_callK {sp : Sp} {E : XK} (h : sp xs H Q E) : callK sp [] E Q xs H := by unfold callK; rw [List.append_nil]; exact h

/-! built-ins, by names of our own -/
def rLenQ (K : PySem.W.Frag) : List V → Hp → VK → Prop := fun xs H Q => ∃ p ys, xs = [.ref p] ∧ (SqL K H p ys ∨ SqT K H p ys) ∧ Q (.int ys.length) H
theorem cq_len {X : Cx} : CallR X (.builtin "len") (rLenQ X.K) := call_len_seq
theorem q_lenL (h : SqL K H p xs) (k : Q (.int xs.length) H) : rLenQ K [.ref p] H Q := ⟨p, xs, rfl, .inl h, k⟩
theorem q_lenT (h : SqT K H p xs) (k : Q (.int xs.length) H) : rLenQ K [.ref p] H Q := ⟨p, xs, rfl, .inr h, k⟩
theorem q_lenLt (h : H p = some (.lst xs)) (k : Q (.int xs.length) H) : rLenQ K [.ref p] H Q := q_lenL (sqL h) k
theorem q_lenTt (h : H p = some (.tup xs)) (k : Q (.int xs.length) H) : rLenQ K [.ref p] H Q := q_lenT (sqT h) k
def rLenD : List V → Hp → VK → Prop := fun xs H Q => ∃ a kvs, xs = [V.ref a] ∧ H a = some (.dK kvs) ∧ Q (.int kvs.length) H
def rLenS : List V → Hp → VK → Prop := fun xs H Q => ∃ x : Str, xs = [.str x] ∧ x.length ≤ sizeLine ∧ Q (.int x.length) H
theorem cq_lenS {X : Cx} : CallR X (.builtin "len") rLenS := by
  intro pins s σ H xs us Q I r h
  obtain ⟨x, e, hl, q⟩ := h
  exact call_len pins s σ H xs us Q I r ⟨.str x, x.length, e, ⟨hl, rfl⟩, q⟩
theorem q_lenS {x : Str} (hl : x.length ≤ sizeLine) (k : Q (.int x.length) H) : rLenS [.str x] H Q := ⟨x, rfl, hl, k⟩
def rAbs : List V → Hp → VK → Prop := fun xs H Q => ∃ i, xs = [.int i] ∧ Q (.int (if i < 0 then -i else i)) H
theorem cq_abs {X : Cx} : CallR X (.builtin "abs") rAbs := call_abs
theorem q_abs (k : Q (.int (if i < 0 then -i else i)) H) : rAbs [.int i] H Q := ⟨i, rfl, k⟩
def rInt1 : List V → Hp → VK → Prop := fun xs H Q => (∃ i, xs = [.int i] ∧ Q (.int i) H) ∨ ∃ k, xs = [.bl k] ∧ Q (.int (if k then 1 else 0)) H
theorem cq_int1 {X : Cx} : CallR X (.type "int") rInt1 := call_int1
theorem q_int1 (k : Q (.int i) H) : rInt1 [.int i] H Q := .inl ⟨i, rfl, k⟩
def rStrInt : List V → Hp → VK → Prop := fun xs H Q => ∃ i, xs = [.int i] ∧ i.natAbs.log2 < 1920 ∧ Q (.str (toString i)) H
theorem cq_strInt {X : Cx} : CallR X (.type "str") rStrInt := call_str_int
theorem q_strInt (hb : i.natAbs.log2 < 1920) (k : Q (.str (toString i)) H) : rStrInt [.int i] H Q := ⟨i, rfl, hb, k⟩
def rListOf (K : PySem.W.Frag) : List V → Hp → VK → Prop := fun xs H Q => ∃ p ys, xs = [.ref p] ∧ (SqL K H p ys ∨ SqT K H p ys) ∧ ∀ l, H l = none → Q (.ref l) (upd H l (.lst ys))
theorem cq_listOf {X : Cx} : CallR X (.type "list") (rListOf X.K) := call_list_of
theorem q_listL (h : SqL K H p xs) (k : ∀ l, H l = none → Q (.ref l) (upd H l (.lst xs))) : rListOf K [.ref p] H Q := ⟨p, xs, rfl, .inl h, k⟩
theorem q_listT (h : SqT K H p xs) (k : ∀ l, H l = none → Q (.ref l) (upd H l (.lst xs))) : rListOf K [.ref p] H Q := ⟨p, xs, rfl, .inr h, k⟩
def rTupOf (K : PySem.W.Frag) : List V → Hp → VK → Prop := fun xs H Q => ∃ p ys, xs = [.ref p] ∧ ((SqL K H p ys ∧ ∀ l, H l = none → Q (.ref l) (upd H l (.tup ys))) ∨ (SqT K H p ys ∧ Q (.ref p) H))
theorem cq_tupOf {X : Cx} : CallR X (.type "tuple") (rTupOf X.K) := call_tuple_of
theorem q_tupL (h : SqL K H p xs) (k : ∀ l, H l = none → Q (.ref l) (upd H l (.tup xs))) : rTupOf K [.ref p] H Q := ⟨p, xs, rfl, .inl ⟨h, k⟩⟩
theorem q_sum {ns : List Int} (h : SqL K H a (ns.map V.int)) (k : Q (.int ns.sum) H) : rSum K [.ref a] H Q := ⟨a, ns, rfl, h, k⟩
theorem q_all {bs : List Bool} (h : SqL K H a (bs.map V.bl)) (k : Q (.bl (bs.all id)) H) : rAll K [.ref a] H Q := ⟨a, bs, rfl, h, k⟩
theorem q_any {bs : List Bool} (h : SqL K H a (bs.map V.bl)) (k : Q (.bl (bs.any id)) H) : rAny K [.ref a] H Q := ⟨a, bs, rfl, h, k⟩
def rAddStr : R2 := fun x y H Q => ∃ i j, x = .str i ∧ y = .str j ∧ i.length + j.length ≤ sizeLine ∧ Q (.str (i ++ j)) H
theorem oq_addStr {X : Cx} : OpR X (binaryOp .Add) rAddStr := op_add_str
theorem q_addStr {s z : Str} (hl : s.length + z.length ≤ sizeLine) (k : Q (.str (s ++ z)) H) : rAddStr (.str s) (.str z) H Q := ⟨s, z, rfl, rfl, hl, k⟩
theorem q_isN' (k : Q (.bl (decide (x = .non))) H) : rIsN x .non H Q := ⟨rfl, k⟩
theorem q_notN' (k : Q (.bl (!decide (x = .non))) H) : rNotN x .non H Q := ⟨rfl, k⟩
theorem q_inD {d : PyData} {ds : List PyData} (hd : Dp K H x d) (hy : Dp K H y (.list ds)) (s1 : SeqAt.shaped d = true) (s2 : SeqAt.shaped (.list ds) = true) (k : Q (.bl (ds.any fun z => PyData.eqv z d)) H) : rInD K x y H Q := ⟨d, ds, hd, hy, s1, s2, k⟩
theorem q_notInD {d : PyData} {ds : List PyData} (hd : Dp K H x d) (hy : Dp K H y (.list ds)) (s1 : SeqAt.shaped d = true) (s2 : SeqAt.shaped (.list ds) = true) (k : Q (.bl (!ds.any fun z => PyData.eqv z d)) H) : rNotInD K x y H Q := ⟨d, ds, hd, hy, s1, s2, k⟩
theorem q_ifNT (h : u D σ H) : ifK D t u σ (!true) H := q_ifF h
theorem q_ifNF (h : t D σ H) : ifK D t u σ (!false) H := q_ifT h
theorem q_andNT {R : Bool → Hp → Prop} (h : R false H) : andK tu σ R (!true) H := q_andF h
theorem q_andNF {R : Bool → Hp → Prop} (h : tu σ H R) : andK tu σ R (!false) H := q_andT h
theorem q_orNT {R : Bool → Hp → Prop} (h : tu σ H R) : orK tu σ R (!true) H := q_orF h
theorem q_orNF {R : Bool → Hp → Prop} (h : R true H) : orK tu σ R (!false) H := q_orT h
theorem q_bKNT {R : Bool → Hp → Prop} (h : R false H) : bK R (.bl (!true)) H := q_bK h
theorem q_bKNF {R : Bool → Hp → Prop} (h : R true H) : bK R (.bl (!false)) H := q_bK h
/-! chains, isinstance, texts, dicts -/
def chK2 (r' : R2) (y : V) (tc : TE) (σ : L2.St) (Q : VK) : VK := fun z H3 => ∃ k, z = .bl k ∧ (if k = true then tc σ H3 fun w' H4 => r' y w' H4 Q else Q (.bl false) H3)
theorem q_chain {r r' : R2} (h : ta σ H fun x H1 => tb σ H1 fun y H2 => r x y H2 (chK2 r' y tc σ Q)) : tChain r r' ta tb tc σ H Q := h
theorem q_chT {r' : R2} (h : tc σ H fun w' H4 => r' y w' H4 Q) : chK2 r' y tc σ Q (.bl true) H := ⟨true, rfl, iteT h⟩
theorem q_chF {r' : R2} (h : Q (.bl false) H) : chK2 r' y tc σ Q (.bl false) H := ⟨false, rfl, iteF h⟩
theorem q_ch2 {r' : R2} {c : Bool} (h : c = true → tc σ H fun w' H4 => r' y w' H4 Q) (h2 : c = false → Q (.bl false) H) : chK2 r' y tc σ Q (.bl c) H := by
  cases c with
  | true => exact q_chT (h rfl)
  | false => exact q_chF (h2 rfl)
def rIsiQ (K : PySem.W.Frag) : List V → Hp → VK → Prop := rIsi K
theorem q_isi {n : String} {t : Value} {c : Bool} (ht : TyX K H x t) (hk : PySem.W.kitOne K t (.type n) = some c) (k : Q (.bl c) H) : rIsi K [x, .ty n] H Q := ⟨x, .ty n, t, .type n, c, rfl, .ty n, ht, hk, k⟩
def rOrd : List V → Hp → VK → Prop := fun xs H Q => ∃ x, xs = [.str x] ∧ x.length = 1 ∧ Q (.int (x.cps.getD 0 0 : Nat)) H
theorem cq_ord {X : Cx} : CallR X (.builtin "ord") rOrd := call_ord
theorem q_ord {c : Nat} (k : Q (.int c) H) : rOrd [.str ⟨#[c]⟩] H Q := ⟨_, rfl, rfl, k⟩
theorem q_forS {s : Str} (Pv : Nat → L2.St → Hp → Prop) (h0 : Pv 0 σ H)
    (hs : ∀ i c σ H, s.cps[i]? = some c → Pv i σ H → g (.str ⟨#[c]⟩) σ H fun σ2 H2 => t { D with nx := Pv (i + 1), ct := Pv (i + 1), bk := D.nx } σ2 H2) (hd : ∀ σ H, Pv s.cps.size σ H → D.nx σ H) : forK g t D σ (Its s) H := by
  refine ⟨fun i m σ H => i + m = s.cps.size ∧ Pv i σ H, ⟨s.cps.size, Nat.zero_add _, h0⟩, fun i m σ H hW => ?_⟩
  obtain ⟨e, hp⟩ := hW
  by_cases hi : i < s.cps.size
  · refine .inr ⟨hi, Pv (i + 1), fun σ' H' hN => ⟨m - 1, by omega, by omega, hN⟩, fun x H' hy => ?_⟩
    obtain ⟨rfl, c, hc, rfl⟩ := hy
    exact hs i c σ H' hc hp
  · have e2 : i = s.cps.size := by omega
    subst e2
    exact .inl ⟨Nat.le_refl _, hd σ H hp⟩
theorem q_iStr {s : Str} {R : It → Hp → Prop} (k : R (Its s) H) : ∃ z, V.str s = .str z ∧ R (Its z) H := ⟨s, rfl, k⟩
theorem q_iStr0 {R : It → Hp → Prop} (h : te σ H fun v H1 => ∃ x, v = .str x ∧ R (Its x) H1) : iStr te σ H R := h
def dInK (Q : VK) (y : V) : VK := fun x H2 => ∃ a o, x = .ref a ∧ DGet H2 a y o ∧ Q (.bl o.isSome) H2
def dNInK (Q : VK) (y : V) : VK := fun x H2 => ∃ a o, x = .ref a ∧ DGet H2 a y o ∧ Q (.bl (!o.isSome)) H2
theorem q_tDIn {ty td : TE} (h : ty σ H fun y H1 => td σ H1 (dInK Q y)) : tDIn ty td σ H Q := h
theorem q_tDNotIn {ty td : TE} (h : ty σ H fun y H1 => td σ H1 (dNInK Q y)) : tDNotIn ty td σ H Q := h
theorem q_dInS {kvs : List (Key × V)} {s : Str} (h : H a = some (.dK kvs)) (k : Q (.bl (valV kvs (.inr s)).isSome) H) : dInK Q (.str s) (.ref a) H := ⟨a, _, rfl, DGet.k (k := Sum.inr s) h, k⟩
theorem q_dNInS {kvs : List (Key × V)} {s : Str} (h : H a = some (.dK kvs)) (k : Q (.bl (!(valV kvs (.inr s)).isSome)) H) : dNInK Q (.str s) (.ref a) H := ⟨a, _, rfl, DGet.k (k := Sum.inr s) h, k⟩
theorem q_dInI {kvs : List (Key × V)} (h : H a = some (.dK kvs)) (k : Q (.bl (valV kvs (.inl i)).isSome) H) : dInK Q (.int i) (.ref a) H := ⟨a, _, rfl, DGet.k (k := Sum.inl i) h, k⟩
theorem q_dNInI {kvs : List (Key × V)} (h : H a = some (.dK kvs)) (k : Q (.bl (!(valV kvs (.inl i)).isSome)) H) : dNInK Q (.int i) (.ref a) H := ⟨a, _, rfl, DGet.k (k := Sum.inl i) h, k⟩
def dGetK (Q : VK) (x : V) : VK := fun y H2 => ∃ a v, x = .ref a ∧ DGet H2 a y (some v) ∧ Q v H2
theorem q_tDGet {ty td : TE} (h : td σ H fun x H1 => ty σ H1 (dGetK Q x)) : tDGet td ty σ H Q := h
theorem q_dGetS {kvs : List (Key × V)} {s : Str} (h : H a = some (.dK kvs)) (e : valV kvs (.inr s) = some v) (k : Q v H) : dGetK Q (.ref a) (.str s) H := ⟨a, v, rfl, by rw [← e]; exact DGet.k (k := Sum.inr s) h, k⟩
theorem q_dGetI {kvs : List (Key × V)} (h : H a = some (.dK kvs)) (e : valV kvs (.inl i) = some v) (k : Q v H) : dGetK Q (.ref a) (.int i) H := ⟨a, v, rfl, by rw [← e]; exact DGet.k (k := Sum.inl i) h, k⟩
theorem q_dNew (k : ∀ p, H p = none → Q (.ref p) (upd H p (.dK []))) : tDNewK σ H Q := k
def dPutK (D : Ends) (σ : L2.St) (v x : V) : VK := fun y H3 => ∃ a H4, x = .ref a ∧ DPut H3 a y v H4 ∧ D.nx σ H4
theorem q_sDPut {td ty tv : TE} (h : tv σ H fun v H1 => td σ H1 fun x H2 => ty σ H2 (dPutK D σ v x)) : sDPut td ty tv D σ H := h
theorem q_dPutS {kvs : List (Key × V)} {s : Str} (h : H a = some (.dK kvs)) (hl : kvs.length < sizeLine) (k : D.nx σ (upd H a (.dK (putK kvs (.inr s) v)))) : dPutK D σ v (.ref a) (.str s) H := ⟨a, _, rfl, DPut.k (k := Sum.inr s) h hl, k⟩
theorem q_dPutI {kvs : List (Key × V)} (h : H a = some (.dK kvs)) (hl : kvs.length < sizeLine) (k : D.nx σ (upd H a (.dK (putK kvs (.inl i) v)))) : dPutK D σ v (.ref a) (.int i) H := ⟨a, _, rfl, DPut.k (k := Sum.inl i) h hl, k⟩
def truK (K : PySem.W.Frag) (R : Bool → Hp → Prop) : VK := fun x H' => ∃ k, TruV K x H' k ∧ R k H'
theorem q_tru {R : Bool → Hp → Prop} (h : te σ H (truK K R)) : (fun (σ : L2.St) (H : Hp) (Q : Bool → Hp → Prop) => te σ H fun x H' => ∃ k, TruV K x H' k ∧ Q k H') σ H R := h
theorem q_isBl {c d : Bool} (k : Q (.bl (decide (c = d))) H) : rIsB (.bl c) (.bl d) H Q := ⟨c, d, rfl, rfl, k⟩
theorem q_notBl {c d : Bool} (k : Q (.bl (!decide (c = d))) H) : rNotB (.bl c) (.bl d) H Q := ⟨c, d, rfl, rfl, k⟩
theorem q_inT (h : SqT K H p xs) (hx : flatV x = true) (ha : xs.all flatV = true) (k : Q (.bl (inV x xs)) H) : rIn K false x (.ref p) H Q := ⟨p, xs, rfl, .inr h, hx, ha, k⟩
theorem q_inL (h : SqL K H p xs) (hx : flatV x = true) (ha : xs.all flatV = true) (k : Q (.bl (inV x xs)) H) : rIn K false x (.ref p) H Q := ⟨p, xs, rfl, .inl h, hx, ha, k⟩
theorem q_eqD {d e : PyData} (hd : Dp K H x d) (he : Dp K H y e) (s1 : SeqAt.shaped d = true) (s2 : SeqAt.shaped e = true) (k : Q (.bl (PyData.eqv d e)) H) : rEqD K x y H Q := ⟨d, e, hd, he, s1, s2, k⟩
theorem q_neD {d e : PyData} (hd : Dp K H x d) (he : Dp K H y e) (s1 : SeqAt.shaped d = true) (s2 : SeqAt.shaped e = true) (k : Q (.bl (!PyData.eqv d e)) H) : rNeD K x y H Q := ⟨d, e, hd, he, s1, s2, k⟩
theorem q_catA (h1 : H a = some (.tup xs)) (h2 : H b = some (.tup ys)) (hl : xs.length + ys.length ≤ sizeLine) (k : ∀ p H', Same H H' → H' p = some (.tup (xs ++ ys)) → Q (.ref p) H') : rCatA K (.ref a) (.ref b) H Q := by
  refine ⟨a, b, xs, ys, rfl, rfl, sqT h1, sqT h2, hl, fun e => ?_, fun _ e => ?_, fun _ _ p hp => k p _ (Same.new (Same.refl _) hp) upd_same⟩
  · subst e; exact k b H (Same.refl _) h2
  · subst e; exact k a H (Same.refl _) (by rw [List.append_nil]; exact h1)
theorem q_slA {lo hi : Option Int} (h : H a = some (.tup xs)) (k : ∀ p H', Same H H' → H' p = some (.tup (cutV xs lo hi)) → Q (.ref p) H') : rSlA K (.ref a) lo hi H Q := by
  refine ⟨a, xs, rfl, sqT h, fun e => ?_, fun _ p hp => k p _ (Same.new (Same.refl _) hp) upd_same⟩
  refine k a H (Same.refl _) ?_
  unfold cutV
  rw [e.1, e.2, List.drop_zero, Nat.sub_zero, List.take_length]
  exact h
theorem cut_take {n : Nat} (hn : n ≤ xs.length) : cutV xs none (some (n : Int)) = xs.take n := by
  unfold cutV
  rw [HT.sIx_none, show HT.sIx xs.length xs.length (some (n : Int)) = min n xs.length from HT.sIx_nat xs.length xs.length n, Nat.min_eq_left hn, List.drop_zero, Nat.sub_zero]
theorem cut_drop {n : Nat} (hn : n ≤ xs.length) : cutV xs (some (n : Int)) none = xs.drop n := by
  unfold cutV
  rw [HT.sIx_none, show HT.sIx xs.length 0 (some (n : Int)) = min n xs.length from HT.sIx_nat xs.length 0 n, Nat.min_eq_left hn]
  exact List.take_of_length_le (by rw [List.length_drop]; exact Nat.le_refl _)
theorem q_sl {r : V → Option Int → Option Int → Hp → VK → Prop} {tl th : TO} (h : te σ H fun x H1 => tl σ H1 fun l H2 => th σ H2 fun u H3 => r x l u H3 Q) : tSl r te tl th σ H Q := h
theorem q_noPart {R : Option Int → Hp → Prop} (k : R none H) : tNoPart σ H R := k
def partK (R : Option Int → Hp → Prop) : VK := fun x H1 => ∃ i, x = .int i ∧ R (some i) H1
theorem q_part {R : Option Int → Hp → Prop} (h : te σ H (partK R)) : tPart te σ H R := h
theorem q_partK {R : Option Int → Hp → Prop} (k : R (some i) H) : partK R (.int i) H := ⟨i, rfl, k⟩
/-! a text times a number -/
def repS (s : Str) (n : Int) : Str := ⟨(List.replicate n.toNat s.cps).foldl (· ++ ·) #[]⟩
def mulOk (s : Str) (n : Int) : Bool := decide (2 ≤ n) && decide (n ≤ 1000) && decide (s.length = 1) && decide ((repS s n).length ≤ 1000)
def rMulStr : R2 := fun x y H Q => ∃ s n, x = .str s ∧ y = .int n ∧ mulOk s n = true ∧ Q (.str (repS s n)) H
theorem oq_mulStr {X : Cx} : OpR X (binaryOp .Mult) rMulStr := by
  intro pins s σ H x y v u Q I rx ry h
  obtain ⟨z, n, rfl, rfl, hm, q⟩ := h
  obtain ⟨t, rfl⟩ := rx
  obtain ⟨t', rfl⟩ := ry
  unfold mulOk at hm
  simp only [Bool.and_eq_true, decide_eq_true_eq] at hm
  obtain ⟨⟨⟨h1, h2⟩, h3⟩, h4⟩ := hm
  have e1 : (n == 1 || z.length == 0) = false := by
    rw [h3]
    have : (n == 1) = false := beq_eq_false_iff_ne.mpr (by omega)
    rw [this]
    rfl
  refine PySem.P.mul_str ?_ (fun _ _ => ?_) (fun _ _ => ?_) ?_
  · rw [decide_eq_false (show ¬ n < -(2 ^ 63) by omega), decide_eq_false (show ¬ n ≥ 2 ^ 63 by omega)]
    rfl
  · rw [h3]
    have : (1 : Int) ≤ (2 ^ 63 - 1) / n := Int.le_ediv_of_mul_le (by omega) (by omega)
    exact Int.not_lt.mpr this
  · rw [h3, Nat.one_mul]
    exact decide_eq_false (by
      have : sizeLine = 16777216 := sizeLine_eq
      omega)
  · rw [if_neg (show ¬ n < 1 by omega), if_neg (by rw [e1]; exact Bool.false_ne_true)]
    exact ⟨Nat.le_trans h4 (by decide), .str (repS z n), H, I.tok _, ⟨_, rfl⟩, q⟩
theorem q_mulStr {s : Str} (hm : mulOk s i = true) (k : Q (.str (repS s i)) H) : rMulStr (.str s) (.int i) H Q := ⟨s, i, rfl, rfl, hm, k⟩
/-! methods of lists -/
def bmK (K : PySem.W.Frag) (T : String) (r : V → List V → Hp → VK → Prop) (t : TA) (σ : L2.St) (Q : VK) : VK := fun x H1 => tyV K T x H1 ∧ t σ H1 fun xs H2 => r x xs H2 Q
def bmK0 (K : PySem.W.Frag) (T : String) (r : V → List V → Hp → VK → Prop) (Q : VK) : VK := fun x H1 => tyV K T x H1 ∧ r x [] H1 Q
theorem q_bm {T : String} {r : V → List V → Hp → VK → Prop} (h : te σ H (bmK K T r tr σ Q)) : tBM K T r te tr σ H Q := h
theorem q_bm0 {T : String} {r : V → List V → Hp → VK → Prop} (h : te σ H (bmK0 K T r Q)) : tBM0 K T r te σ H Q := h
theorem q_bmL {r : V → List V → Hp → VK → Prop} (h : H l = some (.lst xs)) (k : tr σ H fun vs H2 => r (.ref l) vs H2 Q) : bmK K "list" r tr σ Q (.ref l) H := ⟨.inl ⟨rfl, xs, sqL h⟩, k⟩
theorem q_bmL0 {r : V → List V → Hp → VK → Prop} (h : H l = some (.lst xs)) (k : r (.ref l) [] H Q) : bmK0 K "list" r Q (.ref l) H := ⟨.inl ⟨rfl, xs, sqL h⟩, k⟩
theorem q_append (h : H l = some (.lst xs)) (hl : xs.length < sizeLine) (k : Q .non (upd H l (.lst (xs ++ [y])))) : rAppend (.ref l) [y] H Q := ⟨l, xs, y, rfl, rfl, h, hl, k⟩
theorem q_popAt {n : Nat} (h : H l = some (.lst xs)) (e : i = (n : Int)) (hn : n < xs.length) (hb : i < 2 ^ 63) (hv : xs[n]? = some v) (k : Q v (upd H l (.lst (xs.eraseIdx n)))) : rPopAt (.ref l) [.int i] H Q := by
  refine ⟨l, xs, i, n, v, rfl, rfl, h, by omega, hb, ?_, hv, k⟩
  subst e
  unfold seqIndex?
  have h1 : ¬ ((n : Int) < 0) := by omega
  have h2 : (n : Int) < (xs.length : Int) := by omega
  have h3 : (0 : Int) ≤ (n : Int) := by omega
  simp [h1, h2, h3]
/-! a walk over a list or a tuple -/
theorem pi_or {X : Cx} {tg e : Expr} {w1 w2 : TI} (h1 : PI X tg e w1) (h2 : PI X tg e w2) : PI X tg e (fun σ H R => w1 σ H R ∨ w2 σ H R) :=
  ⟨fun pins s σ H R I h => h.elim (h1.run pins s σ H R I) (h2.run pins s σ H R I)⟩
def iSeq (K : PySem.W.Frag) (te : TE) : TI := fun σ H R => iList K te σ H R ∨ iTup K te σ H R
theorem pi_seq {X : Cx} {tg e : Expr} {te : TE} (h : PE X e te) : PI X tg e (iSeq X.K te) := pi_or (pi_list h) (pi_tup h)
theorem q_iSeqL {R : It → Hp → Prop} (h : te σ H fun x H1 => ∃ a, x = .ref a ∧ (∃ xs, SqL K H1 a xs) ∧ R (Itl K a) H1) : iSeq K te σ H R := .inl h
theorem q_iSeqT {R : It → Hp → Prop} (h : te σ H fun x H1 => ∃ a, x = .ref a ∧ (∃ xs, SqT K H1 a xs) ∧ R (Itt K a) H1) : iSeq K te σ H R := .inr h
/-! a written dict -/
def pairsK (σ : L2.St) (r : List (TE × TE)) (x : V) (Q : List (V × V) → Hp → Prop) : VK := fun y H2 => tPairs r σ H2 fun ps H3 => Q ((x, y) :: ps) H3
theorem q_pairC {tk tv : TE} {r : List (TE × TE)} {R : List (V × V) → Hp → Prop} (h : tk σ H fun x H1 => tv σ H1 (pairsK σ r x R)) : tPairs ((tk, tv) :: r) σ H R := h
theorem q_pairsK {r : List (TE × TE)} {R : List (V × V) → Hp → Prop} (h : tPairs r σ H fun ps H3 => R ((x, y) :: ps) H3) : pairsK σ r x R y H := h
theorem q_pairN {R : List (V × V) → Hp → Prop} (h : R [] H) : tPairs [] σ H R := h
def dispK (Q : VK) (p : Addr) : List (V × V) → Hp → Prop := fun ps H2 => H2 p = some (.dK []) ∧ ∃ kvs : List (Key × V), ps = kvs.map (fun kv => (kV kv.1, kv.2)) ∧ kvs.length ≤ 15 ∧ Q (.ref p) (upd H2 p (.dK (mergeK [] kvs)))
theorem q_disp {trs : List (TE × TE)} (k : ∀ p, H p = none → tPairs trs σ (upd H p (.dK [])) (dispK Q p)) : tDisp trs σ H Q := k
theorem valV_cons {κ : Type} [DecidableEq κ] {kvs : List (κ × V)} {k k' : κ} {v : V} : valV ((k, v) :: kvs) k' = if k = k' then some v else valV kvs k' := by
  unfold valV
  rw [List.find?_cons]
  by_cases e : k = k'
  · rw [if_pos e, decide_eq_true e]; rfl
  · rw [if_neg e, decide_eq_false e]
theorem valV_nomem {κ : Type} [DecidableEq κ] {kvs : List (κ × V)} {k : κ} (h : k ∉ kvs.map (·.1)) : valV kvs k = none := by
  cases q : valV kvs k with
  | none => rfl
  | some v => exact absurd (valV_in q) h
theorem merge_app : ∀ (kvs acc : List (Key × V)), ((acc ++ kvs).map (·.1)).Nodup → mergeK acc kvs = acc ++ kvs
  | [], acc, _ => by rw [List.append_nil]; rfl
  | (k, v) :: r, acc, h => by
    have hk : k ∉ acc.map (·.1) := by
      rw [List.map_append] at h
      intro m
      exact (List.nodup_append.mp h).2.2 k m k (by simp) rfl
    show mergeK (putK acc k v) r = _
    rw [putK_new v (valV_nomem hk), merge_app r (acc ++ [(k, v)]) (by rw [List.append_assoc]; exact h), List.append_assoc]
    rfl
theorem q_dispK {kvs : List (Key × V)} {ps : List (V × V)} (h : H p = some (.dK [])) (e : ps = kvs.map (fun kv => (kV kv.1, kv.2))) (hl : kvs.length ≤ 15) (hn : (kvs.map (·.1)).Nodup) (k : Q (.ref p) (upd H p (.dK kvs))) : dispK Q p ps H :=
  ⟨h, kvs, e, hl, by rw [merge_app kvs [] hn]; exact k⟩
theorem q_slL {lo hi : Option Int} (h : SqL K H a xs) (k : ∀ p, H p = none → Q (.ref p) (upd H p (.lst (cutV xs lo hi)))) : rSlL K (.ref a) lo hi H Q := ⟨a, xs, rfl, h, k⟩
/-! attributes and methods -/
def fldK (K : PySem.W.Frag) (f : Str) (Q : VK) : VK := fun x H1 => ∃ a C dx fs v, x = .ref a ∧ H1 a = some (.ins C dx fs) ∧ Cls K C ∧ NoAttr K C f ∧ fs.lookup f = some v ∧ Q v H1
theorem q_fld {f : Str} (h : te σ H (fldK K f Q)) : tFld K te f σ H Q := h
theorem q_fldK {f : Str} {C dx : Addr} {fs : List (Str × V)} (h : H a = some (.ins C dx fs)) (hc : Cls K C) (hn : NoAttr K C f) (hl : fs.lookup f = some v) (k : Q v H) : fldK K f Q (.ref a) H := ⟨a, C, dx, fs, v, rfl, h, hc, hn, hl, k⟩
def fputK (K : PySem.W.Frag) (f : Str) (D : Ends) (σ : L2.St) (y : V) : VK := fun x H2 => ∃ a C dx fs, x = .ref a ∧ H2 a = some (.ins C dx fs) ∧ Cls K C ∧ NoAttr K C f ∧ fs.length < 1000 ∧ D.nx σ (upd H2 a (.ins C dx (putF f y fs)))
theorem q_sFld {f : Str} (h : tb σ H fun y H1 => te σ H1 (fputK K f D σ y)) : sFld K te tb f D σ H := h
theorem q_fputK {f : Str} {C dx : Addr} {fs : List (Str × V)} (h : H a = some (.ins C dx fs)) (hc : Cls K C) (hn : NoAttr K C f) (hl : fs.length < 1000) (k : D.nx σ (upd H a (.ins C dx (putF f y fs)))) : fputK K f D σ y (.ref a) H := ⟨a, C, dx, fs, rfl, h, hc, hn, hl, k⟩
def methK (m : Str) (C : Addr) (sp : Sp) (dvs : List V) (E : XK) (tr : TA) (σ : L2.St) (Q : VK) : VK := fun x H1 => ∃ a dx fs, x = .ref a ∧ H1 a = some (.ins C dx fs) ∧ fs.lookup m = none ∧ tr σ H1 fun vs H2 => sp (x :: (vs ++ dvs)) H2 Q E
theorem q_meth {m : Str} {C : Addr} {sp : Sp} {dvs : List V} {E : XK} (h : te σ H (methK m C sp dvs E tr σ Q)) : tMeth C m sp dvs E te tr σ H Q := h
def selfK (sp : Sp) (x : V) (E : XK) (Q : VK) : List V → Hp → Prop := fun vs H2 => sp (x :: vs) H2 Q E
theorem q_methK {m : Str} {C dx : Addr} {sp : Sp} {E : XK} {fs : List (Str × V)} (h : H a = some (.ins C dx fs)) (hn : fs.lookup m = none) (k : ∀ (R : List V → Hp → Prop), (∀ vs H2, sp (.ref a :: vs) H2 Q E → R vs H2) → tr σ H R) : methK m C sp [] E tr σ Q (.ref a) H :=
  ⟨a, dx, fs, rfl, h, hn, k _ fun vs H2 q => by rw [List.append_nil]; exact q⟩
theorem q_fldlen {f : Str} {fs : List (Str × V)} {y : V} {n : Nat} (h : fs.length ≤ n) : (putF f y fs).length ≤ n + 1 := by
  induction fs generalizing n with
  | nil => exact Nat.succ_le_succ (Nat.zero_le _)
  | cons p r ih =>
    obtain ⟨g, x⟩ := p
    show (if g = f then (g, y) :: r else (g, x) :: putF f y r).length ≤ n + 1
    by_cases e : g = f
    · rw [if_pos e]; exact Nat.le_succ_of_le h
    · rw [if_neg e]
      cases n with
      | zero => exact absurd h (by simp)
      | succ n => exact Nat.succ_le_succ (ih (Nat.le_of_succ_le_succ h))
theorem q_never {σ : L2.St} (h : False) : tNever D σ H := h
def mkK (C : Addr) (n m : Nat) (sp : Sp) (gV : List V → List V → List V) (E : XK) (vs : List V) (Q : VK) : List V → Hp → Prop := fun zs H2 => vs.length = n ∧ zs.length = m ∧ ∀ x dx, H2 x = none → H2 dx = none → dx ≠ x →
  sp (gV (.ref x :: vs) zs) (upd (upd H2 dx (.own x)) x (.ins C dx [])) (fun v H3 => v = .non ∧ Q (.ref x) H3) E
theorem q_makeK {C : Addr} {n m : Nat} {sp : Sp} {gV : List V → List V → List V} {E : XK} {tk : TA} (h : tr σ H fun vs H1 => tk σ H1 (mkK C n m sp gV E vs Q)) : tMakeK C n m sp gV E tr tk σ H Q := h
/-! comprehensions -/
def lcK (g : TG) (tt : TT) (te : TE) (vs : List Nat) (σ : L2.St) (Q : VK) : It → Hp → Prop := fun J H1 => ∀ D, H1 D = none → ∃ W : Nat → Nat → Hp → Prop, (∃ m, W 0 m (upd H1 D (.lst []))) ∧ ∀ i m H, W i m H →
  (J.stop i H ∧ Q (.ref D) H) ∨ (J.go i H ∧ ∃ Nx : Hp → Prop, (∀ H', Nx H' → ∃ m', m' < m ∧ W (i + 1) m' H') ∧ ∀ x H', J.yld i H x H' → g x (wipe σ vs) H' fun σ2 H2 => wipe σ2 vs = wipe σ vs ∧ tt σ2 H2 fun b H3 =>
    if b = true then te σ2 H3 fun y H4 => ∃ acc, H4 D = some (.lst acc) ∧ acc.length < sizeLine ∧ Nx (upd H4 D (.lst (acc ++ [y]))) else Nx H3)
theorem q_lc {wi : TI} {vs : List Nat} (h : wi σ H (lcK g tt te vs σ Q)) : tLc wi g tt te vs σ H Q := h
def keepK (te : TE) (σ : L2.St) (D : Addr) (Nx : Hp → Prop) : Bool → Hp → Prop := fun b H3 => if b = true then te σ H3 fun y H4 => ∃ acc, H4 D = some (.lst acc) ∧ acc.length < sizeLine ∧ Nx (upd H4 D (.lst (acc ++ [y]))) else Nx H3
def accK (D : Addr) (Nx : Hp → Prop) : VK := fun y H4 => ∃ acc, H4 D = some (.lst acc) ∧ acc.length < sizeLine ∧ Nx (upd H4 D (.lst (acc ++ [y])))
theorem q_keepT {Nx : Hp → Prop} (h : te σ H (accK l Nx)) : keepK te σ l Nx true H := iteT h
theorem q_keepF {Nx : Hp → Prop} (h : Nx H) : keepK te σ l Nx false H := iteF h
theorem q_keep2 {Nx : Hp → Prop} {c : Bool} (h : c = true → te σ H (accK l Nx)) (h2 : c = false → Nx H) : keepK te σ l Nx c H := by
  cases c with
  | true => exact iteT (h rfl)
  | false => exact iteF (h2 rfl)
theorem q_accK {Nx : Hp → Prop} (h : H l = some (.lst xs)) (hl : xs.length < sizeLine) (k : Nx (upd H l (.lst (xs ++ [y])))) : accK l Nx y H := ⟨xs, h, hl, k⟩
theorem q_lcL {S : List V} {vs : List Nat} (h : SqL K H a S) (k : ∀ D, H D = none → ∃ Pv : Nat → Hp → Prop, Pv 0 (upd H D (.lst [])) ∧ (∀ i H, i ≤ S.length → Pv i H → SqL K H a S) ∧
      (∀ i x H, S[i]? = some x → Pv i H → g x (wipe σ vs) H fun σ2 H2 => wipe σ2 vs = wipe σ vs ∧ tt σ2 H2 (keepK te σ2 D (Pv (i + 1)))) ∧ ∀ H, Pv S.length H → Q (.ref D) H) :
    ∃ b, V.ref a = .ref b ∧ (∃ xs, SqL K H b xs) ∧ lcK g tt te vs σ Q (Itl K b) H := ⟨a, rfl, ⟨S, h⟩, fun D hD => by
      obtain ⟨Pv, h0, hl, hs, hd⟩ := k D hD
      exact lc_list Pv h0 hl hs hd⟩
theorem q_lcT {S : List V} {vs : List Nat} (h : SqT K H a S) (k : ∀ D, H D = none → ∃ Pv : Nat → Hp → Prop, Pv 0 (upd H D (.lst [])) ∧ (∀ i H, i ≤ S.length → Pv i H → SqT K H a S) ∧
      (∀ i x H, S[i]? = some x → Pv i H → g x (wipe σ vs) H fun σ2 H2 => wipe σ2 vs = wipe σ vs ∧ tt σ2 H2 (keepK te σ2 D (Pv (i + 1)))) ∧ ∀ H, Pv S.length H → Q (.ref D) H) :
    ∃ b, V.ref a = .ref b ∧ (∃ xs, SqT K H b xs) ∧ lcK g tt te vs σ Q (Itt K b) H := ⟨a, rfl, ⟨S, h⟩, fun D hD => by
      obtain ⟨Pv, h0, hl, hs, hd⟩ := k D hD
      exact lc_tup Pv h0 hl hs hd⟩
theorem q_lcR {vs : List Nat} (hj : 0 ≤ j ∧ j < 1000000000000000) (k : ∀ D, H D = none → ∃ Pv : Nat → Hp → Prop, Pv 0 (upd H D (.lst [])) ∧
      (∀ (i : Nat) H, (i : Int) < j → Pv i H → g (.int i) (wipe σ vs) H fun σ2 H2 => wipe σ2 vs = wipe σ vs ∧ tt σ2 H2 (keepK te σ2 D (Pv (i + 1)))) ∧ ∀ H, Pv j.toNat H → Q (.ref D) H) :
    rg1K (lcK g tt te vs σ Q) [.int j] H := ⟨j, rfl, by omega, by omega, fun D hD => by
      obtain ⟨Pv, h0, hs, hd⟩ := k D hD
      refine lc_range Pv h0 (fun i H hi hp => ?_) hd
      have e : (0 : Int) + (i : Int) = (i : Int) := Int.zero_add _
      rw [e]
      exact hs i H (by omega) hp⟩
end

/-! get and setdefault of a dict -/
section
variable {H : Hp} {σ : L2.St} {Q : VK} {td ty tx : TE} {a : Addr} {z v : V}
def dG2K (Q : VK) (a : Addr) (y : V) : VK := fun z H3 => ∃ o, DGet H3 a y o ∧ Q (o.getD z) H3
def dG2a (ty tx : TE) (σ : L2.St) (Q : VK) : VK := fun x H1 => ∃ a, x = .ref a ∧ IsD H1 a ∧ ty σ H1 fun y H2 => tx σ H2 (dG2K Q a y)
theorem q_tDGet2 (h : td σ H (dG2a ty tx σ Q)) : tDGet2 td ty tx σ H Q := h
theorem q_dG2a {kvs : List (Key × V)} (h : H a = some (.dK kvs)) (k : ty σ H fun y H2 => tx σ H2 (dG2K Q a y)) : dG2a ty tx σ Q (.ref a) H := ⟨a, rfl, .inl ⟨kvs, .inl h⟩, k⟩
theorem q_dG2S {kvs : List (Key × V)} {s : Str} (h : H a = some (.dK kvs)) (k : Q ((valV kvs (.inr s)).getD z) H) : dG2K Q a (.str s) z H := ⟨_, DGet.k (k := Sum.inr s) h, k⟩
theorem q_dG2I {kvs : List (Key × V)} {i : Int} (h : H a = some (.dK kvs)) (k : Q ((valV kvs (.inl i)).getD z) H) : dG2K Q a (.int i) z H := ⟨_, DGet.k (k := Sum.inl i) h, k⟩
def dSdK (Q : VK) (a : Addr) (y : V) : VK := fun z H3 => ∃ (kvs : List (Key × V)) (k : Key), H3 a = some (.dK kvs) ∧ y = kV k ∧ kvs.length < sizeLine ∧ (∀ v, valV kvs k = some v → Q v H3) ∧ (valV kvs k = none → Q z (upd H3 a (.dK (putK kvs k z))))
def dSda (ty tx : TE) (σ : L2.St) (Q : VK) : VK := fun x H1 => ∃ a, x = .ref a ∧ IsD H1 a ∧ ty σ H1 fun y H2 => tx σ H2 (dSdK Q a y)
theorem q_tDSetd (h : td σ H (dSda ty tx σ Q)) : tDSetd td ty tx σ H Q := h
theorem q_dSda {kvs : List (Key × V)} (h : H a = some (.dK kvs)) (k : ty σ H fun y H2 => tx σ H2 (dSdK Q a y)) : dSda ty tx σ Q (.ref a) H := ⟨a, rfl, .inl ⟨kvs, .inl h⟩, k⟩
theorem q_dSdS {kvs : List (Key × V)} {s : Str} (h : H a = some (.dK kvs)) (hl : kvs.length < sizeLine) (k1 : ∀ v, valV kvs (.inr s) = some v → Q v H) (k2 : valV kvs (.inr s) = none → Q z (upd H a (.dK (putK kvs (.inr s) z)))) : dSdK Q a (.str s) z H := ⟨kvs, .inr s, h, rfl, hl, k1, k2⟩
end

/-! methods that may raise within a try; the suite of one class; del of an item; a text times 1 -/
section
variable {K : PySem.W.Frag} {σ : L2.St} {H : Hp} {Q : VK} {D : Ends} {l : Addr} {xs : List V} {i : Int} {to ti : TE}
def delK (D : Ends) (σ : L2.St) (x : V) : VK := fun y H2 => ∃ (l : Addr) (xs : List V) (i : Int) (k : Nat), x = .ref l ∧ y = .int i ∧ H2 l = some (.lst xs) ∧ -(2 ^ 63) ≤ i ∧ i < 2 ^ 63 ∧ seqIndex? i xs.length = some k ∧ D.nx σ (upd H2 l (.lst (xs.eraseIdx k)))
theorem q_delL (h : to σ H fun x H1 => ti σ H1 (delK D σ x)) : tDelL to ti D σ H := h
theorem seqIx {n m : Nat} (h : n < m) : seqIndex? (n : Int) m = some n := by
  unfold seqIndex?
  have h1 : ¬ ((n : Int) < 0) := by omega
  have h2 : (n : Int) < (m : Int) := by omega
  have h3 : (0 : Int) ≤ (n : Int) := by omega
  simp [h1, h2, h3]
theorem q_delK {n : Nat} (h : H l = some (.lst xs)) (e : i = (n : Int)) (hn : n < xs.length) (hb : i < 2 ^ 63) (k : D.nx σ (upd H l (.lst (xs.eraseIdx n)))) : delK D σ (.ref l) (.int i) H :=
  ⟨l, xs, i, n, rfl, rfl, h, by omega, hb, by rw [e]; exact seqIx hn, k⟩
def rMulStr1 : R2 := fun x y H Q => ∃ s, x = .str s ∧ y = .int 1 ∧ Q (.str s) H
theorem oq_mulStr1 {X : Cx} : OpR X (binaryOp .Mult) rMulStr1 := by
  intro pins s σ H x y v u Q I rx ry h
  obtain ⟨z, rfl, rfl, q⟩ := h
  obtain ⟨t, rfl⟩ := rx
  obtain ⟨t', rfl⟩ := ry
  refine PySem.P.mul_str (by decide) (fun _ h => by cases h) (fun _ h => by cases h) ?_
  rw [if_neg (show ¬ (1 : Int) < 1 by omega), if_pos (by rfl)]
  exact ⟨.str z, H, I, ⟨_, rfl⟩, q⟩
theorem q_mulStr1 {s : Str} (k : Q (.str s) H) : rMulStr1 (.str s) (.int 1) H Q := ⟨s, rfl, rfl, k⟩
theorem q_int1b {c : Bool} (k : Q (.int (if c then 1 else 0)) H) : rInt1 [.bl c] H Q := .inr ⟨c, rfl, k⟩
theorem q_int1t (k : Q (.int 1) H) : rInt1 [.bl true] H Q := .inr ⟨true, rfl, k⟩
theorem q_neB {c d : Bool} (k : Q (.bl (c != d)) H) : rNe (.bl c) (.bl d) H Q := ⟨rfl, by
  have e : (!decide (V.bl c = V.bl d)) = (c != d) := by cases c <;> cases d <;> rfl
  rw [e]; exact k⟩
theorem q_neBs {c : Bool} (k : Q (.bl false) H) : rNe (.bl c) (.bl c) H Q := q_neB (by rw [bne_self_eq_false]; exact k)
def tMethA (C : Addr) (m : Str) (sp : Sp) (E : L2.St → XK) (ta : TE) (t : TA) : TE := fun σ H Q => ta σ H fun x H1 => ∃ a dx fs, x = .ref a ∧ H1 a = some (.ins C dx fs) ∧ fs.lookup m = none ∧ t σ H1 fun vs H2 => sp (x :: vs) H2 Q (E σ)
def methAK (C : Addr) (m : Str) (sp : Sp) (E : L2.St → XK) (t : TA) (σ : L2.St) (Q : VK) : VK := fun x H1 => ∃ a dx fs, x = .ref a ∧ H1 a = some (.ins C dx fs) ∧ fs.lookup m = none ∧ t σ H1 fun vs H2 => sp (x :: vs) H2 Q (E σ)
theorem q_methA {C : Addr} {m : Str} {sp : Sp} {E : L2.St → XK} {ta : TE} {t : TA} (h : ta σ H (methAK C m sp E t σ Q)) : tMethA C m sp E ta t σ H Q := h
theorem q_methAK {C dx a : Addr} {m : Str} {sp : Sp} {E : L2.St → XK} {t : TA} {fs : List (Str × V)} (h : H a = some (.ins C dx fs)) (hn : fs.lookup m = none) (k : t σ H fun vs H2 => sp (.ref a :: vs) H2 Q (E σ)) : methAK C m sp E t σ Q (.ref a) H := ⟨a, dx, fs, rfl, h, hn, k⟩
theorem q_callS {sp : Sp} {E : L2.St → XK} {t : TA} (h : t σ H fun vs H1 => sp vs H1 Q (E σ)) : tCallS sp E t σ H Q := h
theorem q_isE {D a C : Addr} {b : Bool} (e : PySem.W.kitOne K (.ref D) (.ref C) = some b) (k : Q (.bl b) H) : rIsE K D a [.ref a, .ref C] H Q := ⟨.ref C, .ref C, b, rfl, fun _ r => r, e, k⟩
end
section
variable {X : Cx} {CX : CXT} {k : Nat} {f C : Addr} {fd : FuncData} {ps : List Str} {sp : Sp} {E : L2.St → XK} {m : Str} {pos apos : Pos} {e o : Expr} {es : List Expr} {ta : TE} {t : TA}
theorem pe_methA {pl : Sem Bool} (he : PE X o ta) (c : Cls X.K C) (hm : Meth X.K C m f) (F : FnOk X.prog X.w X.K X.mg X.base CX k f fd ps sp) (hr : Room k X.A) (hb : Binds X.K fd ps []) (hx : ∀ σ, PassesAt CX X σ (E σ)) (ha : PA X (e :: es) t)
    (hst : starEach (e :: es) X.env = (false, eval e X.env) :: starEach es X.env := by rfl) (hpl : (backTo pos (starEach es X.env)).any (·.1) = false := by rfl)
    (ht : eval (.Call (.Attribute o m apos) (e :: es) [] pos) X.env = (do
      let ov ← eval o X.env
      standAt apos.atName
      let (f, first) ← holding [ov] (getMethod ov m pl)
      callWith pos f first (backTo pos (starEach (e :: es) X.env)) (backToKw pos (keywordEach [] X.env))) := by rfl) :
    PE X (.Call (.Attribute o m apos) (e :: es) [] pos) (tMethA C m sp E ta t) := by
  refine ⟨fun pins s σ H Q I h => ?_⟩
  refine PySem.W.methodCall_KW (pl := pl) (thn (he.run pins s σ H _ I h) fun u s1 ⟨x, H1, I1, rx, a, dx, fs, ex, ea, l, q⟩ => ?_) ht
  subst ex
  obtain rfl : u = Value.ref a := rx
  refine getmeth_ok I1 ea c hm l ?_
  refine PySem.W.callWith_K (first := [.ref a]) (h₀ := X.base) I.ok.mod.kin hm.kp (thn (ha.run pos pins s1 σ H1 _ I1 q) fun us s2 ⟨vs, H2, I2, r, q2⟩ => ⟨I2.kIn, ?_⟩) hst hpl
  exact run_fnS (us := .ref a :: us) (vs := .ref a :: vs) F hr hb (hx σ) I2 (.cons rfl r) q2
theorem pss_cls {oe : Obj} {cls : Value} {d : Option Addr} {b : List Stmt} {t : TS} (hz : Zc cls d oe) (h : Zc (.ref C) none oe → PSs X b t) : PSs X b (fun D σ H => (cls = .ref C ∧ d = none) ∧ t D σ H) :=
  ⟨fun pins s σ H D I q => (h (by obtain ⟨⟨e1, e2⟩, _⟩ := q; rw [e1, e2] at hz; exact hz)).run pins s σ H D I q.2⟩
end

/-! the sum of a dict's values; dicts keyed by tuples -/
section
variable {X : Cx} {o : Expr} {p pos apos mpos : Pos} {td : TE}
def tSumVals (td : TE) : TE := fun σ H Q => td σ H fun x H1 => ∃ (a : Addr) (kvs : List (Key × V)) (is : List Int), x = V.ref a ∧ H1 a = some (.dK kvs) ∧ kvs.map (·.2) = is.map V.int ∧ Q (.int is.sum) H1
theorem pre_sum (is : List Int) : ∀ n, n ≤ is.length → preSum (fun i => is.getD i 0) n = (is.take n).sum
  | 0, _ => by simp [preSum]
  | n + 1, h => by
    rw [preSum, pre_sum is n (by omega), List.take_add_one, List.sum_append, List.getElem?_eq_getElem (by omega), List.getD_eq_getElem?_getD, List.getElem?_eq_getElem (by omega)]
    simp
theorem pe_sumVals (hc : X.calm = true) (hg : Gl X "sum") (hm : X.mg "sum" = none) (hd : PE X o td) (hbase : attributeBase o "values" X.env (eval o X.env) = eval o X.env := by rfl) (hline : (apos.endLine == mpos.line) = true := by rfl)
    (hse : starEach [Expr.Call (.Attribute o "values" apos) [] [] mpos] X.env = [(false, eval (Expr.Call (.Attribute o "values" apos) [] [] mpos) X.env)] := by rfl) :
    PE X (.Call (.Name "sum" p) [.Call (.Attribute o "values" apos) [] [] mpos] [] pos) (tSumVals td) := by
  refine ⟨fun pins s σ H Q I h => ?_⟩
  refine wpAny_Call_Name_kw (ld_blt I hg hm (u := .builtin "sum") (by first | rfl | decide +kernel) ?_ (by first | decide +kernel | decide) (by first | decide +kernel | decide))
  rw [hse]
  refine PySem.callWith_builtin1 (wpAny_Call_method0_late hbase hline (thn (hd.run pins s σ H _ I h) fun v s1 ⟨x, H1, I1, r1, a, kvs, is, ex, ha, hv, q⟩ => ?_))
  subst ex
  obtain rfl : v = Value.ref a := r1
  obtain ⟨_, hsys, vs, rel, dof⟩ := dk_of I1.hok ha
  obtain ⟨ep, dat⟩ := dof.dictAt
  have dat' := dat
  obtain ⟨ob, es, ho, ex, hdat, hko, hpr, hnd⟩ := dat'
  refine ⟨"dict", "dict.values", PySem.F.plainAttrs_dict, PySem.F.slot_dict_values, PySem.F.type_dict_values, ⟨ob, ho, ex.1⟩, fun b e => ?_, Calls.callWith_builtin rfl (PySem.evalArgs_none ?_)⟩
  · cases e
    exact ⟨ob, ho, ex.2.1⟩
  refine call_meetsIn PySem.F.slot_dict_values ⟨ob, ho, ex.1⟩ PySem.F.entry_dict_values (PySem.F.args_dict_values_1 _) (meets_dict_values (mixKind X.prog X.w) a hsys) ⟨⟨vs, dof⟩, ?_⟩
  have k1 : ∀ b u, s1.heap.get? b = some u → (s1.heap.push { cls := .type "dict_values", data := .fields #[.ref a] }).get? b = some u := fun b u e => Heap.get?_push_of_some _ e
  have dat1 : (s1.heap.push { cls := .type "dict_values", data := .fields #[.ref a] }).DictAt (mixKind X.prog X.w) a vs ep := dat.keep k1
  have hlv : vs.length = is.length := by
    have e1 := congrArg List.length hv
    rw [List.length_map, List.length_map] at e1
    rw [← e1]
    exact (KV.length rel).symm
  have hval : ∀ (i : Nat) (v : Value), (∃ k, vs[i]? = some (k, v)) → ∃ t, v = Value.int (is.getD i 0) t := fun i v ⟨k, hk⟩ => by
    obtain ⟨x, h1, h2⟩ := KV.at' rel hk
    have e1 : (kvs.map (·.2))[i]? = some x := by rw [List.getElem?_map, h1] <;> rfl
    rw [hv, List.getElem?_map] at e1
    obtain ⟨j, hj, e2⟩ := Option.map_eq_some_iff.mp e1
    subst e2
    obtain ⟨t, e3⟩ := h2
    refine ⟨t, ?_⟩
    rw [e3, List.getD_eq_getElem?_getD, hj] <;> rfl
  refine call_sum_walkG (wpAny_pyIter_values (v := s1.heap.objs.size) (d := a) ⟨_, Heap.get?_push_size _ rfl, rfl, rfl⟩ dat1 ?_)
  have hlt : a < s1.heap.objs.size := Heap.lt_size ho
  have hsz : (s1.heap.push { cls := .type "dict_values", data := .fields #[.ref a] }).objs.size = s1.heap.objs.size + 1 := Heap.size_push _ _
  refine ⟨_, _, _, _, _, _, fun i => is.getD i 0, rfl, Walks.dictValues (knd := mixKind X.prog X.w) (A := X.A.in1) (I.ok.hd hc) (s1.heap.push { cls := .type "dict_values", data := .fields #[.ref a] }).objs.size a (by rw [hsz]; exact Nat.ne_of_lt (Nat.lt_succ_of_lt hlt)) vs ep,
    ⟨⟨_, Heap.get?_push_size _ rfl, rfl, rfl⟩, dat1.keep fun b u e => Heap.get?_push_of_some _ e⟩, fun b hb => ?_, hval, fun h' tk t' hk => ?_⟩
  · show b < ((s1.heap.push _).push _).objs.size
    rw [Heap.size_push, Heap.size_push]
    rw [hsz] at hb
    rcases List.mem_cons.mp hb with e | hb
    · rw [e]
      exact Nat.lt_succ_self _
    · have e : b = a := List.mem_singleton.mp hb
      rw [e]
      exact Nat.lt_succ_of_lt (Nat.lt_succ_of_lt hlt)
  · refine ⟨.int is.sum, H1, I1.kept (t' := tk) fun b u e => hk b u (fun hmem => ?_) (Heap.get?_push_of_some _ (k1 b u e)), ⟨t', ?_⟩, q⟩
    · have e1 : b = (s1.heap.push { cls := .type "dict_values", data := .fields #[.ref a] }).objs.size := List.mem_singleton.mp hmem
      have e2 := Heap.lt_size e
      rw [hsz] at e1
      rw [e1] at e2
      exact absurd e2 (Nat.not_lt.mpr (Nat.le_succ _))
    · rw [pre_sum is _ (by omega), hlv, List.take_length]
end
section
variable {K : PySem.W.Frag} {σ : L2.St} {H : Hp} {Q : VK} {D : Ends} {a b : Addr} {z v : V} {ty tx td : TE} {kvs : List (List Key × V)} {k : List Key}
def sumK (Q : VK) : VK := fun x H1 => ∃ (a : Addr) (kvs : List (Key × V)) (is : List Int), x = V.ref a ∧ H1 a = some (.dK kvs) ∧ kvs.map (·.2) = is.map V.int ∧ Q (.int is.sum) H1
theorem q_sumVals (h : td σ H (sumK Q)) : tSumVals td σ H Q := h
theorem q_sumK {kvs : List (Key × V)} {is : List Int} (h : H a = some (.dK kvs)) (e : kvs.map (·.2) = is.map V.int) (q : Q (.int is.sum) H) : sumK Q (.ref a) H := ⟨a, kvs, is, rfl, h, e, q⟩
theorem q_dG2aT (h : H a = some (.dT kvs)) (q : ty σ H fun y H2 => tx σ H2 (dG2K Q a y)) : dG2a ty tx σ Q (.ref a) H := ⟨a, rfl, .inr ⟨kvs, .inl h⟩, q⟩
theorem q_dG2T (h : H a = some (.dT kvs)) (hb : H b = some (.tup (k.map kV))) (q : Q ((valV kvs k).getD z) H) : dG2K Q a (.ref b) z H := ⟨_, DGet.t h hb, q⟩
theorem q_dPutT (h : H a = some (.dT kvs)) (hb : H b = some (.tup (k.map kV))) (hl : kvs.length < sizeLine) (q : D.nx σ (upd H a (.dT (putK kvs k v)))) : dPutK D σ v (.ref a) (.ref b) H := ⟨a, _, rfl, DPut.t h hb hl, q⟩
theorem q_dNewT (q : ∀ p, H p = none → Q (.ref p) (upd H p (.dT []))) : tDNewT σ H Q := q
end

/-! dicts keyed by nested tuples -/
mutual
inductive NV (H : Hp) : NestedKey → V → Prop
  | non : NV H .none .non
  | int (i : Int) : NV H (.num i) (.int i)
  | str (x : Str) : NV H (.text x) (.str x)
  | tup {b : Addr} {vs : List V} {ks : List NestedKey} : H b = some (.tup vs) → NVs H ks vs → NV H (.tup ks) (.ref b)
inductive NVs (H : Hp) : List NestedKey → List V → Prop
  | nil : NVs H [] []
  | cons {k : NestedKey} {v : V} {ks : List NestedKey} {vs : List V} : NV H k v → NVs H ks vs → NVs H (k :: ks) (v :: vs)
end
mutual
theorem NV.is {P : Program} {w : World} {H : Hp} {h : Heap} (ok : HOk P w H h) : ∀ {k : NestedKey} {v : V} {u : Value}, NV H k v → RelV v u → NestedIs h k u
  | _, _, _, .non, r => by cases (show _ = Value.none from r); exact .none
  | _, _, _, .int i, r => by obtain ⟨t, rfl⟩ := (show ∃ t, _ = Value.int i t from r); exact .int i t
  | _, _, _, .str x, r => by obtain ⟨t, rfl⟩ := (show ∃ t, _ = Value.str x t from r); exact .text x t
  | _, _, _, .tup (b := b) (vs := vs) hb hs, r => by
    cases (show _ = Value.ref b from r)
    obtain ⟨_, its, rv, o, o1, o2, n, o3⟩ := (show ObjOk P w H h b (.tup vs) from ok b _ hb)
    exact .tup o1 o2 o3 (by simpa using NVs.are ok hs rv)
theorem NVs.are {P : Program} {w : World} {H : Hp} {h : Heap} (ok : HOk P w H h) : ∀ {ks : List NestedKey} {vs : List V} {us : List Value}, NVs H ks vs → Vals vs us → NestedAll h ks us
  | _, _, _, .nil, r => by cases r; exact .nil
  | _, _, _, .cons a b, r => by
    cases r with
    | cons r1 r2 => exact .cons (NV.is ok a r1) (NVs.are ok b r2)
end
mutual
theorem NV.mono {H H' : Hp} (e : ∀ b ys, H b = some (.tup ys) → H' b = some (.tup ys)) : ∀ {k : NestedKey} {v : V}, NV H k v → NV H' k v
  | _, _, .non => .non
  | _, _, .int i => .int i
  | _, _, .str x => .str x
  | _, _, .tup h hs => .tup (e _ _ h) (NVs.mono e hs)
theorem NVs.mono {H H' : Hp} (e : ∀ b ys, H b = some (.tup ys) → H' b = some (.tup ys)) : ∀ {ks : List NestedKey} {vs : List V}, NVs H ks vs → NVs H' ks vs
  | _, _, .nil => .nil
  | _, _, .cons a b => .cons (NV.mono e a) (NVs.mono e b)
end
abbrev NKvs := List (NestedKey × Addr × V)
def nRel (p : NestedKey × Addr × V) (q : NestedKey × Addr × Value) : Prop := p.1 = q.1 ∧ p.2.1 = q.2.1 ∧ RelV p.2.2 q.2.2
def valN (kvs : NKvs) (k : NestedKey) : Option V := (kvs.find? fun p => decide (p.1 = k)).map (·.2.2)
/-- what is true of the object of such a dict -/
def dnP (P : Program) (w : World) (a : Addr) (kvs : NKvs) (h : Heap) : Prop := kvs.length ≤ sizeLine ∧ (a == sysModules) = false ∧ ∃ xs : List (NestedKey × Addr × Value), Paired nRel kvs xs ∧
  ∃ o es ep, h.get? a = some o ∧ o.ExactDict ∧ o.data = .dict es ep ∧ es.toList = xs.map (entryOfKey (nestedKind P w)) ∧ (xs.map (·.1)).Nodup
def DN (P : Program) (w : World) (a : Addr) (kvs : NKvs) : HO := .ext (dnP P w a kvs)
/-- its keys stand as tuples, to depth 8 -/
def NKeys (H : Hp) (kvs : NKvs) : Prop := ∀ p ∈ kvs, NV H p.1 (.ref p.2.1) ∧ p.1.depth ≤ 8
theorem NKeys.mono {H H' : Hp} {kvs : NKvs} (h : NKeys H kvs) (e : ∀ b ys, H b = some (.tup ys) → H' b = some (.tup ys)) : NKeys H' kvs := fun p hp => ⟨(h p hp).1.mono e, (h p hp).2⟩
theorem NKeys.snoc {H : Hp} {kvs : NKvs} {k : NestedKey} {b : Addr} {v : V} (h : NKeys H kvs) (hk : NV H k (.ref b)) (hd : k.depth ≤ 8) : NKeys H (kvs ++ [(k, b, v)]) := fun p hp => by
  rcases List.mem_append.mp hp with m | m
  · exact h p m
  · rw [List.mem_singleton.mp m]; exact ⟨hk, hd⟩
theorem n_val {kvs : NKvs} {xs : List (NestedKey × Addr × Value)} (r : Paired nRel kvs xs) (k : NestedKey) : RelO (valN kvs k) ((atKey xs k).map (·.2)) := by
  induction r with
  | nil => exact True.intro
  | @cons p q ps qs hpq t ih =>
    obtain ⟨e1, _, e3⟩ := hpq
    unfold valN atKey at ih ⊢
    rw [List.find?_cons, List.find?_cons, ← e1]
    by_cases e : p.1 = k
    · rw [decide_eq_true e]; exact e3
    · rw [decide_eq_false e]; exact ih
theorem dn_ok {P : Program} {w : World} {H : Hp} {h : Heap} {a : Addr} {kvs : NKvs} (d : dnP P w a kvs h) : ObjOk P w H h a (DN P w a kvs) := by
  refine ⟨d, ?_, fun g1 g2 q st => ?_⟩
  · obtain ⟨_, _, _, _, o, _, _, e, _⟩ := d
    exact ⟨o, e⟩
  · obtain ⟨z, y, xs, r, o, es, ep, e, c⟩ := q
    exact ⟨z, y, xs, r, o, es, ep, st _ e, c⟩
theorem n_keys {P : Program} {w : World} {H : Hp} {h : Heap} (ok : HOk P w H h) {kvs : NKvs} {xs : List (NestedKey × Addr × Value)} (r : Paired nRel kvs xs) : NKeys H kvs → ∀ x ∈ xs, (nestedKind P w).is h x.1 x.2.1 := by
  induction r with
  | nil => intro _ x hx; cases hx
  | @cons p q ps qs hpq t ih =>
    intro hk x hx
    rcases List.mem_cons.mp hx with m | m
    · obtain ⟨n1, n2⟩ := hk p List.mem_cons_self
      rw [m, ← hpq.1, ← hpq.2.1]
      exact ⟨NV.is ok n1 rfl, n2⟩
    · exact ih (fun p' hp' => hk p' (List.mem_cons_of_mem _ hp')) x m
section
variable {X : Cx} {pins : List (Addr × Obj)} {σ : L2.St} {H : Hp} {s : Shared} {a b : Addr} {kvs : NKvs} {k : NestedKey} {A : Around} {E : Value → Shared → Prop}
theorem dn_at (I : Inv X pins σ H s) (e : H a = some (DN X.prog X.w a kvs)) (hk : NKeys H kvs) : kvs.length ≤ sizeLine ∧ (a == sysModules) = false ∧ ∃ xs, Paired nRel kvs xs ∧ s.heap.DictOfH (nestedKind X.prog X.w) a xs := by
  obtain ⟨⟨z, y, xs, r, o, es, ep, e1, e2, e3, e4, e5⟩, _⟩ := (show ObjOk X.prog X.w H s.heap a (DN X.prog X.w a kvs) from I.hok a _ e)
  exact ⟨z, y, xs, r, o, es, ep, e1, e2, e3, e4, n_keys I.hok r hk, e5⟩
theorem dn_getItem {v : V} {Q : Value → Shared → Prop} (ha : A.units + 9 < cLine) (I : Inv X pins σ H s) (e : H a = some (DN X.prog X.w a kvs)) (hk : NKeys H kvs) (nk : NV H k (.ref b)) (dk : k.depth ≤ 8) (l : valN kvs k = some v)
    (q : ∀ u s', Inv X pins σ H s' → RelV v u → Q u s') : wpAny (model X.prog X.w) A (getItem (.ref a) (.ref b)) Q E s := by
  obtain ⟨z, hd, xs, rel, dd⟩ := dn_at I e hk
  obtain ⟨u, hu, ru⟩ := RelO.some_of (v := v) (o := (atKey xs k).map (·.2)) (by rw [← l]; exact n_val rel k)
  obtain ⟨p, hp, hp2⟩ := Option.map_eq_some_iff.mp hu
  refine wpAny_getItem_heap (knd := nestedKind X.prog X.w) (by show A.in1.units + 8 < cLine; exact ha) ⟨NV.is I.hok nk rfl, dk⟩ dd hp ?_
  rw [hp2]
  exact q u _ (I.tok _) ru
theorem dn_in {Q : Value → Shared → Prop} (ha : A.units + 9 < cLine) (I : Inv X pins σ H s) (e : H a = some (DN X.prog X.w a kvs)) (hk : NKeys H kvs) (nk : NV H k (.ref b)) (dk : k.depth ≤ 8)
    (q : ∀ s', Inv X pins σ H s' → Q (.bool (valN kvs k).isSome) s') : wpAny (model X.prog X.w) A (compareOp .In (.ref b) (.ref a)) Q E s := by
  obtain ⟨z, hd, xs, rel, dd⟩ := dn_at I e hk
  refine wpAny_in_heap (knd := nestedKind X.prog X.w) (by show A.in1.units + 8 < cLine; exact ha) ⟨NV.is I.hok nk rfl, dk⟩ hd dd ?_
  have t := (n_val rel k).isSome_eq
  rw [Option.isSome_map] at t
  rw [← t]
  exact q _ (I.tok _)
theorem dn_notIn {Q : Value → Shared → Prop} (ha : A.units + 9 < cLine) (I : Inv X pins σ H s) (e : H a = some (DN X.prog X.w a kvs)) (hk : NKeys H kvs) (nk : NV H k (.ref b)) (dk : k.depth ≤ 8)
    (q : ∀ s', Inv X pins σ H s' → Q (.bool (!(valN kvs k).isSome)) s') : wpAny (model X.prog X.w) A (compareOp .NotIn (.ref b) (.ref a)) Q E s := by
  obtain ⟨z, hd, xs, rel, dd⟩ := dn_at I e hk
  refine wpAny_notIn_heap (knd := nestedKind X.prog X.w) (by show A.in1.units + 8 < cLine; exact ha) ⟨NV.is I.hok nk rfl, dk⟩ hd dd ?_
  have t := (n_val rel k).isSome_eq
  rw [Option.isSome_map] at t
  rw [← t]
  exact q _ (I.tok _)
/-- a new key is stored -/
theorem dn_setItem {v : V} {u : Value} {Q : Unit → Shared → Prop} (ha : A.units + 9 < cLine) (I : Inv X pins σ H s) (e : H a = some (DN X.prog X.w a kvs)) (hk : NKeys H kvs) (nk : NV H k (.ref b)) (dk : k.depth ≤ 8) (l : valN kvs k = none) (hl : kvs.length < sizeLine) (ru : RelV v u)
    (q : ∀ s', Inv X pins σ (upd H a (DN X.prog X.w a (kvs ++ [(k, b, v)]))) s' → Q () s') : wpAny (model X.prog X.w) A (setItem (.ref a) (.ref b) u) Q E s := by
  obtain ⟨z, hd, xs, rel, dd⟩ := dn_at I e hk
  have hz : xs.length ≤ sizeLine := by rw [← Paired.length rel]; exact z
  have hn : atKey xs k = none := by
    have t := (n_val rel k).isSome_eq
    rw [l, Option.isSome_map] at t
    cases m : atKey xs k with
    | none => rfl
    | some _ => rw [m] at t; cases t
  refine wpAny_setItem_heap (knd := nestedKind X.prog X.w) (hsz := hz) (by show A.in1.units + 8 < cLine; exact ha) ⟨NV.is I.hok nk rfl, dk⟩ dd fun h' dd' hs => q _ ?_
  rw [storedH_new hn] at dd'
  obtain ⟨o, es, ep, e1, e2, e3, e4, _, e5⟩ := dd'
  exact d_write I (by rw [e]; exact True.intro) hs ⟨o, e1⟩ (dn_ok ⟨by rw [List.length_append]; exact hl, hd, _, Paired.snoc rel ⟨rfl, rfl, ru⟩, o, es, ep, e1, e2, e3, e4, e5⟩)
end
theorem hn_of {A : Around} {k : Nat} (hr : Room k A) : A.units + 9 < cLine := by have := hr65 hr; omega
def nGetK (P : Program) (w : World) (Q : VK) (x : V) : VK := fun y J => ∃ (a b : Addr) (kvs : NKvs) (k : NestedKey) (v : V), x = .ref a ∧ y = .ref b ∧ J a = some (DN P w a kvs) ∧ NKeys J kvs ∧ NV J k (.ref b) ∧ k.depth ≤ 8 ∧ valN kvs k = some v ∧ Q v J
def tNGet (P : Program) (w : World) (td ty : TE) : TE := fun σ H Q => td σ H fun x J => ty σ J (nGetK P w Q x)
def nInK (P : Program) (w : World) (n : Bool) (Q : VK) (y : V) : VK := fun x J => ∃ (a b : Addr) (kvs : NKvs) (k : NestedKey), x = .ref a ∧ y = .ref b ∧ J a = some (DN P w a kvs) ∧ NKeys J kvs ∧ NV J k (.ref b) ∧ k.depth ≤ 8 ∧ Q (.bl (xor n (valN kvs k).isSome)) J
def tNIn (P : Program) (w : World) (n : Bool) (ty td : TE) : TE := fun σ H Q => ty σ H fun y J => td σ J (nInK P w n Q y)
def nPutK (P : Program) (w : World) (D : Ends) (σ : L2.St) (v x : V) : VK := fun y J => ∃ (a b : Addr) (kvs : NKvs) (k : NestedKey), x = .ref a ∧ y = .ref b ∧ J a = some (DN P w a kvs) ∧ NKeys J kvs ∧ NV J k (.ref b) ∧ k.depth ≤ 8 ∧ valN kvs k = none ∧ kvs.length < sizeLine ∧ D.nx σ (upd J a (DN P w a (kvs ++ [(k, b, v)])))
def sNPut (P : Program) (w : World) (td ty tv : TE) : TS := fun D σ H => tv σ H fun v H1 => td σ H1 fun x H2 => ty σ H2 (nPutK P w D σ v x)
def tNNew (P : Program) (w : World) : TE := fun _ H Q => ∀ p, H p = none → Q (.ref p) (upd H p (DN P w p []))
section
variable {X : Cx} {o i value : Expr} {pos pos' : Pos} {td ty tv : TE}
theorem pe_nget (ha : X.A.units + 9 < cLine) (po : PE X o td) (pi : PE X i ty) (ns : NoSl i) : PE X (.Subscript o i pos) (tNGet X.prog X.w td ty) := ⟨fun pins s σ H Q I q => by
  refine subD_of PySem.F.slot_dict_getitem.lookup ns (thn (po.run pins s σ H _ I q) fun u s1 ⟨x, J, IJ, rx, q1⟩ => thn (pi.run pins s1 σ J _ IJ q1) fun iv s2 ⟨y, L, IL, ry, a, b, kvs, k, v, ex, ey, e, hk, nk, dk, l, q2⟩ => ?_)
  subst ex ey
  obtain rfl : u = Value.ref a := rx
  obtain rfl : iv = Value.ref b := ry
  obtain ⟨_, _, xs, _, dd⟩ := dn_at IL e hk
  exact ⟨dd.typeIs, dn_getItem ha IL e hk nk dk l fun z s3 I3 rz => ⟨v, L, I3, rz, q2⟩⟩⟩
theorem pc_nin (ha : X.A.units + 9 < cLine) (pi : PE X i ty) (po : PE X o td) : PC X .In i o (tNIn X.prog X.w false ty td) := ⟨fun pins s σ H Q I q => by
  refine thn (pi.run pins s σ H _ I q) fun iv s1 ⟨y, J, IJ, ry, q1⟩ => thn (po.run pins s1 σ J _ IJ q1) fun u s2 ⟨x, L, IL, rx, a, b, kvs, k, ex, ey, e, hk, nk, dk, q2⟩ => ?_
  subst ex ey
  obtain rfl : u = Value.ref a := rx
  obtain rfl : iv = Value.ref b := ry
  exact dn_in ha IL e hk nk dk fun s3 I3 => ⟨.bl (valN kvs k).isSome, L, I3, rfl, by rw [Bool.false_xor] at q2; exact q2⟩⟩
theorem pc_nnotin (ha : X.A.units + 9 < cLine) (pi : PE X i ty) (po : PE X o td) : PC X .NotIn i o (tNIn X.prog X.w true ty td) := ⟨fun pins s σ H Q I q => by
  refine thn (pi.run pins s σ H _ I q) fun iv s1 ⟨y, J, IJ, ry, q1⟩ => thn (po.run pins s1 σ J _ IJ q1) fun u s2 ⟨x, L, IL, rx, a, b, kvs, k, ex, ey, e, hk, nk, dk, q2⟩ => ?_
  subst ex ey
  obtain rfl : u = Value.ref a := rx
  obtain rfl : iv = Value.ref b := ry
  exact dn_notIn ha IL e hk nk dk fun s3 I3 => ⟨.bl (!(valN kvs k).isSome), L, I3, rfl, by rw [Bool.true_xor] at q2; exact q2⟩⟩
theorem ps_nput (ha : X.A.units + 9 < cLine) (po : PE X o td) (pi : PE X i ty) (pv' : PE X value tv) (sw : swapsWith value (some (.Subscript o i pos')) pos.line X.env = pure false) : PS X (.Assign [.Subscript o i pos'] value pos) (sNPut X.prog X.w td ty tv) := ⟨fun pins s σ H D I q => by
  refine wpAny_Assign_Subscript (thn (pv'.run pins s σ H _ I q) fun r s1 ⟨v, J1, I1, rv, q1⟩ => thn (po.run pins s1 σ J1 _ I1 q1) fun u s2 ⟨x, J2, I2, rx, q2⟩ => thn (pi.run pins s2 σ J2 _ I2 q2) fun iv s3 ⟨y, J3, I3, ry, a, b, kvs, k, ex, ey, e, hk, nk, dk, l, hl, q3⟩ => ?_) sw
  subst ex ey
  obtain rfl : u = Value.ref a := rx
  obtain rfl : iv = Value.ref b := ry
  exact dn_setItem ha I3 e hk nk dk l hl rv fun s4 I4 => ⟨σ, _, I4, q3⟩⟩
theorem pe_nnew : PE X (.Dict [] [] pos) (tNNew X.prog X.w) := ⟨fun pins s σ H Q I q =>
  wpAny_Dict_empty ⟨.ref s.heap.objs.size, _, I.laid (a := s.heap.objs.size) (o := DN X.prog X.w s.heap.objs.size []) (t' := s.toks) (fun _ _ z => Heap.get?_push_of_some _ z) (Nat.le_refl _)
    (dn_ok ⟨Nat.zero_le _, beq_eq_false_iff_ne.mpr (Ne.symm (Nat.ne_of_lt I.big)), [], .nil, _, #[], 0, Heap.get?_push_size _ rfl, ⟨rfl, rfl, rfl⟩, rfl, rfl, List.nodup_nil⟩), rfl, q _ (I.hok.fresh (Nat.le_refl _))⟩⟩
end
section
variable {P : Program} {w : World} {σ : L2.St} {H : Hp} {Q : VK} {D : Ends} {td ty tv : TE} {a b : Addr} {kvs : NKvs} {k : NestedKey} {v : V} {n : Bool}
theorem q_tNGet (q : td σ H fun x J => ty σ J (nGetK P w Q x)) : tNGet P w td ty σ H Q := q
theorem q_nGetK (e : H a = some (DN P w a kvs)) (hk : NKeys H kvs) (nk : NV H k (.ref b)) (dk : k.depth ≤ 8) (l : valN kvs k = some v) (q : Q v H) : nGetK P w Q (.ref a) (.ref b) H := ⟨a, b, kvs, k, v, rfl, rfl, e, hk, nk, dk, l, q⟩
theorem q_tNIn (q : ty σ H fun y J => td σ J (nInK P w n Q y)) : tNIn P w n ty td σ H Q := q
theorem q_nInK (e : H a = some (DN P w a kvs)) (hk : NKeys H kvs) (nk : NV H k (.ref b)) (dk : k.depth ≤ 8) (q : Q (.bl (xor n (valN kvs k).isSome)) H) : nInK P w n Q (.ref b) (.ref a) H := ⟨a, b, kvs, k, rfl, rfl, e, hk, nk, dk, q⟩
theorem q_sNPut (q : tv σ H fun v H1 => td σ H1 fun x H2 => ty σ H2 (nPutK P w D σ v x)) : sNPut P w td ty tv D σ H := q
theorem q_nPutK (e : H a = some (DN P w a kvs)) (hk : NKeys H kvs) (nk : NV H k (.ref b)) (dk : k.depth ≤ 8) (l : valN kvs k = none) (hl : kvs.length < sizeLine) (q : D.nx σ (upd H a (DN P w a (kvs ++ [(k, b, v)])))) : nPutK P w D σ v (.ref a) (.ref b) H := ⟨a, b, kvs, k, rfl, rfl, e, hk, nk, dk, l, hl, q⟩
theorem q_tNNew (q : ∀ p, H p = none → Q (.ref p) (upd H p (DN P w p []))) : tNNew P w σ H Q := q
end
theorem pss_cls2 {X : Cx} {oe : Obj} {cls : Value} {d : Option Addr} {b : List Stmt} {C C2 : Addr} {t t2 : TS} (hz : Zc cls d oe) (h : Zc (.ref C) none oe → PSs X b t) (h2 : Zc (.ref C2) none oe → PSs X b t2) :
    PSs X b (fun D σ H => ((cls = .ref C ∧ d = none) ∧ t D σ H) ∨ ((cls = .ref C2 ∧ d = none) ∧ t2 D σ H)) := ⟨fun pins s σ H D I q => by
  rcases q with ⟨⟨e1, e2⟩, q⟩ | ⟨⟨e1, e2⟩, q⟩
  · rw [e1, e2] at hz; exact (h hz).run pins s σ H D I q
  · rw [e1, e2] at hz; exact (h2 hz).run pins s σ H D I q⟩
theorem passF {P : Program} {w : World} {X : Cx} : Passes (L2.CX P w) X E0 := fun _ _ _ _ _ _ _ h => by
  obtain ⟨_, _, _, _, _, _, _, _, _, _, _, _, h⟩ := h
  exact h.elim

/-! an attribute or an item changed by an operator; a list unpacked; the sum over a dict's keys -/
section
variable {K : PySem.W.Frag} {σ : L2.St} {H : Hp} {Q : VK} {D : Ends} {a C dx : Addr} {v : V} {i j : Int} {ta tv td ty : TE} {rd : V → V → Hp → VK → Prop} {f s : Str} {fs : List (Str × V)} {kvs : List (Key × V)}
def faug2 (rd : V → V → Hp → VK → Prop) (v : V) (f : Str) (a C : Addr) (D : Ends) (σ : L2.St) : VK := fun y H2 => rd v y H2 fun z H3 => ∃ dx' fs', H3 a = some (.ins C dx' fs') ∧ fs'.length < 1000 ∧ D.nx σ (upd H3 a (.ins C dx' (putF f z fs')))
def faugK (K : PySem.W.Frag) (tv : TE) (rd : V → V → Hp → VK → Prop) (f : Str) (D : Ends) (σ : L2.St) : VK := fun x H1 => ∃ a C dx fs v, x = .ref a ∧ H1 a = some (.ins C dx fs) ∧ Cls K C ∧ NoAttr K C f ∧ fs.lookup f = some v ∧ tv σ H1 (faug2 rd v f a C D σ)
theorem q_sFldAug (h : ta σ H (faugK K tv rd f D σ)) : sFldAug K ta tv rd f D σ H := h
theorem q_faugK (h : H a = some (.ins C dx fs)) (hc : Cls K C) (hn : NoAttr K C f) (hl : fs.lookup f = some v) (k : tv σ H (faug2 rd v f a C D σ)) : faugK K tv rd f D σ (.ref a) H := ⟨a, C, dx, fs, v, rfl, h, hc, hn, hl, k⟩
theorem q_faugA (h : H a = some (.ins C dx fs)) (hl : fs.length < 1000) (k : D.nx σ (upd H a (.ins C dx (putF f (.int (i + j)) fs)))) : faug2 rAdd (.int i) f a C D σ (.int j) H := ⟨i, j, rfl, rfl, dx, fs, h, hl, k⟩
theorem q_faugS (h : H a = some (.ins C dx fs)) (hl : fs.length < 1000) (k : D.nx σ (upd H a (.ins C dx (putF f (.int (i - j)) fs)))) : faug2 rSub (.int i) f a C D σ (.int j) H := ⟨i, j, rfl, rfl, dx, fs, h, hl, k⟩
def daug2 (rd : V → V → Hp → VK → Prop) (D : Ends) (σ : L2.St) (v : V) (a : Addr) (y : V) : VK := fun y2 H3 => rd v y2 H3 fun z H4 => ∃ H5, DPut H4 a y z H5 ∧ D.nx σ H5
def daugK (tv : TE) (rd : V → V → Hp → VK → Prop) (D : Ends) (σ : L2.St) (x : V) : VK := fun y H2 => ∃ a v, x = .ref a ∧ DGet H2 a y (some v) ∧ tv σ H2 (daug2 rd D σ v a y)
theorem q_sDAug (h : td σ H fun x H1 => ty σ H1 (daugK tv rd D σ x)) : sDAug td ty tv rd D σ H := h
theorem q_daugK (h : H a = some (.dK kvs)) (hv : valV kvs (.inr s) = some v) (k : tv σ H (daug2 rd D σ v a (.str s))) : daugK tv rd D σ (.ref a) (.str s) H := ⟨a, v, rfl, by rw [← hv]; exact DGet.k (k := Sum.inr s) h, k⟩
theorem q_daugS (h : H a = some (.dK kvs)) (hl : kvs.length < sizeLine) (k : D.nx σ (upd H a (.dK (putK kvs (.inr s) (.int (i - j)))))) : daug2 rSub D σ (.int i) a (.str s) (.int j) H := ⟨i, j, rfl, rfl, _, DPut.k (k := Sum.inr s) h hl, k⟩
theorem q_daugA (h : H a = some (.dK kvs)) (hl : kvs.length < sizeLine) (k : D.nx σ (upd H a (.dK (putK kvs (.inr s) (.int (i + j)))))) : daug2 rAdd D σ (.int i) a (.str s) (.int j) H := ⟨i, j, rfl, rfl, _, DPut.k (k := Sum.inr s) h hl, k⟩
end
def rMulStr01 : R2 := fun x y H Q => ∃ s, x = .str s ∧ ((y = .int 1 ∧ Q (.str s) H) ∨ (y = .int 0 ∧ Q (.str Str.empty) H))
theorem oq_mulStr01 {X : Cx} : OpR X (binaryOp .Mult) rMulStr01 := by
  intro pins s σ H x y v u Q I rx ry h
  obtain ⟨z, rfl, h⟩ := h
  obtain ⟨t, rfl⟩ := rx
  rcases h with ⟨rfl, q⟩ | ⟨rfl, q⟩
  · obtain ⟨t', rfl⟩ := ry
    refine PySem.P.mul_str (by decide) (fun _ h => by cases h) (fun _ h => by cases h) ?_
    rw [if_neg (show ¬ (1 : Int) < 1 by omega), if_pos (by rfl)]
    exact ⟨.str z, H, I, ⟨_, rfl⟩, q⟩
  · obtain ⟨t', rfl⟩ := ry
    exact PySem.P.mul_str_none (by decide) (by decide) ⟨.str Str.empty, H, I.tok _, ⟨_, rfl⟩, q⟩
theorem q_mul1 {H : Hp} {Q : VK} {s : Str} (k : Q (.str s) H) : rMulStr01 (.str s) (.int 1) H Q := ⟨s, rfl, .inl ⟨rfl, k⟩⟩
theorem q_mul0 {H : Hp} {Q : VK} {s : Str} (k : Q (.str Str.empty) H) : rMulStr01 (.str s) (.int 0) H Q := ⟨s, rfl, .inr ⟨rfl, k⟩⟩
theorem q_int1f {H : Hp} {Q : VK} (k : Q (.int 0) H) : rInt1 [.bl false] H Q := .inr ⟨false, rfl, k⟩
/-! a walk over a dict's own keys, reading it -/
theorem q_unl {K : PySem.W.Frag} {σ : L2.St} {H : Hp} {a : Addr} {xs : List V} {n : Nat} {tg : TGs} {R : L2.St → Hp → Prop} (h : SqL K H a xs) (hn : xs.length = n) (k : tg xs σ H R) : gUnl K n tg (.ref a) σ H R := ⟨a, xs, rfl, h, hn, k⟩
/-! while -/
section
variable {σ : L2.St} {H : Hp} {D : Ends} {c : TT} {tb : TS}
def whK (tb : TS) (D : Ends) (Pv : Nat → L2.St → Hp → Prop) (m : Nat) (σ : L2.St) : Bool → Hp → Prop := fun b H1 => if b = true then ∃ N : L2.St → Hp → Prop, (∀ σ' H', N σ' H' → ∃ m', m' < m ∧ Pv m' σ' H') ∧ tb { D with nx := N, ct := N, bk := D.nx } σ H1 else D.nx σ H1
theorem q_while (Pv : Nat → L2.St → Hp → Prop) {m0 : Nat} (h0 : Pv m0 σ H) (hs : ∀ m σ H, Pv m σ H → c σ H (whK tb D Pv m σ)) : tWhile c tb D σ H := ⟨Pv, ⟨m0, h0⟩, hs⟩
theorem q_whT {Pv : Nat → L2.St → Hp → Prop} {m : Nat} (h : tb { D with nx := fun σ' H' => ∃ m', m' < m ∧ Pv m' σ' H', ct := fun σ' H' => ∃ m', m' < m ∧ Pv m' σ' H', bk := D.nx } σ H) : whK tb D Pv m σ true H := iteT ⟨_, fun _ _ h => h, h⟩
theorem q_whF {Pv : Nat → L2.St → Hp → Prop} {m : Nat} (h : D.nx σ H) : whK tb D Pv m σ false H := iteF h
theorem q_wh2 {Pv : Nat → L2.St → Hp → Prop} {m : Nat} {b : Bool} (h : b = true → tb { D with nx := fun σ' H' => ∃ m', m' < m ∧ Pv m' σ' H', ct := fun σ' H' => ∃ m', m' < m ∧ Pv m' σ' H', bk := D.nx } σ H) (h2 : b = false → D.nx σ H) : whK tb D Pv m σ b H := by
  cases b with
  | true => exact q_whT (h rfl)
  | false => exact q_whF (h2 rfl)
end
/-! one suite for several classes; get of one argument; del of an item of a dict; index; dict of pairs -/
theorem pss_clsC {X : Cx} {oe : Obj} {cls : Value} {d : Option Addr} {b : List Stmt} {C : Addr} {t t2 : TS} (hz : Zc cls d oe) (h : Zc (.ref C) none oe → PSs X b t) (h2 : PSs X b t2) :
    PSs X b (fun D σ H => ((cls = .ref C ∧ d = none) ∧ t D σ H) ∨ t2 D σ H) := ⟨fun pins s σ H D I q => by
  rcases q with ⟨⟨e1, e2⟩, q⟩ | q
  · rw [e1, e2] at hz; exact (h hz).run pins s σ H D I q
  · exact h2.run pins s σ H D I q⟩
section
variable {K : PySem.W.Frag} {σ : L2.St} {H : Hp} {Q : VK} {D : Ends} {a l : Addr} {v : V} {i : Int} {td ty : TE} {kvs : List (Key × V)} {s : Str}
def dG1K (Q : VK) (a : Addr) : VK := fun y H2 => ∃ o, DGet H2 a y o ∧ Q (o.getD .non) H2
def dG1a (ty : TE) (σ : L2.St) (Q : VK) : VK := fun x H1 => ∃ a, x = .ref a ∧ IsD H1 a ∧ ty σ H1 (dG1K Q a)
theorem q_tDGet1 (h : td σ H (dG1a ty σ Q)) : tDGet1 td ty σ H Q := h
theorem q_dG1a (h : H a = some (.dK kvs)) (k : ty σ H (dG1K Q a)) : dG1a ty σ Q (.ref a) H := ⟨a, rfl, .inl ⟨kvs, .inl h⟩, k⟩
theorem q_dG1S (h : H a = some (.dK kvs)) (k : Q ((valV kvs (.inr s)).getD .non) H) : dG1K Q a (.str s) H := ⟨_, DGet.k (k := Sum.inr s) h, k⟩
theorem q_dG1I (h : H a = some (.dK kvs)) (k : Q ((valV kvs (.inl i)).getD .non) H) : dG1K Q a (.int i) H := ⟨_, DGet.k (k := Sum.inl i) h, k⟩
def ddelK (D : Ends) (σ : L2.St) (x : V) : VK := fun y H2 => ∃ a kvs k, x = .ref a ∧ H2 a = some (.dK kvs) ∧ y = kV k ∧ (valV kvs k).isSome = true ∧ D.nx σ (upd H2 a (.dK (dropK kvs k)))
theorem q_sDDel (h : td σ H fun x H1 => ty σ H1 (ddelK D σ x)) : sDDel td ty D σ H := h
theorem q_ddelI (h : H a = some (.dK kvs)) (hs : (valV kvs (.inl i)).isSome = true) (k : D.nx σ (upd H a (.dK (dropK kvs (.inl i))))) : ddelK D σ (.ref a) (.int i) H := ⟨a, kvs, .inl i, rfl, h, rfl, hs, k⟩
theorem q_index {ys : List V} {y z : V} {j : Nat} (h : SqL K H a ys) (hy : flatV y = true) (ha : ys.all flatV = true) (hz : ys[j]? = some z) (he : eqV z y = true) (hf : ∀ (m : Nat) (z' : V), m < j → ys[m]? = some z' → eqV z' y = false) (k : Q (.int (j : Nat)) H) : rIndex K (.ref a) [y] H Q := ⟨a, ys, y, j, z, rfl, rfl, h, hy, ha, hz, he, hf, k⟩
theorem q_dSdS' {z : V} (h : H a = some (.dK kvs)) (hl : kvs.length < sizeLine) (k1 : ∀ v, valV kvs (.inr s) = some v → Q v H) (k2 : valV kvs (.inr s) = none → Q z (upd H a (.dK (putK kvs (.inr s) z)))) : dSdK Q a (.str s) z H := ⟨kvs, .inr s, h, rfl, hl, k1, k2⟩
def rDictP (K : PySem.W.Frag) : List V → Hp → VK → Prop := fun xs H Q => ∃ (a : Addr) (ps : List Addr) (kvs : List (Key × V)), xs = [.ref a] ∧ SqL K H a (ps.map V.ref) ∧ Paired (fun p kv => SqT K H p [kV kv.1, kv.2]) ps kvs ∧ ∀ p, H p = none → Q (.ref p) (upd H p (.dK (mergeK [] kvs)))
theorem cq_dictP {X : Cx} (hc : X.calm = true) : CallR X (.type "dict") (rDictP X.K) := call_dictP hc
def rLenD' : List V → Hp → VK → Prop := rLenD
theorem q_lenD (h : H a = some (.dK kvs)) (k : Q (.int kvs.length) H) : rLenD [.ref a] H Q := ⟨a, kvs, rfl, h, k⟩
theorem q_inL' {xs : List V} {x : V} (h : SqL K H l xs) (hx : flatV x = true) (ha : xs.all flatV = true) (k : Q (.bl (!inV x xs)) H) : rIn K true x (.ref l) H Q := ⟨l, xs, rfl, .inl h, hx, ha, k⟩
theorem q_eqB {c d : Bool} (k : Q (.bl (c == d)) H) : rEq (.bl c) (.bl d) H Q := ⟨rfl, by
  have e : decide (V.bl c = V.bl d) = (c == d) := by cases c <;> cases d <;> rfl
  rw [e]; exact k⟩
end
/-! a walk over a list that its body leaves ahead of the list's end: also within an except suite -/
def tForX (K : PySem.W.Frag) (te : TE) (g : TG) (tb : TS) : TS := fun D τ L => te τ L fun v M => ∃ (a : Addr) (ys : List V) (Pv : Nat → L2.St → Hp → Prop), v = .ref a ∧ SqL K M a ys ∧ Pv 0 τ M ∧
  ∀ n τ1 L1, Pv n τ1 L1 → SqL K L1 a ys ∧ ∃ y, ys[n]? = some y ∧ g y τ1 L1 fun τ2 L2 => tb { D with nx := Pv (n + 1), ct := Pv (n + 1), bk := D.nx } τ2 L2
theorem ps_forX {X : Cx} {tg l : Expr} {bd : List Stmt} {te : TE} {g : TG} {tb : TS} {ps : Pos} (own : PassesOwn (model X.prog X.w) X.A X.env X.xe) (hl : PE X l te) (hg : PG X tg g) (hb : PSs X bd tb)
    (fs : ∀ x, foldedSetIterable l X.env x = pure x := by intro _; rfl) : PS X (.For tg l bd [] ps) (tForX X.K te g tb) := by
  refine ⟨fun pn s0 τ0 L0 D J0 q0 => ?_⟩
  refine wpAny_For (thn (hl.run pn s0 τ0 L0 _ J0 q0) fun v0 sA ⟨x0, LA, JA, rA, a, ys, Pv, e0, hys, p0, turn⟩ => ?_) fs
  subst e0
  cases rA
  obtain ⟨_, _, isl, _⟩ := JA.list hys
  refine wpAny_pyIter_list isl.isList ?_
  have fok0 : FpOk X pn LA sA.heap.objs.size := JA.fpOk (Nat.le_refl _) (JA.hok.fresh (Nat.le_refl _))
  generalize hwalk : sA.heap.objs.size = wk at *
  have JB : Inv X pn τ0 LA { sA with heap := sA.heap.push { cls := .type "list_iterator", data := .fields #[.ref a, rawInt 0] } } := JA.kept (t' := sA.toks) fun b o e => Heap.get?_push_of_some _ e
  refine codeAny_forLoop_any (fun m s => ∃ n τ L, Inv X pn τ L s ∧ s.heap.IsListIter wk a n ∧ L wk = none ∧ Pv n τ L ∧ m + n = ys.length) ?_ ys.length ⟨0, τ0, LA, JB, ⟨_, by rw [← hwalk]; exact Heap.get?_push_size _ rfl, rfl, rfl⟩, fok0.1, p0, rfl⟩
  rintro m sB ⟨n, τ1, L1, J1, it1, none1, p1, hmn⟩
  obtain ⟨hys1, y, hy, st1⟩ := turn n τ1 L1 p1
  have hlt : n < ys.length := (List.getElem?_eq_some_iff.mp hy).1
  obtain ⟨_, rv1, isl1, _⟩ := J1.list hys1
  obtain ⟨u, hu, ru⟩ := rv1.get hy
  obtain ⟨_, z1, z2, z3, z4, z5⟩ := fok0
  refine wpAny_passesOwn own (wpAny_pyNext_list_item it1 isl1.isList (x := u) (by simpa using hu) fun h' it2 sb => ?_)
  have J2 : Inv X pn τ1 L1 { sB with heap := h' } := J1.turned (t' := sB.toks) (fun b o ne e => (sb.2 b ne).trans e) none1 z1 z3 z4 z5
  obtain ⟨oi, ei, ci, di⟩ := id it2
  refine wpAny_passesOwn own (go_of (s := { sB with heap := h' }) ei ci di (by decide) ?_)
  have hnc : ∀ v, oi.data ≠ .cell v := fun v z => by rw [di] at z; cases z
  have J3 : Inv X (pn ++ pinsAt [wk] h') τ1 L1 { sB with heap := h' } := J2.pinned (fun b hb => by rw [List.mem_singleton.mp hb]; exact ⟨none1, z1, z2, z3, z4, z5⟩) fun b hb => by rw [List.mem_singleton.mp hb]; exact ⟨oi, ei, hnc⟩
  have back : ∀ {τ L s}, Inv X (pn ++ pinsAt [wk] h') τ L s → Pv (n + 1) τ L → ∃ k, k < m ∧ ∃ n τ L, Inv X pn τ L s ∧ s.heap.IsListIter wk a n ∧ L wk = none ∧ Pv n τ L ∧ k + n = ys.length := fun {τ L s} J p => by
    obtain ⟨r1, r2, _⟩ := J.pin (wk, oi) (List.mem_append_right _ (List.mem_append_right _ (mem_pinsAt (List.mem_singleton.mpr rfl) ei)))
    exact ⟨m - 1, by omega, n + 1, τ, L, J.unpinned, ⟨oi, r1, ci, di⟩, r2, p, by omega⟩
  refine wpAny_passesOwn own (thn (hg.run _ _ τ1 L1 y u _ J3 ru st1) fun _ sC ⟨τ2, L2, J4, q4⟩ => ?_)
  refine wpAny_passesOwn own (thn (hb.run _ sC τ2 L2 _ J4 q4) fun fl sD q5 => ?_)
  cases fl with
  | next => obtain ⟨τ5, L5, J5, p5⟩ := q5; exact back J5 p5
  | cont => obtain ⟨τ5, L5, J5, p5⟩ := q5; exact back J5 p5
  | brk => obtain ⟨τ5, L5, J5, p5⟩ := q5; exact ⟨τ5, L5, J5.unpinned, p5⟩
  | ret v => obtain ⟨x5, τ5, L5, J5, r5, p5⟩ := q5; exact ⟨x5, τ5, L5, J5.unpinned, r5, p5⟩
theorem q_forX {K : PySem.W.Frag} {τ : L2.St} {M : Hp} {te : TE} {g : TG} {tb : TS} {D : Ends} (h : te τ M fun v M => ∃ (a : Addr) (ys : List V) (Pv : Nat → L2.St → Hp → Prop), v = .ref a ∧ SqL K M a ys ∧ Pv 0 τ M ∧
  ∀ n τ1 L1, Pv n τ1 L1 → SqL K L1 a ys ∧ ∃ y, ys[n]? = some y ∧ g y τ1 L1 fun τ2 L2 => tb { D with nx := Pv (n + 1), ct := Pv (n + 1), bk := D.nx } τ2 L2) : tForX K te g tb D τ M := h
theorem ps_forXK {K : PySem.W.Frag} {X : Cx} {tg l : Expr} {bd : List Stmt} {te : TE} {g : TG} {tb : TS} {ps : Pos} (hK : X.K = K) (own : PassesOwn (model X.prog X.w) X.A X.env X.xe) (hl : PE X l te) (hg : PG X tg g) (hb : PSs X bd tb)
    (fs : ∀ x, foldedSetIterable l X.env x = pure x := by intro _; rfl) : PS X (.For tg l bd [] ps) (tForX K te g tb) := hK ▸ ps_forX own hl hg hb fs
theorem ix_tupK {K : PySem.W.Frag} {X : Cx} (hK : X.K = K) : IxR X (rIxT K) := hK ▸ ix_tup
theorem ix_listK {K : PySem.W.Frag} {X : Cx} (hK : X.K = K) : IxR X (rIxL K) := hK ▸ ix_list
def mkA (C : Addr) (sp : Sp) (E : XK) (Q : VK) : List V → Hp → Prop := fun vs J => ∀ x dx, J x = none → J dx = none → dx ≠ x → sp (.ref x :: vs) (upd (upd J dx (.own x)) x (.ins C dx [])) (fun v L => v = .non ∧ Q (.ref x) L) E
theorem q_tMake {C : Addr} {sp : Sp} {E : XK} {t : TA} {σ : L2.St} {H : Hp} {Q : VK} (h : t σ H (mkA C sp E Q)) : tMake C sp [] E t σ H Q := by
  unfold tMake
  have e : mkA C sp E Q = fun vs J => ∀ x dx, J x = none → J dx = none → dx ≠ x → sp (.ref x :: (vs ++ [])) (upd (upd J dx (.own x)) x (.ins C dx [])) (fun v L => v = .non ∧ Q (.ref x) L) E := by
    funext vs J
    unfold mkA
    rw [List.append_nil]
  rw [← e]
  exact h

local macro_rules | `(tactic| walk_at "my_rd") => `(tactic| (repeat first
  | with_reducible refine q_tCons ?_
  | ((with_reducible apply q_var); (focus (exact rfl)))
  | with_reducible refine q_c ?_
  | with_reducible refine q_nx ?_
  | with_reducible refine q_bK ?_
  | with_reducible refine q_call ?_
  | with_reducible refine q_callK ?_
  | with_reducible refine q_tNil ?_
  | with_reducible refine q_cb ?_
  | with_reducible refine q_seq ?_
  | with_reducible refine q_asg ?_
  | with_reducible refine q_gName ?_
  | with_reducible refine q_op ?_
  | with_reducible refine q_test ?_
  | with_reducible refine q_tB ?_
  | with_reducible refine q_ifS ?_
  | with_reducible refine q_ret ?_
  | with_reducible refine q_rt ?_
  | with_reducible refine q_next ?_
  | with_reducible refine q_ifF ?_
  | with_reducible refine q_ifT ?_
  | with_reducible refine q_drop ?_
  | with_reducible refine q_and ?_
  | with_reducible refine q_or ?_
  | with_reducible refine q_andT ?_
  | with_reducible refine q_andF ?_
  | with_reducible refine q_orF ?_
  | with_reducible refine q_orT ?_
  | with_reducible refine q_andV ?_
  | with_reducible refine q_andVT ?_
  | with_reducible refine q_andVF ?_
  | with_reducible refine q_orV ?_
  | with_reducible refine q_gCons ?_
  | with_reducible refine q_gNil ?_
  | with_reducible refine q_tup ?_
  | with_reducible refine q_lst ?_
  | with_reducible refine q_not ?_
  | with_reducible refine q_notKT ?_
  | with_reducible refine q_notKF ?_
  | with_reducible refine q_I0 ?_
  | with_reducible refine q_eqI ?_
  | with_reducible refine q_neI ?_
  | ((with_reducible refine q_I ?_ ?_); first | decide | omega | exact ⟨by omega, by omega⟩ | exact ⟨by decide, by decide⟩ | exact .inl ⟨by omega, by omega⟩ | exact .inr ⟨by omega, by omega⟩ | exact .inr ⟨by decide, by decide⟩)
  | with_reducible refine q_eqS ?_
  | with_reducible refine q_neS ?_
  | with_reducible refine q_brk ?_
  | with_reducible refine q_ct ?_
  | with_reducible refine q_bk ?_
  | with_reducible refine q_cn ?_
  | with_reducible refine q_retN ?_
  | with_reducible refine q_gSub ?_
  | with_reducible refine q_for ?_
  | with_reducible refine q_iList ?_
  | with_reducible refine q_iTup ?_
  | with_reducible refine q_iRng1 ?_
  | with_reducible refine q_notK ?_
  | with_reducible refine q_orVT ?_
  | with_reducible refine q_orVF ?_
  | with_reducible refine q_notV ?_
  | with_reducible refine q_notVK ?_
  | with_reducible refine q_ifE ?_
  | with_reducible refine q_ifET ?_
  | with_reducible refine q_ifEF ?_
  | with_reducible refine q_yes ?_
  | with_reducible refine q_un ?_
  | with_reducible refine q_rU ?_
  | with_reducible refine q_abs ?_
  | with_reducible refine q_int1 ?_
  | with_reducible refine q_bm ?_
  | with_reducible refine q_bm0 ?_
  | with_reducible refine q_lc ?_
  | with_reducible refine q_keepT ?_
  | with_reducible refine q_keepF ?_
  | ((with_reducible apply q_aug); (focus (exact rfl)))
  | with_reducible refine q_ipI ?_
  | with_reducible refine q_chain ?_
  | with_reducible refine q_pairC ?_
  | with_reducible refine q_pairsK ?_
  | with_reducible refine q_pairN ?_
  | with_reducible refine q_fld ?_
  | with_reducible refine q_sFld ?_
  | with_reducible refine q_meth ?_
  | with_reducible refine q_makeK ?_
  | with_reducible refine q_isBl ?_
  | with_reducible refine q_notBl ?_
  | with_reducible refine q_sl ?_
  | with_reducible refine q_noPart ?_
  | with_reducible refine q_part ?_
  | with_reducible refine q_partK ?_
  | ((with_reducible apply q_mulStr); (focus (decide +kernel)))
  | with_reducible refine q_chT ?_
  | with_reducible refine q_chF ?_
  | with_reducible refine q_ord ?_
  | with_reducible refine q_iStr0 ?_
  | with_reducible refine q_iStr ?_
  | with_reducible refine q_tDIn ?_
  | with_reducible refine q_tDNotIn ?_
  | with_reducible refine q_tDGet ?_
  | with_reducible refine q_tDGet2 ?_
  | with_reducible refine q_tDGet1 ?_
  | with_reducible refine q_tDSetd ?_
  | ((with_reducible apply q_dG2a); (focus ((repeat first | (with_reducible exact upd_same) | (with_reducible assumption) | (with_reducible apply upd_new (by assumption)) | (with_reducible apply upd_other (by first | assumption | exact Ne.symm (by assumption))) | (with_reducible refine' Kp.get (by assumption) ?_ (by first | assumption | exact Ne.symm (by assumption))) | (with_reducible apply Same.get (by assumption))); done)))
  | ((with_reducible apply q_dSda); (focus ((repeat first | (with_reducible exact upd_same) | (with_reducible assumption) | (with_reducible apply upd_new (by assumption)) | (with_reducible apply upd_other (by first | assumption | exact Ne.symm (by assumption))) | (with_reducible refine' Kp.get (by assumption) ?_ (by first | assumption | exact Ne.symm (by assumption))) | (with_reducible apply Same.get (by assumption))); done)))
  | with_reducible refine q_sDPut ?_
  | ((with_reducible apply q_dInS); (focus ((repeat first | (with_reducible exact upd_same) | (with_reducible assumption) | (with_reducible apply upd_new (by assumption)) | (with_reducible apply upd_other (by first | assumption | exact Ne.symm (by assumption))) | (with_reducible refine' Kp.get (by assumption) ?_ (by first | assumption | exact Ne.symm (by assumption))) | (with_reducible apply Same.get (by assumption))); done)))
  | ((with_reducible apply q_dNInS); (focus ((repeat first | (with_reducible exact upd_same) | (with_reducible assumption) | (with_reducible apply upd_new (by assumption)) | (with_reducible apply upd_other (by first | assumption | exact Ne.symm (by assumption))) | (with_reducible refine' Kp.get (by assumption) ?_ (by first | assumption | exact Ne.symm (by assumption))) | (with_reducible apply Same.get (by assumption))); done)))
  | ((with_reducible apply q_dInI); (focus ((repeat first | (with_reducible exact upd_same) | (with_reducible assumption) | (with_reducible apply upd_new (by assumption)) | (with_reducible apply upd_other (by first | assumption | exact Ne.symm (by assumption))) | (with_reducible refine' Kp.get (by assumption) ?_ (by first | assumption | exact Ne.symm (by assumption))) | (with_reducible apply Same.get (by assumption))); done)))
  | ((with_reducible apply q_dNInI); (focus ((repeat first | (with_reducible exact upd_same) | (with_reducible assumption) | (with_reducible apply upd_new (by assumption)) | (with_reducible apply upd_other (by first | assumption | exact Ne.symm (by assumption))) | (with_reducible refine' Kp.get (by assumption) ?_ (by first | assumption | exact Ne.symm (by assumption))) | (with_reducible apply Same.get (by assumption))); done)))
  | ((with_reducible apply q_bmL); (focus ((repeat first | (with_reducible exact upd_same) | (with_reducible assumption) | (with_reducible apply upd_new (by assumption)) | (with_reducible apply upd_other (by first | assumption | exact Ne.symm (by assumption))) | (with_reducible refine' Kp.get (by assumption) ?_ (by first | assumption | exact Ne.symm (by assumption))) | (with_reducible apply Same.get (by assumption))); done)))
  | ((with_reducible apply q_bmL0); (focus ((repeat first | (with_reducible exact upd_same) | (with_reducible assumption) | (with_reducible apply upd_new (by assumption)) | (with_reducible apply upd_other (by first | assumption | exact Ne.symm (by assumption))) | (with_reducible refine' Kp.get (by assumption) ?_ (by first | assumption | exact Ne.symm (by assumption))) | (with_reducible apply Same.get (by assumption))); done)))
  | ((with_reducible apply q_ixLt); (focus ((repeat first | (with_reducible exact upd_same) | (with_reducible assumption) | (with_reducible apply upd_new (by assumption)) | (with_reducible apply upd_other (by first | assumption | exact Ne.symm (by assumption))) | (with_reducible refine' Kp.get (by assumption) ?_ (by first | assumption | exact Ne.symm (by assumption))) | (with_reducible apply Same.get (by assumption))); done)); (focus (exact rfl)))
  | ((with_reducible apply q_ixTt); (focus ((repeat first | (with_reducible exact upd_same) | (with_reducible assumption) | (with_reducible apply upd_new (by assumption)) | (with_reducible apply upd_other (by first | assumption | exact Ne.symm (by assumption))) | (with_reducible refine' Kp.get (by assumption) ?_ (by first | assumption | exact Ne.symm (by assumption))) | (with_reducible apply Same.get (by assumption))); done)); (focus (exact rfl)))
  | ((with_reducible apply q_lenLt); (focus ((repeat first | (with_reducible exact upd_same) | (with_reducible assumption) | (with_reducible apply upd_new (by assumption)) | (with_reducible apply upd_other (by first | assumption | exact Ne.symm (by assumption))) | (with_reducible refine' Kp.get (by assumption) ?_ (by first | assumption | exact Ne.symm (by assumption))) | (with_reducible apply Same.get (by assumption))); done)))
  | ((with_reducible apply q_lenTt); (focus ((repeat first | (with_reducible exact upd_same) | (with_reducible assumption) | (with_reducible apply upd_new (by assumption)) | (with_reducible apply upd_other (by first | assumption | exact Ne.symm (by assumption))) | (with_reducible refine' Kp.get (by assumption) ?_ (by first | assumption | exact Ne.symm (by assumption))) | (with_reducible apply Same.get (by assumption))); done)))
  | ((with_reducible apply q_append); (focus ((repeat first | (with_reducible exact upd_same) | (with_reducible assumption) | (with_reducible apply upd_new (by assumption)) | (with_reducible apply upd_other (by first | assumption | exact Ne.symm (by assumption))) | (with_reducible refine' Kp.get (by assumption) ?_ (by first | assumption | exact Ne.symm (by assumption))) | (with_reducible apply Same.get (by assumption))); done)); (focus ((first | (exact Nat.lt_of_ble_eq_true rfl) | (simp only [List.length_append, List.length_cons, List.length_nil, List.length_map]; exact small1000 (by omega))))))
  | ((with_reducible apply q_setL); (focus ((repeat first | (with_reducible exact upd_same) | (with_reducible assumption) | (with_reducible apply upd_new (by assumption)) | (with_reducible apply upd_other (by first | assumption | exact Ne.symm (by assumption))) | (with_reducible refine' Kp.get (by assumption) ?_ (by first | assumption | exact Ne.symm (by assumption))) | (with_reducible apply Same.get (by assumption))); done)); (focus (exact rfl)))
  | with_reducible refine q_ifNT ?_
  | with_reducible refine q_ifNF ?_
  | with_reducible refine q_andNT ?_
  | with_reducible refine q_andNF ?_
  | with_reducible refine q_orNT ?_
  | with_reducible refine q_orNF ?_
  | with_reducible refine q_bKNT ?_
  | with_reducible refine q_bKNF ?_
  | with_reducible refine q_tNGet ?_
  | with_reducible refine q_tNIn ?_
  | with_reducible refine q_sNPut ?_
  | with_reducible refine q_sFldAug ?_
  | with_reducible refine q_sDAug ?_
  | with_reducible refine q_sDDel ?_
  | with_reducible refine q_forX ?_
  | with_reducible refine q_tMake ?_
  | ((with_reducible apply q_dG1a); (focus ((repeat first | (with_reducible exact upd_same) | (with_reducible assumption) | (with_reducible apply upd_new (by assumption)) | (with_reducible apply upd_other (by first | assumption | exact Ne.symm (by assumption))) | (with_reducible refine' Kp.get (by assumption) ?_ (by first | assumption | exact Ne.symm (by assumption))) | (with_reducible apply Same.get (by assumption))); done)))))
def top (i : Nat) : Stmt := PySem.Challenge.pw_vaultbridge_k46_escrows.main.body.getD i (.Pass ⟨0, 0, 0, 0⟩)
abbrev s__wall : Stmt := top 0
theorem sc__wall : FnScope ["k"] ["k"] (defScope s__wall) := ⟨rfl, rfl, rfl, by decide +kernel, rfl, by decide +kernel, by decide +kernel⟩
abbrev s_Locks_init : Stmt := inClass (top 9) 0
theorem sc_Locks_init : FnScope ["self"] ["self"] (defScope s_Locks_init) := ⟨rfl, rfl, rfl, by decide +kernel, rfl, by decide +kernel, by decide +kernel⟩
abbrev s_Locks_lock : Stmt := inClass (top 9) 1
theorem sc_Locks_lock : FnScope ["self", "secret"] ["self", "secret"] (defScope s_Locks_lock) := ⟨rfl, rfl, rfl, by decide +kernel, rfl, by decide +kernel, by decide +kernel⟩
abbrev s_Locks_opens : Stmt := inClass (top 9) 2
theorem sc_Locks_opens : FnScope ["self", "number", "secret"] ["self", "number", "secret"] (defScope s_Locks_opens) := ⟨rfl, rfl, rfl, by decide +kernel, rfl, by decide +kernel, by decide +kernel⟩
abbrev s_Escrow_init : Stmt := inClass (top 10) 0
theorem sc_Escrow_init : FnScope ["self", "locks"] ["self", "locks"] (defScope s_Escrow_init) := ⟨rfl, rfl, rfl, by decide +kernel, rfl, by decide +kernel, by decide +kernel⟩
abbrev s_Escrow_keep : Stmt := inClass (top 10) 1
theorem sc_Escrow_keep : FnScope ["self", "owner", "receiver", "amount", "lock", "height", "number"] ["self", "owner", "receiver", "amount", "lock", "height"] (defScope s_Escrow_keep) := ⟨rfl, rfl, rfl, by decide +kernel, rfl, by decide +kernel, by decide +kernel⟩
abbrev s_Escrow_show : Stmt := inClass (top 10) 2
theorem sc_Escrow_show : FnScope ["self", "number", "secret", "height", "_", "receiver", "amount", "lock", "last"] ["self", "number", "secret", "height"] (defScope s_Escrow_show) := ⟨rfl, rfl, rfl, by decide +kernel, rfl, by decide +kernel, by decide +kernel⟩
abbrev s_Escrow_give_back : Stmt := inClass (top 10) 3
theorem sc_Escrow_give_back : FnScope ["self", "number", "height", "owner", "_", "amount", "last"] ["self", "number", "height"] (defScope s_Escrow_give_back) := ⟨rfl, rfl, rfl, by decide +kernel, rfl, by decide +kernel, by decide +kernel⟩
abbrev s_Escrow_kept : Stmt := inClass (top 10) 4
theorem sc_Escrow_kept : FnScope ["self"] ["self"] (defScope s_Escrow_kept) := ⟨rfl, rfl, rfl, by decide +kernel, rfl, by decide +kernel, by decide +kernel⟩
abbrev s_Escrow_find : Stmt := inClass (top 10) 5
theorem sc_Escrow_find : FnScope ["self", "number"] ["self", "number"] (defScope s_Escrow_find) := ⟨rfl, rfl, rfl, by decide +kernel, rfl, by decide +kernel, by decide +kernel⟩
abbrev s_L_pot : Stmt := top 12
theorem sc_L_pot : FnScope ["script", "seed", "cell"] ["script"] (defScope s_L_pot) := ⟨rfl, rfl, rfl, by decide +kernel, rfl, by decide +kernel, by decide +kernel⟩
abbrev s_L_next : Stmt := top 13
theorem sc_L_next : FnScope ["pot", "limit", "mixed", "cell", "found"] ["pot", "limit"] (defScope s_L_next) := ⟨rfl, rfl, rfl, by decide +kernel, rfl, by decide +kernel, by decide +kernel⟩
abbrev s_L_is_int : Stmt := top 14
theorem sc_L_is_int : FnScope ["value"] ["value"] (defScope s_L_is_int) := ⟨rfl, rfl, rfl, by decide +kernel, rfl, by decide +kernel, by decide +kernel⟩
abbrev s_L_same : Stmt := top 15
theorem sc_L_same : FnScope ["found", "value", "k"] ["found", "value"] (defScope s_L_same) := ⟨rfl, rfl, rfl, by decide +kernel, rfl, by decide +kernel, by decide +kernel⟩
abbrev s_L_do : Stmt := top 16
theorem sc_L_do : FnScope ["escrow", "kind", "row", "number", "secret", "height", "e", "pair"] ["escrow", "kind", "row", "number", "secret", "height"] (defScope s_L_do) := ⟨rfl, rfl, rfl, by decide +kernel, rfl, by decide +kernel, by decide +kernel⟩
abbrev s_L_due : Stmt := top 17
theorem sc_L_due : FnScope ["rows", "gone", "secrets", "kind", "row", "number", "secret", "height", "owner", "receiver", "amount", "lock", "last"] ["rows", "gone", "secrets", "kind", "row", "number", "secret", "height"] (defScope s_L_due) := ⟨rfl, rfl, rfl, by decide +kernel, rfl, by decide +kernel, by decide +kernel⟩
abbrev s_law : Stmt := top 18
theorem sc_law : FnScope ["script", "pot", "locks", "secrets", "k", "secret", "escrow", "rows", "gone", "number", "kind", "row", "height", "found", "opens", "at"] ["script"] (defScope s_law) := ⟨rfl, rfl, rfl, by decide +kernel, rfl, by decide +kernel, by decide +kernel⟩
structure Txt (K : PySem.W.Frag) (mg : Str → Option Value) where
  f__wall : Addr
  d__wall : FuncData
  F__wall : Fun K "_wall" "_wall" s__wall f__wall d__wall
  b__wall : Binds K d__wall ["k"] []
  g__wall : mg "_wall" = some (.ref f__wall)
  f_Locks_init : Addr
  d_Locks_init : FuncData
  F_Locks_init : Fun K "__init__" "Locks.__init__" s_Locks_init f_Locks_init d_Locks_init
  b_Locks_init : Binds K d_Locks_init ["self"] []
  f_Locks_lock : Addr
  d_Locks_lock : FuncData
  F_Locks_lock : Fun K "lock" "Locks.lock" s_Locks_lock f_Locks_lock d_Locks_lock
  b_Locks_lock : Binds K d_Locks_lock ["self", "secret"] []
  f_Locks_opens : Addr
  d_Locks_opens : FuncData
  F_Locks_opens : Fun K "opens" "Locks.opens" s_Locks_opens f_Locks_opens d_Locks_opens
  b_Locks_opens : Binds K d_Locks_opens ["self", "number", "secret"] []
  f_Escrow_init : Addr
  d_Escrow_init : FuncData
  F_Escrow_init : Fun K "__init__" "Escrow.__init__" s_Escrow_init f_Escrow_init d_Escrow_init
  b_Escrow_init : Binds K d_Escrow_init ["self", "locks"] []
  f_Escrow_keep : Addr
  d_Escrow_keep : FuncData
  F_Escrow_keep : Fun K "keep" "Escrow.keep" s_Escrow_keep f_Escrow_keep d_Escrow_keep
  b_Escrow_keep : Binds K d_Escrow_keep ["self", "owner", "receiver", "amount", "lock", "height"] []
  f_Escrow_show : Addr
  d_Escrow_show : FuncData
  F_Escrow_show : Fun K "show" "Escrow.show" s_Escrow_show f_Escrow_show d_Escrow_show
  b_Escrow_show : Binds K d_Escrow_show ["self", "number", "secret", "height"] []
  f_Escrow_give_back : Addr
  d_Escrow_give_back : FuncData
  F_Escrow_give_back : Fun K "give_back" "Escrow.give_back" s_Escrow_give_back f_Escrow_give_back d_Escrow_give_back
  b_Escrow_give_back : Binds K d_Escrow_give_back ["self", "number", "height"] []
  f_Escrow_kept : Addr
  d_Escrow_kept : FuncData
  F_Escrow_kept : Fun K "kept" "Escrow.kept" s_Escrow_kept f_Escrow_kept d_Escrow_kept
  b_Escrow_kept : Binds K d_Escrow_kept ["self"] []
  f_Escrow_find : Addr
  d_Escrow_find : FuncData
  F_Escrow_find : Fun K "_find" "Escrow._find" s_Escrow_find f_Escrow_find d_Escrow_find
  b_Escrow_find : Binds K d_Escrow_find ["self", "number"] []
  f_L_pot : Addr
  d_L_pot : FuncData
  F_L_pot : Fun K "_law_pot" "_law_pot" s_L_pot f_L_pot d_L_pot
  b_L_pot : Binds K d_L_pot ["script"] []
  g_L_pot : mg "_law_pot" = some (.ref f_L_pot)
  f_L_next : Addr
  d_L_next : FuncData
  F_L_next : Fun K "_law_next" "_law_next" s_L_next f_L_next d_L_next
  b_L_next : Binds K d_L_next ["pot", "limit"] []
  g_L_next : mg "_law_next" = some (.ref f_L_next)
  f_L_is_int : Addr
  d_L_is_int : FuncData
  F_L_is_int : Fun K "_law_is_int" "_law_is_int" s_L_is_int f_L_is_int d_L_is_int
  b_L_is_int : Binds K d_L_is_int ["value"] []
  g_L_is_int : mg "_law_is_int" = some (.ref f_L_is_int)
  f_L_same : Addr
  d_L_same : FuncData
  F_L_same : Fun K "_law_same" "_law_same" s_L_same f_L_same d_L_same
  b_L_same : Binds K d_L_same ["found", "value"] []
  g_L_same : mg "_law_same" = some (.ref f_L_same)
  f_L_do : Addr
  d_L_do : FuncData
  F_L_do : Fun K "_law_do" "_law_do" s_L_do f_L_do d_L_do
  b_L_do : Binds K d_L_do ["escrow", "kind", "row", "number", "secret", "height"] []
  g_L_do : mg "_law_do" = some (.ref f_L_do)
  f_L_due : Addr
  d_L_due : FuncData
  F_L_due : Fun K "_law_due" "_law_due" s_L_due f_L_due d_L_due
  b_L_due : Binds K d_L_due ["rows", "gone", "secrets", "kind", "row", "number", "secret", "height"] []
  g_L_due : mg "_law_due" = some (.ref f_L_due)
  f_law : Addr
  d_law : FuncData
  F_law : Fun K "law" "law" s_law f_law d_law
  b_law : Binds K d_law ["script"] []
  g_law : mg "law" = some (.ref f_law)
  C_BridgeError : Addr
  g_BridgeError : mg "BridgeError" = some (.ref C_BridgeError)
  xe_BridgeError : PySem.W.excIn K C_BridgeError [.type "ValueError", .type "Exception", .type "BaseException", .type "object"] "ValueError.__new__" = true
  ke_BridgeError : PySem.W.keepIn K (.ref C_BridgeError) = true
  be_BridgeError : PySem.W.subIn K (.ref C_BridgeError) (.type "BaseException") = some true
  te_BridgeError : PySem.W.typeIn K (.ref C_BridgeError) = some (.type "type")
  ie_BridgeError : PySem.W.isClsIn K C_BridgeError = true
  se_BridgeError : PySem.W.subIn K (.ref C_BridgeError) (.ref C_BridgeError) = some true
  hd_BridgeError : PySem.W.hasDictIn K C_BridgeError = true
  C_InvalidArgument : Addr
  g_InvalidArgument : mg "InvalidArgument" = some (.ref C_InvalidArgument)
  xe_InvalidArgument : PySem.W.excIn K C_InvalidArgument [.type "ValueError", .type "Exception", .type "BaseException", .type "object"] "ValueError.__new__" = true
  ke_InvalidArgument : PySem.W.keepIn K (.ref C_InvalidArgument) = true
  be_InvalidArgument : PySem.W.subIn K (.ref C_InvalidArgument) (.type "BaseException") = some true
  te_InvalidArgument : PySem.W.typeIn K (.ref C_InvalidArgument) = some (.type "type")
  ie_InvalidArgument : PySem.W.isClsIn K C_InvalidArgument = true
  se_InvalidArgument : PySem.W.subIn K (.ref C_InvalidArgument) (.ref C_InvalidArgument) = some true
  hg_InvalidArgument : PySem.W.findIn K (.ref C_InvalidArgument) "__getattribute__" = some (some (.builtin "BaseException.__getattribute__"))
  hk_InvalidArgument : PySem.W.findIn K (.ref C_InvalidArgument) "__getattr__" = some none
  hd_InvalidArgument : PySem.W.hasDictIn K C_InvalidArgument = true
  ha_InvalidArgument : PySem.W.findIn K (.ref C_InvalidArgument) "__class__" = some (some (.builtin "object.__class__"))
  hm_InvalidArgument : PySem.W.mroIn K C_InvalidArgument (.type "object") = some true
  hn_InvalidArgument : PySem.W.specialIn K (.builtin "object.__class__") "__get__" = some (some (.builtin "getset_descriptor.__get__"))
  ht_InvalidArgument : PySem.W.takesIn K (.builtin "object.__class__") = some true
  ue_InvalidArgument : PySem.W.subIn K (.ref C_InvalidArgument) (.ref C_BridgeError) = some true
  C_NotEnoughWeight : Addr
  g_NotEnoughWeight : mg "NotEnoughWeight" = some (.ref C_NotEnoughWeight)
  xe_NotEnoughWeight : PySem.W.excIn K C_NotEnoughWeight [.type "ValueError", .type "Exception", .type "BaseException", .type "object"] "ValueError.__new__" = true
  ke_NotEnoughWeight : PySem.W.keepIn K (.ref C_NotEnoughWeight) = true
  be_NotEnoughWeight : PySem.W.subIn K (.ref C_NotEnoughWeight) (.type "BaseException") = some true
  te_NotEnoughWeight : PySem.W.typeIn K (.ref C_NotEnoughWeight) = some (.type "type")
  ie_NotEnoughWeight : PySem.W.isClsIn K C_NotEnoughWeight = true
  se_NotEnoughWeight : PySem.W.subIn K (.ref C_NotEnoughWeight) (.ref C_NotEnoughWeight) = some true
  hg_NotEnoughWeight : PySem.W.findIn K (.ref C_NotEnoughWeight) "__getattribute__" = some (some (.builtin "BaseException.__getattribute__"))
  hk_NotEnoughWeight : PySem.W.findIn K (.ref C_NotEnoughWeight) "__getattr__" = some none
  hd_NotEnoughWeight : PySem.W.hasDictIn K C_NotEnoughWeight = true
  ha_NotEnoughWeight : PySem.W.findIn K (.ref C_NotEnoughWeight) "__class__" = some (some (.builtin "object.__class__"))
  hm_NotEnoughWeight : PySem.W.mroIn K C_NotEnoughWeight (.type "object") = some true
  hn_NotEnoughWeight : PySem.W.specialIn K (.builtin "object.__class__") "__get__" = some (some (.builtin "getset_descriptor.__get__"))
  ht_NotEnoughWeight : PySem.W.takesIn K (.builtin "object.__class__") = some true
  ue_NotEnoughWeight : PySem.W.subIn K (.ref C_NotEnoughWeight) (.ref C_BridgeError) = some true
  C_AlreadyTaken : Addr
  g_AlreadyTaken : mg "AlreadyTaken" = some (.ref C_AlreadyTaken)
  xe_AlreadyTaken : PySem.W.excIn K C_AlreadyTaken [.type "ValueError", .type "Exception", .type "BaseException", .type "object"] "ValueError.__new__" = true
  ke_AlreadyTaken : PySem.W.keepIn K (.ref C_AlreadyTaken) = true
  be_AlreadyTaken : PySem.W.subIn K (.ref C_AlreadyTaken) (.type "BaseException") = some true
  te_AlreadyTaken : PySem.W.typeIn K (.ref C_AlreadyTaken) = some (.type "type")
  ie_AlreadyTaken : PySem.W.isClsIn K C_AlreadyTaken = true
  se_AlreadyTaken : PySem.W.subIn K (.ref C_AlreadyTaken) (.ref C_AlreadyTaken) = some true
  hg_AlreadyTaken : PySem.W.findIn K (.ref C_AlreadyTaken) "__getattribute__" = some (some (.builtin "BaseException.__getattribute__"))
  hk_AlreadyTaken : PySem.W.findIn K (.ref C_AlreadyTaken) "__getattr__" = some none
  hd_AlreadyTaken : PySem.W.hasDictIn K C_AlreadyTaken = true
  ha_AlreadyTaken : PySem.W.findIn K (.ref C_AlreadyTaken) "__class__" = some (some (.builtin "object.__class__"))
  hm_AlreadyTaken : PySem.W.mroIn K C_AlreadyTaken (.type "object") = some true
  hn_AlreadyTaken : PySem.W.specialIn K (.builtin "object.__class__") "__get__" = some (some (.builtin "getset_descriptor.__get__"))
  ht_AlreadyTaken : PySem.W.takesIn K (.builtin "object.__class__") = some true
  ue_AlreadyTaken : PySem.W.subIn K (.ref C_AlreadyTaken) (.ref C_BridgeError) = some true
  C_UnknownTransfer : Addr
  g_UnknownTransfer : mg "UnknownTransfer" = some (.ref C_UnknownTransfer)
  xe_UnknownTransfer : PySem.W.excIn K C_UnknownTransfer [.type "ValueError", .type "Exception", .type "BaseException", .type "object"] "ValueError.__new__" = true
  ke_UnknownTransfer : PySem.W.keepIn K (.ref C_UnknownTransfer) = true
  be_UnknownTransfer : PySem.W.subIn K (.ref C_UnknownTransfer) (.type "BaseException") = some true
  te_UnknownTransfer : PySem.W.typeIn K (.ref C_UnknownTransfer) = some (.type "type")
  ie_UnknownTransfer : PySem.W.isClsIn K C_UnknownTransfer = true
  se_UnknownTransfer : PySem.W.subIn K (.ref C_UnknownTransfer) (.ref C_UnknownTransfer) = some true
  hg_UnknownTransfer : PySem.W.findIn K (.ref C_UnknownTransfer) "__getattribute__" = some (some (.builtin "BaseException.__getattribute__"))
  hk_UnknownTransfer : PySem.W.findIn K (.ref C_UnknownTransfer) "__getattr__" = some none
  hd_UnknownTransfer : PySem.W.hasDictIn K C_UnknownTransfer = true
  ha_UnknownTransfer : PySem.W.findIn K (.ref C_UnknownTransfer) "__class__" = some (some (.builtin "object.__class__"))
  hm_UnknownTransfer : PySem.W.mroIn K C_UnknownTransfer (.type "object") = some true
  hn_UnknownTransfer : PySem.W.specialIn K (.builtin "object.__class__") "__get__" = some (some (.builtin "getset_descriptor.__get__"))
  ht_UnknownTransfer : PySem.W.takesIn K (.builtin "object.__class__") = some true
  ue_UnknownTransfer : PySem.W.subIn K (.ref C_UnknownTransfer) (.ref C_BridgeError) = some true
  C_TooEarly : Addr
  g_TooEarly : mg "TooEarly" = some (.ref C_TooEarly)
  xe_TooEarly : PySem.W.excIn K C_TooEarly [.type "ValueError", .type "Exception", .type "BaseException", .type "object"] "ValueError.__new__" = true
  ke_TooEarly : PySem.W.keepIn K (.ref C_TooEarly) = true
  be_TooEarly : PySem.W.subIn K (.ref C_TooEarly) (.type "BaseException") = some true
  te_TooEarly : PySem.W.typeIn K (.ref C_TooEarly) = some (.type "type")
  ie_TooEarly : PySem.W.isClsIn K C_TooEarly = true
  se_TooEarly : PySem.W.subIn K (.ref C_TooEarly) (.ref C_TooEarly) = some true
  hg_TooEarly : PySem.W.findIn K (.ref C_TooEarly) "__getattribute__" = some (some (.builtin "BaseException.__getattribute__"))
  hk_TooEarly : PySem.W.findIn K (.ref C_TooEarly) "__getattr__" = some none
  hd_TooEarly : PySem.W.hasDictIn K C_TooEarly = true
  ha_TooEarly : PySem.W.findIn K (.ref C_TooEarly) "__class__" = some (some (.builtin "object.__class__"))
  hm_TooEarly : PySem.W.mroIn K C_TooEarly (.type "object") = some true
  hn_TooEarly : PySem.W.specialIn K (.builtin "object.__class__") "__get__" = some (some (.builtin "getset_descriptor.__get__"))
  ht_TooEarly : PySem.W.takesIn K (.builtin "object.__class__") = some true
  ue_TooEarly : PySem.W.subIn K (.ref C_TooEarly) (.ref C_BridgeError) = some true
  C_Locks : Addr
  cl_Locks : Cls K C_Locks
  g_Locks : mg "Locks" = some (.ref C_Locks)
  mk_Locks : Mk K C_Locks f_Locks_init
  m_Locks_lock : Meth K C_Locks "lock" f_Locks_lock
  m_Locks_opens : Meth K C_Locks "opens" f_Locks_opens
  n_Locks_numbers : NoAttr K C_Locks "_numbers"
  C_Escrow : Addr
  cl_Escrow : Cls K C_Escrow
  g_Escrow : mg "Escrow" = some (.ref C_Escrow)
  mk_Escrow : Mk K C_Escrow f_Escrow_init
  m_Escrow_keep : Meth K C_Escrow "keep" f_Escrow_keep
  m_Escrow_show : Meth K C_Escrow "show" f_Escrow_show
  m_Escrow_give_back : Meth K C_Escrow "give_back" f_Escrow_give_back
  m_Escrow_kept : Meth K C_Escrow "kept" f_Escrow_kept
  m_Escrow_find : Meth K C_Escrow "_find" f_Escrow_find
  n_Escrow_locks : NoAttr K C_Escrow "_locks"
  n_Escrow_rows : NoAttr K C_Escrow "_rows"
  n_Escrow_left : NoAttr K C_Escrow "_left"
  z_abs : mg "abs" = none
  z_all : mg "all" = none
  z_bool : mg "bool" = none
  z_dict : mg "dict" = none
  z_int : mg "int" = none
  z_isinstance : mg "isinstance" = none
  z_len : mg "len" = none
  z_list : mg "list" = none
  z_min : mg "min" = none
  z_range : mg "range" = none
  z_str : mg "str" = none
  z_sum : mg "sum" = none
  z_tuple : mg "tuple" = none
  hq_AlreadyTaken_InvalidArgument : PySem.W.kitOne K (.ref C_AlreadyTaken) (.ref C_InvalidArgument) = some false
  hq_AlreadyTaken_NotEnoughWeight : PySem.W.kitOne K (.ref C_AlreadyTaken) (.ref C_NotEnoughWeight) = some false
  hq_AlreadyTaken_TooEarly : PySem.W.kitOne K (.ref C_AlreadyTaken) (.ref C_TooEarly) = some false
  hq_AlreadyTaken_UnknownTransfer : PySem.W.kitOne K (.ref C_AlreadyTaken) (.ref C_UnknownTransfer) = some false
  hq_InvalidArgument_AlreadyTaken : PySem.W.kitOne K (.ref C_InvalidArgument) (.ref C_AlreadyTaken) = some false
  hq_InvalidArgument_NotEnoughWeight : PySem.W.kitOne K (.ref C_InvalidArgument) (.ref C_NotEnoughWeight) = some false
  hq_InvalidArgument_TooEarly : PySem.W.kitOne K (.ref C_InvalidArgument) (.ref C_TooEarly) = some false
  hq_InvalidArgument_UnknownTransfer : PySem.W.kitOne K (.ref C_InvalidArgument) (.ref C_UnknownTransfer) = some false
  hq_NotEnoughWeight_AlreadyTaken : PySem.W.kitOne K (.ref C_NotEnoughWeight) (.ref C_AlreadyTaken) = some false
  hq_NotEnoughWeight_InvalidArgument : PySem.W.kitOne K (.ref C_NotEnoughWeight) (.ref C_InvalidArgument) = some false
  hq_NotEnoughWeight_TooEarly : PySem.W.kitOne K (.ref C_NotEnoughWeight) (.ref C_TooEarly) = some false
  hq_NotEnoughWeight_UnknownTransfer : PySem.W.kitOne K (.ref C_NotEnoughWeight) (.ref C_UnknownTransfer) = some false
  hq_TooEarly_AlreadyTaken : PySem.W.kitOne K (.ref C_TooEarly) (.ref C_AlreadyTaken) = some false
  hq_TooEarly_InvalidArgument : PySem.W.kitOne K (.ref C_TooEarly) (.ref C_InvalidArgument) = some false
  hq_TooEarly_NotEnoughWeight : PySem.W.kitOne K (.ref C_TooEarly) (.ref C_NotEnoughWeight) = some false
  hq_TooEarly_UnknownTransfer : PySem.W.kitOne K (.ref C_TooEarly) (.ref C_UnknownTransfer) = some false
  hq_UnknownTransfer_AlreadyTaken : PySem.W.kitOne K (.ref C_UnknownTransfer) (.ref C_AlreadyTaken) = some false
  hq_UnknownTransfer_InvalidArgument : PySem.W.kitOne K (.ref C_UnknownTransfer) (.ref C_InvalidArgument) = some false
  hq_UnknownTransfer_NotEnoughWeight : PySem.W.kitOne K (.ref C_UnknownTransfer) (.ref C_NotEnoughWeight) = some false
  hq_UnknownTransfer_TooEarly : PySem.W.kitOne K (.ref C_UnknownTransfer) (.ref C_TooEarly) = some false
theorem Txt.ec_AlreadyTaken {K : PySem.W.Frag} {mg : Str → Option Value} (T : Txt K mg) : ExcC K T.C_AlreadyTaken := ⟨T.hg_AlreadyTaken, T.hk_AlreadyTaken, T.be_AlreadyTaken, T.hd_AlreadyTaken, T.ha_AlreadyTaken, T.hn_AlreadyTaken, T.ht_AlreadyTaken, T.hm_AlreadyTaken⟩
theorem Txt.hi_AlreadyTaken {K : PySem.W.Frag} {mg : Str → Option Value} (T : Txt K mg) : PySem.W.kitOne K (.ref T.C_AlreadyTaken) (.ref T.C_AlreadyTaken) = some true := by
  unfold PySem.W.kitOne
  rw [if_pos (beq_self_eq_true _)]
theorem Txt.ex_AlreadyTaken {K : PySem.W.Frag} {mg : Str → Option Value} (T : Txt K mg) : PySem.W.exmOne K (.ref T.C_AlreadyTaken) (.ref T.C_BridgeError) = some true := PySem.W.exm_ref T.be_BridgeError T.hd_BridgeError T.te_BridgeError T.ue_AlreadyTaken
theorem Txt.ec_InvalidArgument {K : PySem.W.Frag} {mg : Str → Option Value} (T : Txt K mg) : ExcC K T.C_InvalidArgument := ⟨T.hg_InvalidArgument, T.hk_InvalidArgument, T.be_InvalidArgument, T.hd_InvalidArgument, T.ha_InvalidArgument, T.hn_InvalidArgument, T.ht_InvalidArgument, T.hm_InvalidArgument⟩
theorem Txt.hi_InvalidArgument {K : PySem.W.Frag} {mg : Str → Option Value} (T : Txt K mg) : PySem.W.kitOne K (.ref T.C_InvalidArgument) (.ref T.C_InvalidArgument) = some true := by
  unfold PySem.W.kitOne
  rw [if_pos (beq_self_eq_true _)]
theorem Txt.ex_InvalidArgument {K : PySem.W.Frag} {mg : Str → Option Value} (T : Txt K mg) : PySem.W.exmOne K (.ref T.C_InvalidArgument) (.ref T.C_BridgeError) = some true := PySem.W.exm_ref T.be_BridgeError T.hd_BridgeError T.te_BridgeError T.ue_InvalidArgument
theorem Txt.ec_NotEnoughWeight {K : PySem.W.Frag} {mg : Str → Option Value} (T : Txt K mg) : ExcC K T.C_NotEnoughWeight := ⟨T.hg_NotEnoughWeight, T.hk_NotEnoughWeight, T.be_NotEnoughWeight, T.hd_NotEnoughWeight, T.ha_NotEnoughWeight, T.hn_NotEnoughWeight, T.ht_NotEnoughWeight, T.hm_NotEnoughWeight⟩
theorem Txt.hi_NotEnoughWeight {K : PySem.W.Frag} {mg : Str → Option Value} (T : Txt K mg) : PySem.W.kitOne K (.ref T.C_NotEnoughWeight) (.ref T.C_NotEnoughWeight) = some true := by
  unfold PySem.W.kitOne
  rw [if_pos (beq_self_eq_true _)]
theorem Txt.ex_NotEnoughWeight {K : PySem.W.Frag} {mg : Str → Option Value} (T : Txt K mg) : PySem.W.exmOne K (.ref T.C_NotEnoughWeight) (.ref T.C_BridgeError) = some true := PySem.W.exm_ref T.be_BridgeError T.hd_BridgeError T.te_BridgeError T.ue_NotEnoughWeight
theorem Txt.ec_TooEarly {K : PySem.W.Frag} {mg : Str → Option Value} (T : Txt K mg) : ExcC K T.C_TooEarly := ⟨T.hg_TooEarly, T.hk_TooEarly, T.be_TooEarly, T.hd_TooEarly, T.ha_TooEarly, T.hn_TooEarly, T.ht_TooEarly, T.hm_TooEarly⟩
theorem Txt.hi_TooEarly {K : PySem.W.Frag} {mg : Str → Option Value} (T : Txt K mg) : PySem.W.kitOne K (.ref T.C_TooEarly) (.ref T.C_TooEarly) = some true := by
  unfold PySem.W.kitOne
  rw [if_pos (beq_self_eq_true _)]
theorem Txt.ex_TooEarly {K : PySem.W.Frag} {mg : Str → Option Value} (T : Txt K mg) : PySem.W.exmOne K (.ref T.C_TooEarly) (.ref T.C_BridgeError) = some true := PySem.W.exm_ref T.be_BridgeError T.hd_BridgeError T.te_BridgeError T.ue_TooEarly
theorem Txt.ec_UnknownTransfer {K : PySem.W.Frag} {mg : Str → Option Value} (T : Txt K mg) : ExcC K T.C_UnknownTransfer := ⟨T.hg_UnknownTransfer, T.hk_UnknownTransfer, T.be_UnknownTransfer, T.hd_UnknownTransfer, T.ha_UnknownTransfer, T.hn_UnknownTransfer, T.ht_UnknownTransfer, T.hm_UnknownTransfer⟩
theorem Txt.hi_UnknownTransfer {K : PySem.W.Frag} {mg : Str → Option Value} (T : Txt K mg) : PySem.W.kitOne K (.ref T.C_UnknownTransfer) (.ref T.C_UnknownTransfer) = some true := by
  unfold PySem.W.kitOne
  rw [if_pos (beq_self_eq_true _)]
theorem Txt.ex_UnknownTransfer {K : PySem.W.Frag} {mg : Str → Option Value} (T : Txt K mg) : PySem.W.exmOne K (.ref T.C_UnknownTransfer) (.ref T.C_BridgeError) = some true := PySem.W.exm_ref T.be_BridgeError T.hd_BridgeError T.te_BridgeError T.ue_UnknownTransfer
/-! the law's own numbers -/
def PotAt (H : Hp) (p l : Addr) : Prop := ∃ (ns : List Int) (i c s : Int), H p = some (.lst [.ref l, .int i, .int c, .int s]) ∧ H l = some (.lst (ns.map V.int)) ∧ 0 ≤ i ∧ 0 ≤ c ∧ 0 ≤ s ∧ s < 2147483647 ∧ ns.length ≤ 1000 ∧ p ≠ l
theorem PotAt.at {H : Hp} {p l : Addr} (h : PotAt H p l) : ∃ o, H p = some o := by
  obtain ⟨ns, i, c, s, h1, _⟩ := h; exact ⟨_, h1⟩
theorem PotAt.atl {H : Hp} {p l : Addr} (h : PotAt H p l) : ∃ o, H l = some o := by
  obtain ⟨ns, i, c, s, _, h1, _⟩ := h; exact ⟨_, h1⟩
theorem PotAt.same {H H' : Hp} {p l : Addr} (h : PotAt H p l) (e : Same H H') : PotAt H' p l := by
  obtain ⟨ns, i, c, s, h1, h2, r⟩ := h; exact ⟨ns, i, c, s, e _ _ h1, e _ _ h2, r⟩
theorem PotAt.upd {H : Hp} {p l a : Addr} {o : HO} (h : PotAt H p l) (n1 : a ≠ p) (n2 : a ≠ l) : PotAt (L2.upd H a o) p l := by
  obtain ⟨ns, i, c, s, h1, h2, r⟩ := h; exact ⟨ns, i, c, s, upd_other n1.symm h1, upd_other n2.symm h2, r⟩
theorem PotAt.new {H : Hp} {p l a : Addr} {o : HO} (h : PotAt H p l) (n : H a = none) : PotAt (L2.upd H a o) p l := by
  obtain ⟨ns, i, c, s, h1, h2, r⟩ := h; exact ⟨ns, i, c, s, upd_new n h1, upd_new n h2, r⟩
theorem PotAt.nep {H : Hp} {p l a : Addr} (h : PotAt H p l) (n : H a = none) : a ≠ p := by
  obtain ⟨o, h1⟩ := h.at; exact (ne_of_none h1 n).symm
theorem PotAt.nel {H : Hp} {p l a : Addr} (h : PotAt H p l) (n : H a = none) : a ≠ l := by
  obtain ⟨o, h1⟩ := h.atl; exact (ne_of_none h1 n).symm
def sp_pot (K : PySem.W.Frag) : Sp := fun vs H Q _ => ∃ (a : Addr) (ns : List Int), vs = [.ref a] ∧ SqL K H a (ns.map V.int) ∧ ns.length ≤ 63 ∧ ∀ (p l : Addr) (H' : Hp), H p = none → H l = none → PotAt H' p l → Same H H' → Q (.ref p) H'
def sp_next : Sp := fun vs H Q _ => ∃ (p l : Addr) (n : Int), vs = [.ref p, .int n] ∧ PotAt H p l ∧ 0 < n ∧ n < 1000000000 ∧ ∀ (r : Int) (H' : Hp), 0 ≤ r → r < n → PotAt H' p l → Kp p H H' → Q (.int r) H'
section
variable {P : Program} {w : World} {K : PySem.W.Frag} {mg : Str → Option Value} {base : Heap}
theorem map_at {ns : List Int} {i : Nat} {x : V} (h : (ns.map V.int)[i]? = some x) : ∃ z, x = .int z := by
  rw [List.getElem?_map] at h
  cases e : ns[i]? with
  | none => rw [e] at h; cases h
  | some z => rw [e] at h; exact ⟨z, (Option.some.inj h).symm⟩
theorem ok_L_pot (T : Txt K mg) : FnOk P w K mg base CX0 1 T.f_L_pot T.d_L_pot ["script"] (sp_pot K) := by
  refine T.F_L_pot.ok sc_L_pot (fun vs H Q E h => ?_) (fun cdv A outer s H vs Q E hr h => ?_)
  · obtain ⟨a, ns, rfl, _⟩ := h; rfl
  · obtain ⟨a, ns, rfl, hS, hlen, k⟩ := h
    refine ⟨_, (pss_cons (ps_set (i := 1) sc_L_pot.nd rfl (Or.inl rfl) pe_int)
      (pss_cons (ps_for PassesOwn.never rfl (pi_list (pv 0)) (pg_name (i := 2) sc_L_pot.nd rfl (Or.inl rfl))
        (pss_one (ps_set (i := 1) sc_L_pot.nd rfl (Or.inl rfl) (pe_op op_mod (pe_callTy cq_int1 (by rfl) T.z_int boot_int (pa_cons (pe_op op_add (pe_op op_mul (pv 1) pe_int) (pv 2)) pa_nil)) pe_int))))
      (pss_one (ps_ret (pe_lst (pa_cons (pe_callTy cq_listOf (by rfl) T.z_list boot_list (pa_cons (pv 0) pa_nil)) (pa_cons pe_int (pa_cons pe_int (pa_cons (pv 1) pa_nil))))))))), ?_⟩
    (dsimp only [cxOf, Cx.nox, Cx.wish, L2.start, List.map, List.length, List.replicate, List.cons_append, List.nil_append, List.append_eq, Nat.reduceSub, Nat.reduceAdd])
    walk_at "my_rd"
    refine q_forL hS (fun i σ H2 => ∃ (z : Int) (v : Option V), σ = [some (.ref a), some (.int z), v] ∧ H2 = H ∧ 0 ≤ z ∧ z < 2147483647) ⟨1, none, rfl, rfl, by omega, by omega⟩ (fun i σ H2 _ ⟨_, _, _, e, _⟩ => e ▸ hS) ?_ ?_
    · rintro i x σ H2 hx ⟨z, v, rfl, rfl, h0, h1⟩
      obtain ⟨y, rfl⟩ := map_at hx
      walk_at "my_rd"
      exact ⟨_, _, rfl, rfl, Int.emod_nonneg _ (by decide), Int.emod_lt_of_pos _ (by decide)⟩
    · rintro σ H2 ⟨z, v, rfl, rfl, h0, h1⟩
      walk_at "my_rd"
      refine q_listL hS fun l nl => ?_
      walk_at "my_rd"
      refine q_lstK (Nat.le_of_ble_eq_true rfl) fun p np => ?_
      walk_at "my_rd"
      refine k p l _ (upd_none_back np) nl ⟨ns, 0, 0, z, upd_same, upd_new np upd_same, by omega, by omega, h0, h1, by omega, ?_⟩ (Same.new (Same.new (Same.refl _) nl) (upd_none_back np))
      exact upd_none_ne np
theorem ok_L_next (T : Txt K mg) : FnOk P w K mg base CX0 1 T.f_L_next T.d_L_next ["pot", "limit"] sp_next := by
  refine T.F_L_next.ok sc_L_next (fun vs H Q E h => ?_) (fun cdv A outer s H vs Q E hr h => ?_)
  · obtain ⟨p, l, n, rfl, _⟩ := h; rfl
  · obtain ⟨p, l, n, rfl, ⟨ns, i, c, z, hp, hl, hi, hc, hz0, hz1, hns, hpl⟩, hn, hn2, k⟩ := h
    refine ⟨_, (Evl.pss_cut (ps_if (PW.pt (pw_and (pt_cmpR op_eq (pe_ix ix_list (pv 0) pe_int (fun _ _ => rfl)) pe_int (nomark _)) (pw_and1 (pt_cmpR op_lt (pe_ix ix_list (pv 0) pe_int (fun _ _ => rfl)) (pe_callB cq_len (by rfl) T.z_len boot_len (pa_cons (pe_ix ix_list (pv 0) pe_int (fun _ _ => rfl)) pa_nil)) (nomark _))))) (pss_cons (ps_set (i := 3) sc_L_next.nd rfl (Or.inl rfl) (pe_callB cq_abs (by rfl) T.z_abs boot_abs (pa_cons (pe_callTy cq_int1 (by rfl) T.z_int boot_int (pa_cons (pe_ix ix_list (pe_ix ix_list (pv 0) pe_int (fun _ _ => rfl)) (pe_ix ix_list (pv 0) pe_int (fun _ _ => rfl)) (fun _ _ => rfl)) pa_nil)) pa_nil)))
      (pss_cons (ps_asg (pe_op op_add (pe_ix ix_list (pv 0) pe_int (fun _ _ => rfl)) pe_int) (pg_sub (pv 0) pe_int set_list))
      (pss_cons (ps_if (pt_cmpR op_lt (pv 3) (pe_op op_pow pe_int pe_int) (nomark _)) (pss_one (ps_ret (pe_op op_mod (pe_callTy cq_int1 (by rfl) T.z_int boot_int (pa_cons (pv 3) pa_nil)) (pv 1)))) pss_nil)
      (pss_one (ps_asg (pv 3) (pg_sub (pv 0) pe_int set_list)))))) pss_nil)
      (pss_cons (ps_if (pt_cmpR op_gt (pe_ix ix_list (pv 0) pe_int (fun _ _ => rfl)) pe_int (nomark _)) (pss_cons (ps_set (i := 4) sc_L_next.nd rfl (Or.inl rfl) (pe_op op_mod (pe_callTy cq_int1 (by rfl) T.z_int boot_int (pa_cons (pe_ix ix_list (pv 0) pe_int (fun _ _ => rfl)) pa_nil)) (pv 1)))
      (pss_cons (ps_asg (pe_op op_fdiv (pe_ix ix_list (pv 0) pe_int (fun _ _ => rfl)) (pv 1)) (pg_sub (pv 0) pe_int set_list))
      (pss_one (ps_ret (pv 4))))) pss_nil)
      (pss_cons (ps_asg (pe_op op_mod (pe_callTy cq_int1 (by rfl) T.z_int boot_int (pa_cons (pe_op op_add (pe_op op_mul (pe_ix ix_list (pv 0) pe_int (fun _ _ => rfl)) pe_int) pe_int) pa_nil)) pe_int) (pg_sub (pv 0) pe_int set_list))
      (pss_cons (ps_set (i := 2) sc_L_next.nd rfl (Or.inl rfl) (pe_op op_mod (pe_callTy cq_int1 (by rfl) T.z_int boot_int (pa_cons (pe_op op_add (pe_op op_mul (pe_ix ix_list (pv 0) pe_int (fun _ _ => rfl)) pe_int) (pe_op op_fdiv (pe_ix ix_list (pv 0) pe_int (fun _ _ => rfl)) pe_int)) pa_nil)) pe_int))
      (pss_one (ps_ret (pe_op op_mod (pe_callTy cq_int1 (by rfl) T.z_int boot_int (pa_cons (pv 2) pa_nil)) (pv 1)))))))), ?_⟩
    (dsimp only [cxOf, Cx.nox, Cx.wish, L2.start, List.map, List.length, List.replicate, List.cons_append, List.nil_append, List.append_eq, Nat.reduceSub, Nat.reduceAdd])
    refine q_cut (Mid := fun σ' H' => ∃ (cell : Option V) (i c : Int), σ' = [some (.ref p), some (.int n), none, cell, none] ∧ H' p = some (.lst [.ref l, .int i, .int c, .int z]) ∧ H' l = some (.lst (ns.map V.int)) ∧ 0 ≤ i ∧ 0 ≤ c ∧ Kp p H H') ?_ ?_
    · walk_at "my_rd"
      refine q_and2 (fun h1 => ?_) (fun _ => ?_)
      · walk_at "my_rd"
        refine q_if2 (fun h2 => ?_) (fun _ => ?_)
        · have h2 := dec_t h2
          rw [List.length_map] at h2
          have hi2 : i.toNat < ns.length := by omega
          have ha : atI (ns.map V.int) i = some (V.int ns[i.toNat]) := at_int (n := i.toNat) (by omega) (by rw [List.getElem?_map, List.getElem?_eq_getElem hi2]; rfl)
          walk_at "my_rd"
          refine q_ixLt hl ha ?_
          walk_at "my_rd"
          refine q_if2 (fun h3 => ?_) (fun h3 => ?_)
          · walk_at "my_rd"
            refine k _ _ (Int.emod_nonneg _ (by omega)) (Int.emod_lt_of_pos _ hn) ⟨ns, i + 1, c, z, upd_same, upd_other hpl.symm hl, by omega, hc, hz0, hz1, hns, hpl⟩ (Kp.upd Kp.refl)
          · walk_at "my_rd"
            refine ⟨_, i + 1, _, rfl, upd_same, upd_other hpl.symm (upd_other hpl.symm hl), by omega, ?_, Kp.upd (Kp.upd Kp.refl)⟩
            split <;> omega
        · walk_at "my_rd"
          exact ⟨none, i, c, rfl, hp, hl, hi, hc, Kp.refl⟩
      · walk_at "my_rd"
        exact ⟨none, i, c, rfl, hp, hl, hi, hc, Kp.refl⟩
    · clear hp hl hi hc i c
      rintro σ' H2 ⟨cell, i, c, rfl, hp, hl, hi, hc, kp⟩
      walk_at "my_rd"
      refine q_if2 (fun h1 => ?_) (fun h1 => ?_)
      · have h1 := dec_t h1
        walk_at "my_rd"
        refine k _ _ (Int.emod_nonneg _ (by omega)) (Int.emod_lt_of_pos _ hn) ⟨ns, i, c / n, z, upd_same, upd_other hpl.symm hl, hi, Int.ediv_nonneg hc (by omega), hz0, hz1, hns, hpl⟩ (Kp.upd kp)
      · walk_at "my_rd"
        refine k _ _ (Int.emod_nonneg _ (by omega)) (Int.emod_lt_of_pos _ hn) ⟨ns, i, c, _, upd_same, upd_other hpl.symm hl, hi, hc, Int.emod_nonneg _ (by decide), Int.emod_lt_of_pos _ (by decide), hns, hpl⟩ (Kp.upd kp)
end

/-- rows that stand as tuples -/
structure RowsAt {α : Type} (f : α → List V) (H : Hp) (xs : List V) (rs : List α) : Prop where
  len : xs.length = rs.length
  at_ : ∀ (i : Nat) (r : α), rs[i]? = some r → ∃ a, xs[i]? = some (.ref a) ∧ H a = some (.tup (f r))
theorem RowsAt.mono {α : Type} {f : α → List V} {H H' : Hp} {xs : List V} {rs : List α} (h : RowsAt f H xs rs) (e : ∀ b ys, H b = some (.tup ys) → H' b = some (.tup ys)) : RowsAt f H' xs rs :=
  ⟨h.len, fun i r hr => by obtain ⟨a, h1, h2⟩ := h.at_ i r hr; exact ⟨a, h1, e _ _ h2⟩⟩
theorem RowsAt.same {α : Type} {f : α → List V} {H H' : Hp} {xs : List V} {rs : List α} (h : RowsAt f H xs rs) (e : Same H H') : RowsAt f H' xs rs := h.mono fun b ys q => e b _ q
theorem RowsAt.item {α : Type} {f : α → List V} {H : Hp} {xs : List V} {rs : List α} (h : RowsAt f H xs rs) {i : Nat} {x : V} (hx : xs[i]? = some x) : ∃ r a, rs[i]? = some r ∧ x = .ref a ∧ H a = some (.tup (f r)) := by
  have hi : i < rs.length := by rw [← h.len]; exact (List.getElem?_eq_some_iff.mp hx).1
  obtain ⟨a, h1, h2⟩ := h.at_ i rs[i] (List.getElem?_eq_getElem hi)
  exact ⟨rs[i], a, List.getElem?_eq_getElem hi, Option.some.inj (hx.symm.trans h1), h2⟩
theorem RowsAt.nil {α : Type} {f : α → List V} {H : Hp} : RowsAt f H [] [] := ⟨rfl, fun i r h => by simp at h⟩
theorem RowsAt.snoc {α : Type} {f : α → List V} {H : Hp} {xs : List V} {rs : List α} {a : Addr} {r : α} (h : RowsAt f H xs rs) (ha : H a = some (.tup (f r))) : RowsAt f H (xs ++ [.ref a]) (rs ++ [r]) := by
  refine ⟨by rw [List.length_append, List.length_append, h.len]; rfl, fun i g' hg => ?_⟩
  by_cases hi : i < rs.length
  · rw [List.getElem?_append_left hi] at hg
    rw [List.getElem?_append_left (by rw [h.len]; exact hi)]
    exact h.at_ i g' hg
  · have hi' : i = rs.length := by
      have := (List.getElem?_eq_some_iff.mp hg).1
      rw [List.length_append] at this
      simp at this
      omega
    subst hi'
    rw [List.getElem?_append_right (Nat.le_refl _)] at hg
    simp at hg
    subst hg
    refine ⟨a, ?_, ha⟩
    rw [List.getElem?_append_right (by rw [h.len]; exact Nat.le_refl _), h.len]
    simp

/-! escrows: the tables -/
structure ERow where
  own : Str
  rcv : Str
  amt : Int
  lock : Int
  last : Int
def ERow.v (r : ERow) : List V := [.str r.own, .str r.rcv, .int r.amt, .int r.lock, .int r.last]
def posOf : List Str → Str → Option Nat
  | [], _ => none
  | x :: S, s => if x = s then some 0 else (posOf S s).map (· + 1)
theorem posOf_some {S : List Str} {s : Str} {j : Nat} (h : posOf S s = some j) : S[j]? = some s ∧ ∀ m, m < j → S[m]? ≠ some s := by
  induction S generalizing j with
  | nil => cases h
  | cons x S ih =>
    unfold posOf at h
    by_cases e : x = s
    · rw [if_pos e] at h
      cases h
      exact ⟨by rw [e]; rfl, fun m hm => absurd hm (Nat.not_lt_zero _)⟩
    · rw [if_neg e] at h
      obtain ⟨i, hi, rfl⟩ := Option.map_eq_some_iff.mp h
      obtain ⟨h1, h2⟩ := ih hi
      refine ⟨h1, fun m hm => ?_⟩
      cases m with
      | zero => exact fun z => e (Option.some.inj z)
      | succ m => exact h2 m (by omega)
theorem posOf_none {S : List Str} {s : Str} : posOf S s = none ↔ s ∉ S := by
  induction S with
  | nil => simp [posOf]
  | cons x S ih =>
    unfold posOf
    by_cases e : x = s
    · rw [if_pos e]; simp [e]
    · rw [if_neg e, Option.map_eq_none_iff, ih, List.mem_cons, not_or]
      exact ⟨fun h => ⟨fun z => e z.symm, h⟩, fun h => h.2⟩
theorem posOf_lt {S : List Str} {s : Str} {j : Nat} (h : posOf S s = some j) : j < S.length := (List.getElem?_eq_some_iff.mp (posOf_some h).1).1
theorem posOf_snoc {S : List Str} {s : Str} (h : posOf S s = none) : posOf (S ++ [s]) s = some S.length := by
  induction S with
  | nil => show (if s = s then some 0 else _) = _; rw [if_pos rfl]; rfl
  | cons x S ih =>
    unfold posOf at h
    by_cases e : x = s
    · rw [if_pos e] at h; cases h
    · rw [if_neg e, Option.map_eq_none_iff] at h
      show (if x = s then some 0 else (posOf (S ++ [s]) s).map (· + 1)) = _
      rw [if_neg e, ih h]
      rfl
def numK : Nat → List Str → List (Key × V)
  | _, [] => []
  | n, s :: S => (.inr s, .int (n : Int)) :: numK (n + 1) S
theorem numK_len (n : Nat) (S : List Str) : (numK n S).length = S.length := by
  induction S generalizing n with
  | nil => rfl
  | cons s S ih => show (numK (n + 1) S).length + 1 = S.length + 1; rw [ih]
theorem numK_val (n : Nat) (S : List Str) (s : Str) : valV (numK n S) (.inr s) = (posOf S s).map fun j => V.int ((n + j : Nat) : Int) := by
  induction S generalizing n with
  | nil => rfl
  | cons x S ih =>
    show valV ((Sum.inr x, V.int (n : Int)) :: numK (n + 1) S) (.inr s) = (if x = s then some 0 else (posOf S s).map (· + 1)).map _
    rw [valV_cons]
    by_cases e : x = s
    · rw [if_pos (by rw [e]), if_pos e]; rfl
    · rw [if_neg (fun z => e (Sum.inr.inj z)), if_neg e, ih]
      cases posOf S s with
      | none => rfl
      | some j =>
        show some (V.int ((n + 1 + j : Nat) : Int)) = some (V.int ((n + (j + 1) : Nat) : Int))
        rw [show n + 1 + j = n + (j + 1) by omega]
theorem numK_snoc (n : Nat) (S : List Str) (s : Str) : numK n (S ++ [s]) = numK n S ++ [(.inr s, .int ((n + S.length : Nat) : Int))] := by
  induction S generalizing n with
  | nil => rfl
  | cons x S ih =>
    show (Sum.inr x, V.int (n : Int)) :: numK (n + 1) (S ++ [s]) = (Sum.inr x, V.int (n : Int)) :: numK (n + 1) S ++ _
    rw [ih]
    show _ = (Sum.inr x, V.int (n : Int)) :: (numK (n + 1) S ++ [(.inr s, .int ((n + (S.length + 1) : Nat) : Int))])
    rw [show n + 1 + S.length = n + (S.length + 1) by omega]
/-! what is left -/
def amtAt (R : List ERow) (n : Nat) : Int := (R[n]?.map (·.amt)).getD 0
def isGone (gone : List Int) (n : Nat) : Bool := gone.any fun g => decide (g = (n : Int))
def aliveTo (gone : List Int) (n : Nat) : List Nat := (List.range n).filter fun m => !isGone gone m
def leftK (R : List ERow) (gone : List Int) (ns : List Nat) : List (Key × V) := ns.map fun (n : Nat) => (Sum.inl (n : Int), V.int (amtAt R n))
theorem isGone_iff {gone : List Int} {n : Nat} : isGone gone n = true ↔ (n : Int) ∈ gone := by
  unfold isGone
  rw [List.any_eq_true]
  constructor
  · rintro ⟨g, hg, e⟩; rw [← of_decide_eq_true e]; exact hg
  · intro h; exact ⟨_, h, decide_eq_true rfl⟩
theorem leftK_val {R : List ERow} {gone : List Int} {ns : List Nat} {n : Nat} : valV (leftK R gone ns) (Sum.inl (n : Int)) = if n ∈ ns then some (.int (amtAt R n)) else none := by
  induction ns with
  | nil => rfl
  | cons m ns ih =>
    show valV ((Sum.inl (m : Int), V.int (amtAt R m)) :: leftK R gone ns) _ = _
    rw [valV_cons]
    by_cases e : m = n
    · subst e
      rw [if_pos rfl, if_pos List.mem_cons_self]
    · rw [if_neg (show ¬ (Sum.inl (m : Int) : Key) = Sum.inl (n : Int) from fun z => e (Int.ofNat.inj (Sum.inl.inj z))), ih]
      by_cases h : n ∈ ns
      · rw [if_pos h, if_pos (List.mem_cons_of_mem _ h)]
      · rw [if_neg h, if_neg (fun z => (List.mem_cons.mp z).elim (fun z => e z.symm) h)]
theorem leftK_drop {R : List ERow} {gone g2 : List Int} {ns : List Nat} {n : Nat} : dropK (leftK R gone ns) (Sum.inl (n : Int)) = leftK R g2 (ns.filter fun m => decide (m ≠ n)) := by
  induction ns with
  | nil => rfl
  | cons m ns ih =>
    unfold dropK leftK at ih ⊢
    rw [List.map_cons, List.filter_cons, List.filter_cons]
    by_cases e : m = n
    · rw [if_neg (by rw [e]; simp), if_neg (by rw [e]; simp), ih]
    · rw [if_pos (show decide ((Sum.inl (m : Int) : Key) ≠ Sum.inl (n : Int)) = true from decide_eq_true (fun z => e (Int.ofNat.inj (Sum.inl.inj z)))), if_pos (decide_eq_true e), List.map_cons, ih]
theorem leftK_congr {R R2 : List ERow} {g g2 : List Int} {ns : List Nat} (h : ∀ n ∈ ns, amtAt R n = amtAt R2 n) : leftK R g ns = leftK R2 g2 ns := by
  unfold leftK
  exact List.map_congr_left fun n hn => by rw [h n hn]
theorem alive_mem {gone : List Int} {n m : Nat} : m ∈ aliveTo gone n ↔ m < n ∧ ¬ (m : Int) ∈ gone := by
  unfold aliveTo
  rw [List.mem_filter, List.mem_range, Bool.not_eq_true', ← isGone_iff, Bool.not_eq_true]
theorem alive_gone {gone : List Int} {n k : Nat} : (aliveTo gone n).filter (fun m => decide (m ≠ k)) = aliveTo (gone ++ [(k : Int)]) n := by
  unfold aliveTo
  rw [List.filter_filter]
  apply List.filter_congr
  intro m _
  unfold isGone
  rw [List.any_append]
  by_cases e : m = k
  · subst e; simp
  · have : ¬ (k : Int) = (m : Int) := fun z => e (Int.ofNat.inj z).symm
    simp [e, this]
theorem alive_snoc {gone : List Int} {n : Nat} (h : ¬ (n : Int) ∈ gone) : aliveTo gone (n + 1) = aliveTo gone n ++ [n] := by
  unfold aliveTo
  rw [List.range_succ, List.filter_append, List.filter_cons_of_pos (by rw [Bool.not_eq_true', ← Bool.not_eq_true, isGone_iff]; exact h)]
  rfl
theorem alive_skip {gone : List Int} {n : Nat} (h : (n : Int) ∈ gone) : aliveTo gone (n + 1) = aliveTo gone n := by
  unfold aliveTo
  rw [List.range_succ, List.filter_append, List.filter_cons_of_neg (by rw [Bool.not_eq_true', ← Bool.not_eq_true, isGone_iff]; exact fun z => z h)]
  exact List.append_nil _
theorem amtAt_app {R : List ERow} {r : ERow} {n : Nat} (h : n < R.length) : amtAt (R ++ [r]) n = amtAt R n := by
  unfold amtAt
  rw [List.getElem?_append_left h]
theorem amtAt_last {R : List ERow} {r : ERow} : amtAt (R ++ [r]) R.length = r.amt := by
  unfold amtAt
  rw [List.getElem?_append_right (Nat.le_refl _), Nat.sub_self]
  rfl
theorem amtAt_at {R : List ERow} {r : ERow} {n : Nat} (h : R[n]? = some r) : amtAt R n = r.amt := by
  unfold amtAt
  rw [h]; rfl
def keptE (R : List ERow) (gone : List Int) : Int := ((aliveTo gone R.length).map (amtAt R)).sum
def goneOk (R : List ERow) (gone : List Int) : Prop := gone.Nodup ∧ ∀ g ∈ gone, 0 ≤ g ∧ g < R.length
/-! what a call is due to give -/
inductive EO
  | txt (s : Str)
  | num (i : Int)
  | pr (who : Str) (amt : Int)
def dueE (S : List Str) (R : List ERow) (gone : List Int) (kd : Int) (row : ERow) (n : Int) (sec : Str) (h : Int) : EO × List ERow × List Int :=
  if kd = 0 then (if row.amt < 1 then (.txt "argument", R, gone) else (.num R.length, R ++ [row], gone))
  else if n < 0 ∨ (R.length : Int) ≤ n then (.txt "unknown", R, gone)
  else if n ∈ gone then (.txt "taken", R, gone)
  else match R[n.toNat]? with
    | none => (.txt "unknown", R, gone)
    | some r => if kd = 1 then (if r.last < h then (.txt "early", R, gone) else if (posOf S sec).map Int.ofNat = some r.lock then (.pr r.rcv r.amt, R, gone ++ [n]) else (.txt "weight", R, gone))
      else (if h ≤ r.last then (.txt "early", R, gone) else (.pr r.own r.amt, R, gone ++ [n]))
theorem due_ok {S : List Str} {R : List ERow} {gone : List Int} {kd : Int} {row : ERow} {n : Int} {sec : Str} {h : Int} (g : goneOk R gone) : goneOk (dueE S R gone kd row n sec h).2.1 (dueE S R gone kd row n sec h).2.2 := by
  have push : ∀ n : Int, ¬ (n < 0 ∨ (R.length : Int) ≤ n) → ¬ n ∈ gone → goneOk R (gone ++ [n]) := by
    intro n h1 h2
    refine ⟨?_, fun x hx => ?_⟩
    · rw [List.nodup_append]
      exact ⟨g.1, by simp, fun a ha b hb e => h2 (by rw [List.mem_singleton.mp hb] at e; exact e ▸ ha)⟩
    · rcases List.mem_append.mp hx with m | m
      · exact g.2 x m
      · rw [List.mem_singleton.mp m]; omega
  unfold dueE
  split
  · split
    · exact g
    · refine ⟨g.1, fun x hx => ?_⟩
      have := g.2 x hx
      show 0 ≤ x ∧ x < ((R ++ [row]).length : Nat)
      rw [List.length_append]
      omega
  · split
    · exact g
    · rename_i h1
      split
      · exact g
      · rename_i h2
        split
        · exact g
        · split
          · split
            · exact g
            · split
              · exact push n h1 h2
              · exact g
          · split
            · exact g
            · exact push n h1 h2
theorem due_len {S : List Str} {R : List ERow} {gone : List Int} {kd : Int} {row : ERow} {n : Int} {sec : Str} {h : Int} : (dueE S R gone kd row n sec h).2.1.length ≤ R.length + 1 ∧ R.length ≤ (dueE S R gone kd row n sec h).2.1.length ∧ (dueE S R gone kd row n sec h).2.2.length ≤ gone.length + 1 := by
  unfold dueE
  repeat' split
  all_goals (refine ⟨?_, ?_, ?_⟩ <;> first | exact Nat.le_succ _ | exact Nat.le_refl _ | (show (_ ++ [_]).length ≤ _; rw [List.length_append]; exact Nat.le_refl _) | (show _ ≤ (_ ++ [_]).length; rw [List.length_append]; exact Nat.le_succ _))

local macro_rules | `(tactic| walk_at "my_rd") => `(tactic| (repeat first
  | with_reducible refine q_tCons ?_
  | ((with_reducible apply q_var); (focus (exact rfl)))
  | with_reducible refine q_c ?_
  | with_reducible refine q_nx ?_
  | with_reducible refine q_bK ?_
  | with_reducible refine q_call ?_
  | with_reducible refine q_callK ?_
  | with_reducible refine q_tNil ?_
  | with_reducible refine q_cb ?_
  | with_reducible refine q_seq ?_
  | with_reducible refine q_asg ?_
  | with_reducible refine q_gName ?_
  | with_reducible refine q_op ?_
  | with_reducible refine q_test ?_
  | with_reducible refine q_tB ?_
  | with_reducible refine q_ifS ?_
  | with_reducible refine q_ret ?_
  | with_reducible refine q_rt ?_
  | with_reducible refine q_next ?_
  | with_reducible refine q_ifF ?_
  | with_reducible refine q_ifT ?_
  | with_reducible refine q_drop ?_
  | with_reducible refine q_and ?_
  | with_reducible refine q_or ?_
  | with_reducible refine q_andT ?_
  | with_reducible refine q_andF ?_
  | with_reducible refine q_orF ?_
  | with_reducible refine q_orT ?_
  | with_reducible refine q_andV ?_
  | with_reducible refine q_andVT ?_
  | with_reducible refine q_andVF ?_
  | with_reducible refine q_orV ?_
  | with_reducible refine q_gCons ?_
  | with_reducible refine q_gNil ?_
  | with_reducible refine q_tup ?_
  | with_reducible refine q_lst ?_
  | with_reducible refine q_not ?_
  | with_reducible refine q_notKT ?_
  | with_reducible refine q_notKF ?_
  | with_reducible refine q_I0 ?_
  | with_reducible refine q_eqI ?_
  | with_reducible refine q_neI ?_
  | ((with_reducible refine q_I ?_ ?_); first | decide | omega | exact ⟨by omega, by omega⟩ | exact ⟨by decide, by decide⟩ | exact .inl ⟨by omega, by omega⟩ | exact .inr ⟨by omega, by omega⟩ | exact .inr ⟨by decide, by decide⟩)
  | with_reducible refine q_eqS ?_
  | with_reducible refine q_neS ?_
  | with_reducible refine q_brk ?_
  | with_reducible refine q_ct ?_
  | with_reducible refine q_bk ?_
  | with_reducible refine q_cn ?_
  | with_reducible refine q_retN ?_
  | with_reducible refine q_gSub ?_
  | with_reducible refine q_for ?_
  | with_reducible refine q_iList ?_
  | with_reducible refine q_iTup ?_
  | with_reducible refine q_iRng1 ?_
  | with_reducible refine q_notK ?_
  | with_reducible refine q_orVT ?_
  | with_reducible refine q_orVF ?_
  | with_reducible refine q_notV ?_
  | with_reducible refine q_notVK ?_
  | with_reducible refine q_ifE ?_
  | with_reducible refine q_ifET ?_
  | with_reducible refine q_ifEF ?_
  | with_reducible refine q_yes ?_
  | with_reducible refine q_un ?_
  | with_reducible refine q_rU ?_
  | with_reducible refine q_abs ?_
  | with_reducible refine q_int1 ?_
  | with_reducible refine q_bm ?_
  | with_reducible refine q_bm0 ?_
  | with_reducible refine q_lc ?_
  | with_reducible refine q_keepT ?_
  | with_reducible refine q_keepF ?_
  | ((with_reducible apply q_aug); (focus (exact rfl)))
  | with_reducible refine q_ipI ?_
  | with_reducible refine q_chain ?_
  | with_reducible refine q_pairC ?_
  | with_reducible refine q_pairsK ?_
  | with_reducible refine q_pairN ?_
  | with_reducible refine q_fld ?_
  | with_reducible refine q_sFld ?_
  | with_reducible refine q_meth ?_
  | with_reducible refine q_makeK ?_
  | with_reducible refine q_isBl ?_
  | with_reducible refine q_notBl ?_
  | with_reducible refine q_sl ?_
  | with_reducible refine q_noPart ?_
  | with_reducible refine q_part ?_
  | with_reducible refine q_partK ?_
  | ((with_reducible apply q_mulStr); (focus (decide +kernel)))
  | with_reducible refine q_chT ?_
  | with_reducible refine q_chF ?_
  | with_reducible refine q_ord ?_
  | with_reducible refine q_iStr0 ?_
  | with_reducible refine q_iStr ?_
  | with_reducible refine q_tDIn ?_
  | with_reducible refine q_tDNotIn ?_
  | with_reducible refine q_tDGet ?_
  | with_reducible refine q_tDGet2 ?_
  | with_reducible refine q_tDGet1 ?_
  | with_reducible refine q_tDSetd ?_
  | ((with_reducible apply q_dG2a); (focus ((repeat first | (with_reducible exact upd_same) | (with_reducible assumption) | (with_reducible apply upd_new (by assumption)) | (with_reducible apply upd_other (by first | assumption | exact Ne.symm (by assumption))) | (with_reducible refine' Kp.get (by assumption) ?_ (by first | assumption | exact Ne.symm (by assumption))) | (with_reducible apply Same.get (by assumption))); done)))
  | ((with_reducible apply q_dSda); (focus ((repeat first | (with_reducible exact upd_same) | (with_reducible assumption) | (with_reducible apply upd_new (by assumption)) | (with_reducible apply upd_other (by first | assumption | exact Ne.symm (by assumption))) | (with_reducible refine' Kp.get (by assumption) ?_ (by first | assumption | exact Ne.symm (by assumption))) | (with_reducible apply Same.get (by assumption))); done)))
  | with_reducible refine q_sDPut ?_
  | ((with_reducible apply q_dInS); (focus ((repeat first | (with_reducible exact upd_same) | (with_reducible assumption) | (with_reducible apply upd_new (by assumption)) | (with_reducible apply upd_other (by first | assumption | exact Ne.symm (by assumption))) | (with_reducible refine' Kp.get (by assumption) ?_ (by first | assumption | exact Ne.symm (by assumption))) | (with_reducible apply Same.get (by assumption))); done)))
  | ((with_reducible apply q_dNInS); (focus ((repeat first | (with_reducible exact upd_same) | (with_reducible assumption) | (with_reducible apply upd_new (by assumption)) | (with_reducible apply upd_other (by first | assumption | exact Ne.symm (by assumption))) | (with_reducible refine' Kp.get (by assumption) ?_ (by first | assumption | exact Ne.symm (by assumption))) | (with_reducible apply Same.get (by assumption))); done)))
  | ((with_reducible apply q_dInI); (focus ((repeat first | (with_reducible exact upd_same) | (with_reducible assumption) | (with_reducible apply upd_new (by assumption)) | (with_reducible apply upd_other (by first | assumption | exact Ne.symm (by assumption))) | (with_reducible refine' Kp.get (by assumption) ?_ (by first | assumption | exact Ne.symm (by assumption))) | (with_reducible apply Same.get (by assumption))); done)))
  | ((with_reducible apply q_dNInI); (focus ((repeat first | (with_reducible exact upd_same) | (with_reducible assumption) | (with_reducible apply upd_new (by assumption)) | (with_reducible apply upd_other (by first | assumption | exact Ne.symm (by assumption))) | (with_reducible refine' Kp.get (by assumption) ?_ (by first | assumption | exact Ne.symm (by assumption))) | (with_reducible apply Same.get (by assumption))); done)))
  | ((with_reducible apply q_bmL); (focus ((repeat first | (with_reducible exact upd_same) | (with_reducible assumption) | (with_reducible apply upd_new (by assumption)) | (with_reducible apply upd_other (by first | assumption | exact Ne.symm (by assumption))) | (with_reducible refine' Kp.get (by assumption) ?_ (by first | assumption | exact Ne.symm (by assumption))) | (with_reducible apply Same.get (by assumption))); done)))
  | ((with_reducible apply q_bmL0); (focus ((repeat first | (with_reducible exact upd_same) | (with_reducible assumption) | (with_reducible apply upd_new (by assumption)) | (with_reducible apply upd_other (by first | assumption | exact Ne.symm (by assumption))) | (with_reducible refine' Kp.get (by assumption) ?_ (by first | assumption | exact Ne.symm (by assumption))) | (with_reducible apply Same.get (by assumption))); done)))
  | ((with_reducible apply q_ixLt); (focus ((repeat first | (with_reducible exact upd_same) | (with_reducible assumption) | (with_reducible apply upd_new (by assumption)) | (with_reducible apply upd_other (by first | assumption | exact Ne.symm (by assumption))) | (with_reducible refine' Kp.get (by assumption) ?_ (by first | assumption | exact Ne.symm (by assumption))) | (with_reducible apply Same.get (by assumption))); done)); (focus (exact rfl)))
  | ((with_reducible apply q_ixTt); (focus ((repeat first | (with_reducible exact upd_same) | (with_reducible assumption) | (with_reducible apply upd_new (by assumption)) | (with_reducible apply upd_other (by first | assumption | exact Ne.symm (by assumption))) | (with_reducible refine' Kp.get (by assumption) ?_ (by first | assumption | exact Ne.symm (by assumption))) | (with_reducible apply Same.get (by assumption))); done)); (focus (exact rfl)))
  | ((with_reducible apply q_lenLt); (focus ((repeat first | (with_reducible exact upd_same) | (with_reducible assumption) | (with_reducible apply upd_new (by assumption)) | (with_reducible apply upd_other (by first | assumption | exact Ne.symm (by assumption))) | (with_reducible refine' Kp.get (by assumption) ?_ (by first | assumption | exact Ne.symm (by assumption))) | (with_reducible apply Same.get (by assumption))); done)))
  | ((with_reducible apply q_lenTt); (focus ((repeat first | (with_reducible exact upd_same) | (with_reducible assumption) | (with_reducible apply upd_new (by assumption)) | (with_reducible apply upd_other (by first | assumption | exact Ne.symm (by assumption))) | (with_reducible refine' Kp.get (by assumption) ?_ (by first | assumption | exact Ne.symm (by assumption))) | (with_reducible apply Same.get (by assumption))); done)))
  | ((with_reducible apply q_append); (focus ((repeat first | (with_reducible exact upd_same) | (with_reducible assumption) | (with_reducible apply upd_new (by assumption)) | (with_reducible apply upd_other (by first | assumption | exact Ne.symm (by assumption))) | (with_reducible refine' Kp.get (by assumption) ?_ (by first | assumption | exact Ne.symm (by assumption))) | (with_reducible apply Same.get (by assumption))); done)); (focus ((first | (exact Nat.lt_of_ble_eq_true rfl) | (simp only [List.length_append, List.length_cons, List.length_nil, List.length_map]; exact small1000 (by omega))))))
  | ((with_reducible apply q_setL); (focus ((repeat first | (with_reducible exact upd_same) | (with_reducible assumption) | (with_reducible apply upd_new (by assumption)) | (with_reducible apply upd_other (by first | assumption | exact Ne.symm (by assumption))) | (with_reducible refine' Kp.get (by assumption) ?_ (by first | assumption | exact Ne.symm (by assumption))) | (with_reducible apply Same.get (by assumption))); done)); (focus (exact rfl)))
  | with_reducible refine q_ifNT ?_
  | with_reducible refine q_ifNF ?_
  | with_reducible refine q_andNT ?_
  | with_reducible refine q_andNF ?_
  | with_reducible refine q_orNT ?_
  | with_reducible refine q_orNF ?_
  | with_reducible refine q_bKNT ?_
  | with_reducible refine q_bKNF ?_
  | with_reducible refine q_tNGet ?_
  | with_reducible refine q_tNIn ?_
  | with_reducible refine q_sNPut ?_
  | with_reducible refine q_sFldAug ?_
  | with_reducible refine q_sDAug ?_
  | with_reducible refine q_sDDel ?_
  | with_reducible refine q_forX ?_
  | with_reducible refine q_tMake ?_
  | ((with_reducible apply q_dG1a); (focus ((repeat first | (with_reducible exact upd_same) | (with_reducible assumption) | (with_reducible apply upd_new (by assumption)) | (with_reducible apply upd_other (by first | assumption | exact Ne.symm (by assumption))) | (with_reducible refine' Kp.get (by assumption) ?_ (by first | assumption | exact Ne.symm (by assumption))) | (with_reducible apply Same.get (by assumption))); done)))))
/-! locks and escrows -/
structure LockAt (C : Addr) (H : Hp) (k nd : Addr) (S : List Str) : Prop where
  o : ∃ dx, H k = some (.ins C dx [("_numbers", .ref nd)])
  d : H nd = some (.dK (numK 0 S))
structure EscAt (C : Addr) (H : Hp) (e k rl ld : Addr) (R : List ERow) (gone : List Int) : Prop where
  o : ∃ dx, H e = some (.ins C dx [("_locks", .ref k), ("_rows", .ref rl), ("_left", .ref ld)])
  r : ∃ xs, H rl = some (.lst xs) ∧ RowsAt ERow.v H xs R
  d : H ld = some (.dK (leftK R gone (aliveTo gone R.length)))
/-- all but two stays -/
def Kq (p q : Addr) (H H' : Hp) : Prop := ∀ b o, H b = some o → b ≠ p → b ≠ q → H' b = some o
theorem Kq.same {p q : Addr} {H H' : Hp} (e : Same H H') : Kq p q H H' := fun b o h _ _ => e b o h
theorem Kq.refl {p q : Addr} {H : Hp} : Kq p q H H := fun b o h _ _ => h
theorem Kq.up1 {p q : Addr} {H H' : Hp} {o : HO} (e : Kq p q H H') : Kq p q H (upd H' p o) := fun b o h n1 n2 => upd_other n1 (e b o h n1 n2)
theorem Kq.up2 {p q : Addr} {H H' : Hp} {o : HO} (e : Kq p q H H') : Kq p q H (upd H' q o) := fun b o h n1 n2 => upd_other n2 (e b o h n1 n2)
theorem Kq.new {p q c : Addr} {H H' : Hp} {o : HO} (e : Kq p q H H') (h : H c = none) : Kq p q H (upd H' c o) := fun b o hb n1 n2 => upd_other (ne_of_none hb h) (e b o hb n1 n2)
theorem LockAt.same {C : Addr} {H H' : Hp} {k nd : Addr} {S : List Str} (h : LockAt C H k nd S) (s : Same H H') : LockAt C H' k nd S := by
  obtain ⟨dx, q⟩ := h.o
  exact ⟨⟨dx, s _ _ q⟩, s _ _ h.d⟩
theorem LockAt.kq {C : Addr} {H H' : Hp} {k nd p q : Addr} {S : List Str} (h : LockAt C H k nd S) (s : Kq p q H H') (n1 : k ≠ p) (n2 : k ≠ q) (n3 : nd ≠ p) (n4 : nd ≠ q) : LockAt C H' k nd S := by
  obtain ⟨dx, z⟩ := h.o
  exact ⟨⟨dx, s _ _ z n1 n2⟩, s _ _ h.d n3 n4⟩
theorem EscAt.same {C : Addr} {H H' : Hp} {e k rl ld : Addr} {R : List ERow} {gone : List Int} (h : EscAt C H e k rl ld R gone) (s : Same H H') : EscAt C H' e k rl ld R gone := by
  obtain ⟨dx, z⟩ := h.o
  obtain ⟨xs, h1, h2⟩ := h.r
  exact ⟨⟨dx, s _ _ z⟩, ⟨xs, s _ _ h1, h2.same s⟩, s _ _ h.d⟩
def sp_lkI (C : Addr) : Sp := fun vs H Q _ => ∃ (b dx : Addr), vs = [.ref b] ∧ H b = some (.ins C dx []) ∧ ∀ (d : Addr) (H' : Hp), H d = none → LockAt C H' b d [] → Kp b H H' → Q .non H'
def sp_lkL (C : Addr) : Sp := fun vs H Q _ => ∃ (b d : Addr) (S : List Str) (s : Str), vs = [.ref b, .str s] ∧ LockAt C H b d S ∧ S.length ≤ 900 ∧
  (∀ j, posOf S s = some j → Q (.int (j : Nat)) H) ∧ (posOf S s = none → ∀ H', LockAt C H' b d (S ++ [s]) → Kp d H H' → Q (.int (S.length : Nat)) H')
def sp_lkO (C : Addr) : Sp := fun vs H Q _ => ∃ (b d : Addr) (S : List Str) (n : Int) (s : Str), vs = [.ref b, .int n, .str s] ∧ LockAt C H b d S ∧ Q (.bl (decide ((posOf S s).map Int.ofNat = some n))) H
def sp_esI (C : Addr) : Sp := fun vs H Q _ => ∃ (b dx k : Addr), vs = [.ref b, .ref k] ∧ H b = some (.ins C dx []) ∧ ∀ (rl ld : Addr) (H' : Hp), H rl = none → H ld = none → EscAt C H' b k rl ld [] [] → Kp b H H' → Q .non H'
def sp_esK (C : Addr) : Sp := fun vs H Q _ => ∃ (b k rl ld : Addr) (R : List ERow) (gone : List Int), vs = [.ref b] ∧ EscAt C H b k rl ld R gone ∧ Q (.int (keptE R gone)) H
def sp_esP (C CI : Addr) : Sp := fun vs H Q E => ∃ (b k rl ld : Addr) (R : List ERow) (gone : List Int) (r : ERow), vs = .ref b :: r.v ∧ EscAt C H b k rl ld R gone ∧ goneOk R gone ∧ R.length ≤ 900 ∧ rl ≠ ld ∧
  (r.amt < 1 → E (.ref CI) none H) ∧ (¬ r.amt < 1 → ∀ H', EscAt C H' b k rl ld (R ++ [r]) gone → Kq rl ld H H' → Q (.int (R.length : Nat)) H')
def sp_esF (C CU CA : Addr) : Sp := fun vs H Q E => ∃ (b k rl ld : Addr) (R : List ERow) (gone : List Int) (n : Int), vs = [.ref b, .int n] ∧ EscAt C H b k rl ld R gone ∧
  ((n < 0 ∨ (R.length : Int) ≤ n) → E (.ref CU) none H) ∧ (¬ (n < 0 ∨ (R.length : Int) ≤ n) → n ∈ gone → E (.ref CA) none H) ∧
  (∀ (m : Nat) (c : Addr) (r : ERow), n = m → m < R.length → ¬ (m : Int) ∈ gone → R[m]? = some r → H c = some (.tup r.v) → Q (.ref c) H)
def sp_esS (C Cl CU CA CT CN : Addr) : Sp := fun vs H Q E => ∃ (b k nd rl ld : Addr) (R : List ERow) (gone : List Int) (S : List Str) (n h : Int) (sec : Str), vs = [.ref b, .int n, .str sec, .int h] ∧ EscAt C H b k rl ld R gone ∧ LockAt Cl H k nd S ∧
  ((n < 0 ∨ (R.length : Int) ≤ n) → E (.ref CU) none H) ∧ (¬ (n < 0 ∨ (R.length : Int) ≤ n) → n ∈ gone → E (.ref CA) none H) ∧
  (∀ (m : Nat) (r : ERow), n = m → m < R.length → ¬ (m : Int) ∈ gone → R[m]? = some r → r.last < h → E (.ref CT) none H) ∧
  (∀ (m : Nat) (r : ERow), n = m → m < R.length → ¬ (m : Int) ∈ gone → R[m]? = some r → ¬ r.last < h → ¬ (posOf S sec).map Int.ofNat = some r.lock → E (.ref CN) none H) ∧
  (∀ (m : Nat) (r : ERow), n = m → m < R.length → ¬ (m : Int) ∈ gone → R[m]? = some r → ¬ r.last < h → (posOf S sec).map Int.ofNat = some r.lock → ∀ c H', H' c = some (.tup [.str r.rcv, .int r.amt]) → EscAt C H' b k rl ld R (gone ++ [(m : Int)]) → Kq rl ld H H' → Q (.ref c) H')
def sp_esG (C CU CA CT : Addr) : Sp := fun vs H Q E => ∃ (b k rl ld : Addr) (R : List ERow) (gone : List Int) (n h : Int), vs = [.ref b, .int n, .int h] ∧ EscAt C H b k rl ld R gone ∧
  ((n < 0 ∨ (R.length : Int) ≤ n) → E (.ref CU) none H) ∧ (¬ (n < 0 ∨ (R.length : Int) ≤ n) → n ∈ gone → E (.ref CA) none H) ∧
  (∀ (m : Nat) (r : ERow), n = m → m < R.length → ¬ (m : Int) ∈ gone → R[m]? = some r → h ≤ r.last → E (.ref CT) none H) ∧
  (∀ (m : Nat) (r : ERow), n = m → m < R.length → ¬ (m : Int) ∈ gone → R[m]? = some r → ¬ h ≤ r.last → ∀ c H', H' c = some (.tup [.str r.own, .int r.amt]) → EscAt C H' b k rl ld R (gone ++ [(m : Int)]) → Kq rl ld H H' → Q (.ref c) H')
theorem lk1 {m f : Str} {x : V} (h : (m == f) = false) : List.lookup m [(f, x)] = none := by
  show (match m == f with | true => some x | false => List.lookup m []) = none
  rw [h]; rfl
theorem lk3 {m f g f2 : Str} {x y z : V} (h : (m == f) = false) (h2 : (m == g) = false) (h3 : (m == f2) = false) : List.lookup m [(f, x), (g, y), (f2, z)] = none := by
  show (match m == f with | true => some x | false => List.lookup m [(g, y), (f2, z)]) = none
  rw [h]
  show (match m == g with | true => some y | false => List.lookup m [(f2, z)]) = none
  rw [h2]
  exact lk1 h3
section
variable {P : Program} {w : World} {K : PySem.W.Frag} {mg : Str → Option Value} {base : Heap}
theorem ok_Locks_init (T : Txt K mg) : FnOk P w K mg base CX0 1 T.f_Locks_init T.d_Locks_init ["self"] (sp_lkI T.C_Locks) := by
  refine T.F_Locks_init.ok sc_Locks_init (fun vs H Q E h => ?_) (fun cdv A outer s H vs Q E hr h => ?_)
  · obtain ⟨b, dx, rfl, _⟩ := h; rfl
  · obtain ⟨b, dx, rfl, hb, k⟩ := h
    refine ⟨_, (pss_one (ps_fld (pv 0) pe_dnewK rfl)), ?_⟩
    (dsimp only [cxOf, Cx.nox, Cx.wish, L2.start, List.map, List.length, List.replicate, List.cons_append, List.nil_append, List.append_eq, Nat.reduceSub, Nat.reduceAdd])
    walk_at "my_rd"
    refine q_dNew fun d nd => ?_
    have nb : d ≠ b := (ne_of_none hb nd).symm
    walk_at "my_rd"
    refine q_fputK (upd_new nd hb) T.cl_Locks T.n_Locks_numbers (by show 0 < 1000; decide) ?_
    walk_at "my_rd"
    exact k d _ nd ⟨⟨dx, upd_same⟩, upd_other nb upd_same⟩ (Kp.upd (Kp.new Kp.refl nd))
theorem ok_Locks_lock (T : Txt K mg) : FnOk P w K mg base CX0 1 T.f_Locks_lock T.d_Locks_lock ["self", "secret"] (sp_lkL T.C_Locks) := by
  refine T.F_Locks_lock.ok sc_Locks_lock (fun vs H Q E h => ?_) (fun cdv A outer s H vs Q E hr h => ?_)
  · obtain ⟨b, d, S, s, rfl, _⟩ := h; rfl
  · obtain ⟨b, d, S, s, rfl, hL, hl, k1, k2⟩ := h
    obtain ⟨dx, ho⟩ := hL.o
    have hd := hL.d
    refine ⟨_, (pss_one (ps_ret (pe_dsetd (pe_fld (pv 0) rfl) (pv 1) (pe_callB call_lenD (by rfl) T.z_len boot_len (pa_cons (pe_fld (pv 0) rfl) pa_nil)) ⟨rfl, rfl, rfl, rfl⟩))), ?_⟩
    (dsimp only [cxOf, Cx.nox, Cx.wish, L2.start, List.map, List.length, List.replicate, List.cons_append, List.nil_append, List.append_eq, Nat.reduceSub, Nat.reduceAdd])
    walk_at "my_rd"
    refine q_fldK ho T.cl_Locks T.n_Locks_numbers rfl ?_
    walk_at "my_rd"
    refine q_fldK ho T.cl_Locks T.n_Locks_numbers rfl ?_
    walk_at "my_rd"
    refine q_lenD hd ?_
    have hv := numK_val 0 S s
    have hlen := numK_len 0 S
    rw [hlen]
    refine q_dSdS hd (by rw [hlen]; exact small1000 (by omega)) (fun v hv2 => ?_) (fun hv2 => ?_)
    · cases hp : posOf S s with
      | none => rw [hp] at hv; rw [hv] at hv2; cases hv2
      | some j =>
        rw [hp] at hv
        rw [hv] at hv2
        have e : v = .int (j : Nat) := by rw [← Option.some.inj hv2]; show V.int ((0 + j : Nat) : Int) = _; rw [Nat.zero_add]
        subst e
        walk_at "my_rd"
        exact k1 j hp
    · cases hp : posOf S s with
      | some j => rw [hp] at hv; rw [hv] at hv2; cases hv2
      | none =>
        walk_at "my_rd"
        rw [putK_new _ hv2]
        have e : numK 0 S ++ [(Sum.inr s, V.int (S.length : Nat))] = numK 0 (S ++ [s]) := by rw [numK_snoc, Nat.zero_add]
        rw [e]
        exact k2 hp _ ⟨⟨dx, upd_other (ne_of ho hd (by intro z; cases z)) ho⟩, upd_same⟩ (Kp.upd Kp.refl)
theorem ok_Locks_opens (T : Txt K mg) : FnOk P w K mg base CX0 1 T.f_Locks_opens T.d_Locks_opens ["self", "number", "secret"] (sp_lkO T.C_Locks) := by
  refine T.F_Locks_opens.ok sc_Locks_opens (fun vs H Q E h => ?_) (fun cdv A outer s H vs Q E hr h => ?_)
  · obtain ⟨b, d, S, n, s, rfl, _⟩ := h; rfl
  · obtain ⟨b, d, S, n, s, rfl, hL, k⟩ := h
    obtain ⟨dx, ho⟩ := hL.o
    have hd := hL.d
    have hu := hu_of hr
    refine ⟨_, (pss_one (ps_ret (pe_cmpR op_eq (pe_dget1 hu (pe_fld (pv 0) rfl) (pv 2) ⟨rfl, rfl, rfl, rfl⟩) (pv 1) (nomark _)))), ?_⟩
    (dsimp only [cxOf, Cx.nox, Cx.wish, L2.start, List.map, List.length, List.replicate, List.cons_append, List.nil_append, List.append_eq, Nat.reduceSub, Nat.reduceAdd])
    walk_at "my_rd"
    refine q_fldK ho T.cl_Locks T.n_Locks_numbers rfl ?_
    walk_at "my_rd"
    refine q_dG1S hd ?_
    rw [numK_val]
    walk_at "my_rd"
    cases hp : posOf S s with
    | none =>
      rw [hp] at k
      refine q_eq rfl ?_
      rw [decide_eq_false (by intro z; cases z)]
      rw [decide_eq_false (by intro z; cases z)] at k
      walk_at "my_rd"
      exact k
    | some j =>
      rw [hp] at k
      show rEq (.int ((0 + j : Nat) : Int)) _ _ _
      rw [Nat.zero_add]
      refine q_eqI ?_
      have e : decide ((j : Int) = n) = decide ((some j).map Int.ofNat = some n) := by
        by_cases h : (j : Int) = n
        · rw [decide_eq_true h, decide_eq_true (by rw [← h]; rfl)]
        · rw [decide_eq_false h]; symm; exact decide_eq_false (fun z => h (Option.some.inj z))
      rw [e]
      walk_at "my_rd"
      exact k
theorem ok_Escrow_init (T : Txt K mg) : FnOk P w K mg base CX0 1 T.f_Escrow_init T.d_Escrow_init ["self", "locks"] (sp_esI T.C_Escrow) := by
  refine T.F_Escrow_init.ok sc_Escrow_init (fun vs H Q E h => ?_) (fun cdv A outer s H vs Q E hr h => ?_)
  · obtain ⟨b, dx, k, rfl, _⟩ := h; rfl
  · obtain ⟨b, dx, kk, rfl, hb, k⟩ := h
    refine ⟨_, (pss_cons (ps_fld (pv 0) (pv 1) rfl)
      (pss_cons (ps_fld (pv 0) (pe_lst pa_nil) rfl)
      (pss_one (ps_fld (pv 0) pe_dnewK rfl)))), ?_⟩
    (dsimp only [cxOf, Cx.nox, Cx.wish, L2.start, List.map, List.length, List.replicate, List.cons_append, List.nil_append, List.append_eq, Nat.reduceSub, Nat.reduceAdd])
    walk_at "my_rd"
    refine q_fputK hb T.cl_Escrow T.n_Escrow_locks (by show 0 < 1000; decide) ?_
    walk_at "my_rd"
    refine q_lstK (Nat.le_of_ble_eq_true rfl) fun rl nrl => ?_
    have nb : rl ≠ b := fun e => by rw [e, upd_same] at nrl; cases nrl
    walk_at "my_rd"
    refine q_fputK (upd_new nrl upd_same) T.cl_Escrow T.n_Escrow_rows (by show 1 < 1000; decide) ?_
    walk_at "my_rd"
    refine q_dNew fun ld nld => ?_
    have nb2 : ld ≠ b := fun e => by rw [e, upd_same] at nld; cases nld
    have nr2 : ld ≠ rl := fun e => by rw [e, upd_other nb upd_same] at nld; cases nld
    have nrl0 := upd_none_back nrl
    have nld0 := upd_none_back (upd_none_back (upd_none_back nld))
    walk_at "my_rd"
    refine q_fputK (upd_new nld upd_same) T.cl_Escrow T.n_Escrow_left (by show 2 < 1000; decide) ?_
    walk_at "my_rd"
    exact k rl ld _ nrl0 nld0 ⟨⟨dx, upd_same⟩, ⟨[], upd_other nb (upd_other nr2.symm (upd_other nb upd_same)), .nil⟩, upd_other nb2 upd_same⟩ (Kp.upd (Kp.new (Kp.upd (Kp.new (Kp.upd Kp.refl) nrl0)) nld0))
theorem ok_Escrow_kept (T : Txt K mg) : FnOk P w K mg base CX0 1 T.f_Escrow_kept T.d_Escrow_kept ["self"] (sp_esK T.C_Escrow) := by
  refine T.F_Escrow_kept.ok sc_Escrow_kept (fun vs H Q E h => ?_) (fun cdv A outer s H vs Q E hr h => ?_)
  · obtain ⟨b, k, rl, ld, R, gone, rfl, _⟩ := h; rfl
  · obtain ⟨b, kk, rl, ld, R, gone, rfl, hE, k⟩ := h
    obtain ⟨dx, ho⟩ := hE.o
    refine ⟨_, (pss_one (ps_ret (pe_sumVals rfl (by rfl) T.z_sum (pe_fld (pv 0) rfl)))), ?_⟩
    (dsimp only [cxOf, Cx.nox, Cx.wish, L2.start, List.map, List.length, List.replicate, List.cons_append, List.nil_append, List.append_eq, Nat.reduceSub, Nat.reduceAdd])
    walk_at "my_rd"
    refine q_sumVals ?_
    walk_at "my_rd"
    refine q_fldK ho T.cl_Escrow T.n_Escrow_left rfl ?_
    refine q_sumK (is := (aliveTo gone R.length).map (amtAt R)) hE.d (by unfold leftK; rw [List.map_map, List.map_map]; rfl) ?_
    walk_at "my_rd"
    exact k
theorem ok_Escrow_keep (T : Txt K mg) : FnOk P w K mg base (L2.CX P w) 1 T.f_Escrow_keep T.d_Escrow_keep ["self", "owner", "receiver", "amount", "lock", "height"] (sp_esP T.C_Escrow T.C_InvalidArgument) := by
  refine T.F_Escrow_keep.okX sc_Escrow_keep (fun vs H Q E h => ?_) (fun cdv A outer s H vs Q E hr h => ?_)
  · obtain ⟨b, k, rl, ld, R, gone, r, rfl, _⟩ := h; rfl
  · obtain ⟨b, kk, rl, ld, R, gone, r, rfl, hE, hg, hl, hne, k1, k2⟩ := h
    obtain ⟨dx, ho⟩ := hE.o
    obtain ⟨xs, hrl, hR⟩ := hE.r
    have hd := hE.d
    have hu := hu_of hr
    refine ⟨_, (pss_cons (ps_if (pt_cmpR op_lt (pv 3) pe_int (nomark _)) (pss_one (ps_raise rfl (takes_of rfl rfl rfl rfl) (pmk_own PySem.F.excBase_ValueError T.xe_InvalidArgument T.g_InvalidArgument T.ke_InvalidArgument (raises_own T.be_InvalidArgument T.te_InvalidArgument) (by exact rfl)))) pss_nil)
      (pss_cons (ps_set (i := 6) sc_Escrow_keep.nd rfl (Or.inl rfl) (pe_callB cq_len (by rfl) T.z_len boot_len (pa_cons (pe_fld (pv 0) rfl) pa_nil)))
      (pss_cons (ps_expr (pe_bm PySem.F.plainAttrs_list PySem.F.slot_list_append PySem.F.type_list_append mt_append (pe_fld (pv 0) rfl) (pa_cons (pe_tup (pa_cons (pv 1) (pa_cons (pv 2) (pa_cons (pv 3) (pa_cons (pv 4) (pa_cons (pv 5) pa_nil)))))) pa_nil)))
      (pss_cons (ps_dput hu (pe_fld (pv 0) rfl) (pv 6) (pv 3) rfl)
      (pss_one (ps_ret (pv 6))))))), ?_⟩
    unfold ERow.v
    (dsimp only [cxOf, Cx.nox, Cx.wish, L2.start, List.map, List.length, List.replicate, List.cons_append, List.nil_append, List.append_eq, Nat.reduceSub, Nat.reduceAdd])
    walk_at "my_rd"
    refine q_if2 (fun h => ?_) (fun h => ?_)
    · have h := dec_t h
      walk_at "my_rd"
      exact k1 h
    · have h := dec_f h
      walk_at "my_rd"
      refine q_fldK ho T.cl_Escrow T.n_Escrow_rows rfl ?_
      walk_at "my_rd"
      rw [hR.len]
      refine q_fldK ho T.cl_Escrow T.n_Escrow_rows rfl ?_
      walk_at "my_rd"
      refine q_tupK (Nat.le_of_ble_eq_true rfl) fun t nt => ?_
      walk_at "my_rd"
      have nt1 : t ≠ rl := (ne_of_none hrl nt).symm
      have nt2 : t ≠ ld := (ne_of_none hd nt).symm
      have nrl : b ≠ rl := ne_of ho hrl (by intro z; cases z)
      have nld : b ≠ ld := ne_of ho hd (by intro z; cases z)
      refine q_append (upd_new nt hrl) (by rw [hR.len]; exact small1000 (by omega)) ?_
      walk_at "my_rd"
      refine q_fldK (upd_other nrl (upd_new nt ho)) T.cl_Escrow T.n_Escrow_left rfl ?_
      walk_at "my_rd"
      have hng : ¬ (R.length : Int) ∈ gone := fun z => by have := hg.2 _ z; omega
      have hv : valV (leftK R gone (aliveTo gone R.length)) (Sum.inl (R.length : Int)) = none := by
        rw [leftK_val, if_neg (fun z => by have := (alive_mem.mp z).1; omega)]
      have hll : (leftK R gone (aliveTo gone R.length)).length ≤ R.length := by
        unfold leftK aliveTo
        rw [List.length_map]
        exact Nat.le_trans (List.length_filter_le _ _) (by rw [List.length_range]; exact Nat.le_refl _)
      refine q_dPutI (upd_other hne.symm (upd_new nt hd)) (small1000 (by omega)) ?_
      walk_at "my_rd"
      rw [putK_new _ hv]
      have eL : leftK R gone (aliveTo gone R.length) ++ [(Sum.inl (R.length : Int), V.int r.amt)] = leftK (R ++ [r]) gone (aliveTo gone (R ++ [r]).length) := by
        rw [List.length_append]
        show _ = leftK (R ++ [r]) gone (aliveTo gone (R.length + 1))
        rw [alive_snoc hng]
        unfold leftK
        rw [List.map_append]
        congr 1
        · exact List.map_congr_left fun n hn => by rw [amtAt_app (alive_mem.mp hn).1]
        · show _ = [(Sum.inl (R.length : Int), V.int (amtAt (R ++ [r]) R.length))]
          rw [amtAt_last]
      rw [eL]
      refine k2 h _ ⟨⟨dx, upd_other nld (upd_other nrl (upd_new nt ho))⟩, ⟨_, upd_other hne upd_same, ?_⟩, upd_same⟩ (Kq.up2 (Kq.up1 (Kq.new Kq.refl nt)))
      exact RowsAt.snoc (hR.mono fun c ys q => upd_other (ne_of q hd (by intro z; cases z)) (upd_other (ne_of q hrl (by intro z; cases z)) (upd_new nt q))) (upd_other nt2 (upd_other nt1 upd_same))
theorem ok_Escrow_find (T : Txt K mg) : FnOk P w K mg base (L2.CX P w) 1 T.f_Escrow_find T.d_Escrow_find ["self", "number"] (sp_esF T.C_Escrow T.C_UnknownTransfer T.C_AlreadyTaken) := by
  refine T.F_Escrow_find.okX sc_Escrow_find (fun vs H Q E h => ?_) (fun cdv A outer s H vs Q E hr h => ?_)
  · obtain ⟨b, k, rl, ld, R, gone, n, rfl, _⟩ := h; rfl
  · obtain ⟨b, kk, rl, ld, R, gone, n, rfl, hE, k1, k2, k3⟩ := h
    obtain ⟨dx, ho⟩ := hE.o
    obtain ⟨xs, hrl, hR⟩ := hE.r
    have hd := hE.d
    have hu := hu_of hr
    refine ⟨_, (pss_cons (ps_if (pt_not (pt_chain op_le op_lt pe_int (pv 1) (pe_callB cq_len (by rfl) T.z_len boot_len (pa_cons (pe_fld (pv 0) rfl) pa_nil)))) (pss_one (ps_raise rfl (takes_of rfl rfl rfl rfl) (pmk_own PySem.F.excBase_ValueError T.xe_UnknownTransfer T.g_UnknownTransfer T.ke_UnknownTransfer (raises_own T.be_UnknownTransfer T.te_UnknownTransfer) (by exact rfl)))) pss_nil)
      (pss_cons (ps_if (pt_cmp (pc_dnotin hu (pv 1) (pe_fld (pv 0) rfl))) (pss_one (ps_raise rfl (takes_of rfl rfl rfl rfl) (pmk_own PySem.F.excBase_ValueError T.xe_AlreadyTaken T.g_AlreadyTaken T.ke_AlreadyTaken (raises_own T.be_AlreadyTaken T.te_AlreadyTaken) (by exact rfl)))) pss_nil)
      (pss_one (ps_ret (pe_ix ix_list (pe_fld (pv 0) rfl) (pv 1) (fun _ _ => rfl)))))), ?_⟩
    (dsimp only [cxOf, Cx.nox, Cx.wish, L2.start, List.map, List.length, List.replicate, List.cons_append, List.nil_append, List.append_eq, Nat.reduceSub, Nat.reduceAdd])
    walk_at "my_rd"
    refine q_ch2 (fun h1 => ?_) (fun h1 => ?_)
    · have h1 := dec_t h1
      walk_at "my_rd"
      refine q_fldK ho T.cl_Escrow T.n_Escrow_rows rfl ?_
      walk_at "my_rd"
      rw [hR.len]
      by_cases h2 : n < (R.length : Int)
      · rw [decide_eq_true h2]
        obtain ⟨m, rfl⟩ := Int.eq_ofNat_of_zero_le h1
        have hm : m < R.length := by omega
        have hno : ¬ ((m : Int) < 0 ∨ (R.length : Int) ≤ m) := by omega
        walk_at "my_rd"
        refine q_fldK ho T.cl_Escrow T.n_Escrow_left rfl ?_
        refine q_dNInI hd ?_
        rw [leftK_val]
        by_cases h3 : (m : Int) ∈ gone
        · rw [if_neg (fun z => (alive_mem.mp z).2 h3)]
          walk_at "my_rd"
          exact k2 hno h3
        · rw [if_pos (alive_mem.mpr ⟨hm, h3⟩), show (some (V.int (amtAt R m))).isSome = true from rfl]
          walk_at "my_rd"
          have hr0 : R[m]? = some R[m] := List.getElem?_eq_getElem hm
          obtain ⟨c, hc1, hc2⟩ := hR.at_ m _ hr0
          refine q_fldK ho T.cl_Escrow T.n_Escrow_rows rfl ?_
          walk_at "my_rd"
          refine q_ixLt hrl (at_int rfl hc1) ?_
          walk_at "my_rd"
          exact k3 m c _ rfl hm h3 hr0 hc2
      · rw [decide_eq_false h2]
        walk_at "my_rd"
        exact k1 (.inr (by omega))
    · have h1 := dec_f h1
      walk_at "my_rd"
      exact k1 (.inl (by omega))
theorem ok_Escrow_show (T : Txt K mg) : FnOk P w K mg base (L2.CX P w) 2 T.f_Escrow_show T.d_Escrow_show ["self", "number", "secret", "height"] (sp_esS T.C_Escrow T.C_Locks T.C_UnknownTransfer T.C_AlreadyTaken T.C_TooEarly T.C_NotEnoughWeight) := by
  refine T.F_Escrow_show.okX sc_Escrow_show (fun vs H Q E h => ?_) (fun cdv A outer s H vs Q E hr h => ?_)
  · obtain ⟨b, k, nd, rl, ld, R, gone, S, n, h, sec, rfl, _⟩ := h; rfl
  · obtain ⟨b, kk, nd, rl, ld, R, gone, S, n, h, sec, rfl, hE, hL, k1, k2, k3, k4, k5⟩ := h
    obtain ⟨dx, ho⟩ := hE.o
    obtain ⟨xs, hrl, hR⟩ := hE.r
    obtain ⟨dy, hlo⟩ := hL.o
    have hd := hE.d
    have hu := hu_of hr
    refine ⟨_, (pss_cons (ps_asg (pe_meth (pv 0) T.cl_Escrow T.m_Escrow_find (ok_Escrow_find T) (hr.mono (by decide)) T.b_Escrow_find .nil (passes_call (takes_of rfl rfl rfl rfl) fun _ _ _ _ h => h) (pa_cons (pv 1) pa_nil)) (pg_tup rfl (pgs_cons (pg_name (i := 4) sc_Escrow_show.nd rfl (Or.inl rfl)) (pgs_cons (pg_name (i := 5) sc_Escrow_show.nd rfl (Or.inl rfl)) (pgs_cons (pg_name (i := 6) sc_Escrow_show.nd rfl (Or.inl rfl)) (pgs_cons (pg_name (i := 7) sc_Escrow_show.nd rfl (Or.inl rfl)) (pgs_cons (pg_name (i := 8) sc_Escrow_show.nd rfl (Or.inl rfl)) pgs_nil)))))))
      (pss_cons (ps_if (pt_cmpR op_gt (pv 3) (pv 8) (nomark _)) (pss_one (ps_raise rfl (takes_of rfl rfl rfl rfl) (pmk_own PySem.F.excBase_ValueError T.xe_TooEarly T.g_TooEarly T.ke_TooEarly (raises_own T.be_TooEarly T.te_TooEarly) (by exact rfl)))) pss_nil)
      (pss_cons (ps_if (pt_not (pt_val (pe_meth (pe_fld (pv 0) rfl) T.cl_Locks T.m_Locks_opens (ok_Locks_opens T) (hr.mono (by decide)) T.b_Locks_opens .nil pass0 (pa_cons (pv 7) (pa_cons (pv 2) pa_nil))))) (pss_one (ps_raise rfl (takes_of rfl rfl rfl rfl) (pmk_own PySem.F.excBase_ValueError T.xe_NotEnoughWeight T.g_NotEnoughWeight T.ke_NotEnoughWeight (raises_own T.be_NotEnoughWeight T.te_NotEnoughWeight) (by exact rfl)))) pss_nil)
      (pss_cons (ps_ddel (pe_fld (pv 0) rfl) (pv 1))
      (pss_one (ps_ret (pe_tup (pa_cons (pv 5) (pa_cons (pv 6) pa_nil))))))))), ?_⟩
    (dsimp only [cxOf, Cx.nox, Cx.wish, L2.start, List.map, List.length, List.replicate, List.cons_append, List.nil_append, List.append_eq, Nat.reduceSub, Nat.reduceAdd])
    walk_at "my_rd"
    refine q_methK ho (lk3 (by decide +kernel) (by decide +kernel) (by decide +kernel)) fun R2 hR2 => ?_
    walk_at "my_rd"
    refine hR2 _ _ ⟨b, kk, rl, ld, R, gone, n, rfl, hE, k1, k2, fun m c r hnm hm hg hr0 hc => ?_⟩
    subst hnm
    unfold ERow.v at hc
    refine q_gTup (sqT hc) rfl ?_
    walk_at "my_rd"
    refine q_if2 (fun h1 => ?_) (fun h1 => ?_)
    · have h1 := dec_t h1
      walk_at "my_rd"
      exact k3 m r rfl hm hg hr0 h1
    · have h1 := dec_f h1
      walk_at "my_rd"
      refine q_fldK ho T.cl_Escrow T.n_Escrow_locks rfl ?_
      refine q_methK hlo (lk1 (by decide +kernel)) fun R3 hR3 => ?_
      walk_at "my_rd"
      refine hR3 _ _ ⟨kk, nd, S, r.lock, sec, rfl, hL, ?_⟩
      walk_at "my_rd"
      by_cases h2 : (posOf S sec).map Int.ofNat = some r.lock
      · rw [decide_eq_true h2]
        walk_at "my_rd"
        refine q_fldK ho T.cl_Escrow T.n_Escrow_left rfl ?_
        walk_at "my_rd"
        refine q_ddelI hd (by rw [leftK_val, if_pos (alive_mem.mpr ⟨hm, hg⟩)]; rfl) ?_
        rw [leftK_drop (g2 := gone ++ [(m : Int)]), alive_gone]
        have nld : b ≠ ld := ne_of ho hd (by intro z; cases z)
        walk_at "my_rd"
        refine q_tupK (Nat.le_of_ble_eq_true rfl) fun t nt => ?_
        walk_at "my_rd"
        refine k5 m r rfl hm hg hr0 h1 h2 t _ upd_same ⟨⟨dx, upd_new nt (upd_other nld ho)⟩, ⟨xs, upd_new nt (upd_other (ne_of hrl hd (by intro z; cases z)) hrl), hR.mono fun c ys q => upd_new nt (upd_other (ne_of q hd (by intro z; cases z)) q)⟩, upd_new nt upd_same⟩ (Kq.new (Kq.up2 Kq.refl) (upd_none_back nt))
      · rw [decide_eq_false h2]
        walk_at "my_rd"
        exact k4 m r rfl hm hg hr0 h1 h2
theorem ok_Escrow_give_back (T : Txt K mg) : FnOk P w K mg base (L2.CX P w) 2 T.f_Escrow_give_back T.d_Escrow_give_back ["self", "number", "height"] (sp_esG T.C_Escrow T.C_UnknownTransfer T.C_AlreadyTaken T.C_TooEarly) := by
  refine T.F_Escrow_give_back.okX sc_Escrow_give_back (fun vs H Q E h => ?_) (fun cdv A outer s H vs Q E hr h => ?_)
  · obtain ⟨b, k, rl, ld, R, gone, n, h, rfl, _⟩ := h; rfl
  · obtain ⟨b, kk, rl, ld, R, gone, n, h, rfl, hE, k1, k2, k3, k4⟩ := h
    obtain ⟨dx, ho⟩ := hE.o
    obtain ⟨xs, hrl, hR⟩ := hE.r
    have hd := hE.d
    have hu := hu_of hr
    refine ⟨_, (pss_cons (ps_asg (pe_meth (pv 0) T.cl_Escrow T.m_Escrow_find (ok_Escrow_find T) (hr.mono (by decide)) T.b_Escrow_find .nil (passes_call (takes_of rfl rfl rfl rfl) fun _ _ _ _ h => h) (pa_cons (pv 1) pa_nil)) (pg_tup rfl (pgs_cons (pg_name (i := 3) sc_Escrow_give_back.nd rfl (Or.inl rfl)) (pgs_cons (pg_name (i := 4) sc_Escrow_give_back.nd rfl (Or.inl rfl)) (pgs_cons (pg_name (i := 5) sc_Escrow_give_back.nd rfl (Or.inl rfl)) (pgs_cons (pg_name (i := 4) sc_Escrow_give_back.nd rfl (Or.inl rfl)) (pgs_cons (pg_name (i := 6) sc_Escrow_give_back.nd rfl (Or.inl rfl)) pgs_nil)))))))
      (pss_cons (ps_if (pt_cmpR op_le (pv 2) (pv 6) (nomark _)) (pss_one (ps_raise rfl (takes_of rfl rfl rfl rfl) (pmk_own PySem.F.excBase_ValueError T.xe_TooEarly T.g_TooEarly T.ke_TooEarly (raises_own T.be_TooEarly T.te_TooEarly) (by exact rfl)))) pss_nil)
      (pss_cons (ps_ddel (pe_fld (pv 0) rfl) (pv 1))
      (pss_one (ps_ret (pe_tup (pa_cons (pv 3) (pa_cons (pv 5) pa_nil)))))))), ?_⟩
    (dsimp only [cxOf, Cx.nox, Cx.wish, L2.start, List.map, List.length, List.replicate, List.cons_append, List.nil_append, List.append_eq, Nat.reduceSub, Nat.reduceAdd])
    walk_at "my_rd"
    refine q_methK ho (lk3 (by decide +kernel) (by decide +kernel) (by decide +kernel)) fun R2 hR2 => ?_
    walk_at "my_rd"
    refine hR2 _ _ ⟨b, kk, rl, ld, R, gone, n, rfl, hE, k1, k2, fun m c r hnm hm hg hr0 hc => ?_⟩
    subst hnm
    unfold ERow.v at hc
    refine q_gTup (sqT hc) rfl ?_
    walk_at "my_rd"
    refine q_if2 (fun h1 => ?_) (fun h1 => ?_)
    · have h1 := dec_t h1
      walk_at "my_rd"
      exact k3 m r rfl hm hg hr0 h1
    · have h1 := dec_f h1
      walk_at "my_rd"
      refine q_fldK ho T.cl_Escrow T.n_Escrow_left rfl ?_
      walk_at "my_rd"
      refine q_ddelI hd (by rw [leftK_val, if_pos (alive_mem.mpr ⟨hm, hg⟩)]; rfl) ?_
      rw [leftK_drop (g2 := gone ++ [(m : Int)]), alive_gone]
      have nld : b ≠ ld := ne_of ho hd (by intro z; cases z)
      walk_at "my_rd"
      refine q_tupK (Nat.le_of_ble_eq_true rfl) fun t nt => ?_
      walk_at "my_rd"
      refine k4 m r rfl hm hg hr0 h1 t _ upd_same ⟨⟨dx, upd_new nt (upd_other nld ho)⟩, ⟨xs, upd_new nt (upd_other (ne_of hrl hd (by intro z; cases z)) hrl), hR.mono fun c ys q => upd_new nt (upd_other (ne_of q hd (by intro z; cases z)) q)⟩, upd_new nt upd_same⟩ (Kq.new (Kq.up2 Kq.refl) (upd_none_back nt))
end

local macro_rules | `(tactic| walk_at "my_rd") => `(tactic| (repeat first
  | with_reducible refine q_tCons ?_
  | ((with_reducible apply q_var); (focus (exact rfl)))
  | with_reducible refine q_c ?_
  | with_reducible refine q_nx ?_
  | with_reducible refine q_bK ?_
  | with_reducible refine q_call ?_
  | with_reducible refine q_callK ?_
  | with_reducible refine q_tNil ?_
  | with_reducible refine q_cb ?_
  | with_reducible refine q_seq ?_
  | with_reducible refine q_asg ?_
  | with_reducible refine q_gName ?_
  | with_reducible refine q_op ?_
  | with_reducible refine q_test ?_
  | with_reducible refine q_tB ?_
  | with_reducible refine q_ifS ?_
  | with_reducible refine q_ret ?_
  | with_reducible refine q_rt ?_
  | with_reducible refine q_next ?_
  | with_reducible refine q_ifF ?_
  | with_reducible refine q_ifT ?_
  | with_reducible refine q_drop ?_
  | with_reducible refine q_and ?_
  | with_reducible refine q_or ?_
  | with_reducible refine q_andT ?_
  | with_reducible refine q_andF ?_
  | with_reducible refine q_orF ?_
  | with_reducible refine q_orT ?_
  | with_reducible refine q_andV ?_
  | with_reducible refine q_andVT ?_
  | with_reducible refine q_andVF ?_
  | with_reducible refine q_orV ?_
  | with_reducible refine q_gCons ?_
  | with_reducible refine q_gNil ?_
  | with_reducible refine q_tup ?_
  | with_reducible refine q_lst ?_
  | with_reducible refine q_not ?_
  | with_reducible refine q_notKT ?_
  | with_reducible refine q_notKF ?_
  | with_reducible refine q_I0 ?_
  | with_reducible refine q_eqI ?_
  | with_reducible refine q_neI ?_
  | ((with_reducible refine q_I ?_ ?_); first | decide | omega | exact ⟨by omega, by omega⟩ | exact ⟨by decide, by decide⟩ | exact .inl ⟨by omega, by omega⟩ | exact .inr ⟨by omega, by omega⟩ | exact .inr ⟨by decide, by decide⟩)
  | with_reducible refine q_eqS ?_
  | with_reducible refine q_neS ?_
  | with_reducible refine q_brk ?_
  | with_reducible refine q_ct ?_
  | with_reducible refine q_bk ?_
  | with_reducible refine q_cn ?_
  | with_reducible refine q_retN ?_
  | with_reducible refine q_gSub ?_
  | with_reducible refine q_for ?_
  | with_reducible refine q_iList ?_
  | with_reducible refine q_iTup ?_
  | with_reducible refine q_iRng1 ?_
  | with_reducible refine q_notK ?_
  | with_reducible refine q_orVT ?_
  | with_reducible refine q_orVF ?_
  | with_reducible refine q_notV ?_
  | with_reducible refine q_notVK ?_
  | with_reducible refine q_ifE ?_
  | with_reducible refine q_ifET ?_
  | with_reducible refine q_ifEF ?_
  | with_reducible refine q_yes ?_
  | with_reducible refine q_un ?_
  | with_reducible refine q_rU ?_
  | with_reducible refine q_abs ?_
  | with_reducible refine q_int1 ?_
  | with_reducible refine q_bm ?_
  | with_reducible refine q_bm0 ?_
  | with_reducible refine q_lc ?_
  | with_reducible refine q_keepT ?_
  | with_reducible refine q_keepF ?_
  | ((with_reducible apply q_aug); (focus (exact rfl)))
  | with_reducible refine q_ipI ?_
  | with_reducible refine q_chain ?_
  | with_reducible refine q_pairC ?_
  | with_reducible refine q_pairsK ?_
  | with_reducible refine q_pairN ?_
  | with_reducible refine q_fld ?_
  | with_reducible refine q_sFld ?_
  | with_reducible refine q_meth ?_
  | with_reducible refine q_makeK ?_
  | with_reducible refine q_isBl ?_
  | with_reducible refine q_notBl ?_
  | with_reducible refine q_sl ?_
  | with_reducible refine q_noPart ?_
  | with_reducible refine q_part ?_
  | with_reducible refine q_partK ?_
  | ((with_reducible apply q_mulStr); (focus (decide +kernel)))
  | with_reducible refine q_chT ?_
  | with_reducible refine q_chF ?_
  | with_reducible refine q_ord ?_
  | with_reducible refine q_iStr0 ?_
  | with_reducible refine q_iStr ?_
  | with_reducible refine q_tDIn ?_
  | with_reducible refine q_tDNotIn ?_
  | with_reducible refine q_tDGet ?_
  | with_reducible refine q_tDGet2 ?_
  | with_reducible refine q_tDGet1 ?_
  | with_reducible refine q_tDSetd ?_
  | ((with_reducible apply q_dG2a); (focus ((repeat first | (with_reducible exact upd_same) | (with_reducible assumption) | (with_reducible apply upd_new (by assumption)) | (with_reducible apply upd_other (by first | assumption | exact Ne.symm (by assumption))) | (with_reducible refine' Kp.get (by assumption) ?_ (by first | assumption | exact Ne.symm (by assumption))) | (with_reducible apply Same.get (by assumption))); done)))
  | ((with_reducible apply q_dSda); (focus ((repeat first | (with_reducible exact upd_same) | (with_reducible assumption) | (with_reducible apply upd_new (by assumption)) | (with_reducible apply upd_other (by first | assumption | exact Ne.symm (by assumption))) | (with_reducible refine' Kp.get (by assumption) ?_ (by first | assumption | exact Ne.symm (by assumption))) | (with_reducible apply Same.get (by assumption))); done)))
  | with_reducible refine q_sDPut ?_
  | ((with_reducible apply q_dInS); (focus ((repeat first | (with_reducible exact upd_same) | (with_reducible assumption) | (with_reducible apply upd_new (by assumption)) | (with_reducible apply upd_other (by first | assumption | exact Ne.symm (by assumption))) | (with_reducible refine' Kp.get (by assumption) ?_ (by first | assumption | exact Ne.symm (by assumption))) | (with_reducible apply Same.get (by assumption))); done)))
  | ((with_reducible apply q_dNInS); (focus ((repeat first | (with_reducible exact upd_same) | (with_reducible assumption) | (with_reducible apply upd_new (by assumption)) | (with_reducible apply upd_other (by first | assumption | exact Ne.symm (by assumption))) | (with_reducible refine' Kp.get (by assumption) ?_ (by first | assumption | exact Ne.symm (by assumption))) | (with_reducible apply Same.get (by assumption))); done)))
  | ((with_reducible apply q_dInI); (focus ((repeat first | (with_reducible exact upd_same) | (with_reducible assumption) | (with_reducible apply upd_new (by assumption)) | (with_reducible apply upd_other (by first | assumption | exact Ne.symm (by assumption))) | (with_reducible refine' Kp.get (by assumption) ?_ (by first | assumption | exact Ne.symm (by assumption))) | (with_reducible apply Same.get (by assumption))); done)))
  | ((with_reducible apply q_dNInI); (focus ((repeat first | (with_reducible exact upd_same) | (with_reducible assumption) | (with_reducible apply upd_new (by assumption)) | (with_reducible apply upd_other (by first | assumption | exact Ne.symm (by assumption))) | (with_reducible refine' Kp.get (by assumption) ?_ (by first | assumption | exact Ne.symm (by assumption))) | (with_reducible apply Same.get (by assumption))); done)))
  | ((with_reducible apply q_bmL); (focus ((repeat first | (with_reducible exact upd_same) | (with_reducible assumption) | (with_reducible apply upd_new (by assumption)) | (with_reducible apply upd_other (by first | assumption | exact Ne.symm (by assumption))) | (with_reducible refine' Kp.get (by assumption) ?_ (by first | assumption | exact Ne.symm (by assumption))) | (with_reducible apply Same.get (by assumption))); done)))
  | ((with_reducible apply q_bmL0); (focus ((repeat first | (with_reducible exact upd_same) | (with_reducible assumption) | (with_reducible apply upd_new (by assumption)) | (with_reducible apply upd_other (by first | assumption | exact Ne.symm (by assumption))) | (with_reducible refine' Kp.get (by assumption) ?_ (by first | assumption | exact Ne.symm (by assumption))) | (with_reducible apply Same.get (by assumption))); done)))
  | ((with_reducible apply q_ixLt); (focus ((repeat first | (with_reducible exact upd_same) | (with_reducible assumption) | (with_reducible apply upd_new (by assumption)) | (with_reducible apply upd_other (by first | assumption | exact Ne.symm (by assumption))) | (with_reducible refine' Kp.get (by assumption) ?_ (by first | assumption | exact Ne.symm (by assumption))) | (with_reducible apply Same.get (by assumption))); done)); (focus (exact rfl)))
  | ((with_reducible apply q_ixTt); (focus ((repeat first | (with_reducible exact upd_same) | (with_reducible assumption) | (with_reducible apply upd_new (by assumption)) | (with_reducible apply upd_other (by first | assumption | exact Ne.symm (by assumption))) | (with_reducible refine' Kp.get (by assumption) ?_ (by first | assumption | exact Ne.symm (by assumption))) | (with_reducible apply Same.get (by assumption))); done)); (focus (exact rfl)))
  | ((with_reducible apply q_lenLt); (focus ((repeat first | (with_reducible exact upd_same) | (with_reducible assumption) | (with_reducible apply upd_new (by assumption)) | (with_reducible apply upd_other (by first | assumption | exact Ne.symm (by assumption))) | (with_reducible refine' Kp.get (by assumption) ?_ (by first | assumption | exact Ne.symm (by assumption))) | (with_reducible apply Same.get (by assumption))); done)))
  | ((with_reducible apply q_lenTt); (focus ((repeat first | (with_reducible exact upd_same) | (with_reducible assumption) | (with_reducible apply upd_new (by assumption)) | (with_reducible apply upd_other (by first | assumption | exact Ne.symm (by assumption))) | (with_reducible refine' Kp.get (by assumption) ?_ (by first | assumption | exact Ne.symm (by assumption))) | (with_reducible apply Same.get (by assumption))); done)))
  | ((with_reducible apply q_append); (focus ((repeat first | (with_reducible exact upd_same) | (with_reducible assumption) | (with_reducible apply upd_new (by assumption)) | (with_reducible apply upd_other (by first | assumption | exact Ne.symm (by assumption))) | (with_reducible refine' Kp.get (by assumption) ?_ (by first | assumption | exact Ne.symm (by assumption))) | (with_reducible apply Same.get (by assumption))); done)); (focus ((first | (exact Nat.lt_of_ble_eq_true rfl) | (simp only [List.length_append, List.length_cons, List.length_nil, List.length_map]; exact small1000 (by omega))))))
  | ((with_reducible apply q_setL); (focus ((repeat first | (with_reducible exact upd_same) | (with_reducible assumption) | (with_reducible apply upd_new (by assumption)) | (with_reducible apply upd_other (by first | assumption | exact Ne.symm (by assumption))) | (with_reducible refine' Kp.get (by assumption) ?_ (by first | assumption | exact Ne.symm (by assumption))) | (with_reducible apply Same.get (by assumption))); done)); (focus (exact rfl)))
  | with_reducible refine q_ifNT ?_
  | with_reducible refine q_ifNF ?_
  | with_reducible refine q_andNT ?_
  | with_reducible refine q_andNF ?_
  | with_reducible refine q_orNT ?_
  | with_reducible refine q_orNF ?_
  | with_reducible refine q_bKNT ?_
  | with_reducible refine q_bKNF ?_
  | with_reducible refine q_tNGet ?_
  | with_reducible refine q_tNIn ?_
  | with_reducible refine q_sNPut ?_
  | with_reducible refine q_sFldAug ?_
  | with_reducible refine q_sDAug ?_
  | with_reducible refine q_sDDel ?_
  | with_reducible refine q_forX ?_
  | with_reducible refine q_tMake ?_
  | ((with_reducible apply q_dG1a); (focus ((repeat first | (with_reducible exact upd_same) | (with_reducible assumption) | (with_reducible apply upd_new (by assumption)) | (with_reducible apply upd_other (by first | assumption | exact Ne.symm (by assumption))) | (with_reducible refine' Kp.get (by assumption) ?_ (by first | assumption | exact Ne.symm (by assumption))) | (with_reducible apply Same.get (by assumption))); done)))))
/-! the law's own comparison: plain values, and lists of them -/
def scV : V → Bool
  | .non => true
  | .bl _ => true
  | .int _ => true
  | .str _ => true
  | _ => false
theorem scV_ty {K : PySem.W.Frag} {H : Hp} {x : V} (h : scV x = true) : (x = .non ∧ TyX K H x (.type "NoneType")) ∨ (∃ b, x = .bl b ∧ TyX K H x (.type "bool")) ∨ (∃ i, x = .int i ∧ TyX K H x (.type "int")) ∨ (∃ s, x = .str s ∧ TyX K H x (.type "str")) := by
  cases x with
  | non => exact .inl ⟨rfl, .base .non⟩
  | bl b => exact .inr (.inl ⟨b, rfl, .base (.bl b)⟩)
  | int i => exact .inr (.inr (.inl ⟨i, rfl, .base (.int i)⟩))
  | str s => exact .inr (.inr (.inr ⟨s, rfl, .base (.str s)⟩))
  | byt => cases h
  | flt => cases h
  | ref => cases h
  | ty => cases h
theorem q_is {K : PySem.W.Frag} {H : Hp} {Q : VK} {x : V} {t : String} {n : String} {b : Bool} (ht : TyX K H x (.type t)) (hk : kitB t n = some b) (k : Q (.bl b) H) : rIsi K [x, .ty n] H Q := q_isi ht (kit_ty hk) k
def sp_isint (K : PySem.W.Frag) : Sp := fun vs H Q _ => ∃ x : V, vs = [x] ∧ scV x = true ∧ Q (.bl (match x with | .int _ => true | _ => false)) H
def sp_same1 (K : PySem.W.Frag) : Sp := fun vs H Q _ => ∃ x : V, vs = [x, x] ∧ scV x = true ∧ Q (.bl true) H
def sp_same (K : PySem.W.Frag) : Sp := fun vs H Q _ => (∃ x : V, vs = [x, x] ∧ scV x = true ∧ Q (.bl true) H) ∨
  ∃ (a b : Addr) (xs : List V), vs = [.ref a, .ref b] ∧ H a = some (.tup xs) ∧ H b = some (.tup xs) ∧ xs.all scV = true ∧ xs.length ≤ 1000 ∧ ∀ H', Same H H' → Q (.bl true) H'
theorem dec_ref {b : Addr} : decide (V.ref b = V.non) = false := decide_eq_false (by intro z; cases z)
theorem all_true (n : Nat) : (List.replicate n true).all id = true := by
  induction n with
  | zero => rfl
  | succ n ih => rw [List.replicate_succ, List.all_cons, ih]; rfl
section
variable {P : Program} {w : World} {K : PySem.W.Frag} {mg : Str → Option Value} {base : Heap}
theorem ok_L_is_int (T : Txt K mg) : FnOk P w K mg base CX0 1 T.f_L_is_int T.d_L_is_int ["value"] (sp_isint K) := by
  refine T.F_L_is_int.ok sc_L_is_int (fun vs H Q E h => ?_) (fun cdv A outer s H vs Q E hr h => ?_)
  · obtain ⟨x, rfl, _⟩ := h; rfl
  · obtain ⟨x, rfl, hx, k⟩ := h
    refine ⟨_, (pss_one (ps_ret (pe_and (pe_callB call_isi (by rfl) T.z_isinstance boot_isinstance (pa_cons (pv 0) (pa_cons (pe_bltn (v := .ty "int") (by rfl) T.z_int boot_int rfl) pa_nil))) (pe_one (pe_not (pe_callB call_isi (by rfl) T.z_isinstance boot_isinstance (pa_cons (pv 0) (pa_cons (pe_bltn (v := .ty "bool") (by rfl) T.z_bool boot_bool rfl) pa_nil)))))))), ?_⟩
    (dsimp only [cxOf, Cx.nox, Cx.wish, L2.start, List.map, List.length, List.replicate, List.cons_append, List.nil_append, List.append_eq, Nat.reduceSub, Nat.reduceAdd])
    walk_at "my_rd"
    rcases scV_ty (K := K) (H := H) hx with ⟨rfl, ht⟩ | ⟨b, rfl, ht⟩ | ⟨i, rfl, ht⟩ | ⟨z, rfl, ht⟩
    · refine q_is ht (b := false) (by decide +kernel) ?_
      walk_at "my_rd"
      exact k
    · refine q_is ht (b := true) (by decide +kernel) ?_
      walk_at "my_rd"
      refine q_is ht (b := true) (by decide +kernel) ?_
      walk_at "my_rd"
      exact k
    · refine q_is ht (b := true) (by decide +kernel) ?_
      walk_at "my_rd"
      refine q_is ht (b := false) (by decide +kernel) ?_
      walk_at "my_rd"
      exact k
    · refine q_is ht (b := false) (by decide +kernel) ?_
      walk_at "my_rd"
      exact k
theorem ok_L_same1 (T : Txt K mg) : FnOk P w K mg base CX0 2 T.f_L_same T.d_L_same ["found", "value"] (sp_same1 K) := by
  refine T.F_L_same.ok sc_L_same (fun vs H Q E h => ?_) (fun cdv A outer s H vs Q E hr h => ?_)
  · obtain ⟨x, rfl, _⟩ := h; rfl
  · obtain ⟨x, rfl, hx, k⟩ := h
    refine ⟨_, (pss_cons (ps_if (pt_cmpR op_isN (pv 1) pe_non (nomark _)) (pss_one (ps_ret (pe_cmpR op_isN (pv 0) pe_non (nomark _)))) pss_nil)
      (pss_cons (ps_if (pt_val (pe_callB call_isi (by rfl) T.z_isinstance boot_isinstance (pa_cons (pv 1) (pa_cons (pe_bltn (v := .ty "bool") (by rfl) T.z_bool boot_bool rfl) pa_nil)))) (pss_one (ps_ret (pe_and (pe_callB call_isi (by rfl) T.z_isinstance boot_isinstance (pa_cons (pv 0) (pa_cons (pe_bltn (v := .ty "bool") (by rfl) T.z_bool boot_bool rfl) pa_nil))) (pe_one (pe_cmpR op_eq (pv 0) (pv 1) (nomark _)))))) pss_nil)
      (pss_cons (ps_if (pt_val (pe_callB call_isi (by rfl) T.z_isinstance boot_isinstance (pa_cons (pv 1) (pa_cons (pe_bltn (v := .ty "int") (by rfl) T.z_int boot_int rfl) pa_nil)))) (pss_one (ps_ret (pe_and (pe_call (ok_L_is_int T) (hr.mono (by decide)) (by rfl) T.g_L_is_int T.F_L_is_int.kp T.b_L_is_int .nil pass0 (pa_cons (pv 0) pa_nil)) (pe_one (pe_cmpR op_eq (pv 0) (pv 1) (nomark _)))))) pss_nil)
      (pss_cons (ps_if (pt_val (pe_callB call_isi (by rfl) T.z_isinstance boot_isinstance (pa_cons (pv 1) (pa_cons (pe_bltn (v := .ty "str") (by rfl) T.z_str boot_str rfl) pa_nil)))) (pss_one (ps_ret (pe_and (pe_callB call_isi (by rfl) T.z_isinstance boot_isinstance (pa_cons (pv 0) (pa_cons (pe_bltn (v := .ty "str") (by rfl) T.z_str boot_str rfl) pa_nil))) (pe_one (pe_cmpR op_eq (pv 0) (pv 1) (nomark _)))))) pss_nil)
      (pss_cons ps_never
      (pss_one ps_never)))))), ?_⟩
    (dsimp only [cxOf, Cx.nox, Cx.wish, L2.start, List.map, List.length, List.replicate, List.cons_append, List.nil_append, List.append_eq, Nat.reduceSub, Nat.reduceAdd])
    walk_at "my_rd"
    rcases scV_ty (K := K) (H := H) hx with ⟨rfl, ht⟩ | ⟨b, rfl, ht⟩ | ⟨i, rfl, ht⟩ | ⟨z, rfl, ht⟩
    · refine q_isN' ?_
      rw [decide_eq_true rfl]
      walk_at "my_rd"
      refine q_isN' ?_
      rw [decide_eq_true rfl]
      walk_at "my_rd"
      exact k
    · refine q_isN' ?_
      rw [decide_eq_false (show ¬ V.bl b = V.non by intro z; cases z)]
      walk_at "my_rd"
      refine q_is ht (b := true) (by decide +kernel) ?_
      walk_at "my_rd"
      refine q_is ht (b := true) (by decide +kernel) ?_
      walk_at "my_rd"
      refine q_eq rfl ?_
      rw [decide_eq_true rfl]
      walk_at "my_rd"
      exact k
    · refine q_isN' ?_
      rw [decide_eq_false (show ¬ V.int i = V.non by intro z; cases z)]
      walk_at "my_rd"
      refine q_is ht (b := false) (by decide +kernel) ?_
      walk_at "my_rd"
      refine q_is ht (b := true) (by decide +kernel) ?_
      walk_at "my_rd"
      refine ⟨.int i, rfl, rfl, ?_⟩
      walk_at "my_rd"
      rw [decide_eq_true rfl]
      walk_at "my_rd"
      exact k
    · refine q_isN' ?_
      rw [decide_eq_false (show ¬ V.str z = V.non by intro z; cases z)]
      walk_at "my_rd"
      refine q_is ht (b := false) (by decide +kernel) ?_
      walk_at "my_rd"
      refine q_is ht (b := false) (by decide +kernel) ?_
      walk_at "my_rd"
      refine q_is ht (b := true) (by decide +kernel) ?_
      walk_at "my_rd"
      refine q_is ht (b := true) (by decide +kernel) ?_
      walk_at "my_rd"
      rw [decide_eq_true rfl]
      walk_at "my_rd"
      exact k
theorem ok_L_same (T : Txt K mg) : FnOk P w K mg base CX0 3 T.f_L_same T.d_L_same ["found", "value"] (sp_same K) := by
  refine T.F_L_same.ok sc_L_same (fun vs H Q E h => ?_) (fun cdv A outer s H vs Q E hr h => ?_)
  · rcases h with ⟨x, rfl, _⟩ | ⟨a, b, xs, rfl, _⟩ <;> rfl
  · rcases h with ⟨x, rfl, hx, k⟩ | ⟨a, b, xs, rfl, ha, hb, hxs, hl, k⟩
    · refine ⟨_, (pss_cons (ps_if (pt_cmpR op_isN (pv 1) pe_non (nomark _)) (pss_one (ps_ret (pe_cmpR op_isN (pv 0) pe_non (nomark _)))) pss_nil)
      (pss_cons (ps_if (pt_val (pe_callB call_isi (by rfl) T.z_isinstance boot_isinstance (pa_cons (pv 1) (pa_cons (pe_bltn (v := .ty "bool") (by rfl) T.z_bool boot_bool rfl) pa_nil)))) (pss_one (ps_ret (pe_and (pe_callB call_isi (by rfl) T.z_isinstance boot_isinstance (pa_cons (pv 0) (pa_cons (pe_bltn (v := .ty "bool") (by rfl) T.z_bool boot_bool rfl) pa_nil))) (pe_one (pe_cmpR op_eq (pv 0) (pv 1) (nomark _)))))) pss_nil)
      (pss_cons (ps_if (pt_val (pe_callB call_isi (by rfl) T.z_isinstance boot_isinstance (pa_cons (pv 1) (pa_cons (pe_bltn (v := .ty "int") (by rfl) T.z_int boot_int rfl) pa_nil)))) (pss_one (ps_ret (pe_and (pe_call (ok_L_is_int T) (hr.mono (by decide)) (by rfl) T.g_L_is_int T.F_L_is_int.kp T.b_L_is_int .nil pass0 (pa_cons (pv 0) pa_nil)) (pe_one (pe_cmpR op_eq (pv 0) (pv 1) (nomark _)))))) pss_nil)
      (pss_cons (ps_if (pt_val (pe_callB call_isi (by rfl) T.z_isinstance boot_isinstance (pa_cons (pv 1) (pa_cons (pe_bltn (v := .ty "str") (by rfl) T.z_str boot_str rfl) pa_nil)))) (pss_one (ps_ret (pe_and (pe_callB call_isi (by rfl) T.z_isinstance boot_isinstance (pa_cons (pv 0) (pa_cons (pe_bltn (v := .ty "str") (by rfl) T.z_str boot_str rfl) pa_nil))) (pe_one (pe_cmpR op_eq (pv 0) (pv 1) (nomark _)))))) pss_nil)
      (pss_cons ps_never
      (pss_one ps_never)))))), ?_⟩
      (dsimp only [cxOf, Cx.nox, Cx.wish, L2.start, List.map, List.length, List.replicate, List.cons_append, List.nil_append, List.append_eq, Nat.reduceSub, Nat.reduceAdd])
      walk_at "my_rd"
      rcases scV_ty (K := K) (H := H) hx with ⟨rfl, ht⟩ | ⟨b, rfl, ht⟩ | ⟨i, rfl, ht⟩ | ⟨z, rfl, ht⟩
      · refine q_isN' ?_
        rw [decide_eq_true rfl]
        walk_at "my_rd"
        refine q_isN' ?_
        rw [decide_eq_true rfl]
        walk_at "my_rd"
        exact k
      · refine q_isN' ?_
        rw [decide_eq_false (show ¬ V.bl b = V.non by intro z; cases z)]
        walk_at "my_rd"
        refine q_is ht (b := true) (by decide +kernel) ?_
        walk_at "my_rd"
        refine q_is ht (b := true) (by decide +kernel) ?_
        walk_at "my_rd"
        refine q_eq rfl ?_
        rw [decide_eq_true rfl]
        walk_at "my_rd"
        exact k
      · refine q_isN' ?_
        rw [decide_eq_false (show ¬ V.int i = V.non by intro z; cases z)]
        walk_at "my_rd"
        refine q_is ht (b := false) (by decide +kernel) ?_
        walk_at "my_rd"
        refine q_is ht (b := true) (by decide +kernel) ?_
        walk_at "my_rd"
        refine ⟨.int i, rfl, rfl, ?_⟩
        walk_at "my_rd"
        rw [decide_eq_true rfl]
        walk_at "my_rd"
        exact k
      · refine q_isN' ?_
        rw [decide_eq_false (show ¬ V.str z = V.non by intro z; cases z)]
        walk_at "my_rd"
        refine q_is ht (b := false) (by decide +kernel) ?_
        walk_at "my_rd"
        refine q_is ht (b := false) (by decide +kernel) ?_
        walk_at "my_rd"
        refine q_is ht (b := true) (by decide +kernel) ?_
        walk_at "my_rd"
        refine q_is ht (b := true) (by decide +kernel) ?_
        walk_at "my_rd"
        rw [decide_eq_true rfl]
        walk_at "my_rd"
        exact k
    · refine ⟨_, (pss_cons (ps_if (pt_cmpR op_isN (pv 1) pe_non (nomark _)) (pss_one (ps_ret (pe_cmpR op_isN (pv 0) pe_non (nomark _)))) pss_nil)
      (pss_cons (ps_if (pt_val (pe_callB call_isi (by rfl) T.z_isinstance boot_isinstance (pa_cons (pv 1) (pa_cons (pe_bltn (v := .ty "bool") (by rfl) T.z_bool boot_bool rfl) pa_nil)))) (pss_one (ps_ret (pe_and (pe_callB call_isi (by rfl) T.z_isinstance boot_isinstance (pa_cons (pv 0) (pa_cons (pe_bltn (v := .ty "bool") (by rfl) T.z_bool boot_bool rfl) pa_nil))) (pe_one (pe_cmpR op_eq (pv 0) (pv 1) (nomark _)))))) pss_nil)
      (pss_cons (ps_if (pt_val (pe_callB call_isi (by rfl) T.z_isinstance boot_isinstance (pa_cons (pv 1) (pa_cons (pe_bltn (v := .ty "int") (by rfl) T.z_int boot_int rfl) pa_nil)))) (pss_one (ps_ret (pe_and (pe_call (ok_L_is_int T) (hr.mono (by decide)) (by rfl) T.g_L_is_int T.F_L_is_int.kp T.b_L_is_int .nil pass0 (pa_cons (pv 0) pa_nil)) (pe_one (pe_cmpR op_eq (pv 0) (pv 1) (nomark _)))))) pss_nil)
      (pss_cons (ps_if (pt_val (pe_callB call_isi (by rfl) T.z_isinstance boot_isinstance (pa_cons (pv 1) (pa_cons (pe_bltn (v := .ty "str") (by rfl) T.z_str boot_str rfl) pa_nil)))) (pss_one (ps_ret (pe_and (pe_callB call_isi (by rfl) T.z_isinstance boot_isinstance (pa_cons (pv 0) (pa_cons (pe_bltn (v := .ty "str") (by rfl) T.z_str boot_str rfl) pa_nil))) (pe_one (pe_cmpR op_eq (pv 0) (pv 1) (nomark _)))))) pss_nil)
      (pss_cons (ps_if (PW.pt (pw_or (pt_cmpR op_ne (pe_callB call_isi (by rfl) T.z_isinstance boot_isinstance (pa_cons (pv 1) (pa_cons (pe_bltn (v := .ty "list") (by rfl) T.z_list boot_list rfl) pa_nil))) (pe_callB call_isi (by rfl) T.z_isinstance boot_isinstance (pa_cons (pv 0) (pa_cons (pe_bltn (v := .ty "list") (by rfl) T.z_list boot_list rfl) pa_nil))) (nomark _)) (pw_or1 (pt_cmpR op_ne (pe_callB call_isi (by rfl) T.z_isinstance boot_isinstance (pa_cons (pv 1) (pa_cons (pe_bltn (v := .ty "tuple") (by rfl) T.z_tuple boot_tuple rfl) pa_nil))) (pe_callB call_isi (by rfl) T.z_isinstance boot_isinstance (pa_cons (pv 0) (pa_cons (pe_bltn (v := .ty "tuple") (by rfl) T.z_tuple boot_tuple rfl) pa_nil))) (nomark _))))) (pss_one (ps_ret pe_bl)) pss_nil)
      (pss_one (ps_ret (pe_and (pe_cmpR op_eq (pe_callB cq_len (by rfl) T.z_len boot_len (pa_cons (pv 0) pa_nil)) (pe_callB cq_len (by rfl) T.z_len boot_len (pa_cons (pv 1) pa_nil)) (nomark _)) (pe_one (pe_callB (cr_all rfl) (by rfl) T.z_all boot_all (pa_cons (pe_lc (own := [("k", 2)]) (g := (gName 2)) (tt := tYes) (te := (tCall (sp_same1 K) [] E0 (tCons (tOp (rIx K) (tVar 0) (tVar 2)) (tCons (tOp (rIx K) (tVar 1) (tVar 2)) tNil)))) rfl sc_L_same.nd (pi_range1 (by rfl) T.z_range (pa_cons (pe_callB cq_len (by rfl) T.z_len boot_len (pa_cons (pv 1) pa_nil)) pa_nil)) (blkOk_by (own := [("k", 2)]) (N := ["found", "value", "k"]) (sc := defScope s_L_same) (by decide +kernel)) (fun _ _ _ _ _ => (pg_name (i := 2) sc_L_same.nd rfl (Or.inl rfl))) (fun _ _ _ _ _ => pts_nil) (fun _ _ _ _ _ => (pe_call (ok_L_same1 T) (hr.mono (by decide)) (by rfl) T.g_L_same T.F_L_same.kp T.b_L_same .nil pass0 (pa_cons (pe_ix ix_seq (pv 0) (pv 2) (fun _ _ => rfl)) (pa_cons (pe_ix ix_seq (pv 1) (pv 2) (fun _ _ => rfl)) pa_nil))))) pa_nil))))))))))), ?_⟩
      (dsimp only [cxOf, Cx.nox, Cx.wish, L2.start, List.map, List.length, List.replicate, List.cons_append, List.nil_append, List.append_eq, Nat.reduceSub, Nat.reduceAdd])
      walk_at "my_rd"
      have ta : TyX K H (.ref a) (.type "tuple") := .base (.tup ha)
      have tb : TyX K H (.ref b) (.type "tuple") := .base (.tup hb)
      refine q_isN' ?_
      rw [dec_ref]
      walk_at "my_rd"
      refine q_is tb (b := false) (by decide +kernel) ?_
      walk_at "my_rd"
      refine q_is tb (b := false) (by decide +kernel) ?_
      walk_at "my_rd"
      refine q_is tb (b := false) (by decide +kernel) ?_
      walk_at "my_rd"
      refine q_is tb (b := false) (by decide +kernel) ?_
      walk_at "my_rd"
      refine q_is ta (b := false) (by decide +kernel) ?_
      refine q_neBs ?_
      walk_at "my_rd"
      refine q_is tb (b := true) (by decide +kernel) ?_
      walk_at "my_rd"
      refine q_is ta (b := true) (by decide +kernel) ?_
      refine q_neBs ?_
      walk_at "my_rd"
      rw [decide_eq_true rfl]
      walk_at "my_rd"
      refine q_lcR ⟨by omega, by omega⟩ (fun D nD => ⟨fun i H2 => Same H H2 ∧ H2 D = some (.lst ((List.replicate i true).map V.bl)), ⟨Same.new (Same.refl _) nD, upd_same⟩, ?_, ?_⟩)
      · rintro i H2 hi ⟨sm, hD⟩
        have hi2 : i < xs.length := by omega
        walk_at "my_rd"
        refine ⟨rfl, ?_⟩
        walk_at "my_rd"
        refine q_ixST (sqT (sm _ _ ha)) (at_int rfl (List.getElem?_eq_getElem hi2)) ?_
        walk_at "my_rd"
        refine q_ixST (sqT (sm _ _ hb)) (at_int rfl (List.getElem?_eq_getElem hi2)) ?_
        walk_at "my_rd"
        refine ⟨_, rfl, List.all_eq_true.mp hxs _ (List.getElem_mem hi2), ?_⟩
        refine q_accK hD (by rw [List.length_map, List.length_replicate]; exact small1000 (by omega)) ⟨Same.new sm nD, ?_⟩
        rw [upd_same, List.replicate_succ', List.map_append]
        rfl
      · rintro H2 ⟨sm, hD⟩
        walk_at "my_rd"
        refine q_all (sqL hD) ?_
        walk_at "my_rd"
        rw [all_true]
        exact k _ sm
end

/-! the law's own calls -/
def OutAt (H : Hp) (v : V) : EO → Prop
  | .txt s => v = .str s
  | .num i => v = .int i
  | .pr who amt => ∃ c, v = .ref c ∧ H c = some (.tup [.str who, .int amt])
def sp_do (C Cl : Addr) : Sp := fun vs H Q _ => ∃ (b k nd rl ld rt : Addr) (R : List ERow) (gone : List Int) (S : List Str) (kd : Int) (row : ERow) (n h : Int) (sec : Str), vs = [.ref b, .int kd, .ref rt, .int n, .str sec, .int h] ∧ H rt = some (.tup row.v) ∧
  EscAt C H b k rl ld R gone ∧ LockAt Cl H k nd S ∧ goneOk R gone ∧ R.length ≤ 900 ∧ rl ≠ ld ∧ (0 ≤ kd ∧ kd ≤ 2) ∧
  ∀ H' v, OutAt H' v (dueE S R gone kd row n sec h).1 → EscAt C H' b k rl ld (dueE S R gone kd row n sec h).2.1 (dueE S R gone kd row n sec h).2.2 → Kq rl ld H H' → Q v H'
section
variable {P : Program} {w : World} {K : PySem.W.Frag} {mg : Str → Option Value} {base : Heap}
theorem ok_L_do (T : Txt K mg) : FnOk P w K mg base CX0 3 T.f_L_do T.d_L_do ["escrow", "kind", "row", "number", "secret", "height"] (sp_do T.C_Escrow T.C_Locks) := by
  refine T.F_L_do.ok sc_L_do (fun vs H Q E h => ?_) (fun cdv A outer s H vs Q E hr h => ?_)
  · obtain ⟨b, k, nd, rl, ld, rt, R, gone, S, kd, row, n, h, sec, rfl, _⟩ := h; rfl
  · obtain ⟨b, kk, nd, rl, ld, rt, R, gone, S, kd, row, n, h, sec, rfl, hrow, hE, hL, hg, hlen, hne, hkd, k⟩ := h
    obtain ⟨dx, ho⟩ := hE.o
    unfold ERow.v at hrow
    refine ⟨_, (pss_cons (ps_try_as (i := 6) rfl rfl sc_L_do.nd rfl rfl ⟨rfl, by decide, .inl T.g_BridgeError⟩ takes0 (fun W pn xe tk _ => (pss_cons (ps_if (pt_cmpR op_eq (pv 1) pe_int (nomark _)) (pss_one (ps_ret (pe_methA (pv 0) T.cl_Escrow T.m_Escrow_keep (ok_Escrow_keep (P := P) (w := w) T) (hr.mono (by decide)) T.b_Escrow_keep (fun σ => passAt tk σ) (pa_cons (pe_ix (ix_tupK (K := K) rfl) (pv 2) pe_int (fun _ _ => rfl)) (pa_cons (pe_ix (ix_tupK (K := K) rfl) (pv 2) pe_int (fun _ _ => rfl)) (pa_cons (pe_ix (ix_tupK (K := K) rfl) (pv 2) pe_int (fun _ _ => rfl)) (pa_cons (pe_ix (ix_tupK (K := K) rfl) (pv 2) pe_int (fun _ _ => rfl)) (pa_cons (pe_ix (ix_tupK (K := K) rfl) (pv 2) pe_int (fun _ _ => rfl)) pa_nil)))))))) pss_nil)
      (pss_cons (ps_if (pt_cmpR op_eq (pv 1) pe_int (nomark _)) (pss_one (ps_ret (pe_methA (pv 0) T.cl_Escrow T.m_Escrow_show (ok_Escrow_show (P := P) (w := w) T) (hr.mono (by decide)) T.b_Escrow_show (fun σ => passAt tk σ) (pa_cons (pv 3) (pa_cons (pv 4) (pa_cons (pv 5) pa_nil)))))) pss_nil)
      (pss_one (ps_ret (pe_methA (pv 0) T.cl_Escrow T.m_Escrow_give_back (ok_Escrow_give_back (P := P) (w := w) T) (hr.mono (by decide)) T.b_Escrow_give_back (fun σ => passAt tk σ) (pa_cons (pv 3) (pa_cons (pv 5) pa_nil))))))))
      (fun a oe cls d pn hz hf => (pss_clsC (C := T.C_UnknownTransfer) hz (fun hz => (pss_one (ps_forXK (K := K) rfl PassesOwn.never (pe_lst (pa_cons (pe_tup (pa_cons pe_str (pa_cons (pe_callB (call_isE (T.ec_UnknownTransfer) hz hf) (by rfl) T.z_isinstance boot_isinstance (pa_cons (pv 6) (pa_cons (pe_glob (v := .ref T.C_UnknownTransfer) (by rfl) T.g_UnknownTransfer rfl) pa_nil))) pa_nil))) (pa_cons (pe_tup (pa_cons pe_str (pa_cons (pe_callB (call_isE (T.ec_UnknownTransfer) hz hf) (by rfl) T.z_isinstance boot_isinstance (pa_cons (pv 6) (pa_cons (pe_glob (v := .ref T.C_AlreadyTaken) (by rfl) T.g_AlreadyTaken rfl) pa_nil))) pa_nil))) (pa_cons (pe_tup (pa_cons pe_str (pa_cons (pe_callB (call_isE (T.ec_UnknownTransfer) hz hf) (by rfl) T.z_isinstance boot_isinstance (pa_cons (pv 6) (pa_cons (pe_glob (v := .ref T.C_TooEarly) (by rfl) T.g_TooEarly rfl) pa_nil))) pa_nil))) (pa_cons (pe_tup (pa_cons pe_str (pa_cons (pe_callB (call_isE (T.ec_UnknownTransfer) hz hf) (by rfl) T.z_isinstance boot_isinstance (pa_cons (pv 6) (pa_cons (pe_glob (v := .ref T.C_NotEnoughWeight) (by rfl) T.g_NotEnoughWeight rfl) pa_nil))) pa_nil))) (pa_cons (pe_tup (pa_cons pe_str (pa_cons (pe_callB (call_isE (T.ec_UnknownTransfer) hz hf) (by rfl) T.z_isinstance boot_isinstance (pa_cons (pv 6) (pa_cons (pe_glob (v := .ref T.C_InvalidArgument) (by rfl) T.g_InvalidArgument rfl) pa_nil))) pa_nil))) pa_nil)))))) (pg_name (i := 7) sc_L_do.nd rfl (Or.inl rfl))
        (pss_one (ps_if (pt_val (pe_ix (ix_tupK (K := K) rfl) (pv 7) pe_int (fun _ _ => rfl))) (pss_one (ps_ret (pe_ix (ix_tupK (K := K) rfl) (pv 7) pe_int (fun _ _ => rfl)))) pss_nil))))) (pss_clsC (C := T.C_AlreadyTaken) hz (fun hz => (pss_one (ps_forXK (K := K) rfl PassesOwn.never (pe_lst (pa_cons (pe_tup (pa_cons pe_str (pa_cons (pe_callB (call_isE (T.ec_AlreadyTaken) hz hf) (by rfl) T.z_isinstance boot_isinstance (pa_cons (pv 6) (pa_cons (pe_glob (v := .ref T.C_UnknownTransfer) (by rfl) T.g_UnknownTransfer rfl) pa_nil))) pa_nil))) (pa_cons (pe_tup (pa_cons pe_str (pa_cons (pe_callB (call_isE (T.ec_AlreadyTaken) hz hf) (by rfl) T.z_isinstance boot_isinstance (pa_cons (pv 6) (pa_cons (pe_glob (v := .ref T.C_AlreadyTaken) (by rfl) T.g_AlreadyTaken rfl) pa_nil))) pa_nil))) (pa_cons (pe_tup (pa_cons pe_str (pa_cons (pe_callB (call_isE (T.ec_AlreadyTaken) hz hf) (by rfl) T.z_isinstance boot_isinstance (pa_cons (pv 6) (pa_cons (pe_glob (v := .ref T.C_TooEarly) (by rfl) T.g_TooEarly rfl) pa_nil))) pa_nil))) (pa_cons (pe_tup (pa_cons pe_str (pa_cons (pe_callB (call_isE (T.ec_AlreadyTaken) hz hf) (by rfl) T.z_isinstance boot_isinstance (pa_cons (pv 6) (pa_cons (pe_glob (v := .ref T.C_NotEnoughWeight) (by rfl) T.g_NotEnoughWeight rfl) pa_nil))) pa_nil))) (pa_cons (pe_tup (pa_cons pe_str (pa_cons (pe_callB (call_isE (T.ec_AlreadyTaken) hz hf) (by rfl) T.z_isinstance boot_isinstance (pa_cons (pv 6) (pa_cons (pe_glob (v := .ref T.C_InvalidArgument) (by rfl) T.g_InvalidArgument rfl) pa_nil))) pa_nil))) pa_nil)))))) (pg_name (i := 7) sc_L_do.nd rfl (Or.inl rfl))
        (pss_one (ps_if (pt_val (pe_ix (ix_tupK (K := K) rfl) (pv 7) pe_int (fun _ _ => rfl))) (pss_one (ps_ret (pe_ix (ix_tupK (K := K) rfl) (pv 7) pe_int (fun _ _ => rfl)))) pss_nil))))) (pss_clsC (C := T.C_TooEarly) hz (fun hz => (pss_one (ps_forXK (K := K) rfl PassesOwn.never (pe_lst (pa_cons (pe_tup (pa_cons pe_str (pa_cons (pe_callB (call_isE (T.ec_TooEarly) hz hf) (by rfl) T.z_isinstance boot_isinstance (pa_cons (pv 6) (pa_cons (pe_glob (v := .ref T.C_UnknownTransfer) (by rfl) T.g_UnknownTransfer rfl) pa_nil))) pa_nil))) (pa_cons (pe_tup (pa_cons pe_str (pa_cons (pe_callB (call_isE (T.ec_TooEarly) hz hf) (by rfl) T.z_isinstance boot_isinstance (pa_cons (pv 6) (pa_cons (pe_glob (v := .ref T.C_AlreadyTaken) (by rfl) T.g_AlreadyTaken rfl) pa_nil))) pa_nil))) (pa_cons (pe_tup (pa_cons pe_str (pa_cons (pe_callB (call_isE (T.ec_TooEarly) hz hf) (by rfl) T.z_isinstance boot_isinstance (pa_cons (pv 6) (pa_cons (pe_glob (v := .ref T.C_TooEarly) (by rfl) T.g_TooEarly rfl) pa_nil))) pa_nil))) (pa_cons (pe_tup (pa_cons pe_str (pa_cons (pe_callB (call_isE (T.ec_TooEarly) hz hf) (by rfl) T.z_isinstance boot_isinstance (pa_cons (pv 6) (pa_cons (pe_glob (v := .ref T.C_NotEnoughWeight) (by rfl) T.g_NotEnoughWeight rfl) pa_nil))) pa_nil))) (pa_cons (pe_tup (pa_cons pe_str (pa_cons (pe_callB (call_isE (T.ec_TooEarly) hz hf) (by rfl) T.z_isinstance boot_isinstance (pa_cons (pv 6) (pa_cons (pe_glob (v := .ref T.C_InvalidArgument) (by rfl) T.g_InvalidArgument rfl) pa_nil))) pa_nil))) pa_nil)))))) (pg_name (i := 7) sc_L_do.nd rfl (Or.inl rfl))
        (pss_one (ps_if (pt_val (pe_ix (ix_tupK (K := K) rfl) (pv 7) pe_int (fun _ _ => rfl))) (pss_one (ps_ret (pe_ix (ix_tupK (K := K) rfl) (pv 7) pe_int (fun _ _ => rfl)))) pss_nil))))) (pss_clsC (C := T.C_NotEnoughWeight) hz (fun hz => (pss_one (ps_forXK (K := K) rfl PassesOwn.never (pe_lst (pa_cons (pe_tup (pa_cons pe_str (pa_cons (pe_callB (call_isE (T.ec_NotEnoughWeight) hz hf) (by rfl) T.z_isinstance boot_isinstance (pa_cons (pv 6) (pa_cons (pe_glob (v := .ref T.C_UnknownTransfer) (by rfl) T.g_UnknownTransfer rfl) pa_nil))) pa_nil))) (pa_cons (pe_tup (pa_cons pe_str (pa_cons (pe_callB (call_isE (T.ec_NotEnoughWeight) hz hf) (by rfl) T.z_isinstance boot_isinstance (pa_cons (pv 6) (pa_cons (pe_glob (v := .ref T.C_AlreadyTaken) (by rfl) T.g_AlreadyTaken rfl) pa_nil))) pa_nil))) (pa_cons (pe_tup (pa_cons pe_str (pa_cons (pe_callB (call_isE (T.ec_NotEnoughWeight) hz hf) (by rfl) T.z_isinstance boot_isinstance (pa_cons (pv 6) (pa_cons (pe_glob (v := .ref T.C_TooEarly) (by rfl) T.g_TooEarly rfl) pa_nil))) pa_nil))) (pa_cons (pe_tup (pa_cons pe_str (pa_cons (pe_callB (call_isE (T.ec_NotEnoughWeight) hz hf) (by rfl) T.z_isinstance boot_isinstance (pa_cons (pv 6) (pa_cons (pe_glob (v := .ref T.C_NotEnoughWeight) (by rfl) T.g_NotEnoughWeight rfl) pa_nil))) pa_nil))) (pa_cons (pe_tup (pa_cons pe_str (pa_cons (pe_callB (call_isE (T.ec_NotEnoughWeight) hz hf) (by rfl) T.z_isinstance boot_isinstance (pa_cons (pv 6) (pa_cons (pe_glob (v := .ref T.C_InvalidArgument) (by rfl) T.g_InvalidArgument rfl) pa_nil))) pa_nil))) pa_nil)))))) (pg_name (i := 7) sc_L_do.nd rfl (Or.inl rfl))
        (pss_one (ps_if (pt_val (pe_ix (ix_tupK (K := K) rfl) (pv 7) pe_int (fun _ _ => rfl))) (pss_one (ps_ret (pe_ix (ix_tupK (K := K) rfl) (pv 7) pe_int (fun _ _ => rfl)))) pss_nil))))) (pss_cls (C := T.C_InvalidArgument) hz fun hz => (pss_one (ps_forXK (K := K) rfl PassesOwn.never (pe_lst (pa_cons (pe_tup (pa_cons pe_str (pa_cons (pe_callB (call_isE (T.ec_InvalidArgument) hz hf) (by rfl) T.z_isinstance boot_isinstance (pa_cons (pv 6) (pa_cons (pe_glob (v := .ref T.C_UnknownTransfer) (by rfl) T.g_UnknownTransfer rfl) pa_nil))) pa_nil))) (pa_cons (pe_tup (pa_cons pe_str (pa_cons (pe_callB (call_isE (T.ec_InvalidArgument) hz hf) (by rfl) T.z_isinstance boot_isinstance (pa_cons (pv 6) (pa_cons (pe_glob (v := .ref T.C_AlreadyTaken) (by rfl) T.g_AlreadyTaken rfl) pa_nil))) pa_nil))) (pa_cons (pe_tup (pa_cons pe_str (pa_cons (pe_callB (call_isE (T.ec_InvalidArgument) hz hf) (by rfl) T.z_isinstance boot_isinstance (pa_cons (pv 6) (pa_cons (pe_glob (v := .ref T.C_TooEarly) (by rfl) T.g_TooEarly rfl) pa_nil))) pa_nil))) (pa_cons (pe_tup (pa_cons pe_str (pa_cons (pe_callB (call_isE (T.ec_InvalidArgument) hz hf) (by rfl) T.z_isinstance boot_isinstance (pa_cons (pv 6) (pa_cons (pe_glob (v := .ref T.C_NotEnoughWeight) (by rfl) T.g_NotEnoughWeight rfl) pa_nil))) pa_nil))) (pa_cons (pe_tup (pa_cons pe_str (pa_cons (pe_callB (call_isE (T.ec_InvalidArgument) hz hf) (by rfl) T.z_isinstance boot_isinstance (pa_cons (pv 6) (pa_cons (pe_glob (v := .ref T.C_InvalidArgument) (by rfl) T.g_InvalidArgument rfl) pa_nil))) pa_nil))) pa_nil)))))) (pg_name (i := 7) sc_L_do.nd rfl (Or.inl rfl))
        (pss_one (ps_if (pt_val (pe_ix (ix_tupK (K := K) rfl) (pv 7) pe_int (fun _ _ => rfl))) (pss_one (ps_ret (pe_ix (ix_tupK (K := K) rfl) (pv 7) pe_int (fun _ _ => rfl)))) pss_nil)))))))))))
      (pss_one (ps_ret pe_str))), ?_⟩
    (dsimp only [cxOf, Cx.nox, Cx.wish, L2.start, List.map, List.length, List.replicate, List.cons_append, List.nil_append, List.append_eq, Nat.reduceSub, Nat.reduceAdd])
    walk_at "my_rd"
    refine q_if2 (fun hk => ?_) (fun hk => ?_)
    · have hk := dec_t hk
      walk_at "my_rd"
      refine q_methA ?_
      walk_at "my_rd"
      refine q_methAK ho (lk3 (by decide +kernel) (by decide +kernel) (by decide +kernel)) ?_
      walk_at "my_rd"
      refine ⟨b, kk, rl, ld, R, gone, row, rfl, hE, hg, hlen, hne, fun ha1 => ⟨true, T.ex_InvalidArgument, fun _ a ha => .inr (.inr (.inr (.inr (⟨⟨rfl, rfl⟩, ?_⟩)))), fun q => nomatch q⟩, fun ha1 H1 hE1 kq1 => ?_⟩
      · walk_at "my_rd"
        refine q_isE T.hq_InvalidArgument_UnknownTransfer ?_
        walk_at "my_rd"
        refine q_tupK (Nat.le_of_ble_eq_true rfl) fun t0 nt0 => ?_
        walk_at "my_rd"
        refine q_isE T.hq_InvalidArgument_AlreadyTaken ?_
        walk_at "my_rd"
        refine q_tupK (Nat.le_of_ble_eq_true rfl) fun t1 nt1 => ?_
        walk_at "my_rd"
        refine q_isE T.hq_InvalidArgument_TooEarly ?_
        walk_at "my_rd"
        refine q_tupK (Nat.le_of_ble_eq_true rfl) fun t2 nt2 => ?_
        walk_at "my_rd"
        refine q_isE T.hq_InvalidArgument_NotEnoughWeight ?_
        walk_at "my_rd"
        refine q_tupK (Nat.le_of_ble_eq_true rfl) fun t3 nt3 => ?_
        walk_at "my_rd"
        refine q_isE T.hi_InvalidArgument ?_
        walk_at "my_rd"
        refine q_tupK (Nat.le_of_ble_eq_true rfl) fun t4 nt4 => ?_
        walk_at "my_rd"
        refine q_lstK (Nat.le_of_ble_eq_true rfl) fun l nl => ?_
        have hl : (upd (upd (upd (upd (upd (upd (H) t0 (.tup [.str "unknown", .bl false])) t1 (.tup [.str "taken", .bl false])) t2 (.tup [.str "early", .bl false])) t3 (.tup [.str "weight", .bl false])) t4 (.tup [.str "argument", .bl true])) l (.lst [.ref t0, .ref t1, .ref t2, .ref t3, .ref t4])) l = some (.lst [.ref t0, .ref t1, .ref t2, .ref t3, .ref t4]) := upd_same
        have ht0 : (upd (upd (upd (upd (upd (upd (H) t0 (.tup [.str "unknown", .bl false])) t1 (.tup [.str "taken", .bl false])) t2 (.tup [.str "early", .bl false])) t3 (.tup [.str "weight", .bl false])) t4 (.tup [.str "argument", .bl true])) l (.lst [.ref t0, .ref t1, .ref t2, .ref t3, .ref t4])) t0 = some (.tup [.str "unknown", .bl false]) := upd_new nl (upd_new nt4 (upd_new nt3 (upd_new nt2 (upd_new nt1 (upd_same)))))
        have ht1 : (upd (upd (upd (upd (upd (upd (H) t0 (.tup [.str "unknown", .bl false])) t1 (.tup [.str "taken", .bl false])) t2 (.tup [.str "early", .bl false])) t3 (.tup [.str "weight", .bl false])) t4 (.tup [.str "argument", .bl true])) l (.lst [.ref t0, .ref t1, .ref t2, .ref t3, .ref t4])) t1 = some (.tup [.str "taken", .bl false]) := upd_new nl (upd_new nt4 (upd_new nt3 (upd_new nt2 (upd_same))))
        have ht2 : (upd (upd (upd (upd (upd (upd (H) t0 (.tup [.str "unknown", .bl false])) t1 (.tup [.str "taken", .bl false])) t2 (.tup [.str "early", .bl false])) t3 (.tup [.str "weight", .bl false])) t4 (.tup [.str "argument", .bl true])) l (.lst [.ref t0, .ref t1, .ref t2, .ref t3, .ref t4])) t2 = some (.tup [.str "early", .bl false]) := upd_new nl (upd_new nt4 (upd_new nt3 (upd_same)))
        have ht3 : (upd (upd (upd (upd (upd (upd (H) t0 (.tup [.str "unknown", .bl false])) t1 (.tup [.str "taken", .bl false])) t2 (.tup [.str "early", .bl false])) t3 (.tup [.str "weight", .bl false])) t4 (.tup [.str "argument", .bl true])) l (.lst [.ref t0, .ref t1, .ref t2, .ref t3, .ref t4])) t3 = some (.tup [.str "weight", .bl false]) := upd_new nl (upd_new nt4 (upd_same))
        have ht4 : (upd (upd (upd (upd (upd (upd (H) t0 (.tup [.str "unknown", .bl false])) t1 (.tup [.str "taken", .bl false])) t2 (.tup [.str "early", .bl false])) t3 (.tup [.str "weight", .bl false])) t4 (.tup [.str "argument", .bl true])) l (.lst [.ref t0, .ref t1, .ref t2, .ref t3, .ref t4])) t4 = some (.tup [.str "argument", .bl true]) := upd_new nl (upd_same)
        have sm : Same H (upd (upd (upd (upd (upd (upd (H) t0 (.tup [.str "unknown", .bl false])) t1 (.tup [.str "taken", .bl false])) t2 (.tup [.str "early", .bl false])) t3 (.tup [.str "weight", .bl false])) t4 (.tup [.str "argument", .bl true])) l (.lst [.ref t0, .ref t1, .ref t2, .ref t3, .ref t4])) := Same.up (Same.up (Same.up (Same.up (Same.up (Same.up (Same.refl _) nt0) nt1) nt2) nt3) nt4) nl
        generalize upd (upd (upd (upd (upd (upd (H) t0 (.tup [.str "unknown", .bl false])) t1 (.tup [.str "taken", .bl false])) t2 (.tup [.str "early", .bl false])) t3 (.tup [.str "weight", .bl false])) t4 (.tup [.str "argument", .bl true])) l (.lst [.ref t0, .ref t1, .ref t2, .ref t3, .ref t4]) = H6 at hl ht0 ht1 ht2 ht3 ht4 sm
        walk_at "my_rd"
        refine ⟨l, _, fun i σ H' => i ≤ 4 ∧ H' = H6 ∧ ∃ v, σ = [some (.ref b), some (.int kd), some (.ref rt), some (.int n), some (.str sec), some (.int h), some (.ref a), v], rfl, sqL hl, ⟨Nat.zero_le _, rfl, _, rfl⟩, ?_⟩
        rintro i σ H' ⟨hij, rfl, v, rfl⟩
        have hij : i = 0 ∨ i = 1 ∨ i = 2 ∨ i = 3 ∨ i = 4 := by omega
        rcases hij with rfl | rfl | rfl | rfl | rfl
        · refine ⟨sqL hl, .ref t0, rfl, ?_⟩
          walk_at "my_rd"
          exact ⟨by omega, rfl, _, rfl⟩
        · refine ⟨sqL hl, .ref t1, rfl, ?_⟩
          walk_at "my_rd"
          exact ⟨by omega, rfl, _, rfl⟩
        · refine ⟨sqL hl, .ref t2, rfl, ?_⟩
          walk_at "my_rd"
          exact ⟨by omega, rfl, _, rfl⟩
        · refine ⟨sqL hl, .ref t3, rfl, ?_⟩
          walk_at "my_rd"
          exact ⟨by omega, rfl, _, rfl⟩
        · refine ⟨sqL hl, .ref t4, rfl, ?_⟩
          walk_at "my_rd"
          have e : dueE S R gone kd row n sec h = (.txt "argument", R, gone) := by unfold dueE; rw [if_pos hk, if_pos ha1]
          rw [e] at k
          exact k _ _ rfl (hE.same sm) (Kq.same sm)
      · walk_at "my_rd"
        have e : dueE S R gone kd row n sec h = (.num R.length, R ++ [row], gone) := by unfold dueE; rw [if_pos hk, if_neg ha1]
        rw [e] at k
        exact k _ _ rfl hE1 kq1
    · have hk := dec_f hk
      walk_at "my_rd"
      refine q_if2 (fun hk1 => ?_) (fun hk1 => ?_)
      · have hk1 := dec_t hk1
        walk_at "my_rd"
        refine q_methA ?_
        walk_at "my_rd"
        refine q_methAK ho (lk3 (by decide +kernel) (by decide +kernel) (by decide +kernel)) ?_
        walk_at "my_rd"
        refine ⟨b, kk, nd, rl, ld, R, gone, S, n, h, sec, rfl, hE, hL, fun h1 => ⟨true, T.ex_UnknownTransfer, fun _ a ha => .inl ⟨⟨rfl, rfl⟩, ?_⟩, fun q => nomatch q⟩, fun h1 h2 => ⟨true, T.ex_AlreadyTaken, fun _ a ha => .inr (.inl ⟨⟨rfl, rfl⟩, ?_⟩), fun q => nomatch q⟩, fun m r hnm hm h2 hr0 h3 => ⟨true, T.ex_TooEarly, fun _ a ha => .inr (.inr (.inl ⟨⟨rfl, rfl⟩, ?_⟩)), fun q => nomatch q⟩, fun m r hnm hm h2 hr0 h3 h4 => ⟨true, T.ex_NotEnoughWeight, fun _ a ha => .inr (.inr (.inr (.inl ⟨⟨rfl, rfl⟩, ?_⟩))), fun q => nomatch q⟩, fun m r hnm hm h2 hr0 h3 h4 c H1 hc hE1 kq1 => ?_⟩
        · walk_at "my_rd"
          refine q_isE T.hi_UnknownTransfer ?_
          walk_at "my_rd"
          refine q_tupK (Nat.le_of_ble_eq_true rfl) fun t0 nt0 => ?_
          walk_at "my_rd"
          refine q_isE T.hq_UnknownTransfer_AlreadyTaken ?_
          walk_at "my_rd"
          refine q_tupK (Nat.le_of_ble_eq_true rfl) fun t1 nt1 => ?_
          walk_at "my_rd"
          refine q_isE T.hq_UnknownTransfer_TooEarly ?_
          walk_at "my_rd"
          refine q_tupK (Nat.le_of_ble_eq_true rfl) fun t2 nt2 => ?_
          walk_at "my_rd"
          refine q_isE T.hq_UnknownTransfer_NotEnoughWeight ?_
          walk_at "my_rd"
          refine q_tupK (Nat.le_of_ble_eq_true rfl) fun t3 nt3 => ?_
          walk_at "my_rd"
          refine q_isE T.hq_UnknownTransfer_InvalidArgument ?_
          walk_at "my_rd"
          refine q_tupK (Nat.le_of_ble_eq_true rfl) fun t4 nt4 => ?_
          walk_at "my_rd"
          refine q_lstK (Nat.le_of_ble_eq_true rfl) fun l nl => ?_
          have hl : (upd (upd (upd (upd (upd (upd (H) t0 (.tup [.str "unknown", .bl true])) t1 (.tup [.str "taken", .bl false])) t2 (.tup [.str "early", .bl false])) t3 (.tup [.str "weight", .bl false])) t4 (.tup [.str "argument", .bl false])) l (.lst [.ref t0, .ref t1, .ref t2, .ref t3, .ref t4])) l = some (.lst [.ref t0, .ref t1, .ref t2, .ref t3, .ref t4]) := upd_same
          have ht0 : (upd (upd (upd (upd (upd (upd (H) t0 (.tup [.str "unknown", .bl true])) t1 (.tup [.str "taken", .bl false])) t2 (.tup [.str "early", .bl false])) t3 (.tup [.str "weight", .bl false])) t4 (.tup [.str "argument", .bl false])) l (.lst [.ref t0, .ref t1, .ref t2, .ref t3, .ref t4])) t0 = some (.tup [.str "unknown", .bl true]) := upd_new nl (upd_new nt4 (upd_new nt3 (upd_new nt2 (upd_new nt1 (upd_same)))))
          have ht1 : (upd (upd (upd (upd (upd (upd (H) t0 (.tup [.str "unknown", .bl true])) t1 (.tup [.str "taken", .bl false])) t2 (.tup [.str "early", .bl false])) t3 (.tup [.str "weight", .bl false])) t4 (.tup [.str "argument", .bl false])) l (.lst [.ref t0, .ref t1, .ref t2, .ref t3, .ref t4])) t1 = some (.tup [.str "taken", .bl false]) := upd_new nl (upd_new nt4 (upd_new nt3 (upd_new nt2 (upd_same))))
          have ht2 : (upd (upd (upd (upd (upd (upd (H) t0 (.tup [.str "unknown", .bl true])) t1 (.tup [.str "taken", .bl false])) t2 (.tup [.str "early", .bl false])) t3 (.tup [.str "weight", .bl false])) t4 (.tup [.str "argument", .bl false])) l (.lst [.ref t0, .ref t1, .ref t2, .ref t3, .ref t4])) t2 = some (.tup [.str "early", .bl false]) := upd_new nl (upd_new nt4 (upd_new nt3 (upd_same)))
          have ht3 : (upd (upd (upd (upd (upd (upd (H) t0 (.tup [.str "unknown", .bl true])) t1 (.tup [.str "taken", .bl false])) t2 (.tup [.str "early", .bl false])) t3 (.tup [.str "weight", .bl false])) t4 (.tup [.str "argument", .bl false])) l (.lst [.ref t0, .ref t1, .ref t2, .ref t3, .ref t4])) t3 = some (.tup [.str "weight", .bl false]) := upd_new nl (upd_new nt4 (upd_same))
          have ht4 : (upd (upd (upd (upd (upd (upd (H) t0 (.tup [.str "unknown", .bl true])) t1 (.tup [.str "taken", .bl false])) t2 (.tup [.str "early", .bl false])) t3 (.tup [.str "weight", .bl false])) t4 (.tup [.str "argument", .bl false])) l (.lst [.ref t0, .ref t1, .ref t2, .ref t3, .ref t4])) t4 = some (.tup [.str "argument", .bl false]) := upd_new nl (upd_same)
          have sm : Same H (upd (upd (upd (upd (upd (upd (H) t0 (.tup [.str "unknown", .bl true])) t1 (.tup [.str "taken", .bl false])) t2 (.tup [.str "early", .bl false])) t3 (.tup [.str "weight", .bl false])) t4 (.tup [.str "argument", .bl false])) l (.lst [.ref t0, .ref t1, .ref t2, .ref t3, .ref t4])) := Same.up (Same.up (Same.up (Same.up (Same.up (Same.up (Same.refl _) nt0) nt1) nt2) nt3) nt4) nl
          generalize upd (upd (upd (upd (upd (upd (H) t0 (.tup [.str "unknown", .bl true])) t1 (.tup [.str "taken", .bl false])) t2 (.tup [.str "early", .bl false])) t3 (.tup [.str "weight", .bl false])) t4 (.tup [.str "argument", .bl false])) l (.lst [.ref t0, .ref t1, .ref t2, .ref t3, .ref t4]) = H6 at hl ht0 ht1 ht2 ht3 ht4 sm
          walk_at "my_rd"
          refine ⟨l, _, fun i σ H' => i ≤ 0 ∧ H' = H6 ∧ ∃ v, σ = [some (.ref b), some (.int kd), some (.ref rt), some (.int n), some (.str sec), some (.int h), some (.ref a), v], rfl, sqL hl, ⟨Nat.zero_le _, rfl, _, rfl⟩, ?_⟩
          rintro i σ H' ⟨hij, rfl, v, rfl⟩
          have hij : i = 0 := by omega
          rcases hij with rfl
          · refine ⟨sqL hl, .ref t0, rfl, ?_⟩
            walk_at "my_rd"
            have e : dueE S R gone kd row n sec h = (.txt "unknown", R, gone) := by unfold dueE; rw [if_neg hk, if_pos h1]
            rw [e] at k
            exact k _ _ rfl (hE.same sm) (Kq.same sm)
        · walk_at "my_rd"
          refine q_isE T.hq_AlreadyTaken_UnknownTransfer ?_
          walk_at "my_rd"
          refine q_tupK (Nat.le_of_ble_eq_true rfl) fun t0 nt0 => ?_
          walk_at "my_rd"
          refine q_isE T.hi_AlreadyTaken ?_
          walk_at "my_rd"
          refine q_tupK (Nat.le_of_ble_eq_true rfl) fun t1 nt1 => ?_
          walk_at "my_rd"
          refine q_isE T.hq_AlreadyTaken_TooEarly ?_
          walk_at "my_rd"
          refine q_tupK (Nat.le_of_ble_eq_true rfl) fun t2 nt2 => ?_
          walk_at "my_rd"
          refine q_isE T.hq_AlreadyTaken_NotEnoughWeight ?_
          walk_at "my_rd"
          refine q_tupK (Nat.le_of_ble_eq_true rfl) fun t3 nt3 => ?_
          walk_at "my_rd"
          refine q_isE T.hq_AlreadyTaken_InvalidArgument ?_
          walk_at "my_rd"
          refine q_tupK (Nat.le_of_ble_eq_true rfl) fun t4 nt4 => ?_
          walk_at "my_rd"
          refine q_lstK (Nat.le_of_ble_eq_true rfl) fun l nl => ?_
          have hl : (upd (upd (upd (upd (upd (upd (H) t0 (.tup [.str "unknown", .bl false])) t1 (.tup [.str "taken", .bl true])) t2 (.tup [.str "early", .bl false])) t3 (.tup [.str "weight", .bl false])) t4 (.tup [.str "argument", .bl false])) l (.lst [.ref t0, .ref t1, .ref t2, .ref t3, .ref t4])) l = some (.lst [.ref t0, .ref t1, .ref t2, .ref t3, .ref t4]) := upd_same
          have ht0 : (upd (upd (upd (upd (upd (upd (H) t0 (.tup [.str "unknown", .bl false])) t1 (.tup [.str "taken", .bl true])) t2 (.tup [.str "early", .bl false])) t3 (.tup [.str "weight", .bl false])) t4 (.tup [.str "argument", .bl false])) l (.lst [.ref t0, .ref t1, .ref t2, .ref t3, .ref t4])) t0 = some (.tup [.str "unknown", .bl false]) := upd_new nl (upd_new nt4 (upd_new nt3 (upd_new nt2 (upd_new nt1 (upd_same)))))
          have ht1 : (upd (upd (upd (upd (upd (upd (H) t0 (.tup [.str "unknown", .bl false])) t1 (.tup [.str "taken", .bl true])) t2 (.tup [.str "early", .bl false])) t3 (.tup [.str "weight", .bl false])) t4 (.tup [.str "argument", .bl false])) l (.lst [.ref t0, .ref t1, .ref t2, .ref t3, .ref t4])) t1 = some (.tup [.str "taken", .bl true]) := upd_new nl (upd_new nt4 (upd_new nt3 (upd_new nt2 (upd_same))))
          have ht2 : (upd (upd (upd (upd (upd (upd (H) t0 (.tup [.str "unknown", .bl false])) t1 (.tup [.str "taken", .bl true])) t2 (.tup [.str "early", .bl false])) t3 (.tup [.str "weight", .bl false])) t4 (.tup [.str "argument", .bl false])) l (.lst [.ref t0, .ref t1, .ref t2, .ref t3, .ref t4])) t2 = some (.tup [.str "early", .bl false]) := upd_new nl (upd_new nt4 (upd_new nt3 (upd_same)))
          have ht3 : (upd (upd (upd (upd (upd (upd (H) t0 (.tup [.str "unknown", .bl false])) t1 (.tup [.str "taken", .bl true])) t2 (.tup [.str "early", .bl false])) t3 (.tup [.str "weight", .bl false])) t4 (.tup [.str "argument", .bl false])) l (.lst [.ref t0, .ref t1, .ref t2, .ref t3, .ref t4])) t3 = some (.tup [.str "weight", .bl false]) := upd_new nl (upd_new nt4 (upd_same))
          have ht4 : (upd (upd (upd (upd (upd (upd (H) t0 (.tup [.str "unknown", .bl false])) t1 (.tup [.str "taken", .bl true])) t2 (.tup [.str "early", .bl false])) t3 (.tup [.str "weight", .bl false])) t4 (.tup [.str "argument", .bl false])) l (.lst [.ref t0, .ref t1, .ref t2, .ref t3, .ref t4])) t4 = some (.tup [.str "argument", .bl false]) := upd_new nl (upd_same)
          have sm : Same H (upd (upd (upd (upd (upd (upd (H) t0 (.tup [.str "unknown", .bl false])) t1 (.tup [.str "taken", .bl true])) t2 (.tup [.str "early", .bl false])) t3 (.tup [.str "weight", .bl false])) t4 (.tup [.str "argument", .bl false])) l (.lst [.ref t0, .ref t1, .ref t2, .ref t3, .ref t4])) := Same.up (Same.up (Same.up (Same.up (Same.up (Same.up (Same.refl _) nt0) nt1) nt2) nt3) nt4) nl
          generalize upd (upd (upd (upd (upd (upd (H) t0 (.tup [.str "unknown", .bl false])) t1 (.tup [.str "taken", .bl true])) t2 (.tup [.str "early", .bl false])) t3 (.tup [.str "weight", .bl false])) t4 (.tup [.str "argument", .bl false])) l (.lst [.ref t0, .ref t1, .ref t2, .ref t3, .ref t4]) = H6 at hl ht0 ht1 ht2 ht3 ht4 sm
          walk_at "my_rd"
          refine ⟨l, _, fun i σ H' => i ≤ 1 ∧ H' = H6 ∧ ∃ v, σ = [some (.ref b), some (.int kd), some (.ref rt), some (.int n), some (.str sec), some (.int h), some (.ref a), v], rfl, sqL hl, ⟨Nat.zero_le _, rfl, _, rfl⟩, ?_⟩
          rintro i σ H' ⟨hij, rfl, v, rfl⟩
          have hij : i = 0 ∨ i = 1 := by omega
          rcases hij with rfl | rfl
          · refine ⟨sqL hl, .ref t0, rfl, ?_⟩
            walk_at "my_rd"
            exact ⟨by omega, rfl, _, rfl⟩
          · refine ⟨sqL hl, .ref t1, rfl, ?_⟩
            walk_at "my_rd"
            have e : dueE S R gone kd row n sec h = (.txt "taken", R, gone) := by unfold dueE; rw [if_neg hk, if_neg h1, if_pos h2]
            rw [e] at k
            exact k _ _ rfl (hE.same sm) (Kq.same sm)
        · walk_at "my_rd"
          refine q_isE T.hq_TooEarly_UnknownTransfer ?_
          walk_at "my_rd"
          refine q_tupK (Nat.le_of_ble_eq_true rfl) fun t0 nt0 => ?_
          walk_at "my_rd"
          refine q_isE T.hq_TooEarly_AlreadyTaken ?_
          walk_at "my_rd"
          refine q_tupK (Nat.le_of_ble_eq_true rfl) fun t1 nt1 => ?_
          walk_at "my_rd"
          refine q_isE T.hi_TooEarly ?_
          walk_at "my_rd"
          refine q_tupK (Nat.le_of_ble_eq_true rfl) fun t2 nt2 => ?_
          walk_at "my_rd"
          refine q_isE T.hq_TooEarly_NotEnoughWeight ?_
          walk_at "my_rd"
          refine q_tupK (Nat.le_of_ble_eq_true rfl) fun t3 nt3 => ?_
          walk_at "my_rd"
          refine q_isE T.hq_TooEarly_InvalidArgument ?_
          walk_at "my_rd"
          refine q_tupK (Nat.le_of_ble_eq_true rfl) fun t4 nt4 => ?_
          walk_at "my_rd"
          refine q_lstK (Nat.le_of_ble_eq_true rfl) fun l nl => ?_
          have hl : (upd (upd (upd (upd (upd (upd (H) t0 (.tup [.str "unknown", .bl false])) t1 (.tup [.str "taken", .bl false])) t2 (.tup [.str "early", .bl true])) t3 (.tup [.str "weight", .bl false])) t4 (.tup [.str "argument", .bl false])) l (.lst [.ref t0, .ref t1, .ref t2, .ref t3, .ref t4])) l = some (.lst [.ref t0, .ref t1, .ref t2, .ref t3, .ref t4]) := upd_same
          have ht0 : (upd (upd (upd (upd (upd (upd (H) t0 (.tup [.str "unknown", .bl false])) t1 (.tup [.str "taken", .bl false])) t2 (.tup [.str "early", .bl true])) t3 (.tup [.str "weight", .bl false])) t4 (.tup [.str "argument", .bl false])) l (.lst [.ref t0, .ref t1, .ref t2, .ref t3, .ref t4])) t0 = some (.tup [.str "unknown", .bl false]) := upd_new nl (upd_new nt4 (upd_new nt3 (upd_new nt2 (upd_new nt1 (upd_same)))))
          have ht1 : (upd (upd (upd (upd (upd (upd (H) t0 (.tup [.str "unknown", .bl false])) t1 (.tup [.str "taken", .bl false])) t2 (.tup [.str "early", .bl true])) t3 (.tup [.str "weight", .bl false])) t4 (.tup [.str "argument", .bl false])) l (.lst [.ref t0, .ref t1, .ref t2, .ref t3, .ref t4])) t1 = some (.tup [.str "taken", .bl false]) := upd_new nl (upd_new nt4 (upd_new nt3 (upd_new nt2 (upd_same))))
          have ht2 : (upd (upd (upd (upd (upd (upd (H) t0 (.tup [.str "unknown", .bl false])) t1 (.tup [.str "taken", .bl false])) t2 (.tup [.str "early", .bl true])) t3 (.tup [.str "weight", .bl false])) t4 (.tup [.str "argument", .bl false])) l (.lst [.ref t0, .ref t1, .ref t2, .ref t3, .ref t4])) t2 = some (.tup [.str "early", .bl true]) := upd_new nl (upd_new nt4 (upd_new nt3 (upd_same)))
          have ht3 : (upd (upd (upd (upd (upd (upd (H) t0 (.tup [.str "unknown", .bl false])) t1 (.tup [.str "taken", .bl false])) t2 (.tup [.str "early", .bl true])) t3 (.tup [.str "weight", .bl false])) t4 (.tup [.str "argument", .bl false])) l (.lst [.ref t0, .ref t1, .ref t2, .ref t3, .ref t4])) t3 = some (.tup [.str "weight", .bl false]) := upd_new nl (upd_new nt4 (upd_same))
          have ht4 : (upd (upd (upd (upd (upd (upd (H) t0 (.tup [.str "unknown", .bl false])) t1 (.tup [.str "taken", .bl false])) t2 (.tup [.str "early", .bl true])) t3 (.tup [.str "weight", .bl false])) t4 (.tup [.str "argument", .bl false])) l (.lst [.ref t0, .ref t1, .ref t2, .ref t3, .ref t4])) t4 = some (.tup [.str "argument", .bl false]) := upd_new nl (upd_same)
          have sm : Same H (upd (upd (upd (upd (upd (upd (H) t0 (.tup [.str "unknown", .bl false])) t1 (.tup [.str "taken", .bl false])) t2 (.tup [.str "early", .bl true])) t3 (.tup [.str "weight", .bl false])) t4 (.tup [.str "argument", .bl false])) l (.lst [.ref t0, .ref t1, .ref t2, .ref t3, .ref t4])) := Same.up (Same.up (Same.up (Same.up (Same.up (Same.up (Same.refl _) nt0) nt1) nt2) nt3) nt4) nl
          generalize upd (upd (upd (upd (upd (upd (H) t0 (.tup [.str "unknown", .bl false])) t1 (.tup [.str "taken", .bl false])) t2 (.tup [.str "early", .bl true])) t3 (.tup [.str "weight", .bl false])) t4 (.tup [.str "argument", .bl false])) l (.lst [.ref t0, .ref t1, .ref t2, .ref t3, .ref t4]) = H6 at hl ht0 ht1 ht2 ht3 ht4 sm
          walk_at "my_rd"
          refine ⟨l, _, fun i σ H' => i ≤ 2 ∧ H' = H6 ∧ ∃ v, σ = [some (.ref b), some (.int kd), some (.ref rt), some (.int n), some (.str sec), some (.int h), some (.ref a), v], rfl, sqL hl, ⟨Nat.zero_le _, rfl, _, rfl⟩, ?_⟩
          rintro i σ H' ⟨hij, rfl, v, rfl⟩
          have hij : i = 0 ∨ i = 1 ∨ i = 2 := by omega
          rcases hij with rfl | rfl | rfl
          · refine ⟨sqL hl, .ref t0, rfl, ?_⟩
            walk_at "my_rd"
            exact ⟨by omega, rfl, _, rfl⟩
          · refine ⟨sqL hl, .ref t1, rfl, ?_⟩
            walk_at "my_rd"
            exact ⟨by omega, rfl, _, rfl⟩
          · refine ⟨sqL hl, .ref t2, rfl, ?_⟩
            walk_at "my_rd"
            have h1 : ¬ (n < 0 ∨ (R.length : Int) ≤ n) := by omega
            have h2n : ¬ n ∈ gone := by rw [hnm]; exact h2
            have hr1 : R[n.toNat]? = some r := by rw [hnm, Int.toNat_natCast]; exact hr0
            have e : dueE S R gone kd row n sec h = (.txt "early", R, gone) := by unfold dueE; rw [if_neg hk, if_neg h1, if_neg h2n, hr1]; show (if kd = 1 then _ else _) = _; rw [if_pos hk1, if_pos h3]
            rw [e] at k
            exact k _ _ rfl (hE.same sm) (Kq.same sm)
        · walk_at "my_rd"
          refine q_isE T.hq_NotEnoughWeight_UnknownTransfer ?_
          walk_at "my_rd"
          refine q_tupK (Nat.le_of_ble_eq_true rfl) fun t0 nt0 => ?_
          walk_at "my_rd"
          refine q_isE T.hq_NotEnoughWeight_AlreadyTaken ?_
          walk_at "my_rd"
          refine q_tupK (Nat.le_of_ble_eq_true rfl) fun t1 nt1 => ?_
          walk_at "my_rd"
          refine q_isE T.hq_NotEnoughWeight_TooEarly ?_
          walk_at "my_rd"
          refine q_tupK (Nat.le_of_ble_eq_true rfl) fun t2 nt2 => ?_
          walk_at "my_rd"
          refine q_isE T.hi_NotEnoughWeight ?_
          walk_at "my_rd"
          refine q_tupK (Nat.le_of_ble_eq_true rfl) fun t3 nt3 => ?_
          walk_at "my_rd"
          refine q_isE T.hq_NotEnoughWeight_InvalidArgument ?_
          walk_at "my_rd"
          refine q_tupK (Nat.le_of_ble_eq_true rfl) fun t4 nt4 => ?_
          walk_at "my_rd"
          refine q_lstK (Nat.le_of_ble_eq_true rfl) fun l nl => ?_
          have hl : (upd (upd (upd (upd (upd (upd (H) t0 (.tup [.str "unknown", .bl false])) t1 (.tup [.str "taken", .bl false])) t2 (.tup [.str "early", .bl false])) t3 (.tup [.str "weight", .bl true])) t4 (.tup [.str "argument", .bl false])) l (.lst [.ref t0, .ref t1, .ref t2, .ref t3, .ref t4])) l = some (.lst [.ref t0, .ref t1, .ref t2, .ref t3, .ref t4]) := upd_same
          have ht0 : (upd (upd (upd (upd (upd (upd (H) t0 (.tup [.str "unknown", .bl false])) t1 (.tup [.str "taken", .bl false])) t2 (.tup [.str "early", .bl false])) t3 (.tup [.str "weight", .bl true])) t4 (.tup [.str "argument", .bl false])) l (.lst [.ref t0, .ref t1, .ref t2, .ref t3, .ref t4])) t0 = some (.tup [.str "unknown", .bl false]) := upd_new nl (upd_new nt4 (upd_new nt3 (upd_new nt2 (upd_new nt1 (upd_same)))))
          have ht1 : (upd (upd (upd (upd (upd (upd (H) t0 (.tup [.str "unknown", .bl false])) t1 (.tup [.str "taken", .bl false])) t2 (.tup [.str "early", .bl false])) t3 (.tup [.str "weight", .bl true])) t4 (.tup [.str "argument", .bl false])) l (.lst [.ref t0, .ref t1, .ref t2, .ref t3, .ref t4])) t1 = some (.tup [.str "taken", .bl false]) := upd_new nl (upd_new nt4 (upd_new nt3 (upd_new nt2 (upd_same))))
          have ht2 : (upd (upd (upd (upd (upd (upd (H) t0 (.tup [.str "unknown", .bl false])) t1 (.tup [.str "taken", .bl false])) t2 (.tup [.str "early", .bl false])) t3 (.tup [.str "weight", .bl true])) t4 (.tup [.str "argument", .bl false])) l (.lst [.ref t0, .ref t1, .ref t2, .ref t3, .ref t4])) t2 = some (.tup [.str "early", .bl false]) := upd_new nl (upd_new nt4 (upd_new nt3 (upd_same)))
          have ht3 : (upd (upd (upd (upd (upd (upd (H) t0 (.tup [.str "unknown", .bl false])) t1 (.tup [.str "taken", .bl false])) t2 (.tup [.str "early", .bl false])) t3 (.tup [.str "weight", .bl true])) t4 (.tup [.str "argument", .bl false])) l (.lst [.ref t0, .ref t1, .ref t2, .ref t3, .ref t4])) t3 = some (.tup [.str "weight", .bl true]) := upd_new nl (upd_new nt4 (upd_same))
          have ht4 : (upd (upd (upd (upd (upd (upd (H) t0 (.tup [.str "unknown", .bl false])) t1 (.tup [.str "taken", .bl false])) t2 (.tup [.str "early", .bl false])) t3 (.tup [.str "weight", .bl true])) t4 (.tup [.str "argument", .bl false])) l (.lst [.ref t0, .ref t1, .ref t2, .ref t3, .ref t4])) t4 = some (.tup [.str "argument", .bl false]) := upd_new nl (upd_same)
          have sm : Same H (upd (upd (upd (upd (upd (upd (H) t0 (.tup [.str "unknown", .bl false])) t1 (.tup [.str "taken", .bl false])) t2 (.tup [.str "early", .bl false])) t3 (.tup [.str "weight", .bl true])) t4 (.tup [.str "argument", .bl false])) l (.lst [.ref t0, .ref t1, .ref t2, .ref t3, .ref t4])) := Same.up (Same.up (Same.up (Same.up (Same.up (Same.up (Same.refl _) nt0) nt1) nt2) nt3) nt4) nl
          generalize upd (upd (upd (upd (upd (upd (H) t0 (.tup [.str "unknown", .bl false])) t1 (.tup [.str "taken", .bl false])) t2 (.tup [.str "early", .bl false])) t3 (.tup [.str "weight", .bl true])) t4 (.tup [.str "argument", .bl false])) l (.lst [.ref t0, .ref t1, .ref t2, .ref t3, .ref t4]) = H6 at hl ht0 ht1 ht2 ht3 ht4 sm
          walk_at "my_rd"
          refine ⟨l, _, fun i σ H' => i ≤ 3 ∧ H' = H6 ∧ ∃ v, σ = [some (.ref b), some (.int kd), some (.ref rt), some (.int n), some (.str sec), some (.int h), some (.ref a), v], rfl, sqL hl, ⟨Nat.zero_le _, rfl, _, rfl⟩, ?_⟩
          rintro i σ H' ⟨hij, rfl, v, rfl⟩
          have hij : i = 0 ∨ i = 1 ∨ i = 2 ∨ i = 3 := by omega
          rcases hij with rfl | rfl | rfl | rfl
          · refine ⟨sqL hl, .ref t0, rfl, ?_⟩
            walk_at "my_rd"
            exact ⟨by omega, rfl, _, rfl⟩
          · refine ⟨sqL hl, .ref t1, rfl, ?_⟩
            walk_at "my_rd"
            exact ⟨by omega, rfl, _, rfl⟩
          · refine ⟨sqL hl, .ref t2, rfl, ?_⟩
            walk_at "my_rd"
            exact ⟨by omega, rfl, _, rfl⟩
          · refine ⟨sqL hl, .ref t3, rfl, ?_⟩
            walk_at "my_rd"
            have h1 : ¬ (n < 0 ∨ (R.length : Int) ≤ n) := by omega
            have h2n : ¬ n ∈ gone := by rw [hnm]; exact h2
            have hr1 : R[n.toNat]? = some r := by rw [hnm, Int.toNat_natCast]; exact hr0
            have e : dueE S R gone kd row n sec h = (.txt "weight", R, gone) := by unfold dueE; rw [if_neg hk, if_neg h1, if_neg h2n, hr1]; show (if kd = 1 then _ else _) = _; rw [if_pos hk1, if_neg h3, if_neg h4]
            rw [e] at k
            exact k _ _ rfl (hE.same sm) (Kq.same sm)
        · walk_at "my_rd"
          subst hnm
          have h1 : ¬ ((m : Int) < 0 ∨ (R.length : Int) ≤ (m : Int)) := by omega
          have e : dueE S R gone kd row m sec h = (.pr r.rcv r.amt, R, gone ++ [(m : Int)]) := by unfold dueE; rw [if_neg hk, if_neg h1, if_neg h2, Int.toNat_natCast, hr0]; show (if kd = 1 then _ else _) = _; rw [if_pos hk1, if_neg h3, if_pos h4]
          rw [e] at k
          exact k _ _ ⟨c, rfl, hc⟩ hE1 kq1
      · have hk1 := dec_f hk1
        walk_at "my_rd"
        refine q_methA ?_
        walk_at "my_rd"
        refine q_methAK ho (lk3 (by decide +kernel) (by decide +kernel) (by decide +kernel)) ?_
        walk_at "my_rd"
        refine ⟨b, kk, rl, ld, R, gone, n, h, rfl, hE, fun h1 => ⟨true, T.ex_UnknownTransfer, fun _ a ha => .inl ⟨⟨rfl, rfl⟩, ?_⟩, fun q => nomatch q⟩, fun h1 h2 => ⟨true, T.ex_AlreadyTaken, fun _ a ha => .inr (.inl ⟨⟨rfl, rfl⟩, ?_⟩), fun q => nomatch q⟩, fun m r hnm hm h2 hr0 h3 => ⟨true, T.ex_TooEarly, fun _ a ha => .inr (.inr (.inl ⟨⟨rfl, rfl⟩, ?_⟩)), fun q => nomatch q⟩, fun m r hnm hm h2 hr0 h3 c H1 hc hE1 kq1 => ?_⟩
        · walk_at "my_rd"
          refine q_isE T.hi_UnknownTransfer ?_
          walk_at "my_rd"
          refine q_tupK (Nat.le_of_ble_eq_true rfl) fun t0 nt0 => ?_
          walk_at "my_rd"
          refine q_isE T.hq_UnknownTransfer_AlreadyTaken ?_
          walk_at "my_rd"
          refine q_tupK (Nat.le_of_ble_eq_true rfl) fun t1 nt1 => ?_
          walk_at "my_rd"
          refine q_isE T.hq_UnknownTransfer_TooEarly ?_
          walk_at "my_rd"
          refine q_tupK (Nat.le_of_ble_eq_true rfl) fun t2 nt2 => ?_
          walk_at "my_rd"
          refine q_isE T.hq_UnknownTransfer_NotEnoughWeight ?_
          walk_at "my_rd"
          refine q_tupK (Nat.le_of_ble_eq_true rfl) fun t3 nt3 => ?_
          walk_at "my_rd"
          refine q_isE T.hq_UnknownTransfer_InvalidArgument ?_
          walk_at "my_rd"
          refine q_tupK (Nat.le_of_ble_eq_true rfl) fun t4 nt4 => ?_
          walk_at "my_rd"
          refine q_lstK (Nat.le_of_ble_eq_true rfl) fun l nl => ?_
          have hl : (upd (upd (upd (upd (upd (upd (H) t0 (.tup [.str "unknown", .bl true])) t1 (.tup [.str "taken", .bl false])) t2 (.tup [.str "early", .bl false])) t3 (.tup [.str "weight", .bl false])) t4 (.tup [.str "argument", .bl false])) l (.lst [.ref t0, .ref t1, .ref t2, .ref t3, .ref t4])) l = some (.lst [.ref t0, .ref t1, .ref t2, .ref t3, .ref t4]) := upd_same
          have ht0 : (upd (upd (upd (upd (upd (upd (H) t0 (.tup [.str "unknown", .bl true])) t1 (.tup [.str "taken", .bl false])) t2 (.tup [.str "early", .bl false])) t3 (.tup [.str "weight", .bl false])) t4 (.tup [.str "argument", .bl false])) l (.lst [.ref t0, .ref t1, .ref t2, .ref t3, .ref t4])) t0 = some (.tup [.str "unknown", .bl true]) := upd_new nl (upd_new nt4 (upd_new nt3 (upd_new nt2 (upd_new nt1 (upd_same)))))
          have ht1 : (upd (upd (upd (upd (upd (upd (H) t0 (.tup [.str "unknown", .bl true])) t1 (.tup [.str "taken", .bl false])) t2 (.tup [.str "early", .bl false])) t3 (.tup [.str "weight", .bl false])) t4 (.tup [.str "argument", .bl false])) l (.lst [.ref t0, .ref t1, .ref t2, .ref t3, .ref t4])) t1 = some (.tup [.str "taken", .bl false]) := upd_new nl (upd_new nt4 (upd_new nt3 (upd_new nt2 (upd_same))))
          have ht2 : (upd (upd (upd (upd (upd (upd (H) t0 (.tup [.str "unknown", .bl true])) t1 (.tup [.str "taken", .bl false])) t2 (.tup [.str "early", .bl false])) t3 (.tup [.str "weight", .bl false])) t4 (.tup [.str "argument", .bl false])) l (.lst [.ref t0, .ref t1, .ref t2, .ref t3, .ref t4])) t2 = some (.tup [.str "early", .bl false]) := upd_new nl (upd_new nt4 (upd_new nt3 (upd_same)))
          have ht3 : (upd (upd (upd (upd (upd (upd (H) t0 (.tup [.str "unknown", .bl true])) t1 (.tup [.str "taken", .bl false])) t2 (.tup [.str "early", .bl false])) t3 (.tup [.str "weight", .bl false])) t4 (.tup [.str "argument", .bl false])) l (.lst [.ref t0, .ref t1, .ref t2, .ref t3, .ref t4])) t3 = some (.tup [.str "weight", .bl false]) := upd_new nl (upd_new nt4 (upd_same))
          have ht4 : (upd (upd (upd (upd (upd (upd (H) t0 (.tup [.str "unknown", .bl true])) t1 (.tup [.str "taken", .bl false])) t2 (.tup [.str "early", .bl false])) t3 (.tup [.str "weight", .bl false])) t4 (.tup [.str "argument", .bl false])) l (.lst [.ref t0, .ref t1, .ref t2, .ref t3, .ref t4])) t4 = some (.tup [.str "argument", .bl false]) := upd_new nl (upd_same)
          have sm : Same H (upd (upd (upd (upd (upd (upd (H) t0 (.tup [.str "unknown", .bl true])) t1 (.tup [.str "taken", .bl false])) t2 (.tup [.str "early", .bl false])) t3 (.tup [.str "weight", .bl false])) t4 (.tup [.str "argument", .bl false])) l (.lst [.ref t0, .ref t1, .ref t2, .ref t3, .ref t4])) := Same.up (Same.up (Same.up (Same.up (Same.up (Same.up (Same.refl _) nt0) nt1) nt2) nt3) nt4) nl
          generalize upd (upd (upd (upd (upd (upd (H) t0 (.tup [.str "unknown", .bl true])) t1 (.tup [.str "taken", .bl false])) t2 (.tup [.str "early", .bl false])) t3 (.tup [.str "weight", .bl false])) t4 (.tup [.str "argument", .bl false])) l (.lst [.ref t0, .ref t1, .ref t2, .ref t3, .ref t4]) = H6 at hl ht0 ht1 ht2 ht3 ht4 sm
          walk_at "my_rd"
          refine ⟨l, _, fun i σ H' => i ≤ 0 ∧ H' = H6 ∧ ∃ v, σ = [some (.ref b), some (.int kd), some (.ref rt), some (.int n), some (.str sec), some (.int h), some (.ref a), v], rfl, sqL hl, ⟨Nat.zero_le _, rfl, _, rfl⟩, ?_⟩
          rintro i σ H' ⟨hij, rfl, v, rfl⟩
          have hij : i = 0 := by omega
          rcases hij with rfl
          · refine ⟨sqL hl, .ref t0, rfl, ?_⟩
            walk_at "my_rd"
            have e : dueE S R gone kd row n sec h = (.txt "unknown", R, gone) := by unfold dueE; rw [if_neg hk, if_pos h1]
            rw [e] at k
            exact k _ _ rfl (hE.same sm) (Kq.same sm)
        · walk_at "my_rd"
          refine q_isE T.hq_AlreadyTaken_UnknownTransfer ?_
          walk_at "my_rd"
          refine q_tupK (Nat.le_of_ble_eq_true rfl) fun t0 nt0 => ?_
          walk_at "my_rd"
          refine q_isE T.hi_AlreadyTaken ?_
          walk_at "my_rd"
          refine q_tupK (Nat.le_of_ble_eq_true rfl) fun t1 nt1 => ?_
          walk_at "my_rd"
          refine q_isE T.hq_AlreadyTaken_TooEarly ?_
          walk_at "my_rd"
          refine q_tupK (Nat.le_of_ble_eq_true rfl) fun t2 nt2 => ?_
          walk_at "my_rd"
          refine q_isE T.hq_AlreadyTaken_NotEnoughWeight ?_
          walk_at "my_rd"
          refine q_tupK (Nat.le_of_ble_eq_true rfl) fun t3 nt3 => ?_
          walk_at "my_rd"
          refine q_isE T.hq_AlreadyTaken_InvalidArgument ?_
          walk_at "my_rd"
          refine q_tupK (Nat.le_of_ble_eq_true rfl) fun t4 nt4 => ?_
          walk_at "my_rd"
          refine q_lstK (Nat.le_of_ble_eq_true rfl) fun l nl => ?_
          have hl : (upd (upd (upd (upd (upd (upd (H) t0 (.tup [.str "unknown", .bl false])) t1 (.tup [.str "taken", .bl true])) t2 (.tup [.str "early", .bl false])) t3 (.tup [.str "weight", .bl false])) t4 (.tup [.str "argument", .bl false])) l (.lst [.ref t0, .ref t1, .ref t2, .ref t3, .ref t4])) l = some (.lst [.ref t0, .ref t1, .ref t2, .ref t3, .ref t4]) := upd_same
          have ht0 : (upd (upd (upd (upd (upd (upd (H) t0 (.tup [.str "unknown", .bl false])) t1 (.tup [.str "taken", .bl true])) t2 (.tup [.str "early", .bl false])) t3 (.tup [.str "weight", .bl false])) t4 (.tup [.str "argument", .bl false])) l (.lst [.ref t0, .ref t1, .ref t2, .ref t3, .ref t4])) t0 = some (.tup [.str "unknown", .bl false]) := upd_new nl (upd_new nt4 (upd_new nt3 (upd_new nt2 (upd_new nt1 (upd_same)))))
          have ht1 : (upd (upd (upd (upd (upd (upd (H) t0 (.tup [.str "unknown", .bl false])) t1 (.tup [.str "taken", .bl true])) t2 (.tup [.str "early", .bl false])) t3 (.tup [.str "weight", .bl false])) t4 (.tup [.str "argument", .bl false])) l (.lst [.ref t0, .ref t1, .ref t2, .ref t3, .ref t4])) t1 = some (.tup [.str "taken", .bl true]) := upd_new nl (upd_new nt4 (upd_new nt3 (upd_new nt2 (upd_same))))
          have ht2 : (upd (upd (upd (upd (upd (upd (H) t0 (.tup [.str "unknown", .bl false])) t1 (.tup [.str "taken", .bl true])) t2 (.tup [.str "early", .bl false])) t3 (.tup [.str "weight", .bl false])) t4 (.tup [.str "argument", .bl false])) l (.lst [.ref t0, .ref t1, .ref t2, .ref t3, .ref t4])) t2 = some (.tup [.str "early", .bl false]) := upd_new nl (upd_new nt4 (upd_new nt3 (upd_same)))
          have ht3 : (upd (upd (upd (upd (upd (upd (H) t0 (.tup [.str "unknown", .bl false])) t1 (.tup [.str "taken", .bl true])) t2 (.tup [.str "early", .bl false])) t3 (.tup [.str "weight", .bl false])) t4 (.tup [.str "argument", .bl false])) l (.lst [.ref t0, .ref t1, .ref t2, .ref t3, .ref t4])) t3 = some (.tup [.str "weight", .bl false]) := upd_new nl (upd_new nt4 (upd_same))
          have ht4 : (upd (upd (upd (upd (upd (upd (H) t0 (.tup [.str "unknown", .bl false])) t1 (.tup [.str "taken", .bl true])) t2 (.tup [.str "early", .bl false])) t3 (.tup [.str "weight", .bl false])) t4 (.tup [.str "argument", .bl false])) l (.lst [.ref t0, .ref t1, .ref t2, .ref t3, .ref t4])) t4 = some (.tup [.str "argument", .bl false]) := upd_new nl (upd_same)
          have sm : Same H (upd (upd (upd (upd (upd (upd (H) t0 (.tup [.str "unknown", .bl false])) t1 (.tup [.str "taken", .bl true])) t2 (.tup [.str "early", .bl false])) t3 (.tup [.str "weight", .bl false])) t4 (.tup [.str "argument", .bl false])) l (.lst [.ref t0, .ref t1, .ref t2, .ref t3, .ref t4])) := Same.up (Same.up (Same.up (Same.up (Same.up (Same.up (Same.refl _) nt0) nt1) nt2) nt3) nt4) nl
          generalize upd (upd (upd (upd (upd (upd (H) t0 (.tup [.str "unknown", .bl false])) t1 (.tup [.str "taken", .bl true])) t2 (.tup [.str "early", .bl false])) t3 (.tup [.str "weight", .bl false])) t4 (.tup [.str "argument", .bl false])) l (.lst [.ref t0, .ref t1, .ref t2, .ref t3, .ref t4]) = H6 at hl ht0 ht1 ht2 ht3 ht4 sm
          walk_at "my_rd"
          refine ⟨l, _, fun i σ H' => i ≤ 1 ∧ H' = H6 ∧ ∃ v, σ = [some (.ref b), some (.int kd), some (.ref rt), some (.int n), some (.str sec), some (.int h), some (.ref a), v], rfl, sqL hl, ⟨Nat.zero_le _, rfl, _, rfl⟩, ?_⟩
          rintro i σ H' ⟨hij, rfl, v, rfl⟩
          have hij : i = 0 ∨ i = 1 := by omega
          rcases hij with rfl | rfl
          · refine ⟨sqL hl, .ref t0, rfl, ?_⟩
            walk_at "my_rd"
            exact ⟨by omega, rfl, _, rfl⟩
          · refine ⟨sqL hl, .ref t1, rfl, ?_⟩
            walk_at "my_rd"
            have e : dueE S R gone kd row n sec h = (.txt "taken", R, gone) := by unfold dueE; rw [if_neg hk, if_neg h1, if_pos h2]
            rw [e] at k
            exact k _ _ rfl (hE.same sm) (Kq.same sm)
        · walk_at "my_rd"
          refine q_isE T.hq_TooEarly_UnknownTransfer ?_
          walk_at "my_rd"
          refine q_tupK (Nat.le_of_ble_eq_true rfl) fun t0 nt0 => ?_
          walk_at "my_rd"
          refine q_isE T.hq_TooEarly_AlreadyTaken ?_
          walk_at "my_rd"
          refine q_tupK (Nat.le_of_ble_eq_true rfl) fun t1 nt1 => ?_
          walk_at "my_rd"
          refine q_isE T.hi_TooEarly ?_
          walk_at "my_rd"
          refine q_tupK (Nat.le_of_ble_eq_true rfl) fun t2 nt2 => ?_
          walk_at "my_rd"
          refine q_isE T.hq_TooEarly_NotEnoughWeight ?_
          walk_at "my_rd"
          refine q_tupK (Nat.le_of_ble_eq_true rfl) fun t3 nt3 => ?_
          walk_at "my_rd"
          refine q_isE T.hq_TooEarly_InvalidArgument ?_
          walk_at "my_rd"
          refine q_tupK (Nat.le_of_ble_eq_true rfl) fun t4 nt4 => ?_
          walk_at "my_rd"
          refine q_lstK (Nat.le_of_ble_eq_true rfl) fun l nl => ?_
          have hl : (upd (upd (upd (upd (upd (upd (H) t0 (.tup [.str "unknown", .bl false])) t1 (.tup [.str "taken", .bl false])) t2 (.tup [.str "early", .bl true])) t3 (.tup [.str "weight", .bl false])) t4 (.tup [.str "argument", .bl false])) l (.lst [.ref t0, .ref t1, .ref t2, .ref t3, .ref t4])) l = some (.lst [.ref t0, .ref t1, .ref t2, .ref t3, .ref t4]) := upd_same
          have ht0 : (upd (upd (upd (upd (upd (upd (H) t0 (.tup [.str "unknown", .bl false])) t1 (.tup [.str "taken", .bl false])) t2 (.tup [.str "early", .bl true])) t3 (.tup [.str "weight", .bl false])) t4 (.tup [.str "argument", .bl false])) l (.lst [.ref t0, .ref t1, .ref t2, .ref t3, .ref t4])) t0 = some (.tup [.str "unknown", .bl false]) := upd_new nl (upd_new nt4 (upd_new nt3 (upd_new nt2 (upd_new nt1 (upd_same)))))
          have ht1 : (upd (upd (upd (upd (upd (upd (H) t0 (.tup [.str "unknown", .bl false])) t1 (.tup [.str "taken", .bl false])) t2 (.tup [.str "early", .bl true])) t3 (.tup [.str "weight", .bl false])) t4 (.tup [.str "argument", .bl false])) l (.lst [.ref t0, .ref t1, .ref t2, .ref t3, .ref t4])) t1 = some (.tup [.str "taken", .bl false]) := upd_new nl (upd_new nt4 (upd_new nt3 (upd_new nt2 (upd_same))))
          have ht2 : (upd (upd (upd (upd (upd (upd (H) t0 (.tup [.str "unknown", .bl false])) t1 (.tup [.str "taken", .bl false])) t2 (.tup [.str "early", .bl true])) t3 (.tup [.str "weight", .bl false])) t4 (.tup [.str "argument", .bl false])) l (.lst [.ref t0, .ref t1, .ref t2, .ref t3, .ref t4])) t2 = some (.tup [.str "early", .bl true]) := upd_new nl (upd_new nt4 (upd_new nt3 (upd_same)))
          have ht3 : (upd (upd (upd (upd (upd (upd (H) t0 (.tup [.str "unknown", .bl false])) t1 (.tup [.str "taken", .bl false])) t2 (.tup [.str "early", .bl true])) t3 (.tup [.str "weight", .bl false])) t4 (.tup [.str "argument", .bl false])) l (.lst [.ref t0, .ref t1, .ref t2, .ref t3, .ref t4])) t3 = some (.tup [.str "weight", .bl false]) := upd_new nl (upd_new nt4 (upd_same))
          have ht4 : (upd (upd (upd (upd (upd (upd (H) t0 (.tup [.str "unknown", .bl false])) t1 (.tup [.str "taken", .bl false])) t2 (.tup [.str "early", .bl true])) t3 (.tup [.str "weight", .bl false])) t4 (.tup [.str "argument", .bl false])) l (.lst [.ref t0, .ref t1, .ref t2, .ref t3, .ref t4])) t4 = some (.tup [.str "argument", .bl false]) := upd_new nl (upd_same)
          have sm : Same H (upd (upd (upd (upd (upd (upd (H) t0 (.tup [.str "unknown", .bl false])) t1 (.tup [.str "taken", .bl false])) t2 (.tup [.str "early", .bl true])) t3 (.tup [.str "weight", .bl false])) t4 (.tup [.str "argument", .bl false])) l (.lst [.ref t0, .ref t1, .ref t2, .ref t3, .ref t4])) := Same.up (Same.up (Same.up (Same.up (Same.up (Same.up (Same.refl _) nt0) nt1) nt2) nt3) nt4) nl
          generalize upd (upd (upd (upd (upd (upd (H) t0 (.tup [.str "unknown", .bl false])) t1 (.tup [.str "taken", .bl false])) t2 (.tup [.str "early", .bl true])) t3 (.tup [.str "weight", .bl false])) t4 (.tup [.str "argument", .bl false])) l (.lst [.ref t0, .ref t1, .ref t2, .ref t3, .ref t4]) = H6 at hl ht0 ht1 ht2 ht3 ht4 sm
          walk_at "my_rd"
          refine ⟨l, _, fun i σ H' => i ≤ 2 ∧ H' = H6 ∧ ∃ v, σ = [some (.ref b), some (.int kd), some (.ref rt), some (.int n), some (.str sec), some (.int h), some (.ref a), v], rfl, sqL hl, ⟨Nat.zero_le _, rfl, _, rfl⟩, ?_⟩
          rintro i σ H' ⟨hij, rfl, v, rfl⟩
          have hij : i = 0 ∨ i = 1 ∨ i = 2 := by omega
          rcases hij with rfl | rfl | rfl
          · refine ⟨sqL hl, .ref t0, rfl, ?_⟩
            walk_at "my_rd"
            exact ⟨by omega, rfl, _, rfl⟩
          · refine ⟨sqL hl, .ref t1, rfl, ?_⟩
            walk_at "my_rd"
            exact ⟨by omega, rfl, _, rfl⟩
          · refine ⟨sqL hl, .ref t2, rfl, ?_⟩
            walk_at "my_rd"
            have h1 : ¬ (n < 0 ∨ (R.length : Int) ≤ n) := by omega
            have h2n : ¬ n ∈ gone := by rw [hnm]; exact h2
            have hr1 : R[n.toNat]? = some r := by rw [hnm, Int.toNat_natCast]; exact hr0
            have e : dueE S R gone kd row n sec h = (.txt "early", R, gone) := by unfold dueE; rw [if_neg hk, if_neg h1, if_neg h2n, hr1]; show (if kd = 1 then _ else _) = _; rw [if_neg hk1, if_pos h3]
            rw [e] at k
            exact k _ _ rfl (hE.same sm) (Kq.same sm)
        · walk_at "my_rd"
          subst hnm
          have h1 : ¬ ((m : Int) < 0 ∨ (R.length : Int) ≤ (m : Int)) := by omega
          have e : dueE S R gone kd row m sec h = (.pr r.own r.amt, R, gone ++ [(m : Int)]) := by unfold dueE; rw [if_neg hk, if_neg h1, if_neg h2, Int.toNat_natCast, hr0]; show (if kd = 1 then _ else _) = _; rw [if_neg hk1, if_neg h3]
          rw [e] at k
          exact k _ _ ⟨c, rfl, hc⟩ hE1 kq1
end

local macro_rules | `(tactic| walk_at "my_rd") => `(tactic| (repeat first
  | with_reducible refine q_tCons ?_
  | ((with_reducible apply q_var); (focus (exact rfl)))
  | with_reducible refine q_c ?_
  | with_reducible refine q_nx ?_
  | with_reducible refine q_bK ?_
  | with_reducible refine q_call ?_
  | with_reducible refine q_callK ?_
  | with_reducible refine q_tNil ?_
  | with_reducible refine q_cb ?_
  | with_reducible refine q_seq ?_
  | with_reducible refine q_asg ?_
  | with_reducible refine q_gName ?_
  | with_reducible refine q_op ?_
  | with_reducible refine q_test ?_
  | with_reducible refine q_tB ?_
  | with_reducible refine q_ifS ?_
  | with_reducible refine q_ret ?_
  | with_reducible refine q_rt ?_
  | with_reducible refine q_next ?_
  | with_reducible refine q_ifF ?_
  | with_reducible refine q_ifT ?_
  | with_reducible refine q_drop ?_
  | with_reducible refine q_and ?_
  | with_reducible refine q_or ?_
  | with_reducible refine q_andT ?_
  | with_reducible refine q_andF ?_
  | with_reducible refine q_orF ?_
  | with_reducible refine q_orT ?_
  | with_reducible refine q_andV ?_
  | with_reducible refine q_andVT ?_
  | with_reducible refine q_andVF ?_
  | with_reducible refine q_orV ?_
  | with_reducible refine q_gCons ?_
  | with_reducible refine q_gNil ?_
  | with_reducible refine q_tup ?_
  | with_reducible refine q_lst ?_
  | with_reducible refine q_not ?_
  | with_reducible refine q_notKT ?_
  | with_reducible refine q_notKF ?_
  | with_reducible refine q_I0 ?_
  | with_reducible refine q_eqI ?_
  | with_reducible refine q_neI ?_
  | ((with_reducible refine q_I ?_ ?_); first | decide | omega | exact ⟨by omega, by omega⟩ | exact ⟨by decide, by decide⟩ | exact .inl ⟨by omega, by omega⟩ | exact .inr ⟨by omega, by omega⟩ | exact .inr ⟨by decide, by decide⟩)
  | with_reducible refine q_eqS ?_
  | with_reducible refine q_neS ?_
  | with_reducible refine q_brk ?_
  | with_reducible refine q_ct ?_
  | with_reducible refine q_bk ?_
  | with_reducible refine q_cn ?_
  | with_reducible refine q_retN ?_
  | with_reducible refine q_gSub ?_
  | with_reducible refine q_for ?_
  | with_reducible refine q_iList ?_
  | with_reducible refine q_iTup ?_
  | with_reducible refine q_iRng1 ?_
  | with_reducible refine q_notK ?_
  | with_reducible refine q_orVT ?_
  | with_reducible refine q_orVF ?_
  | with_reducible refine q_notV ?_
  | with_reducible refine q_notVK ?_
  | with_reducible refine q_ifE ?_
  | with_reducible refine q_ifET ?_
  | with_reducible refine q_ifEF ?_
  | with_reducible refine q_yes ?_
  | with_reducible refine q_un ?_
  | with_reducible refine q_rU ?_
  | with_reducible refine q_abs ?_
  | with_reducible refine q_int1 ?_
  | with_reducible refine q_bm ?_
  | with_reducible refine q_bm0 ?_
  | with_reducible refine q_lc ?_
  | with_reducible refine q_keepT ?_
  | with_reducible refine q_keepF ?_
  | ((with_reducible apply q_aug); (focus (exact rfl)))
  | with_reducible refine q_ipI ?_
  | with_reducible refine q_chain ?_
  | with_reducible refine q_pairC ?_
  | with_reducible refine q_pairsK ?_
  | with_reducible refine q_pairN ?_
  | with_reducible refine q_fld ?_
  | with_reducible refine q_sFld ?_
  | with_reducible refine q_meth ?_
  | with_reducible refine q_makeK ?_
  | with_reducible refine q_isBl ?_
  | with_reducible refine q_notBl ?_
  | with_reducible refine q_sl ?_
  | with_reducible refine q_noPart ?_
  | with_reducible refine q_part ?_
  | with_reducible refine q_partK ?_
  | ((with_reducible apply q_mulStr); (focus (decide +kernel)))
  | with_reducible refine q_chT ?_
  | with_reducible refine q_chF ?_
  | with_reducible refine q_ord ?_
  | with_reducible refine q_iStr0 ?_
  | with_reducible refine q_iStr ?_
  | with_reducible refine q_tDIn ?_
  | with_reducible refine q_tDNotIn ?_
  | with_reducible refine q_tDGet ?_
  | with_reducible refine q_tDGet2 ?_
  | with_reducible refine q_tDGet1 ?_
  | with_reducible refine q_tDSetd ?_
  | ((with_reducible apply q_dG2a); (focus ((repeat first | (with_reducible exact upd_same) | (with_reducible assumption) | (with_reducible apply upd_new (by assumption)) | (with_reducible apply upd_other (by first | assumption | exact Ne.symm (by assumption))) | (with_reducible refine' Kp.get (by assumption) ?_ (by first | assumption | exact Ne.symm (by assumption))) | (with_reducible apply Same.get (by assumption))); done)))
  | ((with_reducible apply q_dSda); (focus ((repeat first | (with_reducible exact upd_same) | (with_reducible assumption) | (with_reducible apply upd_new (by assumption)) | (with_reducible apply upd_other (by first | assumption | exact Ne.symm (by assumption))) | (with_reducible refine' Kp.get (by assumption) ?_ (by first | assumption | exact Ne.symm (by assumption))) | (with_reducible apply Same.get (by assumption))); done)))
  | with_reducible refine q_sDPut ?_
  | ((with_reducible apply q_dInS); (focus ((repeat first | (with_reducible exact upd_same) | (with_reducible assumption) | (with_reducible apply upd_new (by assumption)) | (with_reducible apply upd_other (by first | assumption | exact Ne.symm (by assumption))) | (with_reducible refine' Kp.get (by assumption) ?_ (by first | assumption | exact Ne.symm (by assumption))) | (with_reducible apply Same.get (by assumption))); done)))
  | ((with_reducible apply q_dNInS); (focus ((repeat first | (with_reducible exact upd_same) | (with_reducible assumption) | (with_reducible apply upd_new (by assumption)) | (with_reducible apply upd_other (by first | assumption | exact Ne.symm (by assumption))) | (with_reducible refine' Kp.get (by assumption) ?_ (by first | assumption | exact Ne.symm (by assumption))) | (with_reducible apply Same.get (by assumption))); done)))
  | ((with_reducible apply q_dInI); (focus ((repeat first | (with_reducible exact upd_same) | (with_reducible assumption) | (with_reducible apply upd_new (by assumption)) | (with_reducible apply upd_other (by first | assumption | exact Ne.symm (by assumption))) | (with_reducible refine' Kp.get (by assumption) ?_ (by first | assumption | exact Ne.symm (by assumption))) | (with_reducible apply Same.get (by assumption))); done)))
  | ((with_reducible apply q_dNInI); (focus ((repeat first | (with_reducible exact upd_same) | (with_reducible assumption) | (with_reducible apply upd_new (by assumption)) | (with_reducible apply upd_other (by first | assumption | exact Ne.symm (by assumption))) | (with_reducible refine' Kp.get (by assumption) ?_ (by first | assumption | exact Ne.symm (by assumption))) | (with_reducible apply Same.get (by assumption))); done)))
  | ((with_reducible apply q_bmL); (focus ((repeat first | (with_reducible exact upd_same) | (with_reducible assumption) | (with_reducible apply upd_new (by assumption)) | (with_reducible apply upd_other (by first | assumption | exact Ne.symm (by assumption))) | (with_reducible refine' Kp.get (by assumption) ?_ (by first | assumption | exact Ne.symm (by assumption))) | (with_reducible apply Same.get (by assumption))); done)))
  | ((with_reducible apply q_bmL0); (focus ((repeat first | (with_reducible exact upd_same) | (with_reducible assumption) | (with_reducible apply upd_new (by assumption)) | (with_reducible apply upd_other (by first | assumption | exact Ne.symm (by assumption))) | (with_reducible refine' Kp.get (by assumption) ?_ (by first | assumption | exact Ne.symm (by assumption))) | (with_reducible apply Same.get (by assumption))); done)))
  | ((with_reducible apply q_ixLt); (focus ((repeat first | (with_reducible exact upd_same) | (with_reducible assumption) | (with_reducible apply upd_new (by assumption)) | (with_reducible apply upd_other (by first | assumption | exact Ne.symm (by assumption))) | (with_reducible refine' Kp.get (by assumption) ?_ (by first | assumption | exact Ne.symm (by assumption))) | (with_reducible apply Same.get (by assumption))); done)); (focus (exact rfl)))
  | ((with_reducible apply q_ixTt); (focus ((repeat first | (with_reducible exact upd_same) | (with_reducible assumption) | (with_reducible apply upd_new (by assumption)) | (with_reducible apply upd_other (by first | assumption | exact Ne.symm (by assumption))) | (with_reducible refine' Kp.get (by assumption) ?_ (by first | assumption | exact Ne.symm (by assumption))) | (with_reducible apply Same.get (by assumption))); done)); (focus (exact rfl)))
  | ((with_reducible apply q_lenLt); (focus ((repeat first | (with_reducible exact upd_same) | (with_reducible assumption) | (with_reducible apply upd_new (by assumption)) | (with_reducible apply upd_other (by first | assumption | exact Ne.symm (by assumption))) | (with_reducible refine' Kp.get (by assumption) ?_ (by first | assumption | exact Ne.symm (by assumption))) | (with_reducible apply Same.get (by assumption))); done)))
  | ((with_reducible apply q_lenTt); (focus ((repeat first | (with_reducible exact upd_same) | (with_reducible assumption) | (with_reducible apply upd_new (by assumption)) | (with_reducible apply upd_other (by first | assumption | exact Ne.symm (by assumption))) | (with_reducible refine' Kp.get (by assumption) ?_ (by first | assumption | exact Ne.symm (by assumption))) | (with_reducible apply Same.get (by assumption))); done)))
  | ((with_reducible apply q_append); (focus ((repeat first | (with_reducible exact upd_same) | (with_reducible assumption) | (with_reducible apply upd_new (by assumption)) | (with_reducible apply upd_other (by first | assumption | exact Ne.symm (by assumption))) | (with_reducible refine' Kp.get (by assumption) ?_ (by first | assumption | exact Ne.symm (by assumption))) | (with_reducible apply Same.get (by assumption))); done)); (focus ((first | (exact Nat.lt_of_ble_eq_true rfl) | (simp only [List.length_append, List.length_cons, List.length_nil, List.length_map]; exact small1000 (by omega))))))
  | ((with_reducible apply q_setL); (focus ((repeat first | (with_reducible exact upd_same) | (with_reducible assumption) | (with_reducible apply upd_new (by assumption)) | (with_reducible apply upd_other (by first | assumption | exact Ne.symm (by assumption))) | (with_reducible refine' Kp.get (by assumption) ?_ (by first | assumption | exact Ne.symm (by assumption))) | (with_reducible apply Same.get (by assumption))); done)); (focus (exact rfl)))
  | with_reducible refine q_ifNT ?_
  | with_reducible refine q_ifNF ?_
  | with_reducible refine q_andNT ?_
  | with_reducible refine q_andNF ?_
  | with_reducible refine q_orNT ?_
  | with_reducible refine q_orNF ?_
  | with_reducible refine q_bKNT ?_
  | with_reducible refine q_bKNF ?_
  | with_reducible refine q_tNGet ?_
  | with_reducible refine q_tNIn ?_
  | with_reducible refine q_sNPut ?_
  | with_reducible refine q_sFldAug ?_
  | with_reducible refine q_sDAug ?_
  | with_reducible refine q_sDDel ?_
  | with_reducible refine q_forX ?_
  | with_reducible refine q_tMake ?_
  | ((with_reducible apply q_dG1a); (focus ((repeat first | (with_reducible exact upd_same) | (with_reducible assumption) | (with_reducible apply upd_new (by assumption)) | (with_reducible apply upd_other (by first | assumption | exact Ne.symm (by assumption))) | (with_reducible refine' Kp.get (by assumption) ?_ (by first | assumption | exact Ne.symm (by assumption))) | (with_reducible apply Same.get (by assumption))); done)))))
/-! the law's own tables -/
structure BookE (H : Hp) (rw_ gw : Addr) (R : List ERow) (gone : List Int) : Prop where
  r : ∃ xs, H rw_ = some (.lst xs) ∧ RowsAt ERow.v H xs R
  g : H gw = some (.lst (gone.map V.int))
theorem BookE.same {H H' : Hp} {a b : Addr} {R : List ERow} {gone : List Int} (h : BookE H a b R gone) (s : Same H H') : BookE H' a b R gone := by
  obtain ⟨xs, h1, h2⟩ := h.r
  exact ⟨⟨xs, s _ _ h1, h2.same s⟩, s _ _ h.g⟩
def sp_due : Sp := fun vs H Q _ => ∃ (a b c rt : Addr) (R : List ERow) (gone : List Int) (S : List Str) (kd : Int) (row : ERow) (n h : Int) (sec : Str), vs = [.ref a, .ref b, .ref c, .int kd, .ref rt, .int n, .str sec, .int h] ∧ H rt = some (.tup row.v) ∧
  BookE H a b R gone ∧ H c = some (.lst (S.map V.str)) ∧ R.length ≤ 900 ∧ gone.length ≤ 900 ∧ a ≠ b ∧ (0 ≤ kd ∧ kd ≤ 2) ∧
  ∀ H' v, OutAt H' v (dueE S R gone kd row n sec h).1 → BookE H' a b (dueE S R gone kd row n sec h).2.1 (dueE S R gone kd row n sec h).2.2 → Kq a b H H' → Q v H'
theorem inI {n : Int} {gone : List Int} : inV (.int n) (gone.map V.int) = decide (n ∈ gone) := by
  unfold inV
  rw [List.any_map]
  by_cases h : n ∈ gone
  · rw [decide_eq_true h, List.any_eq_true]
    exact ⟨n, h, by show (n == n) = true; exact beq_self_eq_true n⟩
  · rw [decide_eq_false h, List.any_eq_false]
    intro m hm q
    have : (m == n) = true := q
    exact h (by rw [← eq_of_beq this]; exact hm)
theorem inS {s : Str} {S : List Str} : inV (.str s) (S.map V.str) = decide (s ∈ S) := by
  unfold inV
  rw [List.any_map]
  by_cases h : s ∈ S
  · rw [decide_eq_true h, List.any_eq_true]
    exact ⟨s, h, by show (s == s) = true; exact beq_self_eq_true s⟩
  · rw [decide_eq_false h, List.any_eq_false]
    intro m hm q
    have : (m == s) = true := q
    exact h (by rw [← eq_of_beq this]; exact hm)
theorem flatI (gone : List Int) : (gone.map V.int).all flatV = true := by
  rw [List.all_map, List.all_eq_true]
  intro _ _; rfl
theorem flatS (S : List Str) : (S.map V.str).all flatV = true := by
  rw [List.all_map, List.all_eq_true]
  intro _ _; rfl
theorem q_indexS {K : PySem.W.Frag} {H : Hp} {Q : VK} {a : Addr} {S : List Str} {s : Str} {j : Nat} (h : H a = some (.lst (S.map V.str))) (hj : posOf S s = some j) (k : Q (.int (j : Nat)) H) : rIndex K (.ref a) [.str s] H Q := by
  obtain ⟨h1, h2⟩ := posOf_some hj
  refine q_index (z := .str s) (sqL h) rfl (flatS S) (by rw [List.getElem?_map, h1]; rfl) (by show (s == s) = true; exact beq_self_eq_true s) (fun m z' hm hz => ?_) k
  rw [List.getElem?_map] at hz
  obtain ⟨y, hy, e⟩ := Option.map_eq_some_iff.mp hz
  subst e
  show (y == s) = false
  exact beq_eq_false_iff_ne.mpr fun z => h2 m hm (by rw [hy, z])
section
variable {P : Program} {w : World} {K : PySem.W.Frag} {mg : Str → Option Value} {base : Heap}
theorem ok_L_due (T : Txt K mg) : FnOk P w K mg base CX0 1 T.f_L_due T.d_L_due ["rows", "gone", "secrets", "kind", "row", "number", "secret", "height"] sp_due := by
  refine T.F_L_due.ok sc_L_due (fun vs H Q E h => ?_) (fun cdv A outer s H vs Q E hr h => ?_)
  · obtain ⟨a, b, c, rt, R, gone, S, kd, row, n, h, sec, rfl, _⟩ := h; rfl
  · obtain ⟨a, b, c, rt, R, gone, S, kd, row, n, h, sec, rfl, hrow, hB, hS, hl1, hl2, hab, hkd, k⟩ := h
    obtain ⟨xs, hxs, hR⟩ := hB.r
    have hgw := hB.g
    unfold ERow.v at hrow
    refine ⟨_, (pss_cons (ps_if (pt_cmpR op_eq (pv 3) pe_int (nomark _)) (pss_cons (ps_if (pt_cmpR op_lt (pe_ix ix_tup (pv 4) pe_int (fun _ _ => rfl)) pe_int (nomark _)) (pss_one (ps_ret pe_str)) pss_nil)
      (pss_cons (ps_expr (pe_bm PySem.F.plainAttrs_list PySem.F.slot_list_append PySem.F.type_list_append mt_append (pv 0) (pa_cons (pv 4) pa_nil)))
      (pss_one (ps_ret (pe_op op_sub (pe_callB cq_len (by rfl) T.z_len boot_len (pa_cons (pv 0) pa_nil)) pe_int))))) pss_nil)
      (pss_cons (ps_if (PW.pt (pw_or (pt_cmpR op_lt (pv 5) pe_int (nomark _)) (pw_or1 (pt_cmpR op_ge (pv 5) (pe_callB cq_len (by rfl) T.z_len boot_len (pa_cons (pv 0) pa_nil)) (nomark _))))) (pss_one (ps_ret pe_str)) pss_nil)
      (pss_cons (ps_if (pt_cmpR op_in_seq (pv 5) (pv 1) (by rfl)) (pss_one (ps_ret pe_str)) pss_nil)
      (pss_cons (ps_asg (pe_ix ix_list (pv 0) (pv 5) (fun _ _ => rfl)) (pg_tup rfl (pgs_cons (pg_name (i := 8) sc_L_due.nd rfl (Or.inl rfl)) (pgs_cons (pg_name (i := 9) sc_L_due.nd rfl (Or.inl rfl)) (pgs_cons (pg_name (i := 10) sc_L_due.nd rfl (Or.inl rfl)) (pgs_cons (pg_name (i := 11) sc_L_due.nd rfl (Or.inl rfl)) (pgs_cons (pg_name (i := 12) sc_L_due.nd rfl (Or.inl rfl)) pgs_nil)))))))
      (pss_cons (ps_if (pt_cmpR op_eq (pe_cmpR op_eq (pv 3) pe_int (nomark _)) (pe_cmpR op_gt (pv 7) (pv 12) (nomark _)) (nomark _)) (pss_one (ps_ret pe_str)) pss_nil)
      (pss_cons (ps_if (pt_cmpR op_eq (pv 3) pe_int (nomark _)) (pss_cons (ps_if (PW.pt (pw_or (pt_cmpR op_notIn_seq (pv 6) (pv 2) (by rfl)) (pw_or1 (pt_cmpR op_ne (pe_bm PySem.F.plainAttrs_list PySem.F.slot_list_index PySem.F.type_list_index mt_index (pv 2) (pa_cons (pv 6) pa_nil)) (pv 11) (nomark _))))) (pss_one (ps_ret pe_str)) pss_nil)
      (pss_cons (ps_expr (pe_bm PySem.F.plainAttrs_list PySem.F.slot_list_append PySem.F.type_list_append mt_append (pv 1) (pa_cons (pv 5) pa_nil)))
      (pss_one (ps_ret (pe_tup (pa_cons (pv 9) (pa_cons (pv 10) pa_nil))))))) pss_nil)
      (pss_cons (ps_expr (pe_bm PySem.F.plainAttrs_list PySem.F.slot_list_append PySem.F.type_list_append mt_append (pv 1) (pa_cons (pv 5) pa_nil)))
      (pss_one (ps_ret (pe_tup (pa_cons (pv 8) (pa_cons (pv 10) pa_nil)))))))))))), ?_⟩
    (dsimp only [cxOf, Cx.nox, Cx.wish, L2.start, List.map, List.length, List.replicate, List.cons_append, List.nil_append, List.append_eq, Nat.reduceSub, Nat.reduceAdd])
    walk_at "my_rd"
    refine q_if2 (fun hk => ?_) (fun hk => ?_)
    · have hk := dec_t hk
      walk_at "my_rd"
      refine q_if2 (fun ha => ?_) (fun ha => ?_)
      · have ha := dec_t ha
        walk_at "my_rd"
        have e : dueE S R gone kd row n sec h = (.txt "argument", R, gone) := by unfold dueE; rw [if_pos hk, if_pos ha]
        rw [e] at k
        exact k _ _ rfl hB Kq.refl
      · have ha := dec_f ha
        walk_at "my_rd"
        refine q_append hxs (by rw [hR.len]; exact small1000 (by omega)) ?_
        walk_at "my_rd"
        rw [List.length_append, hR.len]
        have e : dueE S R gone kd row n sec h = (.num R.length, R ++ [row], gone) := by unfold dueE; rw [if_pos hk, if_neg ha]
        rw [e] at k
        have e2 : ((R.length + [V.ref rt].length : Nat) : Int) - 1 = (R.length : Int) := by show ((R.length + 1 : Nat) : Int) - 1 = _; omega
        rw [e2]
        refine k _ _ rfl ⟨⟨_, upd_same, ?_⟩, upd_other hab.symm hgw⟩ (Kq.up1 Kq.refl)
        exact RowsAt.snoc (hR.mono fun c ys q => upd_other (ne_of q hxs (by intro z; cases z)) q) (upd_other (ne_of hrow hxs (by intro z; cases z)) hrow)
    · have hk := dec_f hk
      walk_at "my_rd"
      have unk : (n < 0 ∨ (R.length : Int) ≤ n) → Q (.str "unknown") H := fun h1 => by
        have e : dueE S R gone kd row n sec h = (.txt "unknown", R, gone) := by unfold dueE; rw [if_neg hk, if_pos h1]
        rw [e] at k
        exact k _ _ rfl hB Kq.refl
      refine q_or2 (fun h1 => ?_) (fun h1 => ?_)
      · have h1 := dec_t h1
        walk_at "my_rd"
        exact unk (.inl h1)
      · have h1 := dec_f h1
        walk_at "my_rd"
        rw [hR.len]
        refine q_if2 (fun h2 => ?_) (fun h2 => ?_)
        · have h2 := dec_t h2
          walk_at "my_rd"
          exact unk (.inr h2)
        · have h2 := dec_f h2
          obtain ⟨m, rfl⟩ := Int.eq_ofNat_of_zero_le (show 0 ≤ n by omega)
          have hm : m < R.length := by omega
          have h12 : ¬ ((m : Int) < 0 ∨ (R.length : Int) ≤ (m : Int)) := by omega
          walk_at "my_rd"
          refine q_inL (sqL hgw) rfl (flatI gone) ?_
          rw [inI]
          by_cases h3 : (m : Int) ∈ gone
          · rw [decide_eq_true h3]
            walk_at "my_rd"
            have e : dueE S R gone kd row m sec h = (.txt "taken", R, gone) := by unfold dueE; rw [if_neg hk, if_neg h12, if_pos h3]
            rw [e] at k
            exact k _ _ rfl hB Kq.refl
          · rw [decide_eq_false h3]
            have hr0 : R[m]? = some R[m] := List.getElem?_eq_getElem hm
            have e : dueE S R gone kd row m sec h = (if kd = 1 then (if R[m].last < h then (.txt "early", R, gone) else if (posOf S sec).map Int.ofNat = some R[m].lock then (.pr R[m].rcv R[m].amt, R, gone ++ [(m : Int)]) else (.txt "weight", R, gone))
              else (if h ≤ R[m].last then (.txt "early", R, gone) else (.pr R[m].own R[m].amt, R, gone ++ [(m : Int)]))) := by
              unfold dueE
              rw [if_neg hk, if_neg h12, if_neg h3, Int.toNat_natCast, hr0]
            generalize R[m] = r at hr0 e
            obtain ⟨cc, hc1, hc2⟩ := hR.at_ m r hr0
            unfold ERow.v at hc2
            rw [e] at k
            clear e
            walk_at "my_rd"
            refine q_ixLt hxs (at_int rfl hc1) ?_
            walk_at "my_rd"
            refine q_gTup (sqT hc2) rfl ?_
            walk_at "my_rd"
            refine q_eqB ?_
            walk_at "my_rd"
            have pushed : ∀ (t : Addr) (who : Str), upd H b (.lst (gone.map V.int ++ [.int (m : Int)])) t = none → True := fun _ _ _ => trivial
            have eG : gone.map V.int ++ [V.int (m : Int)] = (gone ++ [(m : Int)]).map V.int := by rw [List.map_append]; rfl
            have hBK : ∀ (t : Addr) (o : HO), upd H b (.lst (gone.map V.int ++ [.int (m : Int)])) t = none → BookE (upd (upd H b (.lst (gone.map V.int ++ [.int (m : Int)]))) t o) a b R (gone ++ [(m : Int)]) := fun t o nt =>
              ⟨⟨xs, upd_new nt (upd_other hab hxs), hR.mono fun c ys q => upd_new nt (upd_other (ne_of q hgw (by intro z; cases z)) q)⟩, upd_new nt (by rw [eG]; exact upd_same)⟩
            by_cases hk1 : kd = 1
            · rw [if_pos hk1] at k
              rw [decide_eq_true hk1]
              by_cases h4 : r.last < h
              · rw [if_pos h4] at k
                rw [decide_eq_true h4]
                walk_at "my_rd"
                exact k _ _ rfl hB Kq.refl
              · rw [if_neg h4] at k
                rw [decide_eq_false h4, show (true == false) = false from rfl]
                walk_at "my_rd"
                rw [decide_eq_true hk1]
                walk_at "my_rd"
                refine q_inL' (sqL hS) rfl (flatS S) ?_
                rw [inS]
                cases hp : posOf S sec with
                | none =>
                  rw [hp, if_neg (by intro z; cases z)] at k
                  rw [decide_eq_false (posOf_none.mp hp)]
                  walk_at "my_rd"
                  exact k _ _ rfl hB Kq.refl
                | some j =>
                  rw [hp] at k
                  have hin : sec ∈ S := by
                    by_cases q : sec ∈ S
                    · exact q
                    · rw [posOf_none.mpr q] at hp; cases hp
                  rw [decide_eq_true hin]
                  walk_at "my_rd"
                  refine q_indexS hS hp ?_
                  walk_at "my_rd"
                  by_cases h5 : (j : Int) = r.lock
                  · rw [if_pos (by rw [← h5]; rfl)] at k
                    rw [decide_eq_true h5]
                    walk_at "my_rd"
                    refine q_tupK (Nat.le_of_ble_eq_true rfl) fun t nt => ?_
                    walk_at "my_rd"
                    exact k _ _ ⟨t, rfl, upd_same⟩ (hBK t _ nt) (Kq.new (Kq.up2 Kq.refl) (upd_none_back nt))
                  · rw [if_neg (show ¬ (some j).map Int.ofNat = some r.lock from fun z => h5 (Option.some.inj z))] at k
                    rw [decide_eq_false h5]
                    walk_at "my_rd"
                    exact k _ _ rfl hB Kq.refl
            · rw [if_neg hk1] at k
              rw [decide_eq_false hk1]
              by_cases h4 : r.last < h
              · rw [if_neg (show ¬ h ≤ r.last by omega)] at k
                rw [decide_eq_true h4, show (false == true) = false from rfl]
                walk_at "my_rd"
                rw [decide_eq_false hk1]
                walk_at "my_rd"
                refine q_tupK (Nat.le_of_ble_eq_true rfl) fun t nt => ?_
                walk_at "my_rd"
                exact k _ _ ⟨t, rfl, upd_same⟩ (hBK t _ nt) (Kq.new (Kq.up2 Kq.refl) (upd_none_back nt))
              · rw [if_pos (show h ≤ r.last by omega)] at k
                rw [decide_eq_false h4, show (false == false) = true from rfl]
                walk_at "my_rd"
                exact k _ _ rfl hB Kq.refl
end

local macro_rules | `(tactic| walk_at "my_rd") => `(tactic| (repeat first
  | with_reducible refine q_tCons ?_
  | ((with_reducible apply q_var); (focus (exact rfl)))
  | with_reducible refine q_c ?_
  | with_reducible refine q_nx ?_
  | with_reducible refine q_bK ?_
  | with_reducible refine q_call ?_
  | with_reducible refine q_callK ?_
  | with_reducible refine q_tNil ?_
  | with_reducible refine q_cb ?_
  | with_reducible refine q_seq ?_
  | with_reducible refine q_asg ?_
  | with_reducible refine q_gName ?_
  | with_reducible refine q_op ?_
  | with_reducible refine q_test ?_
  | with_reducible refine q_tB ?_
  | with_reducible refine q_ifS ?_
  | with_reducible refine q_ret ?_
  | with_reducible refine q_rt ?_
  | with_reducible refine q_next ?_
  | with_reducible refine q_ifF ?_
  | with_reducible refine q_ifT ?_
  | with_reducible refine q_drop ?_
  | with_reducible refine q_and ?_
  | with_reducible refine q_or ?_
  | with_reducible refine q_andT ?_
  | with_reducible refine q_andF ?_
  | with_reducible refine q_orF ?_
  | with_reducible refine q_orT ?_
  | with_reducible refine q_andV ?_
  | with_reducible refine q_andVT ?_
  | with_reducible refine q_andVF ?_
  | with_reducible refine q_orV ?_
  | with_reducible refine q_gCons ?_
  | with_reducible refine q_gNil ?_
  | with_reducible refine q_tup ?_
  | with_reducible refine q_lst ?_
  | with_reducible refine q_not ?_
  | with_reducible refine q_notKT ?_
  | with_reducible refine q_notKF ?_
  | with_reducible refine q_I0 ?_
  | with_reducible refine q_eqI ?_
  | with_reducible refine q_neI ?_
  | ((with_reducible refine q_I ?_ ?_); first | decide | omega | exact ⟨by omega, by omega⟩ | exact ⟨by decide, by decide⟩ | exact .inl ⟨by omega, by omega⟩ | exact .inr ⟨by omega, by omega⟩ | exact .inr ⟨by decide, by decide⟩)
  | with_reducible refine q_eqS ?_
  | with_reducible refine q_neS ?_
  | with_reducible refine q_brk ?_
  | with_reducible refine q_ct ?_
  | with_reducible refine q_bk ?_
  | with_reducible refine q_cn ?_
  | with_reducible refine q_retN ?_
  | with_reducible refine q_gSub ?_
  | with_reducible refine q_for ?_
  | with_reducible refine q_iList ?_
  | with_reducible refine q_iTup ?_
  | with_reducible refine q_iRng1 ?_
  | with_reducible refine q_notK ?_
  | with_reducible refine q_orVT ?_
  | with_reducible refine q_orVF ?_
  | with_reducible refine q_notV ?_
  | with_reducible refine q_notVK ?_
  | with_reducible refine q_ifE ?_
  | with_reducible refine q_ifET ?_
  | with_reducible refine q_ifEF ?_
  | with_reducible refine q_yes ?_
  | with_reducible refine q_un ?_
  | with_reducible refine q_rU ?_
  | with_reducible refine q_abs ?_
  | with_reducible refine q_int1 ?_
  | with_reducible refine q_bm ?_
  | with_reducible refine q_bm0 ?_
  | with_reducible refine q_lc ?_
  | with_reducible refine q_keepT ?_
  | with_reducible refine q_keepF ?_
  | ((with_reducible apply q_aug); (focus (exact rfl)))
  | with_reducible refine q_ipI ?_
  | with_reducible refine q_chain ?_
  | with_reducible refine q_pairC ?_
  | with_reducible refine q_pairsK ?_
  | with_reducible refine q_pairN ?_
  | with_reducible refine q_fld ?_
  | with_reducible refine q_sFld ?_
  | with_reducible refine q_meth ?_
  | with_reducible refine q_makeK ?_
  | with_reducible refine q_isBl ?_
  | with_reducible refine q_notBl ?_
  | with_reducible refine q_sl ?_
  | with_reducible refine q_noPart ?_
  | with_reducible refine q_part ?_
  | with_reducible refine q_partK ?_
  | ((with_reducible apply q_mulStr); (focus (decide +kernel)))
  | with_reducible refine q_chT ?_
  | with_reducible refine q_chF ?_
  | with_reducible refine q_ord ?_
  | with_reducible refine q_iStr0 ?_
  | with_reducible refine q_iStr ?_
  | with_reducible refine q_tDIn ?_
  | with_reducible refine q_tDNotIn ?_
  | with_reducible refine q_tDGet ?_
  | with_reducible refine q_tDGet2 ?_
  | with_reducible refine q_tDGet1 ?_
  | with_reducible refine q_tDSetd ?_
  | ((with_reducible apply q_dG2a); (focus ((repeat first | (with_reducible exact upd_same) | (with_reducible assumption) | (with_reducible apply upd_new (by assumption)) | (with_reducible apply upd_other (by first | assumption | exact Ne.symm (by assumption))) | (with_reducible refine' Kp.get (by assumption) ?_ (by first | assumption | exact Ne.symm (by assumption))) | (with_reducible apply Same.get (by assumption))); done)))
  | ((with_reducible apply q_dSda); (focus ((repeat first | (with_reducible exact upd_same) | (with_reducible assumption) | (with_reducible apply upd_new (by assumption)) | (with_reducible apply upd_other (by first | assumption | exact Ne.symm (by assumption))) | (with_reducible refine' Kp.get (by assumption) ?_ (by first | assumption | exact Ne.symm (by assumption))) | (with_reducible apply Same.get (by assumption))); done)))
  | with_reducible refine q_sDPut ?_
  | ((with_reducible apply q_dInS); (focus ((repeat first | (with_reducible exact upd_same) | (with_reducible assumption) | (with_reducible apply upd_new (by assumption)) | (with_reducible apply upd_other (by first | assumption | exact Ne.symm (by assumption))) | (with_reducible refine' Kp.get (by assumption) ?_ (by first | assumption | exact Ne.symm (by assumption))) | (with_reducible apply Same.get (by assumption))); done)))
  | ((with_reducible apply q_dNInS); (focus ((repeat first | (with_reducible exact upd_same) | (with_reducible assumption) | (with_reducible apply upd_new (by assumption)) | (with_reducible apply upd_other (by first | assumption | exact Ne.symm (by assumption))) | (with_reducible refine' Kp.get (by assumption) ?_ (by first | assumption | exact Ne.symm (by assumption))) | (with_reducible apply Same.get (by assumption))); done)))
  | ((with_reducible apply q_dInI); (focus ((repeat first | (with_reducible exact upd_same) | (with_reducible assumption) | (with_reducible apply upd_new (by assumption)) | (with_reducible apply upd_other (by first | assumption | exact Ne.symm (by assumption))) | (with_reducible refine' Kp.get (by assumption) ?_ (by first | assumption | exact Ne.symm (by assumption))) | (with_reducible apply Same.get (by assumption))); done)))
  | ((with_reducible apply q_dNInI); (focus ((repeat first | (with_reducible exact upd_same) | (with_reducible assumption) | (with_reducible apply upd_new (by assumption)) | (with_reducible apply upd_other (by first | assumption | exact Ne.symm (by assumption))) | (with_reducible refine' Kp.get (by assumption) ?_ (by first | assumption | exact Ne.symm (by assumption))) | (with_reducible apply Same.get (by assumption))); done)))
  | ((with_reducible apply q_bmL); (focus ((repeat first | (with_reducible exact upd_same) | (with_reducible assumption) | (with_reducible apply upd_new (by assumption)) | (with_reducible apply upd_other (by first | assumption | exact Ne.symm (by assumption))) | (with_reducible refine' Kp.get (by assumption) ?_ (by first | assumption | exact Ne.symm (by assumption))) | (with_reducible apply Same.get (by assumption))); done)))
  | ((with_reducible apply q_bmL0); (focus ((repeat first | (with_reducible exact upd_same) | (with_reducible assumption) | (with_reducible apply upd_new (by assumption)) | (with_reducible apply upd_other (by first | assumption | exact Ne.symm (by assumption))) | (with_reducible refine' Kp.get (by assumption) ?_ (by first | assumption | exact Ne.symm (by assumption))) | (with_reducible apply Same.get (by assumption))); done)))
  | ((with_reducible apply q_ixLt); (focus ((repeat first | (with_reducible exact upd_same) | (with_reducible assumption) | (with_reducible apply upd_new (by assumption)) | (with_reducible apply upd_other (by first | assumption | exact Ne.symm (by assumption))) | (with_reducible refine' Kp.get (by assumption) ?_ (by first | assumption | exact Ne.symm (by assumption))) | (with_reducible apply Same.get (by assumption))); done)); (focus (exact rfl)))
  | ((with_reducible apply q_ixTt); (focus ((repeat first | (with_reducible exact upd_same) | (with_reducible assumption) | (with_reducible apply upd_new (by assumption)) | (with_reducible apply upd_other (by first | assumption | exact Ne.symm (by assumption))) | (with_reducible refine' Kp.get (by assumption) ?_ (by first | assumption | exact Ne.symm (by assumption))) | (with_reducible apply Same.get (by assumption))); done)); (focus (exact rfl)))
  | ((with_reducible apply q_lenLt); (focus ((repeat first | (with_reducible exact upd_same) | (with_reducible assumption) | (with_reducible apply upd_new (by assumption)) | (with_reducible apply upd_other (by first | assumption | exact Ne.symm (by assumption))) | (with_reducible refine' Kp.get (by assumption) ?_ (by first | assumption | exact Ne.symm (by assumption))) | (with_reducible apply Same.get (by assumption))); done)))
  | ((with_reducible apply q_lenTt); (focus ((repeat first | (with_reducible exact upd_same) | (with_reducible assumption) | (with_reducible apply upd_new (by assumption)) | (with_reducible apply upd_other (by first | assumption | exact Ne.symm (by assumption))) | (with_reducible refine' Kp.get (by assumption) ?_ (by first | assumption | exact Ne.symm (by assumption))) | (with_reducible apply Same.get (by assumption))); done)))
  | ((with_reducible apply q_append); (focus ((repeat first | (with_reducible exact upd_same) | (with_reducible assumption) | (with_reducible apply upd_new (by assumption)) | (with_reducible apply upd_other (by first | assumption | exact Ne.symm (by assumption))) | (with_reducible refine' Kp.get (by assumption) ?_ (by first | assumption | exact Ne.symm (by assumption))) | (with_reducible apply Same.get (by assumption))); done)); (focus ((first | (exact Nat.lt_of_ble_eq_true rfl) | (simp only [List.length_append, List.length_cons, List.length_nil, List.length_map]; exact small1000 (by omega))))))
  | ((with_reducible apply q_setL); (focus ((repeat first | (with_reducible exact upd_same) | (with_reducible assumption) | (with_reducible apply upd_new (by assumption)) | (with_reducible apply upd_other (by first | assumption | exact Ne.symm (by assumption))) | (with_reducible refine' Kp.get (by assumption) ?_ (by first | assumption | exact Ne.symm (by assumption))) | (with_reducible apply Same.get (by assumption))); done)); (focus (exact rfl)))
  | with_reducible refine q_ifNT ?_
  | with_reducible refine q_ifNF ?_
  | with_reducible refine q_andNT ?_
  | with_reducible refine q_andNF ?_
  | with_reducible refine q_orNT ?_
  | with_reducible refine q_orNF ?_
  | with_reducible refine q_bKNT ?_
  | with_reducible refine q_bKNF ?_
  | with_reducible refine q_tNGet ?_
  | with_reducible refine q_tNIn ?_
  | with_reducible refine q_sNPut ?_
  | with_reducible refine q_sFldAug ?_
  | with_reducible refine q_sDAug ?_
  | with_reducible refine q_sDDel ?_
  | with_reducible refine q_forX ?_
  | with_reducible refine q_tMake ?_
  | ((with_reducible apply q_dG1a); (focus ((repeat first | (with_reducible exact upd_same) | (with_reducible assumption) | (with_reducible apply upd_new (by assumption)) | (with_reducible apply upd_other (by first | assumption | exact Ne.symm (by assumption))) | (with_reducible refine' Kp.get (by assumption) ?_ (by first | assumption | exact Ne.symm (by assumption))) | (with_reducible apply Same.get (by assumption))); done)))))
/-! the law of escrows -/
def spLaw (K : PySem.W.Frag) : Sp := fun vs H Q _ => ∃ (a : Addr) (ns : List Int), vs = [.ref a] ∧ SqL K H a (ns.map V.int) ∧ ns.length ≤ 63 ∧ ∀ H', Q (.bl true) H'
theorem PotAt.lst {H : Hp} {p l : Addr} (h : PotAt H p l) : (∃ xs, H p = some (.lst xs)) ∧ ∃ xs, H l = some (.lst xs) := by
  obtain ⟨ns, i, c, s, h1, h2, _⟩ := h
  exact ⟨⟨_, h1⟩, ⟨_, h2⟩⟩
/-- what the law keeps ahead of the escrow -/
structure LWk (C p l k nd sw : Addr) (S : List Str) (H : Hp) : Prop where
  pot : PotAt H p l
  lk : LockAt C H k nd S
  hsw : H sw = some (.lst (S.map V.str))
  np : sw ≠ p
  nl : sw ≠ l
section
variable {C p l k nd sw : Addr} {S : List Str} {H H' : Hp}
theorem LWk.same (h : LWk C p l k nd sw S H) (s : Same H H') : LWk C p l k nd sw S H' := ⟨h.pot.same s, h.lk.same s, s _ _ h.hsw, h.np, h.nl⟩
theorem LWk.next (h : LWk C p l k nd sw S H) (kp : Kp p H H') (pot : PotAt H' p l) : LWk C p l k nd sw S H' := by
  obtain ⟨⟨xs, hp⟩, _⟩ := h.pot.lst
  obtain ⟨dx, z⟩ := h.lk.o
  exact ⟨pot, ⟨⟨dx, kp.get z (ne_of z hp (by intro z; cases z))⟩, kp.get h.lk.d (ne_of h.lk.d hp (by intro z; cases z))⟩, kp.get h.hsw h.np, h.np, h.nl⟩
end
structure LEs (Ce C p l k nd sw e rl ld ra ga : Addr) (S : List Str) (R R2 : List ERow) (gone gone2 : List Int) (H : Hp) : Prop where
  w : LWk C p l k nd sw S H
  es : EscAt Ce H e k rl ld R gone
  bk : BookE H ra ga R2 gone2
structure LNe (p l nd sw rl ld ra ga : Addr) : Prop where
  rp : rl ≠ p
  rl_ : rl ≠ l
  rs : rl ≠ sw
  rr : rl ≠ ra
  rg : rl ≠ ga
  ap : ra ≠ p
  al : ra ≠ l
  as_ : ra ≠ sw
  ag : ra ≠ ga
  gp : ga ≠ p
  gl : ga ≠ l
  gs : ga ≠ sw
  dn : ld ≠ nd
section
variable {Ce C p l k nd sw e rl ld ra ga : Addr} {S : List Str} {R R2 R3 : List ERow} {gone gone2 gone3 : List Int} {H H' : Hp}
theorem LEs.same (h : LEs Ce C p l k nd sw e rl ld ra ga S R R2 gone gone2 H) (s : Same H H') : LEs Ce C p l k nd sw e rl ld ra ga S R R2 gone gone2 H' := ⟨h.w.same s, h.es.same s, h.bk.same s⟩
theorem LEs.next (h : LEs Ce C p l k nd sw e rl ld ra ga S R R2 gone gone2 H) (n : LNe p l nd sw rl ld ra ga) (kp : Kp p H H') (pot : PotAt H' p l) : LEs Ce C p l k nd sw e rl ld ra ga S R R2 gone gone2 H' := by
  obtain ⟨⟨xs, hp⟩, _⟩ := h.w.pot.lst
  obtain ⟨dx, z⟩ := h.es.o
  obtain ⟨x1, r1, r2⟩ := h.es.r
  obtain ⟨x2, b1, b2⟩ := h.bk.r
  have tp : ∀ b ys, H b = some (.tup ys) → H' b = some (.tup ys) := fun b ys q => kp.get q (ne_of q hp (by intro z; cases z))
  exact ⟨h.w.next kp pot, ⟨⟨dx, kp.get z (ne_of z hp (by intro z; cases z))⟩, ⟨x1, kp.get r1 n.rp, r2.mono tp⟩, kp.get h.es.d (ne_of h.es.d hp (by intro z; cases z))⟩, ⟨⟨x2, kp.get b1 n.ap, b2.mono tp⟩, kp.get h.bk.g n.gp⟩⟩
theorem LEs.esc (h : LEs Ce C p l k nd sw e rl ld ra ga S R R2 gone gone2 H) (n : LNe p l nd sw rl ld ra ga) (kq : Kq rl ld H H') (es : EscAt Ce H' e k rl ld R3 gone3) : LEs Ce C p l k nd sw e rl ld ra ga S R3 R2 gone3 gone2 H' := by
  obtain ⟨ns, i, c, z, h1, h2, hr⟩ := h.w.pot
  obtain ⟨x1, r1, r2⟩ := h.es.r
  obtain ⟨x2, b1, b2⟩ := h.bk.r
  obtain ⟨dx, lo⟩ := h.w.lk.o
  have hd := h.es.d
  have tp : ∀ b ys, H b = some (.tup ys) → H' b = some (.tup ys) := fun b ys q => kq _ _ q (ne_of q r1 (by intro z; cases z)) (ne_of q hd (by intro z; cases z))
  have ls : ∀ b ys, H b = some (.lst ys) → b ≠ rl → H' b = some (.lst ys) := fun b ys q n1 => kq _ _ q n1 (ne_of q hd (by intro z; cases z))
  exact ⟨⟨⟨ns, i, c, z, ls _ _ h1 n.rp.symm, ls _ _ h2 n.rl_.symm, hr⟩, h.w.lk.kq kq (ne_of lo r1 (by intro z; cases z)) (ne_of lo hd (by intro z; cases z)) (ne_of h.w.lk.d r1 (by intro z; cases z)) n.dn.symm, ls _ _ h.w.hsw n.rs.symm, h.w.np, h.w.nl⟩, es,
    ⟨⟨x2, ls _ _ b1 n.rr.symm, b2.mono tp⟩, ls _ _ h.bk.g n.rg.symm⟩⟩
theorem LEs.due (h : LEs Ce C p l k nd sw e rl ld ra ga S R R2 gone gone2 H) (n : LNe p l nd sw rl ld ra ga) (kq : Kq ra ga H H') (bk : BookE H' ra ga R3 gone3) : LEs Ce C p l k nd sw e rl ld ra ga S R R3 gone gone3 H' := by
  obtain ⟨ns, i, c, z, h1, h2, hr⟩ := h.w.pot
  obtain ⟨x1, r1, r2⟩ := h.es.r
  obtain ⟨x2, b1, b2⟩ := h.bk.r
  obtain ⟨dx, lo⟩ := h.w.lk.o
  obtain ⟨dy, eo⟩ := h.es.o
  have hg := h.bk.g
  have tp : ∀ b ys, H b = some (.tup ys) → H' b = some (.tup ys) := fun b ys q => kq _ _ q (ne_of q b1 (by intro z; cases z)) (ne_of q hg (by intro z; cases z))
  exact ⟨⟨⟨ns, i, c, z, kq _ _ h1 n.ap.symm n.gp.symm, kq _ _ h2 n.al.symm n.gl.symm, hr⟩, h.w.lk.kq kq (ne_of lo b1 (by intro z; cases z)) (ne_of lo hg (by intro z; cases z)) (ne_of h.w.lk.d b1 (by intro z; cases z)) (ne_of h.w.lk.d hg (by intro z; cases z)), kq _ _ h.w.hsw n.as_.symm n.gs.symm, h.w.np, h.w.nl⟩,
    ⟨⟨dy, kq _ _ eo (ne_of eo b1 (by intro z; cases z)) (ne_of eo hg (by intro z; cases z))⟩, ⟨x1, kq _ _ r1 n.rr n.rg, r2.mono tp⟩, kq _ _ h.es.d (ne_of h.es.d b1 (by intro z; cases z)) (ne_of h.es.d hg (by intro z; cases z))⟩, bk⟩
end
def secs : List Str := ["", "a", "b", "ab"]
theorem secs_at {x : Int} (h0 : 0 ≤ x) (h1 : x < 4) : ∃ s : Str, atI [V.str "", .str "a", .str "b", .str "ab"] x = some (.str s) := by
  have : x = 0 ∨ x = 1 ∨ x = 2 ∨ x = 3 := by omega
  rcases this with rfl | rfl | rfl | rfl
  · exact ⟨_, at_int (n := 0) rfl rfl⟩
  · exact ⟨_, at_int (n := 1) rfl rfl⟩
  · exact ⟨_, at_int (n := 2) rfl rfl⟩
  · exact ⟨_, at_int (n := 3) rfl rfl⟩
theorem snocE {α : Type} {xs : List α} {i : Nat} {x : α} (h : xs[i]? = some x) : xs.take (i + 1) = xs.take i ++ [x] := by
  rw [List.take_add_one, h]; rfl
theorem RowsAt.pairs {α : Type} {f : α → List V} {H : Hp} {xs : List V} {rs : List α} (h : RowsAt f H xs rs) : ∃ ps : List Addr, xs = ps.map V.ref ∧ Paired (fun p r => H p = some (.tup (f r))) ps rs := by
  induction rs generalizing xs with
  | nil =>
    have := h.len
    cases xs with
    | nil => exact ⟨[], rfl, .nil⟩
    | cons _ _ => simp at this
  | cons r rs ih =>
    have hl := h.len
    cases xs with
    | nil => simp at hl
    | cons x xs =>
      obtain ⟨a, h1, h2⟩ := h.at_ 0 r rfl
      have e : x = .ref a := Option.some.inj h1
      obtain ⟨ps, rfl, hp⟩ := ih (xs := xs) ⟨by simpa using hl, fun i r' hr => h.at_ (i + 1) r' hr⟩
      exact ⟨a :: ps, by rw [e]; rfl, .cons h2 hp⟩
theorem pos_in {S : List Str} {s : Str} {j : Nat} (h : posOf S s = some j) : s ∈ S := List.mem_of_getElem? (posOf_some h).1
section
variable {P : Program} {w : World} {K : PySem.W.Frag} {mg : Str → Option Value} {base : Heap}
set_option maxHeartbeats 0 in
theorem ok_law (T : Txt K mg) : FnOk P w K mg base CX0 4 T.f_law T.d_law ["script"] (spLaw K) := by
  refine T.F_law.ok sc_law (fun vs H Q E h => ?_) (fun cdv A outer s H vs Q E hr h => ?_)
  · obtain ⟨a, ns, rfl, _⟩ := h; rfl
  · obtain ⟨a0, ns0, rfl, hS, hlen, k⟩ := h
    have hu := hu_of hr
    have scr : ∀ H', (∀ o, H a0 = some o → H' a0 = some o) → SqL K H' a0 (ns0.map V.int) := fun H' q => by
      rcases hS with (h | ⟨o, h⟩) | h
      · exact .inl (.inl (q _ h))
      · exact .inl (.inr ⟨o, q _ h⟩)
      · exact .inr h
    have nea : ∀ c, H c = none → ∀ o, H a0 = some o → a0 ≠ c := fun c hc o ho e => by rw [e, hc] at ho; cases ho
    refine ⟨_, (pss_cons (ps_set (i := 1) sc_law.nd rfl (Or.inl rfl) (pe_call (ok_L_pot T) (hr.mono (by decide)) (by rfl) T.g_L_pot T.F_L_pot.kp T.b_L_pot .nil pass0 (pa_cons (pv 0) pa_nil)))
      (pss_cons (ps_set (i := 2) sc_law.nd rfl (Or.inl rfl) (pe_make0 T.mk_Locks (ok_Locks_init T) (hr.mono (by decide)) (by rfl) T.g_Locks T.b_Locks_init .nil pass0))
      (pss_cons (ps_set (i := 3) sc_law.nd rfl (Or.inl rfl) (pe_lst pa_nil))
      (pss_cons (ps_for PassesOwn.never rfl (pi_range1 (by rfl) T.z_range (pa_cons (pe_op op_add pe_int (pe_call (ok_L_next T) (hr.mono (by decide)) (by rfl) T.g_L_next T.F_L_next.kp T.b_L_next .nil pass0 (pa_cons (pv 1) (pa_cons pe_int pa_nil)))) pa_nil)) (pg_name (i := 4) sc_law.nd rfl (Or.inl rfl))
        (pss_cons (ps_set (i := 5) sc_law.nd rfl (Or.inl rfl) (pe_ix ix_list (pe_lst (pa_cons pe_str (pa_cons pe_str (pa_cons pe_str (pa_cons pe_str pa_nil))))) (pe_call (ok_L_next T) (hr.mono (by decide)) (by rfl) T.g_L_next T.F_L_next.kp T.b_L_next .nil pass0 (pa_cons (pv 1) (pa_cons pe_int pa_nil))) (fun _ _ => rfl)))
      (pss_cons (ps_if (pt_cmpR op_notIn_seq (pv 5) (pv 3) (by rfl)) (pss_one (ps_expr (pe_bm PySem.F.plainAttrs_list PySem.F.slot_list_append PySem.F.type_list_append mt_append (pv 3) (pa_cons (pv 5) pa_nil)))) pss_nil)
      (pss_one (ps_if (pt_cmpR op_ne (pe_meth (pv 2) T.cl_Locks T.m_Locks_lock (ok_Locks_lock T) (hr.mono (by decide)) T.b_Locks_lock .nil pass0 (pa_cons (pv 5) pa_nil)) (pe_bm PySem.F.plainAttrs_list PySem.F.slot_list_index PySem.F.type_list_index mt_index (pv 3) (pa_cons (pv 5) pa_nil)) (nomark _)) (pss_one (ps_ret pe_bl)) pss_nil)))))
      (pss_cons (ps_for PassesOwn.never rfl (pi_list (pe_lst (pa_cons pe_str (pa_cons pe_str (pa_cons pe_str (pa_cons pe_str pa_nil)))))) (pg_name (i := 5) sc_law.nd rfl (Or.inl rfl))
        (pss_one (ps_for PassesOwn.never rfl (pi_range1 (by rfl) T.z_range (pa_cons pe_int pa_nil)) (pg_name (i := 9) sc_law.nd rfl (Or.inl rfl))
        (pss_cons (ps_set (i := 14) sc_law.nd rfl (Or.inl rfl) (pe_meth (pv 2) T.cl_Locks T.m_Locks_opens (ok_Locks_opens T) (hr.mono (by decide)) T.b_Locks_opens .nil pass0 (pa_cons (pv 9) (pa_cons (pv 5) pa_nil))))
      (pss_one (ps_if (PW.pt (pw_or (pt_not (pt_val (pe_callB call_isi (by rfl) T.z_isinstance boot_isinstance (pa_cons (pv 14) (pa_cons (pe_bltn (v := .ty "bool") (by rfl) T.z_bool boot_bool rfl) pa_nil))))) (pw_or1 (pt_cmpR op_ne (pv 14) (pe_and (pe_cmpR op_in_seq (pv 5) (pv 3) (by rfl)) (pe_one (pe_cmpR op_eq (pe_bm PySem.F.plainAttrs_list PySem.F.slot_list_index PySem.F.type_list_index mt_index (pv 3) (pa_cons (pv 5) pa_nil)) (pv 9) (nomark _)))) (nomark _))))) (pss_one (ps_ret pe_bl)) pss_nil))))))
      (pss_cons (ps_set (i := 6) sc_law.nd rfl (Or.inl rfl) (pe_make T.mk_Escrow (ok_Escrow_init T) (hr.mono (by decide)) (by rfl) T.g_Escrow T.b_Escrow_init .nil pass0 (pa_cons (pv 2) pa_nil)))
      (pss_cons (ps_set (i := 7) sc_law.nd rfl (Or.inr rfl) (pe_lst pa_nil))
      (pss_cons (ps_set (i := 8) sc_law.nd rfl (Or.inr rfl) (pe_lst pa_nil))
      (pss_cons (ps_for PassesOwn.never rfl (pi_range1 (by rfl) T.z_range (pa_cons (pe_op op_add pe_int (pe_callB (call_min2 rfl) (by rfl) T.z_min boot_min (pa_cons (pe_callB cq_len (by rfl) T.z_len boot_len (pa_cons (pv 0) pa_nil)) (pa_cons pe_int pa_nil)))) pa_nil)) (pg_name (i := 4) sc_law.nd rfl (Or.inl rfl))
        (pss_cons (ps_set (i := 10) sc_law.nd rfl (Or.inl rfl) (pe_call (ok_L_next T) (hr.mono (by decide)) (by rfl) T.g_L_next T.F_L_next.kp T.b_L_next .nil pass0 (pa_cons (pv 1) (pa_cons pe_int pa_nil))))
      (pss_cons (ps_set (i := 11) sc_law.nd rfl (Or.inl rfl) (pe_tup (pa_cons pe_str (pa_cons pe_str (pa_cons (pe_call (ok_L_next T) (hr.mono (by decide)) (by rfl) T.g_L_next T.F_L_next.kp T.b_L_next .nil pass0 (pa_cons (pv 1) (pa_cons pe_int pa_nil))) (pa_cons (pe_call (ok_L_next T) (hr.mono (by decide)) (by rfl) T.g_L_next T.F_L_next.kp T.b_L_next .nil pass0 (pa_cons (pv 1) (pa_cons (pe_op op_add (pe_callB cq_len (by rfl) T.z_len boot_len (pa_cons (pv 3) pa_nil)) pe_int) pa_nil))) (pa_cons (pe_call (ok_L_next T) (hr.mono (by decide)) (by rfl) T.g_L_next T.F_L_next.kp T.b_L_next .nil pass0 (pa_cons (pv 1) (pa_cons pe_int pa_nil))) pa_nil)))))))
      (pss_cons (ps_set (i := 9) sc_law.nd rfl (Or.inl rfl) (pe_op op_sub (pe_call (ok_L_next T) (hr.mono (by decide)) (by rfl) T.g_L_next T.F_L_next.kp T.b_L_next .nil pass0 (pa_cons (pv 1) (pa_cons (pe_op op_add (pe_callB cq_len (by rfl) T.z_len boot_len (pa_cons (pv 7) pa_nil)) pe_int) pa_nil))) pe_int))
      (pss_cons (ps_set (i := 5) sc_law.nd rfl (Or.inl rfl) (pe_ix ix_list (pe_lst (pa_cons pe_str (pa_cons pe_str (pa_cons pe_str (pa_cons pe_str pa_nil))))) (pe_call (ok_L_next T) (hr.mono (by decide)) (by rfl) T.g_L_next T.F_L_next.kp T.b_L_next .nil pass0 (pa_cons (pv 1) (pa_cons pe_int pa_nil))) (fun _ _ => rfl)))
      (pss_cons (ps_set (i := 12) sc_law.nd rfl (Or.inl rfl) (pe_call (ok_L_next T) (hr.mono (by decide)) (by rfl) T.g_L_next T.F_L_next.kp T.b_L_next .nil pass0 (pa_cons (pv 1) (pa_cons pe_int pa_nil))))
      (pss_cons (ps_set (i := 13) sc_law.nd rfl (Or.inl rfl) (pe_call (ok_L_do T) (hr.mono (by decide)) (by rfl) T.g_L_do T.F_L_do.kp T.b_L_do .nil pass0 (pa_cons (pv 6) (pa_cons (pv 10) (pa_cons (pv 11) (pa_cons (pv 9) (pa_cons (pv 5) (pa_cons (pv 12) pa_nil))))))))
      (pss_cons (ps_if (pt_not (pt_val (pe_call (ok_L_same T) (hr.mono (by decide)) (by rfl) T.g_L_same T.F_L_same.kp T.b_L_same .nil pass0 (pa_cons (pv 13) (pa_cons (pe_call (ok_L_due T) (hr.mono (by decide)) (by rfl) T.g_L_due T.F_L_due.kp T.b_L_due .nil pass0 (pa_cons (pv 7) (pa_cons (pv 8) (pa_cons (pv 3) (pa_cons (pv 10) (pa_cons (pv 11) (pa_cons (pv 9) (pa_cons (pv 5) (pa_cons (pv 12) pa_nil))))))))) pa_nil))))) (pss_one (ps_ret pe_bl)) pss_nil)
      (pss_one (ps_if (pt_cmpR op_ne (pe_meth0 (pv 6) T.cl_Escrow T.m_Escrow_kept (ok_Escrow_kept T) (hr.mono (by decide)) T.b_Escrow_kept .nil pass0) (pe_callB (cr_sum rfl) (by rfl) T.z_sum boot_sum (pa_cons (pe_lc (own := [("at", 15)]) (g := (gName 15)) (tt := (tTest (tOp (rIn K true) (tVar 15) (tVar 8)))) (te := (tOp (rIxT K) (tOp (rIxL K) (tVar 7) (tVar 15)) (tC (.int 2)))) rfl sc_law.nd (pi_range1 (by rfl) T.z_range (pa_cons (pe_callB cq_len (by rfl) T.z_len boot_len (pa_cons (pv 7) pa_nil)) pa_nil)) (blkOk_by (own := [("at", 15)]) (N := ["script", "pot", "locks", "secrets", "k", "secret", "escrow", "rows", "gone", "number", "kind", "row", "height", "found", "opens", "at"]) (sc := defScope s_law) (by decide +kernel)) (fun _ _ _ _ _ => (pg_name (i := 15) sc_law.nd rfl (Or.inl rfl))) (fun _ _ _ _ _ => (pts_one (pt_cmpR op_notIn_seq (pv 15) (pv 8) (by rfl)))) (fun _ _ _ _ _ => (pe_ix ix_tup (pe_ix ix_list (pv 7) (pv 15) (fun _ _ => rfl)) pe_int (fun _ _ => rfl)))) pa_nil)) (nomark _)) (pss_one (ps_ret pe_bl)) pss_nil))))))))))
      (pss_one (ps_ret (pe_cmpR op_eq (pe_callB call_lenD (by rfl) T.z_len boot_len (pa_cons (pe_callTy (cq_dictP rfl) (by rfl) T.z_dict boot_dict (pa_cons (pe_lc (own := [("number", 9)]) (g := (gName 9)) (tt := tYes) (te := (tTup (tCons (tVar 9) (tCons (tC (.bl true)) tNil)))) rfl sc_law.nd (pi_list (pv 8)) (blkOk_by (own := [("number", 9)]) (N := ["script", "pot", "locks", "secrets", "k", "secret", "escrow", "rows", "gone", "number", "kind", "row", "height", "found", "opens", "at"]) (sc := defScope s_law) (by decide +kernel)) (fun _ _ _ _ _ => (pg_name (i := 9) sc_law.nd rfl (Or.inl rfl))) (fun _ _ _ _ _ => pts_nil) (fun _ _ _ _ _ => (pe_tup (pa_cons (pv 9) (pa_cons pe_bl pa_nil))))) pa_nil)) pa_nil)) (pe_callB cq_len (by rfl) T.z_len boot_len (pa_cons (pv 8) pa_nil)) (nomark _))))))))))))), ?_⟩
    (dsimp only [cxOf, Cx.nox, Cx.wish, L2.start, List.map, List.length, List.replicate, List.cons_append, List.nil_append, List.append_eq, Nat.reduceSub, Nat.reduceAdd])
    walk_at "my_rd"
    refine ⟨a0, ns0, rfl, hS, hlen, fun p l0 H1 np nl0 pot1 sm1 => ?_⟩
    walk_at "my_rd"
    intro lk dx nb ndx ndb
    refine ⟨lk, dx, rfl, upd_same, fun nd H2 nnd hL kp2 => ⟨rfl, ?_⟩⟩
    have sm2 : Same H1 H2 := fun q o hq => kp2 q o (upd_other (ne_of_none hq nb) (upd_other (ne_of_none hq ndx) hq)) (ne_of_none hq nb)
    have nnd0 : H nd = none := Same.free sm1 (upd_none_back (upd_none_back nnd))
    have pot2 := pot1.same sm2
    have smA : Same H H2 := Same.trans sm1 sm2
    walk_at "my_rd"
    refine q_lstK (Nat.le_of_ble_eq_true rfl) fun sw nsw => ?_
    have nsw0 : H sw = none := Same.free smA nsw
    have I0 : LWk T.C_Locks p l0 lk nd sw [] (upd H2 sw (.lst [])) := ⟨pot2.new nsw, hL.same (Same.new (Same.refl _) nsw), upd_same, pot2.nep nsw, pot2.nel nsw⟩
    have A0 : ∀ o, H a0 = some o → upd H2 sw (.lst []) a0 = some o := fun o q => upd_new nsw (smA _ _ q)
    generalize upd H2 sw (.lst []) = H3 at I0 A0
    clear pot1 pot2 hL sm1 sm2 kp2
    walk_at "my_rd"
    refine ⟨p, l0, 4, rfl, I0.pot, by omega, by omega, fun n1 H4 n10 n11 pot4 kp4 => ?_⟩
    have I1 := I0.next kp4 pot4
    have A1 : ∀ o, H a0 = some o → H4 a0 = some o := fun o q => kp4.get (A0 o q) (nea p np o q)
    walk_at "my_rd"
    refine q_forR ⟨by omega, by omega⟩ (fun i σ H' => ∃ (S : List Str) (v4 v5 : Option V), σ = [some (.ref a0), some (.ref p), some (.ref lk), some (.ref sw), v4, v5, none, none, none, none, none, none, none, none, none, none] ∧ LWk T.C_Locks p l0 lk nd sw S H' ∧ S.length ≤ i ∧ ∀ o, H a0 = some o → H' a0 = some o)
      ⟨[], _, _, rfl, I1, Nat.zero_le _, A1⟩ ?_ ?_
    · clear A1 I1 A0 I0 pot4 kp4
      rintro i σ H5 hi ⟨S, v4, v5, rfl, I5, hl5, A5⟩
      walk_at "my_rd"
      refine q_lstK (Nat.le_of_ble_eq_true rfl) fun f nf => ?_
      have I6 := I5.same (Same.new (w := .lst [.str "", .str "a", .str "b", .str "ab"]) (Same.refl _) nf)
      have hf : upd H5 f (.lst [.str "", .str "a", .str "b", .str "ab"]) f = some (.lst [.str "", .str "a", .str "b", .str "ab"]) := upd_same
      have A6 : ∀ o, H a0 = some o → upd H5 f (.lst [.str "", .str "a", .str "b", .str "ab"]) a0 = some o := fun o q => upd_new nf (A5 o q)
      have nfp := I5.pot.nep nf
      generalize upd H5 f (.lst [.str "", .str "a", .str "b", .str "ab"]) = H6 at I6 hf A6
      walk_at "my_rd"
      refine ⟨p, l0, 4, rfl, I6.pot, by omega, by omega, fun x H7 x0 x1 pot7 kp7 => ?_⟩
      have I7 := I6.next kp7 pot7
      have hf7 := kp7.get hf nfp
      have A7 : ∀ o, H a0 = some o → H7 a0 = some o := fun o q => kp7.get (A6 o q) (nea p np o q)
      obtain ⟨sc, hsc⟩ := secs_at x0 x1
      refine q_ixLt hf7 hsc ?_
      clear A6 A5 hf hf7 kp7 I6 I5 nf
      have hsw := I7.hsw
      walk_at "my_rd"
      refine q_inL' (sqL hsw) rfl (flatS S) ?_
      rw [inS]
      obtain ⟨dl, ho7⟩ := I7.lk.o
      cases hp : posOf S sc with
      | some j =>
        rw [decide_eq_true (pos_in hp)]
        walk_at "my_rd"
        refine q_methK ho7 (lk1 (by decide +kernel)) fun R hR => ?_
        walk_at "my_rd"
        refine hR _ _ ⟨lk, nd, S, sc, rfl, I7.lk, by omega, fun j2 hj2 => ?_, fun hn => by rw [hp] at hn; cases hn⟩
        obtain rfl : j2 = j := Option.some.inj (hj2.symm.trans hp)
        walk_at "my_rd"
        refine q_indexS hsw hp ?_
        walk_at "my_rd"
        rw [decide_eq_true rfl]
        walk_at "my_rd"
        exact ⟨S, _, _, rfl, I7, by omega, A7⟩
      | none =>
        rw [decide_eq_false (posOf_none.mp hp)]
        walk_at "my_rd"
        have eS : S.map V.str ++ [V.str sc] = (S ++ [sc]).map V.str := by rw [List.map_append]; rfl
        rw [eS]
        have ls : H7 lk ≠ none := by rw [ho7]; intro z; cases z
        have n1 : lk ≠ sw := ne_of ho7 hsw (by intro z; cases z)
        have n2 : nd ≠ sw := ne_of I7.lk.d hsw (by intro z; cases z)
        have hL8 : LockAt T.C_Locks (upd H7 sw (.lst ((S ++ [sc]).map V.str))) lk nd S := ⟨⟨dl, upd_other n1 ho7⟩, upd_other n2 I7.lk.d⟩
        have pot8 := I7.pot.upd (o := .lst ((S ++ [sc]).map V.str)) I7.np I7.nl
        have hsw8 : upd H7 sw (.lst ((S ++ [sc]).map V.str)) sw = some (.lst ((S ++ [sc]).map V.str)) := upd_same
        have A8 : ∀ o, H a0 = some o → upd H7 sw (.lst ((S ++ [sc]).map V.str)) a0 = some o := fun o q => upd_other (nea sw nsw0 o q) (A7 o q)
        generalize upd H7 sw (.lst ((S ++ [sc]).map V.str)) = H8 at hL8 pot8 hsw8 A8
        obtain ⟨dl8, ho8⟩ := hL8.o
        walk_at "my_rd"
        refine q_methK ho8 (lk1 (by decide +kernel)) fun R hR => ?_
        walk_at "my_rd"
        refine hR _ _ ⟨lk, nd, S, sc, rfl, hL8, by omega, fun j2 hj2 => (by rw [hp] at hj2; cases hj2), fun _ H9 hL9 kp9 => ?_⟩
        have hsw9 := kp9.get hsw8 n2.symm
        obtain ⟨⟨xp, hpp⟩, ⟨xl, hll⟩⟩ := pot8.lst
        obtain ⟨ns, pi, pc, pz, q1, q2, qr⟩ := pot8
        have pot9 : PotAt H9 p l0 := ⟨ns, pi, pc, pz, kp9.get q1 (ne_of q1 hL8.d (by intro z; cases z)), kp9.get q2 (ne_of q2 hL8.d (by intro z; cases z)), qr⟩
        have A9 : ∀ o, H a0 = some o → H9 a0 = some o := fun o q => kp9.get (A8 o q) (nea nd nnd0 o q)
        walk_at "my_rd"
        refine q_indexS hsw9 (posOf_snoc hp) ?_
        walk_at "my_rd"
        rw [decide_eq_true rfl]
        walk_at "my_rd"
        exact ⟨S ++ [sc], _, _, rfl, ⟨pot9, hL9, hsw9, I7.np, I7.nl⟩, by rw [List.length_append]; show S.length + 1 ≤ i + 1; omega, A9⟩
    · clear A1 I1 A0 I0 pot4 kp4
      rintro σ H5 ⟨S, v4, v5, rfl, I5, hl5, A5⟩
      have hSl : S.length ≤ 4 := by omega
      walk_at "my_rd"
      refine q_lstK (Nat.le_of_ble_eq_true rfl) fun f nf => ?_
      have I6 := I5.same (Same.new (w := .lst [.str "", .str "a", .str "b", .str "ab"]) (Same.refl _) nf)
      have hf : upd H5 f (.lst [.str "", .str "a", .str "b", .str "ab"]) f = some (.lst (secs.map V.str)) := upd_same
      have A6 : ∀ o, H a0 = some o → upd H5 f (.lst [.str "", .str "a", .str "b", .str "ab"]) a0 = some o := fun o q => upd_new nf (A5 o q)
      generalize upd H5 f (.lst [.str "", .str "a", .str "b", .str "ab"]) = H6 at I6 hf A6
      walk_at "my_rd"
      refine q_forL (sqL hf) (fun i σ H' => H' = H6 ∧ ∃ (v4 v5 v9 v14 : Option V), σ = [some (.ref a0), some (.ref p), some (.ref lk), some (.ref sw), v4, v5, none, none, none, v9, none, none, none, none, v14, none])
        ⟨rfl, _, _, _, _, rfl⟩ (fun i σ H' _ ⟨e, _⟩ => e ▸ sqL hf) ?_ ?_
      · rintro i x σ H' hx ⟨rfl, v4, v5, v9, v14, rfl⟩
        obtain ⟨sc, rfl⟩ : ∃ sc, x = .str sc := by
          rw [List.getElem?_map] at hx
          obtain ⟨y, _, e⟩ := Option.map_eq_some_iff.mp hx
          exact ⟨y, e.symm⟩
        obtain ⟨dl, ho⟩ := I6.lk.o
        have hsw := I6.hsw
        walk_at "my_rd"
        refine q_forR ⟨by decide, by decide⟩ (fun m σ H2 => H2 = H' ∧ ∃ (v4 v9 v14 : Option V), σ = [some (.ref a0), some (.ref p), some (.ref lk), some (.ref sw), v4, some (.str sc), none, none, none, v9, none, none, none, none, v14, none])
          ⟨rfl, _, _, _, rfl⟩ ?_ ?_
        · rintro m σ H2 hm ⟨rfl, v4, v9, v14, rfl⟩
          walk_at "my_rd"
          refine q_methK ho (lk1 (by decide +kernel)) fun R hR => ?_
          walk_at "my_rd"
          refine hR _ _ ⟨lk, nd, S, _, sc, rfl, I6.lk, ?_⟩
          walk_at "my_rd"
          refine q_is (.base (.bl _)) (b := true) (by decide +kernel) ?_
          walk_at "my_rd"
          refine q_inL (sqL hsw) rfl (flatS S) ?_
          rw [inS]
          cases hp : posOf S sc with
          | none =>
            rw [decide_eq_false (posOf_none.mp hp), decide_eq_false (show ¬ (none : Option Nat).map Int.ofNat = some (m : Int) from by intro z; cases z)]
            walk_at "my_rd"
            refine q_neBs ?_
            walk_at "my_rd"
            exact ⟨rfl, _, _, _, rfl⟩
          | some j =>
            rw [decide_eq_true (pos_in hp)]
            walk_at "my_rd"
            refine q_indexS hsw hp ?_
            walk_at "my_rd"
            have e : decide ((some j).map Int.ofNat = some (m : Int)) = decide ((j : Int) = (m : Int)) := by
              by_cases h : (j : Int) = (m : Int)
              · rw [decide_eq_true h, decide_eq_true (by rw [← h]; rfl)]
              · rw [decide_eq_false h]
                exact decide_eq_false fun z => h (Option.some.inj z)
            rw [e]
            refine q_neBs ?_
            walk_at "my_rd"
            exact ⟨rfl, _, _, _, rfl⟩
        · rintro σ H2 ⟨rfl, v4, v9, v14, rfl⟩
          walk_at "my_rd"
          exact ⟨rfl, _, _, _, _, rfl⟩
      · rintro σ H' ⟨rfl, v4, v5, v9, v14, rfl⟩
        clear hf nf A5 I5
        walk_at "my_rd"
        intro e dx nb2 ndx2 ndb2
        refine ⟨e, dx, lk, rfl, upd_same, fun rl ld H7 nrl nld hE kp7 => ⟨rfl, ?_⟩⟩
        have sm7 : Same H' H7 := fun q o hq => kp7 q o (upd_other (ne_of_none hq nb2) (upd_other (ne_of_none hq ndx2) hq)) (ne_of_none hq nb2)
        have nrl1 : H' rl = none := upd_none_back (upd_none_back nrl)
        have nld1 : H' ld = none := upd_none_back (upd_none_back nld)
        have I7 := I6.same sm7
        have A7 : ∀ o, H a0 = some o → H7 a0 = some o := fun o q => sm7 _ _ (A6 o q)
        walk_at "my_rd"
        refine q_lstK (Nat.le_of_ble_eq_true rfl) fun ra nra => ?_
        walk_at "my_rd"
        refine q_lstK (Nat.le_of_ble_eq_true rfl) fun ga nga => ?_
        have nra1 := upd_none_back nga
        have smB : Same H7 (upd (upd H7 ra (.lst [])) ga (.lst [])) := Same.new (Same.new (Same.refl _) nra) nra1
        have aga : ga ≠ ra := upd_none_ne nga
        have I8 : LEs T.C_Escrow T.C_Locks p l0 lk nd sw e rl ld ra ga S [] [] [] [] (upd (upd H7 ra (.lst [])) ga (.lst [])) :=
          ⟨I7.same smB, hE.same smB, ⟨⟨[], upd_other aga.symm upd_same, .nil⟩, upd_same⟩⟩
        have A8 : ∀ o, H a0 = some o → upd (upd H7 ra (.lst [])) ga (.lst []) a0 = some o := fun o q => smB _ _ (A7 o q)
        obtain ⟨_, hrl7, _⟩ := hE.r
        have n : LNe p l0 nd sw rl ld ra ga := ⟨I6.pot.nep nrl1, I6.pot.nel nrl1, (ne_of_none I6.hsw nrl1).symm, ne_of_none hrl7 nra, ne_of_none hrl7 nra1, I7.pot.nep nra, I7.pot.nel nra, (ne_of_none I7.hsw nra).symm, aga.symm,
          I7.pot.nep nra1, I7.pot.nel nra1, (ne_of_none I7.hsw nra1).symm, (ne_of_none I6.lk.d nld1).symm⟩
        generalize upd (upd H7 ra (.lst [])) ga (.lst []) = H8 at I8 A8
        have hS8 := scr H8 A8
        clear I6 I7 A6 A7 hE kp7 sm7 smB hrl7 A8
        walk_at "my_rd"
        refine q_lenL hS8 ?_
        walk_at "my_rd"
        refine ⟨_, _, rfl, ?_⟩
        walk_at "my_rd"
        rw [List.length_map]
        have hN : 0 ≤ (4 : Int) + (if (30 : Int) < (ns0.length : Int) then 30 else (ns0.length : Int)) ∧ (4 : Int) + (if (30 : Int) < (ns0.length : Int) then 30 else (ns0.length : Int)) ≤ 40 := by split <;> omega
        generalize (4 : Int) + (if (30 : Int) < (ns0.length : Int) then 30 else (ns0.length : Int)) = N at hN
        refine q_forR ⟨hN.1, by omega⟩ (fun i σ H' => ∃ (R : List ERow) (gone : List Int) (v4 v5 v9 v10 v11 v12 v13 v14 v15 : Option V), σ = [some (.ref a0), some (.ref p), some (.ref lk), some (.ref sw), v4, v5, some (.ref e), some (.ref ra), some (.ref ga), v9, v10, v11, v12, v13, v14, v15] ∧
            LEs T.C_Escrow T.C_Locks p l0 lk nd sw e rl ld ra ga S R R gone gone H' ∧ goneOk R gone ∧ R.length ≤ i ∧ gone.length ≤ i)
          ⟨[], [], _, _, _, _, _, _, _, _, _, rfl, I8, ⟨List.nodup_nil, by simp⟩, Nat.le_refl _, Nat.le_refl _⟩ ?_ ?_
        · clear I8 hS8
          rintro i σ H9 hi ⟨R, gone, v4, v5, v9, v10, v11, v12, v13, v14, v15, rfl, I9, hg, hlR, hlG⟩
          walk_at "my_rd"
          refine ⟨p, l0, 3, rfl, I9.w.pot, by omega, by omega, fun kd H10 k0 k1 pot10 kp10 => ?_⟩
          have I10 := I9.next n kp10 pot10
          walk_at "my_rd"
          refine ⟨p, l0, 9, rfl, I10.w.pot, by omega, by omega, fun am H11 a0' a1' pot11 kp11 => ?_⟩
          have I11 := I10.next n kp11 pot11
          have hsw11 := I11.w.hsw
          walk_at "my_rd"
          rw [List.length_map]
          refine ⟨p, l0, _, rfl, I11.w.pot, by omega, by omega, fun lo H12 b0 b1 pot12 kp12 => ?_⟩
          have I12 := I11.next n kp12 pot12
          walk_at "my_rd"
          refine ⟨p, l0, 6, rfl, I12.w.pot, by omega, by omega, fun la H13 c0 c1 pot13 kp13 => ?_⟩
          have I13 := I12.next n kp13 pot13
          walk_at "my_rd"
          refine q_tupK (Nat.le_of_ble_eq_true rfl) fun rt nrt => ?_
          have I14 := I13.same (Same.new (w := .tup [.str "ann", .str "bob", .int am, .int lo, .int la]) (Same.refl _) nrt)
          have hrt : upd H13 rt (.tup [.str "ann", .str "bob", .int am, .int lo, .int la]) rt = some (.tup [.str "ann", .str "bob", .int am, .int lo, .int la]) := upd_same
          generalize upd H13 rt (.tup [.str "ann", .str "bob", .int am, .int lo, .int la]) = H14 at I14 hrt
          clear I9 I10 I11 I12 I13 kp10 kp11 kp12 kp13 pot10 pot11 pot12 pot13 hsw11 nrt
          obtain ⟨xr, hra, hRa⟩ := I14.bk.r
          walk_at "my_rd"
          rw [hRa.len]
          refine ⟨p, l0, _, rfl, I14.w.pot, by omega, by omega, fun nu H15 d0 d1 pot15 kp15 => ?_⟩
          have I15 := I14.next n kp15 pot15
          have potlst := I14.w.pot.lst
          have hrt15 := kp15.get hrt (by obtain ⟨⟨xs, hp⟩, _⟩ := potlst; exact ne_of hrt hp (by intro z; cases z))
          walk_at "my_rd"
          refine q_lstK (Nat.le_of_ble_eq_true rfl) fun f nf => ?_
          have I16 := I15.same (Same.new (w := .lst [.str "", .str "a", .str "b", .str "ab"]) (Same.refl _) nf)
          have hrt16 := upd_new (w := .lst [.str "", .str "a", .str "b", .str "ab"]) nf hrt15
          have hf : upd H15 f (.lst [.str "", .str "a", .str "b", .str "ab"]) f = some (.lst [.str "", .str "a", .str "b", .str "ab"]) := upd_same
          have nfp := I15.w.pot.nep nf
          generalize upd H15 f (.lst [.str "", .str "a", .str "b", .str "ab"]) = H16 at I16 hf hrt16
          walk_at "my_rd"
          refine ⟨p, l0, 4, rfl, I16.w.pot, by omega, by omega, fun x H17 x0 x1 pot17 kp17 => ?_⟩
          have I17 := I16.next n kp17 pot17
          have hf17 := kp17.get hf nfp
          have hrt17 := kp17.get hrt16 (by obtain ⟨⟨xs, hp⟩, _⟩ := I16.w.pot.lst; exact ne_of hrt16 hp (by intro z; cases z))
          obtain ⟨sc, hsc⟩ := secs_at x0 x1
          refine q_ixLt hf17 hsc ?_
          walk_at "my_rd"
          refine ⟨p, l0, 8, rfl, I17.w.pot, by omega, by omega, fun hh H18 e0 e1 pot18 kp18 => ?_⟩
          have I18 := I17.next n kp18 pot18
          have hrt18 := kp18.get hrt17 (by obtain ⟨⟨xs, hp⟩, _⟩ := I17.w.pot.lst; exact ne_of hrt17 hp (by intro z; cases z))
          clear I14 I15 I16 I17 kp15 kp17 kp18 pot15 pot17 pot18 hf hf17 hrt hrt15 hrt16 hrt17 hra hRa nf potlst
          walk_at "my_rd"
          refine ⟨e, lk, nd, rl, ld, rt, R, gone, S, kd, ⟨"ann", "bob", am, lo, la⟩, nu - 1, hh, sc, rfl, hrt18, I18.es, I18.w.lk, hg, by omega, ?_, ⟨by omega, by omega⟩, fun H19 v1 hv1 es19 kq19 => ?_⟩
          · obtain ⟨xs, h1, _⟩ := I18.es.r
            exact ne_of h1 I18.es.d (by intro z; cases z)
          have I19 := I18.esc n kq19 es19
          have hrt19 : H19 rt = some (.tup (ERow.v ⟨"ann", "bob", am, lo, la⟩)) := by
            obtain ⟨xs, h1, _⟩ := I18.es.r
            exact kq19 _ _ hrt18 (ne_of hrt18 h1 (by intro z; cases z)) (ne_of hrt18 I18.es.d (by intro z; cases z))
          walk_at "my_rd"
          refine ⟨ra, ga, sw, rt, R, gone, S, kd, ⟨"ann", "bob", am, lo, la⟩, nu - 1, hh, sc, rfl, hrt19, I19.bk, I19.w.hsw, by omega, by omega, n.ag, ⟨by omega, by omega⟩, fun H20 v2 hv2 bk20 kq20 => ?_⟩
          have I20 := I19.due n kq20 bk20
          have hg2 := due_ok (S := S) (kd := kd) (row := ⟨"ann", "bob", am, lo, la⟩) (n := nu - 1) (sec := sc) (h := hh) hg
          have hl2 := due_len (S := S) (R := R) (gone := gone) (kd := kd) (row := ⟨"ann", "bob", am, lo, la⟩) (n := nu - 1) (sec := sc) (h := hh)
          have hvv : ∀ who amt c, v1 = .ref c → H19 c = some (.tup [.str who, .int amt]) → H20 c = some (.tup [.str who, .int amt]) := fun who amt c _ hc => by
            obtain ⟨xs, h1, _⟩ := I19.bk.r
            exact kq20 _ _ hc (ne_of hc h1 (by intro z; cases z)) (ne_of hc I19.bk.g (by intro z; cases z))
          generalize dueE S R gone kd ⟨"ann", "bob", am, lo, la⟩ (nu - 1) sc hh = due at hv1 hv2 I20 hg2 hl2
          obtain ⟨o, R', gone'⟩ := due
          replace I20 : LEs T.C_Escrow T.C_Locks p l0 lk nd sw e rl ld ra ga S R' R' gone' gone' H20 := I20
          replace hg2 : goneOk R' gone' := hg2
          replace hl2 : R'.length ≤ R.length + 1 ∧ R.length ≤ R'.length ∧ gone'.length ≤ gone.length + 1 := hl2
          clear I18 I19 kq19 kq20 es19 bk20 hrt18 hrt19
          walk_at "my_rd"
          have hs : ∀ (Q' : VK), (∀ H', Same H20 H' → Q' (.bl true) H') → sp_same K [v1, v2] H20 Q' E0 := fun Q' kk => by
            cases o with
            | txt z =>
              have e1 : v1 = .str z := hv1
              have e2 : v2 = .str z := hv2
              subst e1 e2
              exact .inl ⟨_, rfl, rfl, kk _ (Same.refl _)⟩
            | num z =>
              have e1 : v1 = .int z := hv1
              have e2 : v2 = .int z := hv2
              subst e1 e2
              exact .inl ⟨_, rfl, rfl, kk _ (Same.refl _)⟩
            | pr who amt =>
              obtain ⟨c1, e1, h1⟩ := hv1
              obtain ⟨c2, e2, h2⟩ := hv2
              subst e2
              rw [e1]
              exact .inr ⟨c1, c2, _, rfl, hvv who amt c1 e1 h1, h2, rfl, by show 2 ≤ 1000; decide, kk⟩
          refine hs _ fun H21 sm21 => ?_
          have I21 := I20.same sm21
          clear I20 hvv hv1 hv2 hs sm21
          obtain ⟨dxe, hoe⟩ := I21.es.o
          obtain ⟨xr, hra, hRa⟩ := I21.bk.r
          have hga := I21.bk.g
          walk_at "my_rd"
          refine q_methK hoe (lk3 (by decide +kernel) (by decide +kernel) (by decide +kernel)) fun R3 hR3 => ?_
          walk_at "my_rd"
          refine hR3 _ _ ⟨e, lk, rl, ld, R', gone', rfl, I21.es, ?_⟩
          walk_at "my_rd"
          rw [hRa.len]
          refine q_lcR ⟨by omega, by omega⟩ (fun D nD => ⟨fun j H' => Same H21 H' ∧ H' D = some (.lst (((aliveTo gone' j).map (amtAt R')).map V.int)), ⟨Same.new (Same.refl _) nD, upd_same⟩, ?_, ?_⟩)
          · rintro j H' hj ⟨sm, hD⟩
            have hj2 : j < R'.length := by omega
            have hga2 := sm _ _ hga
            walk_at "my_rd"
            refine ⟨rfl, ?_⟩
            walk_at "my_rd"
            refine q_inL' (sqL hga2) rfl (flatI gone') ?_
            rw [inI]
            walk_at "my_rd"
            by_cases hin : (j : Int) ∈ gone'
            · rw [decide_eq_true hin]
              refine q_keepF ⟨sm, ?_⟩
              rw [alive_skip hin]
              exact hD
            · rw [decide_eq_false hin]
              refine q_keepT ?_
              have hr0 : R'[j]? = some R'[j] := List.getElem?_eq_getElem hj2
              obtain ⟨cc, hc1, hc2⟩ := hRa.at_ j _ hr0
              have ham := amtAt_at hr0
              generalize R'[j] = rr at hr0 hc2 ham
              have hc3 : H' cc = some (.tup [.str rr.own, .str rr.rcv, .int rr.amt, .int rr.lock, .int rr.last]) := sm _ _ hc2
              walk_at "my_rd"
              refine q_ixLt (sm _ _ hra) (at_int rfl hc1) ?_
              walk_at "my_rd"
              refine q_accK hD (by rw [List.length_map, List.length_map]; exact small1000 (Nat.le_trans (List.length_filter_le _ _) (by rw [List.length_range]; omega))) ⟨Same.new sm nD, ?_⟩
              rw [upd_same, alive_snoc hin, List.map_append, List.map_append]
              show _ = some (HO.lst (_ ++ [V.int (amtAt R' j)]))
              rw [ham]
          · rintro H22 ⟨sm, hD⟩
            rw [Int.toNat_natCast] at hD
            walk_at "my_rd"
            refine q_sum (sqL hD) ?_
            have ek : ((aliveTo gone' R'.length).map (amtAt R')).sum = keptE R' gone' := rfl
            rw [ek]
            walk_at "my_rd"
            rw [decide_eq_true rfl]
            walk_at "my_rd"
            exact ⟨R', gone', _, _, _, _, _, _, _, _, _, rfl, I21.same sm, hg2, by omega, by omega⟩
        · rintro σ H9 ⟨R, gone, v4, v5, v9, v10, v11, v12, v13, v14, v15, rfl, I9, hg, hlR, hlG⟩
          have hg9 := I9.bk.g
          have hlg : gone.length ≤ 40 := by omega
          clear I8 hS8
          walk_at "my_rd"
          refine q_lcL (sqL hg9) (fun D nD => ⟨fun j H' => ∃ xs, Same H9 H' ∧ H' D = some (.lst xs) ∧ RowsAt (fun g : Int => [.int g, .bl true]) H' xs (gone.take j), ⟨[], Same.new (Same.refl _) nD, upd_same, .nil⟩, fun j H' _ ⟨_, sm, _⟩ => sqL (sm _ _ hg9), ?_, ?_⟩)
          · rintro j x H' hx ⟨xs, sm, hD, hX⟩
            obtain ⟨z, rfl⟩ := map_at hx
            have hz : gone[j]? = some z := by
              rw [List.getElem?_map] at hx
              obtain ⟨y, h1, h2⟩ := Option.map_eq_some_iff.mp hx
              injection h2 with h2
              rw [h1, h2]
            have hjl := (List.getElem?_eq_some_iff.mp hz).1
            walk_at "my_rd"
            refine ⟨rfl, ?_⟩
            walk_at "my_rd"
            refine q_tupK (Nat.le_of_ble_eq_true rfl) fun t nt => ?_
            have nDt : D ≠ t := ne_of_none hD nt
            refine q_accK (upd_new nt hD) (by rw [hX.len, List.length_take]; exact small1000 (by omega)) ⟨_, Same.new (Same.up sm nt) nD, upd_same, ?_⟩
            rw [snocE hz]
            exact RowsAt.snoc (hX.mono fun b ys w => upd_other (ne_of w hD (by intro z; cases z)) (upd_new nt w)) (upd_other nDt.symm upd_same)
          · rintro H10 ⟨xs, sm, hD, hX⟩
            rw [List.length_map, List.take_length] at hX
            obtain ⟨ps, rfl, hP⟩ := hX.pairs
            walk_at "my_rd"
            refine ⟨D, ps, gone.map fun g => (Sum.inl g, V.bl true), rfl, sqL hD, ?_, fun d nd2 => ?_⟩
            · clear hD hX sm hg9 hg I9 hlG hlR hlg
              induction hP with
              | nil => exact .nil
              | cons h1 _ ih => exact .cons (sqT h1) ih
            · have hg10 := upd_new (w := .dK (mergeK [] (gone.map fun g => (Sum.inl g, V.bl true)))) nd2 (sm _ _ hg9)
              walk_at "my_rd"
              refine ⟨d, _, rfl, upd_same, ?_⟩
              rw [merge_app _ [] (by
                rw [List.nil_append, List.map_map]
                have : (gone.map (Prod.fst ∘ fun g => ((Sum.inl g : Key), V.bl true))) = gone.map (fun g => (Sum.inl g : Key)) := rfl
                rw [this]
                exact List.Pairwise.map _ (fun a b hab q => hab (Sum.inl.inj q)) hg.1), List.nil_append, List.length_map]
              walk_at "my_rd"
              rw [List.length_map]
              rw [decide_eq_true rfl]
              exact k _
end

def txt_mk {K : PySem.W.Frag} {h : Heap} {mg : Str → Option Value} (X : K.In h) (G : h.Ns mainGlobals mg)
    {f0 f1 f2 f3 f4 f5 f6 f7 f8 f9 f10 f11 f12 f13 f14 f15 f16 C0 C1 C2 C3 C4 C5 C6 C7 : Addr} {od0 an0 od1 an1 od2 an2 od3 an3 od4 an4 od5 an5 od6 an6 od7 an7 od8 an8 od9 an9 od10 an10 od11 an11 od12 an12 od13 an13 od14 an14 od15 an15 od16 an16 : Option Addr} {sl0 sl1 sl2 sl3 sl4 sl5 sl6 sl7 sl8 sl9 sl10 sl11 sl12 sl13 sl14 sl15 sl16 : Array (Option Value)} {oc0 kV0 dc0 pm0 cd0 ct0 oc1 kV1 dc1 pm1 cd1 ct1 oc2 kV2 dc2 pm2 cd2 ct2 oc3 kV3 dc3 pm3 cd3 ct3 oc4 kV4 dc4 pm4 cd4 ct4 oc5 kV5 dc5 pm5 cd5 ct5 oc6 kV6 dc6 pm6 cd6 ct6 oc7 kV7 dc7 pm7 cd7 ct7 oc8 kV8 dc8 pm8 cd8 ct8 oc9 kV9 dc9 pm9 cd9 ct9 oc10 kV10 dc10 pm10 cd10 ct10 oc11 kV11 dc11 pm11 cd11 ct11 oc12 kV12 dc12 pm12 cd12 ct12 oc13 kV13 dc13 pm13 cd13 ct13 oc14 kV14 dc14 pm14 cd14 ct14 oc15 kV15 dc15 pm15 cd15 ct15 oc16 kV16 dc16 pm16 cd16 ct16 : Value}
    (a0 : PySem.W.nsIn K mainGlobals "_wall" = some (some (.ref f0)))
    (a10 : PySem.W.nsIn K mainGlobals "_law_pot" = some (some (.ref f10)))
    (a11 : PySem.W.nsIn K mainGlobals "_law_next" = some (some (.ref f11)))
    (a12 : PySem.W.nsIn K mainGlobals "_law_is_int" = some (some (.ref f12)))
    (a13 : PySem.W.nsIn K mainGlobals "_law_same" = some (some (.ref f13)))
    (a14 : PySem.W.nsIn K mainGlobals "_law_do" = some (some (.ref f14)))
    (a15 : PySem.W.nsIn K mainGlobals "_law_due" = some (some (.ref f15)))
    (a16 : PySem.W.nsIn K mainGlobals "law" = some (some (.ref f16)))
    (aC0 : PySem.W.nsIn K mainGlobals "BridgeError" = some (some (.ref C0)))
    (aC1 : PySem.W.nsIn K mainGlobals "InvalidArgument" = some (some (.ref C1)))
    (aC2 : PySem.W.nsIn K mainGlobals "NotEnoughWeight" = some (some (.ref C2)))
    (aC3 : PySem.W.nsIn K mainGlobals "AlreadyTaken" = some (some (.ref C3)))
    (aC4 : PySem.W.nsIn K mainGlobals "UnknownTransfer" = some (some (.ref C4)))
    (aC5 : PySem.W.nsIn K mainGlobals "TooEarly" = some (some (.ref C5)))
    (aC6 : PySem.W.nsIn K mainGlobals "Locks" = some (some (.ref C6)))
    (aC7 : PySem.W.nsIn K mainGlobals "Escrow" = some (some (.ref C7)))
    (m1 : PySem.W.findIn K (.ref C6) "__init__" = some (some (.ref f1)))
    (m2 : PySem.W.findIn K (.ref C6) "lock" = some (some (.ref f2)))
    (m3 : PySem.W.findIn K (.ref C6) "opens" = some (some (.ref f3)))
    (m4 : PySem.W.findIn K (.ref C7) "__init__" = some (some (.ref f4)))
    (m5 : PySem.W.findIn K (.ref C7) "keep" = some (some (.ref f5)))
    (m6 : PySem.W.findIn K (.ref C7) "show" = some (some (.ref f6)))
    (m7 : PySem.W.findIn K (.ref C7) "give_back" = some (some (.ref f7)))
    (m8 : PySem.W.findIn K (.ref C7) "kept" = some (some (.ref f8)))
    (m9 : PySem.W.findIn K (.ref C7) "_find" = some (some (.ref f9)))
    (l0 : K.lookup f0 = some ⟨oc0, od0, .func (PySem.W.fnOf "_wall" "_wall" (defArgs s__wall) (defBody s__wall) (defScope s__wall) .none kV0 dc0 pm0 an0 cd0 ct0), sl0⟩)
    (c0 : PySem.W.codeIn K cd0 "_wall" = true)
    (k0 : PySem.W.keepIn K (.ref f0) = true)
    (l1 : K.lookup f1 = some ⟨oc1, od1, .func (PySem.W.fnOf "__init__" "Locks.__init__" (defArgs s_Locks_init) (defBody s_Locks_init) (defScope s_Locks_init) .none kV1 dc1 pm1 an1 cd1 ct1), sl1⟩)
    (c1 : PySem.W.codeIn K cd1 "Locks.__init__" = true)
    (k1 : PySem.W.keepIn K (.ref f1) = true)
    (l2 : K.lookup f2 = some ⟨oc2, od2, .func (PySem.W.fnOf "lock" "Locks.lock" (defArgs s_Locks_lock) (defBody s_Locks_lock) (defScope s_Locks_lock) .none kV2 dc2 pm2 an2 cd2 ct2), sl2⟩)
    (c2 : PySem.W.codeIn K cd2 "Locks.lock" = true)
    (k2 : PySem.W.keepIn K (.ref f2) = true)
    (l3 : K.lookup f3 = some ⟨oc3, od3, .func (PySem.W.fnOf "opens" "Locks.opens" (defArgs s_Locks_opens) (defBody s_Locks_opens) (defScope s_Locks_opens) .none kV3 dc3 pm3 an3 cd3 ct3), sl3⟩)
    (c3 : PySem.W.codeIn K cd3 "Locks.opens" = true)
    (k3 : PySem.W.keepIn K (.ref f3) = true)
    (l4 : K.lookup f4 = some ⟨oc4, od4, .func (PySem.W.fnOf "__init__" "Escrow.__init__" (defArgs s_Escrow_init) (defBody s_Escrow_init) (defScope s_Escrow_init) .none kV4 dc4 pm4 an4 cd4 ct4), sl4⟩)
    (c4 : PySem.W.codeIn K cd4 "Escrow.__init__" = true)
    (k4 : PySem.W.keepIn K (.ref f4) = true)
    (l5 : K.lookup f5 = some ⟨oc5, od5, .func (PySem.W.fnOf "keep" "Escrow.keep" (defArgs s_Escrow_keep) (defBody s_Escrow_keep) (defScope s_Escrow_keep) .none kV5 dc5 pm5 an5 cd5 ct5), sl5⟩)
    (c5 : PySem.W.codeIn K cd5 "Escrow.keep" = true)
    (k5 : PySem.W.keepIn K (.ref f5) = true)
    (l6 : K.lookup f6 = some ⟨oc6, od6, .func (PySem.W.fnOf "show" "Escrow.show" (defArgs s_Escrow_show) (defBody s_Escrow_show) (defScope s_Escrow_show) .none kV6 dc6 pm6 an6 cd6 ct6), sl6⟩)
    (c6 : PySem.W.codeIn K cd6 "Escrow.show" = true)
    (k6 : PySem.W.keepIn K (.ref f6) = true)
    (l7 : K.lookup f7 = some ⟨oc7, od7, .func (PySem.W.fnOf "give_back" "Escrow.give_back" (defArgs s_Escrow_give_back) (defBody s_Escrow_give_back) (defScope s_Escrow_give_back) .none kV7 dc7 pm7 an7 cd7 ct7), sl7⟩)
    (c7 : PySem.W.codeIn K cd7 "Escrow.give_back" = true)
    (k7 : PySem.W.keepIn K (.ref f7) = true)
    (l8 : K.lookup f8 = some ⟨oc8, od8, .func (PySem.W.fnOf "kept" "Escrow.kept" (defArgs s_Escrow_kept) (defBody s_Escrow_kept) (defScope s_Escrow_kept) .none kV8 dc8 pm8 an8 cd8 ct8), sl8⟩)
    (c8 : PySem.W.codeIn K cd8 "Escrow.kept" = true)
    (k8 : PySem.W.keepIn K (.ref f8) = true)
    (l9 : K.lookup f9 = some ⟨oc9, od9, .func (PySem.W.fnOf "_find" "Escrow._find" (defArgs s_Escrow_find) (defBody s_Escrow_find) (defScope s_Escrow_find) .none kV9 dc9 pm9 an9 cd9 ct9), sl9⟩)
    (c9 : PySem.W.codeIn K cd9 "Escrow._find" = true)
    (k9 : PySem.W.keepIn K (.ref f9) = true)
    (l10 : K.lookup f10 = some ⟨oc10, od10, .func (PySem.W.fnOf "_law_pot" "_law_pot" (defArgs s_L_pot) (defBody s_L_pot) (defScope s_L_pot) .none kV10 dc10 pm10 an10 cd10 ct10), sl10⟩)
    (c10 : PySem.W.codeIn K cd10 "_law_pot" = true)
    (k10 : PySem.W.keepIn K (.ref f10) = true)
    (l11 : K.lookup f11 = some ⟨oc11, od11, .func (PySem.W.fnOf "_law_next" "_law_next" (defArgs s_L_next) (defBody s_L_next) (defScope s_L_next) .none kV11 dc11 pm11 an11 cd11 ct11), sl11⟩)
    (c11 : PySem.W.codeIn K cd11 "_law_next" = true)
    (k11 : PySem.W.keepIn K (.ref f11) = true)
    (l12 : K.lookup f12 = some ⟨oc12, od12, .func (PySem.W.fnOf "_law_is_int" "_law_is_int" (defArgs s_L_is_int) (defBody s_L_is_int) (defScope s_L_is_int) .none kV12 dc12 pm12 an12 cd12 ct12), sl12⟩)
    (c12 : PySem.W.codeIn K cd12 "_law_is_int" = true)
    (k12 : PySem.W.keepIn K (.ref f12) = true)
    (l13 : K.lookup f13 = some ⟨oc13, od13, .func (PySem.W.fnOf "_law_same" "_law_same" (defArgs s_L_same) (defBody s_L_same) (defScope s_L_same) .none kV13 dc13 pm13 an13 cd13 ct13), sl13⟩)
    (c13 : PySem.W.codeIn K cd13 "_law_same" = true)
    (k13 : PySem.W.keepIn K (.ref f13) = true)
    (l14 : K.lookup f14 = some ⟨oc14, od14, .func (PySem.W.fnOf "_law_do" "_law_do" (defArgs s_L_do) (defBody s_L_do) (defScope s_L_do) .none kV14 dc14 pm14 an14 cd14 ct14), sl14⟩)
    (c14 : PySem.W.codeIn K cd14 "_law_do" = true)
    (k14 : PySem.W.keepIn K (.ref f14) = true)
    (l15 : K.lookup f15 = some ⟨oc15, od15, .func (PySem.W.fnOf "_law_due" "_law_due" (defArgs s_L_due) (defBody s_L_due) (defScope s_L_due) .none kV15 dc15 pm15 an15 cd15 ct15), sl15⟩)
    (c15 : PySem.W.codeIn K cd15 "_law_due" = true)
    (k15 : PySem.W.keepIn K (.ref f15) = true)
    (l16 : K.lookup f16 = some ⟨oc16, od16, .func (PySem.W.fnOf "law" "law" (defArgs s_law) (defBody s_law) (defScope s_law) .none kV16 dc16 pm16 an16 cd16 ct16), sl16⟩)
    (c16 : PySem.W.codeIn K cd16 "law" = true)
    (k16 : PySem.W.keepIn K (.ref f16) = true)
    (xe0 : PySem.W.excIn K C0 [.type "ValueError", .type "Exception", .type "BaseException", .type "object"] "ValueError.__new__" = true)
    (ke0 : PySem.W.keepIn K (.ref C0) = true)
    (be0 : PySem.W.subIn K (.ref C0) (.type "BaseException") = some true)
    (te0 : PySem.W.typeIn K (.ref C0) = some (.type "type"))
    (ie0 : PySem.W.isClsIn K C0 = true)
    (se0 : PySem.W.subIn K (.ref C0) (.ref C0) = some true)
    (hd0 : PySem.W.hasDictIn K C0 = true)
    (xe1 : PySem.W.excIn K C1 [.type "ValueError", .type "Exception", .type "BaseException", .type "object"] "ValueError.__new__" = true)
    (ke1 : PySem.W.keepIn K (.ref C1) = true)
    (be1 : PySem.W.subIn K (.ref C1) (.type "BaseException") = some true)
    (te1 : PySem.W.typeIn K (.ref C1) = some (.type "type"))
    (ie1 : PySem.W.isClsIn K C1 = true)
    (se1 : PySem.W.subIn K (.ref C1) (.ref C1) = some true)
    (hg1 : PySem.W.findIn K (.ref C1) "__getattribute__" = some (some (.builtin "BaseException.__getattribute__")))
    (hk1 : PySem.W.findIn K (.ref C1) "__getattr__" = some none)
    (hd1 : PySem.W.hasDictIn K C1 = true)
    (ha1 : PySem.W.findIn K (.ref C1) "__class__" = some (some (.builtin "object.__class__")))
    (hm1 : PySem.W.mroIn K C1 (.type "object") = some true)
    (hn1 : PySem.W.specialIn K (.builtin "object.__class__") "__get__" = some (some (.builtin "getset_descriptor.__get__")))
    (ht1 : PySem.W.takesIn K (.builtin "object.__class__") = some true)
    (ue1 : PySem.W.subIn K (.ref C1) (.ref C0) = some true)
    (xe2 : PySem.W.excIn K C2 [.type "ValueError", .type "Exception", .type "BaseException", .type "object"] "ValueError.__new__" = true)
    (ke2 : PySem.W.keepIn K (.ref C2) = true)
    (be2 : PySem.W.subIn K (.ref C2) (.type "BaseException") = some true)
    (te2 : PySem.W.typeIn K (.ref C2) = some (.type "type"))
    (ie2 : PySem.W.isClsIn K C2 = true)
    (se2 : PySem.W.subIn K (.ref C2) (.ref C2) = some true)
    (hg2 : PySem.W.findIn K (.ref C2) "__getattribute__" = some (some (.builtin "BaseException.__getattribute__")))
    (hk2 : PySem.W.findIn K (.ref C2) "__getattr__" = some none)
    (hd2 : PySem.W.hasDictIn K C2 = true)
    (ha2 : PySem.W.findIn K (.ref C2) "__class__" = some (some (.builtin "object.__class__")))
    (hm2 : PySem.W.mroIn K C2 (.type "object") = some true)
    (hn2 : PySem.W.specialIn K (.builtin "object.__class__") "__get__" = some (some (.builtin "getset_descriptor.__get__")))
    (ht2 : PySem.W.takesIn K (.builtin "object.__class__") = some true)
    (ue2 : PySem.W.subIn K (.ref C2) (.ref C0) = some true)
    (xe3 : PySem.W.excIn K C3 [.type "ValueError", .type "Exception", .type "BaseException", .type "object"] "ValueError.__new__" = true)
    (ke3 : PySem.W.keepIn K (.ref C3) = true)
    (be3 : PySem.W.subIn K (.ref C3) (.type "BaseException") = some true)
    (te3 : PySem.W.typeIn K (.ref C3) = some (.type "type"))
    (ie3 : PySem.W.isClsIn K C3 = true)
    (se3 : PySem.W.subIn K (.ref C3) (.ref C3) = some true)
    (hg3 : PySem.W.findIn K (.ref C3) "__getattribute__" = some (some (.builtin "BaseException.__getattribute__")))
    (hk3 : PySem.W.findIn K (.ref C3) "__getattr__" = some none)
    (hd3 : PySem.W.hasDictIn K C3 = true)
    (ha3 : PySem.W.findIn K (.ref C3) "__class__" = some (some (.builtin "object.__class__")))
    (hm3 : PySem.W.mroIn K C3 (.type "object") = some true)
    (hn3 : PySem.W.specialIn K (.builtin "object.__class__") "__get__" = some (some (.builtin "getset_descriptor.__get__")))
    (ht3 : PySem.W.takesIn K (.builtin "object.__class__") = some true)
    (ue3 : PySem.W.subIn K (.ref C3) (.ref C0) = some true)
    (xe4 : PySem.W.excIn K C4 [.type "ValueError", .type "Exception", .type "BaseException", .type "object"] "ValueError.__new__" = true)
    (ke4 : PySem.W.keepIn K (.ref C4) = true)
    (be4 : PySem.W.subIn K (.ref C4) (.type "BaseException") = some true)
    (te4 : PySem.W.typeIn K (.ref C4) = some (.type "type"))
    (ie4 : PySem.W.isClsIn K C4 = true)
    (se4 : PySem.W.subIn K (.ref C4) (.ref C4) = some true)
    (hg4 : PySem.W.findIn K (.ref C4) "__getattribute__" = some (some (.builtin "BaseException.__getattribute__")))
    (hk4 : PySem.W.findIn K (.ref C4) "__getattr__" = some none)
    (hd4 : PySem.W.hasDictIn K C4 = true)
    (ha4 : PySem.W.findIn K (.ref C4) "__class__" = some (some (.builtin "object.__class__")))
    (hm4 : PySem.W.mroIn K C4 (.type "object") = some true)
    (hn4 : PySem.W.specialIn K (.builtin "object.__class__") "__get__" = some (some (.builtin "getset_descriptor.__get__")))
    (ht4 : PySem.W.takesIn K (.builtin "object.__class__") = some true)
    (ue4 : PySem.W.subIn K (.ref C4) (.ref C0) = some true)
    (xe5 : PySem.W.excIn K C5 [.type "ValueError", .type "Exception", .type "BaseException", .type "object"] "ValueError.__new__" = true)
    (ke5 : PySem.W.keepIn K (.ref C5) = true)
    (be5 : PySem.W.subIn K (.ref C5) (.type "BaseException") = some true)
    (te5 : PySem.W.typeIn K (.ref C5) = some (.type "type"))
    (ie5 : PySem.W.isClsIn K C5 = true)
    (se5 : PySem.W.subIn K (.ref C5) (.ref C5) = some true)
    (hg5 : PySem.W.findIn K (.ref C5) "__getattribute__" = some (some (.builtin "BaseException.__getattribute__")))
    (hk5 : PySem.W.findIn K (.ref C5) "__getattr__" = some none)
    (hd5 : PySem.W.hasDictIn K C5 = true)
    (ha5 : PySem.W.findIn K (.ref C5) "__class__" = some (some (.builtin "object.__class__")))
    (hm5 : PySem.W.mroIn K C5 (.type "object") = some true)
    (hn5 : PySem.W.specialIn K (.builtin "object.__class__") "__get__" = some (some (.builtin "getset_descriptor.__get__")))
    (ht5 : PySem.W.takesIn K (.builtin "object.__class__") = some true)
    (ue5 : PySem.W.subIn K (.ref C5) (.ref C0) = some true)
    (pg6 : PySem.W.plainGet K C6 Str.empty = true)
    (hd6 : PySem.W.hasDictIn K C6 = true)
    (po6 : PySem.W.plainOver K C6 = true)
    (sa6 : PySem.W.findIn K (.ref C6) "__setattr__" = some (some (.builtin "object.__setattr__")))
    (mk6 : PySem.W.makesIn K C6 = true)
    (kc6 : PySem.W.keepIn K (.ref C6) = true)
    (i1 : PySem.W.isFn K (.ref f1) = true)
    (i2 : PySem.W.isFn K (.ref f2) = true)
    (i3 : PySem.W.isFn K (.ref f3) = true)
    (n6_0 : PySem.W.findIn K (.ref C6) "_numbers" = some none)
    (pg7 : PySem.W.plainGet K C7 Str.empty = true)
    (hd7 : PySem.W.hasDictIn K C7 = true)
    (po7 : PySem.W.plainOver K C7 = true)
    (sa7 : PySem.W.findIn K (.ref C7) "__setattr__" = some (some (.builtin "object.__setattr__")))
    (mk7 : PySem.W.makesIn K C7 = true)
    (kc7 : PySem.W.keepIn K (.ref C7) = true)
    (i4 : PySem.W.isFn K (.ref f4) = true)
    (i5 : PySem.W.isFn K (.ref f5) = true)
    (i6 : PySem.W.isFn K (.ref f6) = true)
    (i7 : PySem.W.isFn K (.ref f7) = true)
    (i8 : PySem.W.isFn K (.ref f8) = true)
    (i9 : PySem.W.isFn K (.ref f9) = true)
    (n7_0 : PySem.W.findIn K (.ref C7) "_locks" = some none)
    (n7_1 : PySem.W.findIn K (.ref C7) "_rows" = some none)
    (n7_2 : PySem.W.findIn K (.ref C7) "_left" = some none)
    (hq0 : PySem.W.kitOne K (.ref C3) (.ref C1) = some false)
    (hq1 : PySem.W.kitOne K (.ref C3) (.ref C2) = some false)
    (hq2 : PySem.W.kitOne K (.ref C3) (.ref C5) = some false)
    (hq3 : PySem.W.kitOne K (.ref C3) (.ref C4) = some false)
    (hq4 : PySem.W.kitOne K (.ref C1) (.ref C3) = some false)
    (hq5 : PySem.W.kitOne K (.ref C1) (.ref C2) = some false)
    (hq6 : PySem.W.kitOne K (.ref C1) (.ref C5) = some false)
    (hq7 : PySem.W.kitOne K (.ref C1) (.ref C4) = some false)
    (hq8 : PySem.W.kitOne K (.ref C2) (.ref C3) = some false)
    (hq9 : PySem.W.kitOne K (.ref C2) (.ref C1) = some false)
    (hq10 : PySem.W.kitOne K (.ref C2) (.ref C5) = some false)
    (hq11 : PySem.W.kitOne K (.ref C2) (.ref C4) = some false)
    (hq12 : PySem.W.kitOne K (.ref C5) (.ref C3) = some false)
    (hq13 : PySem.W.kitOne K (.ref C5) (.ref C1) = some false)
    (hq14 : PySem.W.kitOne K (.ref C5) (.ref C2) = some false)
    (hq15 : PySem.W.kitOne K (.ref C5) (.ref C4) = some false)
    (hq16 : PySem.W.kitOne K (.ref C4) (.ref C3) = some false)
    (hq17 : PySem.W.kitOne K (.ref C4) (.ref C1) = some false)
    (hq18 : PySem.W.kitOne K (.ref C4) (.ref C2) = some false)
    (hq19 : PySem.W.kitOne K (.ref C4) (.ref C5) = some false)
    (z0 : PySem.W.nsIn K mainGlobals "abs" = some none)
    (z1 : PySem.W.nsIn K mainGlobals "all" = some none)
    (z2 : PySem.W.nsIn K mainGlobals "bool" = some none)
    (z3 : PySem.W.nsIn K mainGlobals "dict" = some none)
    (z4 : PySem.W.nsIn K mainGlobals "int" = some none)
    (z5 : PySem.W.nsIn K mainGlobals "isinstance" = some none)
    (z6 : PySem.W.nsIn K mainGlobals "len" = some none)
    (z7 : PySem.W.nsIn K mainGlobals "list" = some none)
    (z8 : PySem.W.nsIn K mainGlobals "min" = some none)
    (z9 : PySem.W.nsIn K mainGlobals "range" = some none)
    (z10 : PySem.W.nsIn K mainGlobals "str" = some none)
    (z11 : PySem.W.nsIn K mainGlobals "sum" = some none)
    (z12 : PySem.W.nsIn K mainGlobals "tuple" = some none) : Txt K mg where
  f__wall := f0
  d__wall := PySem.W.fnOf "_wall" "_wall" (defArgs s__wall) (defBody s__wall) (defScope s__wall) .none kV0 dc0 pm0 an0 cd0 ct0
  F__wall := fun_mk (st := s__wall) l0 c0 k0
  b__wall := Fun.binds (fun_mk (st := s__wall) l0 c0 k0) (ps := ["k"]) fun _ _ _ _ _ _ us hl => match us, hl with | [_], _ => rfl
  g__wall := PySem.W.mg_of X G a0
  f_Locks_init := f1
  d_Locks_init := PySem.W.fnOf "__init__" "Locks.__init__" (defArgs s_Locks_init) (defBody s_Locks_init) (defScope s_Locks_init) .none kV1 dc1 pm1 an1 cd1 ct1
  F_Locks_init := fun_mk (st := s_Locks_init) l1 c1 k1
  b_Locks_init := Fun.binds (fun_mk (st := s_Locks_init) l1 c1 k1) (ps := ["self"]) fun _ _ _ _ _ _ us hl => match us, hl with | [_], _ => rfl
  f_Locks_lock := f2
  d_Locks_lock := PySem.W.fnOf "lock" "Locks.lock" (defArgs s_Locks_lock) (defBody s_Locks_lock) (defScope s_Locks_lock) .none kV2 dc2 pm2 an2 cd2 ct2
  F_Locks_lock := fun_mk (st := s_Locks_lock) l2 c2 k2
  b_Locks_lock := Fun.binds (fun_mk (st := s_Locks_lock) l2 c2 k2) (ps := ["self", "secret"]) fun _ _ _ _ _ _ us hl => match us, hl with | [_, _], _ => rfl
  f_Locks_opens := f3
  d_Locks_opens := PySem.W.fnOf "opens" "Locks.opens" (defArgs s_Locks_opens) (defBody s_Locks_opens) (defScope s_Locks_opens) .none kV3 dc3 pm3 an3 cd3 ct3
  F_Locks_opens := fun_mk (st := s_Locks_opens) l3 c3 k3
  b_Locks_opens := Fun.binds (fun_mk (st := s_Locks_opens) l3 c3 k3) (ps := ["self", "number", "secret"]) fun _ _ _ _ _ _ us hl => match us, hl with | [_, _, _], _ => rfl
  f_Escrow_init := f4
  d_Escrow_init := PySem.W.fnOf "__init__" "Escrow.__init__" (defArgs s_Escrow_init) (defBody s_Escrow_init) (defScope s_Escrow_init) .none kV4 dc4 pm4 an4 cd4 ct4
  F_Escrow_init := fun_mk (st := s_Escrow_init) l4 c4 k4
  b_Escrow_init := Fun.binds (fun_mk (st := s_Escrow_init) l4 c4 k4) (ps := ["self", "locks"]) fun _ _ _ _ _ _ us hl => match us, hl with | [_, _], _ => rfl
  f_Escrow_keep := f5
  d_Escrow_keep := PySem.W.fnOf "keep" "Escrow.keep" (defArgs s_Escrow_keep) (defBody s_Escrow_keep) (defScope s_Escrow_keep) .none kV5 dc5 pm5 an5 cd5 ct5
  F_Escrow_keep := fun_mk (st := s_Escrow_keep) l5 c5 k5
  b_Escrow_keep := Fun.binds (fun_mk (st := s_Escrow_keep) l5 c5 k5) (ps := ["self", "owner", "receiver", "amount", "lock", "height"]) fun _ _ _ _ _ _ us hl => match us, hl with | [_, _, _, _, _, _], _ => rfl
  f_Escrow_show := f6
  d_Escrow_show := PySem.W.fnOf "show" "Escrow.show" (defArgs s_Escrow_show) (defBody s_Escrow_show) (defScope s_Escrow_show) .none kV6 dc6 pm6 an6 cd6 ct6
  F_Escrow_show := fun_mk (st := s_Escrow_show) l6 c6 k6
  b_Escrow_show := Fun.binds (fun_mk (st := s_Escrow_show) l6 c6 k6) (ps := ["self", "number", "secret", "height"]) fun _ _ _ _ _ _ us hl => match us, hl with | [_, _, _, _], _ => rfl
  f_Escrow_give_back := f7
  d_Escrow_give_back := PySem.W.fnOf "give_back" "Escrow.give_back" (defArgs s_Escrow_give_back) (defBody s_Escrow_give_back) (defScope s_Escrow_give_back) .none kV7 dc7 pm7 an7 cd7 ct7
  F_Escrow_give_back := fun_mk (st := s_Escrow_give_back) l7 c7 k7
  b_Escrow_give_back := Fun.binds (fun_mk (st := s_Escrow_give_back) l7 c7 k7) (ps := ["self", "number", "height"]) fun _ _ _ _ _ _ us hl => match us, hl with | [_, _, _], _ => rfl
  f_Escrow_kept := f8
  d_Escrow_kept := PySem.W.fnOf "kept" "Escrow.kept" (defArgs s_Escrow_kept) (defBody s_Escrow_kept) (defScope s_Escrow_kept) .none kV8 dc8 pm8 an8 cd8 ct8
  F_Escrow_kept := fun_mk (st := s_Escrow_kept) l8 c8 k8
  b_Escrow_kept := Fun.binds (fun_mk (st := s_Escrow_kept) l8 c8 k8) (ps := ["self"]) fun _ _ _ _ _ _ us hl => match us, hl with | [_], _ => rfl
  f_Escrow_find := f9
  d_Escrow_find := PySem.W.fnOf "_find" "Escrow._find" (defArgs s_Escrow_find) (defBody s_Escrow_find) (defScope s_Escrow_find) .none kV9 dc9 pm9 an9 cd9 ct9
  F_Escrow_find := fun_mk (st := s_Escrow_find) l9 c9 k9
  b_Escrow_find := Fun.binds (fun_mk (st := s_Escrow_find) l9 c9 k9) (ps := ["self", "number"]) fun _ _ _ _ _ _ us hl => match us, hl with | [_, _], _ => rfl
  f_L_pot := f10
  d_L_pot := PySem.W.fnOf "_law_pot" "_law_pot" (defArgs s_L_pot) (defBody s_L_pot) (defScope s_L_pot) .none kV10 dc10 pm10 an10 cd10 ct10
  F_L_pot := fun_mk (st := s_L_pot) l10 c10 k10
  b_L_pot := Fun.binds (fun_mk (st := s_L_pot) l10 c10 k10) (ps := ["script"]) fun _ _ _ _ _ _ us hl => match us, hl with | [_], _ => rfl
  g_L_pot := PySem.W.mg_of X G a10
  f_L_next := f11
  d_L_next := PySem.W.fnOf "_law_next" "_law_next" (defArgs s_L_next) (defBody s_L_next) (defScope s_L_next) .none kV11 dc11 pm11 an11 cd11 ct11
  F_L_next := fun_mk (st := s_L_next) l11 c11 k11
  b_L_next := Fun.binds (fun_mk (st := s_L_next) l11 c11 k11) (ps := ["pot", "limit"]) fun _ _ _ _ _ _ us hl => match us, hl with | [_, _], _ => rfl
  g_L_next := PySem.W.mg_of X G a11
  f_L_is_int := f12
  d_L_is_int := PySem.W.fnOf "_law_is_int" "_law_is_int" (defArgs s_L_is_int) (defBody s_L_is_int) (defScope s_L_is_int) .none kV12 dc12 pm12 an12 cd12 ct12
  F_L_is_int := fun_mk (st := s_L_is_int) l12 c12 k12
  b_L_is_int := Fun.binds (fun_mk (st := s_L_is_int) l12 c12 k12) (ps := ["value"]) fun _ _ _ _ _ _ us hl => match us, hl with | [_], _ => rfl
  g_L_is_int := PySem.W.mg_of X G a12
  f_L_same := f13
  d_L_same := PySem.W.fnOf "_law_same" "_law_same" (defArgs s_L_same) (defBody s_L_same) (defScope s_L_same) .none kV13 dc13 pm13 an13 cd13 ct13
  F_L_same := fun_mk (st := s_L_same) l13 c13 k13
  b_L_same := Fun.binds (fun_mk (st := s_L_same) l13 c13 k13) (ps := ["found", "value"]) fun _ _ _ _ _ _ us hl => match us, hl with | [_, _], _ => rfl
  g_L_same := PySem.W.mg_of X G a13
  f_L_do := f14
  d_L_do := PySem.W.fnOf "_law_do" "_law_do" (defArgs s_L_do) (defBody s_L_do) (defScope s_L_do) .none kV14 dc14 pm14 an14 cd14 ct14
  F_L_do := fun_mk (st := s_L_do) l14 c14 k14
  b_L_do := Fun.binds (fun_mk (st := s_L_do) l14 c14 k14) (ps := ["escrow", "kind", "row", "number", "secret", "height"]) fun _ _ _ _ _ _ us hl => match us, hl with | [_, _, _, _, _, _], _ => rfl
  g_L_do := PySem.W.mg_of X G a14
  f_L_due := f15
  d_L_due := PySem.W.fnOf "_law_due" "_law_due" (defArgs s_L_due) (defBody s_L_due) (defScope s_L_due) .none kV15 dc15 pm15 an15 cd15 ct15
  F_L_due := fun_mk (st := s_L_due) l15 c15 k15
  b_L_due := Fun.binds (fun_mk (st := s_L_due) l15 c15 k15) (ps := ["rows", "gone", "secrets", "kind", "row", "number", "secret", "height"]) fun _ _ _ _ _ _ us hl => match us, hl with | [_, _, _, _, _, _, _, _], _ => rfl
  g_L_due := PySem.W.mg_of X G a15
  f_law := f16
  d_law := PySem.W.fnOf "law" "law" (defArgs s_law) (defBody s_law) (defScope s_law) .none kV16 dc16 pm16 an16 cd16 ct16
  F_law := fun_mk (st := s_law) l16 c16 k16
  b_law := Fun.binds (fun_mk (st := s_law) l16 c16 k16) (ps := ["script"]) fun _ _ _ _ _ _ us hl => match us, hl with | [_], _ => rfl
  g_law := PySem.W.mg_of X G a16
  C_BridgeError := C0
  g_BridgeError := PySem.W.mg_of X G aC0
  xe_BridgeError := xe0
  ke_BridgeError := ke0
  be_BridgeError := be0
  te_BridgeError := te0
  ie_BridgeError := ie0
  se_BridgeError := se0
  hd_BridgeError := hd0
  C_InvalidArgument := C1
  g_InvalidArgument := PySem.W.mg_of X G aC1
  xe_InvalidArgument := xe1
  ke_InvalidArgument := ke1
  be_InvalidArgument := be1
  te_InvalidArgument := te1
  ie_InvalidArgument := ie1
  se_InvalidArgument := se1
  hg_InvalidArgument := hg1
  hk_InvalidArgument := hk1
  hd_InvalidArgument := hd1
  ha_InvalidArgument := ha1
  hm_InvalidArgument := hm1
  hn_InvalidArgument := hn1
  ht_InvalidArgument := ht1
  ue_InvalidArgument := ue1
  C_NotEnoughWeight := C2
  g_NotEnoughWeight := PySem.W.mg_of X G aC2
  xe_NotEnoughWeight := xe2
  ke_NotEnoughWeight := ke2
  be_NotEnoughWeight := be2
  te_NotEnoughWeight := te2
  ie_NotEnoughWeight := ie2
  se_NotEnoughWeight := se2
  hg_NotEnoughWeight := hg2
  hk_NotEnoughWeight := hk2
  hd_NotEnoughWeight := hd2
  ha_NotEnoughWeight := ha2
  hm_NotEnoughWeight := hm2
  hn_NotEnoughWeight := hn2
  ht_NotEnoughWeight := ht2
  ue_NotEnoughWeight := ue2
  C_AlreadyTaken := C3
  g_AlreadyTaken := PySem.W.mg_of X G aC3
  xe_AlreadyTaken := xe3
  ke_AlreadyTaken := ke3
  be_AlreadyTaken := be3
  te_AlreadyTaken := te3
  ie_AlreadyTaken := ie3
  se_AlreadyTaken := se3
  hg_AlreadyTaken := hg3
  hk_AlreadyTaken := hk3
  hd_AlreadyTaken := hd3
  ha_AlreadyTaken := ha3
  hm_AlreadyTaken := hm3
  hn_AlreadyTaken := hn3
  ht_AlreadyTaken := ht3
  ue_AlreadyTaken := ue3
  C_UnknownTransfer := C4
  g_UnknownTransfer := PySem.W.mg_of X G aC4
  xe_UnknownTransfer := xe4
  ke_UnknownTransfer := ke4
  be_UnknownTransfer := be4
  te_UnknownTransfer := te4
  ie_UnknownTransfer := ie4
  se_UnknownTransfer := se4
  hg_UnknownTransfer := hg4
  hk_UnknownTransfer := hk4
  hd_UnknownTransfer := hd4
  ha_UnknownTransfer := ha4
  hm_UnknownTransfer := hm4
  hn_UnknownTransfer := hn4
  ht_UnknownTransfer := ht4
  ue_UnknownTransfer := ue4
  C_TooEarly := C5
  g_TooEarly := PySem.W.mg_of X G aC5
  xe_TooEarly := xe5
  ke_TooEarly := ke5
  be_TooEarly := be5
  te_TooEarly := te5
  ie_TooEarly := ie5
  se_TooEarly := se5
  hg_TooEarly := hg5
  hk_TooEarly := hk5
  hd_TooEarly := hd5
  ha_TooEarly := ha5
  hm_TooEarly := hm5
  hn_TooEarly := hn5
  ht_TooEarly := ht5
  ue_TooEarly := ue5
  C_Locks := C6
  cl_Locks := ⟨pg6, hd6, po6, sa6⟩
  g_Locks := PySem.W.mg_of X G aC6
  mk_Locks := ⟨mk6, m1, i1, kc6⟩
  m_Locks_lock := ⟨m2, i2, k2⟩
  m_Locks_opens := ⟨m3, i3, k3⟩
  n_Locks_numbers := n6_0
  C_Escrow := C7
  cl_Escrow := ⟨pg7, hd7, po7, sa7⟩
  g_Escrow := PySem.W.mg_of X G aC7
  mk_Escrow := ⟨mk7, m4, i4, kc7⟩
  m_Escrow_keep := ⟨m5, i5, k5⟩
  m_Escrow_show := ⟨m6, i6, k6⟩
  m_Escrow_give_back := ⟨m7, i7, k7⟩
  m_Escrow_kept := ⟨m8, i8, k8⟩
  m_Escrow_find := ⟨m9, i9, k9⟩
  n_Escrow_locks := n7_0
  n_Escrow_rows := n7_1
  n_Escrow_left := n7_2
  hq_AlreadyTaken_InvalidArgument := hq0
  hq_AlreadyTaken_NotEnoughWeight := hq1
  hq_AlreadyTaken_TooEarly := hq2
  hq_AlreadyTaken_UnknownTransfer := hq3
  hq_InvalidArgument_AlreadyTaken := hq4
  hq_InvalidArgument_NotEnoughWeight := hq5
  hq_InvalidArgument_TooEarly := hq6
  hq_InvalidArgument_UnknownTransfer := hq7
  hq_NotEnoughWeight_AlreadyTaken := hq8
  hq_NotEnoughWeight_InvalidArgument := hq9
  hq_NotEnoughWeight_TooEarly := hq10
  hq_NotEnoughWeight_UnknownTransfer := hq11
  hq_TooEarly_AlreadyTaken := hq12
  hq_TooEarly_InvalidArgument := hq13
  hq_TooEarly_NotEnoughWeight := hq14
  hq_TooEarly_UnknownTransfer := hq15
  hq_UnknownTransfer_AlreadyTaken := hq16
  hq_UnknownTransfer_InvalidArgument := hq17
  hq_UnknownTransfer_NotEnoughWeight := hq18
  hq_UnknownTransfer_TooEarly := hq19
  z_abs := PySem.W.mg_none_of X G z0
  z_all := PySem.W.mg_none_of X G z1
  z_bool := PySem.W.mg_none_of X G z2
  z_dict := PySem.W.mg_none_of X G z3
  z_int := PySem.W.mg_none_of X G z4
  z_isinstance := PySem.W.mg_none_of X G z5
  z_len := PySem.W.mg_none_of X G z6
  z_list := PySem.W.mg_none_of X G z7
  z_min := PySem.W.mg_none_of X G z8
  z_range := PySem.W.mg_none_of X G z9
  z_str := PySem.W.mg_none_of X G z10
  z_sum := PySem.W.mg_none_of X G z11
  z_tuple := PySem.W.mg_none_of X G z12
theorem all_mk {l : PySem.W.OpenLaw} {w : World} {K : PySem.W.Frag} {h : Heap} {mg : Str → Option Value} {fa : Addr} (X : K.In h) (G : h.Ns mainGlobals mg) (hfa : mg "law" = some (.ref fa))
    {f0 f1 f2 f3 f4 f5 f6 f7 f8 f9 f10 f11 f12 f13 f14 f15 f16 C0 C1 C2 C3 C4 C5 C6 C7 : Addr} {od0 an0 od1 an1 od2 an2 od3 an3 od4 an4 od5 an5 od6 an6 od7 an7 od8 an8 od9 an9 od10 an10 od11 an11 od12 an12 od13 an13 od14 an14 od15 an15 od16 an16 : Option Addr} {sl0 sl1 sl2 sl3 sl4 sl5 sl6 sl7 sl8 sl9 sl10 sl11 sl12 sl13 sl14 sl15 sl16 : Array (Option Value)} {oc0 kV0 dc0 pm0 cd0 ct0 oc1 kV1 dc1 pm1 cd1 ct1 oc2 kV2 dc2 pm2 cd2 ct2 oc3 kV3 dc3 pm3 cd3 ct3 oc4 kV4 dc4 pm4 cd4 ct4 oc5 kV5 dc5 pm5 cd5 ct5 oc6 kV6 dc6 pm6 cd6 ct6 oc7 kV7 dc7 pm7 cd7 ct7 oc8 kV8 dc8 pm8 cd8 ct8 oc9 kV9 dc9 pm9 cd9 ct9 oc10 kV10 dc10 pm10 cd10 ct10 oc11 kV11 dc11 pm11 cd11 ct11 oc12 kV12 dc12 pm12 cd12 ct12 oc13 kV13 dc13 pm13 cd13 ct13 oc14 kV14 dc14 pm14 cd14 ct14 oc15 kV15 dc15 pm15 cd15 ct15 oc16 kV16 dc16 pm16 cd16 ct16 : Value}
    (a0 : PySem.W.nsIn K mainGlobals "_wall" = some (some (.ref f0)))
    (a10 : PySem.W.nsIn K mainGlobals "_law_pot" = some (some (.ref f10)))
    (a11 : PySem.W.nsIn K mainGlobals "_law_next" = some (some (.ref f11)))
    (a12 : PySem.W.nsIn K mainGlobals "_law_is_int" = some (some (.ref f12)))
    (a13 : PySem.W.nsIn K mainGlobals "_law_same" = some (some (.ref f13)))
    (a14 : PySem.W.nsIn K mainGlobals "_law_do" = some (some (.ref f14)))
    (a15 : PySem.W.nsIn K mainGlobals "_law_due" = some (some (.ref f15)))
    (a16 : PySem.W.nsIn K mainGlobals "law" = some (some (.ref f16)))
    (aC0 : PySem.W.nsIn K mainGlobals "BridgeError" = some (some (.ref C0)))
    (aC1 : PySem.W.nsIn K mainGlobals "InvalidArgument" = some (some (.ref C1)))
    (aC2 : PySem.W.nsIn K mainGlobals "NotEnoughWeight" = some (some (.ref C2)))
    (aC3 : PySem.W.nsIn K mainGlobals "AlreadyTaken" = some (some (.ref C3)))
    (aC4 : PySem.W.nsIn K mainGlobals "UnknownTransfer" = some (some (.ref C4)))
    (aC5 : PySem.W.nsIn K mainGlobals "TooEarly" = some (some (.ref C5)))
    (aC6 : PySem.W.nsIn K mainGlobals "Locks" = some (some (.ref C6)))
    (aC7 : PySem.W.nsIn K mainGlobals "Escrow" = some (some (.ref C7)))
    (m1 : PySem.W.findIn K (.ref C6) "__init__" = some (some (.ref f1)))
    (m2 : PySem.W.findIn K (.ref C6) "lock" = some (some (.ref f2)))
    (m3 : PySem.W.findIn K (.ref C6) "opens" = some (some (.ref f3)))
    (m4 : PySem.W.findIn K (.ref C7) "__init__" = some (some (.ref f4)))
    (m5 : PySem.W.findIn K (.ref C7) "keep" = some (some (.ref f5)))
    (m6 : PySem.W.findIn K (.ref C7) "show" = some (some (.ref f6)))
    (m7 : PySem.W.findIn K (.ref C7) "give_back" = some (some (.ref f7)))
    (m8 : PySem.W.findIn K (.ref C7) "kept" = some (some (.ref f8)))
    (m9 : PySem.W.findIn K (.ref C7) "_find" = some (some (.ref f9)))
    (l0 : K.lookup f0 = some ⟨oc0, od0, .func (PySem.W.fnOf "_wall" "_wall" (defArgs s__wall) (defBody s__wall) (defScope s__wall) .none kV0 dc0 pm0 an0 cd0 ct0), sl0⟩)
    (c0 : PySem.W.codeIn K cd0 "_wall" = true)
    (k0 : PySem.W.keepIn K (.ref f0) = true)
    (l1 : K.lookup f1 = some ⟨oc1, od1, .func (PySem.W.fnOf "__init__" "Locks.__init__" (defArgs s_Locks_init) (defBody s_Locks_init) (defScope s_Locks_init) .none kV1 dc1 pm1 an1 cd1 ct1), sl1⟩)
    (c1 : PySem.W.codeIn K cd1 "Locks.__init__" = true)
    (k1 : PySem.W.keepIn K (.ref f1) = true)
    (l2 : K.lookup f2 = some ⟨oc2, od2, .func (PySem.W.fnOf "lock" "Locks.lock" (defArgs s_Locks_lock) (defBody s_Locks_lock) (defScope s_Locks_lock) .none kV2 dc2 pm2 an2 cd2 ct2), sl2⟩)
    (c2 : PySem.W.codeIn K cd2 "Locks.lock" = true)
    (k2 : PySem.W.keepIn K (.ref f2) = true)
    (l3 : K.lookup f3 = some ⟨oc3, od3, .func (PySem.W.fnOf "opens" "Locks.opens" (defArgs s_Locks_opens) (defBody s_Locks_opens) (defScope s_Locks_opens) .none kV3 dc3 pm3 an3 cd3 ct3), sl3⟩)
    (c3 : PySem.W.codeIn K cd3 "Locks.opens" = true)
    (k3 : PySem.W.keepIn K (.ref f3) = true)
    (l4 : K.lookup f4 = some ⟨oc4, od4, .func (PySem.W.fnOf "__init__" "Escrow.__init__" (defArgs s_Escrow_init) (defBody s_Escrow_init) (defScope s_Escrow_init) .none kV4 dc4 pm4 an4 cd4 ct4), sl4⟩)
    (c4 : PySem.W.codeIn K cd4 "Escrow.__init__" = true)
    (k4 : PySem.W.keepIn K (.ref f4) = true)
    (l5 : K.lookup f5 = some ⟨oc5, od5, .func (PySem.W.fnOf "keep" "Escrow.keep" (defArgs s_Escrow_keep) (defBody s_Escrow_keep) (defScope s_Escrow_keep) .none kV5 dc5 pm5 an5 cd5 ct5), sl5⟩)
    (c5 : PySem.W.codeIn K cd5 "Escrow.keep" = true)
    (k5 : PySem.W.keepIn K (.ref f5) = true)
    (l6 : K.lookup f6 = some ⟨oc6, od6, .func (PySem.W.fnOf "show" "Escrow.show" (defArgs s_Escrow_show) (defBody s_Escrow_show) (defScope s_Escrow_show) .none kV6 dc6 pm6 an6 cd6 ct6), sl6⟩)
    (c6 : PySem.W.codeIn K cd6 "Escrow.show" = true)
    (k6 : PySem.W.keepIn K (.ref f6) = true)
    (l7 : K.lookup f7 = some ⟨oc7, od7, .func (PySem.W.fnOf "give_back" "Escrow.give_back" (defArgs s_Escrow_give_back) (defBody s_Escrow_give_back) (defScope s_Escrow_give_back) .none kV7 dc7 pm7 an7 cd7 ct7), sl7⟩)
    (c7 : PySem.W.codeIn K cd7 "Escrow.give_back" = true)
    (k7 : PySem.W.keepIn K (.ref f7) = true)
    (l8 : K.lookup f8 = some ⟨oc8, od8, .func (PySem.W.fnOf "kept" "Escrow.kept" (defArgs s_Escrow_kept) (defBody s_Escrow_kept) (defScope s_Escrow_kept) .none kV8 dc8 pm8 an8 cd8 ct8), sl8⟩)
    (c8 : PySem.W.codeIn K cd8 "Escrow.kept" = true)
    (k8 : PySem.W.keepIn K (.ref f8) = true)
    (l9 : K.lookup f9 = some ⟨oc9, od9, .func (PySem.W.fnOf "_find" "Escrow._find" (defArgs s_Escrow_find) (defBody s_Escrow_find) (defScope s_Escrow_find) .none kV9 dc9 pm9 an9 cd9 ct9), sl9⟩)
    (c9 : PySem.W.codeIn K cd9 "Escrow._find" = true)
    (k9 : PySem.W.keepIn K (.ref f9) = true)
    (l10 : K.lookup f10 = some ⟨oc10, od10, .func (PySem.W.fnOf "_law_pot" "_law_pot" (defArgs s_L_pot) (defBody s_L_pot) (defScope s_L_pot) .none kV10 dc10 pm10 an10 cd10 ct10), sl10⟩)
    (c10 : PySem.W.codeIn K cd10 "_law_pot" = true)
    (k10 : PySem.W.keepIn K (.ref f10) = true)
    (l11 : K.lookup f11 = some ⟨oc11, od11, .func (PySem.W.fnOf "_law_next" "_law_next" (defArgs s_L_next) (defBody s_L_next) (defScope s_L_next) .none kV11 dc11 pm11 an11 cd11 ct11), sl11⟩)
    (c11 : PySem.W.codeIn K cd11 "_law_next" = true)
    (k11 : PySem.W.keepIn K (.ref f11) = true)
    (l12 : K.lookup f12 = some ⟨oc12, od12, .func (PySem.W.fnOf "_law_is_int" "_law_is_int" (defArgs s_L_is_int) (defBody s_L_is_int) (defScope s_L_is_int) .none kV12 dc12 pm12 an12 cd12 ct12), sl12⟩)
    (c12 : PySem.W.codeIn K cd12 "_law_is_int" = true)
    (k12 : PySem.W.keepIn K (.ref f12) = true)
    (l13 : K.lookup f13 = some ⟨oc13, od13, .func (PySem.W.fnOf "_law_same" "_law_same" (defArgs s_L_same) (defBody s_L_same) (defScope s_L_same) .none kV13 dc13 pm13 an13 cd13 ct13), sl13⟩)
    (c13 : PySem.W.codeIn K cd13 "_law_same" = true)
    (k13 : PySem.W.keepIn K (.ref f13) = true)
    (l14 : K.lookup f14 = some ⟨oc14, od14, .func (PySem.W.fnOf "_law_do" "_law_do" (defArgs s_L_do) (defBody s_L_do) (defScope s_L_do) .none kV14 dc14 pm14 an14 cd14 ct14), sl14⟩)
    (c14 : PySem.W.codeIn K cd14 "_law_do" = true)
    (k14 : PySem.W.keepIn K (.ref f14) = true)
    (l15 : K.lookup f15 = some ⟨oc15, od15, .func (PySem.W.fnOf "_law_due" "_law_due" (defArgs s_L_due) (defBody s_L_due) (defScope s_L_due) .none kV15 dc15 pm15 an15 cd15 ct15), sl15⟩)
    (c15 : PySem.W.codeIn K cd15 "_law_due" = true)
    (k15 : PySem.W.keepIn K (.ref f15) = true)
    (l16 : K.lookup f16 = some ⟨oc16, od16, .func (PySem.W.fnOf "law" "law" (defArgs s_law) (defBody s_law) (defScope s_law) .none kV16 dc16 pm16 an16 cd16 ct16), sl16⟩)
    (c16 : PySem.W.codeIn K cd16 "law" = true)
    (k16 : PySem.W.keepIn K (.ref f16) = true)
    (xe0 : PySem.W.excIn K C0 [.type "ValueError", .type "Exception", .type "BaseException", .type "object"] "ValueError.__new__" = true)
    (ke0 : PySem.W.keepIn K (.ref C0) = true)
    (be0 : PySem.W.subIn K (.ref C0) (.type "BaseException") = some true)
    (te0 : PySem.W.typeIn K (.ref C0) = some (.type "type"))
    (ie0 : PySem.W.isClsIn K C0 = true)
    (se0 : PySem.W.subIn K (.ref C0) (.ref C0) = some true)
    (hd0 : PySem.W.hasDictIn K C0 = true)
    (xe1 : PySem.W.excIn K C1 [.type "ValueError", .type "Exception", .type "BaseException", .type "object"] "ValueError.__new__" = true)
    (ke1 : PySem.W.keepIn K (.ref C1) = true)
    (be1 : PySem.W.subIn K (.ref C1) (.type "BaseException") = some true)
    (te1 : PySem.W.typeIn K (.ref C1) = some (.type "type"))
    (ie1 : PySem.W.isClsIn K C1 = true)
    (se1 : PySem.W.subIn K (.ref C1) (.ref C1) = some true)
    (hg1 : PySem.W.findIn K (.ref C1) "__getattribute__" = some (some (.builtin "BaseException.__getattribute__")))
    (hk1 : PySem.W.findIn K (.ref C1) "__getattr__" = some none)
    (hd1 : PySem.W.hasDictIn K C1 = true)
    (ha1 : PySem.W.findIn K (.ref C1) "__class__" = some (some (.builtin "object.__class__")))
    (hm1 : PySem.W.mroIn K C1 (.type "object") = some true)
    (hn1 : PySem.W.specialIn K (.builtin "object.__class__") "__get__" = some (some (.builtin "getset_descriptor.__get__")))
    (ht1 : PySem.W.takesIn K (.builtin "object.__class__") = some true)
    (ue1 : PySem.W.subIn K (.ref C1) (.ref C0) = some true)
    (xe2 : PySem.W.excIn K C2 [.type "ValueError", .type "Exception", .type "BaseException", .type "object"] "ValueError.__new__" = true)
    (ke2 : PySem.W.keepIn K (.ref C2) = true)
    (be2 : PySem.W.subIn K (.ref C2) (.type "BaseException") = some true)
    (te2 : PySem.W.typeIn K (.ref C2) = some (.type "type"))
    (ie2 : PySem.W.isClsIn K C2 = true)
    (se2 : PySem.W.subIn K (.ref C2) (.ref C2) = some true)
    (hg2 : PySem.W.findIn K (.ref C2) "__getattribute__" = some (some (.builtin "BaseException.__getattribute__")))
    (hk2 : PySem.W.findIn K (.ref C2) "__getattr__" = some none)
    (hd2 : PySem.W.hasDictIn K C2 = true)
    (ha2 : PySem.W.findIn K (.ref C2) "__class__" = some (some (.builtin "object.__class__")))
    (hm2 : PySem.W.mroIn K C2 (.type "object") = some true)
    (hn2 : PySem.W.specialIn K (.builtin "object.__class__") "__get__" = some (some (.builtin "getset_descriptor.__get__")))
    (ht2 : PySem.W.takesIn K (.builtin "object.__class__") = some true)
    (ue2 : PySem.W.subIn K (.ref C2) (.ref C0) = some true)
    (xe3 : PySem.W.excIn K C3 [.type "ValueError", .type "Exception", .type "BaseException", .type "object"] "ValueError.__new__" = true)
    (ke3 : PySem.W.keepIn K (.ref C3) = true)
    (be3 : PySem.W.subIn K (.ref C3) (.type "BaseException") = some true)
    (te3 : PySem.W.typeIn K (.ref C3) = some (.type "type"))
    (ie3 : PySem.W.isClsIn K C3 = true)
    (se3 : PySem.W.subIn K (.ref C3) (.ref C3) = some true)
    (hg3 : PySem.W.findIn K (.ref C3) "__getattribute__" = some (some (.builtin "BaseException.__getattribute__")))
    (hk3 : PySem.W.findIn K (.ref C3) "__getattr__" = some none)
    (hd3 : PySem.W.hasDictIn K C3 = true)
    (ha3 : PySem.W.findIn K (.ref C3) "__class__" = some (some (.builtin "object.__class__")))
    (hm3 : PySem.W.mroIn K C3 (.type "object") = some true)
    (hn3 : PySem.W.specialIn K (.builtin "object.__class__") "__get__" = some (some (.builtin "getset_descriptor.__get__")))
    (ht3 : PySem.W.takesIn K (.builtin "object.__class__") = some true)
    (ue3 : PySem.W.subIn K (.ref C3) (.ref C0) = some true)
    (xe4 : PySem.W.excIn K C4 [.type "ValueError", .type "Exception", .type "BaseException", .type "object"] "ValueError.__new__" = true)
    (ke4 : PySem.W.keepIn K (.ref C4) = true)
    (be4 : PySem.W.subIn K (.ref C4) (.type "BaseException") = some true)
    (te4 : PySem.W.typeIn K (.ref C4) = some (.type "type"))
    (ie4 : PySem.W.isClsIn K C4 = true)
    (se4 : PySem.W.subIn K (.ref C4) (.ref C4) = some true)
    (hg4 : PySem.W.findIn K (.ref C4) "__getattribute__" = some (some (.builtin "BaseException.__getattribute__")))
    (hk4 : PySem.W.findIn K (.ref C4) "__getattr__" = some none)
    (hd4 : PySem.W.hasDictIn K C4 = true)
    (ha4 : PySem.W.findIn K (.ref C4) "__class__" = some (some (.builtin "object.__class__")))
    (hm4 : PySem.W.mroIn K C4 (.type "object") = some true)
    (hn4 : PySem.W.specialIn K (.builtin "object.__class__") "__get__" = some (some (.builtin "getset_descriptor.__get__")))
    (ht4 : PySem.W.takesIn K (.builtin "object.__class__") = some true)
    (ue4 : PySem.W.subIn K (.ref C4) (.ref C0) = some true)
    (xe5 : PySem.W.excIn K C5 [.type "ValueError", .type "Exception", .type "BaseException", .type "object"] "ValueError.__new__" = true)
    (ke5 : PySem.W.keepIn K (.ref C5) = true)
    (be5 : PySem.W.subIn K (.ref C5) (.type "BaseException") = some true)
    (te5 : PySem.W.typeIn K (.ref C5) = some (.type "type"))
    (ie5 : PySem.W.isClsIn K C5 = true)
    (se5 : PySem.W.subIn K (.ref C5) (.ref C5) = some true)
    (hg5 : PySem.W.findIn K (.ref C5) "__getattribute__" = some (some (.builtin "BaseException.__getattribute__")))
    (hk5 : PySem.W.findIn K (.ref C5) "__getattr__" = some none)
    (hd5 : PySem.W.hasDictIn K C5 = true)
    (ha5 : PySem.W.findIn K (.ref C5) "__class__" = some (some (.builtin "object.__class__")))
    (hm5 : PySem.W.mroIn K C5 (.type "object") = some true)
    (hn5 : PySem.W.specialIn K (.builtin "object.__class__") "__get__" = some (some (.builtin "getset_descriptor.__get__")))
    (ht5 : PySem.W.takesIn K (.builtin "object.__class__") = some true)
    (ue5 : PySem.W.subIn K (.ref C5) (.ref C0) = some true)
    (pg6 : PySem.W.plainGet K C6 Str.empty = true)
    (hd6 : PySem.W.hasDictIn K C6 = true)
    (po6 : PySem.W.plainOver K C6 = true)
    (sa6 : PySem.W.findIn K (.ref C6) "__setattr__" = some (some (.builtin "object.__setattr__")))
    (mk6 : PySem.W.makesIn K C6 = true)
    (kc6 : PySem.W.keepIn K (.ref C6) = true)
    (i1 : PySem.W.isFn K (.ref f1) = true)
    (i2 : PySem.W.isFn K (.ref f2) = true)
    (i3 : PySem.W.isFn K (.ref f3) = true)
    (n6_0 : PySem.W.findIn K (.ref C6) "_numbers" = some none)
    (pg7 : PySem.W.plainGet K C7 Str.empty = true)
    (hd7 : PySem.W.hasDictIn K C7 = true)
    (po7 : PySem.W.plainOver K C7 = true)
    (sa7 : PySem.W.findIn K (.ref C7) "__setattr__" = some (some (.builtin "object.__setattr__")))
    (mk7 : PySem.W.makesIn K C7 = true)
    (kc7 : PySem.W.keepIn K (.ref C7) = true)
    (i4 : PySem.W.isFn K (.ref f4) = true)
    (i5 : PySem.W.isFn K (.ref f5) = true)
    (i6 : PySem.W.isFn K (.ref f6) = true)
    (i7 : PySem.W.isFn K (.ref f7) = true)
    (i8 : PySem.W.isFn K (.ref f8) = true)
    (i9 : PySem.W.isFn K (.ref f9) = true)
    (n7_0 : PySem.W.findIn K (.ref C7) "_locks" = some none)
    (n7_1 : PySem.W.findIn K (.ref C7) "_rows" = some none)
    (n7_2 : PySem.W.findIn K (.ref C7) "_left" = some none)
    (hq0 : PySem.W.kitOne K (.ref C3) (.ref C1) = some false)
    (hq1 : PySem.W.kitOne K (.ref C3) (.ref C2) = some false)
    (hq2 : PySem.W.kitOne K (.ref C3) (.ref C5) = some false)
    (hq3 : PySem.W.kitOne K (.ref C3) (.ref C4) = some false)
    (hq4 : PySem.W.kitOne K (.ref C1) (.ref C3) = some false)
    (hq5 : PySem.W.kitOne K (.ref C1) (.ref C2) = some false)
    (hq6 : PySem.W.kitOne K (.ref C1) (.ref C5) = some false)
    (hq7 : PySem.W.kitOne K (.ref C1) (.ref C4) = some false)
    (hq8 : PySem.W.kitOne K (.ref C2) (.ref C3) = some false)
    (hq9 : PySem.W.kitOne K (.ref C2) (.ref C1) = some false)
    (hq10 : PySem.W.kitOne K (.ref C2) (.ref C5) = some false)
    (hq11 : PySem.W.kitOne K (.ref C2) (.ref C4) = some false)
    (hq12 : PySem.W.kitOne K (.ref C5) (.ref C3) = some false)
    (hq13 : PySem.W.kitOne K (.ref C5) (.ref C1) = some false)
    (hq14 : PySem.W.kitOne K (.ref C5) (.ref C2) = some false)
    (hq15 : PySem.W.kitOne K (.ref C5) (.ref C4) = some false)
    (hq16 : PySem.W.kitOne K (.ref C4) (.ref C3) = some false)
    (hq17 : PySem.W.kitOne K (.ref C4) (.ref C1) = some false)
    (hq18 : PySem.W.kitOne K (.ref C4) (.ref C2) = some false)
    (hq19 : PySem.W.kitOne K (.ref C4) (.ref C5) = some false)
    (z0 : PySem.W.nsIn K mainGlobals "abs" = some none)
    (z1 : PySem.W.nsIn K mainGlobals "all" = some none)
    (z2 : PySem.W.nsIn K mainGlobals "bool" = some none)
    (z3 : PySem.W.nsIn K mainGlobals "dict" = some none)
    (z4 : PySem.W.nsIn K mainGlobals "int" = some none)
    (z5 : PySem.W.nsIn K mainGlobals "isinstance" = some none)
    (z6 : PySem.W.nsIn K mainGlobals "len" = some none)
    (z7 : PySem.W.nsIn K mainGlobals "list" = some none)
    (z8 : PySem.W.nsIn K mainGlobals "min" = some none)
    (z9 : PySem.W.nsIn K mainGlobals "range" = some none)
    (z10 : PySem.W.nsIn K mainGlobals "str" = some none)
    (z11 : PySem.W.nsIn K mainGlobals "sum" = some none)
    (z12 : PySem.W.nsIn K mainGlobals "tuple" = some none) :
    ∃ fd : FuncData, (∀ (s : Shared) (v : Value), BindsTo s fd ⟨[v], []⟩ [("script", v)]) ∧ ∀ base : Heap, K.In base → base.Ns mainGlobals mg → FnOk l.prog w K mg base CX0 4 fa fd ["script"] (spLaw K) := by
  have e := hfa.symm.trans (PySem.W.mg_of X G a16)
  cases e
  exact ⟨PySem.W.fnOf "law" "law" (defArgs s_law) (defBody s_law) (defScope s_law) .none kV16 dc16 pm16 an16 cd16 ct16, fun s v => .of_eq rfl, fun base _ _ => ok_law (txt_mk X G a0 a10 a11 a12 a13 a14 a15 a16 aC0 aC1 aC2 aC3 aC4 aC5 aC6 aC7 m1 m2 m3 m4 m5 m6 m7 m8 m9 l0 c0 k0 l1 c1 k1 l2 c2 k2 l3 c3 k3 l4 c4 k4 l5 c5 k5 l6 c6 k6 l7 c7 k7 l8 c8 k8 l9 c9 k9 l10 c10 k10 l11 c11 k11 l12 c12 k12 l13 c13 k13 l14 c14 k14 l15 c15 k15 l16 c16 k16 xe0 ke0 be0 te0 ie0 se0 hd0 xe1 ke1 be1 te1 ie1 se1 hg1 hk1 hd1 ha1 hm1 hn1 ht1 ue1 xe2 ke2 be2 te2 ie2 se2 hg2 hk2 hd2 ha2 hm2 hn2 ht2 ue2 xe3 ke3 be3 te3 ie3 se3 hg3 hk3 hd3 ha3 hm3 hn3 ht3 ue3 xe4 ke4 be4 te4 ie4 se4 hg4 hk4 hd4 ha4 hm4 hn4 ht4 ue4 xe5 ke5 be5 te5 ie5 se5 hg5 hk5 hd5 ha5 hm5 hn5 ht5 ue5 pg6 hd6 po6 sa6 mk6 kc6 i1 i2 i3 n6_0 pg7 hd7 po7 sa7 mk7 kc7 i4 i5 i6 i7 i8 i9 n7_0 n7_1 n7_2 hq0 hq1 hq2 hq3 hq4 hq5 hq6 hq7 hq8 hq9 hq10 hq11 hq12 hq13 hq14 hq15 hq16 hq17 hq18 hq19 z0 z1 z2 z3 z4 z5 z6 z7 z8 z9 z10 z11 z12)⟩
end Pf
open PySem PySem.W PyProof.Rows
set_option maxRecDepth 100000 in
set_option maxHeartbeats 0 in
theorem PySem.Challenge.cw_vaultbridge_k46_escrows_holds : PySem.Challenge.rw_vaultbridge_k46_escrows.Holds := by
  w_on; o_law; k_head; (case hw => w_witness2)
  k_fill
  refine L2.walk_of (l := PySem.Challenge.rw_vaultbridge_k46_escrows) (n := 63) (k := 4) (x := "script") (CX := fun _ => L2.CX0) (sp := fun w => Pf.spLaw _) rfl (by decide) rfl ⟨rfl, by decide, by decide⟩ (fun w h Y => PySem.W.kIn_of Y) ?F (fun _ _ a ns hl _ hS => ⟨a, ns, rfl, hS, hl, fun _ => rfl⟩) (fun _ _ _ _ _ h => h)
  case F =>
    intro w mg fa h KX G hmg
    refine' Pf.all_mk KX G hmg ?a0 ?a10 ?a11 ?a12 ?a13 ?a14 ?a15 ?a16 ?aC0 ?aC1 ?aC2 ?aC3 ?aC4 ?aC5 ?aC6 ?aC7 ?m1 ?m2 ?m3 ?m4 ?m5 ?m6 ?m7 ?m8 ?m9 ?l0 ?c0 ?k0 ?l1 ?c1 ?k1 ?l2 ?c2 ?k2 ?l3 ?c3 ?k3 ?l4 ?c4 ?k4 ?l5 ?c5 ?k5 ?l6 ?c6 ?k6 ?l7 ?c7 ?k7 ?l8 ?c8 ?k8 ?l9 ?c9 ?k9 ?l10 ?c10 ?k10 ?l11 ?c11 ?k11 ?l12 ?c12 ?k12 ?l13 ?c13 ?k13 ?l14 ?c14 ?k14 ?l15 ?c15 ?k15 ?l16 ?c16 ?k16 ?xe0 ?ke0 ?be0 ?te0 ?ie0 ?se0 ?hd0 ?xe1 ?ke1 ?be1 ?te1 ?ie1 ?se1 ?hg1 ?hk1 ?hd1 ?ha1 ?hm1 ?hn1 ?ht1 ?ue1 ?xe2 ?ke2 ?be2 ?te2 ?ie2 ?se2 ?hg2 ?hk2 ?hd2 ?ha2 ?hm2 ?hn2 ?ht2 ?ue2 ?xe3 ?ke3 ?be3 ?te3 ?ie3 ?se3 ?hg3 ?hk3 ?hd3 ?ha3 ?hm3 ?hn3 ?ht3 ?ue3 ?xe4 ?ke4 ?be4 ?te4 ?ie4 ?se4 ?hg4 ?hk4 ?hd4 ?ha4 ?hm4 ?hn4 ?ht4 ?ue4 ?xe5 ?ke5 ?be5 ?te5 ?ie5 ?se5 ?hg5 ?hk5 ?hd5 ?ha5 ?hm5 ?hn5 ?ht5 ?ue5 ?pg6 ?hd6 ?po6 ?sa6 ?mk6 ?kc6 ?i1 ?i2 ?i3 ?n6_0 ?pg7 ?hd7 ?po7 ?sa7 ?mk7 ?kc7 ?i4 ?i5 ?i6 ?i7 ?i8 ?i9 ?n7_0 ?n7_1 ?n7_2 ?hq0 ?hq1 ?hq2 ?hq3 ?hq4 ?hq5 ?hq6 ?hq7 ?hq8 ?hq9 ?hq10 ?hq11 ?hq12 ?hq13 ?hq14 ?hq15 ?hq16 ?hq17 ?hq18 ?hq19 ?z0 ?z1 ?z2 ?z3 ?z4 ?z5 ?z6 ?z7 ?z8 ?z9 ?z10 ?z11 ?z12
    (case a0 => k_is)
    (case a10 => k_is)
    (case a11 => k_is)
    (case a12 => k_is)
    (case a13 => k_is)
    (case a14 => k_is)
    (case a15 => k_is)
    (case a16 => k_is)
    (case aC0 => k_is)
    (case aC1 => k_is)
    (case aC2 => k_is)
    (case aC3 => k_is)
    (case aC4 => k_is)
    (case aC5 => k_is)
    (case aC6 => k_is)
    (case aC7 => k_is)
    (case m1 => k_is)
    (case m2 => k_is)
    (case m3 => k_is)
    (case m4 => k_is)
    (case m5 => k_is)
    (case m6 => k_is)
    (case m7 => k_is)
    (case m8 => k_is)
    (case m9 => k_is)
    (case l0 => k_is)
    (case c0 => k_is)
    (case k0 => k_is)
    (case l1 => k_is)
    (case c1 => k_is)
    (case k1 => k_is)
    (case l2 => k_is)
    (case c2 => k_is)
    (case k2 => k_is)
    (case l3 => k_is)
    (case c3 => k_is)
    (case k3 => k_is)
    (case l4 => k_is)
    (case c4 => k_is)
    (case k4 => k_is)
    (case l5 => k_is)
    (case c5 => k_is)
    (case k5 => k_is)
    (case l6 => k_is)
    (case c6 => k_is)
    (case k6 => k_is)
    (case l7 => k_is)
    (case c7 => k_is)
    (case k7 => k_is)
    (case l8 => k_is)
    (case c8 => k_is)
    (case k8 => k_is)
    (case l9 => k_is)
    (case c9 => k_is)
    (case k9 => k_is)
    (case l10 => k_is)
    (case c10 => k_is)
    (case k10 => k_is)
    (case l11 => k_is)
    (case c11 => k_is)
    (case k11 => k_is)
    (case l12 => k_is)
    (case c12 => k_is)
    (case k12 => k_is)
    (case l13 => k_is)
    (case c13 => k_is)
    (case k13 => k_is)
    (case l14 => k_is)
    (case c14 => k_is)
    (case k14 => k_is)
    (case l15 => k_is)
    (case c15 => k_is)
    (case k15 => k_is)
    (case l16 => k_is)
    (case c16 => k_is)
    (case k16 => k_is)
    (case xe0 => k_exc)
    (case ke0 => k_is)
    (case be0 => k_is)
    (case te0 => k_is)
    (case ie0 => k_is)
    (case se0 => k_is)
    (case hd0 => k_is)
    (case xe1 => k_exc)
    (case ke1 => k_is)
    (case be1 => k_is)
    (case te1 => k_is)
    (case ie1 => k_is)
    (case se1 => k_is)
    (case hg1 => k_is)
    (case hk1 => k_is)
    (case hd1 => k_is)
    (case ha1 => k_is)
    (case hm1 => k_is)
    (case hn1 => k_is)
    (case ht1 => k_is)
    (case ue1 => k_is)
    (case xe2 => k_exc)
    (case ke2 => k_is)
    (case be2 => k_is)
    (case te2 => k_is)
    (case ie2 => k_is)
    (case se2 => k_is)
    (case hg2 => k_is)
    (case hk2 => k_is)
    (case hd2 => k_is)
    (case ha2 => k_is)
    (case hm2 => k_is)
    (case hn2 => k_is)
    (case ht2 => k_is)
    (case ue2 => k_is)
    (case xe3 => k_exc)
    (case ke3 => k_is)
    (case be3 => k_is)
    (case te3 => k_is)
    (case ie3 => k_is)
    (case se3 => k_is)
    (case hg3 => k_is)
    (case hk3 => k_is)
    (case hd3 => k_is)
    (case ha3 => k_is)
    (case hm3 => k_is)
    (case hn3 => k_is)
    (case ht3 => k_is)
    (case ue3 => k_is)
    (case xe4 => k_exc)
    (case ke4 => k_is)
    (case be4 => k_is)
    (case te4 => k_is)
    (case ie4 => k_is)
    (case se4 => k_is)
    (case hg4 => k_is)
    (case hk4 => k_is)
    (case hd4 => k_is)
    (case ha4 => k_is)
    (case hm4 => k_is)
    (case hn4 => k_is)
    (case ht4 => k_is)
    (case ue4 => k_is)
    (case xe5 => k_exc)
    (case ke5 => k_is)
    (case be5 => k_is)
    (case te5 => k_is)
    (case ie5 => k_is)
    (case se5 => k_is)
    (case hg5 => k_is)
    (case hk5 => k_is)
    (case hd5 => k_is)
    (case ha5 => k_is)
    (case hm5 => k_is)
    (case hn5 => k_is)
    (case ht5 => k_is)
    (case ue5 => k_is)
    (case pg6 => k_is)
    (case hd6 => k_is)
    (case po6 => k_is)
    (case sa6 => k_is)
    (case mk6 => k_is)
    (case kc6 => k_is)
    (case i1 => k_is)
    (case i2 => k_is)
    (case i3 => k_is)
    (case n6_0 => k_is)
    (case pg7 => k_is)
    (case hd7 => k_is)
    (case po7 => k_is)
    (case sa7 => k_is)
    (case mk7 => k_is)
    (case kc7 => k_is)
    (case i4 => k_is)
    (case i5 => k_is)
    (case i6 => k_is)
    (case i7 => k_is)
    (case i8 => k_is)
    (case i9 => k_is)
    (case n7_0 => k_is)
    (case n7_1 => k_is)
    (case n7_2 => k_is)
    (case hq0 => kit_is)
    (case hq1 => kit_is)
    (case hq2 => kit_is)
    (case hq3 => kit_is)
    (case hq4 => kit_is)
    (case hq5 => kit_is)
    (case hq6 => kit_is)
    (case hq7 => kit_is)
    (case hq8 => kit_is)
    (case hq9 => kit_is)
    (case hq10 => kit_is)
    (case hq11 => kit_is)
    (case hq12 => kit_is)
    (case hq13 => kit_is)
    (case hq14 => kit_is)
    (case hq15 => kit_is)
    (case hq16 => kit_is)
    (case hq17 => kit_is)
    (case hq18 => kit_is)
    (case hq19 => kit_is)
    (case z0 => k_is)
    (case z1 => k_is)
    (case z2 => k_is)
    (case z3 => k_is)
    (case z4 => k_is)
    (case z5 => k_is)
    (case z6 => k_is)
    (case z7 => k_is)
    (case z8 => k_is)
    (case z9 => k_is)
    (case z10 => k_is)
    (case z11 => k_is)
    (case z12 => k_is)
