
import PyProof.Rows.All
import HandS.WordsExc
import HandS.SetKeys
import HandS.Flow
import HandS.ExcIs
import HandS.Sort
import HandS.Wide
import HandS.NoneIn
import HandS.Walk
import PyProof.SumWalkG
import KE.KeyNested
import Wide.All
import OpenK.AllK
import Wide.FinOn
import HandS.ForMost
import HandS.TupAny
import HandS.Deep
import HandS.IsInst
import HandS.Style
import HandS.Steps
import HandS.Evl
import HandS.Defaults
import HandS.MakeKwOnly
import PySem.Challenge.RW_vaultbridge_k42_pools_are_fair
set_option Elab.async false
set_option linter.all false
set_option maxRecDepth 100000
set_option maxHeartbeats 1000000
namespace Pf
open PySem PySem.Spec PyProof.Rows L2


/-! readings, one step a lemma -/
section
open PySem PySem.Spec PyProof.Rows L2
variable {K : PySem.W.Frag} {σ : L2.St} {H H1 H' : Hp} {Q : VK} {D : Ends} {t u : TS} {ta tb tc te : TE} {tt tu : TT} {tr : TA} {g : TG} {v x y : V} {i j : Int} {a b p l : Addr} {xs ys : List V} {o : HO}

/-! heaps -/
theorem upd_new {c : Addr} {w : HO} (hb : H b = none) (h : H c = some o) : upd H b w c = some o := by
  rw [upd_ne (ne_of_none h hb)]; exact h
theorem upd_other {c : Addr} {w : HO} (hb : c ≠ b) (h : H c = some o) : upd H b w c = some o := by
  rw [upd_ne hb]; exact h
theorem upd_free {c : Addr} {w : HO} (hb : c ≠ b) (h : H c = none) : upd H b w c = none := by
  rw [upd_ne hb]; exact h
theorem upd_none_ne {c : Addr} {w : HO} (h : upd H b w c = none) : c ≠ b := fun e => by rw [e, upd_same] at h; cases h
theorem upd_none_back {c : Addr} {w : HO} (h : upd H b w c = none) : H c = none := by rw [upd_ne (upd_none_ne h)] at h; exact h
/-- everything but p stays -/
def Kp (p : Addr) (H H' : Hp) : Prop := ∀ b o, H b = some o → b ≠ p → H' b = some o
theorem Kp.get {c : Addr} (k : Kp p H H') (h : H c = some o) (n : c ≠ p) : H' c = some o := k c o h n
theorem Kp.refl : Kp p H H := fun _ _ h _ => h
theorem Kp.trans (k : Kp p H H1) (k2 : Kp p H1 H') : Kp p H H' := fun b o h n => k2 b o (k b o h n) n
theorem Kp.upd {w : HO} (k : Kp p H H') : Kp p H (upd H' p w) := fun b o h n => upd_other n (k b o h n)
theorem Kp.new {w : HO} (k : Kp p H H') (h : H a = none) : Kp p H (L2.upd H' a w) := fun b o hb n => upd_other (ne_of_none hb h) (k b o hb n)
theorem Kp.fresh (k : Kp p H H') (hp : H p = some o) (h : H' a = none) (n : a ≠ p) : H a = none := by
  cases q : H a with
  | none => rfl
  | some w => rw [k a w q n] at h; cases h
theorem Same.get {c : Addr} (k : Same H H') (h : H c = some o) : H' c = some o := k c o h
theorem Same.new {w : HO} (k : Same H H') (h : H a = none) : Same H (L2.upd H' a w) := fun b o hb => upd_other (ne_of_none hb h) (k b o hb)
theorem Same.up {w : HO} (k : Same H H') (h : H' a = none) : Same H (L2.upd H' a w) := Same.new k (Same.free k h)
theorem Same.kp (k : Same H H') : Kp p H H' := fun b o h _ => k b o h
theorem sqL (h : H a = some (.lst xs)) : SqL K H a xs := .inl (.inl h)
theorem sqT (h : H a = some (.tup xs)) : SqT K H a xs := .inl (.inl h)

/-- a tuple of the written part -/
def SqTK (K : PySem.W.Frag) (a : Addr) (xs : List V) : Prop := ∃ (o : Obj) (its : Array Value) (n : Nat), K.lookup a = some o ∧ o.cls = .type "tuple" ∧ o.data = .seq its n ∧ its.size ≤ sizeLine ∧ Vals xs its.toList
theorem SqTK.sq {xs : List V} (h : SqTK K a xs) : SqT K H a xs := .inr h
def relB : V → Value → Bool
  | .str x, .str z _ => decide (x = z)
  | .int i, .int k _ => decide (i = k)
  | _, _ => false
theorem relB_rel : ∀ {x : V} {u : Value}, relB x u = true → RelV x u := by
  intro x u h
  cases x <;> cases u <;> first | (cases h; done) | skip
  · have e := of_decide_eq_true h
    subst e
    exact ⟨_, rfl⟩
  · have e := of_decide_eq_true h
    subst e
    exact ⟨_, rfl⟩
def ValsB : List V → List Value → Bool
  | [], [] => true
  | x :: xs, u :: us => relB x u && ValsB xs us
  | _, _ => false
theorem ValsB.vals : ∀ {xs : List V} {us : List Value}, ValsB xs us = true → Vals xs us
  | [], [], _ => .nil
  | [], _ :: _, h => by cases h
  | _ :: _, [], h => by cases h
  | x :: xs, u :: us, h => by
    have h : (relB x u && ValsB xs us) = true := h
    rw [Bool.and_eq_true] at h
    exact .cons (relB_rel h.1) (ValsB.vals h.2)
theorem ValsB.size {xs : List V} {its : Array Value} (h : ValsB xs its.toList = true) (hl : xs.length ≤ sizeLine) : its.size ≤ sizeLine := by
  have e := (ValsB.vals h).length
  have : its.toList.length = its.size := rfl
  omega
theorem hr65 {A : Around} {k : Nat} (hr : Room k A) : A.units + 65 < cLine := by have := hr.un; omega
theorem Same.sqT {xs : List V} (e : Same H H') (h : SqT K H a xs) : SqT K H' a xs := by
  rcases h with (h | ⟨o, h⟩) | h
  · exact .inl (.inl (e _ _ h))
  · exact .inl (.inr ⟨o, e _ _ h⟩)
  · exact .inr h
/-! statements -/
theorem q_seq (h : t { D with nx := u D } σ H) : tSeq t u D σ H := h
theorem q_next (h : D.nx σ H) : tNext D σ H := h
theorem q_brk (h : D.bk σ H) : tBreak D σ H := h
theorem q_ct (h : D.ct σ H) : tCont D σ H := h
theorem q_nx {f : L2.St → Hp → Prop} {r : VK} {b c : L2.St → Hp → Prop} (h : f σ H) : Ends.nx ⟨f, r, b, c⟩ σ H := h
theorem q_bk {f : L2.St → Hp → Prop} {r : VK} {b c : L2.St → Hp → Prop} (h : b σ H) : Ends.bk ⟨f, r, b, c⟩ σ H := h
theorem q_cn {f : L2.St → Hp → Prop} {r : VK} {b c : L2.St → Hp → Prop} (h : c σ H) : Ends.ct ⟨f, r, b, c⟩ σ H := h
theorem q_rt {f : L2.St → Hp → Prop} {r : VK} {b c : L2.St → Hp → Prop} (h : r v H) : Ends.rt ⟨f, r, b, c⟩ v H := h
theorem q_drop (h : te σ H fun _ H1 => D.nx σ H1) : tDrop te D σ H := h
theorem q_ret (h : te σ H D.rt) : tRet te D σ H := h
theorem q_retN (h : D.rt .non H) : tRetN D σ H := h
def ifK (D : Ends) (t u : TS) (σ : L2.St) : Bool → Hp → Prop := fun b H => if b = true then t D σ H else u D σ H
theorem q_ifS (h : tt σ H (ifK D t u σ)) : tIfS tt t u D σ H := h
theorem q_ifT (h : t D σ H) : ifK D t u σ true H := iteT h
theorem q_ifF (h : u D σ H) : ifK D t u σ false H := iteF h
theorem q_if2 {c : Bool} (h : c = true → t D σ H) (h2 : c = false → u D σ H) : ifK D t u σ c H := by
  cases c with
  | true => exact iteT (h rfl)
  | false => exact iteF (h2 rfl)
theorem q_asg (h : te σ H fun x H1 => g x σ H1 D.nx) : tAsg te g D σ H := h
theorem q_gName {n : Nat} {R : L2.St → Hp → Prop} (h : R (σ.set n (some v)) H) : gName n v σ H R := h
theorem q_gTup {n : Nat} {tg : TGs} {R : L2.St → Hp → Prop} (h : SqT K H a xs) (hn : xs.length = n) (k : tg xs σ H R) : gTup K n tg (.ref a) σ H R := ⟨a, xs, rfl, h, hn, k⟩
theorem q_gCons {tg : TGs} {R : L2.St → Hp → Prop} (k : g v σ H fun σ' H' => tg xs σ' H' R) : gCons g tg (v :: xs) σ H R := ⟨v, xs, rfl, k⟩
theorem q_gNil {R : L2.St → Hp → Prop} (k : R σ H) : gNil [] σ H R := ⟨rfl, k⟩
theorem q_gSub {to ti : TE} {ts : TSet} {R : L2.St → Hp → Prop} (k : to σ H fun o H1 => ti σ H1 fun i H2 => ts o i v H2 fun H3 => R σ H3) : gSub to ti ts v σ H R := k
theorem q_setL {R : Hp → Prop} {n : Nat} (h : H p = some (.lst xs)) (hi : ixN xs.length i = some n) (k : R (upd H p (.lst (xs.set n v)))) : rSetL (.ref p) (.int i) v H R := ⟨p, xs, i, n, rfl, rfl, h, hi, k⟩
theorem q_aug {n : Nat} {ti : TIp} (hx : σ[n]? = some (some x)) (h : te σ H fun y H1 => ti x y H1 fun z H2 => D.nx (σ.set n (some z)) H2) : tAug n te ti D σ H := ⟨x, hx, h⟩
theorem q_ipI {f : Int → Int → Int} (k : Q (.int (f i j)) H) : ipI f (.int i) (.int j) H Q := ⟨i, j, rfl, rfl, k⟩
theorem q_cut {Mid : L2.St → Hp → Prop} (h : t { D with nx := Mid } σ H) (k : ∀ σ' H', Mid σ' H' → u D σ' H') : Evl.tCut t u D σ H := ⟨Mid, h, k⟩
theorem dec_t {c : Prop} [Decidable c] (h : decide c = true) : c := of_decide_eq_true h
theorem dec_f {c : Prop} [Decidable c] (h : decide c = false) : ¬ c := of_decide_eq_false h
theorem ndec_t {c : Prop} [Decidable c] (h : (!decide c) = true) : ¬ c := fun q => by rw [decide_eq_true q] at h; cases h
theorem ndec_f {c : Prop} [Decidable c] (h : (!decide c) = false) : c := by
  by_cases q : c
  · exact q
  · rw [decide_eq_false q] at h; cases h
def forK (g : TG) (tb : TS) (D : Ends) (σ : L2.St) : It → Hp → Prop := fun J H1 => ∃ W : Nat → Nat → L2.St → Hp → Prop, (∃ m, W 0 m σ H1) ∧ ∀ i m σ H, W i m σ H →
  (J.stop i H ∧ D.nx σ H) ∨ (J.go i H ∧ ∃ N : L2.St → Hp → Prop, (∀ σ' H', N σ' H' → ∃ m', m' < m ∧ W (i + 1) m' σ' H') ∧ ∀ x H', J.yld i H x H' → g x σ H' fun σ2 H2 => tb { D with nx := N, ct := N, bk := D.nx } σ2 H2)
theorem q_for {wi : TI} (h : wi σ H (forK g t D σ)) : tFor wi g t D σ H := h
theorem q_iList {R : It → Hp → Prop} (h : te σ H fun x H1 => ∃ a, x = .ref a ∧ (∃ xs, SqL K H1 a xs) ∧ R (Itl K a) H1) : iList K te σ H R := h
theorem q_iTup {R : It → Hp → Prop} (h : te σ H fun x H1 => ∃ a, x = .ref a ∧ (∃ xs, SqT K H1 a xs) ∧ R (Itt K a) H1) : iTup K te σ H R := h
theorem q_forL {S : List V} (h : SqL K H a S) (Pv : Nat → L2.St → Hp → Prop) (h0 : Pv 0 σ H) (hl : ∀ i σ H, i ≤ S.length → Pv i σ H → SqL K H a S)
    (hs : ∀ i x σ H, S[i]? = some x → Pv i σ H → g x σ H fun σ2 H2 => t { D with nx := Pv (i + 1), ct := Pv (i + 1), bk := D.nx } σ2 H2) (hd : ∀ σ H, Pv S.length σ H → D.nx σ H) :
    ∃ b, V.ref a = .ref b ∧ (∃ xs, SqL K H b xs) ∧ forK g t D σ (Itl K b) H := ⟨a, rfl, ⟨S, h⟩, for_list Pv h0 hl hs hd⟩
theorem q_forT {S : List V} (h : SqT K H a S) (Pv : Nat → L2.St → Hp → Prop) (h0 : Pv 0 σ H) (hl : ∀ i σ H, i ≤ S.length → Pv i σ H → SqT K H a S)
    (hs : ∀ i x σ H, S[i]? = some x → Pv i σ H → g x σ H fun σ2 H2 => t { D with nx := Pv (i + 1), ct := Pv (i + 1), bk := D.nx } σ2 H2) (hd : ∀ σ H, Pv S.length σ H → D.nx σ H) :
    ∃ b, V.ref a = .ref b ∧ (∃ xs, SqT K H b xs) ∧ forK g t D σ (Itt K b) H := ⟨a, rfl, ⟨S, h⟩, for_tup Pv h0 hl hs hd⟩
def rg1K (R : It → Hp → Prop) : List V → Hp → Prop := fun vs H1 => ∃ j : Int, vs = [.int j] ∧ -(2 ^ 62) ≤ j ∧ j < 2 ^ 62 ∧ R (Itr 0 j.toNat) H1
theorem q_iRng1 {R : It → Hp → Prop} (h : tr σ H (rg1K R)) : iRng1 tr σ H R := h
theorem q_forR (hj : 0 ≤ j ∧ j < 1000000000000000) (Pv : Nat → L2.St → Hp → Prop) (h0 : Pv 0 σ H)
    (hs : ∀ (i : Nat) σ H, (i : Int) < j → Pv i σ H → g (.int i) σ H fun σ2 H2 => t { D with nx := Pv (i + 1), ct := Pv (i + 1), bk := D.nx } σ2 H2) (hd : ∀ σ H, Pv j.toNat σ H → D.nx σ H) :
    rg1K (forK g t D σ) [.int j] H := ⟨j, rfl, by omega, by omega, for_range Pv h0 (fun i σ H hi hp => by have e : (0 : Int) + (i : Int) = (i : Int) := Int.zero_add _; rw [e]; exact hs i σ H (by omega) hp) hd⟩

/-! tests and values -/
def bK (Q : Bool → Hp → Prop) : VK := fun x H => ∃ k, x = .bl k ∧ Q k H
theorem q_test {R : Bool → Hp → Prop} (h : te σ H (bK R)) : tTest te σ H R := h
theorem q_tB {R : Bool → Hp → Prop} (h : te σ H (bK R)) : tB te σ H R := h
theorem q_bK {R : Bool → Hp → Prop} {c : Bool} (k : R c H) : bK R (.bl c) H := ⟨c, rfl, k⟩
def andK (u : TT) (σ : L2.St) (R : Bool → Hp → Prop) : Bool → Hp → Prop := fun c H1 => if c = true then u σ H1 R else R false H1
def orK (u : TT) (σ : L2.St) (R : Bool → Hp → Prop) : Bool → Hp → Prop := fun c H1 => if c = true then R true H1 else u σ H1 R
theorem q_and {R : Bool → Hp → Prop} (h : tt σ H (andK tu σ R)) : tAnd tt tu σ H R := h
theorem q_or {R : Bool → Hp → Prop} (h : tt σ H (orK tu σ R)) : tOr tt tu σ H R := h
theorem q_andT {R : Bool → Hp → Prop} (h : tu σ H R) : andK tu σ R true H := iteT h
theorem q_andF {R : Bool → Hp → Prop} (h : R false H) : andK tu σ R false H := iteF h
theorem q_orT {R : Bool → Hp → Prop} (h : R true H) : orK tu σ R true H := iteT h
theorem q_orF {R : Bool → Hp → Prop} (h : tu σ H R) : orK tu σ R false H := iteF h
theorem q_and2 {R : Bool → Hp → Prop} {c : Bool} (h : c = true → tu σ H R) (h2 : c = false → R false H) : andK tu σ R c H := by
  cases c with
  | true => exact iteT (h rfl)
  | false => exact iteF (h2 rfl)
theorem q_or2 {R : Bool → Hp → Prop} {c : Bool} (h : c = true → R true H) (h2 : c = false → tu σ H R) : orK tu σ R c H := by
  cases c with
  | true => exact iteT (h rfl)
  | false => exact iteF (h2 rfl)
def notK (R : Bool → Hp → Prop) : Bool → Hp → Prop := fun c H1 => R (!c) H1
theorem q_not {R : Bool → Hp → Prop} (h : tt σ H (notK R)) : tNot tt σ H R := h
theorem q_notKT {R : Bool → Hp → Prop} (h : R false H) : notK R true H := h
theorem q_notKF {R : Bool → Hp → Prop} (h : R true H) : notK R false H := h
theorem q_notK {R : Bool → Hp → Prop} {c : Bool} (h : R (!c) H) : notK R c H := h
def andVK (tb : TE) (σ : L2.St) (Q : VK) : VK := fun x H1 => ∃ c, x = .bl c ∧ if c = true then tb σ H1 Q else Q (.bl false) H1
def orVK (tb : TE) (σ : L2.St) (Q : VK) : VK := fun x H1 => ∃ c, x = .bl c ∧ if c = true then Q (.bl true) H1 else tb σ H1 Q
theorem q_andV (h : ta σ H (andVK tb σ Q)) : tAndV ta tb σ H Q := h
theorem q_orV (h : ta σ H (orVK tb σ Q)) : tOrV ta tb σ H Q := h
theorem q_andVT (h : tb σ H Q) : andVK tb σ Q (.bl true) H := ⟨true, rfl, iteT h⟩
theorem q_andVF (h : Q (.bl false) H) : andVK tb σ Q (.bl false) H := ⟨false, rfl, iteF h⟩
theorem q_orVT (h : Q (.bl true) H) : orVK tb σ Q (.bl true) H := ⟨true, rfl, iteT h⟩
theorem q_orVF (h : tb σ H Q) : orVK tb σ Q (.bl false) H := ⟨false, rfl, iteF h⟩
theorem q_andV2 {c : Bool} (h : c = true → tb σ H Q) (h2 : c = false → Q (.bl false) H) : andVK tb σ Q (.bl c) H := by
  cases c with
  | true => exact q_andVT (h rfl)
  | false => exact q_andVF (h2 rfl)
theorem q_orV2 {c : Bool} (h : c = true → Q (.bl true) H) (h2 : c = false → tb σ H Q) : orVK tb σ Q (.bl c) H := by
  cases c with
  | true => exact q_orVT (h rfl)
  | false => exact q_orVF (h2 rfl)
def notVK (Q : VK) : VK := fun x H1 => ∃ c, x = .bl c ∧ Q (.bl (!c)) H1
theorem q_notV (h : ta σ H (notVK Q)) : tNotV ta σ H Q := h
theorem q_notVK {c : Bool} (k : Q (.bl (!c)) H) : notVK Q (.bl c) H := ⟨c, rfl, k⟩
def ifEK (ta tb : TE) (σ : L2.St) (Q : VK) : Bool → Hp → Prop := fun c H1 => if c = true then ta σ H1 Q else tb σ H1 Q
theorem q_ifE (h : tt σ H (ifEK ta tb σ Q)) : tIf tt ta tb σ H Q := h
theorem q_ifET (h : ta σ H Q) : ifEK ta tb σ Q true H := iteT h
theorem q_ifEF (h : tb σ H Q) : ifEK ta tb σ Q false H := iteF h
theorem q_ifE2 {c : Bool} (h : c = true → ta σ H Q) (h2 : c = false → tb σ H Q) : ifEK ta tb σ Q c H := by
  cases c with
  | true => exact iteT (h rfl)
  | false => exact iteF (h2 rfl)
theorem q_yes {R : Bool → Hp → Prop} (k : R true H) : tYes σ H R := k
theorem q_var {n : Nat} (h : σ[n]? = some (some v)) (k : Q v H) : tVar n σ H Q := ⟨v, h, k⟩
theorem q_c (k : Q v H) : tC v σ H Q := k
theorem q_op {r : R2} (h : ta σ H fun x H1 => tb σ H1 fun y H2 => r x y H2 Q) : tOp r ta tb σ H Q := h
theorem q_un {r : V → Hp → VK → Prop} (h : ta σ H fun x H1 => r x H1 Q) : tUn r ta σ H Q := h
theorem q_rU {f : Int → V} (k : Q (f i) H) : rU f (.int i) H Q := ⟨i, rfl, k⟩
theorem q_I0 {f : Int → Int → V} (k : Q (f i j) H) : rI0 f (.int i) (.int j) H Q := ⟨i, j, rfl, rfl, k⟩
theorem q_I {C : Int → Int → Prop} {f : Int → Int → V} (hc : C i j) (k : Q (f i j) H) : rI C f (.int i) (.int j) H Q := ⟨i, j, rfl, rfl, hc, k⟩
theorem q_eq (hs : scal x y = true) (k : Q (.bl (decide (x = y))) H) : rEq x y H Q := ⟨hs, k⟩
theorem q_ne (hs : scal x y = true) (k : Q (.bl (!decide (x = y))) H) : rNe x y H Q := ⟨hs, k⟩
theorem dec_int (i j : Int) : decide (V.int i = V.int j) = decide (i = j) := by
  by_cases h : i = j
  · subst h; simp
  · rw [decide_eq_false h, decide_eq_false (fun e => h (V.int.inj e))]
theorem q_eqI (k : Q (.bl (decide (i = j))) H) : rEq (.int i) (.int j) H Q := ⟨rfl, by rw [dec_int]; exact k⟩
theorem q_neI (k : Q (.bl (!decide (i = j))) H) : rNe (.int i) (.int j) H Q := ⟨rfl, by rw [dec_int]; exact k⟩
theorem dec_str (i j : Str) : decide (V.str i = V.str j) = decide (i = j) := by
  by_cases h : i = j
  · subst h; simp
  · rw [decide_eq_false h, decide_eq_false (fun e => h (V.str.inj e))]
theorem q_eqS {s z : Str} (k : Q (.bl (decide (s = z))) H) : rEq (.str s) (.str z) H Q := ⟨rfl, by rw [dec_str]; exact k⟩
theorem q_neS {s z : Str} (k : Q (.bl (!decide (s = z))) H) : rNe (.str s) (.str z) H Q := ⟨rfl, by rw [dec_str]; exact k⟩
theorem q_ixL (h : SqL K H p xs) (ha : atI xs i = some v) (k : Q v H) : rIxL K (.ref p) (.int i) H Q := ⟨p, xs, i, v, rfl, rfl, h, ha, k⟩
theorem q_ixT (h : SqT K H p xs) (ha : atI xs i = some v) (k : Q v H) : rIxT K (.ref p) (.int i) H Q := ⟨p, xs, i, v, rfl, rfl, h, ha, k⟩
theorem q_ixLt (h : H p = some (.lst xs)) (ha : atI xs i = some v) (k : Q v H) : rIxL K (.ref p) (.int i) H Q := q_ixL (sqL h) ha k
theorem q_ixTt (h : H p = some (.tup xs)) (ha : atI xs i = some v) (k : Q v H) : rIxT K (.ref p) (.int i) H Q := q_ixT (sqT h) ha k
theorem q_ixSL (h : SqL K H p xs) (ha : atI xs i = some v) (k : Q v H) : rIx K (.ref p) (.int i) H Q := .inl ⟨p, xs, i, v, rfl, rfl, h, ha, k⟩
theorem q_ixST (h : SqT K H p xs) (ha : atI xs i = some v) (k : Q v H) : rIx K (.ref p) (.int i) H Q := .inr (.inl ⟨p, xs, i, v, rfl, rfl, h, ha, k⟩)
theorem at_int {α : Type} {xs : List α} {i : Int} {x : α} {n : Nat} (e : i = (n : Int)) (h : xs[n]? = some x) : atI xs i = some x := by rw [e]; exact atI_nat h
theorem q_tNil {R : List V → Hp → Prop} (k : R [] H) : tNil σ H R := k
theorem q_tCons {R : List V → Hp → Prop} (h : ta σ H fun x H1 => tr σ H1 fun xs H2 => R (x :: xs) H2) : tCons ta tr σ H R := h
def tupK (Q : VK) : List V → Hp → Prop := fun xs H1 => xs.length ≤ sizeLine ∧ ∀ p, H1 p = none → Q (.ref p) (upd H1 p (.tup xs))
def lstK (Q : VK) : List V → Hp → Prop := fun xs H1 => xs.length ≤ sizeLine ∧ ∀ p, H1 p = none → Q (.ref p) (upd H1 p (.lst xs))
theorem q_tup (h : tr σ H (tupK Q)) : tTup tr σ H Q := h
theorem q_lst (h : tr σ H (lstK Q)) : tLst tr σ H Q := h
theorem q_tupK (hl : xs.length ≤ sizeLine) (k : ∀ p, H p = none → Q (.ref p) (upd H p (.tup xs))) : tupK Q xs H := ⟨hl, k⟩
theorem q_lstK (hl : xs.length ≤ sizeLine) (k : ∀ p, H p = none → Q (.ref p) (upd H p (.lst xs))) : lstK Q xs H := ⟨hl, k⟩
theorem q_cb {r : List V → Hp → VK → Prop} (h : tr σ H fun vs H1 => r vs H1 Q) : tCB r tr σ H Q := h
def callK (sp : Sp) (dvs : List V) (E : XK) (Q : VK) : List V → Hp → Prop := fun vs H1 => sp (vs ++ dvs) H1 Q E
theorem q_call {sp : Sp} {dvs : List V} {E : XK} (h : tr σ H (callK sp dvs E Q)) : tCall sp dvs E tr σ H Q := h
theorem q_callK {sp : Sp} {E : XK} (h : sp xs H Q E) : callK sp [] E Q xs H := by unfold callK; rw [List.append_nil]; exact h

/-! built-ins, by names of our own -/
def rLenQ (K : PySem.W.Frag) : List V → Hp → VK → Prop := fun xs H Q => ∃ p ys, xs = [.ref p] ∧ (SqL K H p ys ∨ SqT K H p ys) ∧ Q (.int ys.length) H
theorem cq_len {X : Cx} : CallR X (.builtin "len") (rLenQ X.K) := call_len_seq
theorem q_lenL (h : SqL K H p xs) (k : Q (.int xs.length) H) : rLenQ K [.ref p] H Q := ⟨p, xs, rfl, .inl h, k⟩
theorem q_lenT (h : SqT K H p xs) (k : Q (.int xs.length) H) : rLenQ K [.ref p] H Q := ⟨p, xs, rfl, .inr h, k⟩
theorem q_lenLt (h : H p = some (.lst xs)) (k : Q (.int xs.length) H) : rLenQ K [.ref p] H Q := q_lenL (sqL h) k
theorem q_lenTt (h : H p = some (.tup xs)) (k : Q (.int xs.length) H) : rLenQ K [.ref p] H Q := q_lenT (sqT h) k
def rLenD : List V → Hp → VK → Prop := fun xs H Q => ∃ a kvs, xs = [V.ref a] ∧ H a = some (.dK kvs) ∧ Q (.int kvs.length) H
def rLenS : List V → Hp → VK → Prop := fun xs H Q => ∃ x : Str, xs = [.str x] ∧ x.length ≤ sizeLine ∧ Q (.int x.length) H
theorem cq_lenS {X : Cx} : CallR X (.builtin "len") rLenS := by
  intro pins s σ H xs us Q I r h
  obtain ⟨x, e, hl, q⟩ := h
  exact call_len pins s σ H xs us Q I r ⟨.str x, x.length, e, ⟨hl, rfl⟩, q⟩
theorem q_lenS {x : Str} (hl : x.length ≤ sizeLine) (k : Q (.int x.length) H) : rLenS [.str x] H Q := ⟨x, rfl, hl, k⟩
def rAbs : List V → Hp → VK → Prop := fun xs H Q => ∃ i, xs = [.int i] ∧ Q (.int (if i < 0 then -i else i)) H
theorem cq_abs {X : Cx} : CallR X (.builtin "abs") rAbs := call_abs
theorem q_abs (k : Q (.int (if i < 0 then -i else i)) H) : rAbs [.int i] H Q := ⟨i, rfl, k⟩
def rInt1 : List V → Hp → VK → Prop := fun xs H Q => (∃ i, xs = [.int i] ∧ Q (.int i) H) ∨ ∃ k, xs = [.bl k] ∧ Q (.int (if k then 1 else 0)) H
theorem cq_int1 {X : Cx} : CallR X (.type "int") rInt1 := call_int1
theorem q_int1 (k : Q (.int i) H) : rInt1 [.int i] H Q := .inl ⟨i, rfl, k⟩
def rStrInt : List V → Hp → VK → Prop := fun xs H Q => ∃ i, xs = [.int i] ∧ i.natAbs.log2 < 1920 ∧ Q (.str (toString i)) H
theorem cq_strInt {X : Cx} : CallR X (.type "str") rStrInt := call_str_int
theorem q_strInt (hb : i.natAbs.log2 < 1920) (k : Q (.str (toString i)) H) : rStrInt [.int i] H Q := ⟨i, rfl, hb, k⟩
def rListOf (K : PySem.W.Frag) : List V → Hp → VK → Prop := fun xs H Q => ∃ p ys, xs = [.ref p] ∧ (SqL K H p ys ∨ SqT K H p ys) ∧ ∀ l, H l = none → Q (.ref l) (upd H l (.lst ys))
theorem cq_listOf {X : Cx} : CallR X (.type "list") (rListOf X.K) := call_list_of
theorem q_listL (h : SqL K H p xs) (k : ∀ l, H l = none → Q (.ref l) (upd H l (.lst xs))) : rListOf K [.ref p] H Q := ⟨p, xs, rfl, .inl h, k⟩
theorem q_listT (h : SqT K H p xs) (k : ∀ l, H l = none → Q (.ref l) (upd H l (.lst xs))) : rListOf K [.ref p] H Q := ⟨p, xs, rfl, .inr h, k⟩
def rTupOf (K : PySem.W.Frag) : List V → Hp → VK → Prop := fun xs H Q => ∃ p ys, xs = [.ref p] ∧ ((SqL K H p ys ∧ ∀ l, H l = none → Q (.ref l) (upd H l (.tup ys))) ∨ (SqT K H p ys ∧ Q (.ref p) H))
theorem cq_tupOf {X : Cx} : CallR X (.type "tuple") (rTupOf X.K) := call_tuple_of
theorem q_tupL (h : SqL K H p xs) (k : ∀ l, H l = none → Q (.ref l) (upd H l (.tup xs))) : rTupOf K [.ref p] H Q := ⟨p, xs, rfl, .inl ⟨h, k⟩⟩
theorem q_sum {ns : List Int} (h : SqL K H a (ns.map V.int)) (k : Q (.int ns.sum) H) : rSum K [.ref a] H Q := ⟨a, ns, rfl, h, k⟩
theorem q_all {bs : List Bool} (h : SqL K H a (bs.map V.bl)) (k : Q (.bl (bs.all id)) H) : rAll K [.ref a] H Q := ⟨a, bs, rfl, h, k⟩
theorem q_any {bs : List Bool} (h : SqL K H a (bs.map V.bl)) (k : Q (.bl (bs.any id)) H) : rAny K [.ref a] H Q := ⟨a, bs, rfl, h, k⟩
def rAddStr : R2 := fun x y H Q => ∃ i j, x = .str i ∧ y = .str j ∧ i.length + j.length ≤ sizeLine ∧ Q (.str (i ++ j)) H
theorem oq_addStr {X : Cx} : OpR X (binaryOp .Add) rAddStr := op_add_str
theorem q_addStr {s z : Str} (hl : s.length + z.length ≤ sizeLine) (k : Q (.str (s ++ z)) H) : rAddStr (.str s) (.str z) H Q := ⟨s, z, rfl, rfl, hl, k⟩
theorem q_isN' (k : Q (.bl (decide (x = .non))) H) : rIsN x .non H Q := ⟨rfl, k⟩
theorem q_notN' (k : Q (.bl (!decide (x = .non))) H) : rNotN x .non H Q := ⟨rfl, k⟩
theorem q_inD {d : PyData} {ds : List PyData} (hd : Dp K H x d) (hy : Dp K H y (.list ds)) (s1 : SeqAt.shaped d = true) (s2 : SeqAt.shaped (.list ds) = true) (k : Q (.bl (ds.any fun z => PyData.eqv z d)) H) : rInD K x y H Q := ⟨d, ds, hd, hy, s1, s2, k⟩
theorem q_notInD {d : PyData} {ds : List PyData} (hd : Dp K H x d) (hy : Dp K H y (.list ds)) (s1 : SeqAt.shaped d = true) (s2 : SeqAt.shaped (.list ds) = true) (k : Q (.bl (!ds.any fun z => PyData.eqv z d)) H) : rNotInD K x y H Q := ⟨d, ds, hd, hy, s1, s2, k⟩
theorem q_ifNT (h : u D σ H) : ifK D t u σ (!true) H := q_ifF h
theorem q_ifNF (h : t D σ H) : ifK D t u σ (!false) H := q_ifT h
theorem q_andNT {R : Bool → Hp → Prop} (h : R false H) : andK tu σ R (!true) H := q_andF h
theorem q_andNF {R : Bool → Hp → Prop} (h : tu σ H R) : andK tu σ R (!false) H := q_andT h
theorem q_orNT {R : Bool → Hp → Prop} (h : tu σ H R) : orK tu σ R (!true) H := q_orF h
theorem q_orNF {R : Bool → Hp → Prop} (h : R true H) : orK tu σ R (!false) H := q_orT h
theorem q_bKNT {R : Bool → Hp → Prop} (h : R false H) : bK R (.bl (!true)) H := q_bK h
theorem q_bKNF {R : Bool → Hp → Prop} (h : R true H) : bK R (.bl (!false)) H := q_bK h
/-! chains, isinstance, texts, dicts -/
def chK2 (r' : R2) (y : V) (tc : TE) (σ : L2.St) (Q : VK) : VK := fun z H3 => ∃ k, z = .bl k ∧ (if k = true then tc σ H3 fun w' H4 => r' y w' H4 Q else Q (.bl false) H3)
theorem q_chain {r r' : R2} (h : ta σ H fun x H1 => tb σ H1 fun y H2 => r x y H2 (chK2 r' y tc σ Q)) : tChain r r' ta tb tc σ H Q := h
theorem q_chT {r' : R2} (h : tc σ H fun w' H4 => r' y w' H4 Q) : chK2 r' y tc σ Q (.bl true) H := ⟨true, rfl, iteT h⟩
theorem q_chF {r' : R2} (h : Q (.bl false) H) : chK2 r' y tc σ Q (.bl false) H := ⟨false, rfl, iteF h⟩
theorem q_ch2 {r' : R2} {c : Bool} (h : c = true → tc σ H fun w' H4 => r' y w' H4 Q) (h2 : c = false → Q (.bl false) H) : chK2 r' y tc σ Q (.bl c) H := by
  cases c with
  | true => exact q_chT (h rfl)
  | false => exact q_chF (h2 rfl)
def rIsiQ (K : PySem.W.Frag) : List V → Hp → VK → Prop := rIsi K
theorem q_isi {n : String} {t : Value} {c : Bool} (ht : TyX K H x t) (hk : PySem.W.kitOne K t (.type n) = some c) (k : Q (.bl c) H) : rIsi K [x, .ty n] H Q := ⟨x, .ty n, t, .type n, c, rfl, .ty n, ht, hk, k⟩
def rOrd : List V → Hp → VK → Prop := fun xs H Q => ∃ x, xs = [.str x] ∧ x.length = 1 ∧ Q (.int (x.cps.getD 0 0 : Nat)) H
theorem cq_ord {X : Cx} : CallR X (.builtin "ord") rOrd := call_ord
theorem q_ord {c : Nat} (k : Q (.int c) H) : rOrd [.str ⟨#[c]⟩] H Q := ⟨_, rfl, rfl, k⟩
theorem q_forS {s : Str} (Pv : Nat → L2.St → Hp → Prop) (h0 : Pv 0 σ H)
    (hs : ∀ i c σ H, s.cps[i]? = some c → Pv i σ H → g (.str ⟨#[c]⟩) σ H fun σ2 H2 => t { D with nx := Pv (i + 1), ct := Pv (i + 1), bk := D.nx } σ2 H2) (hd : ∀ σ H, Pv s.cps.size σ H → D.nx σ H) : forK g t D σ (Its s) H := by
  refine ⟨fun i m σ H => i + m = s.cps.size ∧ Pv i σ H, ⟨s.cps.size, Nat.zero_add _, h0⟩, fun i m σ H hW => ?_⟩
  obtain ⟨e, hp⟩ := hW
  by_cases hi : i < s.cps.size
  · refine .inr ⟨hi, Pv (i + 1), fun σ' H' hN => ⟨m - 1, by omega, by omega, hN⟩, fun x H' hy => ?_⟩
    obtain ⟨rfl, c, hc, rfl⟩ := hy
    exact hs i c σ H' hc hp
  · have e2 : i = s.cps.size := by omega
    subst e2
    exact .inl ⟨Nat.le_refl _, hd σ H hp⟩
theorem q_iStr {s : Str} {R : It → Hp → Prop} (k : R (Its s) H) : ∃ z, V.str s = .str z ∧ R (Its z) H := ⟨s, rfl, k⟩
theorem q_iStr0 {R : It → Hp → Prop} (h : te σ H fun v H1 => ∃ x, v = .str x ∧ R (Its x) H1) : iStr te σ H R := h
def dInK (Q : VK) (y : V) : VK := fun x H2 => ∃ a o, x = .ref a ∧ DGet H2 a y o ∧ Q (.bl o.isSome) H2
def dNInK (Q : VK) (y : V) : VK := fun x H2 => ∃ a o, x = .ref a ∧ DGet H2 a y o ∧ Q (.bl (!o.isSome)) H2
theorem q_tDIn {ty td : TE} (h : ty σ H fun y H1 => td σ H1 (dInK Q y)) : tDIn ty td σ H Q := h
theorem q_tDNotIn {ty td : TE} (h : ty σ H fun y H1 => td σ H1 (dNInK Q y)) : tDNotIn ty td σ H Q := h
theorem q_dInS {kvs : List (Key × V)} {s : Str} (h : H a = some (.dK kvs)) (k : Q (.bl (valV kvs (.inr s)).isSome) H) : dInK Q (.str s) (.ref a) H := ⟨a, _, rfl, DGet.k (k := Sum.inr s) h, k⟩
theorem q_dNInS {kvs : List (Key × V)} {s : Str} (h : H a = some (.dK kvs)) (k : Q (.bl (!(valV kvs (.inr s)).isSome)) H) : dNInK Q (.str s) (.ref a) H := ⟨a, _, rfl, DGet.k (k := Sum.inr s) h, k⟩
theorem q_dInI {kvs : List (Key × V)} (h : H a = some (.dK kvs)) (k : Q (.bl (valV kvs (.inl i)).isSome) H) : dInK Q (.int i) (.ref a) H := ⟨a, _, rfl, DGet.k (k := Sum.inl i) h, k⟩
theorem q_dNInI {kvs : List (Key × V)} (h : H a = some (.dK kvs)) (k : Q (.bl (!(valV kvs (.inl i)).isSome)) H) : dNInK Q (.int i) (.ref a) H := ⟨a, _, rfl, DGet.k (k := Sum.inl i) h, k⟩
def dGetK (Q : VK) (x : V) : VK := fun y H2 => ∃ a v, x = .ref a ∧ DGet H2 a y (some v) ∧ Q v H2
theorem q_tDGet {ty td : TE} (h : td σ H fun x H1 => ty σ H1 (dGetK Q x)) : tDGet td ty σ H Q := h
theorem q_dGetS {kvs : List (Key × V)} {s : Str} (h : H a = some (.dK kvs)) (e : valV kvs (.inr s) = some v) (k : Q v H) : dGetK Q (.ref a) (.str s) H := ⟨a, v, rfl, by rw [← e]; exact DGet.k (k := Sum.inr s) h, k⟩
theorem q_dGetI {kvs : List (Key × V)} (h : H a = some (.dK kvs)) (e : valV kvs (.inl i) = some v) (k : Q v H) : dGetK Q (.ref a) (.int i) H := ⟨a, v, rfl, by rw [← e]; exact DGet.k (k := Sum.inl i) h, k⟩
theorem q_dNew (k : ∀ p, H p = none → Q (.ref p) (upd H p (.dK []))) : tDNewK σ H Q := k
def dPutK (D : Ends) (σ : L2.St) (v x : V) : VK := fun y H3 => ∃ a H4, x = .ref a ∧ DPut H3 a y v H4 ∧ D.nx σ H4
theorem q_sDPut {td ty tv : TE} (h : tv σ H fun v H1 => td σ H1 fun x H2 => ty σ H2 (dPutK D σ v x)) : sDPut td ty tv D σ H := h
theorem q_dPutS {kvs : List (Key × V)} {s : Str} (h : H a = some (.dK kvs)) (hl : kvs.length < sizeLine) (k : D.nx σ (upd H a (.dK (putK kvs (.inr s) v)))) : dPutK D σ v (.ref a) (.str s) H := ⟨a, _, rfl, DPut.k (k := Sum.inr s) h hl, k⟩
theorem q_dPutI {kvs : List (Key × V)} (h : H a = some (.dK kvs)) (hl : kvs.length < sizeLine) (k : D.nx σ (upd H a (.dK (putK kvs (.inl i) v)))) : dPutK D σ v (.ref a) (.int i) H := ⟨a, _, rfl, DPut.k (k := Sum.inl i) h hl, k⟩
def truK (K : PySem.W.Frag) (R : Bool → Hp → Prop) : VK := fun x H' => ∃ k, TruV K x H' k ∧ R k H'
theorem q_tru {R : Bool → Hp → Prop} (h : te σ H (truK K R)) : (fun (σ : L2.St) (H : Hp) (Q : Bool → Hp → Prop) => te σ H fun x H' => ∃ k, TruV K x H' k ∧ Q k H') σ H R := h
theorem q_isBl {c d : Bool} (k : Q (.bl (decide (c = d))) H) : rIsB (.bl c) (.bl d) H Q := ⟨c, d, rfl, rfl, k⟩
theorem q_notBl {c d : Bool} (k : Q (.bl (!decide (c = d))) H) : rNotB (.bl c) (.bl d) H Q := ⟨c, d, rfl, rfl, k⟩
theorem q_inT (h : SqT K H p xs) (hx : flatV x = true) (ha : xs.all flatV = true) (k : Q (.bl (inV x xs)) H) : rIn K false x (.ref p) H Q := ⟨p, xs, rfl, .inr h, hx, ha, k⟩
theorem q_inL (h : SqL K H p xs) (hx : flatV x = true) (ha : xs.all flatV = true) (k : Q (.bl (inV x xs)) H) : rIn K false x (.ref p) H Q := ⟨p, xs, rfl, .inl h, hx, ha, k⟩
theorem q_eqD {d e : PyData} (hd : Dp K H x d) (he : Dp K H y e) (s1 : SeqAt.shaped d = true) (s2 : SeqAt.shaped e = true) (k : Q (.bl (PyData.eqv d e)) H) : rEqD K x y H Q := ⟨d, e, hd, he, s1, s2, k⟩
theorem q_neD {d e : PyData} (hd : Dp K H x d) (he : Dp K H y e) (s1 : SeqAt.shaped d = true) (s2 : SeqAt.shaped e = true) (k : Q (.bl (!PyData.eqv d e)) H) : rNeD K x y H Q := ⟨d, e, hd, he, s1, s2, k⟩
theorem q_catA (h1 : H a = some (.tup xs)) (h2 : H b = some (.tup ys)) (hl : xs.length + ys.length ≤ sizeLine) (k : ∀ p H', Same H H' → H' p = some (.tup (xs ++ ys)) → Q (.ref p) H') : rCatA K (.ref a) (.ref b) H Q := by
  refine ⟨a, b, xs, ys, rfl, rfl, sqT h1, sqT h2, hl, fun e => ?_, fun _ e => ?_, fun _ _ p hp => k p _ (Same.new (Same.refl _) hp) upd_same⟩
  · subst e; exact k b H (Same.refl _) h2
  · subst e; exact k a H (Same.refl _) (by rw [List.append_nil]; exact h1)
theorem q_slA {lo hi : Option Int} (h : H a = some (.tup xs)) (k : ∀ p H', Same H H' → H' p = some (.tup (cutV xs lo hi)) → Q (.ref p) H') : rSlA K (.ref a) lo hi H Q := by
  refine ⟨a, xs, rfl, sqT h, fun e => ?_, fun _ p hp => k p _ (Same.new (Same.refl _) hp) upd_same⟩
  refine k a H (Same.refl _) ?_
  unfold cutV
  rw [e.1, e.2, List.drop_zero, Nat.sub_zero, List.take_length]
  exact h
theorem cut_take {n : Nat} (hn : n ≤ xs.length) : cutV xs none (some (n : Int)) = xs.take n := by
  unfold cutV
  rw [HT.sIx_none, show HT.sIx xs.length xs.length (some (n : Int)) = min n xs.length from HT.sIx_nat xs.length xs.length n, Nat.min_eq_left hn, List.drop_zero, Nat.sub_zero]
theorem cut_drop {n : Nat} (hn : n ≤ xs.length) : cutV xs (some (n : Int)) none = xs.drop n := by
  unfold cutV
  rw [HT.sIx_none, show HT.sIx xs.length 0 (some (n : Int)) = min n xs.length from HT.sIx_nat xs.length 0 n, Nat.min_eq_left hn]
  exact List.take_of_length_le (by rw [List.length_drop]; exact Nat.le_refl _)
theorem q_sl {r : V → Option Int → Option Int → Hp → VK → Prop} {tl th : TO} (h : te σ H fun x H1 => tl σ H1 fun l H2 => th σ H2 fun u H3 => r x l u H3 Q) : tSl r te tl th σ H Q := h
theorem q_noPart {R : Option Int → Hp → Prop} (k : R none H) : tNoPart σ H R := k
def partK (R : Option Int → Hp → Prop) : VK := fun x H1 => ∃ i, x = .int i ∧ R (some i) H1
theorem q_part {R : Option Int → Hp → Prop} (h : te σ H (partK R)) : tPart te σ H R := h
theorem q_partK {R : Option Int → Hp → Prop} (k : R (some i) H) : partK R (.int i) H := ⟨i, rfl, k⟩
/-! a text times a number -/
def repS (s : Str) (n : Int) : Str := ⟨(List.replicate n.toNat s.cps).foldl (· ++ ·) #[]⟩
def mulOk (s : Str) (n : Int) : Bool := decide (2 ≤ n) && decide (n ≤ 1000) && decide (s.length = 1) && decide ((repS s n).length ≤ 1000)
def rMulStr : R2 := fun x y H Q => ∃ s n, x = .str s ∧ y = .int n ∧ mulOk s n = true ∧ Q (.str (repS s n)) H
theorem oq_mulStr {X : Cx} : OpR X (binaryOp .Mult) rMulStr := by
  intro pins s σ H x y v u Q I rx ry h
  obtain ⟨z, n, rfl, rfl, hm, q⟩ := h
  obtain ⟨t, rfl⟩ := rx
  obtain ⟨t', rfl⟩ := ry
  unfold mulOk at hm
  simp only [Bool.and_eq_true, decide_eq_true_eq] at hm
  obtain ⟨⟨⟨h1, h2⟩, h3⟩, h4⟩ := hm
  have e1 : (n == 1 || z.length == 0) = false := by
    rw [h3]
    have : (n == 1) = false := beq_eq_false_iff_ne.mpr (by omega)
    rw [this]
    rfl
  refine PySem.P.mul_str ?_ (fun _ _ => ?_) (fun _ _ => ?_) ?_
  · rw [decide_eq_false (show ¬ n < -(2 ^ 63) by omega), decide_eq_false (show ¬ n ≥ 2 ^ 63 by omega)]
    rfl
  · rw [h3]
    have : (1 : Int) ≤ (2 ^ 63 - 1) / n := Int.le_ediv_of_mul_le (by omega) (by omega)
    exact Int.not_lt.mpr this
  · rw [h3, Nat.one_mul]
    exact decide_eq_false (by
      have : sizeLine = 16777216 := sizeLine_eq
      omega)
  · rw [if_neg (show ¬ n < 1 by omega), if_neg (by rw [e1]; exact Bool.false_ne_true)]
    exact ⟨Nat.le_trans h4 (by decide), .str (repS z n), H, I.tok _, ⟨_, rfl⟩, q⟩
theorem q_mulStr {s : Str} (hm : mulOk s i = true) (k : Q (.str (repS s i)) H) : rMulStr (.str s) (.int i) H Q := ⟨s, i, rfl, rfl, hm, k⟩
/-! methods of lists -/
def bmK (K : PySem.W.Frag) (T : String) (r : V → List V → Hp → VK → Prop) (t : TA) (σ : L2.St) (Q : VK) : VK := fun x H1 => tyV K T x H1 ∧ t σ H1 fun xs H2 => r x xs H2 Q
def bmK0 (K : PySem.W.Frag) (T : String) (r : V → List V → Hp → VK → Prop) (Q : VK) : VK := fun x H1 => tyV K T x H1 ∧ r x [] H1 Q
theorem q_bm {T : String} {r : V → List V → Hp → VK → Prop} (h : te σ H (bmK K T r tr σ Q)) : tBM K T r te tr σ H Q := h
theorem q_bm0 {T : String} {r : V → List V → Hp → VK → Prop} (h : te σ H (bmK0 K T r Q)) : tBM0 K T r te σ H Q := h
theorem q_bmL {r : V → List V → Hp → VK → Prop} (h : H l = some (.lst xs)) (k : tr σ H fun vs H2 => r (.ref l) vs H2 Q) : bmK K "list" r tr σ Q (.ref l) H := ⟨.inl ⟨rfl, xs, sqL h⟩, k⟩
theorem q_bmL0 {r : V → List V → Hp → VK → Prop} (h : H l = some (.lst xs)) (k : r (.ref l) [] H Q) : bmK0 K "list" r Q (.ref l) H := ⟨.inl ⟨rfl, xs, sqL h⟩, k⟩
theorem q_append (h : H l = some (.lst xs)) (hl : xs.length < sizeLine) (k : Q .non (upd H l (.lst (xs ++ [y])))) : rAppend (.ref l) [y] H Q := ⟨l, xs, y, rfl, rfl, h, hl, k⟩
theorem q_popAt {n : Nat} (h : H l = some (.lst xs)) (e : i = (n : Int)) (hn : n < xs.length) (hb : i < 2 ^ 63) (hv : xs[n]? = some v) (k : Q v (upd H l (.lst (xs.eraseIdx n)))) : rPopAt (.ref l) [.int i] H Q := by
  refine ⟨l, xs, i, n, v, rfl, rfl, h, by omega, hb, ?_, hv, k⟩
  subst e
  unfold seqIndex?
  have h1 : ¬ ((n : Int) < 0) := by omega
  have h2 : (n : Int) < (xs.length : Int) := by omega
  have h3 : (0 : Int) ≤ (n : Int) := by omega
  simp [h1, h2, h3]
/-! a walk over a list or a tuple -/
theorem pi_or {X : Cx} {tg e : Expr} {w1 w2 : TI} (h1 : PI X tg e w1) (h2 : PI X tg e w2) : PI X tg e (fun σ H R => w1 σ H R ∨ w2 σ H R) :=
  ⟨fun pins s σ H R I h => h.elim (h1.run pins s σ H R I) (h2.run pins s σ H R I)⟩
def iSeq (K : PySem.W.Frag) (te : TE) : TI := fun σ H R => iList K te σ H R ∨ iTup K te σ H R
theorem pi_seq {X : Cx} {tg e : Expr} {te : TE} (h : PE X e te) : PI X tg e (iSeq X.K te) := pi_or (pi_list h) (pi_tup h)
theorem q_iSeqL {R : It → Hp → Prop} (h : te σ H fun x H1 => ∃ a, x = .ref a ∧ (∃ xs, SqL K H1 a xs) ∧ R (Itl K a) H1) : iSeq K te σ H R := .inl h
theorem q_iSeqT {R : It → Hp → Prop} (h : te σ H fun x H1 => ∃ a, x = .ref a ∧ (∃ xs, SqT K H1 a xs) ∧ R (Itt K a) H1) : iSeq K te σ H R := .inr h
/-! a written dict -/
def pairsK (σ : L2.St) (r : List (TE × TE)) (x : V) (Q : List (V × V) → Hp → Prop) : VK := fun y H2 => tPairs r σ H2 fun ps H3 => Q ((x, y) :: ps) H3
theorem q_pairC {tk tv : TE} {r : List (TE × TE)} {R : List (V × V) → Hp → Prop} (h : tk σ H fun x H1 => tv σ H1 (pairsK σ r x R)) : tPairs ((tk, tv) :: r) σ H R := h
theorem q_pairsK {r : List (TE × TE)} {R : List (V × V) → Hp → Prop} (h : tPairs r σ H fun ps H3 => R ((x, y) :: ps) H3) : pairsK σ r x R y H := h
theorem q_pairN {R : List (V × V) → Hp → Prop} (h : R [] H) : tPairs [] σ H R := h
def dispK (Q : VK) (p : Addr) : List (V × V) → Hp → Prop := fun ps H2 => H2 p = some (.dK []) ∧ ∃ kvs : List (Key × V), ps = kvs.map (fun kv => (kV kv.1, kv.2)) ∧ kvs.length ≤ 15 ∧ Q (.ref p) (upd H2 p (.dK (mergeK [] kvs)))
theorem q_disp {trs : List (TE × TE)} (k : ∀ p, H p = none → tPairs trs σ (upd H p (.dK [])) (dispK Q p)) : tDisp trs σ H Q := k
theorem valV_cons {κ : Type} [DecidableEq κ] {kvs : List (κ × V)} {k k' : κ} {v : V} : valV ((k, v) :: kvs) k' = if k = k' then some v else valV kvs k' := by
  unfold valV
  rw [List.find?_cons]
  by_cases e : k = k'
  · rw [if_pos e, decide_eq_true e]; rfl
  · rw [if_neg e, decide_eq_false e]
theorem valV_nomem {κ : Type} [DecidableEq κ] {kvs : List (κ × V)} {k : κ} (h : k ∉ kvs.map (·.1)) : valV kvs k = none := by
  cases q : valV kvs k with
  | none => rfl
  | some v => exact absurd (valV_in q) h
theorem merge_app : ∀ (kvs acc : List (Key × V)), ((acc ++ kvs).map (·.1)).Nodup → mergeK acc kvs = acc ++ kvs
  | [], acc, _ => by rw [List.append_nil]; rfl
  | (k, v) :: r, acc, h => by
    have hk : k ∉ acc.map (·.1) := by
      rw [List.map_append] at h
      intro m
      exact (List.nodup_append.mp h).2.2 k m k (by simp) rfl
    show mergeK (putK acc k v) r = _
    rw [putK_new v (valV_nomem hk), merge_app r (acc ++ [(k, v)]) (by rw [List.append_assoc]; exact h), List.append_assoc]
    rfl
theorem q_dispK {kvs : List (Key × V)} {ps : List (V × V)} (h : H p = some (.dK [])) (e : ps = kvs.map (fun kv => (kV kv.1, kv.2))) (hl : kvs.length ≤ 15) (hn : (kvs.map (·.1)).Nodup) (k : Q (.ref p) (upd H p (.dK kvs))) : dispK Q p ps H :=
  ⟨h, kvs, e, hl, by rw [merge_app kvs [] hn]; exact k⟩
theorem q_slL {lo hi : Option Int} (h : SqL K H a xs) (k : ∀ p, H p = none → Q (.ref p) (upd H p (.lst (cutV xs lo hi)))) : rSlL K (.ref a) lo hi H Q := ⟨a, xs, rfl, h, k⟩
/-! attributes and methods -/
def fldK (K : PySem.W.Frag) (f : Str) (Q : VK) : VK := fun x H1 => ∃ a C dx fs v, x = .ref a ∧ H1 a = some (.ins C dx fs) ∧ Cls K C ∧ NoAttr K C f ∧ fs.lookup f = some v ∧ Q v H1
theorem q_fld {f : Str} (h : te σ H (fldK K f Q)) : tFld K te f σ H Q := h
theorem q_fldK {f : Str} {C dx : Addr} {fs : List (Str × V)} (h : H a = some (.ins C dx fs)) (hc : Cls K C) (hn : NoAttr K C f) (hl : fs.lookup f = some v) (k : Q v H) : fldK K f Q (.ref a) H := ⟨a, C, dx, fs, v, rfl, h, hc, hn, hl, k⟩
def fputK (K : PySem.W.Frag) (f : Str) (D : Ends) (σ : L2.St) (y : V) : VK := fun x H2 => ∃ a C dx fs, x = .ref a ∧ H2 a = some (.ins C dx fs) ∧ Cls K C ∧ NoAttr K C f ∧ fs.length < 1000 ∧ D.nx σ (upd H2 a (.ins C dx (putF f y fs)))
theorem q_sFld {f : Str} (h : tb σ H fun y H1 => te σ H1 (fputK K f D σ y)) : sFld K te tb f D σ H := h
theorem q_fputK {f : Str} {C dx : Addr} {fs : List (Str × V)} (h : H a = some (.ins C dx fs)) (hc : Cls K C) (hn : NoAttr K C f) (hl : fs.length < 1000) (k : D.nx σ (upd H a (.ins C dx (putF f y fs)))) : fputK K f D σ y (.ref a) H := ⟨a, C, dx, fs, rfl, h, hc, hn, hl, k⟩
def methK (m : Str) (C : Addr) (sp : Sp) (dvs : List V) (E : XK) (tr : TA) (σ : L2.St) (Q : VK) : VK := fun x H1 => ∃ a dx fs, x = .ref a ∧ H1 a = some (.ins C dx fs) ∧ fs.lookup m = none ∧ tr σ H1 fun vs H2 => sp (x :: (vs ++ dvs)) H2 Q E
theorem q_meth {m : Str} {C : Addr} {sp : Sp} {dvs : List V} {E : XK} (h : te σ H (methK m C sp dvs E tr σ Q)) : tMeth C m sp dvs E te tr σ H Q := h
def selfK (sp : Sp) (x : V) (E : XK) (Q : VK) : List V → Hp → Prop := fun vs H2 => sp (x :: vs) H2 Q E
theorem q_methK {m : Str} {C dx : Addr} {sp : Sp} {E : XK} {fs : List (Str × V)} (h : H a = some (.ins C dx fs)) (hn : fs.lookup m = none) (k : ∀ (R : List V → Hp → Prop), (∀ vs H2, sp (.ref a :: vs) H2 Q E → R vs H2) → tr σ H R) : methK m C sp [] E tr σ Q (.ref a) H :=
  ⟨a, dx, fs, rfl, h, hn, k _ fun vs H2 q => by rw [List.append_nil]; exact q⟩
theorem q_fldlen {f : Str} {fs : List (Str × V)} {y : V} {n : Nat} (h : fs.length ≤ n) : (putF f y fs).length ≤ n + 1 := by
  induction fs generalizing n with
  | nil => exact Nat.succ_le_succ (Nat.zero_le _)
  | cons p r ih =>
    obtain ⟨g, x⟩ := p
    show (if g = f then (g, y) :: r else (g, x) :: putF f y r).length ≤ n + 1
    by_cases e : g = f
    · rw [if_pos e]; exact Nat.le_succ_of_le h
    · rw [if_neg e]
      cases n with
      | zero => exact absurd h (by simp)
      | succ n => exact Nat.succ_le_succ (ih (Nat.le_of_succ_le_succ h))
theorem q_never {σ : L2.St} (h : False) : tNever D σ H := h
def mkK (C : Addr) (n m : Nat) (sp : Sp) (gV : List V → List V → List V) (E : XK) (vs : List V) (Q : VK) : List V → Hp → Prop := fun zs H2 => vs.length = n ∧ zs.length = m ∧ ∀ x dx, H2 x = none → H2 dx = none → dx ≠ x →
  sp (gV (.ref x :: vs) zs) (upd (upd H2 dx (.own x)) x (.ins C dx [])) (fun v H3 => v = .non ∧ Q (.ref x) H3) E
theorem q_makeK {C : Addr} {n m : Nat} {sp : Sp} {gV : List V → List V → List V} {E : XK} {tk : TA} (h : tr σ H fun vs H1 => tk σ H1 (mkK C n m sp gV E vs Q)) : tMakeK C n m sp gV E tr tk σ H Q := h
/-! comprehensions -/
def lcK (g : TG) (tt : TT) (te : TE) (vs : List Nat) (σ : L2.St) (Q : VK) : It → Hp → Prop := fun J H1 => ∀ D, H1 D = none → ∃ W : Nat → Nat → Hp → Prop, (∃ m, W 0 m (upd H1 D (.lst []))) ∧ ∀ i m H, W i m H →
  (J.stop i H ∧ Q (.ref D) H) ∨ (J.go i H ∧ ∃ Nx : Hp → Prop, (∀ H', Nx H' → ∃ m', m' < m ∧ W (i + 1) m' H') ∧ ∀ x H', J.yld i H x H' → g x (wipe σ vs) H' fun σ2 H2 => wipe σ2 vs = wipe σ vs ∧ tt σ2 H2 fun b H3 =>
    if b = true then te σ2 H3 fun y H4 => ∃ acc, H4 D = some (.lst acc) ∧ acc.length < sizeLine ∧ Nx (upd H4 D (.lst (acc ++ [y]))) else Nx H3)
theorem q_lc {wi : TI} {vs : List Nat} (h : wi σ H (lcK g tt te vs σ Q)) : tLc wi g tt te vs σ H Q := h
def keepK (te : TE) (σ : L2.St) (D : Addr) (Nx : Hp → Prop) : Bool → Hp → Prop := fun b H3 => if b = true then te σ H3 fun y H4 => ∃ acc, H4 D = some (.lst acc) ∧ acc.length < sizeLine ∧ Nx (upd H4 D (.lst (acc ++ [y]))) else Nx H3
def accK (D : Addr) (Nx : Hp → Prop) : VK := fun y H4 => ∃ acc, H4 D = some (.lst acc) ∧ acc.length < sizeLine ∧ Nx (upd H4 D (.lst (acc ++ [y])))
theorem q_keepT {Nx : Hp → Prop} (h : te σ H (accK l Nx)) : keepK te σ l Nx true H := iteT h
theorem q_keepF {Nx : Hp → Prop} (h : Nx H) : keepK te σ l Nx false H := iteF h
theorem q_keep2 {Nx : Hp → Prop} {c : Bool} (h : c = true → te σ H (accK l Nx)) (h2 : c = false → Nx H) : keepK te σ l Nx c H := by
  cases c with
  | true => exact iteT (h rfl)
  | false => exact iteF (h2 rfl)
theorem q_accK {Nx : Hp → Prop} (h : H l = some (.lst xs)) (hl : xs.length < sizeLine) (k : Nx (upd H l (.lst (xs ++ [y])))) : accK l Nx y H := ⟨xs, h, hl, k⟩
theorem q_lcL {S : List V} {vs : List Nat} (h : SqL K H a S) (k : ∀ D, H D = none → ∃ Pv : Nat → Hp → Prop, Pv 0 (upd H D (.lst [])) ∧ (∀ i H, i ≤ S.length → Pv i H → SqL K H a S) ∧
      (∀ i x H, S[i]? = some x → Pv i H → g x (wipe σ vs) H fun σ2 H2 => wipe σ2 vs = wipe σ vs ∧ tt σ2 H2 (keepK te σ2 D (Pv (i + 1)))) ∧ ∀ H, Pv S.length H → Q (.ref D) H) :
    ∃ b, V.ref a = .ref b ∧ (∃ xs, SqL K H b xs) ∧ lcK g tt te vs σ Q (Itl K b) H := ⟨a, rfl, ⟨S, h⟩, fun D hD => by
      obtain ⟨Pv, h0, hl, hs, hd⟩ := k D hD
      exact lc_list Pv h0 hl hs hd⟩
theorem q_lcT {S : List V} {vs : List Nat} (h : SqT K H a S) (k : ∀ D, H D = none → ∃ Pv : Nat → Hp → Prop, Pv 0 (upd H D (.lst [])) ∧ (∀ i H, i ≤ S.length → Pv i H → SqT K H a S) ∧
      (∀ i x H, S[i]? = some x → Pv i H → g x (wipe σ vs) H fun σ2 H2 => wipe σ2 vs = wipe σ vs ∧ tt σ2 H2 (keepK te σ2 D (Pv (i + 1)))) ∧ ∀ H, Pv S.length H → Q (.ref D) H) :
    ∃ b, V.ref a = .ref b ∧ (∃ xs, SqT K H b xs) ∧ lcK g tt te vs σ Q (Itt K b) H := ⟨a, rfl, ⟨S, h⟩, fun D hD => by
      obtain ⟨Pv, h0, hl, hs, hd⟩ := k D hD
      exact lc_tup Pv h0 hl hs hd⟩
theorem q_lcR {vs : List Nat} (hj : 0 ≤ j ∧ j < 1000000000000000) (k : ∀ D, H D = none → ∃ Pv : Nat → Hp → Prop, Pv 0 (upd H D (.lst [])) ∧
      (∀ (i : Nat) H, (i : Int) < j → Pv i H → g (.int i) (wipe σ vs) H fun σ2 H2 => wipe σ2 vs = wipe σ vs ∧ tt σ2 H2 (keepK te σ2 D (Pv (i + 1)))) ∧ ∀ H, Pv j.toNat H → Q (.ref D) H) :
    rg1K (lcK g tt te vs σ Q) [.int j] H := ⟨j, rfl, by omega, by omega, fun D hD => by
      obtain ⟨Pv, h0, hs, hd⟩ := k D hD
      refine lc_range Pv h0 (fun i H hi hp => ?_) hd
      have e : (0 : Int) + (i : Int) = (i : Int) := Int.zero_add _
      rw [e]
      exact hs i H (by omega) hp⟩
end

/-! get and setdefault of a dict -/
section
variable {H : Hp} {σ : L2.St} {Q : VK} {td ty tx : TE} {a : Addr} {z v : V}
def dG2K (Q : VK) (a : Addr) (y : V) : VK := fun z H3 => ∃ o, DGet H3 a y o ∧ Q (o.getD z) H3
def dG2a (ty tx : TE) (σ : L2.St) (Q : VK) : VK := fun x H1 => ∃ a, x = .ref a ∧ IsD H1 a ∧ ty σ H1 fun y H2 => tx σ H2 (dG2K Q a y)
theorem q_tDGet2 (h : td σ H (dG2a ty tx σ Q)) : tDGet2 td ty tx σ H Q := h
theorem q_dG2a {kvs : List (Key × V)} (h : H a = some (.dK kvs)) (k : ty σ H fun y H2 => tx σ H2 (dG2K Q a y)) : dG2a ty tx σ Q (.ref a) H := ⟨a, rfl, .inl ⟨kvs, .inl h⟩, k⟩
theorem q_dG2S {kvs : List (Key × V)} {s : Str} (h : H a = some (.dK kvs)) (k : Q ((valV kvs (.inr s)).getD z) H) : dG2K Q a (.str s) z H := ⟨_, DGet.k (k := Sum.inr s) h, k⟩
theorem q_dG2I {kvs : List (Key × V)} {i : Int} (h : H a = some (.dK kvs)) (k : Q ((valV kvs (.inl i)).getD z) H) : dG2K Q a (.int i) z H := ⟨_, DGet.k (k := Sum.inl i) h, k⟩
def dSdK (Q : VK) (a : Addr) (y : V) : VK := fun z H3 => ∃ (kvs : List (Key × V)) (k : Key), H3 a = some (.dK kvs) ∧ y = kV k ∧ kvs.length < sizeLine ∧ (∀ v, valV kvs k = some v → Q v H3) ∧ (valV kvs k = none → Q z (upd H3 a (.dK (putK kvs k z))))
def dSda (ty tx : TE) (σ : L2.St) (Q : VK) : VK := fun x H1 => ∃ a, x = .ref a ∧ IsD H1 a ∧ ty σ H1 fun y H2 => tx σ H2 (dSdK Q a y)
theorem q_tDSetd (h : td σ H (dSda ty tx σ Q)) : tDSetd td ty tx σ H Q := h
theorem q_dSda {kvs : List (Key × V)} (h : H a = some (.dK kvs)) (k : ty σ H fun y H2 => tx σ H2 (dSdK Q a y)) : dSda ty tx σ Q (.ref a) H := ⟨a, rfl, .inl ⟨kvs, .inl h⟩, k⟩
theorem q_dSdS {kvs : List (Key × V)} {s : Str} (h : H a = some (.dK kvs)) (hl : kvs.length < sizeLine) (k1 : ∀ v, valV kvs (.inr s) = some v → Q v H) (k2 : valV kvs (.inr s) = none → Q z (upd H a (.dK (putK kvs (.inr s) z)))) : dSdK Q a (.str s) z H := ⟨kvs, .inr s, h, rfl, hl, k1, k2⟩
end

/-! methods that may raise within a try; the suite of one class; del of an item; a text times 1 -/
section
variable {K : PySem.W.Frag} {σ : L2.St} {H : Hp} {Q : VK} {D : Ends} {l : Addr} {xs : List V} {i : Int} {to ti : TE}
def delK (D : Ends) (σ : L2.St) (x : V) : VK := fun y H2 => ∃ (l : Addr) (xs : List V) (i : Int) (k : Nat), x = .ref l ∧ y = .int i ∧ H2 l = some (.lst xs) ∧ -(2 ^ 63) ≤ i ∧ i < 2 ^ 63 ∧ seqIndex? i xs.length = some k ∧ D.nx σ (upd H2 l (.lst (xs.eraseIdx k)))
theorem q_delL (h : to σ H fun x H1 => ti σ H1 (delK D σ x)) : tDelL to ti D σ H := h
theorem seqIx {n m : Nat} (h : n < m) : seqIndex? (n : Int) m = some n := by
  unfold seqIndex?
  have h1 : ¬ ((n : Int) < 0) := by omega
  have h2 : (n : Int) < (m : Int) := by omega
  have h3 : (0 : Int) ≤ (n : Int) := by omega
  simp [h1, h2, h3]
theorem q_delK {n : Nat} (h : H l = some (.lst xs)) (e : i = (n : Int)) (hn : n < xs.length) (hb : i < 2 ^ 63) (k : D.nx σ (upd H l (.lst (xs.eraseIdx n)))) : delK D σ (.ref l) (.int i) H :=
  ⟨l, xs, i, n, rfl, rfl, h, by omega, hb, by rw [e]; exact seqIx hn, k⟩
def rMulStr1 : R2 := fun x y H Q => ∃ s, x = .str s ∧ y = .int 1 ∧ Q (.str s) H
theorem oq_mulStr1 {X : Cx} : OpR X (binaryOp .Mult) rMulStr1 := by
  intro pins s σ H x y v u Q I rx ry h
  obtain ⟨z, rfl, rfl, q⟩ := h
  obtain ⟨t, rfl⟩ := rx
  obtain ⟨t', rfl⟩ := ry
  refine PySem.P.mul_str (by decide) (fun _ h => by cases h) (fun _ h => by cases h) ?_
  rw [if_neg (show ¬ (1 : Int) < 1 by omega), if_pos (by rfl)]
  exact ⟨.str z, H, I, ⟨_, rfl⟩, q⟩
theorem q_mulStr1 {s : Str} (k : Q (.str s) H) : rMulStr1 (.str s) (.int 1) H Q := ⟨s, rfl, rfl, k⟩
theorem q_int1b {c : Bool} (k : Q (.int (if c then 1 else 0)) H) : rInt1 [.bl c] H Q := .inr ⟨c, rfl, k⟩
theorem q_int1t (k : Q (.int 1) H) : rInt1 [.bl true] H Q := .inr ⟨true, rfl, k⟩
theorem q_neB {c d : Bool} (k : Q (.bl (c != d)) H) : rNe (.bl c) (.bl d) H Q := ⟨rfl, by
  have e : (!decide (V.bl c = V.bl d)) = (c != d) := by cases c <;> cases d <;> rfl
  rw [e]; exact k⟩
theorem q_neBs {c : Bool} (k : Q (.bl false) H) : rNe (.bl c) (.bl c) H Q := q_neB (by rw [bne_self_eq_false]; exact k)
def tMethA (C : Addr) (m : Str) (sp : Sp) (E : L2.St → XK) (ta : TE) (t : TA) : TE := fun σ H Q => ta σ H fun x H1 => ∃ a dx fs, x = .ref a ∧ H1 a = some (.ins C dx fs) ∧ fs.lookup m = none ∧ t σ H1 fun vs H2 => sp (x :: vs) H2 Q (E σ)
def methAK (C : Addr) (m : Str) (sp : Sp) (E : L2.St → XK) (t : TA) (σ : L2.St) (Q : VK) : VK := fun x H1 => ∃ a dx fs, x = .ref a ∧ H1 a = some (.ins C dx fs) ∧ fs.lookup m = none ∧ t σ H1 fun vs H2 => sp (x :: vs) H2 Q (E σ)
theorem q_methA {C : Addr} {m : Str} {sp : Sp} {E : L2.St → XK} {ta : TE} {t : TA} (h : ta σ H (methAK C m sp E t σ Q)) : tMethA C m sp E ta t σ H Q := h
theorem q_methAK {C dx a : Addr} {m : Str} {sp : Sp} {E : L2.St → XK} {t : TA} {fs : List (Str × V)} (h : H a = some (.ins C dx fs)) (hn : fs.lookup m = none) (k : t σ H fun vs H2 => sp (.ref a :: vs) H2 Q (E σ)) : methAK C m sp E t σ Q (.ref a) H := ⟨a, dx, fs, rfl, h, hn, k⟩
theorem q_callS {sp : Sp} {E : L2.St → XK} {t : TA} (h : t σ H fun vs H1 => sp vs H1 Q (E σ)) : tCallS sp E t σ H Q := h
theorem q_isE {D a C : Addr} {b : Bool} (e : PySem.W.kitOne K (.ref D) (.ref C) = some b) (k : Q (.bl b) H) : rIsE K D a [.ref a, .ref C] H Q := ⟨.ref C, .ref C, b, rfl, fun _ r => r, e, k⟩
end
section
variable {X : Cx} {CX : CXT} {k : Nat} {f C : Addr} {fd : FuncData} {ps : List Str} {sp : Sp} {E : L2.St → XK} {m : Str} {pos apos : Pos} {e o : Expr} {es : List Expr} {ta : TE} {t : TA}
theorem pe_methA {pl : Sem Bool} (he : PE X o ta) (c : Cls X.K C) (hm : Meth X.K C m f) (F : FnOk X.prog X.w X.K X.mg X.base CX k f fd ps sp) (hr : Room k X.A) (hb : Binds X.K fd ps []) (hx : ∀ σ, PassesAt CX X σ (E σ)) (ha : PA X (e :: es) t)
    (hst : starEach (e :: es) X.env = (false, eval e X.env) :: starEach es X.env := by rfl) (hpl : (backTo pos (starEach es X.env)).any (·.1) = false := by rfl)
    (ht : eval (.Call (.Attribute o m apos) (e :: es) [] pos) X.env = (do
      let ov ← eval o X.env
      standAt apos.atName
      let (f, first) ← holding [ov] (getMethod ov m pl)
      callWith pos f first (backTo pos (starEach (e :: es) X.env)) (backToKw pos (keywordEach [] X.env))) := by rfl) :
    PE X (.Call (.Attribute o m apos) (e :: es) [] pos) (tMethA C m sp E ta t) := by
  refine ⟨fun pins s σ H Q I h => ?_⟩
  refine PySem.W.methodCall_KW (pl := pl) (thn (he.run pins s σ H _ I h) fun u s1 ⟨x, H1, I1, rx, a, dx, fs, ex, ea, l, q⟩ => ?_) ht
  subst ex
  obtain rfl : u = Value.ref a := rx
  refine getmeth_ok I1 ea c hm l ?_
  refine PySem.W.callWith_K (first := [.ref a]) (h₀ := X.base) I.ok.mod.kin hm.kp (thn (ha.run pos pins s1 σ H1 _ I1 q) fun us s2 ⟨vs, H2, I2, r, q2⟩ => ⟨I2.kIn, ?_⟩) hst hpl
  exact run_fnS (us := .ref a :: us) (vs := .ref a :: vs) F hr hb (hx σ) I2 (.cons rfl r) q2
theorem pss_cls {oe : Obj} {cls : Value} {d : Option Addr} {b : List Stmt} {t : TS} (hz : Zc cls d oe) (h : Zc (.ref C) none oe → PSs X b t) : PSs X b (fun D σ H => (cls = .ref C ∧ d = none) ∧ t D σ H) :=
  ⟨fun pins s σ H D I q => (h (by obtain ⟨⟨e1, e2⟩, _⟩ := q; rw [e1, e2] at hz; exact hz)).run pins s σ H D I q.2⟩
end

/-! the sum of a dict's values; dicts keyed by tuples -/
section
variable {X : Cx} {o : Expr} {p pos apos mpos : Pos} {td : TE}
def tSumVals (td : TE) : TE := fun σ H Q => td σ H fun x H1 => ∃ (a : Addr) (kvs : List (Key × V)) (is : List Int), x = V.ref a ∧ H1 a = some (.dK kvs) ∧ kvs.map (·.2) = is.map V.int ∧ Q (.int is.sum) H1
theorem pre_sum (is : List Int) : ∀ n, n ≤ is.length → preSum (fun i => is.getD i 0) n = (is.take n).sum
  | 0, _ => by simp [preSum]
  | n + 1, h => by
    rw [preSum, pre_sum is n (by omega), List.take_add_one, List.sum_append, List.getElem?_eq_getElem (by omega), List.getD_eq_getElem?_getD, List.getElem?_eq_getElem (by omega)]
    simp
theorem pe_sumVals (hc : X.calm = true) (hg : Gl X "sum") (hm : X.mg "sum" = none) (hd : PE X o td) (hbase : attributeBase o "values" X.env (eval o X.env) = eval o X.env := by rfl) (hline : (apos.endLine == mpos.line) = true := by rfl)
    (hse : starEach [Expr.Call (.Attribute o "values" apos) [] [] mpos] X.env = [(false, eval (Expr.Call (.Attribute o "values" apos) [] [] mpos) X.env)] := by rfl) :
    PE X (.Call (.Name "sum" p) [.Call (.Attribute o "values" apos) [] [] mpos] [] pos) (tSumVals td) := by
  refine ⟨fun pins s σ H Q I h => ?_⟩
  refine wpAny_Call_Name_kw (ld_blt I hg hm (u := .builtin "sum") (by first | rfl | decide +kernel) ?_ (by first | decide +kernel | decide) (by first | decide +kernel | decide))
  rw [hse]
  refine PySem.callWith_builtin1 (wpAny_Call_method0_late hbase hline (thn (hd.run pins s σ H _ I h) fun v s1 ⟨x, H1, I1, r1, a, kvs, is, ex, ha, hv, q⟩ => ?_))
  subst ex
  obtain rfl : v = Value.ref a := r1
  obtain ⟨_, hsys, vs, rel, dof⟩ := dk_of I1.hok ha
  obtain ⟨ep, dat⟩ := dof.dictAt
  have dat' := dat
  obtain ⟨ob, es, ho, ex, hdat, hko, hpr, hnd⟩ := dat'
  refine ⟨"dict", "dict.values", PySem.F.plainAttrs_dict, PySem.F.slot_dict_values, PySem.F.type_dict_values, ⟨ob, ho, ex.1⟩, fun b e => ?_, Calls.callWith_builtin rfl (PySem.evalArgs_none ?_)⟩
  · cases e
    exact ⟨ob, ho, ex.2.1⟩
  refine call_meetsIn PySem.F.slot_dict_values ⟨ob, ho, ex.1⟩ PySem.F.entry_dict_values (PySem.F.args_dict_values_1 _) (meets_dict_values (mixKind X.prog X.w) a hsys) ⟨⟨vs, dof⟩, ?_⟩
  have k1 : ∀ b u, s1.heap.get? b = some u → (s1.heap.push { cls := .type "dict_values", data := .fields #[.ref a] }).get? b = some u := fun b u e => Heap.get?_push_of_some _ e
  have dat1 : (s1.heap.push { cls := .type "dict_values", data := .fields #[.ref a] }).DictAt (mixKind X.prog X.w) a vs ep := dat.keep k1
  have hlv : vs.length = is.length := by
    have e1 := congrArg List.length hv
    rw [List.length_map, List.length_map] at e1
    rw [← e1]
    exact (KV.length rel).symm
  have hval : ∀ (i : Nat) (v : Value), (∃ k, vs[i]? = some (k, v)) → ∃ t, v = Value.int (is.getD i 0) t := fun i v ⟨k, hk⟩ => by
    obtain ⟨x, h1, h2⟩ := KV.at' rel hk
    have e1 : (kvs.map (·.2))[i]? = some x := by rw [List.getElem?_map, h1] <;> rfl
    rw [hv, List.getElem?_map] at e1
    obtain ⟨j, hj, e2⟩ := Option.map_eq_some_iff.mp e1
    subst e2
    obtain ⟨t, e3⟩ := h2
    refine ⟨t, ?_⟩
    rw [e3, List.getD_eq_getElem?_getD, hj] <;> rfl
  refine call_sum_walkG (wpAny_pyIter_values (v := s1.heap.objs.size) (d := a) ⟨_, Heap.get?_push_size _ rfl, rfl, rfl⟩ dat1 ?_)
  have hlt : a < s1.heap.objs.size := Heap.lt_size ho
  have hsz : (s1.heap.push { cls := .type "dict_values", data := .fields #[.ref a] }).objs.size = s1.heap.objs.size + 1 := Heap.size_push _ _
  refine ⟨_, _, _, _, _, _, fun i => is.getD i 0, rfl, Walks.dictValues (knd := mixKind X.prog X.w) (A := X.A.in1) (I.ok.hd hc) (s1.heap.push { cls := .type "dict_values", data := .fields #[.ref a] }).objs.size a (by rw [hsz]; exact Nat.ne_of_lt (Nat.lt_succ_of_lt hlt)) vs ep,
    ⟨⟨_, Heap.get?_push_size _ rfl, rfl, rfl⟩, dat1.keep fun b u e => Heap.get?_push_of_some _ e⟩, fun b hb => ?_, hval, fun h' tk t' hk => ?_⟩
  · show b < ((s1.heap.push _).push _).objs.size
    rw [Heap.size_push, Heap.size_push]
    rw [hsz] at hb
    rcases List.mem_cons.mp hb with e | hb
    · rw [e]
      exact Nat.lt_succ_self _
    · have e : b = a := List.mem_singleton.mp hb
      rw [e]
      exact Nat.lt_succ_of_lt (Nat.lt_succ_of_lt hlt)
  · refine ⟨.int is.sum, H1, I1.kept (t' := tk) fun b u e => hk b u (fun hmem => ?_) (Heap.get?_push_of_some _ (k1 b u e)), ⟨t', ?_⟩, q⟩
    · have e1 : b = (s1.heap.push { cls := .type "dict_values", data := .fields #[.ref a] }).objs.size := List.mem_singleton.mp hmem
      have e2 := Heap.lt_size e
      rw [hsz] at e1
      rw [e1] at e2
      exact absurd e2 (Nat.not_lt.mpr (Nat.le_succ _))
    · rw [pre_sum is _ (by omega), hlv, List.take_length]
end
section
variable {K : PySem.W.Frag} {σ : L2.St} {H : Hp} {Q : VK} {D : Ends} {a b : Addr} {z v : V} {ty tx td : TE} {kvs : List (List Key × V)} {k : List Key}
def sumK (Q : VK) : VK := fun x H1 => ∃ (a : Addr) (kvs : List (Key × V)) (is : List Int), x = V.ref a ∧ H1 a = some (.dK kvs) ∧ kvs.map (·.2) = is.map V.int ∧ Q (.int is.sum) H1
theorem q_sumVals (h : td σ H (sumK Q)) : tSumVals td σ H Q := h
theorem q_sumK {kvs : List (Key × V)} {is : List Int} (h : H a = some (.dK kvs)) (e : kvs.map (·.2) = is.map V.int) (q : Q (.int is.sum) H) : sumK Q (.ref a) H := ⟨a, kvs, is, rfl, h, e, q⟩
theorem q_dG2aT (h : H a = some (.dT kvs)) (q : ty σ H fun y H2 => tx σ H2 (dG2K Q a y)) : dG2a ty tx σ Q (.ref a) H := ⟨a, rfl, .inr ⟨kvs, .inl h⟩, q⟩
theorem q_dG2T (h : H a = some (.dT kvs)) (hb : H b = some (.tup (k.map kV))) (q : Q ((valV kvs k).getD z) H) : dG2K Q a (.ref b) z H := ⟨_, DGet.t h hb, q⟩
theorem q_dPutT (h : H a = some (.dT kvs)) (hb : H b = some (.tup (k.map kV))) (hl : kvs.length < sizeLine) (q : D.nx σ (upd H a (.dT (putK kvs k v)))) : dPutK D σ v (.ref a) (.ref b) H := ⟨a, _, rfl, DPut.t h hb hl, q⟩
theorem q_dNewT (q : ∀ p, H p = none → Q (.ref p) (upd H p (.dT []))) : tDNewT σ H Q := q
end

/-! dicts keyed by nested tuples -/
mutual
inductive NV (H : Hp) : NestedKey → V → Prop
  | non : NV H .none .non
  | int (i : Int) : NV H (.num i) (.int i)
  | str (x : Str) : NV H (.text x) (.str x)
  | tup {b : Addr} {vs : List V} {ks : List NestedKey} : H b = some (.tup vs) → NVs H ks vs → NV H (.tup ks) (.ref b)
inductive NVs (H : Hp) : List NestedKey → List V → Prop
  | nil : NVs H [] []
  | cons {k : NestedKey} {v : V} {ks : List NestedKey} {vs : List V} : NV H k v → NVs H ks vs → NVs H (k :: ks) (v :: vs)
end
mutual
theorem NV.is {P : Program} {w : World} {H : Hp} {h : Heap} (ok : HOk P w H h) : ∀ {k : NestedKey} {v : V} {u : Value}, NV H k v → RelV v u → NestedIs h k u
  | _, _, _, .non, r => by cases (show _ = Value.none from r); exact .none
  | _, _, _, .int i, r => by obtain ⟨t, rfl⟩ := (show ∃ t, _ = Value.int i t from r); exact .int i t
  | _, _, _, .str x, r => by obtain ⟨t, rfl⟩ := (show ∃ t, _ = Value.str x t from r); exact .text x t
  | _, _, _, .tup (b := b) (vs := vs) hb hs, r => by
    cases (show _ = Value.ref b from r)
    obtain ⟨_, its, rv, o, o1, o2, n, o3⟩ := (show ObjOk P w H h b (.tup vs) from ok b _ hb)
    exact .tup o1 o2 o3 (by simpa using NVs.are ok hs rv)
theorem NVs.are {P : Program} {w : World} {H : Hp} {h : Heap} (ok : HOk P w H h) : ∀ {ks : List NestedKey} {vs : List V} {us : List Value}, NVs H ks vs → Vals vs us → NestedAll h ks us
  | _, _, _, .nil, r => by cases r; exact .nil
  | _, _, _, .cons a b, r => by
    cases r with
    | cons r1 r2 => exact .cons (NV.is ok a r1) (NVs.are ok b r2)
end
mutual
theorem NV.mono {H H' : Hp} (e : ∀ b ys, H b = some (.tup ys) → H' b = some (.tup ys)) : ∀ {k : NestedKey} {v : V}, NV H k v → NV H' k v
  | _, _, .non => .non
  | _, _, .int i => .int i
  | _, _, .str x => .str x
  | _, _, .tup h hs => .tup (e _ _ h) (NVs.mono e hs)
theorem NVs.mono {H H' : Hp} (e : ∀ b ys, H b = some (.tup ys) → H' b = some (.tup ys)) : ∀ {ks : List NestedKey} {vs : List V}, NVs H ks vs → NVs H' ks vs
  | _, _, .nil => .nil
  | _, _, .cons a b => .cons (NV.mono e a) (NVs.mono e b)
end
abbrev NKvs := List (NestedKey × Addr × V)
def nRel (p : NestedKey × Addr × V) (q : NestedKey × Addr × Value) : Prop := p.1 = q.1 ∧ p.2.1 = q.2.1 ∧ RelV p.2.2 q.2.2
def valN (kvs : NKvs) (k : NestedKey) : Option V := (kvs.find? fun p => decide (p.1 = k)).map (·.2.2)
/-- what is true of the object of such a dict -/
def dnP (P : Program) (w : World) (a : Addr) (kvs : NKvs) (h : Heap) : Prop := kvs.length ≤ sizeLine ∧ (a == sysModules) = false ∧ ∃ xs : List (NestedKey × Addr × Value), Paired nRel kvs xs ∧
  ∃ o es ep, h.get? a = some o ∧ o.ExactDict ∧ o.data = .dict es ep ∧ es.toList = xs.map (entryOfKey (nestedKind P w)) ∧ (xs.map (·.1)).Nodup
def DN (P : Program) (w : World) (a : Addr) (kvs : NKvs) : HO := .ext (dnP P w a kvs)
/-- its keys stand as tuples, to depth 8 -/
def NKeys (H : Hp) (kvs : NKvs) : Prop := ∀ p ∈ kvs, NV H p.1 (.ref p.2.1) ∧ p.1.depth ≤ 8
theorem NKeys.mono {H H' : Hp} {kvs : NKvs} (h : NKeys H kvs) (e : ∀ b ys, H b = some (.tup ys) → H' b = some (.tup ys)) : NKeys H' kvs := fun p hp => ⟨(h p hp).1.mono e, (h p hp).2⟩
theorem NKeys.snoc {H : Hp} {kvs : NKvs} {k : NestedKey} {b : Addr} {v : V} (h : NKeys H kvs) (hk : NV H k (.ref b)) (hd : k.depth ≤ 8) : NKeys H (kvs ++ [(k, b, v)]) := fun p hp => by
  rcases List.mem_append.mp hp with m | m
  · exact h p m
  · rw [List.mem_singleton.mp m]; exact ⟨hk, hd⟩
theorem n_val {kvs : NKvs} {xs : List (NestedKey × Addr × Value)} (r : Paired nRel kvs xs) (k : NestedKey) : RelO (valN kvs k) ((atKey xs k).map (·.2)) := by
  induction r with
  | nil => exact True.intro
  | @cons p q ps qs hpq t ih =>
    obtain ⟨e1, _, e3⟩ := hpq
    unfold valN atKey at ih ⊢
    rw [List.find?_cons, List.find?_cons, ← e1]
    by_cases e : p.1 = k
    · rw [decide_eq_true e]; exact e3
    · rw [decide_eq_false e]; exact ih
theorem dn_ok {P : Program} {w : World} {H : Hp} {h : Heap} {a : Addr} {kvs : NKvs} (d : dnP P w a kvs h) : ObjOk P w H h a (DN P w a kvs) := by
  refine ⟨d, ?_, fun g1 g2 q st => ?_⟩
  · obtain ⟨_, _, _, _, o, _, _, e, _⟩ := d
    exact ⟨o, e⟩
  · obtain ⟨z, y, xs, r, o, es, ep, e, c⟩ := q
    exact ⟨z, y, xs, r, o, es, ep, st _ e, c⟩
theorem n_keys {P : Program} {w : World} {H : Hp} {h : Heap} (ok : HOk P w H h) {kvs : NKvs} {xs : List (NestedKey × Addr × Value)} (r : Paired nRel kvs xs) : NKeys H kvs → ∀ x ∈ xs, (nestedKind P w).is h x.1 x.2.1 := by
  induction r with
  | nil => intro _ x hx; cases hx
  | @cons p q ps qs hpq t ih =>
    intro hk x hx
    rcases List.mem_cons.mp hx with m | m
    · obtain ⟨n1, n2⟩ := hk p List.mem_cons_self
      rw [m, ← hpq.1, ← hpq.2.1]
      exact ⟨NV.is ok n1 rfl, n2⟩
    · exact ih (fun p' hp' => hk p' (List.mem_cons_of_mem _ hp')) x m
section
variable {X : Cx} {pins : List (Addr × Obj)} {σ : L2.St} {H : Hp} {s : Shared} {a b : Addr} {kvs : NKvs} {k : NestedKey} {A : Around} {E : Value → Shared → Prop}
theorem dn_at (I : Inv X pins σ H s) (e : H a = some (DN X.prog X.w a kvs)) (hk : NKeys H kvs) : kvs.length ≤ sizeLine ∧ (a == sysModules) = false ∧ ∃ xs, Paired nRel kvs xs ∧ s.heap.DictOfH (nestedKind X.prog X.w) a xs := by
  obtain ⟨⟨z, y, xs, r, o, es, ep, e1, e2, e3, e4, e5⟩, _⟩ := (show ObjOk X.prog X.w H s.heap a (DN X.prog X.w a kvs) from I.hok a _ e)
  exact ⟨z, y, xs, r, o, es, ep, e1, e2, e3, e4, n_keys I.hok r hk, e5⟩
theorem dn_getItem {v : V} {Q : Value → Shared → Prop} (ha : A.units + 9 < cLine) (I : Inv X pins σ H s) (e : H a = some (DN X.prog X.w a kvs)) (hk : NKeys H kvs) (nk : NV H k (.ref b)) (dk : k.depth ≤ 8) (l : valN kvs k = some v)
    (q : ∀ u s', Inv X pins σ H s' → RelV v u → Q u s') : wpAny (model X.prog X.w) A (getItem (.ref a) (.ref b)) Q E s := by
  obtain ⟨z, hd, xs, rel, dd⟩ := dn_at I e hk
  obtain ⟨u, hu, ru⟩ := RelO.some_of (v := v) (o := (atKey xs k).map (·.2)) (by rw [← l]; exact n_val rel k)
  obtain ⟨p, hp, hp2⟩ := Option.map_eq_some_iff.mp hu
  refine wpAny_getItem_heap (knd := nestedKind X.prog X.w) (by show A.in1.units + 8 < cLine; exact ha) ⟨NV.is I.hok nk rfl, dk⟩ dd hp ?_
  rw [hp2]
  exact q u _ (I.tok _) ru
theorem dn_in {Q : Value → Shared → Prop} (ha : A.units + 9 < cLine) (I : Inv X pins σ H s) (e : H a = some (DN X.prog X.w a kvs)) (hk : NKeys H kvs) (nk : NV H k (.ref b)) (dk : k.depth ≤ 8)
    (q : ∀ s', Inv X pins σ H s' → Q (.bool (valN kvs k).isSome) s') : wpAny (model X.prog X.w) A (compareOp .In (.ref b) (.ref a)) Q E s := by
  obtain ⟨z, hd, xs, rel, dd⟩ := dn_at I e hk
  refine wpAny_in_heap (knd := nestedKind X.prog X.w) (by show A.in1.units + 8 < cLine; exact ha) ⟨NV.is I.hok nk rfl, dk⟩ hd dd ?_
  have t := (n_val rel k).isSome_eq
  rw [Option.isSome_map] at t
  rw [← t]
  exact q _ (I.tok _)
theorem dn_notIn {Q : Value → Shared → Prop} (ha : A.units + 9 < cLine) (I : Inv X pins σ H s) (e : H a = some (DN X.prog X.w a kvs)) (hk : NKeys H kvs) (nk : NV H k (.ref b)) (dk : k.depth ≤ 8)
    (q : ∀ s', Inv X pins σ H s' → Q (.bool (!(valN kvs k).isSome)) s') : wpAny (model X.prog X.w) A (compareOp .NotIn (.ref b) (.ref a)) Q E s := by
  obtain ⟨z, hd, xs, rel, dd⟩ := dn_at I e hk
  refine wpAny_notIn_heap (knd := nestedKind X.prog X.w) (by show A.in1.units + 8 < cLine; exact ha) ⟨NV.is I.hok nk rfl, dk⟩ hd dd ?_
  have t := (n_val rel k).isSome_eq
  rw [Option.isSome_map] at t
  rw [← t]
  exact q _ (I.tok _)
/-- a new key is stored -/
theorem dn_setItem {v : V} {u : Value} {Q : Unit → Shared → Prop} (ha : A.units + 9 < cLine) (I : Inv X pins σ H s) (e : H a = some (DN X.prog X.w a kvs)) (hk : NKeys H kvs) (nk : NV H k (.ref b)) (dk : k.depth ≤ 8) (l : valN kvs k = none) (hl : kvs.length < sizeLine) (ru : RelV v u)
    (q : ∀ s', Inv X pins σ (upd H a (DN X.prog X.w a (kvs ++ [(k, b, v)]))) s' → Q () s') : wpAny (model X.prog X.w) A (setItem (.ref a) (.ref b) u) Q E s := by
  obtain ⟨z, hd, xs, rel, dd⟩ := dn_at I e hk
  have hz : xs.length ≤ sizeLine := by rw [← Paired.length rel]; exact z
  have hn : atKey xs k = none := by
    have t := (n_val rel k).isSome_eq
    rw [l, Option.isSome_map] at t
    cases m : atKey xs k with
    | none => rfl
    | some _ => rw [m] at t; cases t
  refine wpAny_setItem_heap (knd := nestedKind X.prog X.w) (hsz := hz) (by show A.in1.units + 8 < cLine; exact ha) ⟨NV.is I.hok nk rfl, dk⟩ dd fun h' dd' hs => q _ ?_
  rw [storedH_new hn] at dd'
  obtain ⟨o, es, ep, e1, e2, e3, e4, _, e5⟩ := dd'
  exact d_write I (by rw [e]; exact True.intro) hs ⟨o, e1⟩ (dn_ok ⟨by rw [List.length_append]; exact hl, hd, _, Paired.snoc rel ⟨rfl, rfl, ru⟩, o, es, ep, e1, e2, e3, e4, e5⟩)
end
theorem hn_of {A : Around} {k : Nat} (hr : Room k A) : A.units + 9 < cLine := by have := hr65 hr; omega
def nGetK (P : Program) (w : World) (Q : VK) (x : V) : VK := fun y J => ∃ (a b : Addr) (kvs : NKvs) (k : NestedKey) (v : V), x = .ref a ∧ y = .ref b ∧ J a = some (DN P w a kvs) ∧ NKeys J kvs ∧ NV J k (.ref b) ∧ k.depth ≤ 8 ∧ valN kvs k = some v ∧ Q v J
def tNGet (P : Program) (w : World) (td ty : TE) : TE := fun σ H Q => td σ H fun x J => ty σ J (nGetK P w Q x)
def nInK (P : Program) (w : World) (n : Bool) (Q : VK) (y : V) : VK := fun x J => ∃ (a b : Addr) (kvs : NKvs) (k : NestedKey), x = .ref a ∧ y = .ref b ∧ J a = some (DN P w a kvs) ∧ NKeys J kvs ∧ NV J k (.ref b) ∧ k.depth ≤ 8 ∧ Q (.bl (xor n (valN kvs k).isSome)) J
def tNIn (P : Program) (w : World) (n : Bool) (ty td : TE) : TE := fun σ H Q => ty σ H fun y J => td σ J (nInK P w n Q y)
def nPutK (P : Program) (w : World) (D : Ends) (σ : L2.St) (v x : V) : VK := fun y J => ∃ (a b : Addr) (kvs : NKvs) (k : NestedKey), x = .ref a ∧ y = .ref b ∧ J a = some (DN P w a kvs) ∧ NKeys J kvs ∧ NV J k (.ref b) ∧ k.depth ≤ 8 ∧ valN kvs k = none ∧ kvs.length < sizeLine ∧ D.nx σ (upd J a (DN P w a (kvs ++ [(k, b, v)])))
def sNPut (P : Program) (w : World) (td ty tv : TE) : TS := fun D σ H => tv σ H fun v H1 => td σ H1 fun x H2 => ty σ H2 (nPutK P w D σ v x)
def tNNew (P : Program) (w : World) : TE := fun _ H Q => ∀ p, H p = none → Q (.ref p) (upd H p (DN P w p []))
section
variable {X : Cx} {o i value : Expr} {pos pos' : Pos} {td ty tv : TE}
theorem pe_nget (ha : X.A.units + 9 < cLine) (po : PE X o td) (pi : PE X i ty) (ns : NoSl i) : PE X (.Subscript o i pos) (tNGet X.prog X.w td ty) := ⟨fun pins s σ H Q I q => by
  refine subD_of PySem.F.slot_dict_getitem.lookup ns (thn (po.run pins s σ H _ I q) fun u s1 ⟨x, J, IJ, rx, q1⟩ => thn (pi.run pins s1 σ J _ IJ q1) fun iv s2 ⟨y, L, IL, ry, a, b, kvs, k, v, ex, ey, e, hk, nk, dk, l, q2⟩ => ?_)
  subst ex ey
  obtain rfl : u = Value.ref a := rx
  obtain rfl : iv = Value.ref b := ry
  obtain ⟨_, _, xs, _, dd⟩ := dn_at IL e hk
  exact ⟨dd.typeIs, dn_getItem ha IL e hk nk dk l fun z s3 I3 rz => ⟨v, L, I3, rz, q2⟩⟩⟩
theorem pc_nin (ha : X.A.units + 9 < cLine) (pi : PE X i ty) (po : PE X o td) : PC X .In i o (tNIn X.prog X.w false ty td) := ⟨fun pins s σ H Q I q => by
  refine thn (pi.run pins s σ H _ I q) fun iv s1 ⟨y, J, IJ, ry, q1⟩ => thn (po.run pins s1 σ J _ IJ q1) fun u s2 ⟨x, L, IL, rx, a, b, kvs, k, ex, ey, e, hk, nk, dk, q2⟩ => ?_
  subst ex ey
  obtain rfl : u = Value.ref a := rx
  obtain rfl : iv = Value.ref b := ry
  exact dn_in ha IL e hk nk dk fun s3 I3 => ⟨.bl (valN kvs k).isSome, L, I3, rfl, by rw [Bool.false_xor] at q2; exact q2⟩⟩
theorem pc_nnotin (ha : X.A.units + 9 < cLine) (pi : PE X i ty) (po : PE X o td) : PC X .NotIn i o (tNIn X.prog X.w true ty td) := ⟨fun pins s σ H Q I q => by
  refine thn (pi.run pins s σ H _ I q) fun iv s1 ⟨y, J, IJ, ry, q1⟩ => thn (po.run pins s1 σ J _ IJ q1) fun u s2 ⟨x, L, IL, rx, a, b, kvs, k, ex, ey, e, hk, nk, dk, q2⟩ => ?_
  subst ex ey
  obtain rfl : u = Value.ref a := rx
  obtain rfl : iv = Value.ref b := ry
  exact dn_notIn ha IL e hk nk dk fun s3 I3 => ⟨.bl (!(valN kvs k).isSome), L, I3, rfl, by rw [Bool.true_xor] at q2; exact q2⟩⟩
theorem ps_nput (ha : X.A.units + 9 < cLine) (po : PE X o td) (pi : PE X i ty) (pv' : PE X value tv) (sw : swapsWith value (some (.Subscript o i pos')) pos.line X.env = pure false) : PS X (.Assign [.Subscript o i pos'] value pos) (sNPut X.prog X.w td ty tv) := ⟨fun pins s σ H D I q => by
  refine wpAny_Assign_Subscript (thn (pv'.run pins s σ H _ I q) fun r s1 ⟨v, J1, I1, rv, q1⟩ => thn (po.run pins s1 σ J1 _ I1 q1) fun u s2 ⟨x, J2, I2, rx, q2⟩ => thn (pi.run pins s2 σ J2 _ I2 q2) fun iv s3 ⟨y, J3, I3, ry, a, b, kvs, k, ex, ey, e, hk, nk, dk, l, hl, q3⟩ => ?_) sw
  subst ex ey
  obtain rfl : u = Value.ref a := rx
  obtain rfl : iv = Value.ref b := ry
  exact dn_setItem ha I3 e hk nk dk l hl rv fun s4 I4 => ⟨σ, _, I4, q3⟩⟩
theorem pe_nnew : PE X (.Dict [] [] pos) (tNNew X.prog X.w) := ⟨fun pins s σ H Q I q =>
  wpAny_Dict_empty ⟨.ref s.heap.objs.size, _, I.laid (a := s.heap.objs.size) (o := DN X.prog X.w s.heap.objs.size []) (t' := s.toks) (fun _ _ z => Heap.get?_push_of_some _ z) (Nat.le_refl _)
    (dn_ok ⟨Nat.zero_le _, beq_eq_false_iff_ne.mpr (Ne.symm (Nat.ne_of_lt I.big)), [], .nil, _, #[], 0, Heap.get?_push_size _ rfl, ⟨rfl, rfl, rfl⟩, rfl, rfl, List.nodup_nil⟩), rfl, q _ (I.hok.fresh (Nat.le_refl _))⟩⟩
end
section
variable {P : Program} {w : World} {σ : L2.St} {H : Hp} {Q : VK} {D : Ends} {td ty tv : TE} {a b : Addr} {kvs : NKvs} {k : NestedKey} {v : V} {n : Bool}
theorem q_tNGet (q : td σ H fun x J => ty σ J (nGetK P w Q x)) : tNGet P w td ty σ H Q := q
theorem q_nGetK (e : H a = some (DN P w a kvs)) (hk : NKeys H kvs) (nk : NV H k (.ref b)) (dk : k.depth ≤ 8) (l : valN kvs k = some v) (q : Q v H) : nGetK P w Q (.ref a) (.ref b) H := ⟨a, b, kvs, k, v, rfl, rfl, e, hk, nk, dk, l, q⟩
theorem q_tNIn (q : ty σ H fun y J => td σ J (nInK P w n Q y)) : tNIn P w n ty td σ H Q := q
theorem q_nInK (e : H a = some (DN P w a kvs)) (hk : NKeys H kvs) (nk : NV H k (.ref b)) (dk : k.depth ≤ 8) (q : Q (.bl (xor n (valN kvs k).isSome)) H) : nInK P w n Q (.ref b) (.ref a) H := ⟨a, b, kvs, k, rfl, rfl, e, hk, nk, dk, q⟩
theorem q_sNPut (q : tv σ H fun v H1 => td σ H1 fun x H2 => ty σ H2 (nPutK P w D σ v x)) : sNPut P w td ty tv D σ H := q
theorem q_nPutK (e : H a = some (DN P w a kvs)) (hk : NKeys H kvs) (nk : NV H k (.ref b)) (dk : k.depth ≤ 8) (l : valN kvs k = none) (hl : kvs.length < sizeLine) (q : D.nx σ (upd H a (DN P w a (kvs ++ [(k, b, v)])))) : nPutK P w D σ v (.ref a) (.ref b) H := ⟨a, b, kvs, k, rfl, rfl, e, hk, nk, dk, l, hl, q⟩
theorem q_tNNew (q : ∀ p, H p = none → Q (.ref p) (upd H p (DN P w p []))) : tNNew P w σ H Q := q
end
theorem pss_cls2 {X : Cx} {oe : Obj} {cls : Value} {d : Option Addr} {b : List Stmt} {C C2 : Addr} {t t2 : TS} (hz : Zc cls d oe) (h : Zc (.ref C) none oe → PSs X b t) (h2 : Zc (.ref C2) none oe → PSs X b t2) :
    PSs X b (fun D σ H => ((cls = .ref C ∧ d = none) ∧ t D σ H) ∨ ((cls = .ref C2 ∧ d = none) ∧ t2 D σ H)) := ⟨fun pins s σ H D I q => by
  rcases q with ⟨⟨e1, e2⟩, q⟩ | ⟨⟨e1, e2⟩, q⟩
  · rw [e1, e2] at hz; exact (h hz).run pins s σ H D I q
  · rw [e1, e2] at hz; exact (h2 hz).run pins s σ H D I q⟩
theorem passF {P : Program} {w : World} {X : Cx} : Passes (L2.CX P w) X E0 := fun _ _ _ _ _ _ _ h => by
  obtain ⟨_, _, _, _, _, _, _, _, _, _, _, _, h⟩ := h
  exact h.elim

/-! an attribute or an item changed by an operator; a list unpacked; the sum over a dict's keys -/
section
variable {K : PySem.W.Frag} {σ : L2.St} {H : Hp} {Q : VK} {D : Ends} {a C dx : Addr} {v : V} {i j : Int} {ta tv td ty : TE} {rd : V → V → Hp → VK → Prop} {f s : Str} {fs : List (Str × V)} {kvs : List (Key × V)}
def faug2 (rd : V → V → Hp → VK → Prop) (v : V) (f : Str) (a C : Addr) (D : Ends) (σ : L2.St) : VK := fun y H2 => rd v y H2 fun z H3 => ∃ dx' fs', H3 a = some (.ins C dx' fs') ∧ fs'.length < 1000 ∧ D.nx σ (upd H3 a (.ins C dx' (putF f z fs')))
def faugK (K : PySem.W.Frag) (tv : TE) (rd : V → V → Hp → VK → Prop) (f : Str) (D : Ends) (σ : L2.St) : VK := fun x H1 => ∃ a C dx fs v, x = .ref a ∧ H1 a = some (.ins C dx fs) ∧ Cls K C ∧ NoAttr K C f ∧ fs.lookup f = some v ∧ tv σ H1 (faug2 rd v f a C D σ)
theorem q_sFldAug (h : ta σ H (faugK K tv rd f D σ)) : sFldAug K ta tv rd f D σ H := h
theorem q_faugK (h : H a = some (.ins C dx fs)) (hc : Cls K C) (hn : NoAttr K C f) (hl : fs.lookup f = some v) (k : tv σ H (faug2 rd v f a C D σ)) : faugK K tv rd f D σ (.ref a) H := ⟨a, C, dx, fs, v, rfl, h, hc, hn, hl, k⟩
theorem q_faugA (h : H a = some (.ins C dx fs)) (hl : fs.length < 1000) (k : D.nx σ (upd H a (.ins C dx (putF f (.int (i + j)) fs)))) : faug2 rAdd (.int i) f a C D σ (.int j) H := ⟨i, j, rfl, rfl, dx, fs, h, hl, k⟩
theorem q_faugS (h : H a = some (.ins C dx fs)) (hl : fs.length < 1000) (k : D.nx σ (upd H a (.ins C dx (putF f (.int (i - j)) fs)))) : faug2 rSub (.int i) f a C D σ (.int j) H := ⟨i, j, rfl, rfl, dx, fs, h, hl, k⟩
def daug2 (rd : V → V → Hp → VK → Prop) (D : Ends) (σ : L2.St) (v : V) (a : Addr) (y : V) : VK := fun y2 H3 => rd v y2 H3 fun z H4 => ∃ H5, DPut H4 a y z H5 ∧ D.nx σ H5
def daugK (tv : TE) (rd : V → V → Hp → VK → Prop) (D : Ends) (σ : L2.St) (x : V) : VK := fun y H2 => ∃ a v, x = .ref a ∧ DGet H2 a y (some v) ∧ tv σ H2 (daug2 rd D σ v a y)
theorem q_sDAug (h : td σ H fun x H1 => ty σ H1 (daugK tv rd D σ x)) : sDAug td ty tv rd D σ H := h
theorem q_daugK (h : H a = some (.dK kvs)) (hv : valV kvs (.inr s) = some v) (k : tv σ H (daug2 rd D σ v a (.str s))) : daugK tv rd D σ (.ref a) (.str s) H := ⟨a, v, rfl, by rw [← hv]; exact DGet.k (k := Sum.inr s) h, k⟩
theorem q_daugS (h : H a = some (.dK kvs)) (hl : kvs.length < sizeLine) (k : D.nx σ (upd H a (.dK (putK kvs (.inr s) (.int (i - j)))))) : daug2 rSub D σ (.int i) a (.str s) (.int j) H := ⟨i, j, rfl, rfl, _, DPut.k (k := Sum.inr s) h hl, k⟩
theorem q_daugA (h : H a = some (.dK kvs)) (hl : kvs.length < sizeLine) (k : D.nx σ (upd H a (.dK (putK kvs (.inr s) (.int (i + j)))))) : daug2 rAdd D σ (.int i) a (.str s) (.int j) H := ⟨i, j, rfl, rfl, _, DPut.k (k := Sum.inr s) h hl, k⟩
end
def rMulStr01 : R2 := fun x y H Q => ∃ s, x = .str s ∧ ((y = .int 1 ∧ Q (.str s) H) ∨ (y = .int 0 ∧ Q (.str Str.empty) H))
theorem oq_mulStr01 {X : Cx} : OpR X (binaryOp .Mult) rMulStr01 := by
  intro pins s σ H x y v u Q I rx ry h
  obtain ⟨z, rfl, h⟩ := h
  obtain ⟨t, rfl⟩ := rx
  rcases h with ⟨rfl, q⟩ | ⟨rfl, q⟩
  · obtain ⟨t', rfl⟩ := ry
    refine PySem.P.mul_str (by decide) (fun _ h => by cases h) (fun _ h => by cases h) ?_
    rw [if_neg (show ¬ (1 : Int) < 1 by omega), if_pos (by rfl)]
    exact ⟨.str z, H, I, ⟨_, rfl⟩, q⟩
  · obtain ⟨t', rfl⟩ := ry
    exact PySem.P.mul_str_none (by decide) (by decide) ⟨.str Str.empty, H, I.tok _, ⟨_, rfl⟩, q⟩
theorem q_mul1 {H : Hp} {Q : VK} {s : Str} (k : Q (.str s) H) : rMulStr01 (.str s) (.int 1) H Q := ⟨s, rfl, .inl ⟨rfl, k⟩⟩
theorem q_mul0 {H : Hp} {Q : VK} {s : Str} (k : Q (.str Str.empty) H) : rMulStr01 (.str s) (.int 0) H Q := ⟨s, rfl, .inr ⟨rfl, k⟩⟩
theorem q_int1f {H : Hp} {Q : VK} (k : Q (.int 0) H) : rInt1 [.bl false] H Q := .inr ⟨false, rfl, k⟩
/-! a walk over a dict's own keys, reading it -/
theorem q_unl {K : PySem.W.Frag} {σ : L2.St} {H : Hp} {a : Addr} {xs : List V} {n : Nat} {tg : TGs} {R : L2.St → Hp → Prop} (h : SqL K H a xs) (hn : xs.length = n) (k : tg xs σ H R) : gUnl K n tg (.ref a) σ H R := ⟨a, xs, rfl, h, hn, k⟩
/-! while -/
section
variable {σ : L2.St} {H : Hp} {D : Ends} {c : TT} {tb : TS}
def whK (tb : TS) (D : Ends) (Pv : Nat → L2.St → Hp → Prop) (m : Nat) (σ : L2.St) : Bool → Hp → Prop := fun b H1 => if b = true then ∃ N : L2.St → Hp → Prop, (∀ σ' H', N σ' H' → ∃ m', m' < m ∧ Pv m' σ' H') ∧ tb { D with nx := N, ct := N, bk := D.nx } σ H1 else D.nx σ H1
theorem q_while (Pv : Nat → L2.St → Hp → Prop) {m0 : Nat} (h0 : Pv m0 σ H) (hs : ∀ m σ H, Pv m σ H → c σ H (whK tb D Pv m σ)) : tWhile c tb D σ H := ⟨Pv, ⟨m0, h0⟩, hs⟩
theorem q_whT {Pv : Nat → L2.St → Hp → Prop} {m : Nat} (h : tb { D with nx := fun σ' H' => ∃ m', m' < m ∧ Pv m' σ' H', ct := fun σ' H' => ∃ m', m' < m ∧ Pv m' σ' H', bk := D.nx } σ H) : whK tb D Pv m σ true H := iteT ⟨_, fun _ _ h => h, h⟩
theorem q_whF {Pv : Nat → L2.St → Hp → Prop} {m : Nat} (h : D.nx σ H) : whK tb D Pv m σ false H := iteF h
theorem q_wh2 {Pv : Nat → L2.St → Hp → Prop} {m : Nat} {b : Bool} (h : b = true → tb { D with nx := fun σ' H' => ∃ m', m' < m ∧ Pv m' σ' H', ct := fun σ' H' => ∃ m', m' < m ∧ Pv m' σ' H', bk := D.nx } σ H) (h2 : b = false → D.nx σ H) : whK tb D Pv m σ b H := by
  cases b with
  | true => exact q_whT (h rfl)
  | false => exact q_whF (h2 rfl)
end

local macro_rules | `(tactic| walk_at "my_rd") => `(tactic| (repeat first
  | with_reducible refine q_tCons ?_
  | ((with_reducible apply q_var); (focus (exact rfl)))
  | with_reducible refine q_c ?_
  | with_reducible refine q_nx ?_
  | with_reducible refine q_bK ?_
  | with_reducible refine q_call ?_
  | with_reducible refine q_callK ?_
  | with_reducible refine q_tNil ?_
  | with_reducible refine q_cb ?_
  | with_reducible refine q_seq ?_
  | with_reducible refine q_asg ?_
  | with_reducible refine q_gName ?_
  | with_reducible refine q_op ?_
  | with_reducible refine q_test ?_
  | with_reducible refine q_tB ?_
  | with_reducible refine q_ifS ?_
  | with_reducible refine q_ret ?_
  | with_reducible refine q_rt ?_
  | with_reducible refine q_next ?_
  | with_reducible refine q_ifF ?_
  | with_reducible refine q_ifT ?_
  | with_reducible refine q_drop ?_
  | with_reducible refine q_and ?_
  | with_reducible refine q_or ?_
  | with_reducible refine q_andT ?_
  | with_reducible refine q_andF ?_
  | with_reducible refine q_orF ?_
  | with_reducible refine q_orT ?_
  | with_reducible refine q_andV ?_
  | with_reducible refine q_andVT ?_
  | with_reducible refine q_andVF ?_
  | with_reducible refine q_orV ?_
  | with_reducible refine q_gCons ?_
  | with_reducible refine q_gNil ?_
  | with_reducible refine q_tup ?_
  | with_reducible refine q_lst ?_
  | with_reducible refine q_not ?_
  | with_reducible refine q_notKT ?_
  | with_reducible refine q_notKF ?_
  | with_reducible refine q_I0 ?_
  | with_reducible refine q_eqI ?_
  | with_reducible refine q_neI ?_
  | ((with_reducible refine q_I ?_ ?_); first | decide | omega | exact ⟨by omega, by omega⟩ | exact ⟨by decide, by decide⟩ | exact .inl ⟨by omega, by omega⟩ | exact .inr ⟨by omega, by omega⟩ | exact .inr ⟨by decide, by decide⟩)
  | with_reducible refine q_eqS ?_
  | with_reducible refine q_neS ?_
  | with_reducible refine q_brk ?_
  | with_reducible refine q_ct ?_
  | with_reducible refine q_bk ?_
  | with_reducible refine q_cn ?_
  | with_reducible refine q_retN ?_
  | with_reducible refine q_gSub ?_
  | with_reducible refine q_for ?_
  | with_reducible refine q_iList ?_
  | with_reducible refine q_iTup ?_
  | with_reducible refine q_iRng1 ?_
  | with_reducible refine q_notK ?_
  | with_reducible refine q_orVT ?_
  | with_reducible refine q_orVF ?_
  | with_reducible refine q_notV ?_
  | with_reducible refine q_notVK ?_
  | with_reducible refine q_ifE ?_
  | with_reducible refine q_ifET ?_
  | with_reducible refine q_ifEF ?_
  | with_reducible refine q_yes ?_
  | with_reducible refine q_un ?_
  | with_reducible refine q_rU ?_
  | with_reducible refine q_abs ?_
  | with_reducible refine q_int1 ?_
  | with_reducible refine q_bm ?_
  | with_reducible refine q_bm0 ?_
  | with_reducible refine q_lc ?_
  | with_reducible refine q_keepT ?_
  | with_reducible refine q_keepF ?_
  | ((with_reducible apply q_aug); (focus (exact rfl)))
  | with_reducible refine q_ipI ?_
  | with_reducible refine q_chain ?_
  | with_reducible refine q_pairC ?_
  | with_reducible refine q_pairsK ?_
  | with_reducible refine q_pairN ?_
  | with_reducible refine q_fld ?_
  | with_reducible refine q_sFld ?_
  | with_reducible refine q_meth ?_
  | with_reducible refine q_makeK ?_
  | with_reducible refine q_isBl ?_
  | with_reducible refine q_notBl ?_
  | with_reducible refine q_sl ?_
  | with_reducible refine q_noPart ?_
  | with_reducible refine q_part ?_
  | with_reducible refine q_partK ?_
  | ((with_reducible apply q_mulStr); (focus (decide +kernel)))
  | with_reducible refine q_chT ?_
  | with_reducible refine q_chF ?_
  | with_reducible refine q_ord ?_
  | with_reducible refine q_iStr0 ?_
  | with_reducible refine q_iStr ?_
  | with_reducible refine q_tDIn ?_
  | with_reducible refine q_tDNotIn ?_
  | with_reducible refine q_tDGet ?_
  | with_reducible refine q_tDGet2 ?_
  | with_reducible refine q_tDGet1 ?_
  | with_reducible refine q_tDSetd ?_
  | ((with_reducible apply q_dG2a); (focus ((repeat first | (with_reducible exact upd_same) | (with_reducible assumption) | (with_reducible apply upd_new (by assumption)) | (with_reducible apply upd_other (by first | assumption | exact Ne.symm (by assumption))) | (with_reducible refine' Kp.get (by assumption) ?_ (by first | assumption | exact Ne.symm (by assumption))) | (with_reducible apply Same.get (by assumption))); done)))
  | ((with_reducible apply q_dSda); (focus ((repeat first | (with_reducible exact upd_same) | (with_reducible assumption) | (with_reducible apply upd_new (by assumption)) | (with_reducible apply upd_other (by first | assumption | exact Ne.symm (by assumption))) | (with_reducible refine' Kp.get (by assumption) ?_ (by first | assumption | exact Ne.symm (by assumption))) | (with_reducible apply Same.get (by assumption))); done)))
  | with_reducible refine q_sDPut ?_
  | ((with_reducible apply q_dInS); (focus ((repeat first | (with_reducible exact upd_same) | (with_reducible assumption) | (with_reducible apply upd_new (by assumption)) | (with_reducible apply upd_other (by first | assumption | exact Ne.symm (by assumption))) | (with_reducible refine' Kp.get (by assumption) ?_ (by first | assumption | exact Ne.symm (by assumption))) | (with_reducible apply Same.get (by assumption))); done)))
  | ((with_reducible apply q_dNInS); (focus ((repeat first | (with_reducible exact upd_same) | (with_reducible assumption) | (with_reducible apply upd_new (by assumption)) | (with_reducible apply upd_other (by first | assumption | exact Ne.symm (by assumption))) | (with_reducible refine' Kp.get (by assumption) ?_ (by first | assumption | exact Ne.symm (by assumption))) | (with_reducible apply Same.get (by assumption))); done)))
  | ((with_reducible apply q_dInI); (focus ((repeat first | (with_reducible exact upd_same) | (with_reducible assumption) | (with_reducible apply upd_new (by assumption)) | (with_reducible apply upd_other (by first | assumption | exact Ne.symm (by assumption))) | (with_reducible refine' Kp.get (by assumption) ?_ (by first | assumption | exact Ne.symm (by assumption))) | (with_reducible apply Same.get (by assumption))); done)))
  | ((with_reducible apply q_dNInI); (focus ((repeat first | (with_reducible exact upd_same) | (with_reducible assumption) | (with_reducible apply upd_new (by assumption)) | (with_reducible apply upd_other (by first | assumption | exact Ne.symm (by assumption))) | (with_reducible refine' Kp.get (by assumption) ?_ (by first | assumption | exact Ne.symm (by assumption))) | (with_reducible apply Same.get (by assumption))); done)))
  | ((with_reducible apply q_bmL); (focus ((repeat first | (with_reducible exact upd_same) | (with_reducible assumption) | (with_reducible apply upd_new (by assumption)) | (with_reducible apply upd_other (by first | assumption | exact Ne.symm (by assumption))) | (with_reducible refine' Kp.get (by assumption) ?_ (by first | assumption | exact Ne.symm (by assumption))) | (with_reducible apply Same.get (by assumption))); done)))
  | ((with_reducible apply q_bmL0); (focus ((repeat first | (with_reducible exact upd_same) | (with_reducible assumption) | (with_reducible apply upd_new (by assumption)) | (with_reducible apply upd_other (by first | assumption | exact Ne.symm (by assumption))) | (with_reducible refine' Kp.get (by assumption) ?_ (by first | assumption | exact Ne.symm (by assumption))) | (with_reducible apply Same.get (by assumption))); done)))
  | ((with_reducible apply q_ixLt); (focus ((repeat first | (with_reducible exact upd_same) | (with_reducible assumption) | (with_reducible apply upd_new (by assumption)) | (with_reducible apply upd_other (by first | assumption | exact Ne.symm (by assumption))) | (with_reducible refine' Kp.get (by assumption) ?_ (by first | assumption | exact Ne.symm (by assumption))) | (with_reducible apply Same.get (by assumption))); done)); (focus (exact rfl)))
  | ((with_reducible apply q_ixTt); (focus ((repeat first | (with_reducible exact upd_same) | (with_reducible assumption) | (with_reducible apply upd_new (by assumption)) | (with_reducible apply upd_other (by first | assumption | exact Ne.symm (by assumption))) | (with_reducible refine' Kp.get (by assumption) ?_ (by first | assumption | exact Ne.symm (by assumption))) | (with_reducible apply Same.get (by assumption))); done)); (focus (exact rfl)))
  | ((with_reducible apply q_lenLt); (focus ((repeat first | (with_reducible exact upd_same) | (with_reducible assumption) | (with_reducible apply upd_new (by assumption)) | (with_reducible apply upd_other (by first | assumption | exact Ne.symm (by assumption))) | (with_reducible refine' Kp.get (by assumption) ?_ (by first | assumption | exact Ne.symm (by assumption))) | (with_reducible apply Same.get (by assumption))); done)))
  | ((with_reducible apply q_lenTt); (focus ((repeat first | (with_reducible exact upd_same) | (with_reducible assumption) | (with_reducible apply upd_new (by assumption)) | (with_reducible apply upd_other (by first | assumption | exact Ne.symm (by assumption))) | (with_reducible refine' Kp.get (by assumption) ?_ (by first | assumption | exact Ne.symm (by assumption))) | (with_reducible apply Same.get (by assumption))); done)))
  | ((with_reducible apply q_append); (focus ((repeat first | (with_reducible exact upd_same) | (with_reducible assumption) | (with_reducible apply upd_new (by assumption)) | (with_reducible apply upd_other (by first | assumption | exact Ne.symm (by assumption))) | (with_reducible refine' Kp.get (by assumption) ?_ (by first | assumption | exact Ne.symm (by assumption))) | (with_reducible apply Same.get (by assumption))); done)); (focus ((first | (exact Nat.lt_of_ble_eq_true rfl) | (simp only [List.length_append, List.length_cons, List.length_nil, List.length_map]; exact small1000 (by omega))))))
  | ((with_reducible apply q_setL); (focus ((repeat first | (with_reducible exact upd_same) | (with_reducible assumption) | (with_reducible apply upd_new (by assumption)) | (with_reducible apply upd_other (by first | assumption | exact Ne.symm (by assumption))) | (with_reducible refine' Kp.get (by assumption) ?_ (by first | assumption | exact Ne.symm (by assumption))) | (with_reducible apply Same.get (by assumption))); done)); (focus (exact rfl)))
  | with_reducible refine q_ifNT ?_
  | with_reducible refine q_ifNF ?_
  | with_reducible refine q_andNT ?_
  | with_reducible refine q_andNF ?_
  | with_reducible refine q_orNT ?_
  | with_reducible refine q_orNF ?_
  | with_reducible refine q_bKNT ?_
  | with_reducible refine q_bKNF ?_
  | with_reducible refine q_tNGet ?_
  | with_reducible refine q_tNIn ?_
  | with_reducible refine q_sNPut ?_
  | with_reducible refine q_sFldAug ?_
  | with_reducible refine q_sDAug ?_))
def top (i : Nat) : Stmt := PySem.Challenge.pw_vaultbridge_k42_pools_are_fair.main.body.getD i (.Pass ⟨0, 0, 0, 0⟩)
abbrev s__wall : Stmt := top 0
theorem sc__wall : FnScope ["k"] ["k"] (defScope s__wall) := ⟨rfl, rfl, rfl, by decide +kernel, rfl, by decide +kernel, by decide +kernel⟩
abbrev s_Pool_init : Stmt := inClass (top 6) 0
theorem sc_Pool_init : FnScope ["self"] ["self"] (defScope s_Pool_init) := ⟨rfl, rfl, rfl, by decide +kernel, rfl, by decide +kernel, by decide +kernel⟩
abbrev s_Pool_assets : Stmt := inClass (top 6) 1
theorem sc_Pool_assets : FnScope ["self"] ["self"] (defScope s_Pool_assets) := ⟨rfl, rfl, rfl, by decide +kernel, rfl, by decide +kernel, by decide +kernel⟩
abbrev s_Pool_shares : Stmt := inClass (top 6) 2
theorem sc_Pool_shares : FnScope ["self"] ["self"] (defScope s_Pool_shares) := ⟨rfl, rfl, rfl, by decide +kernel, rfl, by decide +kernel, by decide +kernel⟩
abbrev s_Pool_shares_of : Stmt := inClass (top 6) 3
theorem sc_Pool_shares_of : FnScope ["self", "account"] ["self", "account"] (defScope s_Pool_shares_of) := ⟨rfl, rfl, rfl, by decide +kernel, rfl, by decide +kernel, by decide +kernel⟩
abbrev s_Pool_deposit : Stmt := inClass (top 6) 4
theorem sc_Pool_deposit : FnScope ["self", "account", "amount", "shares", "count"] ["self", "account", "amount"] (defScope s_Pool_deposit) := ⟨rfl, rfl, rfl, by decide +kernel, rfl, by decide +kernel, by decide +kernel⟩
abbrev s_Pool_redeem : Stmt := inClass (top 6) 5
theorem sc_Pool_redeem : FnScope ["self", "account", "count", "amount"] ["self", "account", "count"] (defScope s_Pool_redeem) := ⟨rfl, rfl, rfl, by decide +kernel, rfl, by decide +kernel, by decide +kernel⟩
abbrev s_Pool_earn : Stmt := inClass (top 6) 6
theorem sc_Pool_earn : FnScope ["self", "amount"] ["self", "amount"] (defScope s_Pool_earn) := ⟨rfl, rfl, rfl, by decide +kernel, rfl, by decide +kernel, by decide +kernel⟩
abbrev s_L_pot : Stmt := top 8
theorem sc_L_pot : FnScope ["script", "seed", "cell"] ["script"] (defScope s_L_pot) := ⟨rfl, rfl, rfl, by decide +kernel, rfl, by decide +kernel, by decide +kernel⟩
abbrev s_L_next : Stmt := top 9
theorem sc_L_next : FnScope ["pot", "limit", "mixed", "cell", "found"] ["pot", "limit"] (defScope s_L_next) := ⟨rfl, rfl, rfl, by decide +kernel, rfl, by decide +kernel, by decide +kernel⟩
abbrev s_L_is_int : Stmt := top 10
theorem sc_L_is_int : FnScope ["value"] ["value"] (defScope s_L_is_int) := ⟨rfl, rfl, rfl, by decide +kernel, rfl, by decide +kernel, by decide +kernel⟩
abbrev s_L_do : Stmt := top 11
theorem sc_L_do : FnScope ["pool", "kind", "account", "amount", "e"] ["pool", "kind", "account", "amount"] (defScope s_L_do) := ⟨rfl, rfl, rfl, by decide +kernel, rfl, by decide +kernel, by decide +kernel⟩
abbrev s_L_due : Stmt := top 12
theorem sc_L_due : FnScope ["book", "kind", "account", "amount", "whole", "assets", "held", "count", "paid", "name"] ["book", "kind", "account", "amount"] (defScope s_L_due) := ⟨rfl, rfl, rfl, by decide +kernel, rfl, by decide +kernel, by decide +kernel⟩
abbrev s_law : Stmt := top 13
theorem sc_law : FnScope ["script", "pot", "pool", "book", "k", "name", "kind", "account", "held", "amount", "before", "found", "due", "whole", "back"] ["script"] (defScope s_law) := ⟨rfl, rfl, rfl, by decide +kernel, rfl, by decide +kernel, by decide +kernel⟩
structure Txt (K : PySem.W.Frag) (mg : Str → Option Value) where
  f__wall : Addr
  d__wall : FuncData
  F__wall : Fun K "_wall" "_wall" s__wall f__wall d__wall
  b__wall : Binds K d__wall ["k"] []
  g__wall : mg "_wall" = some (.ref f__wall)
  f_Pool_init : Addr
  d_Pool_init : FuncData
  F_Pool_init : Fun K "__init__" "Pool.__init__" s_Pool_init f_Pool_init d_Pool_init
  b_Pool_init : Binds K d_Pool_init ["self"] []
  f_Pool_assets : Addr
  d_Pool_assets : FuncData
  F_Pool_assets : Fun K "assets" "Pool.assets" s_Pool_assets f_Pool_assets d_Pool_assets
  b_Pool_assets : Binds K d_Pool_assets ["self"] []
  f_Pool_shares : Addr
  d_Pool_shares : FuncData
  F_Pool_shares : Fun K "shares" "Pool.shares" s_Pool_shares f_Pool_shares d_Pool_shares
  b_Pool_shares : Binds K d_Pool_shares ["self"] []
  f_Pool_shares_of : Addr
  d_Pool_shares_of : FuncData
  F_Pool_shares_of : Fun K "shares_of" "Pool.shares_of" s_Pool_shares_of f_Pool_shares_of d_Pool_shares_of
  b_Pool_shares_of : Binds K d_Pool_shares_of ["self", "account"] []
  f_Pool_deposit : Addr
  d_Pool_deposit : FuncData
  F_Pool_deposit : Fun K "deposit" "Pool.deposit" s_Pool_deposit f_Pool_deposit d_Pool_deposit
  b_Pool_deposit : Binds K d_Pool_deposit ["self", "account", "amount"] []
  f_Pool_redeem : Addr
  d_Pool_redeem : FuncData
  F_Pool_redeem : Fun K "redeem" "Pool.redeem" s_Pool_redeem f_Pool_redeem d_Pool_redeem
  b_Pool_redeem : Binds K d_Pool_redeem ["self", "account", "count"] []
  f_Pool_earn : Addr
  d_Pool_earn : FuncData
  F_Pool_earn : Fun K "earn" "Pool.earn" s_Pool_earn f_Pool_earn d_Pool_earn
  b_Pool_earn : Binds K d_Pool_earn ["self", "amount"] []
  f_L_pot : Addr
  d_L_pot : FuncData
  F_L_pot : Fun K "_law_pot" "_law_pot" s_L_pot f_L_pot d_L_pot
  b_L_pot : Binds K d_L_pot ["script"] []
  g_L_pot : mg "_law_pot" = some (.ref f_L_pot)
  f_L_next : Addr
  d_L_next : FuncData
  F_L_next : Fun K "_law_next" "_law_next" s_L_next f_L_next d_L_next
  b_L_next : Binds K d_L_next ["pot", "limit"] []
  g_L_next : mg "_law_next" = some (.ref f_L_next)
  f_L_is_int : Addr
  d_L_is_int : FuncData
  F_L_is_int : Fun K "_law_is_int" "_law_is_int" s_L_is_int f_L_is_int d_L_is_int
  b_L_is_int : Binds K d_L_is_int ["value"] []
  g_L_is_int : mg "_law_is_int" = some (.ref f_L_is_int)
  f_L_do : Addr
  d_L_do : FuncData
  F_L_do : Fun K "_law_do" "_law_do" s_L_do f_L_do d_L_do
  b_L_do : Binds K d_L_do ["pool", "kind", "account", "amount"] []
  g_L_do : mg "_law_do" = some (.ref f_L_do)
  f_L_due : Addr
  d_L_due : FuncData
  F_L_due : Fun K "_law_due" "_law_due" s_L_due f_L_due d_L_due
  b_L_due : Binds K d_L_due ["book", "kind", "account", "amount"] []
  g_L_due : mg "_law_due" = some (.ref f_L_due)
  f_law : Addr
  d_law : FuncData
  F_law : Fun K "law" "law" s_law f_law d_law
  b_law : Binds K d_law ["script"] []
  g_law : mg "law" = some (.ref f_law)
  C_BridgeError : Addr
  g_BridgeError : mg "BridgeError" = some (.ref C_BridgeError)
  xe_BridgeError : PySem.W.excIn K C_BridgeError [.type "ValueError", .type "Exception", .type "BaseException", .type "object"] "ValueError.__new__" = true
  ke_BridgeError : PySem.W.keepIn K (.ref C_BridgeError) = true
  be_BridgeError : PySem.W.subIn K (.ref C_BridgeError) (.type "BaseException") = some true
  te_BridgeError : PySem.W.typeIn K (.ref C_BridgeError) = some (.type "type")
  ie_BridgeError : PySem.W.isClsIn K C_BridgeError = true
  se_BridgeError : PySem.W.subIn K (.ref C_BridgeError) (.ref C_BridgeError) = some true
  hd_BridgeError : PySem.W.hasDictIn K C_BridgeError = true
  C_InvalidArgument : Addr
  g_InvalidArgument : mg "InvalidArgument" = some (.ref C_InvalidArgument)
  xe_InvalidArgument : PySem.W.excIn K C_InvalidArgument [.type "ValueError", .type "Exception", .type "BaseException", .type "object"] "ValueError.__new__" = true
  ke_InvalidArgument : PySem.W.keepIn K (.ref C_InvalidArgument) = true
  be_InvalidArgument : PySem.W.subIn K (.ref C_InvalidArgument) (.type "BaseException") = some true
  te_InvalidArgument : PySem.W.typeIn K (.ref C_InvalidArgument) = some (.type "type")
  ie_InvalidArgument : PySem.W.isClsIn K C_InvalidArgument = true
  se_InvalidArgument : PySem.W.subIn K (.ref C_InvalidArgument) (.ref C_InvalidArgument) = some true
  hg_InvalidArgument : PySem.W.findIn K (.ref C_InvalidArgument) "__getattribute__" = some (some (.builtin "BaseException.__getattribute__"))
  hk_InvalidArgument : PySem.W.findIn K (.ref C_InvalidArgument) "__getattr__" = some none
  hd_InvalidArgument : PySem.W.hasDictIn K C_InvalidArgument = true
  ha_InvalidArgument : PySem.W.findIn K (.ref C_InvalidArgument) "__class__" = some (some (.builtin "object.__class__"))
  hm_InvalidArgument : PySem.W.mroIn K C_InvalidArgument (.type "object") = some true
  hn_InvalidArgument : PySem.W.specialIn K (.builtin "object.__class__") "__get__" = some (some (.builtin "getset_descriptor.__get__"))
  ht_InvalidArgument : PySem.W.takesIn K (.builtin "object.__class__") = some true
  ue_InvalidArgument : PySem.W.subIn K (.ref C_InvalidArgument) (.ref C_BridgeError) = some true
  C_NotEnoughBalance : Addr
  g_NotEnoughBalance : mg "NotEnoughBalance" = some (.ref C_NotEnoughBalance)
  xe_NotEnoughBalance : PySem.W.excIn K C_NotEnoughBalance [.type "ValueError", .type "Exception", .type "BaseException", .type "object"] "ValueError.__new__" = true
  ke_NotEnoughBalance : PySem.W.keepIn K (.ref C_NotEnoughBalance) = true
  be_NotEnoughBalance : PySem.W.subIn K (.ref C_NotEnoughBalance) (.type "BaseException") = some true
  te_NotEnoughBalance : PySem.W.typeIn K (.ref C_NotEnoughBalance) = some (.type "type")
  ie_NotEnoughBalance : PySem.W.isClsIn K C_NotEnoughBalance = true
  se_NotEnoughBalance : PySem.W.subIn K (.ref C_NotEnoughBalance) (.ref C_NotEnoughBalance) = some true
  hg_NotEnoughBalance : PySem.W.findIn K (.ref C_NotEnoughBalance) "__getattribute__" = some (some (.builtin "BaseException.__getattribute__"))
  hk_NotEnoughBalance : PySem.W.findIn K (.ref C_NotEnoughBalance) "__getattr__" = some none
  hd_NotEnoughBalance : PySem.W.hasDictIn K C_NotEnoughBalance = true
  ha_NotEnoughBalance : PySem.W.findIn K (.ref C_NotEnoughBalance) "__class__" = some (some (.builtin "object.__class__"))
  hm_NotEnoughBalance : PySem.W.mroIn K C_NotEnoughBalance (.type "object") = some true
  hn_NotEnoughBalance : PySem.W.specialIn K (.builtin "object.__class__") "__get__" = some (some (.builtin "getset_descriptor.__get__"))
  ht_NotEnoughBalance : PySem.W.takesIn K (.builtin "object.__class__") = some true
  ue_NotEnoughBalance : PySem.W.subIn K (.ref C_NotEnoughBalance) (.ref C_BridgeError) = some true
  C_Pool : Addr
  cl_Pool : Cls K C_Pool
  g_Pool : mg "Pool" = some (.ref C_Pool)
  mk_Pool : Mk K C_Pool f_Pool_init
  m_Pool_assets : Meth K C_Pool "assets" f_Pool_assets
  m_Pool_shares : Meth K C_Pool "shares" f_Pool_shares
  m_Pool_shares_of : Meth K C_Pool "shares_of" f_Pool_shares_of
  m_Pool_deposit : Meth K C_Pool "deposit" f_Pool_deposit
  m_Pool_redeem : Meth K C_Pool "redeem" f_Pool_redeem
  m_Pool_earn : Meth K C_Pool "earn" f_Pool_earn
  n_Pool_assets : NoAttr K C_Pool "_assets"
  n_Pool_held : NoAttr K C_Pool "_held"
  z_abs : mg "abs" = none
  z_any : mg "any" = none
  z_bool : mg "bool" = none
  z_int : mg "int" = none
  z_isinstance : mg "isinstance" = none
  z_len : mg "len" = none
  z_list : mg "list" = none
  z_min : mg "min" = none
  z_range : mg "range" = none
  z_sum : mg "sum" = none
  hq_InvalidArgument_NotEnoughBalance : PySem.W.kitOne K (.ref C_InvalidArgument) (.ref C_NotEnoughBalance) = some false
  hq_NotEnoughBalance_InvalidArgument : PySem.W.kitOne K (.ref C_NotEnoughBalance) (.ref C_InvalidArgument) = some false
theorem Txt.ec_InvalidArgument {K : PySem.W.Frag} {mg : Str → Option Value} (T : Txt K mg) : ExcC K T.C_InvalidArgument := ⟨T.hg_InvalidArgument, T.hk_InvalidArgument, T.be_InvalidArgument, T.hd_InvalidArgument, T.ha_InvalidArgument, T.hn_InvalidArgument, T.ht_InvalidArgument, T.hm_InvalidArgument⟩
theorem Txt.hi_InvalidArgument {K : PySem.W.Frag} {mg : Str → Option Value} (T : Txt K mg) : PySem.W.kitOne K (.ref T.C_InvalidArgument) (.ref T.C_InvalidArgument) = some true := by
  unfold PySem.W.kitOne
  rw [if_pos (beq_self_eq_true _)]
theorem Txt.ex_InvalidArgument {K : PySem.W.Frag} {mg : Str → Option Value} (T : Txt K mg) : PySem.W.exmOne K (.ref T.C_InvalidArgument) (.ref T.C_BridgeError) = some true := PySem.W.exm_ref T.be_BridgeError T.hd_BridgeError T.te_BridgeError T.ue_InvalidArgument
theorem Txt.ec_NotEnoughBalance {K : PySem.W.Frag} {mg : Str → Option Value} (T : Txt K mg) : ExcC K T.C_NotEnoughBalance := ⟨T.hg_NotEnoughBalance, T.hk_NotEnoughBalance, T.be_NotEnoughBalance, T.hd_NotEnoughBalance, T.ha_NotEnoughBalance, T.hn_NotEnoughBalance, T.ht_NotEnoughBalance, T.hm_NotEnoughBalance⟩
theorem Txt.hi_NotEnoughBalance {K : PySem.W.Frag} {mg : Str → Option Value} (T : Txt K mg) : PySem.W.kitOne K (.ref T.C_NotEnoughBalance) (.ref T.C_NotEnoughBalance) = some true := by
  unfold PySem.W.kitOne
  rw [if_pos (beq_self_eq_true _)]
theorem Txt.ex_NotEnoughBalance {K : PySem.W.Frag} {mg : Str → Option Value} (T : Txt K mg) : PySem.W.exmOne K (.ref T.C_NotEnoughBalance) (.ref T.C_BridgeError) = some true := PySem.W.exm_ref T.be_BridgeError T.hd_BridgeError T.te_BridgeError T.ue_NotEnoughBalance
/-! the law's own numbers -/
def PotAt (H : Hp) (p l : Addr) : Prop := ∃ (ns : List Int) (i c s : Int), H p = some (.lst [.ref l, .int i, .int c, .int s]) ∧ H l = some (.lst (ns.map V.int)) ∧ 0 ≤ i ∧ 0 ≤ c ∧ 0 ≤ s ∧ s < 2147483647 ∧ ns.length ≤ 1000 ∧ p ≠ l
theorem PotAt.at {H : Hp} {p l : Addr} (h : PotAt H p l) : ∃ o, H p = some o := by
  obtain ⟨ns, i, c, s, h1, _⟩ := h; exact ⟨_, h1⟩
theorem PotAt.atl {H : Hp} {p l : Addr} (h : PotAt H p l) : ∃ o, H l = some o := by
  obtain ⟨ns, i, c, s, _, h1, _⟩ := h; exact ⟨_, h1⟩
theorem PotAt.same {H H' : Hp} {p l : Addr} (h : PotAt H p l) (e : Same H H') : PotAt H' p l := by
  obtain ⟨ns, i, c, s, h1, h2, r⟩ := h; exact ⟨ns, i, c, s, e _ _ h1, e _ _ h2, r⟩
theorem PotAt.upd {H : Hp} {p l a : Addr} {o : HO} (h : PotAt H p l) (n1 : a ≠ p) (n2 : a ≠ l) : PotAt (L2.upd H a o) p l := by
  obtain ⟨ns, i, c, s, h1, h2, r⟩ := h; exact ⟨ns, i, c, s, upd_other n1.symm h1, upd_other n2.symm h2, r⟩
theorem PotAt.new {H : Hp} {p l a : Addr} {o : HO} (h : PotAt H p l) (n : H a = none) : PotAt (L2.upd H a o) p l := by
  obtain ⟨ns, i, c, s, h1, h2, r⟩ := h; exact ⟨ns, i, c, s, upd_new n h1, upd_new n h2, r⟩
theorem PotAt.nep {H : Hp} {p l a : Addr} (h : PotAt H p l) (n : H a = none) : a ≠ p := by
  obtain ⟨o, h1⟩ := h.at; exact (ne_of_none h1 n).symm
theorem PotAt.nel {H : Hp} {p l a : Addr} (h : PotAt H p l) (n : H a = none) : a ≠ l := by
  obtain ⟨o, h1⟩ := h.atl; exact (ne_of_none h1 n).symm
def sp_pot (K : PySem.W.Frag) : Sp := fun vs H Q _ => ∃ (a : Addr) (ns : List Int), vs = [.ref a] ∧ SqL K H a (ns.map V.int) ∧ ns.length ≤ 63 ∧ ∀ (p l : Addr) (H' : Hp), H p = none → H l = none → PotAt H' p l → Same H H' → Q (.ref p) H'
def sp_next : Sp := fun vs H Q _ => ∃ (p l : Addr) (n : Int), vs = [.ref p, .int n] ∧ PotAt H p l ∧ 0 < n ∧ n < 1000000000 ∧ ∀ (r : Int) (H' : Hp), 0 ≤ r → r < n → PotAt H' p l → Kp p H H' → Q (.int r) H'
section
variable {P : Program} {w : World} {K : PySem.W.Frag} {mg : Str → Option Value} {base : Heap}
theorem map_at {ns : List Int} {i : Nat} {x : V} (h : (ns.map V.int)[i]? = some x) : ∃ z, x = .int z := by
  rw [List.getElem?_map] at h
  cases e : ns[i]? with
  | none => rw [e] at h; cases h
  | some z => rw [e] at h; exact ⟨z, (Option.some.inj h).symm⟩
theorem ok_L_pot (T : Txt K mg) : FnOk P w K mg base CX0 1 T.f_L_pot T.d_L_pot ["script"] (sp_pot K) := by
  refine T.F_L_pot.ok sc_L_pot (fun vs H Q E h => ?_) (fun cdv A outer s H vs Q E hr h => ?_)
  · obtain ⟨a, ns, rfl, _⟩ := h; rfl
  · obtain ⟨a, ns, rfl, hS, hlen, k⟩ := h
    refine ⟨_, (pss_cons (ps_set (i := 1) sc_L_pot.nd rfl (Or.inl rfl) pe_int)
      (pss_cons (ps_for PassesOwn.never rfl (pi_list (pv 0)) (pg_name (i := 2) sc_L_pot.nd rfl (Or.inl rfl))
        (pss_one (ps_set (i := 1) sc_L_pot.nd rfl (Or.inl rfl) (pe_op op_mod (pe_callTy cq_int1 (by rfl) T.z_int boot_int (pa_cons (pe_op op_add (pe_op op_mul (pv 1) pe_int) (pv 2)) pa_nil)) pe_int))))
      (pss_one (ps_ret (pe_lst (pa_cons (pe_callTy cq_listOf (by rfl) T.z_list boot_list (pa_cons (pv 0) pa_nil)) (pa_cons pe_int (pa_cons pe_int (pa_cons (pv 1) pa_nil))))))))), ?_⟩
    (dsimp only [cxOf, Cx.nox, Cx.wish, L2.start, List.map, List.length, List.replicate, List.cons_append, List.nil_append, List.append_eq, Nat.reduceSub, Nat.reduceAdd])
    walk_at "my_rd"
    refine q_forL hS (fun i σ H2 => ∃ (z : Int) (v : Option V), σ = [some (.ref a), some (.int z), v] ∧ H2 = H ∧ 0 ≤ z ∧ z < 2147483647) ⟨1, none, rfl, rfl, by omega, by omega⟩ (fun i σ H2 _ ⟨_, _, _, e, _⟩ => e ▸ hS) ?_ ?_
    · rintro i x σ H2 hx ⟨z, v, rfl, rfl, h0, h1⟩
      obtain ⟨y, rfl⟩ := map_at hx
      walk_at "my_rd"
      exact ⟨_, _, rfl, rfl, Int.emod_nonneg _ (by decide), Int.emod_lt_of_pos _ (by decide)⟩
    · rintro σ H2 ⟨z, v, rfl, rfl, h0, h1⟩
      walk_at "my_rd"
      refine q_listL hS fun l nl => ?_
      walk_at "my_rd"
      refine q_lstK (Nat.le_of_ble_eq_true rfl) fun p np => ?_
      walk_at "my_rd"
      refine k p l _ (upd_none_back np) nl ⟨ns, 0, 0, z, upd_same, upd_new np upd_same, by omega, by omega, h0, h1, by omega, ?_⟩ (Same.new (Same.new (Same.refl _) nl) (upd_none_back np))
      exact upd_none_ne np
theorem ok_L_next (T : Txt K mg) : FnOk P w K mg base CX0 1 T.f_L_next T.d_L_next ["pot", "limit"] sp_next := by
  refine T.F_L_next.ok sc_L_next (fun vs H Q E h => ?_) (fun cdv A outer s H vs Q E hr h => ?_)
  · obtain ⟨p, l, n, rfl, _⟩ := h; rfl
  · obtain ⟨p, l, n, rfl, ⟨ns, i, c, z, hp, hl, hi, hc, hz0, hz1, hns, hpl⟩, hn, hn2, k⟩ := h
    refine ⟨_, (Evl.pss_cut (ps_if (PW.pt (pw_and (pt_cmpR op_eq (pe_ix ix_list (pv 0) pe_int (fun _ _ => rfl)) pe_int (nomark _)) (pw_and1 (pt_cmpR op_lt (pe_ix ix_list (pv 0) pe_int (fun _ _ => rfl)) (pe_callB cq_len (by rfl) T.z_len boot_len (pa_cons (pe_ix ix_list (pv 0) pe_int (fun _ _ => rfl)) pa_nil)) (nomark _))))) (pss_cons (ps_set (i := 3) sc_L_next.nd rfl (Or.inl rfl) (pe_callB cq_abs (by rfl) T.z_abs boot_abs (pa_cons (pe_callTy cq_int1 (by rfl) T.z_int boot_int (pa_cons (pe_ix ix_list (pe_ix ix_list (pv 0) pe_int (fun _ _ => rfl)) (pe_ix ix_list (pv 0) pe_int (fun _ _ => rfl)) (fun _ _ => rfl)) pa_nil)) pa_nil)))
      (pss_cons (ps_asg (pe_op op_add (pe_ix ix_list (pv 0) pe_int (fun _ _ => rfl)) pe_int) (pg_sub (pv 0) pe_int set_list))
      (pss_cons (ps_if (pt_cmpR op_lt (pv 3) (pe_op op_pow pe_int pe_int) (nomark _)) (pss_one (ps_ret (pe_op op_mod (pe_callTy cq_int1 (by rfl) T.z_int boot_int (pa_cons (pv 3) pa_nil)) (pv 1)))) pss_nil)
      (pss_one (ps_asg (pv 3) (pg_sub (pv 0) pe_int set_list)))))) pss_nil)
      (pss_cons (ps_if (pt_cmpR op_gt (pe_ix ix_list (pv 0) pe_int (fun _ _ => rfl)) pe_int (nomark _)) (pss_cons (ps_set (i := 4) sc_L_next.nd rfl (Or.inl rfl) (pe_op op_mod (pe_callTy cq_int1 (by rfl) T.z_int boot_int (pa_cons (pe_ix ix_list (pv 0) pe_int (fun _ _ => rfl)) pa_nil)) (pv 1)))
      (pss_cons (ps_asg (pe_op op_fdiv (pe_ix ix_list (pv 0) pe_int (fun _ _ => rfl)) (pv 1)) (pg_sub (pv 0) pe_int set_list))
      (pss_one (ps_ret (pv 4))))) pss_nil)
      (pss_cons (ps_asg (pe_op op_mod (pe_callTy cq_int1 (by rfl) T.z_int boot_int (pa_cons (pe_op op_add (pe_op op_mul (pe_ix ix_list (pv 0) pe_int (fun _ _ => rfl)) pe_int) pe_int) pa_nil)) pe_int) (pg_sub (pv 0) pe_int set_list))
      (pss_cons (ps_set (i := 2) sc_L_next.nd rfl (Or.inl rfl) (pe_op op_mod (pe_callTy cq_int1 (by rfl) T.z_int boot_int (pa_cons (pe_op op_add (pe_op op_mul (pe_ix ix_list (pv 0) pe_int (fun _ _ => rfl)) pe_int) (pe_op op_fdiv (pe_ix ix_list (pv 0) pe_int (fun _ _ => rfl)) pe_int)) pa_nil)) pe_int))
      (pss_one (ps_ret (pe_op op_mod (pe_callTy cq_int1 (by rfl) T.z_int boot_int (pa_cons (pv 2) pa_nil)) (pv 1)))))))), ?_⟩
    (dsimp only [cxOf, Cx.nox, Cx.wish, L2.start, List.map, List.length, List.replicate, List.cons_append, List.nil_append, List.append_eq, Nat.reduceSub, Nat.reduceAdd])
    refine q_cut (Mid := fun σ' H' => ∃ (cell : Option V) (i c : Int), σ' = [some (.ref p), some (.int n), none, cell, none] ∧ H' p = some (.lst [.ref l, .int i, .int c, .int z]) ∧ H' l = some (.lst (ns.map V.int)) ∧ 0 ≤ i ∧ 0 ≤ c ∧ Kp p H H') ?_ ?_
    · walk_at "my_rd"
      refine q_and2 (fun h1 => ?_) (fun _ => ?_)
      · walk_at "my_rd"
        refine q_if2 (fun h2 => ?_) (fun _ => ?_)
        · have h2 := dec_t h2
          rw [List.length_map] at h2
          have hi2 : i.toNat < ns.length := by omega
          have ha : atI (ns.map V.int) i = some (V.int ns[i.toNat]) := at_int (n := i.toNat) (by omega) (by rw [List.getElem?_map, List.getElem?_eq_getElem hi2]; rfl)
          walk_at "my_rd"
          refine q_ixLt hl ha ?_
          walk_at "my_rd"
          refine q_if2 (fun h3 => ?_) (fun h3 => ?_)
          · walk_at "my_rd"
            refine k _ _ (Int.emod_nonneg _ (by omega)) (Int.emod_lt_of_pos _ hn) ⟨ns, i + 1, c, z, upd_same, upd_other hpl.symm hl, by omega, hc, hz0, hz1, hns, hpl⟩ (Kp.upd Kp.refl)
          · walk_at "my_rd"
            refine ⟨_, i + 1, _, rfl, upd_same, upd_other hpl.symm (upd_other hpl.symm hl), by omega, ?_, Kp.upd (Kp.upd Kp.refl)⟩
            split <;> omega
        · walk_at "my_rd"
          exact ⟨none, i, c, rfl, hp, hl, hi, hc, Kp.refl⟩
      · walk_at "my_rd"
        exact ⟨none, i, c, rfl, hp, hl, hi, hc, Kp.refl⟩
    · clear hp hl hi hc i c
      rintro σ' H2 ⟨cell, i, c, rfl, hp, hl, hi, hc, kp⟩
      walk_at "my_rd"
      refine q_if2 (fun h1 => ?_) (fun h1 => ?_)
      · have h1 := dec_t h1
        walk_at "my_rd"
        refine k _ _ (Int.emod_nonneg _ (by omega)) (Int.emod_lt_of_pos _ hn) ⟨ns, i, c / n, z, upd_same, upd_other hpl.symm hl, hi, Int.ediv_nonneg hc (by omega), hz0, hz1, hns, hpl⟩ (Kp.upd kp)
      · walk_at "my_rd"
        refine k _ _ (Int.emod_nonneg _ (by omega)) (Int.emod_lt_of_pos _ hn) ⟨ns, i, c, _, upd_same, upd_other hpl.symm hl, hi, hc, Int.emod_nonneg _ (by decide), Int.emod_lt_of_pos _ (by decide), hns, hpl⟩ (Kp.upd kp)
end

/-! a row of a table: by name -/
abbrev Row := List (Str × Int)
def rowK (r : Row) : List (Key × V) := r.map fun p => (Sum.inr p.1, .int p.2)
def putRow (r : Row) (x : Str) (i : Int) : Row := if (r.any fun p => decide (p.1 = x)) = true then r.map (fun p => if p.1 = x then (p.1, i) else p) else r ++ [(x, i)]
def getRow (r : Row) (x : Str) : Int := ((r.find? fun p => decide (p.1 = x)).map (·.2)).getD 0
theorem inr_dec {s t : Str} : decide ((Sum.inr s : Key) = Sum.inr t) = decide (s = t) := by
  by_cases h : s = t
  · rw [h, decide_eq_true rfl, decide_eq_true rfl]
  · rw [decide_eq_false h, decide_eq_false (fun e => h (Sum.inr.inj e))]
theorem rowK_val (r : Row) (x : Str) : valV (rowK r) (Sum.inr x) = ((r.find? fun p => decide (p.1 = x)).map (·.2)).map V.int := by
  induction r with
  | nil => rfl
  | cons p r ih =>
    show valV ((Sum.inr p.1, V.int p.2) :: rowK r) (Sum.inr x) = _
    rw [valV_cons]
    by_cases h : p.1 = x
    · rw [if_pos (by rw [h]), List.find?_cons_of_pos (by rw [decide_eq_true h])]
      rfl
    · rw [if_neg (fun e => h (Sum.inr.inj e)), List.find?_cons_of_neg (by rw [decide_eq_false h]; exact Bool.false_ne_true), ih]
theorem rowK_get (r : Row) (x : Str) : (valV (rowK r) (Sum.inr x)).getD (.int 0) = .int (getRow r x) := by
  rw [rowK_val]
  unfold getRow
  cases (r.find? fun p => decide (p.1 = x)).map (·.2) <;> rfl
theorem rowK_any (r : Row) (x : Str) : ((rowK r).any fun kv => decide (kv.1 = Sum.inr x)) = r.any fun p => decide (p.1 = x) := by
  unfold rowK
  rw [List.any_map]
  congr 1
  funext p
  exact inr_dec
theorem rowK_put (r : Row) (x : Str) (i : Int) : putK (rowK r) (Sum.inr x) (.int i) = rowK (putRow r x i) := by
  unfold putK putRow
  rw [rowK_any]
  split
  · unfold rowK
    rw [List.map_map, List.map_map]
    congr 1
    funext p
    show (if (Sum.inr p.1 : Key) = Sum.inr x then ((Sum.inr p.1 : Key), V.int i) else (Sum.inr p.1, V.int p.2)) = _
    by_cases h : p.1 = x
    · rw [if_pos (by rw [h])]; show _ = ((Sum.inr (if p.1 = x then (p.1, i) else p).1 : Key), V.int (if p.1 = x then (p.1, i) else p).2); rw [if_pos h]
    · rw [if_neg (fun e => h (Sum.inr.inj e))]; show _ = ((Sum.inr (if p.1 = x then (p.1, i) else p).1 : Key), V.int (if p.1 = x then (p.1, i) else p).2); rw [if_neg h]
  · show _ = rowK (r ++ [(x, i)])
    unfold rowK
    rw [List.map_append]
    rfl
theorem getRow_put (r : Row) (x : Str) (i : Int) (y : Str) : getRow (putRow r x i) y = if x = y then i else getRow r y := by
  have h := rowK_get (putRow r x i) y
  rw [← rowK_put, L2.valV_put] at h
  by_cases e : x = y
  · subst e
    rw [if_pos rfl] at h
    rw [if_pos rfl]
    injection h with h
    exact h.symm
  · rw [if_neg (fun q => e (Sum.inr.inj q).symm), rowK_get] at h
    rw [if_neg e]
    injection h with h
    exact h.symm
theorem rowK_vals (r : Row) : (rowK r).map (·.2) = (r.map (·.2)).map V.int := by
  unfold rowK
  rw [List.map_map, List.map_map]
  rfl

/-! sums of rows -/
def sumR (r : Row) : Int := (r.map (·.2)).sum
theorem sumR_nil : sumR [] = 0 := rfl
theorem sumR_cons (p : Str × Int) (r : Row) : sumR (p :: r) = p.2 + sumR r := by unfold sumR; rw [List.map_cons, List.sum_cons]
theorem sumR_app (r s : Row) : sumR (r ++ s) = sumR r + sumR s := by unfold sumR; rw [List.map_append, List.sum_append]
theorem getRow_cons (p : Str × Int) (r : Row) (x : Str) : getRow (p :: r) x = if p.1 = x then p.2 else getRow r x := by
  unfold getRow
  by_cases h : p.1 = x
  · rw [List.find?_cons_of_pos (by rw [decide_eq_true h]), if_pos h]; rfl
  · rw [List.find?_cons_of_neg (by rw [decide_eq_false h]; exact Bool.false_ne_true), if_neg h]
theorem getRow_nin {r : Row} {x : Str} (h : x ∉ r.map (·.1)) : getRow r x = 0 := by
  induction r with
  | nil => rfl
  | cons p r ih =>
    rw [List.map_cons, List.mem_cons, not_or] at h
    rw [getRow_cons, if_neg (fun e => h.1 e.symm), ih h.2]
theorem any_iff {r : Row} {x : Str} : (r.any fun p => decide (p.1 = x)) = true ↔ x ∈ r.map (·.1) := by
  rw [List.any_eq_true, List.mem_map]
  constructor
  · rintro ⟨p, hp, e⟩; exact ⟨p, hp, of_decide_eq_true e⟩
  · rintro ⟨p, hp, e⟩; exact ⟨p, hp, decide_eq_true e⟩
theorem upd_nin {r : Row} {x : Str} {i : Int} (h : x ∉ r.map (·.1)) : r.map (fun p => if p.1 = x then (p.1, i) else p) = r := by
  induction r with
  | nil => rfl
  | cons p r ih =>
    rw [List.map_cons, List.mem_cons, not_or] at h
    rw [List.map_cons, if_neg (fun e => h.1 e.symm), ih h.2]
theorem upd_keys {r : Row} {x : Str} {i : Int} : (r.map (fun p => if p.1 = x then (p.1, i) else p)).map (·.1) = r.map (·.1) := by
  rw [List.map_map]
  congr 1
  funext p
  show (if p.1 = x then (p.1, i) else p).1 = p.1
  split <;> rfl
theorem putRow_keys {r : Row} {x : Str} {i : Int} : (putRow r x i).map (·.1) = if x ∈ r.map (·.1) then r.map (·.1) else r.map (·.1) ++ [x] := by
  unfold putRow
  by_cases h : x ∈ r.map (·.1)
  · rw [if_pos (any_iff.mpr h), if_pos h, upd_keys]
  · rw [if_neg (fun q => h (any_iff.mp q)), if_neg h, List.map_append]; rfl
theorem putRow_nd {r : Row} {x : Str} {i : Int} (h : (r.map (·.1)).Nodup) : ((putRow r x i).map (·.1)).Nodup := by
  rw [putRow_keys]
  split
  · exact h
  · rename_i hx
    rw [List.nodup_append]
    exact ⟨h, by simp, fun a ha b hb e => hx (by rw [List.mem_singleton.mp hb] at e; exact e ▸ ha)⟩
theorem putRow_len {r : Row} {x : Str} {i : Int} : (putRow r x i).length ≤ r.length + 1 := by
  unfold putRow
  split
  · rw [List.length_map]; omega
  · rw [List.length_append]; exact Nat.le_refl _
theorem sumR_put {r : Row} {x : Str} {i : Int} (h : (r.map (·.1)).Nodup) : sumR (putRow r x i) = sumR r - getRow r x + i := by
  unfold putRow
  by_cases hx : x ∈ r.map (·.1)
  · rw [if_pos (any_iff.mpr hx)]
    induction r with
    | nil => cases hx
    | cons p r ih =>
      rw [List.map_cons, List.nodup_cons] at h
      rw [List.map_cons, sumR_cons, sumR_cons, getRow_cons]
      by_cases e : p.1 = x
      · rw [if_pos e, if_pos e, upd_nin (e ▸ h.1)]; show i + _ = _; omega
      · rw [if_neg e, if_neg e]
        rw [List.map_cons, List.mem_cons] at hx
        rw [ih h.2 (hx.resolve_left fun q => e q.symm)]; omega
  · rw [if_neg (fun q => hx (any_iff.mp q)), sumR_app, sumR_cons, sumR_nil, getRow_nin hx]; show _ + (i + 0) = _; omega
theorem sumR_nn {r : Row} (h : ∀ p ∈ r, 0 ≤ p.2) : 0 ≤ sumR r := by
  induction r with
  | nil => exact Int.le_refl _
  | cons p r ih =>
    rw [sumR_cons]
    have h1 := h p List.mem_cons_self
    have h2 := ih fun q hq => h q (List.mem_cons_of_mem _ hq)
    omega
theorem getRow_nn {r : Row} (h : ∀ p ∈ r, 0 ≤ p.2) (x : Str) : 0 ≤ getRow r x := by
  induction r with
  | nil => exact Int.le_refl _
  | cons p r ih =>
    rw [getRow_cons]
    split
    · exact h p List.mem_cons_self
    · exact ih fun q hq => h q (List.mem_cons_of_mem _ hq)
theorem getRow_le {r : Row} (h : ∀ p ∈ r, 0 ≤ p.2) (x : Str) : getRow r x ≤ sumR r := by
  induction r with
  | nil => exact Int.le_refl _
  | cons p r ih =>
    rw [getRow_cons, sumR_cons]
    have h2 := ih fun q hq => h q (List.mem_cons_of_mem _ hq)
    have h3 := sumR_nn fun q hq => h q (List.mem_cons_of_mem p hq)
    have h4 := h p List.mem_cons_self
    split <;> omega
theorem putRow_mem {r : Row} {x : Str} {i : Int} {p : Str × Int} (h : p ∈ putRow r x i) : p ∈ r ∨ p = (x, i) := by
  unfold putRow at h
  split at h
  · obtain ⟨q, hq, e⟩ := List.mem_map.mp h
    by_cases hx : q.1 = x
    · rw [if_pos hx, hx] at e; exact .inr e.symm
    · rw [if_neg hx] at e; exact .inl (e ▸ hq)
  · rcases List.mem_append.mp h with m | m
    · exact .inl m
    · exact .inr (List.mem_singleton.mp m)
theorem row_some {r : Row} {x : Str} (h : getRow r x ≠ 0) : valV (rowK r) (Sum.inr x) = some (.int (getRow r x)) := by
  have e := rowK_get r x
  rw [rowK_val] at e ⊢
  unfold getRow at h ⊢
  cases q : (r.find? fun p => decide (p.1 = x)).map (·.2) with
  | none => rw [q] at h; exact absurd rfl h
  | some v => rfl
/-! what a call is due to give: the value, the assets, the shares -/
def cntP (A : Int) (r : Row) (i : Int) : Int := if 0 < sumR r then i * sumR r / A else i
def dueP (kd : Int) (x : Str) (i A : Int) (r : Row) : V × Int × Row :=
  if i < 1 then (.str "argument!", A, r)
  else if kd = 0 then (if cntP A r i < 1 then (.str "argument!", A, r) else (.int (cntP A r i), A + i, putRow r x (getRow r x + cntP A r i)))
  else if kd = 1 then (if getRow r x < i then (.str "balance!", A, r) else (.int (i * A / sumR r), A - i * A / sumR r, putRow r x (getRow r x - i)))
  else if sumR r = 0 then (.str "argument!", A, r) else (.non, A + i, r)
structure Good (A : Int) (r : Row) : Prop where
  nd : (r.map (·.1)).Nodup
  nn : ∀ p ∈ r, 0 ≤ p.2
  ge : sumR r ≤ A
  z : sumR r = 0 → A = 0
theorem Good.s0 {A : Int} {r : Row} (g : Good A r) : 0 ≤ sumR r := sumR_nn g.nn
theorem Good.a0 {A : Int} {r : Row} (g : Good A r) : 0 ≤ A := Int.le_trans g.s0 g.ge
theorem Good.put {A B : Int} {r : Row} {x : Str} {i : Int} (g : Good A r) (h0 : 0 ≤ i) (hg : sumR r - getRow r x + i ≤ B) (hz : sumR r - getRow r x + i = 0 → B = 0) : Good B (putRow r x i) :=
  ⟨putRow_nd g.nd, fun p hp => by rcases putRow_mem hp with m | m; exact g.nn p m; rw [m]; exact h0, by rw [sumR_put g.nd]; exact hg, by rw [sumR_put g.nd]; exact hz⟩
theorem cnt_nn {A i : Int} {r : Row} (g : Good A r) (hi : 1 ≤ i) : 0 ≤ cntP A r i := by
  unfold cntP
  split
  · exact Int.ediv_nonneg (Int.mul_nonneg (by omega) g.s0) g.a0
  · omega
theorem cnt_le {A i : Int} {r : Row} (g : Good A r) (hi : 1 ≤ i) : cntP A r i ≤ i := by
  unfold cntP
  split
  · rename_i h
    have h1 : i * sumR r ≤ i * A := Int.mul_le_mul_of_nonneg_left g.ge (by omega)
    have h2 := Int.ediv_le_ediv (c := A) (by have := g.ge; omega) h1
    rw [Int.mul_ediv_cancel i (by have := g.ge; omega)] at h2
    exact h2
  · omega
/-- c times A is at most i times S -/
theorem cnt_mul {A i : Int} {r : Row} (g : Good A r) (hi : 1 ≤ i) : cntP A r i * A ≤ i * sumR r := by
  unfold cntP
  split
  · exact Int.ediv_mul_le _ (by have := g.ge; omega)
  · have h := g.s0
    have h2 := g.z (by omega)
    rw [h2]
    have : 0 ≤ i * sumR r := Int.mul_nonneg (by omega) h
    omega
theorem paid_mul {A i : Int} {r : Row} (h : sumR r ≠ 0) : i * A / sumR r * sumR r ≤ i * A := Int.ediv_mul_le _ h
theorem paid_nn {A i : Int} {r : Row} (g : Good A r) (hi : 1 ≤ i) : 0 ≤ i * A / sumR r := Int.ediv_nonneg (Int.mul_nonneg (by omega) g.a0) g.s0
/-- what is paid for i of S shares is at most A - (S - i) -/
theorem paid_le {A i : Int} {r : Row} (g : Good A r) (h1 : 1 ≤ i) (h2 : i ≤ sumR r) : i * A / sumR r ≤ A - (sumR r - i) := by
  have hs : 0 < sumR r := by omega
  apply Int.le_of_lt_add_one
  apply Int.ediv_lt_of_lt_mul hs
  have e : (A - (sumR r - i) + 1) * sumR r = A * sumR r - (sumR r - i) * sumR r + sumR r := by
    rw [Int.add_mul, Int.sub_mul, Int.one_mul]
  rw [e]
  have h3 : (sumR r - i) * sumR r ≤ (sumR r - i) * A := Int.mul_le_mul_of_nonneg_left g.ge (by omega)
  have e2 : (sumR r - i) * A = sumR r * A - i * A := Int.sub_mul ..
  have e3 : A * sumR r = sumR r * A := Int.mul_comm ..
  omega
theorem Good.due {kd : Int} {x : Str} {i A : Int} {r : Row} (g : Good A r) : Good (dueP kd x i A r).2.1 (dueP kd x i A r).2.2 := by
  have hs := g.s0
  have ha := g.a0
  have hge := g.ge
  unfold dueP
  split
  · exact g
  · rename_i h1
    have hi : 1 ≤ i := by omega
    split
    · split
      · exact g
      · rename_i h2
        have h3 := cnt_le g hi
        have h4 := getRow_nn g.nn x
        have h5 := getRow_le g.nn x
        refine g.put (by omega) (by show _ ≤ A + i; omega) (fun q => by omega)
    · split
      · split
        · exact g
        · rename_i h2
          have h4 := getRow_le g.nn x
          have h5 := paid_le g hi (by omega)
          refine g.put (by omega) (by show _ ≤ A - i * A / sumR r; omega) (fun q => ?_)
          have e : i = sumR r := by omega
          show A - i * A / sumR r = 0
          rw [e, Int.mul_ediv_cancel_left A (by omega)]
          omega
      · split
        · exact g
        · rename_i h2
          exact ⟨g.nd, g.nn, by show sumR r ≤ A + i; omega, fun q => absurd q h2⟩
theorem due_len {kd : Int} {x : Str} {i A : Int} {r : Row} : (dueP kd x i A r).2.2.length ≤ r.length + 1 := by
  unfold dueP
  repeat' split
  all_goals first | exact putRow_len | exact Nat.le_succ _
theorem due_up {kd : Int} {x : Str} {i A : Int} {r : Row} (g : Good A r) (hi : 0 ≤ i) : (dueP kd x i A r).2.1 ≤ A + i := by
  unfold dueP
  split
  · show A ≤ _; omega
  · split
    · split
      · show A ≤ _; omega
      · exact Int.le_refl _
    · split
      · split
        · show A ≤ _; omega
        · have := paid_nn (i := i) g (by omega)
          show A - i * A / sumR r ≤ _; omega
      · split
        · show A ≤ _; omega
        · exact Int.le_refl _
theorem due_keys {kd : Int} {x : Str} {i A : Int} {r : Row} {p : Str × Int} (h : p ∈ (dueP kd x i A r).2.2) : p ∈ r ∨ p.1 = x := by
  unfold dueP at h
  repeat' split at h
  all_goals first | exact .inl h | exact (putRow_mem h).imp_right fun e => by rw [e]
/-- the assets for a share never fall -/
theorem due_fair {kd : Int} {x : Str} {i A : Int} {r : Row} (g : Good A r) : A * sumR (dueP kd x i A r).2.2 ≤ (dueP kd x i A r).2.1 * sumR r := by
  have hs := g.s0
  have ha := g.a0
  unfold dueP
  split
  · exact Int.le_refl _
  · rename_i h1
    have hi : 1 ≤ i := by omega
    split
    · split
      · exact Int.le_refl _
      · show A * sumR (putRow r x (getRow r x + cntP A r i)) ≤ (A + i) * sumR r
        rw [sumR_put g.nd]
        have h := cnt_mul g hi
        have e : sumR r - getRow r x + (getRow r x + cntP A r i) = sumR r + cntP A r i := by omega
        rw [e, Int.mul_add, Int.add_mul, Int.mul_comm A (cntP A r i)]
        omega
    · split
      · split
        · exact Int.le_refl _
        · rename_i h2
          show A * sumR (putRow r x (getRow r x - i)) ≤ (A - i * A / sumR r) * sumR r
          have h4 := getRow_le g.nn x
          rw [sumR_put g.nd]
          have h := paid_mul (A := A) (i := i) (r := r) (by omega)
          have e : sumR r - getRow r x + (getRow r x - i) = sumR r - i := by omega
          rw [e, Int.mul_sub, Int.sub_mul, Int.mul_comm A i]
          omega
      · split
        · exact Int.le_refl _
        · show A * sumR r ≤ (A + i) * sumR r
          exact Int.mul_le_mul_of_nonneg_right (by omega) hs
/-- a deposit that is taken back at once gives no more than it was -/
theorem back_le {x : Str} {i A : Int} {r : Row} (g : Good A r) (hi : 1 ≤ i) (hc : ¬ cntP A r i < 1) : cntP A r i * (A + i) / sumR (putRow r x (getRow r x + cntP A r i)) ≤ i := by
  have hs := g.s0
  rw [sumR_put g.nd]
  have e : sumR r - getRow r x + (getRow r x + cntP A r i) = sumR r + cntP A r i := by omega
  rw [e]
  have h := cnt_mul g hi
  have h2 : cntP A r i * (A + i) ≤ i * (sumR r + cntP A r i) := by
    rw [Int.mul_add, Int.mul_add, Int.mul_comm (cntP A r i) i]
    omega
  have h3 := Int.ediv_le_ediv (c := sumR r + cntP A r i) (by omega) h2
  rw [Int.mul_ediv_cancel i (by omega)] at h3
  exact h3
theorem all_zero {A : Int} {r : Row} (g : Good A r) (hk : ∀ p ∈ r, p.1 = "ann" ∨ p.1 = "bob" ∨ p.1 = "cyd") (h1 : getRow r "ann" = 0) (h2 : getRow r "bob" = 0) (h3 : getRow r "cyd" = 0) : sumR r = 0 := by
  have hz : ∀ p ∈ r, p.2 = 0 := by
    intro p hp
    have e : ∀ (r : Row), (r.map (·.1)).Nodup → p ∈ r → getRow r p.1 = p.2 := by
      intro r
      induction r with
      | nil => intro _ h; cases h
      | cons q r ih =>
        intro hn hm
        rw [List.map_cons, List.nodup_cons] at hn
        rw [getRow_cons]
        rcases List.mem_cons.mp hm with rfl | m
        · rw [if_pos rfl]
        · rw [if_neg (fun e : q.1 = p.1 => hn.1 (by rw [e]; exact List.mem_map.mpr ⟨p, m, rfl⟩)), ih hn.2 m]
    have := e r g.nd hp
    rcases hk p hp with q | q | q <;> rw [q] at this <;> omega
  clear h1 h2 h3 hk g
  induction r with
  | nil => rfl
  | cons p r ih =>
    rw [sumR_cons, hz p List.mem_cons_self, ih fun q hq => hz q (List.mem_cons_of_mem _ hq)]
    rfl

local macro_rules | `(tactic| walk_at "my_rd") => `(tactic| (repeat first
  | with_reducible refine q_tCons ?_
  | ((with_reducible apply q_var); (focus (exact rfl)))
  | with_reducible refine q_c ?_
  | with_reducible refine q_nx ?_
  | with_reducible refine q_bK ?_
  | with_reducible refine q_call ?_
  | with_reducible refine q_callK ?_
  | with_reducible refine q_tNil ?_
  | with_reducible refine q_cb ?_
  | with_reducible refine q_seq ?_
  | with_reducible refine q_asg ?_
  | with_reducible refine q_gName ?_
  | with_reducible refine q_op ?_
  | with_reducible refine q_test ?_
  | with_reducible refine q_tB ?_
  | with_reducible refine q_ifS ?_
  | with_reducible refine q_ret ?_
  | with_reducible refine q_rt ?_
  | with_reducible refine q_next ?_
  | with_reducible refine q_ifF ?_
  | with_reducible refine q_ifT ?_
  | with_reducible refine q_drop ?_
  | with_reducible refine q_and ?_
  | with_reducible refine q_or ?_
  | with_reducible refine q_andT ?_
  | with_reducible refine q_andF ?_
  | with_reducible refine q_orF ?_
  | with_reducible refine q_orT ?_
  | with_reducible refine q_andV ?_
  | with_reducible refine q_andVT ?_
  | with_reducible refine q_andVF ?_
  | with_reducible refine q_orV ?_
  | with_reducible refine q_gCons ?_
  | with_reducible refine q_gNil ?_
  | with_reducible refine q_tup ?_
  | with_reducible refine q_lst ?_
  | with_reducible refine q_not ?_
  | with_reducible refine q_notKT ?_
  | with_reducible refine q_notKF ?_
  | with_reducible refine q_I0 ?_
  | with_reducible refine q_eqI ?_
  | with_reducible refine q_neI ?_
  | ((with_reducible refine q_I ?_ ?_); first | decide | omega | exact ⟨by omega, by omega⟩ | exact ⟨by decide, by decide⟩ | exact .inl ⟨by omega, by omega⟩ | exact .inr ⟨by omega, by omega⟩ | exact .inr ⟨by decide, by decide⟩)
  | with_reducible refine q_eqS ?_
  | with_reducible refine q_neS ?_
  | with_reducible refine q_brk ?_
  | with_reducible refine q_ct ?_
  | with_reducible refine q_bk ?_
  | with_reducible refine q_cn ?_
  | with_reducible refine q_retN ?_
  | with_reducible refine q_gSub ?_
  | with_reducible refine q_for ?_
  | with_reducible refine q_iList ?_
  | with_reducible refine q_iTup ?_
  | with_reducible refine q_iRng1 ?_
  | with_reducible refine q_notK ?_
  | with_reducible refine q_orVT ?_
  | with_reducible refine q_orVF ?_
  | with_reducible refine q_notV ?_
  | with_reducible refine q_notVK ?_
  | with_reducible refine q_ifE ?_
  | with_reducible refine q_ifET ?_
  | with_reducible refine q_ifEF ?_
  | with_reducible refine q_yes ?_
  | with_reducible refine q_un ?_
  | with_reducible refine q_rU ?_
  | with_reducible refine q_abs ?_
  | with_reducible refine q_int1 ?_
  | with_reducible refine q_bm ?_
  | with_reducible refine q_bm0 ?_
  | with_reducible refine q_lc ?_
  | with_reducible refine q_keepT ?_
  | with_reducible refine q_keepF ?_
  | ((with_reducible apply q_aug); (focus (exact rfl)))
  | with_reducible refine q_ipI ?_
  | with_reducible refine q_chain ?_
  | with_reducible refine q_pairC ?_
  | with_reducible refine q_pairsK ?_
  | with_reducible refine q_pairN ?_
  | with_reducible refine q_fld ?_
  | with_reducible refine q_sFld ?_
  | with_reducible refine q_meth ?_
  | with_reducible refine q_makeK ?_
  | with_reducible refine q_isBl ?_
  | with_reducible refine q_notBl ?_
  | with_reducible refine q_sl ?_
  | with_reducible refine q_noPart ?_
  | with_reducible refine q_part ?_
  | with_reducible refine q_partK ?_
  | ((with_reducible apply q_mulStr); (focus (decide +kernel)))
  | with_reducible refine q_chT ?_
  | with_reducible refine q_chF ?_
  | with_reducible refine q_ord ?_
  | with_reducible refine q_iStr0 ?_
  | with_reducible refine q_iStr ?_
  | with_reducible refine q_tDIn ?_
  | with_reducible refine q_tDNotIn ?_
  | with_reducible refine q_tDGet ?_
  | with_reducible refine q_tDGet2 ?_
  | with_reducible refine q_tDGet1 ?_
  | with_reducible refine q_tDSetd ?_
  | ((with_reducible apply q_dG2a); (focus ((repeat first | (with_reducible exact upd_same) | (with_reducible assumption) | (with_reducible apply upd_new (by assumption)) | (with_reducible apply upd_other (by first | assumption | exact Ne.symm (by assumption))) | (with_reducible refine' Kp.get (by assumption) ?_ (by first | assumption | exact Ne.symm (by assumption))) | (with_reducible apply Same.get (by assumption))); done)))
  | ((with_reducible apply q_dSda); (focus ((repeat first | (with_reducible exact upd_same) | (with_reducible assumption) | (with_reducible apply upd_new (by assumption)) | (with_reducible apply upd_other (by first | assumption | exact Ne.symm (by assumption))) | (with_reducible refine' Kp.get (by assumption) ?_ (by first | assumption | exact Ne.symm (by assumption))) | (with_reducible apply Same.get (by assumption))); done)))
  | with_reducible refine q_sDPut ?_
  | ((with_reducible apply q_dInS); (focus ((repeat first | (with_reducible exact upd_same) | (with_reducible assumption) | (with_reducible apply upd_new (by assumption)) | (with_reducible apply upd_other (by first | assumption | exact Ne.symm (by assumption))) | (with_reducible refine' Kp.get (by assumption) ?_ (by first | assumption | exact Ne.symm (by assumption))) | (with_reducible apply Same.get (by assumption))); done)))
  | ((with_reducible apply q_dNInS); (focus ((repeat first | (with_reducible exact upd_same) | (with_reducible assumption) | (with_reducible apply upd_new (by assumption)) | (with_reducible apply upd_other (by first | assumption | exact Ne.symm (by assumption))) | (with_reducible refine' Kp.get (by assumption) ?_ (by first | assumption | exact Ne.symm (by assumption))) | (with_reducible apply Same.get (by assumption))); done)))
  | ((with_reducible apply q_dInI); (focus ((repeat first | (with_reducible exact upd_same) | (with_reducible assumption) | (with_reducible apply upd_new (by assumption)) | (with_reducible apply upd_other (by first | assumption | exact Ne.symm (by assumption))) | (with_reducible refine' Kp.get (by assumption) ?_ (by first | assumption | exact Ne.symm (by assumption))) | (with_reducible apply Same.get (by assumption))); done)))
  | ((with_reducible apply q_dNInI); (focus ((repeat first | (with_reducible exact upd_same) | (with_reducible assumption) | (with_reducible apply upd_new (by assumption)) | (with_reducible apply upd_other (by first | assumption | exact Ne.symm (by assumption))) | (with_reducible refine' Kp.get (by assumption) ?_ (by first | assumption | exact Ne.symm (by assumption))) | (with_reducible apply Same.get (by assumption))); done)))
  | ((with_reducible apply q_bmL); (focus ((repeat first | (with_reducible exact upd_same) | (with_reducible assumption) | (with_reducible apply upd_new (by assumption)) | (with_reducible apply upd_other (by first | assumption | exact Ne.symm (by assumption))) | (with_reducible refine' Kp.get (by assumption) ?_ (by first | assumption | exact Ne.symm (by assumption))) | (with_reducible apply Same.get (by assumption))); done)))
  | ((with_reducible apply q_bmL0); (focus ((repeat first | (with_reducible exact upd_same) | (with_reducible assumption) | (with_reducible apply upd_new (by assumption)) | (with_reducible apply upd_other (by first | assumption | exact Ne.symm (by assumption))) | (with_reducible refine' Kp.get (by assumption) ?_ (by first | assumption | exact Ne.symm (by assumption))) | (with_reducible apply Same.get (by assumption))); done)))
  | ((with_reducible apply q_ixLt); (focus ((repeat first | (with_reducible exact upd_same) | (with_reducible assumption) | (with_reducible apply upd_new (by assumption)) | (with_reducible apply upd_other (by first | assumption | exact Ne.symm (by assumption))) | (with_reducible refine' Kp.get (by assumption) ?_ (by first | assumption | exact Ne.symm (by assumption))) | (with_reducible apply Same.get (by assumption))); done)); (focus (exact rfl)))
  | ((with_reducible apply q_ixTt); (focus ((repeat first | (with_reducible exact upd_same) | (with_reducible assumption) | (with_reducible apply upd_new (by assumption)) | (with_reducible apply upd_other (by first | assumption | exact Ne.symm (by assumption))) | (with_reducible refine' Kp.get (by assumption) ?_ (by first | assumption | exact Ne.symm (by assumption))) | (with_reducible apply Same.get (by assumption))); done)); (focus (exact rfl)))
  | ((with_reducible apply q_lenLt); (focus ((repeat first | (with_reducible exact upd_same) | (with_reducible assumption) | (with_reducible apply upd_new (by assumption)) | (with_reducible apply upd_other (by first | assumption | exact Ne.symm (by assumption))) | (with_reducible refine' Kp.get (by assumption) ?_ (by first | assumption | exact Ne.symm (by assumption))) | (with_reducible apply Same.get (by assumption))); done)))
  | ((with_reducible apply q_lenTt); (focus ((repeat first | (with_reducible exact upd_same) | (with_reducible assumption) | (with_reducible apply upd_new (by assumption)) | (with_reducible apply upd_other (by first | assumption | exact Ne.symm (by assumption))) | (with_reducible refine' Kp.get (by assumption) ?_ (by first | assumption | exact Ne.symm (by assumption))) | (with_reducible apply Same.get (by assumption))); done)))
  | ((with_reducible apply q_append); (focus ((repeat first | (with_reducible exact upd_same) | (with_reducible assumption) | (with_reducible apply upd_new (by assumption)) | (with_reducible apply upd_other (by first | assumption | exact Ne.symm (by assumption))) | (with_reducible refine' Kp.get (by assumption) ?_ (by first | assumption | exact Ne.symm (by assumption))) | (with_reducible apply Same.get (by assumption))); done)); (focus ((first | (exact Nat.lt_of_ble_eq_true rfl) | (simp only [List.length_append, List.length_cons, List.length_nil, List.length_map]; exact small1000 (by omega))))))
  | ((with_reducible apply q_setL); (focus ((repeat first | (with_reducible exact upd_same) | (with_reducible assumption) | (with_reducible apply upd_new (by assumption)) | (with_reducible apply upd_other (by first | assumption | exact Ne.symm (by assumption))) | (with_reducible refine' Kp.get (by assumption) ?_ (by first | assumption | exact Ne.symm (by assumption))) | (with_reducible apply Same.get (by assumption))); done)); (focus (exact rfl)))
  | with_reducible refine q_ifNT ?_
  | with_reducible refine q_ifNF ?_
  | with_reducible refine q_andNT ?_
  | with_reducible refine q_andNF ?_
  | with_reducible refine q_orNT ?_
  | with_reducible refine q_orNF ?_
  | with_reducible refine q_bKNT ?_
  | with_reducible refine q_bKNF ?_
  | with_reducible refine q_tNGet ?_
  | with_reducible refine q_tNIn ?_
  | with_reducible refine q_sNPut ?_
  | with_reducible refine q_sFldAug ?_
  | with_reducible refine q_sDAug ?_))
/-! a pool -/
structure PoolAt (C : Addr) (H : Hp) (b d : Addr) (A : Int) (r : Row) : Prop where
  o : ∃ dx, H b = some (.ins C dx [("_assets", .int A), ("_held", .ref d)])
  d : H d = some (.dK (rowK r))
/-- all but two stays -/
def Kq (p q : Addr) (H H' : Hp) : Prop := ∀ b o, H b = some o → b ≠ p → b ≠ q → H' b = some o
theorem Kq.same {p q : Addr} {H H' : Hp} (e : Same H H') : Kq p q H H' := fun b o h _ _ => e b o h
theorem Kq.trans {p q : Addr} {H H1 H2 : Hp} (e : Kq p q H H1) (e2 : Kq p q H1 H2) : Kq p q H H2 := fun b o h n1 n2 => e2 b o (e b o h n1 n2) n1 n2
theorem Kq.up1 {p q : Addr} {H H' : Hp} {o : HO} (e : Kq p q H H') : Kq p q H (upd H' p o) := fun b o h n1 n2 => upd_other n1 (e b o h n1 n2)
theorem Kq.up2 {p q : Addr} {H H' : Hp} {o : HO} (e : Kq p q H H') : Kq p q H (upd H' q o) := fun b o h n1 n2 => upd_other n2 (e b o h n1 n2)
theorem Kq.refl {p q : Addr} {H : Hp} : Kq p q H H := fun b o h _ _ => h
theorem PoolAt.ne {C : Addr} {H : Hp} {b d : Addr} {A : Int} {r : Row} (h : PoolAt C H b d A r) : b ≠ d := by
  obtain ⟨dx, q⟩ := h.o
  exact ne_of q h.d (by intro z; cases z)
theorem PoolAt.same {C : Addr} {H H' : Hp} {b d : Addr} {A : Int} {r : Row} (h : PoolAt C H b d A r) (e : Same H H') : PoolAt C H' b d A r := by
  obtain ⟨dx, q⟩ := h.o
  exact ⟨⟨dx, e _ _ q⟩, e _ _ h.d⟩
theorem PoolAt.kq {C : Addr} {H H' : Hp} {b d p q : Addr} {A : Int} {r : Row} (h : PoolAt C H b d A r) (e : Kq p q H H') (n1 : b ≠ p) (n2 : b ≠ q) (n3 : d ≠ p) (n4 : d ≠ q) : PoolAt C H' b d A r := by
  obtain ⟨dx, z⟩ := h.o
  exact ⟨⟨dx, e _ _ z n1 n2⟩, e _ _ h.d n3 n4⟩
def sp_poI (C : Addr) : Sp := fun vs H Q _ => ∃ (b dx : Addr), vs = [.ref b] ∧ H b = some (.ins C dx []) ∧ ∀ (d : Addr) (H' : Hp), H d = none → PoolAt C H' b d 0 [] → Kp b H H' → Q .non H'
def sp_poA (C : Addr) : Sp := fun vs H Q _ => ∃ (b d : Addr) (A : Int) (r : Row), vs = [.ref b] ∧ PoolAt C H b d A r ∧ Q (.int A) H
def sp_poS (C : Addr) : Sp := fun vs H Q _ => ∃ (b d : Addr) (A : Int) (r : Row), vs = [.ref b] ∧ PoolAt C H b d A r ∧ Q (.int (sumR r)) H
def sp_poO (C : Addr) : Sp := fun vs H Q _ => ∃ (b d : Addr) (A : Int) (r : Row) (x : Str), vs = [.ref b, .str x] ∧ PoolAt C H b d A r ∧ Q (.int (getRow r x)) H
/-- numbers that are not too great for the machine's own division -/
def Bd (A i : Int) : Prop := A < 2 ^ 80 ∧ 0 ≤ i ∧ i < 2 ^ 80
def sp_poD (C CI : Addr) : Sp := fun vs H Q E => ∃ (b d : Addr) (A : Int) (r : Row) (x : Str) (i : Int), vs = [.ref b, .str x, .int i] ∧ PoolAt C H b d A r ∧ Good A r ∧ Bd A i ∧ r.length < 1000 ∧
  (i < 1 → E (.ref CI) none H) ∧ (¬ i < 1 → cntP A r i < 1 → E (.ref CI) none H) ∧
  (¬ i < 1 → ¬ cntP A r i < 1 → ∀ H', PoolAt C H' b d (A + i) (putRow r x (getRow r x + cntP A r i)) → Kq b d H H' → Q (.int (cntP A r i)) H')
def sp_poR (C CI CN : Addr) : Sp := fun vs H Q E => ∃ (b d : Addr) (A : Int) (r : Row) (x : Str) (i : Int), vs = [.ref b, .str x, .int i] ∧ PoolAt C H b d A r ∧ Good A r ∧ Bd A i ∧ r.length < 1000 ∧
  (i < 1 → E (.ref CI) none H) ∧ (¬ i < 1 → getRow r x < i → E (.ref CN) none H) ∧
  (¬ i < 1 → ¬ getRow r x < i → ∀ H', PoolAt C H' b d (A - i * A / sumR r) (putRow r x (getRow r x - i)) → Kq b d H H' → Q (.int (i * A / sumR r)) H')
def sp_poE (C CI : Addr) : Sp := fun vs H Q E => ∃ (b d : Addr) (A : Int) (r : Row) (i : Int), vs = [.ref b, .int i] ∧ PoolAt C H b d A r ∧
  (i < 1 → E (.ref CI) none H) ∧ (¬ i < 1 → sumR r = 0 → E (.ref CI) none H) ∧
  (¬ i < 1 → ¬ sumR r = 0 → ∀ H', PoolAt C H' b d (A + i) r → Kq b d H H' → Q .non H')
theorem lk2 {m f g : Str} {x y : V} (h : (m == f) = false) (h2 : (m == g) = false) : List.lookup m [(f, x), (g, y)] = none := by
  show (match m == f with | true => some x | false => List.lookup m [(g, y)]) = none
  rw [h]
  show (match m == g with | true => some y | false => List.lookup m []) = none
  rw [h2]
  rfl
theorem pow80 : (2 : Int) ^ 80 = 1208925819614629174706176 := by decide
theorem bdN {i : Int} (h0 : 0 ≤ i) (h : i < 2 ^ 80) : i.natAbs < 2 ^ 80 := by
  have e : (2 : Nat) ^ 80 = 1208925819614629174706176 := by decide
  rw [pow80] at h
  rw [e]
  omega
theorem bdMul {i j : Int} (h0 : 0 ≤ i) (h : i < 2 ^ 80) (h1 : 0 ≤ j) (h2 : j < 2 ^ 80) : CMulW i j := wide_mul (bdN h0 h) (bdN h1 h2) (by decide) (by decide) (by decide)
theorem bdDiv {i j : Int} (h0 : 0 < j) (h : j < 2 ^ 80) : CDivW i j := wide_div h0 (bdN (Int.le_of_lt h0) h) (by decide) (by decide)
section
variable {P : Program} {w : World} {K : PySem.W.Frag} {mg : Str → Option Value} {base : Heap}
theorem ok_Pool_init (T : Txt K mg) : FnOk P w K mg base CX0 1 T.f_Pool_init T.d_Pool_init ["self"] (sp_poI T.C_Pool) := by
  refine T.F_Pool_init.ok sc_Pool_init (fun vs H Q E h => ?_) (fun cdv A outer s H vs Q E hr h => ?_)
  · obtain ⟨b, dx, rfl, _⟩ := h; rfl
  · obtain ⟨b, dx, rfl, hb, k⟩ := h
    refine ⟨_, (pss_cons (ps_fld (pv 0) pe_int rfl)
      (pss_one (ps_fld (pv 0) pe_dnewK rfl))), ?_⟩
    (dsimp only [cxOf, Cx.nox, Cx.wish, L2.start, List.map, List.length, List.replicate, List.cons_append, List.nil_append, List.append_eq, Nat.reduceSub, Nat.reduceAdd])
    walk_at "my_rd"
    refine q_fputK hb T.cl_Pool T.n_Pool_assets (by show 0 < 1000; decide) ?_
    walk_at "my_rd"
    refine q_dNew fun d nd => ?_
    have nb : d ≠ b := fun e => by rw [e, upd_same] at nd; cases nd
    walk_at "my_rd"
    refine q_fputK (upd_new nd upd_same) T.cl_Pool T.n_Pool_held (by show 1 < 1000; decide) ?_
    walk_at "my_rd"
    exact k d _ (upd_none_back nd) ⟨⟨dx, upd_same⟩, upd_other nb upd_same⟩ (Kp.upd (Kp.new (Kp.upd Kp.refl) (upd_none_back nd)))
theorem ok_Pool_assets (T : Txt K mg) : FnOk P w K mg base CX0 1 T.f_Pool_assets T.d_Pool_assets ["self"] (sp_poA T.C_Pool) := by
  refine T.F_Pool_assets.ok sc_Pool_assets (fun vs H Q E h => ?_) (fun cdv A outer s H vs Q E hr h => ?_)
  · obtain ⟨b, d, A, r, rfl, _⟩ := h; rfl
  · obtain ⟨b, d, A, r, rfl, hP, k⟩ := h
    obtain ⟨dx, ho⟩ := hP.o
    refine ⟨_, (pss_one (ps_ret (pe_fld (pv 0) rfl))), ?_⟩
    (dsimp only [cxOf, Cx.nox, Cx.wish, L2.start, List.map, List.length, List.replicate, List.cons_append, List.nil_append, List.append_eq, Nat.reduceSub, Nat.reduceAdd])
    walk_at "my_rd"
    refine q_fldK ho T.cl_Pool T.n_Pool_assets rfl ?_
    walk_at "my_rd"
    exact k
theorem ok_Pool_shares (T : Txt K mg) : FnOk P w K mg base CX0 1 T.f_Pool_shares T.d_Pool_shares ["self"] (sp_poS T.C_Pool) := by
  refine T.F_Pool_shares.ok sc_Pool_shares (fun vs H Q E h => ?_) (fun cdv A outer s H vs Q E hr h => ?_)
  · obtain ⟨b, d, A, r, rfl, _⟩ := h; rfl
  · obtain ⟨b, d, A, r, rfl, hP, k⟩ := h
    obtain ⟨dx, ho⟩ := hP.o
    refine ⟨_, (pss_one (ps_ret (pe_sumVals rfl (by rfl) T.z_sum (pe_fld (pv 0) rfl)))), ?_⟩
    (dsimp only [cxOf, Cx.nox, Cx.wish, L2.start, List.map, List.length, List.replicate, List.cons_append, List.nil_append, List.append_eq, Nat.reduceSub, Nat.reduceAdd])
    walk_at "my_rd"
    refine q_sumVals ?_
    walk_at "my_rd"
    refine q_fldK ho T.cl_Pool T.n_Pool_held rfl ?_
    refine q_sumK hP.d (rowK_vals _) ?_
    walk_at "my_rd"
    exact k
theorem ok_Pool_shares_of (T : Txt K mg) : FnOk P w K mg base CX0 1 T.f_Pool_shares_of T.d_Pool_shares_of ["self", "account"] (sp_poO T.C_Pool) := by
  refine T.F_Pool_shares_of.ok sc_Pool_shares_of (fun vs H Q E h => ?_) (fun cdv A outer s H vs Q E hr h => ?_)
  · obtain ⟨b, d, A, r, x, rfl, _⟩ := h; rfl
  · obtain ⟨b, d, A, r, x, rfl, hP, k⟩ := h
    obtain ⟨dx, ho⟩ := hP.o
    have hu := hu_of hr
    refine ⟨_, (pss_one (ps_ret (pe_dget2 hu (pe_fld (pv 0) rfl) (pv 1) pe_int ⟨rfl, rfl, rfl, rfl⟩))), ?_⟩
    (dsimp only [cxOf, Cx.nox, Cx.wish, L2.start, List.map, List.length, List.replicate, List.cons_append, List.nil_append, List.append_eq, Nat.reduceSub, Nat.reduceAdd])
    walk_at "my_rd"
    refine q_fldK ho T.cl_Pool T.n_Pool_held rfl ?_
    refine q_dG2a hP.d ?_
    walk_at "my_rd"
    refine q_dG2S hP.d ?_
    rw [rowK_get]
    walk_at "my_rd"
    exact k
theorem ok_Pool_deposit (T : Txt K mg) : FnOk P w K mg base (L2.CX P w) 2 T.f_Pool_deposit T.d_Pool_deposit ["self", "account", "amount"] (sp_poD T.C_Pool T.C_InvalidArgument) := by
  refine T.F_Pool_deposit.okX sc_Pool_deposit (fun vs H Q E h => ?_) (fun cdv A outer s H vs Q E hr h => ?_)
  · obtain ⟨b, d, A, r, x, i, rfl, _⟩ := h; rfl
  · obtain ⟨b, d, A, r, x, i, rfl, hP, g, ⟨hA, hi0, hi1⟩, hl, k1, k2, k3⟩ := h
    obtain ⟨dx, ho⟩ := hP.o
    have hu := hu_of hr
    have hn := hP.ne
    have hS0 := g.s0
    have hS1 : sumR r < 2 ^ 80 := Int.lt_of_le_of_lt g.ge hA
    refine ⟨_, (pss_cons (ps_if (pt_cmpR op_lt (pv 2) pe_int (nomark _)) (pss_one (ps_raise rfl (takes_of rfl rfl rfl rfl) (pmk_own PySem.F.excBase_ValueError T.xe_InvalidArgument T.g_InvalidArgument T.ke_InvalidArgument (raises_own T.be_InvalidArgument T.te_InvalidArgument) (by exact rfl)))) pss_nil)
      (pss_cons (ps_set (i := 3) sc_Pool_deposit.nd rfl (Or.inl rfl) (pe_meth0 (pv 0) T.cl_Pool T.m_Pool_shares (ok_Pool_shares T) (hr.mono (by decide)) T.b_Pool_shares .nil pass0))
      (pss_cons (ps_set (i := 4) sc_Pool_deposit.nd rfl (Or.inl rfl) (pe_ifExp (pt_cmpR op_gt (pv 3) pe_int (nomark _)) (pe_op op_fdivW (pe_op op_mulW (pv 2) (pv 3)) (pe_fld (pv 0) rfl)) (pv 2)))
      (pss_cons (ps_if (pt_cmpR op_lt (pv 4) pe_int (nomark _)) (pss_one (ps_raise rfl (takes_of rfl rfl rfl rfl) (pmk_own PySem.F.excBase_ValueError T.xe_InvalidArgument T.g_InvalidArgument T.ke_InvalidArgument (raises_own T.be_InvalidArgument T.te_InvalidArgument) (by exact rfl)))) pss_nil)
      (pss_cons (ps_fldaug (pv 0) (pv 2) in_add)
      (pss_cons (ps_dput hu (pe_fld (pv 0) rfl) (pv 1) (pe_op op_add (pe_meth (pv 0) T.cl_Pool T.m_Pool_shares_of (ok_Pool_shares_of T) (hr.mono (by decide)) T.b_Pool_shares_of .nil pass0 (pa_cons (pv 1) pa_nil)) (pv 4)) rfl)
      (pss_one (ps_ret (pv 4))))))))), ?_⟩
    (dsimp only [cxOf, Cx.nox, Cx.wish, L2.start, List.map, List.length, List.replicate, List.cons_append, List.nil_append, List.append_eq, Nat.reduceSub, Nat.reduceAdd])
    walk_at "my_rd"
    refine q_if2 (fun h => ?_) (fun h => ?_)
    · have h := dec_t h
      walk_at "my_rd"
      exact k1 h
    · have h := dec_f h
      walk_at "my_rd"
      refine q_methK ho (lk2 (by decide +kernel) (by decide +kernel)) fun R hR => ?_
      walk_at "my_rd"
      refine hR _ _ ⟨b, d, A, r, rfl, hP, ?_⟩
      walk_at "my_rd"
      have fin : ∀ c, c = cntP A r i → ∀ (D : Ends) (σ : L2.St) (n : Nat), True := fun _ _ _ _ _ => trivial
      refine q_ifE2 (fun h2 => ?_) (fun h2 => ?_)
      · have h2 := dec_t h2
        have ec : cntP A r i = i * sumR r / A := by unfold cntP; rw [if_pos h2]
        walk_at "my_rd"
        refine q_I (bdMul hi0 hi1 hS0 hS1) ?_
        walk_at "my_rd"
        refine q_fldK ho T.cl_Pool T.n_Pool_assets rfl ?_
        refine q_I (bdDiv (by have := g.ge; omega) hA) ?_
        walk_at "my_rd"
        rw [← ec]
        refine q_if2 (fun h3 => ?_) (fun h3 => ?_)
        · have h3 := dec_t h3
          walk_at "my_rd"
          exact k2 h h3
        · have h3 := dec_f h3
          walk_at "my_rd"
          refine q_faugK ho T.cl_Pool T.n_Pool_assets rfl ?_
          walk_at "my_rd"
          refine q_faugA ho (by show 2 < 1000; decide) ?_
          walk_at "my_rd"
          have hP2 : PoolAt T.C_Pool (upd H b (.ins T.C_Pool dx (putF "_assets" (.int (A + i)) [("_assets", .int A), ("_held", .ref d)]))) b d (A + i) r := ⟨⟨dx, upd_same⟩, upd_other hn.symm hP.d⟩
          generalize hH1 : upd H b (.ins T.C_Pool dx (putF "_assets" (.int (A + i)) [("_assets", .int A), ("_held", .ref d)])) = H1 at hP2
          have kq : Kq b d H H1 := hH1 ▸ Kq.up1 Kq.refl
          obtain ⟨dx1, ho1⟩ := hP2.o
          refine q_methK ho1 (lk2 (by decide +kernel) (by decide +kernel)) fun R hR => ?_
          walk_at "my_rd"
          refine hR _ _ ⟨b, d, _, r, x, rfl, hP2, ?_⟩
          walk_at "my_rd"
          refine q_fldK ho1 T.cl_Pool T.n_Pool_held rfl ?_
          walk_at "my_rd"
          refine q_dPutS hP2.d (by unfold rowK; rw [List.length_map]; exact small1000 (by omega)) ?_
          walk_at "my_rd"
          rw [rowK_put]
          exact k3 h h3 _ ⟨⟨dx1, upd_other hn ho1⟩, upd_same⟩ (Kq.up2 kq)
      · have h2 := dec_f h2
        have ec : cntP A r i = i := by unfold cntP; rw [if_neg h2]
        walk_at "my_rd"
        refine q_if2 (fun h3 => ?_) (fun h3 => ?_)
        · have h3 := dec_t h3
          exact absurd h3 h
        · walk_at "my_rd"
          refine q_faugK ho T.cl_Pool T.n_Pool_assets rfl ?_
          walk_at "my_rd"
          refine q_faugA ho (by show 2 < 1000; decide) ?_
          walk_at "my_rd"
          have hP2 : PoolAt T.C_Pool (upd H b (.ins T.C_Pool dx (putF "_assets" (.int (A + i)) [("_assets", .int A), ("_held", .ref d)]))) b d (A + i) r := ⟨⟨dx, upd_same⟩, upd_other hn.symm hP.d⟩
          generalize hH1 : upd H b (.ins T.C_Pool dx (putF "_assets" (.int (A + i)) [("_assets", .int A), ("_held", .ref d)])) = H1 at hP2
          have kq : Kq b d H H1 := hH1 ▸ Kq.up1 Kq.refl
          obtain ⟨dx1, ho1⟩ := hP2.o
          refine q_methK ho1 (lk2 (by decide +kernel) (by decide +kernel)) fun R hR => ?_
          walk_at "my_rd"
          refine hR _ _ ⟨b, d, _, r, x, rfl, hP2, ?_⟩
          walk_at "my_rd"
          refine q_fldK ho1 T.cl_Pool T.n_Pool_held rfl ?_
          walk_at "my_rd"
          refine q_dPutS hP2.d (by unfold rowK; rw [List.length_map]; exact small1000 (by omega)) ?_
          walk_at "my_rd"
          rw [rowK_put]
          have k3' := k3 h (by rw [ec]; exact h)
          rw [ec] at k3'
          exact k3' _ ⟨⟨dx1, upd_other hn ho1⟩, upd_same⟩ (Kq.up2 kq)
theorem ok_Pool_redeem (T : Txt K mg) : FnOk P w K mg base (L2.CX P w) 2 T.f_Pool_redeem T.d_Pool_redeem ["self", "account", "count"] (sp_poR T.C_Pool T.C_InvalidArgument T.C_NotEnoughBalance) := by
  refine T.F_Pool_redeem.okX sc_Pool_redeem (fun vs H Q E h => ?_) (fun cdv A outer s H vs Q E hr h => ?_)
  · obtain ⟨b, d, A, r, x, i, rfl, _⟩ := h; rfl
  · obtain ⟨b, d, A, r, x, i, rfl, hP, g, ⟨hA, hi0, hi1⟩, hl, k1, k2, k3⟩ := h
    obtain ⟨dx, ho⟩ := hP.o
    have hu := hu_of hr
    have hn := hP.ne
    have hS0 := g.s0
    have hS1 : sumR r < 2 ^ 80 := Int.lt_of_le_of_lt g.ge hA
    refine ⟨_, (pss_cons (ps_if (pt_cmpR op_lt (pv 2) pe_int (nomark _)) (pss_one (ps_raise rfl (takes_of rfl rfl rfl rfl) (pmk_own PySem.F.excBase_ValueError T.xe_InvalidArgument T.g_InvalidArgument T.ke_InvalidArgument (raises_own T.be_InvalidArgument T.te_InvalidArgument) (by exact rfl)))) pss_nil)
      (pss_cons (ps_if (pt_cmpR op_lt (pe_meth (pv 0) T.cl_Pool T.m_Pool_shares_of (ok_Pool_shares_of T) (hr.mono (by decide)) T.b_Pool_shares_of .nil pass0 (pa_cons (pv 1) pa_nil)) (pv 2) (nomark _)) (pss_one (ps_raise rfl (takes_of rfl rfl rfl rfl) (pmk_own PySem.F.excBase_ValueError T.xe_NotEnoughBalance T.g_NotEnoughBalance T.ke_NotEnoughBalance (raises_own T.be_NotEnoughBalance T.te_NotEnoughBalance) (by exact rfl)))) pss_nil)
      (pss_cons (ps_set (i := 3) sc_Pool_redeem.nd rfl (Or.inl rfl) (pe_op op_fdivW (pe_op op_mulW (pv 2) (pe_fld (pv 0) rfl)) (pe_meth0 (pv 0) T.cl_Pool T.m_Pool_shares (ok_Pool_shares T) (hr.mono (by decide)) T.b_Pool_shares .nil pass0)))
      (pss_cons (ps_fldaug (pv 0) (pv 3) in_sub)
      (pss_cons (ps_daug hu (pe_fld (pv 0) rfl) (pv 1) (pv 2) in_sub (fun _ _ _ => rfl))
      (pss_one (ps_ret (pv 3)))))))), ?_⟩
    (dsimp only [cxOf, Cx.nox, Cx.wish, L2.start, List.map, List.length, List.replicate, List.cons_append, List.nil_append, List.append_eq, Nat.reduceSub, Nat.reduceAdd])
    walk_at "my_rd"
    refine q_if2 (fun h => ?_) (fun h => ?_)
    · have h := dec_t h
      walk_at "my_rd"
      exact k1 h
    · have h := dec_f h
      walk_at "my_rd"
      refine q_methK ho (lk2 (by decide +kernel) (by decide +kernel)) fun R hR => ?_
      walk_at "my_rd"
      refine hR _ _ ⟨b, d, _, r, x, rfl, hP, ?_⟩
      walk_at "my_rd"
      refine q_if2 (fun h2 => ?_) (fun h2 => ?_)
      · have h2 := dec_t h2
        walk_at "my_rd"
        exact k2 h h2
      · have h2 := dec_f h2
        have hg := getRow_le g.nn x
        walk_at "my_rd"
        refine q_fldK ho T.cl_Pool T.n_Pool_assets rfl ?_
        refine q_I (bdMul hi0 hi1 g.a0 hA) ?_
        walk_at "my_rd"
        refine q_methK ho (lk2 (by decide +kernel) (by decide +kernel)) fun R hR => ?_
        walk_at "my_rd"
        refine hR _ _ ⟨b, d, _, r, rfl, hP, ?_⟩
        refine q_I (bdDiv (by omega) hS1) ?_
        walk_at "my_rd"
        refine q_faugK ho T.cl_Pool T.n_Pool_assets rfl ?_
        walk_at "my_rd"
        refine q_faugS ho (by show 2 < 1000; decide) ?_
        walk_at "my_rd"
        generalize hp : i * A / sumR r = p at k3
        have hP2 : PoolAt T.C_Pool (upd H b (.ins T.C_Pool dx (putF "_assets" (.int (A - p)) [("_assets", .int A), ("_held", .ref d)]))) b d (A - p) r := ⟨⟨dx, upd_same⟩, upd_other hn.symm hP.d⟩
        generalize hH1 : upd H b (.ins T.C_Pool dx (putF "_assets" (.int (A - p)) [("_assets", .int A), ("_held", .ref d)])) = H1 at hP2
        have kq : Kq b d H H1 := hH1 ▸ Kq.up1 Kq.refl
        obtain ⟨dx1, ho1⟩ := hP2.o
        refine q_fldK ho1 T.cl_Pool T.n_Pool_held rfl ?_
        walk_at "my_rd"
        refine q_daugK hP2.d (row_some (by omega)) ?_
        walk_at "my_rd"
        refine q_daugS hP2.d (by unfold rowK; rw [List.length_map]; exact small1000 (by omega)) ?_
        walk_at "my_rd"
        rw [rowK_put]
        exact k3 h h2 _ ⟨⟨dx1, upd_other hn ho1⟩, upd_same⟩ (Kq.up2 kq)
theorem ok_Pool_earn (T : Txt K mg) : FnOk P w K mg base (L2.CX P w) 2 T.f_Pool_earn T.d_Pool_earn ["self", "amount"] (sp_poE T.C_Pool T.C_InvalidArgument) := by
  refine T.F_Pool_earn.okX sc_Pool_earn (fun vs H Q E h => ?_) (fun cdv A outer s H vs Q E hr h => ?_)
  · obtain ⟨b, d, A, r, i, rfl, _⟩ := h; rfl
  · obtain ⟨b, d, A, r, i, rfl, hP, k1, k2, k3⟩ := h
    obtain ⟨dx, ho⟩ := hP.o
    have hu := hu_of hr
    have hn := hP.ne
    refine ⟨_, (pss_cons (ps_if (PW.pt (pw_or (pt_cmpR op_lt (pv 1) pe_int (nomark _)) (pw_or1 (pt_cmpR op_eq (pe_meth0 (pv 0) T.cl_Pool T.m_Pool_shares (ok_Pool_shares T) (hr.mono (by decide)) T.b_Pool_shares .nil pass0) pe_int (nomark _))))) (pss_one (ps_raise rfl (takes_of rfl rfl rfl rfl) (pmk_own PySem.F.excBase_ValueError T.xe_InvalidArgument T.g_InvalidArgument T.ke_InvalidArgument (raises_own T.be_InvalidArgument T.te_InvalidArgument) (by exact rfl)))) pss_nil)
      (pss_one (ps_fldaug (pv 0) (pv 1) in_add))), ?_⟩
    (dsimp only [cxOf, Cx.nox, Cx.wish, L2.start, List.map, List.length, List.replicate, List.cons_append, List.nil_append, List.append_eq, Nat.reduceSub, Nat.reduceAdd])
    walk_at "my_rd"
    refine q_or2 (fun h => ?_) (fun h => ?_)
    · have h := dec_t h
      walk_at "my_rd"
      exact k1 h
    · have h := dec_f h
      walk_at "my_rd"
      refine q_methK ho (lk2 (by decide +kernel) (by decide +kernel)) fun R hR => ?_
      walk_at "my_rd"
      refine hR _ _ ⟨b, d, _, r, rfl, hP, ?_⟩
      walk_at "my_rd"
      refine q_if2 (fun h2 => ?_) (fun h2 => ?_)
      · have h2 := dec_t h2
        walk_at "my_rd"
        exact k2 h h2
      · have h2 := dec_f h2
        walk_at "my_rd"
        refine q_faugK ho T.cl_Pool T.n_Pool_assets rfl ?_
        walk_at "my_rd"
        refine q_faugA ho (by show 2 < 1000; decide) ?_
        walk_at "my_rd"
        exact k3 h h2 _ ⟨⟨dx, upd_same⟩, upd_other hn.symm hP.d⟩ (Kq.up1 Kq.refl)
end

local macro_rules | `(tactic| walk_at "my_rd") => `(tactic| (repeat first
  | with_reducible refine q_tCons ?_
  | ((with_reducible apply q_var); (focus (exact rfl)))
  | with_reducible refine q_c ?_
  | with_reducible refine q_nx ?_
  | with_reducible refine q_bK ?_
  | with_reducible refine q_call ?_
  | with_reducible refine q_callK ?_
  | with_reducible refine q_tNil ?_
  | with_reducible refine q_cb ?_
  | with_reducible refine q_seq ?_
  | with_reducible refine q_asg ?_
  | with_reducible refine q_gName ?_
  | with_reducible refine q_op ?_
  | with_reducible refine q_test ?_
  | with_reducible refine q_tB ?_
  | with_reducible refine q_ifS ?_
  | with_reducible refine q_ret ?_
  | with_reducible refine q_rt ?_
  | with_reducible refine q_next ?_
  | with_reducible refine q_ifF ?_
  | with_reducible refine q_ifT ?_
  | with_reducible refine q_drop ?_
  | with_reducible refine q_and ?_
  | with_reducible refine q_or ?_
  | with_reducible refine q_andT ?_
  | with_reducible refine q_andF ?_
  | with_reducible refine q_orF ?_
  | with_reducible refine q_orT ?_
  | with_reducible refine q_andV ?_
  | with_reducible refine q_andVT ?_
  | with_reducible refine q_andVF ?_
  | with_reducible refine q_orV ?_
  | with_reducible refine q_gCons ?_
  | with_reducible refine q_gNil ?_
  | with_reducible refine q_tup ?_
  | with_reducible refine q_lst ?_
  | with_reducible refine q_not ?_
  | with_reducible refine q_notKT ?_
  | with_reducible refine q_notKF ?_
  | with_reducible refine q_I0 ?_
  | with_reducible refine q_eqI ?_
  | with_reducible refine q_neI ?_
  | ((with_reducible refine q_I ?_ ?_); first | decide | omega | exact ⟨by omega, by omega⟩ | exact ⟨by decide, by decide⟩ | exact .inl ⟨by omega, by omega⟩ | exact .inr ⟨by omega, by omega⟩ | exact .inr ⟨by decide, by decide⟩)
  | with_reducible refine q_eqS ?_
  | with_reducible refine q_neS ?_
  | with_reducible refine q_brk ?_
  | with_reducible refine q_ct ?_
  | with_reducible refine q_bk ?_
  | with_reducible refine q_cn ?_
  | with_reducible refine q_retN ?_
  | with_reducible refine q_gSub ?_
  | with_reducible refine q_for ?_
  | with_reducible refine q_iList ?_
  | with_reducible refine q_iTup ?_
  | with_reducible refine q_iRng1 ?_
  | with_reducible refine q_notK ?_
  | with_reducible refine q_orVT ?_
  | with_reducible refine q_orVF ?_
  | with_reducible refine q_notV ?_
  | with_reducible refine q_notVK ?_
  | with_reducible refine q_ifE ?_
  | with_reducible refine q_ifET ?_
  | with_reducible refine q_ifEF ?_
  | with_reducible refine q_yes ?_
  | with_reducible refine q_un ?_
  | with_reducible refine q_rU ?_
  | with_reducible refine q_abs ?_
  | with_reducible refine q_int1 ?_
  | with_reducible refine q_bm ?_
  | with_reducible refine q_bm0 ?_
  | with_reducible refine q_lc ?_
  | with_reducible refine q_keepT ?_
  | with_reducible refine q_keepF ?_
  | ((with_reducible apply q_aug); (focus (exact rfl)))
  | with_reducible refine q_ipI ?_
  | with_reducible refine q_chain ?_
  | with_reducible refine q_pairC ?_
  | with_reducible refine q_pairsK ?_
  | with_reducible refine q_pairN ?_
  | with_reducible refine q_fld ?_
  | with_reducible refine q_sFld ?_
  | with_reducible refine q_meth ?_
  | with_reducible refine q_makeK ?_
  | with_reducible refine q_isBl ?_
  | with_reducible refine q_notBl ?_
  | with_reducible refine q_sl ?_
  | with_reducible refine q_noPart ?_
  | with_reducible refine q_part ?_
  | with_reducible refine q_partK ?_
  | ((with_reducible apply q_mulStr); (focus (decide +kernel)))
  | with_reducible refine q_chT ?_
  | with_reducible refine q_chF ?_
  | with_reducible refine q_ord ?_
  | with_reducible refine q_iStr0 ?_
  | with_reducible refine q_iStr ?_
  | with_reducible refine q_tDIn ?_
  | with_reducible refine q_tDNotIn ?_
  | with_reducible refine q_tDGet ?_
  | with_reducible refine q_tDGet2 ?_
  | with_reducible refine q_tDGet1 ?_
  | with_reducible refine q_tDSetd ?_
  | ((with_reducible apply q_dG2a); (focus ((repeat first | (with_reducible exact upd_same) | (with_reducible assumption) | (with_reducible apply upd_new (by assumption)) | (with_reducible apply upd_other (by first | assumption | exact Ne.symm (by assumption))) | (with_reducible refine' Kp.get (by assumption) ?_ (by first | assumption | exact Ne.symm (by assumption))) | (with_reducible apply Same.get (by assumption))); done)))
  | ((with_reducible apply q_dSda); (focus ((repeat first | (with_reducible exact upd_same) | (with_reducible assumption) | (with_reducible apply upd_new (by assumption)) | (with_reducible apply upd_other (by first | assumption | exact Ne.symm (by assumption))) | (with_reducible refine' Kp.get (by assumption) ?_ (by first | assumption | exact Ne.symm (by assumption))) | (with_reducible apply Same.get (by assumption))); done)))
  | with_reducible refine q_sDPut ?_
  | ((with_reducible apply q_dInS); (focus ((repeat first | (with_reducible exact upd_same) | (with_reducible assumption) | (with_reducible apply upd_new (by assumption)) | (with_reducible apply upd_other (by first | assumption | exact Ne.symm (by assumption))) | (with_reducible refine' Kp.get (by assumption) ?_ (by first | assumption | exact Ne.symm (by assumption))) | (with_reducible apply Same.get (by assumption))); done)))
  | ((with_reducible apply q_dNInS); (focus ((repeat first | (with_reducible exact upd_same) | (with_reducible assumption) | (with_reducible apply upd_new (by assumption)) | (with_reducible apply upd_other (by first | assumption | exact Ne.symm (by assumption))) | (with_reducible refine' Kp.get (by assumption) ?_ (by first | assumption | exact Ne.symm (by assumption))) | (with_reducible apply Same.get (by assumption))); done)))
  | ((with_reducible apply q_dInI); (focus ((repeat first | (with_reducible exact upd_same) | (with_reducible assumption) | (with_reducible apply upd_new (by assumption)) | (with_reducible apply upd_other (by first | assumption | exact Ne.symm (by assumption))) | (with_reducible refine' Kp.get (by assumption) ?_ (by first | assumption | exact Ne.symm (by assumption))) | (with_reducible apply Same.get (by assumption))); done)))
  | ((with_reducible apply q_dNInI); (focus ((repeat first | (with_reducible exact upd_same) | (with_reducible assumption) | (with_reducible apply upd_new (by assumption)) | (with_reducible apply upd_other (by first | assumption | exact Ne.symm (by assumption))) | (with_reducible refine' Kp.get (by assumption) ?_ (by first | assumption | exact Ne.symm (by assumption))) | (with_reducible apply Same.get (by assumption))); done)))
  | ((with_reducible apply q_bmL); (focus ((repeat first | (with_reducible exact upd_same) | (with_reducible assumption) | (with_reducible apply upd_new (by assumption)) | (with_reducible apply upd_other (by first | assumption | exact Ne.symm (by assumption))) | (with_reducible refine' Kp.get (by assumption) ?_ (by first | assumption | exact Ne.symm (by assumption))) | (with_reducible apply Same.get (by assumption))); done)))
  | ((with_reducible apply q_bmL0); (focus ((repeat first | (with_reducible exact upd_same) | (with_reducible assumption) | (with_reducible apply upd_new (by assumption)) | (with_reducible apply upd_other (by first | assumption | exact Ne.symm (by assumption))) | (with_reducible refine' Kp.get (by assumption) ?_ (by first | assumption | exact Ne.symm (by assumption))) | (with_reducible apply Same.get (by assumption))); done)))
  | ((with_reducible apply q_ixLt); (focus ((repeat first | (with_reducible exact upd_same) | (with_reducible assumption) | (with_reducible apply upd_new (by assumption)) | (with_reducible apply upd_other (by first | assumption | exact Ne.symm (by assumption))) | (with_reducible refine' Kp.get (by assumption) ?_ (by first | assumption | exact Ne.symm (by assumption))) | (with_reducible apply Same.get (by assumption))); done)); (focus (exact rfl)))
  | ((with_reducible apply q_ixTt); (focus ((repeat first | (with_reducible exact upd_same) | (with_reducible assumption) | (with_reducible apply upd_new (by assumption)) | (with_reducible apply upd_other (by first | assumption | exact Ne.symm (by assumption))) | (with_reducible refine' Kp.get (by assumption) ?_ (by first | assumption | exact Ne.symm (by assumption))) | (with_reducible apply Same.get (by assumption))); done)); (focus (exact rfl)))
  | ((with_reducible apply q_lenLt); (focus ((repeat first | (with_reducible exact upd_same) | (with_reducible assumption) | (with_reducible apply upd_new (by assumption)) | (with_reducible apply upd_other (by first | assumption | exact Ne.symm (by assumption))) | (with_reducible refine' Kp.get (by assumption) ?_ (by first | assumption | exact Ne.symm (by assumption))) | (with_reducible apply Same.get (by assumption))); done)))
  | ((with_reducible apply q_lenTt); (focus ((repeat first | (with_reducible exact upd_same) | (with_reducible assumption) | (with_reducible apply upd_new (by assumption)) | (with_reducible apply upd_other (by first | assumption | exact Ne.symm (by assumption))) | (with_reducible refine' Kp.get (by assumption) ?_ (by first | assumption | exact Ne.symm (by assumption))) | (with_reducible apply Same.get (by assumption))); done)))
  | ((with_reducible apply q_append); (focus ((repeat first | (with_reducible exact upd_same) | (with_reducible assumption) | (with_reducible apply upd_new (by assumption)) | (with_reducible apply upd_other (by first | assumption | exact Ne.symm (by assumption))) | (with_reducible refine' Kp.get (by assumption) ?_ (by first | assumption | exact Ne.symm (by assumption))) | (with_reducible apply Same.get (by assumption))); done)); (focus ((first | (exact Nat.lt_of_ble_eq_true rfl) | (simp only [List.length_append, List.length_cons, List.length_nil, List.length_map]; exact small1000 (by omega))))))
  | ((with_reducible apply q_setL); (focus ((repeat first | (with_reducible exact upd_same) | (with_reducible assumption) | (with_reducible apply upd_new (by assumption)) | (with_reducible apply upd_other (by first | assumption | exact Ne.symm (by assumption))) | (with_reducible refine' Kp.get (by assumption) ?_ (by first | assumption | exact Ne.symm (by assumption))) | (with_reducible apply Same.get (by assumption))); done)); (focus (exact rfl)))
  | with_reducible refine q_ifNT ?_
  | with_reducible refine q_ifNF ?_
  | with_reducible refine q_andNT ?_
  | with_reducible refine q_andNF ?_
  | with_reducible refine q_orNT ?_
  | with_reducible refine q_orNF ?_
  | with_reducible refine q_bKNT ?_
  | with_reducible refine q_bKNF ?_
  | with_reducible refine q_tNGet ?_
  | with_reducible refine q_tNIn ?_
  | with_reducible refine q_sNPut ?_
  | with_reducible refine q_sFldAug ?_
  | with_reducible refine q_sDAug ?_))
/-! the law's own comparison: plain values, and lists of them -/
def scV : V → Bool
  | .non => true
  | .bl _ => true
  | .int _ => true
  | .str _ => true
  | _ => false
theorem scV_ty {K : PySem.W.Frag} {H : Hp} {x : V} (h : scV x = true) : (x = .non ∧ TyX K H x (.type "NoneType")) ∨ (∃ b, x = .bl b ∧ TyX K H x (.type "bool")) ∨ (∃ i, x = .int i ∧ TyX K H x (.type "int")) ∨ (∃ s, x = .str s ∧ TyX K H x (.type "str")) := by
  cases x with
  | non => exact .inl ⟨rfl, .base .non⟩
  | bl b => exact .inr (.inl ⟨b, rfl, .base (.bl b)⟩)
  | int i => exact .inr (.inr (.inl ⟨i, rfl, .base (.int i)⟩))
  | str s => exact .inr (.inr (.inr ⟨s, rfl, .base (.str s)⟩))
  | byt => cases h
  | flt => cases h
  | ref => cases h
  | ty => cases h
theorem q_is {K : PySem.W.Frag} {H : Hp} {Q : VK} {x : V} {t : String} {n : String} {b : Bool} (ht : TyX K H x (.type t)) (hk : kitB t n = some b) (k : Q (.bl b) H) : rIsi K [x, .ty n] H Q := q_isi ht (kit_ty hk) k
def sp_isint (K : PySem.W.Frag) : Sp := fun vs H Q _ => ∃ x : V, vs = [x] ∧ scV x = true ∧ Q (.bl (match x with | .int _ => true | _ => false)) H
section
variable {P : Program} {w : World} {K : PySem.W.Frag} {mg : Str → Option Value} {base : Heap}
theorem ok_L_is_int (T : Txt K mg) : FnOk P w K mg base CX0 1 T.f_L_is_int T.d_L_is_int ["value"] (sp_isint K) := by
  refine T.F_L_is_int.ok sc_L_is_int (fun vs H Q E h => ?_) (fun cdv A outer s H vs Q E hr h => ?_)
  · obtain ⟨x, rfl, _⟩ := h; rfl
  · obtain ⟨x, rfl, hx, k⟩ := h
    refine ⟨_, (pss_one (ps_ret (pe_and (pe_callB call_isi (by rfl) T.z_isinstance boot_isinstance (pa_cons (pv 0) (pa_cons (pe_bltn (v := .ty "int") (by rfl) T.z_int boot_int rfl) pa_nil))) (pe_one (pe_not (pe_callB call_isi (by rfl) T.z_isinstance boot_isinstance (pa_cons (pv 0) (pa_cons (pe_bltn (v := .ty "bool") (by rfl) T.z_bool boot_bool rfl) pa_nil)))))))), ?_⟩
    (dsimp only [cxOf, Cx.nox, Cx.wish, L2.start, List.map, List.length, List.replicate, List.cons_append, List.nil_append, List.append_eq, Nat.reduceSub, Nat.reduceAdd])
    walk_at "my_rd"
    rcases scV_ty (K := K) (H := H) hx with ⟨rfl, ht⟩ | ⟨b, rfl, ht⟩ | ⟨i, rfl, ht⟩ | ⟨z, rfl, ht⟩
    · refine q_is ht (b := false) (by decide +kernel) ?_
      walk_at "my_rd"
      exact k
    · refine q_is ht (b := true) (by decide +kernel) ?_
      walk_at "my_rd"
      refine q_is ht (b := true) (by decide +kernel) ?_
      walk_at "my_rd"
      exact k
    · refine q_is ht (b := true) (by decide +kernel) ?_
      walk_at "my_rd"
      refine q_is ht (b := false) (by decide +kernel) ?_
      walk_at "my_rd"
      exact k
    · refine q_is ht (b := false) (by decide +kernel) ?_
      walk_at "my_rd"
      exact k
end

/-! the law's own calls -/
theorem dueP_int {kd : Int} {x : Str} {i A : Int} {r : Row} : scV (dueP kd x i A r).1 = true ∧ scal (dueP kd x i A r).1 (dueP kd x i A r).1 = true := by
  unfold dueP
  repeat' split
  all_goals exact ⟨rfl, rfl⟩
def sp_do (C : Addr) : Sp := fun vs H Q _ => ∃ (b d : Addr) (A : Int) (r : Row) (kd : Int) (x : Str) (i : Int), vs = [.ref b, .int kd, .str x, .int i] ∧ PoolAt C H b d A r ∧ Good A r ∧ Bd A i ∧ r.length < 1000 ∧
  ∀ H', PoolAt C H' b d (dueP kd x i A r).2.1 (dueP kd x i A r).2.2 → Kq b d H H' → Q (dueP kd x i A r).1 H'
structure BookAt (H : Hp) (k e : Addr) (A : Int) (r : Row) : Prop where
  k : H k = some (.lst [.int A, .ref e])
  e : H e = some (.dK (rowK r))
theorem BookAt.ne {H : Hp} {k e : Addr} {A : Int} {r : Row} (h : BookAt H k e A r) : k ≠ e := ne_of h.k h.e (by intro z; cases z)
theorem BookAt.same {H H' : Hp} {k e : Addr} {A : Int} {r : Row} (h : BookAt H k e A r) (s : Same H H') : BookAt H' k e A r := ⟨s _ _ h.k, s _ _ h.e⟩
theorem BookAt.kq {H H' : Hp} {k e p q : Addr} {A : Int} {r : Row} (h : BookAt H k e A r) (s : Kq p q H H') (n1 : k ≠ p) (n2 : k ≠ q) (n3 : e ≠ p) (n4 : e ≠ q) : BookAt H' k e A r := ⟨s _ _ h.k n1 n2, s _ _ h.e n3 n4⟩
def sp_due : Sp := fun vs H Q _ => ∃ (k e : Addr) (A : Int) (r : Row) (kd : Int) (x : Str) (i : Int), vs = [.ref k, .int kd, .str x, .int i] ∧ BookAt H k e A r ∧ Good A r ∧ Bd A i ∧ r.length < 1000 ∧
  ∀ H', BookAt H' k e (dueP kd x i A r).2.1 (dueP kd x i A r).2.2 → Kq k e H H' → Q (dueP kd x i A r).1 H'
theorem rowK_item {r : Row} {n : Nat} {k : Key} {v : V} (h : (rowK r)[n]? = some (k, v)) : ∃ p, r[n]? = some p ∧ k = Sum.inr p.1 ∧ v = .int p.2 := by
  unfold rowK at h
  rw [List.getElem?_map] at h
  obtain ⟨p, hp, e⟩ := Option.map_eq_some_iff.mp h
  injection e with e1 e2
  exact ⟨p, hp, e1.symm, e2.symm⟩
theorem getRow_at {r : Row} {n : Nat} {p : Str × Int} (hn : (r.map (·.1)).Nodup) (h : r[n]? = some p) : getRow r p.1 = p.2 := by
  induction r generalizing n with
  | nil => simp at h
  | cons q r ih =>
    rw [List.map_cons, List.nodup_cons] at hn
    rw [getRow_cons]
    cases n with
    | zero =>
      have e : q = p := Option.some.inj h
      rw [if_pos (by rw [e]), e]
    | succ n =>
      have h' : r[n]? = some p := h
      rw [if_neg (fun e : q.1 = p.1 => hn.1 (by rw [e]; exact List.mem_map.mpr ⟨p, List.mem_of_getElem? h', rfl⟩)), ih hn.2 h']
theorem row_at {r : Row} {n : Nat} {p : Str × Int} (hn : (r.map (·.1)).Nodup) (h : r[n]? = some p) : valV (rowK r) (Sum.inr p.1) = some (.int p.2) := by
  rw [rowK_val]
  have e := getRow_at hn h
  unfold getRow at e
  cases q : (r.find? fun z => decide (z.1 = p.1)).map (·.2) with
  | none =>
    rw [Option.map_eq_none_iff, List.find?_eq_none] at q
    exact absurd (decide_eq_true rfl) (q p (List.mem_of_getElem? h))
  | some v =>
    rw [q] at e
    have e2 : v = p.2 := e
    rw [e2]; rfl
/-- [d[name] for name in d], summed -/
theorem take_snoc' {α : Type} {xs : List α} {i : Nat} {x : α} (h : xs[i]? = some x) : xs.take (i + 1) = xs.take i ++ [x] := by
  rw [List.take_add_one, h]; rfl
section
variable {P : Program} {w : World} {K : PySem.W.Frag} {mg : Str → Option Value} {base : Heap}
theorem ok_L_do (T : Txt K mg) : FnOk P w K mg base CX0 3 T.f_L_do T.d_L_do ["pool", "kind", "account", "amount"] (sp_do T.C_Pool) := by
  refine T.F_L_do.ok sc_L_do (fun vs H Q E h => ?_) (fun cdv A outer s H vs Q E hr h => ?_)
  · obtain ⟨b, d, A, r, kd, x, i, rfl, _⟩ := h; rfl
  · obtain ⟨b, d, A, r, kd, x, i, rfl, hP, g, hB, hl, k⟩ := h
    obtain ⟨dx, ho⟩ := hP.o
    refine ⟨_, (pss_one (ps_try_as (i := 4) rfl rfl sc_L_do.nd rfl rfl ⟨rfl, by decide, .inl T.g_BridgeError⟩ takes0 (fun W pn xe tk _ => (pss_cons (ps_if (pt_cmpR op_eq (pv 1) pe_int (nomark _)) (pss_one (ps_ret (pe_methA (pv 0) T.cl_Pool T.m_Pool_deposit (ok_Pool_deposit (P := P) (w := w) T) (hr.mono (by decide)) T.b_Pool_deposit (fun σ => passAt tk σ) (pa_cons (pv 2) (pa_cons (pv 3) pa_nil))))) pss_nil)
      (pss_cons (ps_if (pt_cmpR op_eq (pv 1) pe_int (nomark _)) (pss_one (ps_ret (pe_methA (pv 0) T.cl_Pool T.m_Pool_redeem (ok_Pool_redeem (P := P) (w := w) T) (hr.mono (by decide)) T.b_Pool_redeem (fun σ => passAt tk σ) (pa_cons (pv 2) (pa_cons (pv 3) pa_nil))))) pss_nil)
      (pss_one (ps_ret (pe_methA (pv 0) T.cl_Pool T.m_Pool_earn (ok_Pool_earn (P := P) (w := w) T) (hr.mono (by decide)) T.b_Pool_earn (fun σ => passAt tk σ) (pa_cons (pv 3) pa_nil)))))))
      (fun a oe cls d pn hz hf => (pss_cls2 (C := T.C_InvalidArgument) (C2 := T.C_NotEnoughBalance) hz (fun hz => (pss_one (ps_ret (pe_op oq_addStr (pe_op oq_addStr (pe_op oq_mulStr01 pe_str (pe_callTy cq_int1 (by rfl) T.z_int boot_int (pa_cons (pe_callB (call_isE (T.ec_InvalidArgument) hz hf) (by rfl) T.z_isinstance boot_isinstance (pa_cons (pv 4) (pa_cons (pe_glob (v := .ref T.C_InvalidArgument) (by rfl) T.g_InvalidArgument rfl) pa_nil))) pa_nil))) (pe_op oq_mulStr01 pe_str (pe_callTy cq_int1 (by rfl) T.z_int boot_int (pa_cons (pe_callB (call_isE (T.ec_InvalidArgument) hz hf) (by rfl) T.z_isinstance boot_isinstance (pa_cons (pv 4) (pa_cons (pe_glob (v := .ref T.C_NotEnoughBalance) (by rfl) T.g_NotEnoughBalance rfl) pa_nil))) pa_nil)))) pe_str)))) (fun hz => (pss_one (ps_ret (pe_op oq_addStr (pe_op oq_addStr (pe_op oq_mulStr01 pe_str (pe_callTy cq_int1 (by rfl) T.z_int boot_int (pa_cons (pe_callB (call_isE (T.ec_NotEnoughBalance) hz hf) (by rfl) T.z_isinstance boot_isinstance (pa_cons (pv 4) (pa_cons (pe_glob (v := .ref T.C_InvalidArgument) (by rfl) T.g_InvalidArgument rfl) pa_nil))) pa_nil))) (pe_op oq_mulStr01 pe_str (pe_callTy cq_int1 (by rfl) T.z_int boot_int (pa_cons (pe_callB (call_isE (T.ec_NotEnoughBalance) hz hf) (by rfl) T.z_isinstance boot_isinstance (pa_cons (pv 4) (pa_cons (pe_glob (v := .ref T.C_NotEnoughBalance) (by rfl) T.g_NotEnoughBalance rfl) pa_nil))) pa_nil)))) pe_str)))))))), ?_⟩
    (dsimp only [cxOf, Cx.nox, Cx.wish, L2.start, List.map, List.length, List.replicate, List.cons_append, List.nil_append, List.append_eq, Nat.reduceSub, Nat.reduceAdd])
    walk_at "my_rd"
    refine q_if2 (fun h => ?_) (fun h => ?_)
    · have h := dec_t h
      subst h
      walk_at "my_rd"
      refine q_methA ?_
      walk_at "my_rd"
      refine q_methAK ho (lk2 (by decide +kernel) (by decide +kernel)) ?_
      walk_at "my_rd"
      refine ⟨b, d, A, r, x, i, rfl, hP, g, hB, hl, fun hi => ⟨true, T.ex_InvalidArgument, fun _ a ha => .inl ⟨⟨rfl, rfl⟩, ?_⟩, fun q => nomatch q⟩, fun hi hc => ⟨true, T.ex_InvalidArgument, fun _ a ha => .inl ⟨⟨rfl, rfl⟩, ?_⟩, fun q => nomatch q⟩, fun hi hc H1 hP1 kq => ?_⟩
      · walk_at "my_rd"
        refine q_isE T.hi_InvalidArgument ?_
        walk_at "my_rd"
        refine q_int1t ?_
        refine q_mul1 ?_
        walk_at "my_rd"
        refine q_isE T.hq_InvalidArgument_NotEnoughBalance ?_
        walk_at "my_rd"
        refine q_int1f ?_
        refine q_mul0 ?_
        refine q_addStr ?_ ?_
        focus (decide +kernel)
        walk_at "my_rd"
        refine q_addStr ?_ ?_
        focus (decide +kernel)
        walk_at "my_rd"
        have e : dueP 0 x i A r = (.str "argument!", A, r) := by unfold dueP; rw [if_pos hi]
        rw [e] at k
        exact k _ hP Kq.refl
      · walk_at "my_rd"
        refine q_isE T.hi_InvalidArgument ?_
        walk_at "my_rd"
        refine q_int1t ?_
        refine q_mul1 ?_
        walk_at "my_rd"
        refine q_isE T.hq_InvalidArgument_NotEnoughBalance ?_
        walk_at "my_rd"
        refine q_int1f ?_
        refine q_mul0 ?_
        refine q_addStr ?_ ?_
        focus (decide +kernel)
        walk_at "my_rd"
        refine q_addStr ?_ ?_
        focus (decide +kernel)
        walk_at "my_rd"
        have e : dueP 0 x i A r = (.str "argument!", A, r) := by unfold dueP; rw [if_neg hi, if_pos rfl, if_pos hc]
        rw [e] at k
        exact k _ hP Kq.refl
      · walk_at "my_rd"
        have e : dueP 0 x i A r = (.int (cntP A r i), A + i, putRow r x (getRow r x + cntP A r i)) := by unfold dueP; rw [if_neg hi, if_pos rfl, if_neg hc]
        rw [e] at k
        exact k _ hP1 kq
    · have h := dec_f h
      walk_at "my_rd"
      refine q_if2 (fun h1 => ?_) (fun h1 => ?_)
      · have h1 := dec_t h1
        subst h1
        walk_at "my_rd"
        refine q_methA ?_
        walk_at "my_rd"
        refine q_methAK ho (lk2 (by decide +kernel) (by decide +kernel)) ?_
        walk_at "my_rd"
        refine ⟨b, d, A, r, x, i, rfl, hP, g, hB, hl, fun hi => ⟨true, T.ex_InvalidArgument, fun _ a ha => .inl ⟨⟨rfl, rfl⟩, ?_⟩, fun q => nomatch q⟩, fun hi hc => ⟨true, T.ex_NotEnoughBalance, fun _ a ha => .inr ⟨⟨rfl, rfl⟩, ?_⟩, fun q => nomatch q⟩, fun hi hc H1 hP1 kq => ?_⟩
        · walk_at "my_rd"
          refine q_isE T.hi_InvalidArgument ?_
          walk_at "my_rd"
          refine q_int1t ?_
          refine q_mul1 ?_
          walk_at "my_rd"
          refine q_isE T.hq_InvalidArgument_NotEnoughBalance ?_
          walk_at "my_rd"
          refine q_int1f ?_
          refine q_mul0 ?_
          refine q_addStr ?_ ?_
          focus (decide +kernel)
          walk_at "my_rd"
          refine q_addStr ?_ ?_
          focus (decide +kernel)
          walk_at "my_rd"
          have e : dueP 1 x i A r = (.str "argument!", A, r) := by unfold dueP; rw [if_pos hi]
          rw [e] at k
          exact k _ hP Kq.refl
        · walk_at "my_rd"
          refine q_isE T.hq_NotEnoughBalance_InvalidArgument ?_
          walk_at "my_rd"
          refine q_int1f ?_
          refine q_mul0 ?_
          walk_at "my_rd"
          refine q_isE T.hi_NotEnoughBalance ?_
          walk_at "my_rd"
          refine q_int1t ?_
          refine q_mul1 ?_
          refine q_addStr ?_ ?_
          focus (decide +kernel)
          walk_at "my_rd"
          refine q_addStr ?_ ?_
          focus (decide +kernel)
          walk_at "my_rd"
          have e : dueP 1 x i A r = (.str "balance!", A, r) := by unfold dueP; rw [if_neg hi, if_neg (by decide), if_pos rfl, if_pos hc]
          rw [e] at k
          exact k _ hP Kq.refl
        · walk_at "my_rd"
          have e : dueP 1 x i A r = (.int (i * A / sumR r), A - i * A / sumR r, putRow r x (getRow r x - i)) := by unfold dueP; rw [if_neg hi, if_neg (by decide), if_pos rfl, if_neg hc]
          rw [e] at k
          exact k _ hP1 kq
      · have h1 := dec_f h1
        walk_at "my_rd"
        refine q_methA ?_
        walk_at "my_rd"
        refine q_methAK ho (lk2 (by decide +kernel) (by decide +kernel)) ?_
        walk_at "my_rd"
        refine ⟨b, d, A, r, i, rfl, hP, fun hi => ⟨true, T.ex_InvalidArgument, fun _ a ha => .inl ⟨⟨rfl, rfl⟩, ?_⟩, fun q => nomatch q⟩, fun hi hc => ⟨true, T.ex_InvalidArgument, fun _ a ha => .inl ⟨⟨rfl, rfl⟩, ?_⟩, fun q => nomatch q⟩, fun hi hc H1 hP1 kq => ?_⟩
        · walk_at "my_rd"
          refine q_isE T.hi_InvalidArgument ?_
          walk_at "my_rd"
          refine q_int1t ?_
          refine q_mul1 ?_
          walk_at "my_rd"
          refine q_isE T.hq_InvalidArgument_NotEnoughBalance ?_
          walk_at "my_rd"
          refine q_int1f ?_
          refine q_mul0 ?_
          refine q_addStr ?_ ?_
          focus (decide +kernel)
          walk_at "my_rd"
          refine q_addStr ?_ ?_
          focus (decide +kernel)
          walk_at "my_rd"
          have e : dueP kd x i A r = (.str "argument!", A, r) := by unfold dueP; rw [if_pos hi]
          rw [e] at k
          exact k _ hP Kq.refl
        · walk_at "my_rd"
          refine q_isE T.hi_InvalidArgument ?_
          walk_at "my_rd"
          refine q_int1t ?_
          refine q_mul1 ?_
          walk_at "my_rd"
          refine q_isE T.hq_InvalidArgument_NotEnoughBalance ?_
          walk_at "my_rd"
          refine q_int1f ?_
          refine q_mul0 ?_
          refine q_addStr ?_ ?_
          focus (decide +kernel)
          walk_at "my_rd"
          refine q_addStr ?_ ?_
          focus (decide +kernel)
          walk_at "my_rd"
          have e : dueP kd x i A r = (.str "argument!", A, r) := by unfold dueP; rw [if_neg hi, if_neg h, if_neg h1, if_pos hc]
          rw [e] at k
          exact k _ hP Kq.refl
        · walk_at "my_rd"
          have e : dueP kd x i A r = (.non, A + i, r) := by unfold dueP; rw [if_neg hi, if_neg h, if_neg h1, if_neg hc]
          rw [e] at k
          exact k _ hP1 kq
theorem ok_L_due (T : Txt K mg) : FnOk P w K mg base CX0 1 T.f_L_due T.d_L_due ["book", "kind", "account", "amount"] sp_due := by
  refine T.F_L_due.ok sc_L_due (fun vs H Q E h => ?_) (fun cdv A outer s H vs Q E hr h => ?_)
  · obtain ⟨k, e, A, r, kd, x, i, rfl, _⟩ := h; rfl
  · obtain ⟨b, d, A, r, kd, x, i, rfl, hK, g, ⟨hA, hi0, hi1⟩, hl, k⟩ := h
    have hu := hu_of hr
    have hn := hK.ne
    have hS0 := g.s0
    have hS1 : sumR r < 2 ^ 80 := Int.lt_of_le_of_lt g.ge hA
    have hk0 := hK.k
    have hd0 := hK.e
    refine ⟨_, (pss_cons (ps_asg (pv 0) (pg_unl rfl (pgs_cons (pg_name (i := 5) sc_L_due.nd rfl (Or.inl rfl)) (pgs_cons (pg_name (i := 6) sc_L_due.nd rfl (Or.inr rfl)) pgs_nil))))
      (pss_cons (ps_set (i := 4) sc_L_due.nd rfl (Or.inl rfl) (pe_callB (cr_sum rfl) (by rfl) T.z_sum boot_sum (pa_cons (pe_lock (pe_lc (own := [("name", 9)]) (g := (gName 9)) (tt := tYes) (te := (tDGet (tVar 6) (tVar 9))) rfl sc_L_due.nd (pi_keys (pv 6)) (blkOk_by (own := [("name", 9)]) (N := ["book", "kind", "account", "amount", "whole", "assets", "held", "count", "paid", "name"]) (sc := defScope s_L_due) (by decide +kernel)) (fun _ _ _ _ _ => (pg_name (i := 9) sc_L_due.nd rfl (Or.inl rfl))) (fun _ _ _ _ _ => pts_nil) (fun _ _ _ _ _ => (pe_dget hu (pv 6) (pv 9) (fun _ _ => rfl))))) pa_nil)))
      (pss_cons (ps_if (pt_cmpR op_lt (pv 3) pe_int (nomark _)) (pss_one (ps_ret pe_str)) pss_nil)
      (pss_cons (ps_if (pt_cmpR op_eq (pv 1) pe_int (nomark _)) (pss_cons (ps_set (i := 7) sc_L_due.nd rfl (Or.inl rfl) (pv 3))
      (pss_cons (ps_if (pt_cmpR op_gt (pv 4) pe_int (nomark _)) (pss_one (ps_set (i := 7) sc_L_due.nd rfl (Or.inl rfl) (pe_op op_fdivW (pe_op op_mulW (pv 3) (pv 4)) (pv 5)))) pss_nil)
      (pss_cons (ps_if (pt_cmpR op_eq (pv 7) pe_int (nomark _)) (pss_one (ps_ret pe_str)) pss_nil)
      (pss_cons (ps_asg (pe_op op_add (pv 5) (pv 3)) (pg_sub (pv 0) pe_int set_list))
      (pss_cons (ps_dput hu (pv 6) (pv 2) (pe_op op_add (pe_dget2 hu (pv 6) (pv 2) pe_int ⟨rfl, rfl, rfl, rfl⟩) (pv 7)) rfl)
      (pss_one (ps_ret (pv 7)))))))) pss_nil)
      (pss_cons (ps_if (pt_cmpR op_eq (pv 1) pe_int (nomark _)) (pss_cons (ps_if (pt_cmpR op_lt (pe_dget2 hu (pv 6) (pv 2) pe_int ⟨rfl, rfl, rfl, rfl⟩) (pv 3) (nomark _)) (pss_one (ps_ret pe_str)) pss_nil)
      (pss_cons (ps_set (i := 8) sc_L_due.nd rfl (Or.inl rfl) (pe_op op_fdivW (pe_op op_mulW (pv 3) (pv 5)) (pv 4)))
      (pss_cons (ps_asg (pe_op op_sub (pv 5) (pv 8)) (pg_sub (pv 0) pe_int set_list))
      (pss_cons (ps_dput hu (pv 6) (pv 2) (pe_op op_sub (pe_dget hu (pv 6) (pv 2) (fun _ _ => rfl)) (pv 3)) rfl)
      (pss_one (ps_ret (pv 8))))))) pss_nil)
      (pss_cons (ps_if (pt_cmpR op_eq (pv 4) pe_int (nomark _)) (pss_one (ps_ret pe_str)) pss_nil)
      (pss_cons (ps_asg (pe_op op_add (pv 5) (pv 3)) (pg_sub (pv 0) pe_int set_list))
      (pss_one (ps_ret pe_non))))))))), ?_⟩
    (dsimp only [cxOf, Cx.nox, Cx.wish, L2.start, List.map, List.length, List.replicate, List.cons_append, List.nil_append, List.append_eq, Nat.reduceSub, Nat.reduceAdd])
    walk_at "my_rd"
    refine q_unl (sqL hK.k) rfl ?_
    walk_at "my_rd"
    refine ⟨d, _, hK.e, trivial, fun od => ?_⟩
    have hF : upd H d (.frz od (.dK (rowK r))) d = some (.frz od (.dK (rowK r))) := upd_same
    unfold tLc iKeys
    refine q_var (v := .ref d) rfl ⟨d, od, rfl, .inl ⟨rowK r, hF, fun D nD => ?_⟩⟩
    generalize hHF : upd H d (.frz od (.dK (rowK r))) = HF at nD hF
    have keep : ∀ b o, H b = some o → b ≠ d → HF b = some o := fun b o q n => by rw [← hHF]; exact upd_other n q
    refine lc_it walk_keys (fun i H2 => Same HF H2 ∧ H2 D = some (.lst (((r.take i).map (·.2)).map V.int))) ⟨Same.new (Same.refl _) nD, upd_same⟩ (fun i H2 _ ⟨sm, _⟩ => sm _ _ hF) ?_ ?_
    · rintro i v H2 H3 hi ⟨sm, hD⟩ ⟨rfl, k2, v2, hkv, rfl⟩
      obtain ⟨p, hp, rfl, rfl⟩ := rowK_item hkv
      refine q_gName ⟨rfl, ?_⟩
      refine q_yes ?_
      refine iteT ?_
      walk_at "my_rd"
      refine ⟨d, .int p.2, rfl, .inl ⟨rowK r, .inr p.1, .inr ⟨od, sm _ _ hF⟩, rfl, (row_at g.nd hp).symm⟩, ?_⟩
      refine ⟨_, hD, by rw [List.length_map, List.length_map, List.length_take]; exact small1000 (by omega), Same.new sm nD, ?_⟩
      rw [upd_same, take_snoc' hp, List.map_append, List.map_append]
      rfl
    · rintro H2 ⟨sm, hD⟩
      have el : (rowK r).length = r.length := List.length_map ..
      rw [el, List.take_length] at hD
      refine ⟨sm _ _ hF, ?_⟩
      have nDd : D ≠ d := fun e => by rw [e, hF] at nD; cases nD
      have smB : Same H (upd H2 d (.dK (rowK r))) := by
        intro c o q
        by_cases e : c = d
        · rw [e] at q ⊢
          rw [hd0] at q
          rw [upd_same, q]
        · exact upd_other e (sm _ _ (keep _ _ q e))
      have hD3 : upd H2 d (.dK (rowK r)) D = some (.lst ((r.map (·.2)).map V.int)) := upd_other nDd hD
      have hK3 := hK.same smB
      generalize upd H2 d (.dK (rowK r)) = H3 at smB hD3 hK3
      have hk3 := hK3.k
      walk_at "my_rd"
      refine q_sum (sqL hD3) ?_
      have esum : (r.map (·.2)).sum = sumR r := rfl
      rw [esum]
      have kq : Kq b d H H3 := Kq.same smB
      walk_at "my_rd"
      refine q_if2 (fun hi => ?_) (fun hi => ?_)
      · have hi := dec_t hi
        walk_at "my_rd"
        have e : dueP kd x i A r = (.str "argument!", A, r) := by unfold dueP; rw [if_pos hi]
        rw [e] at k
        exact k _ hK3 kq
      · have hi := dec_f hi
        walk_at "my_rd"
        refine q_if2 (fun h => ?_) (fun h => ?_)
        · have h := dec_t h
          subst h
          walk_at "my_rd"
          have fin : ∀ c, c = cntP A r i → True := fun _ _ => trivial
          by_cases hs : 0 < sumR r
          · have ec : cntP A r i = i * sumR r / A := by unfold cntP; rw [if_pos hs]
            rw [decide_eq_true hs]
            walk_at "my_rd"
            refine q_I (bdMul hi0 hi1 hS0 hS1) ?_
            walk_at "my_rd"
            refine q_I (bdDiv (by have := g.ge; omega) hA) ?_
            walk_at "my_rd"
            rw [← ec]
            have hc0 := cnt_nn (A := A) (r := r) (i := i) g (by omega)
            refine q_if2 (fun h2 => ?_) (fun h2 => ?_)
            · have h2 := dec_t h2
              walk_at "my_rd"
              have e : dueP 0 x i A r = (.str "argument!", A, r) := by unfold dueP; rw [if_neg hi, if_pos rfl, if_pos (by omega)]
              rw [e] at k
              exact k _ hK3 kq
            · have h2 := dec_f h2
              walk_at "my_rd"
              have e : dueP 0 x i A r = (.int (cntP A r i), A + i, putRow r x (getRow r x + cntP A r i)) := by unfold dueP; rw [if_neg hi, if_pos rfl, if_neg (by omega)]
              rw [e] at k
              refine q_dG2S (upd_other hn.symm hK3.e) ?_
              rw [rowK_get]
              walk_at "my_rd"
              refine q_dPutS (upd_other hn.symm hK3.e) (by unfold rowK; rw [List.length_map]; exact small1000 (by omega)) ?_
              walk_at "my_rd"
              rw [rowK_put]
              exact k _ ⟨upd_other hn upd_same, upd_same⟩ (Kq.up2 (Kq.up1 kq))
          · have ec : cntP A r i = i := by unfold cntP; rw [if_neg hs]
            rw [decide_eq_false hs]
            walk_at "my_rd"
            have ec2 := ec.symm
            have hc0 := cnt_nn (A := A) (r := r) (i := i) g (by omega)
            refine q_if2 (fun h2 => ?_) (fun h2 => ?_)
            · have h2 := dec_t h2
              walk_at "my_rd"
              have e : dueP 0 x i A r = (.str "argument!", A, r) := by unfold dueP; rw [if_neg hi, if_pos rfl, if_pos (by omega)]
              rw [e] at k
              exact k _ hK3 kq
            · have h2 := dec_f h2
              walk_at "my_rd"
              have e : dueP 0 x i A r = (.int (cntP A r i), A + i, putRow r x (getRow r x + cntP A r i)) := by unfold dueP; rw [if_neg hi, if_pos rfl, if_neg (by omega)]
              rw [e] at k
              refine q_dG2S (upd_other hn.symm hK3.e) ?_
              rw [rowK_get]
              walk_at "my_rd"
              refine q_dPutS (upd_other hn.symm hK3.e) (by unfold rowK; rw [List.length_map]; exact small1000 (by omega)) ?_
              walk_at "my_rd"
              rw [rowK_put]
              rw [ec] at k
              exact k _ ⟨upd_other hn upd_same, upd_same⟩ (Kq.up2 (Kq.up1 kq))
        · have h := dec_f h
          walk_at "my_rd"
          refine q_if2 (fun h1 => ?_) (fun h1 => ?_)
          · have h1 := dec_t h1
            subst h1
            walk_at "my_rd"
            refine q_dG2S hK3.e ?_
            rw [rowK_get]
            walk_at "my_rd"
            refine q_if2 (fun h2 => ?_) (fun h2 => ?_)
            · have h2 := dec_t h2
              walk_at "my_rd"
              have e : dueP 1 x i A r = (.str "balance!", A, r) := by unfold dueP; rw [if_neg hi, if_neg (by decide), if_pos rfl, if_pos h2]
              rw [e] at k
              exact k _ hK3 kq
            · have h2 := dec_f h2
              have hg := getRow_le g.nn x
              walk_at "my_rd"
              refine q_I (bdMul hi0 hi1 g.a0 hA) ?_
              walk_at "my_rd"
              refine q_I (bdDiv (by omega) hS1) ?_
              walk_at "my_rd"
              have e : dueP 1 x i A r = (.int (i * A / sumR r), A - i * A / sumR r, putRow r x (getRow r x - i)) := by unfold dueP; rw [if_neg hi, if_neg (by decide), if_pos rfl, if_neg h2]
              rw [e] at k
              refine q_dGetS (upd_other hn.symm hK3.e) (row_some (by omega)) ?_
              walk_at "my_rd"
              refine q_dPutS (upd_other hn.symm hK3.e) (by unfold rowK; rw [List.length_map]; exact small1000 (by omega)) ?_
              walk_at "my_rd"
              rw [rowK_put]
              exact k _ ⟨upd_other hn upd_same, upd_same⟩ (Kq.up2 (Kq.up1 kq))
          · have h1 := dec_f h1
            walk_at "my_rd"
            refine q_if2 (fun h2 => ?_) (fun h2 => ?_)
            · have h2 := dec_t h2
              walk_at "my_rd"
              have e : dueP kd x i A r = (.str "argument!", A, r) := by unfold dueP; rw [if_neg hi, if_neg h, if_neg h1, if_pos h2]
              rw [e] at k
              exact k _ hK3 kq
            · have h2 := dec_f h2
              walk_at "my_rd"
              have e : dueP kd x i A r = (.non, A + i, r) := by unfold dueP; rw [if_neg hi, if_neg h, if_neg h1, if_neg h2]
              rw [e] at k
              exact k _ ⟨upd_same, upd_other hn.symm hK3.e⟩ (Kq.up1 kq)
end

local macro_rules | `(tactic| walk_at "my_rd") => `(tactic| (repeat first
  | with_reducible refine q_tCons ?_
  | ((with_reducible apply q_var); (focus (exact rfl)))
  | with_reducible refine q_c ?_
  | with_reducible refine q_nx ?_
  | with_reducible refine q_bK ?_
  | with_reducible refine q_call ?_
  | with_reducible refine q_callK ?_
  | with_reducible refine q_tNil ?_
  | with_reducible refine q_cb ?_
  | with_reducible refine q_seq ?_
  | with_reducible refine q_asg ?_
  | with_reducible refine q_gName ?_
  | with_reducible refine q_op ?_
  | with_reducible refine q_test ?_
  | with_reducible refine q_tB ?_
  | with_reducible refine q_ifS ?_
  | with_reducible refine q_ret ?_
  | with_reducible refine q_rt ?_
  | with_reducible refine q_next ?_
  | with_reducible refine q_ifF ?_
  | with_reducible refine q_ifT ?_
  | with_reducible refine q_drop ?_
  | with_reducible refine q_and ?_
  | with_reducible refine q_or ?_
  | with_reducible refine q_andT ?_
  | with_reducible refine q_andF ?_
  | with_reducible refine q_orF ?_
  | with_reducible refine q_orT ?_
  | with_reducible refine q_andV ?_
  | with_reducible refine q_andVT ?_
  | with_reducible refine q_andVF ?_
  | with_reducible refine q_orV ?_
  | with_reducible refine q_gCons ?_
  | with_reducible refine q_gNil ?_
  | with_reducible refine q_tup ?_
  | with_reducible refine q_lst ?_
  | with_reducible refine q_not ?_
  | with_reducible refine q_notKT ?_
  | with_reducible refine q_notKF ?_
  | with_reducible refine q_I0 ?_
  | with_reducible refine q_eqI ?_
  | with_reducible refine q_neI ?_
  | ((with_reducible refine q_I ?_ ?_); first | decide | omega | exact ⟨by omega, by omega⟩ | exact ⟨by decide, by decide⟩ | exact .inl ⟨by omega, by omega⟩ | exact .inr ⟨by omega, by omega⟩ | exact .inr ⟨by decide, by decide⟩)
  | with_reducible refine q_eqS ?_
  | with_reducible refine q_neS ?_
  | with_reducible refine q_brk ?_
  | with_reducible refine q_ct ?_
  | with_reducible refine q_bk ?_
  | with_reducible refine q_cn ?_
  | with_reducible refine q_retN ?_
  | with_reducible refine q_gSub ?_
  | with_reducible refine q_for ?_
  | with_reducible refine q_iList ?_
  | with_reducible refine q_iTup ?_
  | with_reducible refine q_iRng1 ?_
  | with_reducible refine q_notK ?_
  | with_reducible refine q_orVT ?_
  | with_reducible refine q_orVF ?_
  | with_reducible refine q_notV ?_
  | with_reducible refine q_notVK ?_
  | with_reducible refine q_ifE ?_
  | with_reducible refine q_ifET ?_
  | with_reducible refine q_ifEF ?_
  | with_reducible refine q_yes ?_
  | with_reducible refine q_un ?_
  | with_reducible refine q_rU ?_
  | with_reducible refine q_abs ?_
  | with_reducible refine q_int1 ?_
  | with_reducible refine q_bm ?_
  | with_reducible refine q_bm0 ?_
  | with_reducible refine q_lc ?_
  | with_reducible refine q_keepT ?_
  | with_reducible refine q_keepF ?_
  | ((with_reducible apply q_aug); (focus (exact rfl)))
  | with_reducible refine q_ipI ?_
  | with_reducible refine q_chain ?_
  | with_reducible refine q_pairC ?_
  | with_reducible refine q_pairsK ?_
  | with_reducible refine q_pairN ?_
  | with_reducible refine q_fld ?_
  | with_reducible refine q_sFld ?_
  | with_reducible refine q_meth ?_
  | with_reducible refine q_makeK ?_
  | with_reducible refine q_isBl ?_
  | with_reducible refine q_notBl ?_
  | with_reducible refine q_sl ?_
  | with_reducible refine q_noPart ?_
  | with_reducible refine q_part ?_
  | with_reducible refine q_partK ?_
  | ((with_reducible apply q_mulStr); (focus (decide +kernel)))
  | with_reducible refine q_chT ?_
  | with_reducible refine q_chF ?_
  | with_reducible refine q_ord ?_
  | with_reducible refine q_iStr0 ?_
  | with_reducible refine q_iStr ?_
  | with_reducible refine q_tDIn ?_
  | with_reducible refine q_tDNotIn ?_
  | with_reducible refine q_tDGet ?_
  | with_reducible refine q_tDGet2 ?_
  | with_reducible refine q_tDGet1 ?_
  | with_reducible refine q_tDSetd ?_
  | ((with_reducible apply q_dG2a); (focus ((repeat first | (with_reducible exact upd_same) | (with_reducible assumption) | (with_reducible apply upd_new (by assumption)) | (with_reducible apply upd_other (by first | assumption | exact Ne.symm (by assumption))) | (with_reducible refine' Kp.get (by assumption) ?_ (by first | assumption | exact Ne.symm (by assumption))) | (with_reducible apply Same.get (by assumption))); done)))
  | ((with_reducible apply q_dSda); (focus ((repeat first | (with_reducible exact upd_same) | (with_reducible assumption) | (with_reducible apply upd_new (by assumption)) | (with_reducible apply upd_other (by first | assumption | exact Ne.symm (by assumption))) | (with_reducible refine' Kp.get (by assumption) ?_ (by first | assumption | exact Ne.symm (by assumption))) | (with_reducible apply Same.get (by assumption))); done)))
  | with_reducible refine q_sDPut ?_
  | ((with_reducible apply q_dInS); (focus ((repeat first | (with_reducible exact upd_same) | (with_reducible assumption) | (with_reducible apply upd_new (by assumption)) | (with_reducible apply upd_other (by first | assumption | exact Ne.symm (by assumption))) | (with_reducible refine' Kp.get (by assumption) ?_ (by first | assumption | exact Ne.symm (by assumption))) | (with_reducible apply Same.get (by assumption))); done)))
  | ((with_reducible apply q_dNInS); (focus ((repeat first | (with_reducible exact upd_same) | (with_reducible assumption) | (with_reducible apply upd_new (by assumption)) | (with_reducible apply upd_other (by first | assumption | exact Ne.symm (by assumption))) | (with_reducible refine' Kp.get (by assumption) ?_ (by first | assumption | exact Ne.symm (by assumption))) | (with_reducible apply Same.get (by assumption))); done)))
  | ((with_reducible apply q_dInI); (focus ((repeat first | (with_reducible exact upd_same) | (with_reducible assumption) | (with_reducible apply upd_new (by assumption)) | (with_reducible apply upd_other (by first | assumption | exact Ne.symm (by assumption))) | (with_reducible refine' Kp.get (by assumption) ?_ (by first | assumption | exact Ne.symm (by assumption))) | (with_reducible apply Same.get (by assumption))); done)))
  | ((with_reducible apply q_dNInI); (focus ((repeat first | (with_reducible exact upd_same) | (with_reducible assumption) | (with_reducible apply upd_new (by assumption)) | (with_reducible apply upd_other (by first | assumption | exact Ne.symm (by assumption))) | (with_reducible refine' Kp.get (by assumption) ?_ (by first | assumption | exact Ne.symm (by assumption))) | (with_reducible apply Same.get (by assumption))); done)))
  | ((with_reducible apply q_bmL); (focus ((repeat first | (with_reducible exact upd_same) | (with_reducible assumption) | (with_reducible apply upd_new (by assumption)) | (with_reducible apply upd_other (by first | assumption | exact Ne.symm (by assumption))) | (with_reducible refine' Kp.get (by assumption) ?_ (by first | assumption | exact Ne.symm (by assumption))) | (with_reducible apply Same.get (by assumption))); done)))
  | ((with_reducible apply q_bmL0); (focus ((repeat first | (with_reducible exact upd_same) | (with_reducible assumption) | (with_reducible apply upd_new (by assumption)) | (with_reducible apply upd_other (by first | assumption | exact Ne.symm (by assumption))) | (with_reducible refine' Kp.get (by assumption) ?_ (by first | assumption | exact Ne.symm (by assumption))) | (with_reducible apply Same.get (by assumption))); done)))
  | ((with_reducible apply q_ixLt); (focus ((repeat first | (with_reducible exact upd_same) | (with_reducible assumption) | (with_reducible apply upd_new (by assumption)) | (with_reducible apply upd_other (by first | assumption | exact Ne.symm (by assumption))) | (with_reducible refine' Kp.get (by assumption) ?_ (by first | assumption | exact Ne.symm (by assumption))) | (with_reducible apply Same.get (by assumption))); done)); (focus (exact rfl)))
  | ((with_reducible apply q_ixTt); (focus ((repeat first | (with_reducible exact upd_same) | (with_reducible assumption) | (with_reducible apply upd_new (by assumption)) | (with_reducible apply upd_other (by first | assumption | exact Ne.symm (by assumption))) | (with_reducible refine' Kp.get (by assumption) ?_ (by first | assumption | exact Ne.symm (by assumption))) | (with_reducible apply Same.get (by assumption))); done)); (focus (exact rfl)))
  | ((with_reducible apply q_lenLt); (focus ((repeat first | (with_reducible exact upd_same) | (with_reducible assumption) | (with_reducible apply upd_new (by assumption)) | (with_reducible apply upd_other (by first | assumption | exact Ne.symm (by assumption))) | (with_reducible refine' Kp.get (by assumption) ?_ (by first | assumption | exact Ne.symm (by assumption))) | (with_reducible apply Same.get (by assumption))); done)))
  | ((with_reducible apply q_lenTt); (focus ((repeat first | (with_reducible exact upd_same) | (with_reducible assumption) | (with_reducible apply upd_new (by assumption)) | (with_reducible apply upd_other (by first | assumption | exact Ne.symm (by assumption))) | (with_reducible refine' Kp.get (by assumption) ?_ (by first | assumption | exact Ne.symm (by assumption))) | (with_reducible apply Same.get (by assumption))); done)))
  | ((with_reducible apply q_append); (focus ((repeat first | (with_reducible exact upd_same) | (with_reducible assumption) | (with_reducible apply upd_new (by assumption)) | (with_reducible apply upd_other (by first | assumption | exact Ne.symm (by assumption))) | (with_reducible refine' Kp.get (by assumption) ?_ (by first | assumption | exact Ne.symm (by assumption))) | (with_reducible apply Same.get (by assumption))); done)); (focus ((first | (exact Nat.lt_of_ble_eq_true rfl) | (simp only [List.length_append, List.length_cons, List.length_nil, List.length_map]; exact small1000 (by omega))))))
  | ((with_reducible apply q_setL); (focus ((repeat first | (with_reducible exact upd_same) | (with_reducible assumption) | (with_reducible apply upd_new (by assumption)) | (with_reducible apply upd_other (by first | assumption | exact Ne.symm (by assumption))) | (with_reducible refine' Kp.get (by assumption) ?_ (by first | assumption | exact Ne.symm (by assumption))) | (with_reducible apply Same.get (by assumption))); done)); (focus (exact rfl)))
  | with_reducible refine q_ifNT ?_
  | with_reducible refine q_ifNF ?_
  | with_reducible refine q_andNT ?_
  | with_reducible refine q_andNF ?_
  | with_reducible refine q_orNT ?_
  | with_reducible refine q_orNF ?_
  | with_reducible refine q_bKNT ?_
  | with_reducible refine q_bKNF ?_
  | with_reducible refine q_tNGet ?_
  | with_reducible refine q_tNIn ?_
  | with_reducible refine q_sNPut ?_
  | with_reducible refine q_sFldAug ?_
  | with_reducible refine q_sDAug ?_))
/-! the law of pools -/
def spLaw (K : PySem.W.Frag) : Sp := fun vs H Q _ => ∃ (a : Addr) (ns : List Int), vs = [.ref a] ∧ SqL K H a (ns.map V.int) ∧ ns.length ≤ 63 ∧ ∀ H', Q (.bl true) H'
structure LP (C p l b d k e : Addr) (A A2 : Int) (r r2 : Row) (H : Hp) : Prop where
  pot : PotAt H p l
  po : PoolAt C H b d A r
  bk : BookAt H k e A2 r2
structure LN (p l d k e : Addr) : Prop where
  de : d ≠ e
  kp : k ≠ p
  kl : k ≠ l
section
variable {C p l b d k e : Addr} {A A2 B : Int} {r r2 s : Row} {H H' : Hp}
theorem PotAt.lst (h : PotAt H p l) : (∃ xs, H p = some (.lst xs)) ∧ ∃ xs, H l = some (.lst xs) := by
  obtain ⟨ns, i, c, s, h1, h2, _⟩ := h
  exact ⟨⟨_, h1⟩, ⟨_, h2⟩⟩
theorem LP.same (h : LP C p l b d k e A A2 r r2 H) (s : Same H H') : LP C p l b d k e A A2 r r2 H' := ⟨h.pot.same s, h.po.same s, h.bk.same s⟩
theorem LP.next (h : LP C p l b d k e A A2 r r2 H) (n : LN p l d k e) (kp : Kp p H H') (pot : PotAt H' p l) : LP C p l b d k e A A2 r r2 H' := by
  obtain ⟨dx, ho⟩ := h.po.o
  obtain ⟨⟨xs, hp⟩, _⟩ := h.pot.lst
  exact ⟨pot, ⟨⟨dx, kp.get ho (ne_of ho hp (by intro z; cases z))⟩, kp.get h.po.d (ne_of h.po.d hp (by intro z; cases z))⟩, ⟨kp.get h.bk.k n.kp, kp.get h.bk.e (ne_of h.bk.e hp (by intro z; cases z))⟩⟩
theorem LP.pool (h : LP C p l b d k e A A2 r r2 H) (n : LN p l d k e) (kq : Kq b d H H') (po : PoolAt C H' b d B s) : LP C p l b d k e B A2 s r2 H' := by
  obtain ⟨dx, ho⟩ := h.po.o
  obtain ⟨ns, i, c, z, h1, h2, hr⟩ := h.pot
  exact ⟨⟨ns, i, c, z, kq _ _ h1 (ne_of h1 ho (by intro z; cases z)) (ne_of h1 h.po.d (by intro z; cases z)), kq _ _ h2 (ne_of h2 ho (by intro z; cases z)) (ne_of h2 h.po.d (by intro z; cases z)), hr⟩, po,
    h.bk.kq kq (ne_of h.bk.k ho (by intro z; cases z)) (ne_of h.bk.k h.po.d (by intro z; cases z)) (ne_of h.bk.e ho (by intro z; cases z)) n.de.symm⟩
theorem LP.book (h : LP C p l b d k e A A2 r r2 H) (n : LN p l d k e) (kq : Kq k e H H') (bk : BookAt H' k e B s) : LP C p l b d k e A B r s H' := by
  obtain ⟨dx, ho⟩ := h.po.o
  obtain ⟨ns, i, c, z, h1, h2, hr⟩ := h.pot
  exact ⟨⟨ns, i, c, z, kq _ _ h1 n.kp.symm (ne_of h1 h.bk.e (by intro z; cases z)), kq _ _ h2 n.kl.symm (ne_of h2 h.bk.e (by intro z; cases z)), hr⟩,
    h.po.kq kq (ne_of ho h.bk.k (by intro z; cases z)) (ne_of ho h.bk.e (by intro z; cases z)) (ne_of h.po.d h.bk.k (by intro z; cases z)) n.de, bk⟩
end
def BdA (i : Nat) (A : Int) : Prop := A + 2147483648 ≤ ((4294967296 * 2 ^ i : Nat) : Int)
theorem BdA.lt {i : Nat} {A : Int} (h : BdA i A) (hi : i ≤ 41) : A < 10000000000000000000000 := by
  have e : 2 ^ i ≤ 2 ^ 41 := Nat.pow_le_pow_right (by decide) hi
  have e2 : 2 ^ 41 = 2199023255552 := by decide
  unfold BdA at h
  rw [e2] at e
  generalize 2 ^ i = z at h e
  omega
theorem BdA.up {i : Nat} {A B am : Int} (h : BdA i A) (h0 : 0 ≤ A) (hm : am ≤ 1000000000 ∨ am ≤ A + 1) (hB : B ≤ A + am) : BdA (i + 1) B := by
  unfold BdA at h ⊢
  rw [Nat.pow_succ]
  generalize 2 ^ i = z at h
  omega
theorem BdA.bd {i : Nat} {A am : Int} (h : BdA i A) (hi : i ≤ 41) (h0 : 0 ≤ am) (hm : am ≤ 10000000000000000000000) : Bd A am := by
  have := h.lt hi
  unfold Bd
  rw [pow80]
  omega
theorem Keys3.due {kd : Int} {x : Str} {i A : Int} {r : Row} (h : ∀ p ∈ r, p.1 ∈ (["ann", "bob", "cyd"] : List Str)) (hx : x ∈ (["ann", "bob", "cyd"] : List Str)) : ∀ p ∈ (dueP kd x i A r).2.2, p.1 ∈ (["ann", "bob", "cyd"] : List Str) := fun p hp => by
  rcases due_keys hp with m | m
  · exact h p m
  · rw [m]; exact hx
theorem due_dep {x : Str} {i A A' : Int} {r r' : Row} {dv : V} (h : dueP 0 x i A r = (dv, A', r')) (hd : ∃ j, dv = .int j) :
    1 ≤ i ∧ ¬ cntP A r i < 1 ∧ dv = .int (cntP A r i) ∧ A' = A + i ∧ r' = putRow r x (getRow r x + cntP A r i) := by
  unfold dueP at h
  by_cases h1 : i < 1
  · rw [if_pos h1] at h
    injection h with e1 e2
    rw [← e1] at hd
    obtain ⟨j, hd⟩ := hd
    cases hd
  · rw [if_neg h1, if_pos rfl] at h
    by_cases h2 : cntP A r i < 1
    · rw [if_pos h2] at h
      injection h with e1 e2
      rw [← e1] at hd
      obtain ⟨j, hd⟩ := hd
      cases hd
    · rw [if_neg h2] at h
      injection h with e1 e2
      injection e2 with e2 e3
      exact ⟨by omega, h2, e1.symm, e2.symm, e3.symm⟩
theorem due_red {x : Str} {i A : Int} {r : Row} (h1 : ¬ i < 1) (h2 : ¬ getRow r x < i) : dueP 1 x i A r = (.int (i * A / sumR r), A - i * A / sumR r, putRow r x (getRow r x - i)) := by
  unfold dueP
  rw [if_neg h1, if_neg (by decide), if_pos rfl, if_neg h2]
theorem any_false (n : Nat) : (List.replicate n false).any id = false := by
  induction n with
  | zero => rfl
  | succ n ih => rw [List.replicate_succ, List.any_cons, ih]; rfl
theorem strs_at {ys : List Str} {i : Nat} {x : V} (h : (ys.map V.str)[i]? = some x) : ∃ y, x = .str y ∧ y ∈ ys := by
  rw [List.getElem?_map] at h
  obtain ⟨y, hy, e⟩ := Option.map_eq_some_iff.mp h
  exact ⟨y, e.symm, List.mem_of_getElem? hy⟩
def names3 : List Str := ["ann", "bob", "cyd"]
def Keys3 (r : Row) : Prop := ∀ p ∈ r, p.1 ∈ names3
section
variable {P : Program} {w : World} {K : PySem.W.Frag} {mg : Str → Option Value} {base : Heap}
set_option maxHeartbeats 0 in
theorem ok_law (T : Txt K mg) : FnOk P w K mg base CX0 4 T.f_law T.d_law ["script"] (spLaw K) := by
  refine T.F_law.ok sc_law (fun vs H Q E h => ?_) (fun cdv A outer s H vs Q E hr h => ?_)
  · obtain ⟨a, ns, rfl, _⟩ := h; rfl
  · obtain ⟨a0, ns0, rfl, hS, hlen, k⟩ := h
    have hu := hu_of hr
    refine ⟨_, (pss_cons (ps_set (i := 1) sc_law.nd rfl (Or.inl rfl) (pe_call (ok_L_pot T) (hr.mono (by decide)) (by rfl) T.g_L_pot T.F_L_pot.kp T.b_L_pot .nil pass0 (pa_cons (pv 0) pa_nil)))
      (pss_cons (ps_set (i := 2) sc_law.nd rfl (Or.inr rfl) (pe_make0 T.mk_Pool (ok_Pool_init T) (hr.mono (by decide)) (by rfl) T.g_Pool T.b_Pool_init .nil pass0))
      (pss_cons (ps_set (i := 3) sc_law.nd rfl (Or.inr rfl) (pe_lst (pa_cons pe_int (pa_cons pe_dnewK pa_nil))))
      (pss_cons (ps_for PassesOwn.never rfl (pi_range1 (by rfl) T.z_range (pa_cons (pe_op op_add pe_int (pe_callB (call_min2 rfl) (by rfl) T.z_min boot_min (pa_cons (pe_callB cq_len (by rfl) T.z_len boot_len (pa_cons (pv 0) pa_nil)) (pa_cons pe_int pa_nil)))) pa_nil)) (pg_name (i := 4) sc_law.nd rfl (Or.inl rfl))
        (pss_cons (ps_set (i := 6) sc_law.nd rfl (Or.inl rfl) (pe_call (ok_L_next T) (hr.mono (by decide)) (by rfl) T.g_L_next T.F_L_next.kp T.b_L_next .nil pass0 (pa_cons (pv 1) (pa_cons pe_int pa_nil))))
      (pss_cons (ps_set (i := 7) sc_law.nd rfl (Or.inl rfl) (pe_ix ix_list (pe_lst (pa_cons pe_str (pa_cons pe_str (pa_cons pe_str pa_nil)))) (pe_call (ok_L_next T) (hr.mono (by decide)) (by rfl) T.g_L_next T.F_L_next.kp T.b_L_next .nil pass0 (pa_cons (pv 1) (pa_cons pe_int pa_nil))) (fun _ _ => rfl)))
      (pss_cons (ps_set (i := 8) sc_law.nd rfl (Or.inl rfl) (pe_dget2 hu (pe_ix ix_list (pv 3) pe_int (fun _ _ => rfl)) (pv 7) pe_int ⟨rfl, rfl, rfl, rfl⟩))
      (pss_cons (ps_set (i := 9) sc_law.nd rfl (Or.inl rfl) (pe_ix ix_list (pe_lst (pa_cons pe_int (pa_cons pe_int (pa_cons (pv 8) (pa_cons (pe_op op_add (pv 8) pe_int) (pa_cons (pe_op op_fdiv (pv 8) pe_int) (pa_cons (pe_call (ok_L_next T) (hr.mono (by decide)) (by rfl) T.g_L_next T.F_L_next.kp T.b_L_next .nil pass0 (pa_cons (pv 1) (pa_cons pe_int pa_nil))) (pa_cons (pe_op op_pow pe_int pe_int) pa_nil)))))))) (pe_call (ok_L_next T) (hr.mono (by decide)) (by rfl) T.g_L_next T.F_L_next.kp T.b_L_next .nil pass0 (pa_cons (pv 1) (pa_cons pe_int pa_nil))) (fun _ _ => rfl)))
      (pss_cons (ps_set (i := 10) sc_law.nd rfl (Or.inl rfl) (pe_tup (pa_cons (pe_meth0 (pv 2) T.cl_Pool T.m_Pool_assets (ok_Pool_assets T) (hr.mono (by decide)) T.b_Pool_assets .nil pass0) (pa_cons (pe_meth0 (pv 2) T.cl_Pool T.m_Pool_shares (ok_Pool_shares T) (hr.mono (by decide)) T.b_Pool_shares .nil pass0) pa_nil))))
      (pss_cons (ps_set (i := 11) sc_law.nd rfl (Or.inl rfl) (pe_call (ok_L_do T) (hr.mono (by decide)) (by rfl) T.g_L_do T.F_L_do.kp T.b_L_do .nil pass0 (pa_cons (pv 2) (pa_cons (pv 6) (pa_cons (pv 7) (pa_cons (pv 9) pa_nil))))))
      (pss_cons (ps_set (i := 12) sc_law.nd rfl (Or.inl rfl) (pe_call (ok_L_due T) (hr.mono (by decide)) (by rfl) T.g_L_due T.F_L_due.kp T.b_L_due .nil pass0 (pa_cons (pv 3) (pa_cons (pv 6) (pa_cons (pv 7) (pa_cons (pv 9) pa_nil))))))
      (Evl.pss_cut (ps_if (PW.pt (pw_or (pt_cmpR op_ne (pv 11) (pv 12) (nomark _)) (pw_or1 (PW.pt (pw_and (pt_val (pe_call (ok_L_is_int T) (hr.mono (by decide)) (by rfl) T.g_L_is_int T.F_L_is_int.kp T.b_L_is_int .nil pass0 (pa_cons (pv 12) pa_nil))) (pw_and1 (pt_not (pt_val (pe_call (ok_L_is_int T) (hr.mono (by decide)) (by rfl) T.g_L_is_int T.F_L_is_int.kp T.b_L_is_int .nil pass0 (pa_cons (pv 11) pa_nil)))))))))) (pss_one (ps_ret pe_bl)) pss_nil)
      (pss_cons (ps_set (i := 13) sc_law.nd rfl (Or.inl rfl) (pe_callB (cr_sum rfl) (by rfl) T.z_sum boot_sum (pa_cons (pe_lock (pe_lc (own := [("name", 5)]) (g := (gName 5)) (tt := tYes) (te := (tDGet (tOp (rIxL K) (tVar 3) (tC (.int 1))) (tVar 5))) rfl sc_law.nd (pi_keys (pe_ix ix_list (pv 3) pe_int (fun _ _ => rfl))) (blkOk_by (own := [("name", 5)]) (N := ["script", "pot", "pool", "book", "k", "name", "kind", "account", "held", "amount", "before", "found", "due", "whole", "back"]) (sc := defScope s_law) (by decide +kernel)) (fun _ _ _ _ _ => (pg_name (i := 5) sc_law.nd rfl (Or.inl rfl))) (fun _ _ _ _ _ => pts_nil) (fun _ _ _ _ _ => (pe_dget hu (pe_ix ix_list (pv 3) pe_int (fun _ _ => rfl)) (pv 5) (fun _ _ => rfl))))) pa_nil)))
      (pss_cons (ps_if (PW.pt (pw_or (pt_cmpR op_ne (pe_meth0 (pv 2) T.cl_Pool T.m_Pool_assets (ok_Pool_assets T) (hr.mono (by decide)) T.b_Pool_assets .nil pass0) (pe_ix ix_list (pv 3) pe_int (fun _ _ => rfl)) (nomark _)) (pw_or1 (pt_cmpR op_ne (pe_meth0 (pv 2) T.cl_Pool T.m_Pool_shares (ok_Pool_shares T) (hr.mono (by decide)) T.b_Pool_shares .nil pass0) (pv 13) (nomark _))))) (pss_one (ps_ret pe_bl)) pss_nil)
      (pss_cons (ps_if (pt_val (pe_callB (cr_any rfl) (by rfl) T.z_any boot_any (pa_cons (pe_lc (own := [("name", 5)]) (g := (gName 5)) (tt := tYes) (te := (tOp rNe (tMeth T.C_Pool "shares_of" (sp_poO T.C_Pool) [] E0 (tVar 2) (tCons (tVar 5) tNil)) (tDGet2 (tOp (rIxL K) (tVar 3) (tC (.int 1))) (tVar 5) (tC (.int 0))))) rfl sc_law.nd (pi_list (pe_lst (pa_cons pe_str (pa_cons pe_str (pa_cons pe_str (pa_cons pe_str pa_nil)))))) (blkOk_by (own := [("name", 5)]) (N := ["script", "pot", "pool", "book", "k", "name", "kind", "account", "held", "amount", "before", "found", "due", "whole", "back"]) (sc := defScope s_law) (by decide +kernel)) (fun _ _ _ _ _ => (pg_name (i := 5) sc_law.nd rfl (Or.inl rfl))) (fun _ _ _ _ _ => pts_nil) (fun _ _ _ _ _ => (pe_cmpR op_ne (pe_meth (pv 2) T.cl_Pool T.m_Pool_shares_of (ok_Pool_shares_of T) (hr.mono (by decide)) T.b_Pool_shares_of .nil pass0 (pa_cons (pv 5) pa_nil)) (pe_dget2 hu (pe_ix ix_list (pv 3) pe_int (fun _ _ => rfl)) (pv 5) pe_int ⟨rfl, rfl, rfl, rfl⟩) (nomark _)))) pa_nil))) (pss_one (ps_ret pe_bl)) pss_nil)
      (Evl.pss_cut (ps_if (PW.pt (pw_and (pt_cmpR op_gt (pe_ix ix_tup (pv 10) pe_int (fun _ _ => rfl)) pe_int (nomark _)) (pw_and (pt_cmpR op_gt (pv 13) pe_int (nomark _)) (pw_and1 (pt_cmpR op_lt (pe_op op_mulW (pe_meth0 (pv 2) T.cl_Pool T.m_Pool_assets (ok_Pool_assets T) (hr.mono (by decide)) T.b_Pool_assets .nil pass0) (pe_ix ix_tup (pv 10) pe_int (fun _ _ => rfl))) (pe_op op_mulW (pe_ix ix_tup (pv 10) pe_int (fun _ _ => rfl)) (pv 13)) (nomark _)))))) (pss_one (ps_ret pe_bl)) pss_nil)
      (pss_one (ps_if (PW.pt (pw_and (pt_cmpR op_eq (pv 6) pe_int (nomark _)) (pw_and (pt_val (pe_call (ok_L_is_int T) (hr.mono (by decide)) (by rfl) T.g_L_is_int T.F_L_is_int.kp T.b_L_is_int .nil pass0 (pa_cons (pv 11) pa_nil))) (pw_and1 (pt_cmpR op_eq (pe_call (ok_L_next T) (hr.mono (by decide)) (by rfl) T.g_L_next T.F_L_next.kp T.b_L_next .nil pass0 (pa_cons (pv 1) (pa_cons pe_int pa_nil))) pe_int (nomark _)))))) (pss_cons (ps_set (i := 14) sc_law.nd rfl (Or.inl rfl) (pe_meth (pv 2) T.cl_Pool T.m_Pool_redeem (ok_Pool_redeem T) (hr.mono (by decide)) T.b_Pool_redeem .nil passF (pa_cons (pv 7) (pa_cons (pv 11) pa_nil))))
      (pss_one (ps_if (PW.pt (pw_or (pt_cmpR op_gt (pv 14) (pv 9) (nomark _)) (pw_or1 (pt_cmpR op_ne (pv 14) (pe_call (ok_L_due T) (hr.mono (by decide)) (by rfl) T.g_L_due T.F_L_due.kp T.b_L_due .nil pass0 (pa_cons (pv 3) (pa_cons pe_int (pa_cons (pv 7) (pa_cons (pv 11) pa_nil))))) (nomark _))))) (pss_one (ps_ret pe_bl)) pss_nil))) pss_nil)))))))))))))))
      (pss_cons (ps_for PassesOwn.never rfl (pi_list (pe_lst (pa_cons pe_str (pa_cons pe_str (pa_cons pe_str pa_nil))))) (pg_name (i := 5) sc_law.nd rfl (Or.inl rfl))
        (pss_one (ps_if (pt_cmpR op_gt (pe_meth (pv 2) T.cl_Pool T.m_Pool_shares_of (ok_Pool_shares_of T) (hr.mono (by decide)) T.b_Pool_shares_of .nil pass0 (pa_cons (pv 5) pa_nil)) pe_int (nomark _)) (pss_one (ps_expr (pe_meth (pv 2) T.cl_Pool T.m_Pool_redeem (ok_Pool_redeem T) (hr.mono (by decide)) T.b_Pool_redeem .nil passF (pa_cons (pv 5) (pa_cons (pe_meth (pv 2) T.cl_Pool T.m_Pool_shares_of (ok_Pool_shares_of T) (hr.mono (by decide)) T.b_Pool_shares_of .nil pass0 (pa_cons (pv 5) pa_nil)) pa_nil))))) pss_nil)))
      (pss_one (ps_ret (pe_and (pe_cmpR op_eq (pe_meth0 (pv 2) T.cl_Pool T.m_Pool_assets (ok_Pool_assets T) (hr.mono (by decide)) T.b_Pool_assets .nil pass0) pe_int (nomark _)) (pe_one (pe_cmpR op_eq (pe_meth0 (pv 2) T.cl_Pool T.m_Pool_shares (ok_Pool_shares T) (hr.mono (by decide)) T.b_Pool_shares .nil pass0) pe_int (nomark _))))))))))), ?_⟩
    (dsimp only [cxOf, Cx.nox, Cx.wish, L2.start, List.map, List.length, List.replicate, List.cons_append, List.nil_append, List.append_eq, Nat.reduceSub, Nat.reduceAdd])
    walk_at "my_rd"
    refine ⟨a0, ns0, rfl, hS, hlen, fun p l0 H1 np nl0 pot1 sm1 => ?_⟩
    walk_at "my_rd"
    intro b dx nb ndx ndb
    refine ⟨b, dx, rfl, upd_same, fun d H2 nd hP kp2 => ⟨rfl, ?_⟩⟩
    have sm2 : Same H1 H2 := fun q o hq => kp2 q o (upd_other (ne_of_none hq nb) (upd_other (ne_of_none hq ndx) hq)) (ne_of_none hq nb)
    have pot2 := pot1.same sm2
    walk_at "my_rd"
    refine q_dNew fun e ne => ?_
    walk_at "my_rd"
    refine q_lstK (Nat.le_of_ble_eq_true rfl) fun bk nbk => ?_
    have sm3 : Same H2 (upd (upd H2 e (.dK [])) bk (.lst [.int 0, .ref e])) := Same.new (Same.new (Same.refl _) ne) (upd_none_back nbk)
    have I0 : LP T.C_Pool p l0 b d bk e 0 0 [] [] (upd (upd H2 e (.dK [])) bk (.lst [.int 0, .ref e])) := ⟨pot2.same sm3, hP.same sm3, ⟨upd_same, upd_new nbk upd_same⟩⟩
    have n : LN p l0 d bk e := ⟨ne_of_none hP.d ne, pot2.nep (upd_none_back nbk), pot2.nel (upd_none_back nbk)⟩
    have hS3 : SqL K (upd (upd H2 e (.dK [])) bk (.lst [.int 0, .ref e])) a0 (ns0.map V.int) := by
      have sm : Same H (upd (upd H2 e (.dK [])) bk (.lst [.int 0, .ref e])) := Same.trans (Same.trans sm1 sm2) sm3
      rcases hS with (h | ⟨o, h⟩) | h
      · exact .inl (.inl (sm _ _ h))
      · exact .inl (.inr ⟨o, sm _ _ h⟩)
      · exact .inr h
    generalize upd (upd H2 e (.dK [])) bk (.lst [.int 0, .ref e]) = H3 at I0 hS3
    walk_at "my_rd"
    refine q_lenL hS3 ?_
    walk_at "my_rd"
    refine ⟨_, _, rfl, ?_⟩
    walk_at "my_rd"
    rw [List.length_map]
    have hN : 0 ≤ (4 : Int) + (if (36 : Int) < (ns0.length : Int) then 36 else (ns0.length : Int)) ∧ (4 : Int) + (if (36 : Int) < (ns0.length : Int) then 36 else (ns0.length : Int)) ≤ 40 := by split <;> omega
    generalize (4 : Int) + (if (36 : Int) < (ns0.length : Int) then 36 else (ns0.length : Int)) = N at hN
    refine q_forR ⟨hN.1, by omega⟩ (fun i σ H' => ∃ (A : Int) (r : Row) (v4 v5 v6 v7 v8 v9 v10 v11 v12 v13 v14 : Option V), σ = [some (.ref a0), some (.ref p), some (.ref b), some (.ref bk), v4, v5, v6, v7, v8, v9, v10, v11, v12, v13, v14] ∧ LP T.C_Pool p l0 b d bk e A A r r H' ∧ Good A r ∧ Keys3 r ∧ r.length ≤ 2 * i ∧ BdA i A)
      ⟨0, [], _, _, _, _, _, _, _, _, _, _, _, rfl, I0, ⟨by simp, by simp, Int.le_refl _, fun _ => rfl⟩, by simp [Keys3], Nat.le_refl _, by show (0 : Int) + _ ≤ _; decide⟩ ?_ ?_
    · rintro i σ H4 hi ⟨A, r, v4, v5, v6, v7, v8, v9, v10, v11, v12, v13, v14, rfl, I4, g, hK, hl, hA⟩
      walk_at "my_rd"
      refine ⟨p, l0, 3, rfl, I4.pot, by omega, by omega, fun kd H5 k0 k1 pot5 kp5 => ?_⟩
      have I5 := I4.next n kp5 pot5
      walk_at "my_rd"
      refine q_lstK (Nat.le_of_ble_eq_true rfl) fun f nf => ?_
      have I6 := I5.same (Same.new (w := .lst [.str "ann", .str "bob", .str "cyd"]) (Same.refl _) nf)
      have hf : upd H5 f (.lst [.str "ann", .str "bob", .str "cyd"]) f = some (.lst [.str "ann", .str "bob", .str "cyd"]) := upd_same
      generalize upd H5 f (.lst [.str "ann", .str "bob", .str "cyd"]) = H6 at I6 hf
      walk_at "my_rd"
      refine ⟨p, l0, 3, rfl, I6.pot, by omega, by omega, fun x H7 x0 x1 pot7 kp7 => ?_⟩
      have I7 := I6.next n kp7 pot7
      have hf7 := kp7.get hf (pot5.nep nf)
      obtain ⟨ac, hac, hac3⟩ : ∃ ac : Str, atI [V.str "ann", .str "bob", .str "cyd"] x = some (.str ac) ∧ ac ∈ names3 := by
        have : x = 0 ∨ x = 1 ∨ x = 2 := by omega
        rcases this with rfl | rfl | rfl
        · exact ⟨_, at_int (n := 0) rfl rfl, by decide⟩
        · exact ⟨_, at_int (n := 1) rfl rfl, by decide⟩
        · exact ⟨_, at_int (n := 2) rfl rfl, by decide⟩
      refine q_ixLt hf7 hac ?_
      clear hf hf7 kp7
      have hbk := I7.bk.k
      walk_at "my_rd"
      refine q_dG2a I7.bk.e ?_
      walk_at "my_rd"
      refine q_dG2S I7.bk.e ?_
      rw [rowK_get]
      have hh0 := getRow_nn g.nn ac
      have hh1 := getRow_le g.nn ac
      have hge := g.ge
      have ha0 := g.a0
      generalize hh : getRow r ac = hel at hh0 hh1
      walk_at "my_rd"
      refine ⟨p, l0, 50, rfl, I7.pot, by omega, by omega, fun y H8 y0 y1 pot8 kp8 => ?_⟩
      have I8 := I7.next n kp8 pot8
      walk_at "my_rd"
      have e9 : (10 : Int) ^ (9 : Int).toNat = 1000000000 := by decide
      rw [e9]
      refine q_lstK (Nat.le_of_ble_eq_true rfl) fun f2 nf2 => ?_
      have I9 := I8.same (Same.new (w := .lst [.int 0, .int 1, .int hel, .int (hel + 1), .int (hel / 2), .int y, .int 1000000000]) (Same.refl _) nf2)
      have hf : upd H8 f2 (.lst [.int 0, .int 1, .int hel, .int (hel + 1), .int (hel / 2), .int y, .int 1000000000]) f2 = some (.lst [.int 0, .int 1, .int hel, .int (hel + 1), .int (hel / 2), .int y, .int 1000000000]) := upd_same
      generalize upd H8 f2 (.lst [.int 0, .int 1, .int hel, .int (hel + 1), .int (hel / 2), .int y, .int 1000000000]) = H9 at I9 hf
      walk_at "my_rd"
      refine ⟨p, l0, 7, rfl, I9.pot, by omega, by omega, fun z H10 z0 z1 pot10 kp10 => ?_⟩
      have I10 := I9.next n kp10 pot10
      have hf10 := kp10.get hf (pot8.nep nf2)
      obtain ⟨am, ham, am0, am1⟩ : ∃ am : Int, atI [V.int 0, .int 1, .int hel, .int (hel + 1), .int (hel / 2), .int y, .int 1000000000] z = some (.int am) ∧ 0 ≤ am ∧ (am ≤ 1000000000 ∨ am ≤ A + 1) := by
        have : z = 0 ∨ z = 1 ∨ z = 2 ∨ z = 3 ∨ z = 4 ∨ z = 5 ∨ z = 6 := by omega
        rcases this with rfl | rfl | rfl | rfl | rfl | rfl | rfl
        · exact ⟨_, at_int (n := 0) rfl rfl, by omega, by omega⟩
        · exact ⟨_, at_int (n := 1) rfl rfl, by omega, by omega⟩
        · exact ⟨_, at_int (n := 2) rfl rfl, by omega, by omega⟩
        · exact ⟨_, at_int (n := 3) rfl rfl, by omega, by omega⟩
        · exact ⟨_, at_int (n := 4) rfl rfl, by omega, by omega⟩
        · exact ⟨_, at_int (n := 5) rfl rfl, by omega, by omega⟩
        · exact ⟨_, at_int (n := 6) rfl rfl, by omega, by omega⟩
      refine q_ixLt hf10 ham ?_
      clear hf hf10 kp10 ham
      obtain ⟨dx0, ho10⟩ := I10.po.o
      walk_at "my_rd"
      refine q_methK ho10 (lk2 (by decide +kernel) (by decide +kernel)) fun R hR => ?_
      walk_at "my_rd"
      refine hR _ _ ⟨b, d, A, r, rfl, I10.po, ?_⟩
      walk_at "my_rd"
      refine q_methK ho10 (lk2 (by decide +kernel) (by decide +kernel)) fun R hR => ?_
      walk_at "my_rd"
      refine hR _ _ ⟨b, d, A, r, rfl, I10.po, ?_⟩
      walk_at "my_rd"
      refine q_tupK (Nat.le_of_ble_eq_true rfl) fun bf nbf => ?_
      have I11 := I10.same (Same.new (w := .tup [.int A, .int (sumR r)]) (Same.refl _) nbf)
      have hbf : upd H10 bf (.tup [.int A, .int (sumR r)]) bf = some (.tup [.int A, .int (sumR r)]) := upd_same
      generalize upd H10 bf (.tup [.int A, .int (sumR r)]) = H11 at I11 hbf
      have hi40 : i ≤ 40 := by omega
      have hAm := hA.lt (show i ≤ 41 by omega)
      have hbd : Bd A am := hA.bd (by omega) am0 (by omega)
      walk_at "my_rd"
      refine ⟨b, d, A, r, kd, ac, am, rfl, I11.po, g, hbd, by omega, fun H12 po12 kq12 => ?_⟩
      have I12 := I11.pool n kq12 po12
      have hbf12 : H12 bf = some (.tup [.int A, .int (sumR r)]) := by
        obtain ⟨dx, ho⟩ := I11.po.o
        exact kq12 _ _ hbf (ne_of hbf ho (by intro z; cases z)) (ne_of hbf I11.po.d (by intro z; cases z))
      walk_at "my_rd"
      refine ⟨bk, e, A, r, kd, ac, am, rfl, I12.bk, g, hbd, by omega, fun H13 bk13 kq13 => ?_⟩
      have I13 := I12.book n kq13 bk13
      have hbf13 : H13 bf = some (.tup [.int A, .int (sumR r)]) := kq13 _ _ hbf12 (ne_of hbf12 I12.bk.k (by intro z; cases z)) (ne_of hbf12 I12.bk.e (by intro z; cases z))
      have gd := g.due (kd := kd) (x := ac) (i := am)
      have hK' := Keys3.due (kd := kd) (i := am) (A := A) hK hac3
      have hl' := due_len (kd := kd) (x := ac) (i := am) (A := A) (r := r)
      have hup := due_up (kd := kd) (x := ac) (i := am) g am0
      have hfair := due_fair (kd := kd) (x := ac) (i := am) g
      have hA' := hA.up g.a0 am1 hup
      obtain ⟨hsc, hscal⟩ := dueP_int (kd := kd) (x := ac) (i := am) (A := A) (r := r)
      generalize hdue : dueP kd ac am A r = due at gd hK' hl' hup hfair hA' hsc hscal I13
      obtain ⟨dv, A', r'⟩ := due
      replace gd : Good A' r' := gd
      replace hup : A' ≤ A + am := hup
      replace hfair : A * sumR r' ≤ A' * sumR r := hfair
      replace hA' : BdA (i + 1) A' := hA'
      replace hl' : r'.length ≤ r.length + 1 := hl'
      replace hK' : Keys3 r' := hK'
      replace hsc : scV dv = true := hsc
      replace hscal : scal dv dv = true := hscal
      replace I13 : LP T.C_Pool p l0 b d bk e A' A' r' r' H13 := I13
      clear I4 I5 I6 I7 I8 I9 I10 I11 I12 kp5 kp8 kq12 kq13 po12 bk13 pot5 pot7 pot8 pot10
      walk_at "my_rd"
      refine q_cut (Mid := fun σ' H' => σ' = [some (.ref a0), some (.ref p), some (.ref b), some (.ref bk), some (.int i), v5, some (.int kd), some (.str ac), some (.int hel), some (.int am), some (.ref bf), some dv, some dv, v13, v14] ∧ H' = H13) ?_ ?_
      · walk_at "my_rd"
        refine q_ne hscal ?_
        rw [decide_eq_true rfl]
        walk_at "my_rd"
        refine ⟨dv, rfl, hsc, ?_⟩
        walk_at "my_rd"
        generalize hbb : (match dv with | .int _ => true | _ => false) = bb
        refine q_and2 (fun h => ?_) (fun h => ?_)
        · walk_at "my_rd"
          refine ⟨dv, rfl, hsc, ?_⟩
          walk_at "my_rd"
          first | rw [hbb, h] | rw [h]
          walk_at "my_rd"
          exact ⟨rfl, rfl⟩
        · walk_at "my_rd"
          exact ⟨rfl, rfl⟩
      · rintro σ' H' ⟨rfl, rfl⟩
        walk_at "my_rd"
        refine ⟨e, _, I13.bk.e, trivial, fun od => ?_⟩
        have he0 := I13.bk.e
        have hbke := I13.bk.ne
        have hF : upd H' e (.frz od (.dK (rowK r'))) e = some (.frz od (.dK (rowK r'))) := upd_same
        have keep : ∀ c o, H' c = some o → c ≠ e → upd H' e (.frz od (.dK (rowK r'))) c = some o := fun c o q n => upd_other n q
        generalize hHF : upd H' e (.frz od (.dK (rowK r'))) = HF at hF keep
        have hbkF := keep _ _ I13.bk.k hbke
        refine q_lc ?_
        unfold iKeys
        refine q_op ?_
        refine q_var (v := .ref bk) rfl ?_
        refine q_c ?_
        refine q_ixLt hbkF (at_int (n := 1) rfl rfl) ?_
        refine ⟨e, od, rfl, .inl ⟨rowK r', hF, fun D nD => ?_⟩⟩
        refine lc_it walk_keys (fun i H2 => Same HF H2 ∧ H2 D = some (.lst (((r'.take i).map (·.2)).map V.int))) ⟨Same.new (Same.refl _) nD, upd_same⟩ (fun i H2 _ ⟨sm, _⟩ => sm _ _ hF) ?_ ?_
        · rintro i v H2 H3 hi ⟨sm, hD⟩ ⟨rfl, k2, v2, hkv, rfl⟩
          obtain ⟨q, hq, rfl, rfl⟩ := rowK_item hkv
          have hbk3 := sm _ _ hbkF
          refine q_gName ⟨rfl, ?_⟩
          refine q_yes ?_
          refine iteT ?_
          walk_at "my_rd"
          refine ⟨e, .int q.2, rfl, .inl ⟨rowK r', .inr q.1, .inr ⟨od, sm _ _ hF⟩, rfl, (row_at gd.nd hq).symm⟩, ?_⟩
          refine ⟨_, hD, by rw [List.length_map, List.length_map, List.length_take]; exact small1000 (by have : r'.length ≤ r.length + 1 := hl'; omega), Same.new sm nD, ?_⟩
          rw [upd_same, take_snoc' hq, List.map_append, List.map_append]
          rfl
        · rintro H2 ⟨sm, hD⟩
          have el : (rowK r').length = r'.length := List.length_map ..
          rw [el, List.take_length] at hD
          refine ⟨sm _ _ hF, ?_⟩
          have nDd : D ≠ e := fun q => by rw [q, hF] at nD; cases nD
          have smB : Same H' (upd H2 e (.dK (rowK r'))) := by
            intro c o q
            by_cases z : c = e
            · rw [z] at q ⊢
              rw [he0] at q
              rw [upd_same, q]
            · exact upd_other z (sm _ _ (keep _ _ q z))
          have hD3 : upd H2 e (.dK (rowK r')) D = some (.lst ((r'.map (·.2)).map V.int)) := upd_other nDd hD
          have I14 := I13.same smB
          have hbf14 := smB _ _ hbf13
          generalize upd H2 e (.dK (rowK r')) = H14 at hD3 I14 hbf14
          walk_at "my_rd"
          refine q_sum (sqL hD3) ?_
          have esum : (r'.map (·.2)).sum = sumR r' := rfl
          rw [esum]
          clear hF keep hHF hbkF hD3 smB nD he0
          have hbk14 := I14.bk.k
          obtain ⟨dx14, ho14⟩ := I14.po.o
          walk_at "my_rd"
          refine q_methK ho14 (lk2 (by decide +kernel) (by decide +kernel)) fun R hR => ?_
          walk_at "my_rd"
          refine hR _ _ ⟨b, d, A', r', rfl, I14.po, ?_⟩
          walk_at "my_rd"
          rw [decide_eq_true rfl]
          walk_at "my_rd"
          refine q_methK ho14 (lk2 (by decide +kernel) (by decide +kernel)) fun R hR => ?_
          walk_at "my_rd"
          refine hR _ _ ⟨b, d, A', r', rfl, I14.po, ?_⟩
          walk_at "my_rd"
          rw [decide_eq_true rfl]
          walk_at "my_rd"
          refine q_lstK (Nat.le_of_ble_eq_true rfl) fun nl nnl => ?_
          have I15 := I14.same (Same.new (w := .lst [.str "ann", .str "bob", .str "cyd", .str "dee"]) (Same.refl _) nnl)
          have hbf15 := upd_new (w := .lst [.str "ann", .str "bob", .str "cyd", .str "dee"]) nnl hbf14
          have hnl : upd H14 nl (.lst [.str "ann", .str "bob", .str "cyd", .str "dee"]) nl = some (.lst ((["ann", "bob", "cyd", "dee"] : List Str).map V.str)) := upd_same
          generalize upd H14 nl (.lst [.str "ann", .str "bob", .str "cyd", .str "dee"]) = H15 at I15 hbf15 hnl
          walk_at "my_rd"
          refine q_lcL (sqL hnl) fun D2 nD2 => ⟨fun i H' => Same H15 H' ∧ H' D2 = some (.lst ((List.replicate i false).map V.bl)), ⟨Same.new (Same.refl _) nD2, upd_same⟩, fun i H' _ ⟨sm, _⟩ => sqL (sm _ _ hnl), ?_, ?_⟩
          · rintro i x H' hx ⟨sm, hD⟩
            obtain ⟨y, rfl, _⟩ := strs_at hx
            have I16 := I15.same sm
            obtain ⟨dx16, ho16⟩ := I16.po.o
            have hbk16 := I16.bk.k
            have hi4 : i < 4 := (List.getElem?_eq_some_iff.mp hx).1
            walk_at "my_rd"
            refine ⟨rfl, ?_⟩
            walk_at "my_rd"
            refine q_methK ho16 (lk2 (by decide +kernel) (by decide +kernel)) fun R hR => ?_
            walk_at "my_rd"
            refine hR _ _ ⟨b, d, A', r', y, rfl, I16.po, ?_⟩
            walk_at "my_rd"
            refine q_dG2a I16.bk.e ?_
            walk_at "my_rd"
            refine q_dG2S I16.bk.e ?_
            rw [rowK_get]
            walk_at "my_rd"
            rw [decide_eq_true rfl]
            walk_at "my_rd"
            refine q_accK hD (by rw [List.length_map, List.length_replicate]; exact small1000 (by omega)) ⟨Same.new sm nD2, ?_⟩
            rw [upd_same, List.replicate_succ', List.map_append]
            rfl
          · rintro H16 ⟨sm, hD⟩
            have I16 := I15.same sm
            have hbf16 := sm _ _ hbf15
            walk_at "my_rd"
            refine q_any (sqL hD) ?_
            rw [any_false]
            walk_at "my_rd"
            obtain ⟨dx16, ho16⟩ := I16.po.o
            refine q_cut (Mid := fun σ' H' => σ' = [some (.ref a0), some (.ref p), some (.ref b), some (.ref bk), some (.int i), v5, some (.int kd), some (.str ac), some (.int hel), some (.int am), some (.ref bf), some dv, some dv, some (.int (sumR r')), v14] ∧ H' = H16) ?_ ?_
            · walk_at "my_rd"
              refine q_and2 (fun h => ?_) (fun h => ?_)
              · walk_at "my_rd"
                refine q_and2 (fun h => ?_) (fun h => ?_)
                · walk_at "my_rd"
                  refine q_methK ho16 (lk2 (by decide +kernel) (by decide +kernel)) fun R hR => ?_
                  walk_at "my_rd"
                  refine hR _ _ ⟨b, d, A', r', rfl, I16.po, ?_⟩
                  walk_at "my_rd"
                  have hA'2 := hA'.lt (show i + 1 ≤ 41 by omega)
                  have gs := g.s0
                  have gds := gd.s0
                  have gdg := gd.ge
                  refine q_I (bdMul gd.a0 (by rw [pow80]; omega) gs (by rw [pow80]; omega)) ?_
                  walk_at "my_rd"
                  refine q_I (bdMul ha0 (by rw [pow80]; omega) gds (by rw [pow80]; omega)) ?_
                  walk_at "my_rd"
                  rw [decide_eq_false (show ¬ A' * sumR r < A * sumR r' from Int.not_lt.mpr hfair)]
                  walk_at "my_rd"
                  exact ⟨rfl, rfl⟩
                · walk_at "my_rd"
                  exact ⟨rfl, rfl⟩
              · walk_at "my_rd"
                exact ⟨rfl, rfl⟩
            · rintro σ' H' ⟨rfl, rfl⟩
              have fin : LP T.C_Pool p l0 b d bk e A' A' r' r' H' ∧ Good A' r' ∧ Keys3 r' ∧ r'.length ≤ 2 * (i + 1) ∧ BdA (i + 1) A' := ⟨I16, gd, hK', by omega, hA'⟩
              walk_at "my_rd"
              refine q_and2 (fun h => ?_) (fun h => ?_)
              · have h := dec_t h
                walk_at "my_rd"
                refine ⟨dv, rfl, hsc, ?_⟩
                walk_at "my_rd"
                refine q_and2 (fun h2 => ?_) (fun h2 => ?_)
                · walk_at "my_rd"
                  refine ⟨p, l0, 3, rfl, I16.pot, by omega, by omega, fun u H17 u0 u1 pot17 kp17 => ?_⟩
                  have I17 := I16.next n kp17 pot17
                  walk_at "my_rd"
                  refine q_if2 (fun h3 => ?_) (fun h3 => ?_)
                  · subst h
                    obtain ⟨hi1, hc1, rfl, rfl, rfl⟩ := due_dep hdue (by cases dv <;> first | exact ⟨_, rfl⟩ | cases h2)
                    have hcle := cnt_le g hi1
                    have hgr : getRow (putRow r ac (getRow r ac + cntP A r am)) ac = getRow r ac + cntP A r am := by rw [getRow_put, if_pos rfl]
                    have hback := back_le (x := ac) g hi1 hc1
                    have hlt := hA'.lt (show i + 1 ≤ 41 by omega)
                    generalize hcc : cntP A r am = c at *
                    generalize hrr : putRow r ac (getRow r ac + c) = r1 at *
                    generalize hAA : A + am = A1 at *
                    have hnc : ¬ getRow r1 ac < c := by omega
                    obtain ⟨dx17, ho17⟩ := I17.po.o
                    have hbd1 : Bd A1 c := hA'.bd (by omega) (by omega) (by omega)
                    have g2 := gd.due (kd := 1) (x := ac) (i := c)
                    have hK2 := Keys3.due (kd := 1) (i := c) (A := A1) hK' hac3
                    have hl2 := due_len (kd := 1) (x := ac) (i := c) (A := A1) (r := r1)
                    rw [due_red hc1 hnc] at g2 hK2 hl2
                    have hpn := paid_nn (A := A1) (r := r1) (i := c) gd (by omega)
                    walk_at "my_rd"
                    refine q_methK ho17 (lk2 (by decide +kernel) (by decide +kernel)) fun R hR => ?_
                    walk_at "my_rd"
                    refine hR _ _ ⟨b, d, A1, r1, ac, c, rfl, I17.po, gd, hbd1, by omega, fun q => absurd q hc1, fun _ q => absurd q hnc, fun _ _ H18 po18 kq18 => ?_⟩
                    have I18 := I17.pool n kq18 po18
                    walk_at "my_rd"
                    rw [decide_eq_false (by omega)]
                    walk_at "my_rd"
                    refine ⟨bk, e, A1, r1, 1, ac, c, rfl, I18.bk, gd, hbd1, by omega, fun H19 bk19 kq19 => ?_⟩
                    rw [due_red hc1 hnc] at bk19 ⊢
                    have I19 := I18.book n kq19 bk19
                    walk_at "my_rd"
                    rw [decide_eq_true rfl]
                    walk_at "my_rd"
                    have hl3 : (putRow r1 ac (getRow r1 ac - c)).length ≤ r1.length + 1 := hl2
                    refine ⟨_, _, _, _, _, _, _, _, _, _, _, _, _, rfl, I19, g2, hK2, by omega, ?_⟩
                    unfold BdA at hA' ⊢
                    omega
                  · walk_at "my_rd"
                    exact ⟨A', r', _, _, _, _, _, _, _, _, _, _, _, rfl, I17, fin.2⟩
                · walk_at "my_rd"
                  exact ⟨A', r', _, _, _, _, _, _, _, _, _, _, _, rfl, fin⟩
              · walk_at "my_rd"
                exact ⟨A', r', _, _, _, _, _, _, _, _, _, _, _, rfl, fin⟩
    · rintro σ H4 ⟨A, r, v4, v5, v6, v7, v8, v9, v10, v11, v12, v13, v14, rfl, I4, g, hK, hl, hA⟩
      have hA2 := hA.lt (by omega)
      have hP4 := I4.po
      have hl4 : r.length ≤ 100 := by omega
      clear I0 I4 hS3 hS pot1 pot2 hP sm1 sm2 sm3 hl hA
      walk_at "my_rd"
      refine q_lstK (Nat.le_of_ble_eq_true rfl) fun f nf => ?_
      have hP5 := hP4.same (Same.new (w := .lst [.str "ann", .str "bob", .str "cyd"]) (Same.refl _) nf)
      have hf : upd H4 f (.lst [.str "ann", .str "bob", .str "cyd"]) f = some (.lst (names3.map V.str)) := upd_same
      generalize upd H4 f (.lst [.str "ann", .str "bob", .str "cyd"]) = H5 at hP5 hf
      walk_at "my_rd"
      refine q_forL (sqL hf) (fun i σ H' => ∃ (A : Int) (r : Row) (v4 v5 v6 v7 v8 v9 v10 v11 v12 v13 v14 : Option V), σ = [some (.ref a0), some (.ref p), some (.ref b), some (.ref bk), v4, v5, v6, v7, v8, v9, v10, v11, v12, v13, v14] ∧ PoolAt T.C_Pool H' b d A r ∧ Good A r ∧ Keys3 r ∧ r.length ≤ 100 + i ∧ A < 10000000000000000000000 ∧ (∀ j y, j < i → names3[j]? = some y → getRow r y = 0) ∧ H' f = some (.lst (names3.map V.str)))
        ⟨A, r, _, _, _, _, _, _, _, _, _, _, _, rfl, hP5, g, hK, by omega, hA2, fun j y h _ => absurd h (Nat.not_lt_zero _), hf⟩ (fun i σ H' _ ⟨_, _, _, _, _, _, _, _, _, _, _, _, _, _, _, _, _, _, _, _, q⟩ => sqL q) ?_ ?_
      · clear hP5 g hK hA2 hf hP4 hl4
        rintro i x σ H' hx ⟨A, r, v4, v5, v6, v7, v8, v9, v10, v11, v12, v13, v14, rfl, hP, g, hK, hl, hA, hz, hf⟩
        have hi3 : i < 3 := by
          have := (List.getElem?_eq_some_iff.mp hx).1
          rw [List.length_map] at this
          exact this
        obtain ⟨y, rfl, hy⟩ := strs_at hx
        have hxy : names3[i]? = some y := by
          rw [List.getElem?_map] at hx
          obtain ⟨y2, hy2, e2⟩ := Option.map_eq_some_iff.mp hx
          rw [hy2]
          injection e2 with e2
          rw [e2]
        obtain ⟨dx, ho⟩ := hP.o
        have g0 := getRow_nn g.nn y
        have g1 := getRow_le g.nn y
        have g2 := g.ge
        walk_at "my_rd"
        refine q_methK ho (lk2 (by decide +kernel) (by decide +kernel)) fun R hR => ?_
        walk_at "my_rd"
        refine hR _ _ ⟨b, d, A, r, y, rfl, hP, ?_⟩
        walk_at "my_rd"
        refine q_if2 (fun h => ?_) (fun h => ?_)
        · have h := dec_t h
          have hn1 : ¬ getRow r y < 1 := by omega
          have hn2 : ¬ getRow r y < getRow r y := by omega
          walk_at "my_rd"
          refine q_methK ho (lk2 (by decide +kernel) (by decide +kernel)) fun R hR => ?_
          walk_at "my_rd"
          refine q_methK ho (lk2 (by decide +kernel) (by decide +kernel)) fun R2 hR2 => ?_
          walk_at "my_rd"
          refine hR2 _ _ ⟨b, d, A, r, y, rfl, hP, ?_⟩
          walk_at "my_rd"
          refine hR _ _ ⟨b, d, A, r, y, _, rfl, hP, g, ⟨by rw [pow80]; omega, g0, by rw [pow80]; omega⟩, by omega, fun q => absurd q hn1, fun _ q => absurd q hn2, fun _ _ H2 hP2 kq => ?_⟩
          have gd := g.due (kd := 1) (x := y) (i := getRow r y)
          have hK2 := Keys3.due (kd := 1) (i := getRow r y) (A := A) hK hy
          have hl2 := due_len (kd := 1) (x := y) (i := getRow r y) (A := A) (r := r)
          have hpn := paid_nn (A := A) (r := r) (i := getRow r y) g (by omega)
          rw [due_red hn1 hn2] at gd hK2 hl2
          replace hl2 : (putRow r y (getRow r y - getRow r y)).length ≤ r.length + 1 := hl2
          walk_at "my_rd"
          refine ⟨_, _, _, _, _, _, _, _, _, _, _, _, _, rfl, hP2, gd, hK2, by omega, by omega, fun j y2 hj hy2 => ?_, kq _ _ hf (ne_of hf ho (by intro z; cases z)) (ne_of hf hP.d (by intro z; cases z))⟩
          rw [getRow_put]
          split
          · omega
          · rename_i hne
            by_cases hji : j = i
            · rw [hji, hxy] at hy2
              exact absurd (Option.some.inj hy2) hne
            · exact hz j y2 (by omega) hy2
        · have h := dec_f h
          walk_at "my_rd"
          refine ⟨A, r, _, _, _, _, _, _, _, _, _, _, _, rfl, hP, g, hK, by omega, hA, fun j y2 hj hy2 => ?_, hf⟩
          by_cases hji : j = i
          · rw [hji, hxy] at hy2
            rw [← Option.some.inj hy2]
            omega
          · exact hz j y2 (by omega) hy2
      · clear hP5 g hK hA2 hf hP4 hl4
        rintro σ H' ⟨A, r, v4, v5, v6, v7, v8, v9, v10, v11, v12, v13, v14, rfl, hP, g, hK, hl, hA, hz, hf⟩
        have hs : sumR r = 0 := all_zero g (fun p hp => by
          have := hK p hp
          simpa [names3] using this) (hz 0 _ (by decide) rfl) (hz 1 _ (by decide) rfl) (hz 2 _ (by decide) rfl)
        have ha : A = 0 := g.z hs
        subst ha
        obtain ⟨dx, ho⟩ := hP.o
        walk_at "my_rd"
        refine q_methK ho (lk2 (by decide +kernel) (by decide +kernel)) fun R hR => ?_
        walk_at "my_rd"
        refine hR _ _ ⟨b, d, 0, r, rfl, hP, ?_⟩
        walk_at "my_rd"
        rw [decide_eq_true rfl]
        walk_at "my_rd"
        refine q_methK ho (lk2 (by decide +kernel) (by decide +kernel)) fun R hR => ?_
        walk_at "my_rd"
        refine hR _ _ ⟨b, d, 0, r, rfl, hP, ?_⟩
        rw [hs]
        walk_at "my_rd"
        rw [decide_eq_true rfl]
        walk_at "my_rd"
        exact k _
end

def txt_mk {K : PySem.W.Frag} {h : Heap} {mg : Str → Option Value} (X : K.In h) (G : h.Ns mainGlobals mg)
    {f0 f1 f2 f3 f4 f5 f6 f7 f8 f9 f10 f11 f12 f13 C0 C1 C2 C3 : Addr} {od0 an0 od1 an1 od2 an2 od3 an3 od4 an4 od5 an5 od6 an6 od7 an7 od8 an8 od9 an9 od10 an10 od11 an11 od12 an12 od13 an13 : Option Addr} {sl0 sl1 sl2 sl3 sl4 sl5 sl6 sl7 sl8 sl9 sl10 sl11 sl12 sl13 : Array (Option Value)} {oc0 kV0 dc0 pm0 cd0 ct0 oc1 kV1 dc1 pm1 cd1 ct1 oc2 kV2 dc2 pm2 cd2 ct2 oc3 kV3 dc3 pm3 cd3 ct3 oc4 kV4 dc4 pm4 cd4 ct4 oc5 kV5 dc5 pm5 cd5 ct5 oc6 kV6 dc6 pm6 cd6 ct6 oc7 kV7 dc7 pm7 cd7 ct7 oc8 kV8 dc8 pm8 cd8 ct8 oc9 kV9 dc9 pm9 cd9 ct9 oc10 kV10 dc10 pm10 cd10 ct10 oc11 kV11 dc11 pm11 cd11 ct11 oc12 kV12 dc12 pm12 cd12 ct12 oc13 kV13 dc13 pm13 cd13 ct13 : Value}
    (a0 : PySem.W.nsIn K mainGlobals "_wall" = some (some (.ref f0)))
    (a8 : PySem.W.nsIn K mainGlobals "_law_pot" = some (some (.ref f8)))
    (a9 : PySem.W.nsIn K mainGlobals "_law_next" = some (some (.ref f9)))
    (a10 : PySem.W.nsIn K mainGlobals "_law_is_int" = some (some (.ref f10)))
    (a11 : PySem.W.nsIn K mainGlobals "_law_do" = some (some (.ref f11)))
    (a12 : PySem.W.nsIn K mainGlobals "_law_due" = some (some (.ref f12)))
    (a13 : PySem.W.nsIn K mainGlobals "law" = some (some (.ref f13)))
    (aC0 : PySem.W.nsIn K mainGlobals "BridgeError" = some (some (.ref C0)))
    (aC1 : PySem.W.nsIn K mainGlobals "InvalidArgument" = some (some (.ref C1)))
    (aC2 : PySem.W.nsIn K mainGlobals "NotEnoughBalance" = some (some (.ref C2)))
    (aC3 : PySem.W.nsIn K mainGlobals "Pool" = some (some (.ref C3)))
    (m1 : PySem.W.findIn K (.ref C3) "__init__" = some (some (.ref f1)))
    (m2 : PySem.W.findIn K (.ref C3) "assets" = some (some (.ref f2)))
    (m3 : PySem.W.findIn K (.ref C3) "shares" = some (some (.ref f3)))
    (m4 : PySem.W.findIn K (.ref C3) "shares_of" = some (some (.ref f4)))
    (m5 : PySem.W.findIn K (.ref C3) "deposit" = some (some (.ref f5)))
    (m6 : PySem.W.findIn K (.ref C3) "redeem" = some (some (.ref f6)))
    (m7 : PySem.W.findIn K (.ref C3) "earn" = some (some (.ref f7)))
    (l0 : K.lookup f0 = some ⟨oc0, od0, .func (PySem.W.fnOf "_wall" "_wall" (defArgs s__wall) (defBody s__wall) (defScope s__wall) .none kV0 dc0 pm0 an0 cd0 ct0), sl0⟩)
    (c0 : PySem.W.codeIn K cd0 "_wall" = true)
    (k0 : PySem.W.keepIn K (.ref f0) = true)
    (l1 : K.lookup f1 = some ⟨oc1, od1, .func (PySem.W.fnOf "__init__" "Pool.__init__" (defArgs s_Pool_init) (defBody s_Pool_init) (defScope s_Pool_init) .none kV1 dc1 pm1 an1 cd1 ct1), sl1⟩)
    (c1 : PySem.W.codeIn K cd1 "Pool.__init__" = true)
    (k1 : PySem.W.keepIn K (.ref f1) = true)
    (l2 : K.lookup f2 = some ⟨oc2, od2, .func (PySem.W.fnOf "assets" "Pool.assets" (defArgs s_Pool_assets) (defBody s_Pool_assets) (defScope s_Pool_assets) .none kV2 dc2 pm2 an2 cd2 ct2), sl2⟩)
    (c2 : PySem.W.codeIn K cd2 "Pool.assets" = true)
    (k2 : PySem.W.keepIn K (.ref f2) = true)
    (l3 : K.lookup f3 = some ⟨oc3, od3, .func (PySem.W.fnOf "shares" "Pool.shares" (defArgs s_Pool_shares) (defBody s_Pool_shares) (defScope s_Pool_shares) .none kV3 dc3 pm3 an3 cd3 ct3), sl3⟩)
    (c3 : PySem.W.codeIn K cd3 "Pool.shares" = true)
    (k3 : PySem.W.keepIn K (.ref f3) = true)
    (l4 : K.lookup f4 = some ⟨oc4, od4, .func (PySem.W.fnOf "shares_of" "Pool.shares_of" (defArgs s_Pool_shares_of) (defBody s_Pool_shares_of) (defScope s_Pool_shares_of) .none kV4 dc4 pm4 an4 cd4 ct4), sl4⟩)
    (c4 : PySem.W.codeIn K cd4 "Pool.shares_of" = true)
    (k4 : PySem.W.keepIn K (.ref f4) = true)
    (l5 : K.lookup f5 = some ⟨oc5, od5, .func (PySem.W.fnOf "deposit" "Pool.deposit" (defArgs s_Pool_deposit) (defBody s_Pool_deposit) (defScope s_Pool_deposit) .none kV5 dc5 pm5 an5 cd5 ct5), sl5⟩)
    (c5 : PySem.W.codeIn K cd5 "Pool.deposit" = true)
    (k5 : PySem.W.keepIn K (.ref f5) = true)
    (l6 : K.lookup f6 = some ⟨oc6, od6, .func (PySem.W.fnOf "redeem" "Pool.redeem" (defArgs s_Pool_redeem) (defBody s_Pool_redeem) (defScope s_Pool_redeem) .none kV6 dc6 pm6 an6 cd6 ct6), sl6⟩)
    (c6 : PySem.W.codeIn K cd6 "Pool.redeem" = true)
    (k6 : PySem.W.keepIn K (.ref f6) = true)
    (l7 : K.lookup f7 = some ⟨oc7, od7, .func (PySem.W.fnOf "earn" "Pool.earn" (defArgs s_Pool_earn) (defBody s_Pool_earn) (defScope s_Pool_earn) .none kV7 dc7 pm7 an7 cd7 ct7), sl7⟩)
    (c7 : PySem.W.codeIn K cd7 "Pool.earn" = true)
    (k7 : PySem.W.keepIn K (.ref f7) = true)
    (l8 : K.lookup f8 = some ⟨oc8, od8, .func (PySem.W.fnOf "_law_pot" "_law_pot" (defArgs s_L_pot) (defBody s_L_pot) (defScope s_L_pot) .none kV8 dc8 pm8 an8 cd8 ct8), sl8⟩)
    (c8 : PySem.W.codeIn K cd8 "_law_pot" = true)
    (k8 : PySem.W.keepIn K (.ref f8) = true)
    (l9 : K.lookup f9 = some ⟨oc9, od9, .func (PySem.W.fnOf "_law_next" "_law_next" (defArgs s_L_next) (defBody s_L_next) (defScope s_L_next) .none kV9 dc9 pm9 an9 cd9 ct9), sl9⟩)
    (c9 : PySem.W.codeIn K cd9 "_law_next" = true)
    (k9 : PySem.W.keepIn K (.ref f9) = true)
    (l10 : K.lookup f10 = some ⟨oc10, od10, .func (PySem.W.fnOf "_law_is_int" "_law_is_int" (defArgs s_L_is_int) (defBody s_L_is_int) (defScope s_L_is_int) .none kV10 dc10 pm10 an10 cd10 ct10), sl10⟩)
    (c10 : PySem.W.codeIn K cd10 "_law_is_int" = true)
    (k10 : PySem.W.keepIn K (.ref f10) = true)
    (l11 : K.lookup f11 = some ⟨oc11, od11, .func (PySem.W.fnOf "_law_do" "_law_do" (defArgs s_L_do) (defBody s_L_do) (defScope s_L_do) .none kV11 dc11 pm11 an11 cd11 ct11), sl11⟩)
    (c11 : PySem.W.codeIn K cd11 "_law_do" = true)
    (k11 : PySem.W.keepIn K (.ref f11) = true)
    (l12 : K.lookup f12 = some ⟨oc12, od12, .func (PySem.W.fnOf "_law_due" "_law_due" (defArgs s_L_due) (defBody s_L_due) (defScope s_L_due) .none kV12 dc12 pm12 an12 cd12 ct12), sl12⟩)
    (c12 : PySem.W.codeIn K cd12 "_law_due" = true)
    (k12 : PySem.W.keepIn K (.ref f12) = true)
    (l13 : K.lookup f13 = some ⟨oc13, od13, .func (PySem.W.fnOf "law" "law" (defArgs s_law) (defBody s_law) (defScope s_law) .none kV13 dc13 pm13 an13 cd13 ct13), sl13⟩)
    (c13 : PySem.W.codeIn K cd13 "law" = true)
    (k13 : PySem.W.keepIn K (.ref f13) = true)
    (xe0 : PySem.W.excIn K C0 [.type "ValueError", .type "Exception", .type "BaseException", .type "object"] "ValueError.__new__" = true)
    (ke0 : PySem.W.keepIn K (.ref C0) = true)
    (be0 : PySem.W.subIn K (.ref C0) (.type "BaseException") = some true)
    (te0 : PySem.W.typeIn K (.ref C0) = some (.type "type"))
    (ie0 : PySem.W.isClsIn K C0 = true)
    (se0 : PySem.W.subIn K (.ref C0) (.ref C0) = some true)
    (hd0 : PySem.W.hasDictIn K C0 = true)
    (xe1 : PySem.W.excIn K C1 [.type "ValueError", .type "Exception", .type "BaseException", .type "object"] "ValueError.__new__" = true)
    (ke1 : PySem.W.keepIn K (.ref C1) = true)
    (be1 : PySem.W.subIn K (.ref C1) (.type "BaseException") = some true)
    (te1 : PySem.W.typeIn K (.ref C1) = some (.type "type"))
    (ie1 : PySem.W.isClsIn K C1 = true)
    (se1 : PySem.W.subIn K (.ref C1) (.ref C1) = some true)
    (hg1 : PySem.W.findIn K (.ref C1) "__getattribute__" = some (some (.builtin "BaseException.__getattribute__")))
    (hk1 : PySem.W.findIn K (.ref C1) "__getattr__" = some none)
    (hd1 : PySem.W.hasDictIn K C1 = true)
    (ha1 : PySem.W.findIn K (.ref C1) "__class__" = some (some (.builtin "object.__class__")))
    (hm1 : PySem.W.mroIn K C1 (.type "object") = some true)
    (hn1 : PySem.W.specialIn K (.builtin "object.__class__") "__get__" = some (some (.builtin "getset_descriptor.__get__")))
    (ht1 : PySem.W.takesIn K (.builtin "object.__class__") = some true)
    (ue1 : PySem.W.subIn K (.ref C1) (.ref C0) = some true)
    (xe2 : PySem.W.excIn K C2 [.type "ValueError", .type "Exception", .type "BaseException", .type "object"] "ValueError.__new__" = true)
    (ke2 : PySem.W.keepIn K (.ref C2) = true)
    (be2 : PySem.W.subIn K (.ref C2) (.type "BaseException") = some true)
    (te2 : PySem.W.typeIn K (.ref C2) = some (.type "type"))
    (ie2 : PySem.W.isClsIn K C2 = true)
    (se2 : PySem.W.subIn K (.ref C2) (.ref C2) = some true)
    (hg2 : PySem.W.findIn K (.ref C2) "__getattribute__" = some (some (.builtin "BaseException.__getattribute__")))
    (hk2 : PySem.W.findIn K (.ref C2) "__getattr__" = some none)
    (hd2 : PySem.W.hasDictIn K C2 = true)
    (ha2 : PySem.W.findIn K (.ref C2) "__class__" = some (some (.builtin "object.__class__")))
    (hm2 : PySem.W.mroIn K C2 (.type "object") = some true)
    (hn2 : PySem.W.specialIn K (.builtin "object.__class__") "__get__" = some (some (.builtin "getset_descriptor.__get__")))
    (ht2 : PySem.W.takesIn K (.builtin "object.__class__") = some true)
    (ue2 : PySem.W.subIn K (.ref C2) (.ref C0) = some true)
    (pg3 : PySem.W.plainGet K C3 Str.empty = true)
    (hd3 : PySem.W.hasDictIn K C3 = true)
    (po3 : PySem.W.plainOver K C3 = true)
    (sa3 : PySem.W.findIn K (.ref C3) "__setattr__" = some (some (.builtin "object.__setattr__")))
    (mk3 : PySem.W.makesIn K C3 = true)
    (kc3 : PySem.W.keepIn K (.ref C3) = true)
    (i1 : PySem.W.isFn K (.ref f1) = true)
    (i2 : PySem.W.isFn K (.ref f2) = true)
    (i3 : PySem.W.isFn K (.ref f3) = true)
    (i4 : PySem.W.isFn K (.ref f4) = true)
    (i5 : PySem.W.isFn K (.ref f5) = true)
    (i6 : PySem.W.isFn K (.ref f6) = true)
    (i7 : PySem.W.isFn K (.ref f7) = true)
    (n3_0 : PySem.W.findIn K (.ref C3) "_assets" = some none)
    (n3_1 : PySem.W.findIn K (.ref C3) "_held" = some none)
    (hq0 : PySem.W.kitOne K (.ref C1) (.ref C2) = some false)
    (hq1 : PySem.W.kitOne K (.ref C2) (.ref C1) = some false)
    (z0 : PySem.W.nsIn K mainGlobals "abs" = some none)
    (z1 : PySem.W.nsIn K mainGlobals "any" = some none)
    (z2 : PySem.W.nsIn K mainGlobals "bool" = some none)
    (z3 : PySem.W.nsIn K mainGlobals "int" = some none)
    (z4 : PySem.W.nsIn K mainGlobals "isinstance" = some none)
    (z5 : PySem.W.nsIn K mainGlobals "len" = some none)
    (z6 : PySem.W.nsIn K mainGlobals "list" = some none)
    (z7 : PySem.W.nsIn K mainGlobals "min" = some none)
    (z8 : PySem.W.nsIn K mainGlobals "range" = some none)
    (z9 : PySem.W.nsIn K mainGlobals "sum" = some none) : Txt K mg where
  f__wall := f0
  d__wall := PySem.W.fnOf "_wall" "_wall" (defArgs s__wall) (defBody s__wall) (defScope s__wall) .none kV0 dc0 pm0 an0 cd0 ct0
  F__wall := fun_mk (st := s__wall) l0 c0 k0
  b__wall := Fun.binds (fun_mk (st := s__wall) l0 c0 k0) (ps := ["k"]) fun _ _ _ _ _ _ us hl => match us, hl with | [_], _ => rfl
  g__wall := PySem.W.mg_of X G a0
  f_Pool_init := f1
  d_Pool_init := PySem.W.fnOf "__init__" "Pool.__init__" (defArgs s_Pool_init) (defBody s_Pool_init) (defScope s_Pool_init) .none kV1 dc1 pm1 an1 cd1 ct1
  F_Pool_init := fun_mk (st := s_Pool_init) l1 c1 k1
  b_Pool_init := Fun.binds (fun_mk (st := s_Pool_init) l1 c1 k1) (ps := ["self"]) fun _ _ _ _ _ _ us hl => match us, hl with | [_], _ => rfl
  f_Pool_assets := f2
  d_Pool_assets := PySem.W.fnOf "assets" "Pool.assets" (defArgs s_Pool_assets) (defBody s_Pool_assets) (defScope s_Pool_assets) .none kV2 dc2 pm2 an2 cd2 ct2
  F_Pool_assets := fun_mk (st := s_Pool_assets) l2 c2 k2
  b_Pool_assets := Fun.binds (fun_mk (st := s_Pool_assets) l2 c2 k2) (ps := ["self"]) fun _ _ _ _ _ _ us hl => match us, hl with | [_], _ => rfl
  f_Pool_shares := f3
  d_Pool_shares := PySem.W.fnOf "shares" "Pool.shares" (defArgs s_Pool_shares) (defBody s_Pool_shares) (defScope s_Pool_shares) .none kV3 dc3 pm3 an3 cd3 ct3
  F_Pool_shares := fun_mk (st := s_Pool_shares) l3 c3 k3
  b_Pool_shares := Fun.binds (fun_mk (st := s_Pool_shares) l3 c3 k3) (ps := ["self"]) fun _ _ _ _ _ _ us hl => match us, hl with | [_], _ => rfl
  f_Pool_shares_of := f4
  d_Pool_shares_of := PySem.W.fnOf "shares_of" "Pool.shares_of" (defArgs s_Pool_shares_of) (defBody s_Pool_shares_of) (defScope s_Pool_shares_of) .none kV4 dc4 pm4 an4 cd4 ct4
  F_Pool_shares_of := fun_mk (st := s_Pool_shares_of) l4 c4 k4
  b_Pool_shares_of := Fun.binds (fun_mk (st := s_Pool_shares_of) l4 c4 k4) (ps := ["self", "account"]) fun _ _ _ _ _ _ us hl => match us, hl with | [_, _], _ => rfl
  f_Pool_deposit := f5
  d_Pool_deposit := PySem.W.fnOf "deposit" "Pool.deposit" (defArgs s_Pool_deposit) (defBody s_Pool_deposit) (defScope s_Pool_deposit) .none kV5 dc5 pm5 an5 cd5 ct5
  F_Pool_deposit := fun_mk (st := s_Pool_deposit) l5 c5 k5
  b_Pool_deposit := Fun.binds (fun_mk (st := s_Pool_deposit) l5 c5 k5) (ps := ["self", "account", "amount"]) fun _ _ _ _ _ _ us hl => match us, hl with | [_, _, _], _ => rfl
  f_Pool_redeem := f6
  d_Pool_redeem := PySem.W.fnOf "redeem" "Pool.redeem" (defArgs s_Pool_redeem) (defBody s_Pool_redeem) (defScope s_Pool_redeem) .none kV6 dc6 pm6 an6 cd6 ct6
  F_Pool_redeem := fun_mk (st := s_Pool_redeem) l6 c6 k6
  b_Pool_redeem := Fun.binds (fun_mk (st := s_Pool_redeem) l6 c6 k6) (ps := ["self", "account", "count"]) fun _ _ _ _ _ _ us hl => match us, hl with | [_, _, _], _ => rfl
  f_Pool_earn := f7
  d_Pool_earn := PySem.W.fnOf "earn" "Pool.earn" (defArgs s_Pool_earn) (defBody s_Pool_earn) (defScope s_Pool_earn) .none kV7 dc7 pm7 an7 cd7 ct7
  F_Pool_earn := fun_mk (st := s_Pool_earn) l7 c7 k7
  b_Pool_earn := Fun.binds (fun_mk (st := s_Pool_earn) l7 c7 k7) (ps := ["self", "amount"]) fun _ _ _ _ _ _ us hl => match us, hl with | [_, _], _ => rfl
  f_L_pot := f8
  d_L_pot := PySem.W.fnOf "_law_pot" "_law_pot" (defArgs s_L_pot) (defBody s_L_pot) (defScope s_L_pot) .none kV8 dc8 pm8 an8 cd8 ct8
  F_L_pot := fun_mk (st := s_L_pot) l8 c8 k8
  b_L_pot := Fun.binds (fun_mk (st := s_L_pot) l8 c8 k8) (ps := ["script"]) fun _ _ _ _ _ _ us hl => match us, hl with | [_], _ => rfl
  g_L_pot := PySem.W.mg_of X G a8
  f_L_next := f9
  d_L_next := PySem.W.fnOf "_law_next" "_law_next" (defArgs s_L_next) (defBody s_L_next) (defScope s_L_next) .none kV9 dc9 pm9 an9 cd9 ct9
  F_L_next := fun_mk (st := s_L_next) l9 c9 k9
  b_L_next := Fun.binds (fun_mk (st := s_L_next) l9 c9 k9) (ps := ["pot", "limit"]) fun _ _ _ _ _ _ us hl => match us, hl with | [_, _], _ => rfl
  g_L_next := PySem.W.mg_of X G a9
  f_L_is_int := f10
  d_L_is_int := PySem.W.fnOf "_law_is_int" "_law_is_int" (defArgs s_L_is_int) (defBody s_L_is_int) (defScope s_L_is_int) .none kV10 dc10 pm10 an10 cd10 ct10
  F_L_is_int := fun_mk (st := s_L_is_int) l10 c10 k10
  b_L_is_int := Fun.binds (fun_mk (st := s_L_is_int) l10 c10 k10) (ps := ["value"]) fun _ _ _ _ _ _ us hl => match us, hl with | [_], _ => rfl
  g_L_is_int := PySem.W.mg_of X G a10
  f_L_do := f11
  d_L_do := PySem.W.fnOf "_law_do" "_law_do" (defArgs s_L_do) (defBody s_L_do) (defScope s_L_do) .none kV11 dc11 pm11 an11 cd11 ct11
  F_L_do := fun_mk (st := s_L_do) l11 c11 k11
  b_L_do := Fun.binds (fun_mk (st := s_L_do) l11 c11 k11) (ps := ["pool", "kind", "account", "amount"]) fun _ _ _ _ _ _ us hl => match us, hl with | [_, _, _, _], _ => rfl
  g_L_do := PySem.W.mg_of X G a11
  f_L_due := f12
  d_L_due := PySem.W.fnOf "_law_due" "_law_due" (defArgs s_L_due) (defBody s_L_due) (defScope s_L_due) .none kV12 dc12 pm12 an12 cd12 ct12
  F_L_due := fun_mk (st := s_L_due) l12 c12 k12
  b_L_due := Fun.binds (fun_mk (st := s_L_due) l12 c12 k12) (ps := ["book", "kind", "account", "amount"]) fun _ _ _ _ _ _ us hl => match us, hl with | [_, _, _, _], _ => rfl
  g_L_due := PySem.W.mg_of X G a12
  f_law := f13
  d_law := PySem.W.fnOf "law" "law" (defArgs s_law) (defBody s_law) (defScope s_law) .none kV13 dc13 pm13 an13 cd13 ct13
  F_law := fun_mk (st := s_law) l13 c13 k13
  b_law := Fun.binds (fun_mk (st := s_law) l13 c13 k13) (ps := ["script"]) fun _ _ _ _ _ _ us hl => match us, hl with | [_], _ => rfl
  g_law := PySem.W.mg_of X G a13
  C_BridgeError := C0
  g_BridgeError := PySem.W.mg_of X G aC0
  xe_BridgeError := xe0
  ke_BridgeError := ke0
  be_BridgeError := be0
  te_BridgeError := te0
  ie_BridgeError := ie0
  se_BridgeError := se0
  hd_BridgeError := hd0
  C_InvalidArgument := C1
  g_InvalidArgument := PySem.W.mg_of X G aC1
  xe_InvalidArgument := xe1
  ke_InvalidArgument := ke1
  be_InvalidArgument := be1
  te_InvalidArgument := te1
  ie_InvalidArgument := ie1
  se_InvalidArgument := se1
  hg_InvalidArgument := hg1
  hk_InvalidArgument := hk1
  hd_InvalidArgument := hd1
  ha_InvalidArgument := ha1
  hm_InvalidArgument := hm1
  hn_InvalidArgument := hn1
  ht_InvalidArgument := ht1
  ue_InvalidArgument := ue1
  C_NotEnoughBalance := C2
  g_NotEnoughBalance := PySem.W.mg_of X G aC2
  xe_NotEnoughBalance := xe2
  ke_NotEnoughBalance := ke2
  be_NotEnoughBalance := be2
  te_NotEnoughBalance := te2
  ie_NotEnoughBalance := ie2
  se_NotEnoughBalance := se2
  hg_NotEnoughBalance := hg2
  hk_NotEnoughBalance := hk2
  hd_NotEnoughBalance := hd2
  ha_NotEnoughBalance := ha2
  hm_NotEnoughBalance := hm2
  hn_NotEnoughBalance := hn2
  ht_NotEnoughBalance := ht2
  ue_NotEnoughBalance := ue2
  C_Pool := C3
  cl_Pool := ⟨pg3, hd3, po3, sa3⟩
  g_Pool := PySem.W.mg_of X G aC3
  mk_Pool := ⟨mk3, m1, i1, kc3⟩
  m_Pool_assets := ⟨m2, i2, k2⟩
  m_Pool_shares := ⟨m3, i3, k3⟩
  m_Pool_shares_of := ⟨m4, i4, k4⟩
  m_Pool_deposit := ⟨m5, i5, k5⟩
  m_Pool_redeem := ⟨m6, i6, k6⟩
  m_Pool_earn := ⟨m7, i7, k7⟩
  n_Pool_assets := n3_0
  n_Pool_held := n3_1
  hq_InvalidArgument_NotEnoughBalance := hq0
  hq_NotEnoughBalance_InvalidArgument := hq1
  z_abs := PySem.W.mg_none_of X G z0
  z_any := PySem.W.mg_none_of X G z1
  z_bool := PySem.W.mg_none_of X G z2
  z_int := PySem.W.mg_none_of X G z3
  z_isinstance := PySem.W.mg_none_of X G z4
  z_len := PySem.W.mg_none_of X G z5
  z_list := PySem.W.mg_none_of X G z6
  z_min := PySem.W.mg_none_of X G z7
  z_range := PySem.W.mg_none_of X G z8
  z_sum := PySem.W.mg_none_of X G z9
theorem all_mk {l : PySem.W.OpenLaw} {w : World} {K : PySem.W.Frag} {h : Heap} {mg : Str → Option Value} {fa : Addr} (X : K.In h) (G : h.Ns mainGlobals mg) (hfa : mg "law" = some (.ref fa))
    {f0 f1 f2 f3 f4 f5 f6 f7 f8 f9 f10 f11 f12 f13 C0 C1 C2 C3 : Addr} {od0 an0 od1 an1 od2 an2 od3 an3 od4 an4 od5 an5 od6 an6 od7 an7 od8 an8 od9 an9 od10 an10 od11 an11 od12 an12 od13 an13 : Option Addr} {sl0 sl1 sl2 sl3 sl4 sl5 sl6 sl7 sl8 sl9 sl10 sl11 sl12 sl13 : Array (Option Value)} {oc0 kV0 dc0 pm0 cd0 ct0 oc1 kV1 dc1 pm1 cd1 ct1 oc2 kV2 dc2 pm2 cd2 ct2 oc3 kV3 dc3 pm3 cd3 ct3 oc4 kV4 dc4 pm4 cd4 ct4 oc5 kV5 dc5 pm5 cd5 ct5 oc6 kV6 dc6 pm6 cd6 ct6 oc7 kV7 dc7 pm7 cd7 ct7 oc8 kV8 dc8 pm8 cd8 ct8 oc9 kV9 dc9 pm9 cd9 ct9 oc10 kV10 dc10 pm10 cd10 ct10 oc11 kV11 dc11 pm11 cd11 ct11 oc12 kV12 dc12 pm12 cd12 ct12 oc13 kV13 dc13 pm13 cd13 ct13 : Value}
    (a0 : PySem.W.nsIn K mainGlobals "_wall" = some (some (.ref f0)))
    (a8 : PySem.W.nsIn K mainGlobals "_law_pot" = some (some (.ref f8)))
    (a9 : PySem.W.nsIn K mainGlobals "_law_next" = some (some (.ref f9)))
    (a10 : PySem.W.nsIn K mainGlobals "_law_is_int" = some (some (.ref f10)))
    (a11 : PySem.W.nsIn K mainGlobals "_law_do" = some (some (.ref f11)))
    (a12 : PySem.W.nsIn K mainGlobals "_law_due" = some (some (.ref f12)))
    (a13 : PySem.W.nsIn K mainGlobals "law" = some (some (.ref f13)))
    (aC0 : PySem.W.nsIn K mainGlobals "BridgeError" = some (some (.ref C0)))
    (aC1 : PySem.W.nsIn K mainGlobals "InvalidArgument" = some (some (.ref C1)))
    (aC2 : PySem.W.nsIn K mainGlobals "NotEnoughBalance" = some (some (.ref C2)))
    (aC3 : PySem.W.nsIn K mainGlobals "Pool" = some (some (.ref C3)))
    (m1 : PySem.W.findIn K (.ref C3) "__init__" = some (some (.ref f1)))
    (m2 : PySem.W.findIn K (.ref C3) "assets" = some (some (.ref f2)))
    (m3 : PySem.W.findIn K (.ref C3) "shares" = some (some (.ref f3)))
    (m4 : PySem.W.findIn K (.ref C3) "shares_of" = some (some (.ref f4)))
    (m5 : PySem.W.findIn K (.ref C3) "deposit" = some (some (.ref f5)))
    (m6 : PySem.W.findIn K (.ref C3) "redeem" = some (some (.ref f6)))
    (m7 : PySem.W.findIn K (.ref C3) "earn" = some (some (.ref f7)))
    (l0 : K.lookup f0 = some ⟨oc0, od0, .func (PySem.W.fnOf "_wall" "_wall" (defArgs s__wall) (defBody s__wall) (defScope s__wall) .none kV0 dc0 pm0 an0 cd0 ct0), sl0⟩)
    (c0 : PySem.W.codeIn K cd0 "_wall" = true)
    (k0 : PySem.W.keepIn K (.ref f0) = true)
    (l1 : K.lookup f1 = some ⟨oc1, od1, .func (PySem.W.fnOf "__init__" "Pool.__init__" (defArgs s_Pool_init) (defBody s_Pool_init) (defScope s_Pool_init) .none kV1 dc1 pm1 an1 cd1 ct1), sl1⟩)
    (c1 : PySem.W.codeIn K cd1 "Pool.__init__" = true)
    (k1 : PySem.W.keepIn K (.ref f1) = true)
    (l2 : K.lookup f2 = some ⟨oc2, od2, .func (PySem.W.fnOf "assets" "Pool.assets" (defArgs s_Pool_assets) (defBody s_Pool_assets) (defScope s_Pool_assets) .none kV2 dc2 pm2 an2 cd2 ct2), sl2⟩)
    (c2 : PySem.W.codeIn K cd2 "Pool.assets" = true)
    (k2 : PySem.W.keepIn K (.ref f2) = true)
    (l3 : K.lookup f3 = some ⟨oc3, od3, .func (PySem.W.fnOf "shares" "Pool.shares" (defArgs s_Pool_shares) (defBody s_Pool_shares) (defScope s_Pool_shares) .none kV3 dc3 pm3 an3 cd3 ct3), sl3⟩)
    (c3 : PySem.W.codeIn K cd3 "Pool.shares" = true)
    (k3 : PySem.W.keepIn K (.ref f3) = true)
    (l4 : K.lookup f4 = some ⟨oc4, od4, .func (PySem.W.fnOf "shares_of" "Pool.shares_of" (defArgs s_Pool_shares_of) (defBody s_Pool_shares_of) (defScope s_Pool_shares_of) .none kV4 dc4 pm4 an4 cd4 ct4), sl4⟩)
    (c4 : PySem.W.codeIn K cd4 "Pool.shares_of" = true)
    (k4 : PySem.W.keepIn K (.ref f4) = true)
    (l5 : K.lookup f5 = some ⟨oc5, od5, .func (PySem.W.fnOf "deposit" "Pool.deposit" (defArgs s_Pool_deposit) (defBody s_Pool_deposit) (defScope s_Pool_deposit) .none kV5 dc5 pm5 an5 cd5 ct5), sl5⟩)
    (c5 : PySem.W.codeIn K cd5 "Pool.deposit" = true)
    (k5 : PySem.W.keepIn K (.ref f5) = true)
    (l6 : K.lookup f6 = some ⟨oc6, od6, .func (PySem.W.fnOf "redeem" "Pool.redeem" (defArgs s_Pool_redeem) (defBody s_Pool_redeem) (defScope s_Pool_redeem) .none kV6 dc6 pm6 an6 cd6 ct6), sl6⟩)
    (c6 : PySem.W.codeIn K cd6 "Pool.redeem" = true)
    (k6 : PySem.W.keepIn K (.ref f6) = true)
    (l7 : K.lookup f7 = some ⟨oc7, od7, .func (PySem.W.fnOf "earn" "Pool.earn" (defArgs s_Pool_earn) (defBody s_Pool_earn) (defScope s_Pool_earn) .none kV7 dc7 pm7 an7 cd7 ct7), sl7⟩)
    (c7 : PySem.W.codeIn K cd7 "Pool.earn" = true)
    (k7 : PySem.W.keepIn K (.ref f7) = true)
    (l8 : K.lookup f8 = some ⟨oc8, od8, .func (PySem.W.fnOf "_law_pot" "_law_pot" (defArgs s_L_pot) (defBody s_L_pot) (defScope s_L_pot) .none kV8 dc8 pm8 an8 cd8 ct8), sl8⟩)
    (c8 : PySem.W.codeIn K cd8 "_law_pot" = true)
    (k8 : PySem.W.keepIn K (.ref f8) = true)
    (l9 : K.lookup f9 = some ⟨oc9, od9, .func (PySem.W.fnOf "_law_next" "_law_next" (defArgs s_L_next) (defBody s_L_next) (defScope s_L_next) .none kV9 dc9 pm9 an9 cd9 ct9), sl9⟩)
    (c9 : PySem.W.codeIn K cd9 "_law_next" = true)
    (k9 : PySem.W.keepIn K (.ref f9) = true)
    (l10 : K.lookup f10 = some ⟨oc10, od10, .func (PySem.W.fnOf "_law_is_int" "_law_is_int" (defArgs s_L_is_int) (defBody s_L_is_int) (defScope s_L_is_int) .none kV10 dc10 pm10 an10 cd10 ct10), sl10⟩)
    (c10 : PySem.W.codeIn K cd10 "_law_is_int" = true)
    (k10 : PySem.W.keepIn K (.ref f10) = true)
    (l11 : K.lookup f11 = some ⟨oc11, od11, .func (PySem.W.fnOf "_law_do" "_law_do" (defArgs s_L_do) (defBody s_L_do) (defScope s_L_do) .none kV11 dc11 pm11 an11 cd11 ct11), sl11⟩)
    (c11 : PySem.W.codeIn K cd11 "_law_do" = true)
    (k11 : PySem.W.keepIn K (.ref f11) = true)
    (l12 : K.lookup f12 = some ⟨oc12, od12, .func (PySem.W.fnOf "_law_due" "_law_due" (defArgs s_L_due) (defBody s_L_due) (defScope s_L_due) .none kV12 dc12 pm12 an12 cd12 ct12), sl12⟩)
    (c12 : PySem.W.codeIn K cd12 "_law_due" = true)
    (k12 : PySem.W.keepIn K (.ref f12) = true)
    (l13 : K.lookup f13 = some ⟨oc13, od13, .func (PySem.W.fnOf "law" "law" (defArgs s_law) (defBody s_law) (defScope s_law) .none kV13 dc13 pm13 an13 cd13 ct13), sl13⟩)
    (c13 : PySem.W.codeIn K cd13 "law" = true)
    (k13 : PySem.W.keepIn K (.ref f13) = true)
    (xe0 : PySem.W.excIn K C0 [.type "ValueError", .type "Exception", .type "BaseException", .type "object"] "ValueError.__new__" = true)
    (ke0 : PySem.W.keepIn K (.ref C0) = true)
    (be0 : PySem.W.subIn K (.ref C0) (.type "BaseException") = some true)
    (te0 : PySem.W.typeIn K (.ref C0) = some (.type "type"))
    (ie0 : PySem.W.isClsIn K C0 = true)
    (se0 : PySem.W.subIn K (.ref C0) (.ref C0) = some true)
    (hd0 : PySem.W.hasDictIn K C0 = true)
    (xe1 : PySem.W.excIn K C1 [.type "ValueError", .type "Exception", .type "BaseException", .type "object"] "ValueError.__new__" = true)
    (ke1 : PySem.W.keepIn K (.ref C1) = true)
    (be1 : PySem.W.subIn K (.ref C1) (.type "BaseException") = some true)
    (te1 : PySem.W.typeIn K (.ref C1) = some (.type "type"))
    (ie1 : PySem.W.isClsIn K C1 = true)
    (se1 : PySem.W.subIn K (.ref C1) (.ref C1) = some true)
    (hg1 : PySem.W.findIn K (.ref C1) "__getattribute__" = some (some (.builtin "BaseException.__getattribute__")))
    (hk1 : PySem.W.findIn K (.ref C1) "__getattr__" = some none)
    (hd1 : PySem.W.hasDictIn K C1 = true)
    (ha1 : PySem.W.findIn K (.ref C1) "__class__" = some (some (.builtin "object.__class__")))
    (hm1 : PySem.W.mroIn K C1 (.type "object") = some true)
    (hn1 : PySem.W.specialIn K (.builtin "object.__class__") "__get__" = some (some (.builtin "getset_descriptor.__get__")))
    (ht1 : PySem.W.takesIn K (.builtin "object.__class__") = some true)
    (ue1 : PySem.W.subIn K (.ref C1) (.ref C0) = some true)
    (xe2 : PySem.W.excIn K C2 [.type "ValueError", .type "Exception", .type "BaseException", .type "object"] "ValueError.__new__" = true)
    (ke2 : PySem.W.keepIn K (.ref C2) = true)
    (be2 : PySem.W.subIn K (.ref C2) (.type "BaseException") = some true)
    (te2 : PySem.W.typeIn K (.ref C2) = some (.type "type"))
    (ie2 : PySem.W.isClsIn K C2 = true)
    (se2 : PySem.W.subIn K (.ref C2) (.ref C2) = some true)
    (hg2 : PySem.W.findIn K (.ref C2) "__getattribute__" = some (some (.builtin "BaseException.__getattribute__")))
    (hk2 : PySem.W.findIn K (.ref C2) "__getattr__" = some none)
    (hd2 : PySem.W.hasDictIn K C2 = true)
    (ha2 : PySem.W.findIn K (.ref C2) "__class__" = some (some (.builtin "object.__class__")))
    (hm2 : PySem.W.mroIn K C2 (.type "object") = some true)
    (hn2 : PySem.W.specialIn K (.builtin "object.__class__") "__get__" = some (some (.builtin "getset_descriptor.__get__")))
    (ht2 : PySem.W.takesIn K (.builtin "object.__class__") = some true)
    (ue2 : PySem.W.subIn K (.ref C2) (.ref C0) = some true)
    (pg3 : PySem.W.plainGet K C3 Str.empty = true)
    (hd3 : PySem.W.hasDictIn K C3 = true)
    (po3 : PySem.W.plainOver K C3 = true)
    (sa3 : PySem.W.findIn K (.ref C3) "__setattr__" = some (some (.builtin "object.__setattr__")))
    (mk3 : PySem.W.makesIn K C3 = true)
    (kc3 : PySem.W.keepIn K (.ref C3) = true)
    (i1 : PySem.W.isFn K (.ref f1) = true)
    (i2 : PySem.W.isFn K (.ref f2) = true)
    (i3 : PySem.W.isFn K (.ref f3) = true)
    (i4 : PySem.W.isFn K (.ref f4) = true)
    (i5 : PySem.W.isFn K (.ref f5) = true)
    (i6 : PySem.W.isFn K (.ref f6) = true)
    (i7 : PySem.W.isFn K (.ref f7) = true)
    (n3_0 : PySem.W.findIn K (.ref C3) "_assets" = some none)
    (n3_1 : PySem.W.findIn K (.ref C3) "_held" = some none)
    (hq0 : PySem.W.kitOne K (.ref C1) (.ref C2) = some false)
    (hq1 : PySem.W.kitOne K (.ref C2) (.ref C1) = some false)
    (z0 : PySem.W.nsIn K mainGlobals "abs" = some none)
    (z1 : PySem.W.nsIn K mainGlobals "any" = some none)
    (z2 : PySem.W.nsIn K mainGlobals "bool" = some none)
    (z3 : PySem.W.nsIn K mainGlobals "int" = some none)
    (z4 : PySem.W.nsIn K mainGlobals "isinstance" = some none)
    (z5 : PySem.W.nsIn K mainGlobals "len" = some none)
    (z6 : PySem.W.nsIn K mainGlobals "list" = some none)
    (z7 : PySem.W.nsIn K mainGlobals "min" = some none)
    (z8 : PySem.W.nsIn K mainGlobals "range" = some none)
    (z9 : PySem.W.nsIn K mainGlobals "sum" = some none) :
    ∃ fd : FuncData, (∀ (s : Shared) (v : Value), BindsTo s fd ⟨[v], []⟩ [("script", v)]) ∧ ∀ base : Heap, K.In base → base.Ns mainGlobals mg → FnOk l.prog w K mg base CX0 4 fa fd ["script"] (spLaw K) := by
  have e := hfa.symm.trans (PySem.W.mg_of X G a13)
  cases e
  exact ⟨PySem.W.fnOf "law" "law" (defArgs s_law) (defBody s_law) (defScope s_law) .none kV13 dc13 pm13 an13 cd13 ct13, fun s v => .of_eq rfl, fun base _ _ => ok_law (txt_mk X G a0 a8 a9 a10 a11 a12 a13 aC0 aC1 aC2 aC3 m1 m2 m3 m4 m5 m6 m7 l0 c0 k0 l1 c1 k1 l2 c2 k2 l3 c3 k3 l4 c4 k4 l5 c5 k5 l6 c6 k6 l7 c7 k7 l8 c8 k8 l9 c9 k9 l10 c10 k10 l11 c11 k11 l12 c12 k12 l13 c13 k13 xe0 ke0 be0 te0 ie0 se0 hd0 xe1 ke1 be1 te1 ie1 se1 hg1 hk1 hd1 ha1 hm1 hn1 ht1 ue1 xe2 ke2 be2 te2 ie2 se2 hg2 hk2 hd2 ha2 hm2 hn2 ht2 ue2 pg3 hd3 po3 sa3 mk3 kc3 i1 i2 i3 i4 i5 i6 i7 n3_0 n3_1 hq0 hq1 z0 z1 z2 z3 z4 z5 z6 z7 z8 z9)⟩
end Pf
open PySem PySem.W PyProof.Rows
set_option maxRecDepth 100000 in
set_option maxHeartbeats 0 in
theorem PySem.Challenge.cw_vaultbridge_k42_pools_are_fair_holds : PySem.Challenge.rw_vaultbridge_k42_pools_are_fair.Holds := by
  w_on; o_law; k_head; (case hw => w_witness2)
  k_fill
  refine L2.walk_of (l := PySem.Challenge.rw_vaultbridge_k42_pools_are_fair) (n := 63) (k := 4) (x := "script") (CX := fun _ => L2.CX0) (sp := fun w => Pf.spLaw _) rfl (by decide) rfl ⟨rfl, by decide, by decide⟩ (fun w h Y => PySem.W.kIn_of Y) ?F (fun _ _ a ns hl _ hS => ⟨a, ns, rfl, hS, hl, fun _ => rfl⟩) (fun _ _ _ _ _ h => h)
  case F =>
    intro w mg fa h KX G hmg
    refine' Pf.all_mk KX G hmg ?a0 ?a8 ?a9 ?a10 ?a11 ?a12 ?a13 ?aC0 ?aC1 ?aC2 ?aC3 ?m1 ?m2 ?m3 ?m4 ?m5 ?m6 ?m7 ?l0 ?c0 ?k0 ?l1 ?c1 ?k1 ?l2 ?c2 ?k2 ?l3 ?c3 ?k3 ?l4 ?c4 ?k4 ?l5 ?c5 ?k5 ?l6 ?c6 ?k6 ?l7 ?c7 ?k7 ?l8 ?c8 ?k8 ?l9 ?c9 ?k9 ?l10 ?c10 ?k10 ?l11 ?c11 ?k11 ?l12 ?c12 ?k12 ?l13 ?c13 ?k13 ?xe0 ?ke0 ?be0 ?te0 ?ie0 ?se0 ?hd0 ?xe1 ?ke1 ?be1 ?te1 ?ie1 ?se1 ?hg1 ?hk1 ?hd1 ?ha1 ?hm1 ?hn1 ?ht1 ?ue1 ?xe2 ?ke2 ?be2 ?te2 ?ie2 ?se2 ?hg2 ?hk2 ?hd2 ?ha2 ?hm2 ?hn2 ?ht2 ?ue2 ?pg3 ?hd3 ?po3 ?sa3 ?mk3 ?kc3 ?i1 ?i2 ?i3 ?i4 ?i5 ?i6 ?i7 ?n3_0 ?n3_1 ?hq0 ?hq1 ?z0 ?z1 ?z2 ?z3 ?z4 ?z5 ?z6 ?z7 ?z8 ?z9
    (case a0 => k_is)
    (case a8 => k_is)
    (case a9 => k_is)
    (case a10 => k_is)
    (case a11 => k_is)
    (case a12 => k_is)
    (case a13 => k_is)
    (case aC0 => k_is)
    (case aC1 => k_is)
    (case aC2 => k_is)
    (case aC3 => k_is)
    (case m1 => k_is)
    (case m2 => k_is)
    (case m3 => k_is)
    (case m4 => k_is)
    (case m5 => k_is)
    (case m6 => k_is)
    (case m7 => k_is)
    (case l0 => k_is)
    (case c0 => k_is)
    (case k0 => k_is)
    (case l1 => k_is)
    (case c1 => k_is)
    (case k1 => k_is)
    (case l2 => k_is)
    (case c2 => k_is)
    (case k2 => k_is)
    (case l3 => k_is)
    (case c3 => k_is)
    (case k3 => k_is)
    (case l4 => k_is)
    (case c4 => k_is)
    (case k4 => k_is)
    (case l5 => k_is)
    (case c5 => k_is)
    (case k5 => k_is)
    (case l6 => k_is)
    (case c6 => k_is)
    (case k6 => k_is)
    (case l7 => k_is)
    (case c7 => k_is)
    (case k7 => k_is)
    (case l8 => k_is)
    (case c8 => k_is)
    (case k8 => k_is)
    (case l9 => k_is)
    (case c9 => k_is)
    (case k9 => k_is)
    (case l10 => k_is)
    (case c10 => k_is)
    (case k10 => k_is)
    (case l11 => k_is)
    (case c11 => k_is)
    (case k11 => k_is)
    (case l12 => k_is)
    (case c12 => k_is)
    (case k12 => k_is)
    (case l13 => k_is)
    (case c13 => k_is)
    (case k13 => k_is)
    (case xe0 => k_exc)
    (case ke0 => k_is)
    (case be0 => k_is)
    (case te0 => k_is)
    (case ie0 => k_is)
    (case se0 => k_is)
    (case hd0 => k_is)
    (case xe1 => k_exc)
    (case ke1 => k_is)
    (case be1 => k_is)
    (case te1 => k_is)
    (case ie1 => k_is)
    (case se1 => k_is)
    (case hg1 => k_is)
    (case hk1 => k_is)
    (case hd1 => k_is)
    (case ha1 => k_is)
    (case hm1 => k_is)
    (case hn1 => k_is)
    (case ht1 => k_is)
    (case ue1 => k_is)
    (case xe2 => k_exc)
    (case ke2 => k_is)
    (case be2 => k_is)
    (case te2 => k_is)
    (case ie2 => k_is)
    (case se2 => k_is)
    (case hg2 => k_is)
    (case hk2 => k_is)
    (case hd2 => k_is)
    (case ha2 => k_is)
    (case hm2 => k_is)
    (case hn2 => k_is)
    (case ht2 => k_is)
    (case ue2 => k_is)
    (case pg3 => k_is)
    (case hd3 => k_is)
    (case po3 => k_is)
    (case sa3 => k_is)
    (case mk3 => k_is)
    (case kc3 => k_is)
    (case i1 => k_is)
    (case i2 => k_is)
    (case i3 => k_is)
    (case i4 => k_is)
    (case i5 => k_is)
    (case i6 => k_is)
    (case i7 => k_is)
    (case n3_0 => k_is)
    (case n3_1 => k_is)
    (case hq0 => kit_is)
    (case hq1 => kit_is)
    (case z0 => k_is)
    (case z1 => k_is)
    (case z2 => k_is)
    (case z3 => k_is)
    (case z4 => k_is)
    (case z5 => k_is)
    (case z6 => k_is)
    (case z7 => k_is)
    (case z8 => k_is)
    (case z9 => k_is)
