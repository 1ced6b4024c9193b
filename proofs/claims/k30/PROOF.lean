
import PyProof.Rows.All
import HandS.WordsExc
import HandS.SetKeys
import HandS.Flow
import HandS.ExcIs
import HandS.Sort
import HandS.Wide
import HandS.NoneIn
import HandS.Walk
import HandS.Text
import HandS.Rev
import HandS.FStr
import HandS.WideBits
import PyProof.SumWalkG
import KE.KeyNested
import KE.KIntText
import KE.GoesZip
import KE.GoesMore
import HandS.Zip
import Wide.All
import OpenK.AllK
import Wide.FinOn
import HandS.ForMost
import HandS.TupAny
import HandS.Deep
import HandS.IsInst
import HandS.Style
import HandS.Steps
import HandS.Evl
import HandS.Defaults
import HandS.MakeKwOnly
import PySem.Challenge.RW_vaultbridge_k30_write_and_read
set_option Elab.async false
set_option linter.all false
set_option maxRecDepth 100000
set_option maxHeartbeats 1000000
namespace Pf
open PySem PySem.Spec PyProof.Rows L2


/-! readings, one step a lemma -/
section
open PySem PySem.Spec PyProof.Rows L2
variable {K : PySem.W.Frag} {σ : L2.St} {H H1 H' : Hp} {Q : VK} {D : Ends} {t u : TS} {ta tb tc te : TE} {tt tu : TT} {tr : TA} {g : TG} {v x y : V} {i j : Int} {a b p l : Addr} {xs ys : List V} {o : HO}

/-! heaps -/
theorem upd_new {c : Addr} {w : HO} (hb : H b = none) (h : H c = some o) : upd H b w c = some o := by
  rw [upd_ne (ne_of_none h hb)]; exact h
theorem upd_other {c : Addr} {w : HO} (hb : c ≠ b) (h : H c = some o) : upd H b w c = some o := by
  rw [upd_ne hb]; exact h
theorem upd_free {c : Addr} {w : HO} (hb : c ≠ b) (h : H c = none) : upd H b w c = none := by
  rw [upd_ne hb]; exact h
theorem upd_none_ne {c : Addr} {w : HO} (h : upd H b w c = none) : c ≠ b := fun e => by rw [e, upd_same] at h; cases h
theorem upd_none_back {c : Addr} {w : HO} (h : upd H b w c = none) : H c = none := by rw [upd_ne (upd_none_ne h)] at h; exact h
/-- everything but p stays -/
def Kp (p : Addr) (H H' : Hp) : Prop := ∀ b o, H b = some o → b ≠ p → H' b = some o
theorem Kp.get {c : Addr} (k : Kp p H H') (h : H c = some o) (n : c ≠ p) : H' c = some o := k c o h n
theorem Kp.refl : Kp p H H := fun _ _ h _ => h
theorem Kp.trans (k : Kp p H H1) (k2 : Kp p H1 H') : Kp p H H' := fun b o h n => k2 b o (k b o h n) n
theorem Kp.upd {w : HO} (k : Kp p H H') : Kp p H (upd H' p w) := fun b o h n => upd_other n (k b o h n)
theorem Kp.new {w : HO} (k : Kp p H H') (h : H a = none) : Kp p H (L2.upd H' a w) := fun b o hb n => upd_other (ne_of_none hb h) (k b o hb n)
theorem Kp.fresh (k : Kp p H H') (hp : H p = some o) (h : H' a = none) (n : a ≠ p) : H a = none := by
  cases q : H a with
  | none => rfl
  | some w => rw [k a w q n] at h; cases h
theorem Same.get {c : Addr} (k : Same H H') (h : H c = some o) : H' c = some o := k c o h
theorem Same.new {w : HO} (k : Same H H') (h : H a = none) : Same H (L2.upd H' a w) := fun b o hb => upd_other (ne_of_none hb h) (k b o hb)
theorem Same.up {w : HO} (k : Same H H') (h : H' a = none) : Same H (L2.upd H' a w) := Same.new k (Same.free k h)
theorem Same.kp (k : Same H H') : Kp p H H' := fun b o h _ => k b o h
theorem sqL (h : H a = some (.lst xs)) : SqL K H a xs := .inl (.inl h)
theorem sqT (h : H a = some (.tup xs)) : SqT K H a xs := .inl (.inl h)

/-- a tuple of the written part -/
def SqTK (K : PySem.W.Frag) (a : Addr) (xs : List V) : Prop := ∃ (o : Obj) (its : Array Value) (n : Nat), K.lookup a = some o ∧ o.cls = .type "tuple" ∧ o.data = .seq its n ∧ its.size ≤ sizeLine ∧ Vals xs its.toList
theorem SqTK.sq {xs : List V} (h : SqTK K a xs) : SqT K H a xs := .inr h
def relB : V → Value → Bool
  | .str x, .str z _ => decide (x = z)
  | .int i, .int k _ => decide (i = k)
  | _, _ => false
theorem relB_rel : ∀ {x : V} {u : Value}, relB x u = true → RelV x u := by
  intro x u h
  cases x <;> cases u <;> first | (cases h; done) | skip
  · have e := of_decide_eq_true h
    subst e
    exact ⟨_, rfl⟩
  · have e := of_decide_eq_true h
    subst e
    exact ⟨_, rfl⟩
def ValsB : List V → List Value → Bool
  | [], [] => true
  | x :: xs, u :: us => relB x u && ValsB xs us
  | _, _ => false
theorem ValsB.vals : ∀ {xs : List V} {us : List Value}, ValsB xs us = true → Vals xs us
  | [], [], _ => .nil
  | [], _ :: _, h => by cases h
  | _ :: _, [], h => by cases h
  | x :: xs, u :: us, h => by
    have h : (relB x u && ValsB xs us) = true := h
    rw [Bool.and_eq_true] at h
    exact .cons (relB_rel h.1) (ValsB.vals h.2)
theorem ValsB.size {xs : List V} {its : Array Value} (h : ValsB xs its.toList = true) (hl : xs.length ≤ sizeLine) : its.size ≤ sizeLine := by
  have e := (ValsB.vals h).length
  have : its.toList.length = its.size := rfl
  omega
theorem hr65 {A : Around} {k : Nat} (hr : Room k A) : A.units + 65 < cLine := by have := hr.un; omega
theorem Same.sqT {xs : List V} (e : Same H H') (h : SqT K H a xs) : SqT K H' a xs := by
  rcases h with (h | ⟨o, h⟩) | h
  · exact .inl (.inl (e _ _ h))
  · exact .inl (.inr ⟨o, e _ _ h⟩)
  · exact .inr h
/-! statements -/
theorem q_seq (h : t { D with nx := u D } σ H) : tSeq t u D σ H := h
theorem q_next (h : D.nx σ H) : tNext D σ H := h
theorem q_brk (h : D.bk σ H) : tBreak D σ H := h
theorem q_ct (h : D.ct σ H) : tCont D σ H := h
theorem q_nx {f : L2.St → Hp → Prop} {r : VK} {b c : L2.St → Hp → Prop} (h : f σ H) : Ends.nx ⟨f, r, b, c⟩ σ H := h
theorem q_bk {f : L2.St → Hp → Prop} {r : VK} {b c : L2.St → Hp → Prop} (h : b σ H) : Ends.bk ⟨f, r, b, c⟩ σ H := h
theorem q_cn {f : L2.St → Hp → Prop} {r : VK} {b c : L2.St → Hp → Prop} (h : c σ H) : Ends.ct ⟨f, r, b, c⟩ σ H := h
theorem q_rt {f : L2.St → Hp → Prop} {r : VK} {b c : L2.St → Hp → Prop} (h : r v H) : Ends.rt ⟨f, r, b, c⟩ v H := h
theorem q_drop (h : te σ H fun _ H1 => D.nx σ H1) : tDrop te D σ H := h
theorem q_ret (h : te σ H D.rt) : tRet te D σ H := h
theorem q_retN (h : D.rt .non H) : tRetN D σ H := h
def ifK (D : Ends) (t u : TS) (σ : L2.St) : Bool → Hp → Prop := fun b H => if b = true then t D σ H else u D σ H
theorem q_ifS (h : tt σ H (ifK D t u σ)) : tIfS tt t u D σ H := h
theorem q_ifT (h : t D σ H) : ifK D t u σ true H := iteT h
theorem q_ifF (h : u D σ H) : ifK D t u σ false H := iteF h
theorem q_if2 {c : Bool} (h : c = true → t D σ H) (h2 : c = false → u D σ H) : ifK D t u σ c H := by
  cases c with
  | true => exact iteT (h rfl)
  | false => exact iteF (h2 rfl)
theorem q_asg (h : te σ H fun x H1 => g x σ H1 D.nx) : tAsg te g D σ H := h
theorem q_gName {n : Nat} {R : L2.St → Hp → Prop} (h : R (σ.set n (some v)) H) : gName n v σ H R := h
theorem q_gTup {n : Nat} {tg : TGs} {R : L2.St → Hp → Prop} (h : SqT K H a xs) (hn : xs.length = n) (k : tg xs σ H R) : gTup K n tg (.ref a) σ H R := ⟨a, xs, rfl, h, hn, k⟩
theorem q_gCons {tg : TGs} {R : L2.St → Hp → Prop} (k : g v σ H fun σ' H' => tg xs σ' H' R) : gCons g tg (v :: xs) σ H R := ⟨v, xs, rfl, k⟩
theorem q_gNil {R : L2.St → Hp → Prop} (k : R σ H) : gNil [] σ H R := ⟨rfl, k⟩
theorem q_gSub {to ti : TE} {ts : TSet} {R : L2.St → Hp → Prop} (k : to σ H fun o H1 => ti σ H1 fun i H2 => ts o i v H2 fun H3 => R σ H3) : gSub to ti ts v σ H R := k
theorem q_setL {R : Hp → Prop} {n : Nat} (h : H p = some (.lst xs)) (hi : ixN xs.length i = some n) (k : R (upd H p (.lst (xs.set n v)))) : rSetL (.ref p) (.int i) v H R := ⟨p, xs, i, n, rfl, rfl, h, hi, k⟩
theorem q_aug {n : Nat} {ti : TIp} (hx : σ[n]? = some (some x)) (h : te σ H fun y H1 => ti x y H1 fun z H2 => D.nx (σ.set n (some z)) H2) : tAug n te ti D σ H := ⟨x, hx, h⟩
theorem q_ipI {f : Int → Int → Int} (k : Q (.int (f i j)) H) : ipI f (.int i) (.int j) H Q := ⟨i, j, rfl, rfl, k⟩
theorem q_cut {Mid : L2.St → Hp → Prop} (h : t { D with nx := Mid } σ H) (k : ∀ σ' H', Mid σ' H' → u D σ' H') : Evl.tCut t u D σ H := ⟨Mid, h, k⟩
theorem dec_t {c : Prop} [Decidable c] (h : decide c = true) : c := of_decide_eq_true h
theorem dec_f {c : Prop} [Decidable c] (h : decide c = false) : ¬ c := of_decide_eq_false h
theorem ndec_t {c : Prop} [Decidable c] (h : (!decide c) = true) : ¬ c := fun q => by rw [decide_eq_true q] at h; cases h
theorem ndec_f {c : Prop} [Decidable c] (h : (!decide c) = false) : c := by
  by_cases q : c
  · exact q
  · rw [decide_eq_false q] at h; cases h
def forK (g : TG) (tb : TS) (D : Ends) (σ : L2.St) : It → Hp → Prop := fun J H1 => ∃ W : Nat → Nat → L2.St → Hp → Prop, (∃ m, W 0 m σ H1) ∧ ∀ i m σ H, W i m σ H →
  (J.stop i H ∧ D.nx σ H) ∨ (J.go i H ∧ ∃ N : L2.St → Hp → Prop, (∀ σ' H', N σ' H' → ∃ m', m' < m ∧ W (i + 1) m' σ' H') ∧ ∀ x H', J.yld i H x H' → g x σ H' fun σ2 H2 => tb { D with nx := N, ct := N, bk := D.nx } σ2 H2)
theorem q_for {wi : TI} (h : wi σ H (forK g t D σ)) : tFor wi g t D σ H := h
theorem q_iList {R : It → Hp → Prop} (h : te σ H fun x H1 => ∃ a, x = .ref a ∧ (∃ xs, SqL K H1 a xs) ∧ R (Itl K a) H1) : iList K te σ H R := h
theorem q_iTup {R : It → Hp → Prop} (h : te σ H fun x H1 => ∃ a, x = .ref a ∧ (∃ xs, SqT K H1 a xs) ∧ R (Itt K a) H1) : iTup K te σ H R := h
theorem q_forL {S : List V} (h : SqL K H a S) (Pv : Nat → L2.St → Hp → Prop) (h0 : Pv 0 σ H) (hl : ∀ i σ H, i ≤ S.length → Pv i σ H → SqL K H a S)
    (hs : ∀ i x σ H, S[i]? = some x → Pv i σ H → g x σ H fun σ2 H2 => t { D with nx := Pv (i + 1), ct := Pv (i + 1), bk := D.nx } σ2 H2) (hd : ∀ σ H, Pv S.length σ H → D.nx σ H) :
    ∃ b, V.ref a = .ref b ∧ (∃ xs, SqL K H b xs) ∧ forK g t D σ (Itl K b) H := ⟨a, rfl, ⟨S, h⟩, for_list Pv h0 hl hs hd⟩
theorem q_forT {S : List V} (h : SqT K H a S) (Pv : Nat → L2.St → Hp → Prop) (h0 : Pv 0 σ H) (hl : ∀ i σ H, i ≤ S.length → Pv i σ H → SqT K H a S)
    (hs : ∀ i x σ H, S[i]? = some x → Pv i σ H → g x σ H fun σ2 H2 => t { D with nx := Pv (i + 1), ct := Pv (i + 1), bk := D.nx } σ2 H2) (hd : ∀ σ H, Pv S.length σ H → D.nx σ H) :
    ∃ b, V.ref a = .ref b ∧ (∃ xs, SqT K H b xs) ∧ forK g t D σ (Itt K b) H := ⟨a, rfl, ⟨S, h⟩, for_tup Pv h0 hl hs hd⟩
def rg1K (R : It → Hp → Prop) : List V → Hp → Prop := fun vs H1 => ∃ j : Int, vs = [.int j] ∧ -(2 ^ 62) ≤ j ∧ j < 2 ^ 62 ∧ R (Itr 0 j.toNat) H1
theorem q_iRng1 {R : It → Hp → Prop} (h : tr σ H (rg1K R)) : iRng1 tr σ H R := h
theorem q_forR (hj : 0 ≤ j ∧ j < 1000000000000000) (Pv : Nat → L2.St → Hp → Prop) (h0 : Pv 0 σ H)
    (hs : ∀ (i : Nat) σ H, (i : Int) < j → Pv i σ H → g (.int i) σ H fun σ2 H2 => t { D with nx := Pv (i + 1), ct := Pv (i + 1), bk := D.nx } σ2 H2) (hd : ∀ σ H, Pv j.toNat σ H → D.nx σ H) :
    rg1K (forK g t D σ) [.int j] H := ⟨j, rfl, by omega, by omega, for_range Pv h0 (fun i σ H hi hp => by have e : (0 : Int) + (i : Int) = (i : Int) := Int.zero_add _; rw [e]; exact hs i σ H (by omega) hp) hd⟩

/-! tests and values -/
def bK (Q : Bool → Hp → Prop) : VK := fun x H => ∃ k, x = .bl k ∧ Q k H
theorem q_test {R : Bool → Hp → Prop} (h : te σ H (bK R)) : tTest te σ H R := h
theorem q_tB {R : Bool → Hp → Prop} (h : te σ H (bK R)) : tB te σ H R := h
theorem q_bK {R : Bool → Hp → Prop} {c : Bool} (k : R c H) : bK R (.bl c) H := ⟨c, rfl, k⟩
def andK (u : TT) (σ : L2.St) (R : Bool → Hp → Prop) : Bool → Hp → Prop := fun c H1 => if c = true then u σ H1 R else R false H1
def orK (u : TT) (σ : L2.St) (R : Bool → Hp → Prop) : Bool → Hp → Prop := fun c H1 => if c = true then R true H1 else u σ H1 R
theorem q_and {R : Bool → Hp → Prop} (h : tt σ H (andK tu σ R)) : tAnd tt tu σ H R := h
theorem q_or {R : Bool → Hp → Prop} (h : tt σ H (orK tu σ R)) : tOr tt tu σ H R := h
theorem q_andT {R : Bool → Hp → Prop} (h : tu σ H R) : andK tu σ R true H := iteT h
theorem q_andF {R : Bool → Hp → Prop} (h : R false H) : andK tu σ R false H := iteF h
theorem q_orT {R : Bool → Hp → Prop} (h : R true H) : orK tu σ R true H := iteT h
theorem q_orF {R : Bool → Hp → Prop} (h : tu σ H R) : orK tu σ R false H := iteF h
theorem q_and2 {R : Bool → Hp → Prop} {c : Bool} (h : c = true → tu σ H R) (h2 : c = false → R false H) : andK tu σ R c H := by
  cases c with
  | true => exact iteT (h rfl)
  | false => exact iteF (h2 rfl)
theorem q_or2 {R : Bool → Hp → Prop} {c : Bool} (h : c = true → R true H) (h2 : c = false → tu σ H R) : orK tu σ R c H := by
  cases c with
  | true => exact iteT (h rfl)
  | false => exact iteF (h2 rfl)
def notK (R : Bool → Hp → Prop) : Bool → Hp → Prop := fun c H1 => R (!c) H1
theorem q_not {R : Bool → Hp → Prop} (h : tt σ H (notK R)) : tNot tt σ H R := h
theorem q_notKT {R : Bool → Hp → Prop} (h : R false H) : notK R true H := h
theorem q_notKF {R : Bool → Hp → Prop} (h : R true H) : notK R false H := h
theorem q_notK {R : Bool → Hp → Prop} {c : Bool} (h : R (!c) H) : notK R c H := h
def andVK (tb : TE) (σ : L2.St) (Q : VK) : VK := fun x H1 => ∃ c, x = .bl c ∧ if c = true then tb σ H1 Q else Q (.bl false) H1
def orVK (tb : TE) (σ : L2.St) (Q : VK) : VK := fun x H1 => ∃ c, x = .bl c ∧ if c = true then Q (.bl true) H1 else tb σ H1 Q
theorem q_andV (h : ta σ H (andVK tb σ Q)) : tAndV ta tb σ H Q := h
theorem q_orV (h : ta σ H (orVK tb σ Q)) : tOrV ta tb σ H Q := h
theorem q_andVT (h : tb σ H Q) : andVK tb σ Q (.bl true) H := ⟨true, rfl, iteT h⟩
theorem q_andVF (h : Q (.bl false) H) : andVK tb σ Q (.bl false) H := ⟨false, rfl, iteF h⟩
theorem q_orVT (h : Q (.bl true) H) : orVK tb σ Q (.bl true) H := ⟨true, rfl, iteT h⟩
theorem q_orVF (h : tb σ H Q) : orVK tb σ Q (.bl false) H := ⟨false, rfl, iteF h⟩
theorem q_andV2 {c : Bool} (h : c = true → tb σ H Q) (h2 : c = false → Q (.bl false) H) : andVK tb σ Q (.bl c) H := by
  cases c with
  | true => exact q_andVT (h rfl)
  | false => exact q_andVF (h2 rfl)
theorem q_orV2 {c : Bool} (h : c = true → Q (.bl true) H) (h2 : c = false → tb σ H Q) : orVK tb σ Q (.bl c) H := by
  cases c with
  | true => exact q_orVT (h rfl)
  | false => exact q_orVF (h2 rfl)
def notVK (Q : VK) : VK := fun x H1 => ∃ c, x = .bl c ∧ Q (.bl (!c)) H1
theorem q_notV (h : ta σ H (notVK Q)) : tNotV ta σ H Q := h
theorem q_notVK {c : Bool} (k : Q (.bl (!c)) H) : notVK Q (.bl c) H := ⟨c, rfl, k⟩
def ifEK (ta tb : TE) (σ : L2.St) (Q : VK) : Bool → Hp → Prop := fun c H1 => if c = true then ta σ H1 Q else tb σ H1 Q
theorem q_ifE (h : tt σ H (ifEK ta tb σ Q)) : tIf tt ta tb σ H Q := h
theorem q_ifET (h : ta σ H Q) : ifEK ta tb σ Q true H := iteT h
theorem q_ifEF (h : tb σ H Q) : ifEK ta tb σ Q false H := iteF h
theorem q_ifE2 {c : Bool} (h : c = true → ta σ H Q) (h2 : c = false → tb σ H Q) : ifEK ta tb σ Q c H := by
  cases c with
  | true => exact iteT (h rfl)
  | false => exact iteF (h2 rfl)
theorem q_yes {R : Bool → Hp → Prop} (k : R true H) : tYes σ H R := k
theorem q_var {n : Nat} (h : σ[n]? = some (some v)) (k : Q v H) : tVar n σ H Q := ⟨v, h, k⟩
theorem q_c (k : Q v H) : tC v σ H Q := k
theorem q_op {r : R2} (h : ta σ H fun x H1 => tb σ H1 fun y H2 => r x y H2 Q) : tOp r ta tb σ H Q := h
theorem q_un {r : V → Hp → VK → Prop} (h : ta σ H fun x H1 => r x H1 Q) : tUn r ta σ H Q := h
theorem q_rU {f : Int → V} (k : Q (f i) H) : rU f (.int i) H Q := ⟨i, rfl, k⟩
theorem q_I0 {f : Int → Int → V} (k : Q (f i j) H) : rI0 f (.int i) (.int j) H Q := ⟨i, j, rfl, rfl, k⟩
theorem q_I {C : Int → Int → Prop} {f : Int → Int → V} (hc : C i j) (k : Q (f i j) H) : rI C f (.int i) (.int j) H Q := ⟨i, j, rfl, rfl, hc, k⟩
theorem q_eq (hs : scal x y = true) (k : Q (.bl (decide (x = y))) H) : rEq x y H Q := ⟨hs, k⟩
theorem q_ne (hs : scal x y = true) (k : Q (.bl (!decide (x = y))) H) : rNe x y H Q := ⟨hs, k⟩
theorem dec_int (i j : Int) : decide (V.int i = V.int j) = decide (i = j) := by
  by_cases h : i = j
  · subst h; simp
  · rw [decide_eq_false h, decide_eq_false (fun e => h (V.int.inj e))]
theorem q_eqI (k : Q (.bl (decide (i = j))) H) : rEq (.int i) (.int j) H Q := ⟨rfl, by rw [dec_int]; exact k⟩
theorem q_neI (k : Q (.bl (!decide (i = j))) H) : rNe (.int i) (.int j) H Q := ⟨rfl, by rw [dec_int]; exact k⟩
theorem dec_str (i j : Str) : decide (V.str i = V.str j) = decide (i = j) := by
  by_cases h : i = j
  · subst h; simp
  · rw [decide_eq_false h, decide_eq_false (fun e => h (V.str.inj e))]
theorem q_eqS {s z : Str} (k : Q (.bl (decide (s = z))) H) : rEq (.str s) (.str z) H Q := ⟨rfl, by rw [dec_str]; exact k⟩
theorem q_neS {s z : Str} (k : Q (.bl (!decide (s = z))) H) : rNe (.str s) (.str z) H Q := ⟨rfl, by rw [dec_str]; exact k⟩
theorem q_ixL (h : SqL K H p xs) (ha : atI xs i = some v) (k : Q v H) : rIxL K (.ref p) (.int i) H Q := ⟨p, xs, i, v, rfl, rfl, h, ha, k⟩
theorem q_ixT (h : SqT K H p xs) (ha : atI xs i = some v) (k : Q v H) : rIxT K (.ref p) (.int i) H Q := ⟨p, xs, i, v, rfl, rfl, h, ha, k⟩
theorem q_ixLt (h : H p = some (.lst xs)) (ha : atI xs i = some v) (k : Q v H) : rIxL K (.ref p) (.int i) H Q := q_ixL (sqL h) ha k
theorem q_ixTt (h : H p = some (.tup xs)) (ha : atI xs i = some v) (k : Q v H) : rIxT K (.ref p) (.int i) H Q := q_ixT (sqT h) ha k
theorem q_ixSL (h : SqL K H p xs) (ha : atI xs i = some v) (k : Q v H) : rIx K (.ref p) (.int i) H Q := .inl ⟨p, xs, i, v, rfl, rfl, h, ha, k⟩
theorem q_ixST (h : SqT K H p xs) (ha : atI xs i = some v) (k : Q v H) : rIx K (.ref p) (.int i) H Q := .inr (.inl ⟨p, xs, i, v, rfl, rfl, h, ha, k⟩)
theorem at_int {α : Type} {xs : List α} {i : Int} {x : α} {n : Nat} (e : i = (n : Int)) (h : xs[n]? = some x) : atI xs i = some x := by rw [e]; exact atI_nat h
theorem q_tNil {R : List V → Hp → Prop} (k : R [] H) : tNil σ H R := k
theorem q_tCons {R : List V → Hp → Prop} (h : ta σ H fun x H1 => tr σ H1 fun xs H2 => R (x :: xs) H2) : tCons ta tr σ H R := h
def tupK (Q : VK) : List V → Hp → Prop := fun xs H1 => xs.length ≤ sizeLine ∧ ∀ p, H1 p = none → Q (.ref p) (upd H1 p (.tup xs))
def lstK (Q : VK) : List V → Hp → Prop := fun xs H1 => xs.length ≤ sizeLine ∧ ∀ p, H1 p = none → Q (.ref p) (upd H1 p (.lst xs))
theorem q_tup (h : tr σ H (tupK Q)) : tTup tr σ H Q := h
theorem q_lst (h : tr σ H (lstK Q)) : tLst tr σ H Q := h
theorem q_tupK (hl : xs.length ≤ sizeLine) (k : ∀ p, H p = none → Q (.ref p) (upd H p (.tup xs))) : tupK Q xs H := ⟨hl, k⟩
theorem q_lstK (hl : xs.length ≤ sizeLine) (k : ∀ p, H p = none → Q (.ref p) (upd H p (.lst xs))) : lstK Q xs H := ⟨hl, k⟩
theorem q_cb {r : List V → Hp → VK → Prop} (h : tr σ H fun vs H1 => r vs H1 Q) : tCB r tr σ H Q := h
def callK (sp : Sp) (dvs : List V) (E : XK) (Q : VK) : List V → Hp → Prop := fun vs H1 => sp (vs ++ dvs) H1 Q E
theorem q_call {sp : Sp} {dvs : List V} {E : XK} (h : tr σ H (callK sp dvs E Q)) : tCall sp dvs E tr σ H Q := h
theorem q_callK {sp : Sp} {E : XK} (h : sp xs H Q E) : callK sp [] E Q xs H := by unfold callK; rw [List.append_nil]; exact h

/-! built-ins, by names of our own -/
def rLenQ (K : PySem.W.Frag) : List V → Hp → VK → Prop := fun xs H Q => ∃ p ys, xs = [.ref p] ∧ (SqL K H p ys ∨ SqT K H p ys) ∧ Q (.int ys.length) H
theorem cq_len {X : Cx} : CallR X (.builtin "len") (rLenQ X.K) := call_len_seq
theorem q_lenL (h : SqL K H p xs) (k : Q (.int xs.length) H) : rLenQ K [.ref p] H Q := ⟨p, xs, rfl, .inl h, k⟩
theorem q_lenT (h : SqT K H p xs) (k : Q (.int xs.length) H) : rLenQ K [.ref p] H Q := ⟨p, xs, rfl, .inr h, k⟩
theorem q_lenLt (h : H p = some (.lst xs)) (k : Q (.int xs.length) H) : rLenQ K [.ref p] H Q := q_lenL (sqL h) k
theorem q_lenTt (h : H p = some (.tup xs)) (k : Q (.int xs.length) H) : rLenQ K [.ref p] H Q := q_lenT (sqT h) k
def rLenD : List V → Hp → VK → Prop := fun xs H Q => ∃ a kvs, xs = [V.ref a] ∧ H a = some (.dK kvs) ∧ Q (.int kvs.length) H
def rLenS : List V → Hp → VK → Prop := fun xs H Q => ∃ x : Str, xs = [.str x] ∧ x.length ≤ sizeLine ∧ Q (.int x.length) H
theorem cq_lenS {X : Cx} : CallR X (.builtin "len") rLenS := by
  intro pins s σ H xs us Q I r h
  obtain ⟨x, e, hl, q⟩ := h
  exact call_len pins s σ H xs us Q I r ⟨.str x, x.length, e, ⟨hl, rfl⟩, q⟩
theorem q_lenS {x : Str} (hl : x.length ≤ sizeLine) (k : Q (.int x.length) H) : rLenS [.str x] H Q := ⟨x, rfl, hl, k⟩
def rAbs : List V → Hp → VK → Prop := fun xs H Q => ∃ i, xs = [.int i] ∧ Q (.int (if i < 0 then -i else i)) H
theorem cq_abs {X : Cx} : CallR X (.builtin "abs") rAbs := call_abs
theorem q_abs (k : Q (.int (if i < 0 then -i else i)) H) : rAbs [.int i] H Q := ⟨i, rfl, k⟩
def rInt1 : List V → Hp → VK → Prop := fun xs H Q => (∃ i, xs = [.int i] ∧ Q (.int i) H) ∨ ∃ k, xs = [.bl k] ∧ Q (.int (if k then 1 else 0)) H
theorem cq_int1 {X : Cx} : CallR X (.type "int") rInt1 := call_int1
theorem q_int1 (k : Q (.int i) H) : rInt1 [.int i] H Q := .inl ⟨i, rfl, k⟩
def rStrInt : List V → Hp → VK → Prop := fun xs H Q => ∃ i, xs = [.int i] ∧ i.natAbs.log2 < 1920 ∧ Q (.str (toString i)) H
theorem cq_strInt {X : Cx} : CallR X (.type "str") rStrInt := call_str_int
theorem q_strInt (hb : i.natAbs.log2 < 1920) (k : Q (.str (toString i)) H) : rStrInt [.int i] H Q := ⟨i, rfl, hb, k⟩
def rListOf (K : PySem.W.Frag) : List V → Hp → VK → Prop := fun xs H Q => ∃ p ys, xs = [.ref p] ∧ (SqL K H p ys ∨ SqT K H p ys) ∧ ∀ l, H l = none → Q (.ref l) (upd H l (.lst ys))
theorem cq_listOf {X : Cx} : CallR X (.type "list") (rListOf X.K) := call_list_of
theorem q_listL (h : SqL K H p xs) (k : ∀ l, H l = none → Q (.ref l) (upd H l (.lst xs))) : rListOf K [.ref p] H Q := ⟨p, xs, rfl, .inl h, k⟩
theorem q_listT (h : SqT K H p xs) (k : ∀ l, H l = none → Q (.ref l) (upd H l (.lst xs))) : rListOf K [.ref p] H Q := ⟨p, xs, rfl, .inr h, k⟩
def rTupOf (K : PySem.W.Frag) : List V → Hp → VK → Prop := fun xs H Q => ∃ p ys, xs = [.ref p] ∧ ((SqL K H p ys ∧ ∀ l, H l = none → Q (.ref l) (upd H l (.tup ys))) ∨ (SqT K H p ys ∧ Q (.ref p) H))
theorem cq_tupOf {X : Cx} : CallR X (.type "tuple") (rTupOf X.K) := call_tuple_of
theorem q_tupL (h : SqL K H p xs) (k : ∀ l, H l = none → Q (.ref l) (upd H l (.tup xs))) : rTupOf K [.ref p] H Q := ⟨p, xs, rfl, .inl ⟨h, k⟩⟩
theorem q_sum {ns : List Int} (h : SqL K H a (ns.map V.int)) (k : Q (.int ns.sum) H) : rSum K [.ref a] H Q := ⟨a, ns, rfl, h, k⟩
theorem q_all {bs : List Bool} (h : SqL K H a (bs.map V.bl)) (k : Q (.bl (bs.all id)) H) : rAll K [.ref a] H Q := ⟨a, bs, rfl, h, k⟩
theorem q_any {bs : List Bool} (h : SqL K H a (bs.map V.bl)) (k : Q (.bl (bs.any id)) H) : rAny K [.ref a] H Q := ⟨a, bs, rfl, h, k⟩
def rAddStr : R2 := fun x y H Q => ∃ i j, x = .str i ∧ y = .str j ∧ i.length + j.length ≤ sizeLine ∧ Q (.str (i ++ j)) H
theorem oq_addStr {X : Cx} : OpR X (binaryOp .Add) rAddStr := op_add_str
theorem q_addStr {s z : Str} (hl : s.length + z.length ≤ sizeLine) (k : Q (.str (s ++ z)) H) : rAddStr (.str s) (.str z) H Q := ⟨s, z, rfl, rfl, hl, k⟩
theorem q_isN' (k : Q (.bl (decide (x = .non))) H) : rIsN x .non H Q := ⟨rfl, k⟩
theorem q_notN' (k : Q (.bl (!decide (x = .non))) H) : rNotN x .non H Q := ⟨rfl, k⟩
theorem q_inD {d : PyData} {ds : List PyData} (hd : Dp K H x d) (hy : Dp K H y (.list ds)) (s1 : SeqAt.shaped d = true) (s2 : SeqAt.shaped (.list ds) = true) (k : Q (.bl (ds.any fun z => PyData.eqv z d)) H) : rInD K x y H Q := ⟨d, ds, hd, hy, s1, s2, k⟩
theorem q_notInD {d : PyData} {ds : List PyData} (hd : Dp K H x d) (hy : Dp K H y (.list ds)) (s1 : SeqAt.shaped d = true) (s2 : SeqAt.shaped (.list ds) = true) (k : Q (.bl (!ds.any fun z => PyData.eqv z d)) H) : rNotInD K x y H Q := ⟨d, ds, hd, hy, s1, s2, k⟩
theorem q_ifNT (h : u D σ H) : ifK D t u σ (!true) H := q_ifF h
theorem q_ifNF (h : t D σ H) : ifK D t u σ (!false) H := q_ifT h
theorem q_andNT {R : Bool → Hp → Prop} (h : R false H) : andK tu σ R (!true) H := q_andF h
theorem q_andNF {R : Bool → Hp → Prop} (h : tu σ H R) : andK tu σ R (!false) H := q_andT h
theorem q_orNT {R : Bool → Hp → Prop} (h : tu σ H R) : orK tu σ R (!true) H := q_orF h
theorem q_orNF {R : Bool → Hp → Prop} (h : R true H) : orK tu σ R (!false) H := q_orT h
theorem q_bKNT {R : Bool → Hp → Prop} (h : R false H) : bK R (.bl (!true)) H := q_bK h
theorem q_bKNF {R : Bool → Hp → Prop} (h : R true H) : bK R (.bl (!false)) H := q_bK h
/-! chains, isinstance, texts, dicts -/
def chK2 (r' : R2) (y : V) (tc : TE) (σ : L2.St) (Q : VK) : VK := fun z H3 => ∃ k, z = .bl k ∧ (if k = true then tc σ H3 fun w' H4 => r' y w' H4 Q else Q (.bl false) H3)
theorem q_chain {r r' : R2} (h : ta σ H fun x H1 => tb σ H1 fun y H2 => r x y H2 (chK2 r' y tc σ Q)) : tChain r r' ta tb tc σ H Q := h
theorem q_chT {r' : R2} (h : tc σ H fun w' H4 => r' y w' H4 Q) : chK2 r' y tc σ Q (.bl true) H := ⟨true, rfl, iteT h⟩
theorem q_chF {r' : R2} (h : Q (.bl false) H) : chK2 r' y tc σ Q (.bl false) H := ⟨false, rfl, iteF h⟩
theorem q_ch2 {r' : R2} {c : Bool} (h : c = true → tc σ H fun w' H4 => r' y w' H4 Q) (h2 : c = false → Q (.bl false) H) : chK2 r' y tc σ Q (.bl c) H := by
  cases c with
  | true => exact q_chT (h rfl)
  | false => exact q_chF (h2 rfl)
def rIsiQ (K : PySem.W.Frag) : List V → Hp → VK → Prop := rIsi K
theorem q_isi {n : String} {t : Value} {c : Bool} (ht : TyX K H x t) (hk : PySem.W.kitOne K t (.type n) = some c) (k : Q (.bl c) H) : rIsi K [x, .ty n] H Q := ⟨x, .ty n, t, .type n, c, rfl, .ty n, ht, hk, k⟩
def rOrd : List V → Hp → VK → Prop := fun xs H Q => ∃ x, xs = [.str x] ∧ x.length = 1 ∧ Q (.int (x.cps.getD 0 0 : Nat)) H
theorem cq_ord {X : Cx} : CallR X (.builtin "ord") rOrd := call_ord
theorem q_ord {c : Nat} (k : Q (.int c) H) : rOrd [.str ⟨#[c]⟩] H Q := ⟨_, rfl, rfl, k⟩
theorem q_forS {s : Str} (Pv : Nat → L2.St → Hp → Prop) (h0 : Pv 0 σ H)
    (hs : ∀ i c σ H, s.cps[i]? = some c → Pv i σ H → g (.str ⟨#[c]⟩) σ H fun σ2 H2 => t { D with nx := Pv (i + 1), ct := Pv (i + 1), bk := D.nx } σ2 H2) (hd : ∀ σ H, Pv s.cps.size σ H → D.nx σ H) : forK g t D σ (Its s) H := by
  refine ⟨fun i m σ H => i + m = s.cps.size ∧ Pv i σ H, ⟨s.cps.size, Nat.zero_add _, h0⟩, fun i m σ H hW => ?_⟩
  obtain ⟨e, hp⟩ := hW
  by_cases hi : i < s.cps.size
  · refine .inr ⟨hi, Pv (i + 1), fun σ' H' hN => ⟨m - 1, by omega, by omega, hN⟩, fun x H' hy => ?_⟩
    obtain ⟨rfl, c, hc, rfl⟩ := hy
    exact hs i c σ H' hc hp
  · have e2 : i = s.cps.size := by omega
    subst e2
    exact .inl ⟨Nat.le_refl _, hd σ H hp⟩
theorem q_iStr {s : Str} {R : It → Hp → Prop} (k : R (Its s) H) : ∃ z, V.str s = .str z ∧ R (Its z) H := ⟨s, rfl, k⟩
theorem q_iStr0 {R : It → Hp → Prop} (h : te σ H fun v H1 => ∃ x, v = .str x ∧ R (Its x) H1) : iStr te σ H R := h
def dInK (Q : VK) (y : V) : VK := fun x H2 => ∃ a o, x = .ref a ∧ DGet H2 a y o ∧ Q (.bl o.isSome) H2
def dNInK (Q : VK) (y : V) : VK := fun x H2 => ∃ a o, x = .ref a ∧ DGet H2 a y o ∧ Q (.bl (!o.isSome)) H2
theorem q_tDIn {ty td : TE} (h : ty σ H fun y H1 => td σ H1 (dInK Q y)) : tDIn ty td σ H Q := h
theorem q_tDNotIn {ty td : TE} (h : ty σ H fun y H1 => td σ H1 (dNInK Q y)) : tDNotIn ty td σ H Q := h
theorem q_dInS {kvs : List (Key × V)} {s : Str} (h : H a = some (.dK kvs)) (k : Q (.bl (valV kvs (.inr s)).isSome) H) : dInK Q (.str s) (.ref a) H := ⟨a, _, rfl, DGet.k (k := Sum.inr s) h, k⟩
theorem q_dNInS {kvs : List (Key × V)} {s : Str} (h : H a = some (.dK kvs)) (k : Q (.bl (!(valV kvs (.inr s)).isSome)) H) : dNInK Q (.str s) (.ref a) H := ⟨a, _, rfl, DGet.k (k := Sum.inr s) h, k⟩
theorem q_dInI {kvs : List (Key × V)} (h : H a = some (.dK kvs)) (k : Q (.bl (valV kvs (.inl i)).isSome) H) : dInK Q (.int i) (.ref a) H := ⟨a, _, rfl, DGet.k (k := Sum.inl i) h, k⟩
theorem q_dNInI {kvs : List (Key × V)} (h : H a = some (.dK kvs)) (k : Q (.bl (!(valV kvs (.inl i)).isSome)) H) : dNInK Q (.int i) (.ref a) H := ⟨a, _, rfl, DGet.k (k := Sum.inl i) h, k⟩
def dGetK (Q : VK) (x : V) : VK := fun y H2 => ∃ a v, x = .ref a ∧ DGet H2 a y (some v) ∧ Q v H2
theorem q_tDGet {ty td : TE} (h : td σ H fun x H1 => ty σ H1 (dGetK Q x)) : tDGet td ty σ H Q := h
theorem q_dGetS {kvs : List (Key × V)} {s : Str} (h : H a = some (.dK kvs)) (e : valV kvs (.inr s) = some v) (k : Q v H) : dGetK Q (.ref a) (.str s) H := ⟨a, v, rfl, by rw [← e]; exact DGet.k (k := Sum.inr s) h, k⟩
theorem q_dGetI {kvs : List (Key × V)} (h : H a = some (.dK kvs)) (e : valV kvs (.inl i) = some v) (k : Q v H) : dGetK Q (.ref a) (.int i) H := ⟨a, v, rfl, by rw [← e]; exact DGet.k (k := Sum.inl i) h, k⟩
theorem q_dNew (k : ∀ p, H p = none → Q (.ref p) (upd H p (.dK []))) : tDNewK σ H Q := k
def dPutK (D : Ends) (σ : L2.St) (v x : V) : VK := fun y H3 => ∃ a H4, x = .ref a ∧ DPut H3 a y v H4 ∧ D.nx σ H4
theorem q_sDPut {td ty tv : TE} (h : tv σ H fun v H1 => td σ H1 fun x H2 => ty σ H2 (dPutK D σ v x)) : sDPut td ty tv D σ H := h
theorem q_dPutS {kvs : List (Key × V)} {s : Str} (h : H a = some (.dK kvs)) (hl : kvs.length < sizeLine) (k : D.nx σ (upd H a (.dK (putK kvs (.inr s) v)))) : dPutK D σ v (.ref a) (.str s) H := ⟨a, _, rfl, DPut.k (k := Sum.inr s) h hl, k⟩
theorem q_dPutI {kvs : List (Key × V)} (h : H a = some (.dK kvs)) (hl : kvs.length < sizeLine) (k : D.nx σ (upd H a (.dK (putK kvs (.inl i) v)))) : dPutK D σ v (.ref a) (.int i) H := ⟨a, _, rfl, DPut.k (k := Sum.inl i) h hl, k⟩
def truK (K : PySem.W.Frag) (R : Bool → Hp → Prop) : VK := fun x H' => ∃ k, TruV K x H' k ∧ R k H'
theorem q_tru {R : Bool → Hp → Prop} (h : te σ H (truK K R)) : (fun (σ : L2.St) (H : Hp) (Q : Bool → Hp → Prop) => te σ H fun x H' => ∃ k, TruV K x H' k ∧ Q k H') σ H R := h
theorem q_isBl {c d : Bool} (k : Q (.bl (decide (c = d))) H) : rIsB (.bl c) (.bl d) H Q := ⟨c, d, rfl, rfl, k⟩
theorem q_notBl {c d : Bool} (k : Q (.bl (!decide (c = d))) H) : rNotB (.bl c) (.bl d) H Q := ⟨c, d, rfl, rfl, k⟩
theorem q_inT (h : SqT K H p xs) (hx : flatV x = true) (ha : xs.all flatV = true) (k : Q (.bl (inV x xs)) H) : rIn K false x (.ref p) H Q := ⟨p, xs, rfl, .inr h, hx, ha, k⟩
theorem q_inL (h : SqL K H p xs) (hx : flatV x = true) (ha : xs.all flatV = true) (k : Q (.bl (inV x xs)) H) : rIn K false x (.ref p) H Q := ⟨p, xs, rfl, .inl h, hx, ha, k⟩
theorem q_eqD {d e : PyData} (hd : Dp K H x d) (he : Dp K H y e) (s1 : SeqAt.shaped d = true) (s2 : SeqAt.shaped e = true) (k : Q (.bl (PyData.eqv d e)) H) : rEqD K x y H Q := ⟨d, e, hd, he, s1, s2, k⟩
theorem q_neD {d e : PyData} (hd : Dp K H x d) (he : Dp K H y e) (s1 : SeqAt.shaped d = true) (s2 : SeqAt.shaped e = true) (k : Q (.bl (!PyData.eqv d e)) H) : rNeD K x y H Q := ⟨d, e, hd, he, s1, s2, k⟩
theorem q_catA (h1 : H a = some (.tup xs)) (h2 : H b = some (.tup ys)) (hl : xs.length + ys.length ≤ sizeLine) (k : ∀ p H', Same H H' → H' p = some (.tup (xs ++ ys)) → Q (.ref p) H') : rCatA K (.ref a) (.ref b) H Q := by
  refine ⟨a, b, xs, ys, rfl, rfl, sqT h1, sqT h2, hl, fun e => ?_, fun _ e => ?_, fun _ _ p hp => k p _ (Same.new (Same.refl _) hp) upd_same⟩
  · subst e; exact k b H (Same.refl _) h2
  · subst e; exact k a H (Same.refl _) (by rw [List.append_nil]; exact h1)
theorem q_slA {lo hi : Option Int} (h : H a = some (.tup xs)) (k : ∀ p H', Same H H' → H' p = some (.tup (cutV xs lo hi)) → Q (.ref p) H') : rSlA K (.ref a) lo hi H Q := by
  refine ⟨a, xs, rfl, sqT h, fun e => ?_, fun _ p hp => k p _ (Same.new (Same.refl _) hp) upd_same⟩
  refine k a H (Same.refl _) ?_
  unfold cutV
  rw [e.1, e.2, List.drop_zero, Nat.sub_zero, List.take_length]
  exact h
theorem cut_take {n : Nat} (hn : n ≤ xs.length) : cutV xs none (some (n : Int)) = xs.take n := by
  unfold cutV
  rw [HT.sIx_none, show HT.sIx xs.length xs.length (some (n : Int)) = min n xs.length from HT.sIx_nat xs.length xs.length n, Nat.min_eq_left hn, List.drop_zero, Nat.sub_zero]
theorem cut_drop {n : Nat} (hn : n ≤ xs.length) : cutV xs (some (n : Int)) none = xs.drop n := by
  unfold cutV
  rw [HT.sIx_none, show HT.sIx xs.length 0 (some (n : Int)) = min n xs.length from HT.sIx_nat xs.length 0 n, Nat.min_eq_left hn]
  exact List.take_of_length_le (by rw [List.length_drop]; exact Nat.le_refl _)
theorem q_sl {r : V → Option Int → Option Int → Hp → VK → Prop} {tl th : TO} (h : te σ H fun x H1 => tl σ H1 fun l H2 => th σ H2 fun u H3 => r x l u H3 Q) : tSl r te tl th σ H Q := h
theorem q_noPart {R : Option Int → Hp → Prop} (k : R none H) : tNoPart σ H R := k
def partK (R : Option Int → Hp → Prop) : VK := fun x H1 => ∃ i, x = .int i ∧ R (some i) H1
theorem q_part {R : Option Int → Hp → Prop} (h : te σ H (partK R)) : tPart te σ H R := h
theorem q_partK {R : Option Int → Hp → Prop} (k : R (some i) H) : partK R (.int i) H := ⟨i, rfl, k⟩
/-! a text times a number -/
def repS (s : Str) (n : Int) : Str := ⟨(List.replicate n.toNat s.cps).foldl (· ++ ·) #[]⟩
def mulOk (s : Str) (n : Int) : Bool := decide (2 ≤ n) && decide (n ≤ 1000) && decide (s.length = 1) && decide ((repS s n).length ≤ 1000)
def rMulStr : R2 := fun x y H Q => ∃ s n, x = .str s ∧ y = .int n ∧ mulOk s n = true ∧ Q (.str (repS s n)) H
theorem oq_mulStr {X : Cx} : OpR X (binaryOp .Mult) rMulStr := by
  intro pins s σ H x y v u Q I rx ry h
  obtain ⟨z, n, rfl, rfl, hm, q⟩ := h
  obtain ⟨t, rfl⟩ := rx
  obtain ⟨t', rfl⟩ := ry
  unfold mulOk at hm
  simp only [Bool.and_eq_true, decide_eq_true_eq] at hm
  obtain ⟨⟨⟨h1, h2⟩, h3⟩, h4⟩ := hm
  have e1 : (n == 1 || z.length == 0) = false := by
    rw [h3]
    have : (n == 1) = false := beq_eq_false_iff_ne.mpr (by omega)
    rw [this]
    rfl
  refine PySem.P.mul_str ?_ (fun _ _ => ?_) (fun _ _ => ?_) ?_
  · rw [decide_eq_false (show ¬ n < -(2 ^ 63) by omega), decide_eq_false (show ¬ n ≥ 2 ^ 63 by omega)]
    rfl
  · rw [h3]
    have : (1 : Int) ≤ (2 ^ 63 - 1) / n := Int.le_ediv_of_mul_le (by omega) (by omega)
    exact Int.not_lt.mpr this
  · rw [h3, Nat.one_mul]
    exact decide_eq_false (by
      have : sizeLine = 16777216 := sizeLine_eq
      omega)
  · rw [if_neg (show ¬ n < 1 by omega), if_neg (by rw [e1]; exact Bool.false_ne_true)]
    exact ⟨Nat.le_trans h4 (by decide), .str (repS z n), H, I.tok _, ⟨_, rfl⟩, q⟩
theorem q_mulStr {s : Str} (hm : mulOk s i = true) (k : Q (.str (repS s i)) H) : rMulStr (.str s) (.int i) H Q := ⟨s, i, rfl, rfl, hm, k⟩
/-! methods of lists -/
def bmK (K : PySem.W.Frag) (T : String) (r : V → List V → Hp → VK → Prop) (t : TA) (σ : L2.St) (Q : VK) : VK := fun x H1 => tyV K T x H1 ∧ t σ H1 fun xs H2 => r x xs H2 Q
def bmK0 (K : PySem.W.Frag) (T : String) (r : V → List V → Hp → VK → Prop) (Q : VK) : VK := fun x H1 => tyV K T x H1 ∧ r x [] H1 Q
theorem q_bm {T : String} {r : V → List V → Hp → VK → Prop} (h : te σ H (bmK K T r tr σ Q)) : tBM K T r te tr σ H Q := h
theorem q_bm0 {T : String} {r : V → List V → Hp → VK → Prop} (h : te σ H (bmK0 K T r Q)) : tBM0 K T r te σ H Q := h
theorem q_bmL {r : V → List V → Hp → VK → Prop} (h : H l = some (.lst xs)) (k : tr σ H fun vs H2 => r (.ref l) vs H2 Q) : bmK K "list" r tr σ Q (.ref l) H := ⟨.inl ⟨rfl, xs, sqL h⟩, k⟩
theorem q_bmL0 {r : V → List V → Hp → VK → Prop} (h : H l = some (.lst xs)) (k : r (.ref l) [] H Q) : bmK0 K "list" r Q (.ref l) H := ⟨.inl ⟨rfl, xs, sqL h⟩, k⟩
theorem q_append (h : H l = some (.lst xs)) (hl : xs.length < sizeLine) (k : Q .non (upd H l (.lst (xs ++ [y])))) : rAppend (.ref l) [y] H Q := ⟨l, xs, y, rfl, rfl, h, hl, k⟩
theorem q_popAt {n : Nat} (h : H l = some (.lst xs)) (e : i = (n : Int)) (hn : n < xs.length) (hb : i < 2 ^ 63) (hv : xs[n]? = some v) (k : Q v (upd H l (.lst (xs.eraseIdx n)))) : rPopAt (.ref l) [.int i] H Q := by
  refine ⟨l, xs, i, n, v, rfl, rfl, h, by omega, hb, ?_, hv, k⟩
  subst e
  unfold seqIndex?
  have h1 : ¬ ((n : Int) < 0) := by omega
  have h2 : (n : Int) < (xs.length : Int) := by omega
  have h3 : (0 : Int) ≤ (n : Int) := by omega
  simp [h1, h2, h3]
/-! a walk over a list or a tuple -/
theorem pi_or {X : Cx} {tg e : Expr} {w1 w2 : TI} (h1 : PI X tg e w1) (h2 : PI X tg e w2) : PI X tg e (fun σ H R => w1 σ H R ∨ w2 σ H R) :=
  ⟨fun pins s σ H R I h => h.elim (h1.run pins s σ H R I) (h2.run pins s σ H R I)⟩
def iSeq (K : PySem.W.Frag) (te : TE) : TI := fun σ H R => iList K te σ H R ∨ iTup K te σ H R
theorem pi_seq {X : Cx} {tg e : Expr} {te : TE} (h : PE X e te) : PI X tg e (iSeq X.K te) := pi_or (pi_list h) (pi_tup h)
theorem q_iSeqL {R : It → Hp → Prop} (h : te σ H fun x H1 => ∃ a, x = .ref a ∧ (∃ xs, SqL K H1 a xs) ∧ R (Itl K a) H1) : iSeq K te σ H R := .inl h
theorem q_iSeqT {R : It → Hp → Prop} (h : te σ H fun x H1 => ∃ a, x = .ref a ∧ (∃ xs, SqT K H1 a xs) ∧ R (Itt K a) H1) : iSeq K te σ H R := .inr h
/-! a written dict -/
def pairsK (σ : L2.St) (r : List (TE × TE)) (x : V) (Q : List (V × V) → Hp → Prop) : VK := fun y H2 => tPairs r σ H2 fun ps H3 => Q ((x, y) :: ps) H3
theorem q_pairC {tk tv : TE} {r : List (TE × TE)} {R : List (V × V) → Hp → Prop} (h : tk σ H fun x H1 => tv σ H1 (pairsK σ r x R)) : tPairs ((tk, tv) :: r) σ H R := h
theorem q_pairsK {r : List (TE × TE)} {R : List (V × V) → Hp → Prop} (h : tPairs r σ H fun ps H3 => R ((x, y) :: ps) H3) : pairsK σ r x R y H := h
theorem q_pairN {R : List (V × V) → Hp → Prop} (h : R [] H) : tPairs [] σ H R := h
def dispK (Q : VK) (p : Addr) : List (V × V) → Hp → Prop := fun ps H2 => H2 p = some (.dK []) ∧ ∃ kvs : List (Key × V), ps = kvs.map (fun kv => (kV kv.1, kv.2)) ∧ kvs.length ≤ 15 ∧ Q (.ref p) (upd H2 p (.dK (mergeK [] kvs)))
theorem q_disp {trs : List (TE × TE)} (k : ∀ p, H p = none → tPairs trs σ (upd H p (.dK [])) (dispK Q p)) : tDisp trs σ H Q := k
theorem valV_cons {κ : Type} [DecidableEq κ] {kvs : List (κ × V)} {k k' : κ} {v : V} : valV ((k, v) :: kvs) k' = if k = k' then some v else valV kvs k' := by
  unfold valV
  rw [List.find?_cons]
  by_cases e : k = k'
  · rw [if_pos e, decide_eq_true e]; rfl
  · rw [if_neg e, decide_eq_false e]
theorem valV_nomem {κ : Type} [DecidableEq κ] {kvs : List (κ × V)} {k : κ} (h : k ∉ kvs.map (·.1)) : valV kvs k = none := by
  cases q : valV kvs k with
  | none => rfl
  | some v => exact absurd (valV_in q) h
theorem merge_app : ∀ (kvs acc : List (Key × V)), ((acc ++ kvs).map (·.1)).Nodup → mergeK acc kvs = acc ++ kvs
  | [], acc, _ => by rw [List.append_nil]; rfl
  | (k, v) :: r, acc, h => by
    have hk : k ∉ acc.map (·.1) := by
      rw [List.map_append] at h
      intro m
      exact (List.nodup_append.mp h).2.2 k m k (by simp) rfl
    show mergeK (putK acc k v) r = _
    rw [putK_new v (valV_nomem hk), merge_app r (acc ++ [(k, v)]) (by rw [List.append_assoc]; exact h), List.append_assoc]
    rfl
theorem q_dispK {kvs : List (Key × V)} {ps : List (V × V)} (h : H p = some (.dK [])) (e : ps = kvs.map (fun kv => (kV kv.1, kv.2))) (hl : kvs.length ≤ 15) (hn : (kvs.map (·.1)).Nodup) (k : Q (.ref p) (upd H p (.dK kvs))) : dispK Q p ps H :=
  ⟨h, kvs, e, hl, by rw [merge_app kvs [] hn]; exact k⟩
theorem q_slL {lo hi : Option Int} (h : SqL K H a xs) (k : ∀ p, H p = none → Q (.ref p) (upd H p (.lst (cutV xs lo hi)))) : rSlL K (.ref a) lo hi H Q := ⟨a, xs, rfl, h, k⟩
/-! attributes and methods -/
def fldK (K : PySem.W.Frag) (f : Str) (Q : VK) : VK := fun x H1 => ∃ a C dx fs v, x = .ref a ∧ H1 a = some (.ins C dx fs) ∧ Cls K C ∧ NoAttr K C f ∧ fs.lookup f = some v ∧ Q v H1
theorem q_fld {f : Str} (h : te σ H (fldK K f Q)) : tFld K te f σ H Q := h
theorem q_fldK {f : Str} {C dx : Addr} {fs : List (Str × V)} (h : H a = some (.ins C dx fs)) (hc : Cls K C) (hn : NoAttr K C f) (hl : fs.lookup f = some v) (k : Q v H) : fldK K f Q (.ref a) H := ⟨a, C, dx, fs, v, rfl, h, hc, hn, hl, k⟩
def fputK (K : PySem.W.Frag) (f : Str) (D : Ends) (σ : L2.St) (y : V) : VK := fun x H2 => ∃ a C dx fs, x = .ref a ∧ H2 a = some (.ins C dx fs) ∧ Cls K C ∧ NoAttr K C f ∧ fs.length < 1000 ∧ D.nx σ (upd H2 a (.ins C dx (putF f y fs)))
theorem q_sFld {f : Str} (h : tb σ H fun y H1 => te σ H1 (fputK K f D σ y)) : sFld K te tb f D σ H := h
theorem q_fputK {f : Str} {C dx : Addr} {fs : List (Str × V)} (h : H a = some (.ins C dx fs)) (hc : Cls K C) (hn : NoAttr K C f) (hl : fs.length < 1000) (k : D.nx σ (upd H a (.ins C dx (putF f y fs)))) : fputK K f D σ y (.ref a) H := ⟨a, C, dx, fs, rfl, h, hc, hn, hl, k⟩
def methK (m : Str) (C : Addr) (sp : Sp) (dvs : List V) (E : XK) (tr : TA) (σ : L2.St) (Q : VK) : VK := fun x H1 => ∃ a dx fs, x = .ref a ∧ H1 a = some (.ins C dx fs) ∧ fs.lookup m = none ∧ tr σ H1 fun vs H2 => sp (x :: (vs ++ dvs)) H2 Q E
theorem q_meth {m : Str} {C : Addr} {sp : Sp} {dvs : List V} {E : XK} (h : te σ H (methK m C sp dvs E tr σ Q)) : tMeth C m sp dvs E te tr σ H Q := h
def selfK (sp : Sp) (x : V) (E : XK) (Q : VK) : List V → Hp → Prop := fun vs H2 => sp (x :: vs) H2 Q E
theorem q_methK {m : Str} {C dx : Addr} {sp : Sp} {E : XK} {fs : List (Str × V)} (h : H a = some (.ins C dx fs)) (hn : fs.lookup m = none) (k : ∀ (R : List V → Hp → Prop), (∀ vs H2, sp (.ref a :: vs) H2 Q E → R vs H2) → tr σ H R) : methK m C sp [] E tr σ Q (.ref a) H :=
  ⟨a, dx, fs, rfl, h, hn, k _ fun vs H2 q => by rw [List.append_nil]; exact q⟩
theorem q_fldlen {f : Str} {fs : List (Str × V)} {y : V} {n : Nat} (h : fs.length ≤ n) : (putF f y fs).length ≤ n + 1 := by
  induction fs generalizing n with
  | nil => exact Nat.succ_le_succ (Nat.zero_le _)
  | cons p r ih =>
    obtain ⟨g, x⟩ := p
    show (if g = f then (g, y) :: r else (g, x) :: putF f y r).length ≤ n + 1
    by_cases e : g = f
    · rw [if_pos e]; exact Nat.le_succ_of_le h
    · rw [if_neg e]
      cases n with
      | zero => exact absurd h (by simp)
      | succ n => exact Nat.succ_le_succ (ih (Nat.le_of_succ_le_succ h))
theorem q_never {σ : L2.St} (h : False) : tNever D σ H := h
def mkK (C : Addr) (n m : Nat) (sp : Sp) (gV : List V → List V → List V) (E : XK) (vs : List V) (Q : VK) : List V → Hp → Prop := fun zs H2 => vs.length = n ∧ zs.length = m ∧ ∀ x dx, H2 x = none → H2 dx = none → dx ≠ x →
  sp (gV (.ref x :: vs) zs) (upd (upd H2 dx (.own x)) x (.ins C dx [])) (fun v H3 => v = .non ∧ Q (.ref x) H3) E
theorem q_makeK {C : Addr} {n m : Nat} {sp : Sp} {gV : List V → List V → List V} {E : XK} {tk : TA} (h : tr σ H fun vs H1 => tk σ H1 (mkK C n m sp gV E vs Q)) : tMakeK C n m sp gV E tr tk σ H Q := h
/-! comprehensions -/
def lcK (g : TG) (tt : TT) (te : TE) (vs : List Nat) (σ : L2.St) (Q : VK) : It → Hp → Prop := fun J H1 => ∀ D, H1 D = none → ∃ W : Nat → Nat → Hp → Prop, (∃ m, W 0 m (upd H1 D (.lst []))) ∧ ∀ i m H, W i m H →
  (J.stop i H ∧ Q (.ref D) H) ∨ (J.go i H ∧ ∃ Nx : Hp → Prop, (∀ H', Nx H' → ∃ m', m' < m ∧ W (i + 1) m' H') ∧ ∀ x H', J.yld i H x H' → g x (wipe σ vs) H' fun σ2 H2 => wipe σ2 vs = wipe σ vs ∧ tt σ2 H2 fun b H3 =>
    if b = true then te σ2 H3 fun y H4 => ∃ acc, H4 D = some (.lst acc) ∧ acc.length < sizeLine ∧ Nx (upd H4 D (.lst (acc ++ [y]))) else Nx H3)
theorem q_lc {wi : TI} {vs : List Nat} (h : wi σ H (lcK g tt te vs σ Q)) : tLc wi g tt te vs σ H Q := h
def keepK (te : TE) (σ : L2.St) (D : Addr) (Nx : Hp → Prop) : Bool → Hp → Prop := fun b H3 => if b = true then te σ H3 fun y H4 => ∃ acc, H4 D = some (.lst acc) ∧ acc.length < sizeLine ∧ Nx (upd H4 D (.lst (acc ++ [y]))) else Nx H3
def accK (D : Addr) (Nx : Hp → Prop) : VK := fun y H4 => ∃ acc, H4 D = some (.lst acc) ∧ acc.length < sizeLine ∧ Nx (upd H4 D (.lst (acc ++ [y])))
theorem q_keepT {Nx : Hp → Prop} (h : te σ H (accK l Nx)) : keepK te σ l Nx true H := iteT h
theorem q_keepF {Nx : Hp → Prop} (h : Nx H) : keepK te σ l Nx false H := iteF h
theorem q_keep2 {Nx : Hp → Prop} {c : Bool} (h : c = true → te σ H (accK l Nx)) (h2 : c = false → Nx H) : keepK te σ l Nx c H := by
  cases c with
  | true => exact iteT (h rfl)
  | false => exact iteF (h2 rfl)
theorem q_accK {Nx : Hp → Prop} (h : H l = some (.lst xs)) (hl : xs.length < sizeLine) (k : Nx (upd H l (.lst (xs ++ [y])))) : accK l Nx y H := ⟨xs, h, hl, k⟩
theorem q_lcL {S : List V} {vs : List Nat} (h : SqL K H a S) (k : ∀ D, H D = none → ∃ Pv : Nat → Hp → Prop, Pv 0 (upd H D (.lst [])) ∧ (∀ i H, i ≤ S.length → Pv i H → SqL K H a S) ∧
      (∀ i x H, S[i]? = some x → Pv i H → g x (wipe σ vs) H fun σ2 H2 => wipe σ2 vs = wipe σ vs ∧ tt σ2 H2 (keepK te σ2 D (Pv (i + 1)))) ∧ ∀ H, Pv S.length H → Q (.ref D) H) :
    ∃ b, V.ref a = .ref b ∧ (∃ xs, SqL K H b xs) ∧ lcK g tt te vs σ Q (Itl K b) H := ⟨a, rfl, ⟨S, h⟩, fun D hD => by
      obtain ⟨Pv, h0, hl, hs, hd⟩ := k D hD
      exact lc_list Pv h0 hl hs hd⟩
theorem q_lcT {S : List V} {vs : List Nat} (h : SqT K H a S) (k : ∀ D, H D = none → ∃ Pv : Nat → Hp → Prop, Pv 0 (upd H D (.lst [])) ∧ (∀ i H, i ≤ S.length → Pv i H → SqT K H a S) ∧
      (∀ i x H, S[i]? = some x → Pv i H → g x (wipe σ vs) H fun σ2 H2 => wipe σ2 vs = wipe σ vs ∧ tt σ2 H2 (keepK te σ2 D (Pv (i + 1)))) ∧ ∀ H, Pv S.length H → Q (.ref D) H) :
    ∃ b, V.ref a = .ref b ∧ (∃ xs, SqT K H b xs) ∧ lcK g tt te vs σ Q (Itt K b) H := ⟨a, rfl, ⟨S, h⟩, fun D hD => by
      obtain ⟨Pv, h0, hl, hs, hd⟩ := k D hD
      exact lc_tup Pv h0 hl hs hd⟩
theorem q_lcR {vs : List Nat} (hj : 0 ≤ j ∧ j < 1000000000000000) (k : ∀ D, H D = none → ∃ Pv : Nat → Hp → Prop, Pv 0 (upd H D (.lst [])) ∧
      (∀ (i : Nat) H, (i : Int) < j → Pv i H → g (.int i) (wipe σ vs) H fun σ2 H2 => wipe σ2 vs = wipe σ vs ∧ tt σ2 H2 (keepK te σ2 D (Pv (i + 1)))) ∧ ∀ H, Pv j.toNat H → Q (.ref D) H) :
    rg1K (lcK g tt te vs σ Q) [.int j] H := ⟨j, rfl, by omega, by omega, fun D hD => by
      obtain ⟨Pv, h0, hs, hd⟩ := k D hD
      refine lc_range Pv h0 (fun i H hi hp => ?_) hd
      have e : (0 : Int) + (i : Int) = (i : Int) := Int.zero_add _
      rw [e]
      exact hs i H (by omega) hp⟩
end

/-! get and setdefault of a dict -/
section
variable {H : Hp} {σ : L2.St} {Q : VK} {td ty tx : TE} {a : Addr} {z v : V}
def dG2K (Q : VK) (a : Addr) (y : V) : VK := fun z H3 => ∃ o, DGet H3 a y o ∧ Q (o.getD z) H3
def dG2a (ty tx : TE) (σ : L2.St) (Q : VK) : VK := fun x H1 => ∃ a, x = .ref a ∧ IsD H1 a ∧ ty σ H1 fun y H2 => tx σ H2 (dG2K Q a y)
theorem q_tDGet2 (h : td σ H (dG2a ty tx σ Q)) : tDGet2 td ty tx σ H Q := h
theorem q_dG2a {kvs : List (Key × V)} (h : H a = some (.dK kvs)) (k : ty σ H fun y H2 => tx σ H2 (dG2K Q a y)) : dG2a ty tx σ Q (.ref a) H := ⟨a, rfl, .inl ⟨kvs, .inl h⟩, k⟩
theorem q_dG2S {kvs : List (Key × V)} {s : Str} (h : H a = some (.dK kvs)) (k : Q ((valV kvs (.inr s)).getD z) H) : dG2K Q a (.str s) z H := ⟨_, DGet.k (k := Sum.inr s) h, k⟩
theorem q_dG2I {kvs : List (Key × V)} {i : Int} (h : H a = some (.dK kvs)) (k : Q ((valV kvs (.inl i)).getD z) H) : dG2K Q a (.int i) z H := ⟨_, DGet.k (k := Sum.inl i) h, k⟩
def dSdK (Q : VK) (a : Addr) (y : V) : VK := fun z H3 => ∃ (kvs : List (Key × V)) (k : Key), H3 a = some (.dK kvs) ∧ y = kV k ∧ kvs.length < sizeLine ∧ (∀ v, valV kvs k = some v → Q v H3) ∧ (valV kvs k = none → Q z (upd H3 a (.dK (putK kvs k z))))
def dSda (ty tx : TE) (σ : L2.St) (Q : VK) : VK := fun x H1 => ∃ a, x = .ref a ∧ IsD H1 a ∧ ty σ H1 fun y H2 => tx σ H2 (dSdK Q a y)
theorem q_tDSetd (h : td σ H (dSda ty tx σ Q)) : tDSetd td ty tx σ H Q := h
theorem q_dSda {kvs : List (Key × V)} (h : H a = some (.dK kvs)) (k : ty σ H fun y H2 => tx σ H2 (dSdK Q a y)) : dSda ty tx σ Q (.ref a) H := ⟨a, rfl, .inl ⟨kvs, .inl h⟩, k⟩
theorem q_dSdS {kvs : List (Key × V)} {s : Str} (h : H a = some (.dK kvs)) (hl : kvs.length < sizeLine) (k1 : ∀ v, valV kvs (.inr s) = some v → Q v H) (k2 : valV kvs (.inr s) = none → Q z (upd H a (.dK (putK kvs (.inr s) z)))) : dSdK Q a (.str s) z H := ⟨kvs, .inr s, h, rfl, hl, k1, k2⟩
end

/-! methods that may raise within a try; the suite of one class; del of an item; a text times 1 -/
section
variable {K : PySem.W.Frag} {σ : L2.St} {H : Hp} {Q : VK} {D : Ends} {l : Addr} {xs : List V} {i : Int} {to ti : TE}
def delK (D : Ends) (σ : L2.St) (x : V) : VK := fun y H2 => ∃ (l : Addr) (xs : List V) (i : Int) (k : Nat), x = .ref l ∧ y = .int i ∧ H2 l = some (.lst xs) ∧ -(2 ^ 63) ≤ i ∧ i < 2 ^ 63 ∧ seqIndex? i xs.length = some k ∧ D.nx σ (upd H2 l (.lst (xs.eraseIdx k)))
theorem q_delL (h : to σ H fun x H1 => ti σ H1 (delK D σ x)) : tDelL to ti D σ H := h
theorem seqIx {n m : Nat} (h : n < m) : seqIndex? (n : Int) m = some n := by
  unfold seqIndex?
  have h1 : ¬ ((n : Int) < 0) := by omega
  have h2 : (n : Int) < (m : Int) := by omega
  have h3 : (0 : Int) ≤ (n : Int) := by omega
  simp [h1, h2, h3]
theorem q_delK {n : Nat} (h : H l = some (.lst xs)) (e : i = (n : Int)) (hn : n < xs.length) (hb : i < 2 ^ 63) (k : D.nx σ (upd H l (.lst (xs.eraseIdx n)))) : delK D σ (.ref l) (.int i) H :=
  ⟨l, xs, i, n, rfl, rfl, h, by omega, hb, by rw [e]; exact seqIx hn, k⟩
def rMulStr1 : R2 := fun x y H Q => ∃ s, x = .str s ∧ y = .int 1 ∧ Q (.str s) H
theorem oq_mulStr1 {X : Cx} : OpR X (binaryOp .Mult) rMulStr1 := by
  intro pins s σ H x y v u Q I rx ry h
  obtain ⟨z, rfl, rfl, q⟩ := h
  obtain ⟨t, rfl⟩ := rx
  obtain ⟨t', rfl⟩ := ry
  refine PySem.P.mul_str (by decide) (fun _ h => by cases h) (fun _ h => by cases h) ?_
  rw [if_neg (show ¬ (1 : Int) < 1 by omega), if_pos (by rfl)]
  exact ⟨.str z, H, I, ⟨_, rfl⟩, q⟩
theorem q_mulStr1 {s : Str} (k : Q (.str s) H) : rMulStr1 (.str s) (.int 1) H Q := ⟨s, rfl, rfl, k⟩
theorem q_int1b {c : Bool} (k : Q (.int (if c then 1 else 0)) H) : rInt1 [.bl c] H Q := .inr ⟨c, rfl, k⟩
theorem q_int1t (k : Q (.int 1) H) : rInt1 [.bl true] H Q := .inr ⟨true, rfl, k⟩
theorem q_neB {c d : Bool} (k : Q (.bl (c != d)) H) : rNe (.bl c) (.bl d) H Q := ⟨rfl, by
  have e : (!decide (V.bl c = V.bl d)) = (c != d) := by cases c <;> cases d <;> rfl
  rw [e]; exact k⟩
theorem q_neBs {c : Bool} (k : Q (.bl false) H) : rNe (.bl c) (.bl c) H Q := q_neB (by rw [bne_self_eq_false]; exact k)
def tMethA (C : Addr) (m : Str) (sp : Sp) (E : L2.St → XK) (ta : TE) (t : TA) : TE := fun σ H Q => ta σ H fun x H1 => ∃ a dx fs, x = .ref a ∧ H1 a = some (.ins C dx fs) ∧ fs.lookup m = none ∧ t σ H1 fun vs H2 => sp (x :: vs) H2 Q (E σ)
def methAK (C : Addr) (m : Str) (sp : Sp) (E : L2.St → XK) (t : TA) (σ : L2.St) (Q : VK) : VK := fun x H1 => ∃ a dx fs, x = .ref a ∧ H1 a = some (.ins C dx fs) ∧ fs.lookup m = none ∧ t σ H1 fun vs H2 => sp (x :: vs) H2 Q (E σ)
theorem q_methA {C : Addr} {m : Str} {sp : Sp} {E : L2.St → XK} {ta : TE} {t : TA} (h : ta σ H (methAK C m sp E t σ Q)) : tMethA C m sp E ta t σ H Q := h
theorem q_methAK {C dx a : Addr} {m : Str} {sp : Sp} {E : L2.St → XK} {t : TA} {fs : List (Str × V)} (h : H a = some (.ins C dx fs)) (hn : fs.lookup m = none) (k : t σ H fun vs H2 => sp (.ref a :: vs) H2 Q (E σ)) : methAK C m sp E t σ Q (.ref a) H := ⟨a, dx, fs, rfl, h, hn, k⟩
theorem q_callS {sp : Sp} {E : L2.St → XK} {t : TA} (h : t σ H fun vs H1 => sp vs H1 Q (E σ)) : tCallS sp E t σ H Q := h
theorem q_isE {D a C : Addr} {b : Bool} (e : PySem.W.kitOne K (.ref D) (.ref C) = some b) (k : Q (.bl b) H) : rIsE K D a [.ref a, .ref C] H Q := ⟨.ref C, .ref C, b, rfl, fun _ r => r, e, k⟩
end
section
variable {X : Cx} {CX : CXT} {k : Nat} {f C : Addr} {fd : FuncData} {ps : List Str} {sp : Sp} {E : L2.St → XK} {m : Str} {pos apos : Pos} {e o : Expr} {es : List Expr} {ta : TE} {t : TA}
theorem pe_methA {pl : Sem Bool} (he : PE X o ta) (c : Cls X.K C) (hm : Meth X.K C m f) (F : FnOk X.prog X.w X.K X.mg X.base CX k f fd ps sp) (hr : Room k X.A) (hb : Binds X.K fd ps []) (hx : ∀ σ, PassesAt CX X σ (E σ)) (ha : PA X (e :: es) t)
    (hst : starEach (e :: es) X.env = (false, eval e X.env) :: starEach es X.env := by rfl) (hpl : (backTo pos (starEach es X.env)).any (·.1) = false := by rfl)
    (ht : eval (.Call (.Attribute o m apos) (e :: es) [] pos) X.env = (do
      let ov ← eval o X.env
      standAt apos.atName
      let (f, first) ← holding [ov] (getMethod ov m pl)
      callWith pos f first (backTo pos (starEach (e :: es) X.env)) (backToKw pos (keywordEach [] X.env))) := by rfl) :
    PE X (.Call (.Attribute o m apos) (e :: es) [] pos) (tMethA C m sp E ta t) := by
  refine ⟨fun pins s σ H Q I h => ?_⟩
  refine PySem.W.methodCall_KW (pl := pl) (thn (he.run pins s σ H _ I h) fun u s1 ⟨x, H1, I1, rx, a, dx, fs, ex, ea, l, q⟩ => ?_) ht
  subst ex
  obtain rfl : u = Value.ref a := rx
  refine getmeth_ok I1 ea c hm l ?_
  refine PySem.W.callWith_K (first := [.ref a]) (h₀ := X.base) I.ok.mod.kin hm.kp (thn (ha.run pos pins s1 σ H1 _ I1 q) fun us s2 ⟨vs, H2, I2, r, q2⟩ => ⟨I2.kIn, ?_⟩) hst hpl
  exact run_fnS (us := .ref a :: us) (vs := .ref a :: vs) F hr hb (hx σ) I2 (.cons rfl r) q2
theorem pss_cls {oe : Obj} {cls : Value} {d : Option Addr} {b : List Stmt} {t : TS} (hz : Zc cls d oe) (h : Zc (.ref C) none oe → PSs X b t) : PSs X b (fun D σ H => (cls = .ref C ∧ d = none) ∧ t D σ H) :=
  ⟨fun pins s σ H D I q => (h (by obtain ⟨⟨e1, e2⟩, _⟩ := q; rw [e1, e2] at hz; exact hz)).run pins s σ H D I q.2⟩
end

/-! the sum of a dict's values; dicts keyed by tuples -/
section
variable {X : Cx} {o : Expr} {p pos apos mpos : Pos} {td : TE}
def tSumVals (td : TE) : TE := fun σ H Q => td σ H fun x H1 => ∃ (a : Addr) (kvs : List (Key × V)) (is : List Int), x = V.ref a ∧ H1 a = some (.dK kvs) ∧ kvs.map (·.2) = is.map V.int ∧ Q (.int is.sum) H1
theorem pre_sum (is : List Int) : ∀ n, n ≤ is.length → preSum (fun i => is.getD i 0) n = (is.take n).sum
  | 0, _ => by simp [preSum]
  | n + 1, h => by
    rw [preSum, pre_sum is n (by omega), List.take_add_one, List.sum_append, List.getElem?_eq_getElem (by omega), List.getD_eq_getElem?_getD, List.getElem?_eq_getElem (by omega)]
    simp
theorem pe_sumVals (hc : X.calm = true) (hg : Gl X "sum") (hm : X.mg "sum" = none) (hd : PE X o td) (hbase : attributeBase o "values" X.env (eval o X.env) = eval o X.env := by rfl) (hline : (apos.endLine == mpos.line) = true := by rfl)
    (hse : starEach [Expr.Call (.Attribute o "values" apos) [] [] mpos] X.env = [(false, eval (Expr.Call (.Attribute o "values" apos) [] [] mpos) X.env)] := by rfl) :
    PE X (.Call (.Name "sum" p) [.Call (.Attribute o "values" apos) [] [] mpos] [] pos) (tSumVals td) := by
  refine ⟨fun pins s σ H Q I h => ?_⟩
  refine wpAny_Call_Name_kw (ld_blt I hg hm (u := .builtin "sum") (by first | rfl | decide +kernel) ?_ (by first | decide +kernel | decide) (by first | decide +kernel | decide))
  rw [hse]
  refine PySem.callWith_builtin1 (wpAny_Call_method0_late hbase hline (thn (hd.run pins s σ H _ I h) fun v s1 ⟨x, H1, I1, r1, a, kvs, is, ex, ha, hv, q⟩ => ?_))
  subst ex
  obtain rfl : v = Value.ref a := r1
  obtain ⟨_, hsys, vs, rel, dof⟩ := dk_of I1.hok ha
  obtain ⟨ep, dat⟩ := dof.dictAt
  have dat' := dat
  obtain ⟨ob, es, ho, ex, hdat, hko, hpr, hnd⟩ := dat'
  refine ⟨"dict", "dict.values", PySem.F.plainAttrs_dict, PySem.F.slot_dict_values, PySem.F.type_dict_values, ⟨ob, ho, ex.1⟩, fun b e => ?_, Calls.callWith_builtin rfl (PySem.evalArgs_none ?_)⟩
  · cases e
    exact ⟨ob, ho, ex.2.1⟩
  refine call_meetsIn PySem.F.slot_dict_values ⟨ob, ho, ex.1⟩ PySem.F.entry_dict_values (PySem.F.args_dict_values_1 _) (meets_dict_values (mixKind X.prog X.w) a hsys) ⟨⟨vs, dof⟩, ?_⟩
  have k1 : ∀ b u, s1.heap.get? b = some u → (s1.heap.push { cls := .type "dict_values", data := .fields #[.ref a] }).get? b = some u := fun b u e => Heap.get?_push_of_some _ e
  have dat1 : (s1.heap.push { cls := .type "dict_values", data := .fields #[.ref a] }).DictAt (mixKind X.prog X.w) a vs ep := dat.keep k1
  have hlv : vs.length = is.length := by
    have e1 := congrArg List.length hv
    rw [List.length_map, List.length_map] at e1
    rw [← e1]
    exact (KV.length rel).symm
  have hval : ∀ (i : Nat) (v : Value), (∃ k, vs[i]? = some (k, v)) → ∃ t, v = Value.int (is.getD i 0) t := fun i v ⟨k, hk⟩ => by
    obtain ⟨x, h1, h2⟩ := KV.at' rel hk
    have e1 : (kvs.map (·.2))[i]? = some x := by rw [List.getElem?_map, h1] <;> rfl
    rw [hv, List.getElem?_map] at e1
    obtain ⟨j, hj, e2⟩ := Option.map_eq_some_iff.mp e1
    subst e2
    obtain ⟨t, e3⟩ := h2
    refine ⟨t, ?_⟩
    rw [e3, List.getD_eq_getElem?_getD, hj] <;> rfl
  refine call_sum_walkG (wpAny_pyIter_values (v := s1.heap.objs.size) (d := a) ⟨_, Heap.get?_push_size _ rfl, rfl, rfl⟩ dat1 ?_)
  have hlt : a < s1.heap.objs.size := Heap.lt_size ho
  have hsz : (s1.heap.push { cls := .type "dict_values", data := .fields #[.ref a] }).objs.size = s1.heap.objs.size + 1 := Heap.size_push _ _
  refine ⟨_, _, _, _, _, _, fun i => is.getD i 0, rfl, Walks.dictValues (knd := mixKind X.prog X.w) (A := X.A.in1) (I.ok.hd hc) (s1.heap.push { cls := .type "dict_values", data := .fields #[.ref a] }).objs.size a (by rw [hsz]; exact Nat.ne_of_lt (Nat.lt_succ_of_lt hlt)) vs ep,
    ⟨⟨_, Heap.get?_push_size _ rfl, rfl, rfl⟩, dat1.keep fun b u e => Heap.get?_push_of_some _ e⟩, fun b hb => ?_, hval, fun h' tk t' hk => ?_⟩
  · show b < ((s1.heap.push _).push _).objs.size
    rw [Heap.size_push, Heap.size_push]
    rw [hsz] at hb
    rcases List.mem_cons.mp hb with e | hb
    · rw [e]
      exact Nat.lt_succ_self _
    · have e : b = a := List.mem_singleton.mp hb
      rw [e]
      exact Nat.lt_succ_of_lt (Nat.lt_succ_of_lt hlt)
  · refine ⟨.int is.sum, H1, I1.kept (t' := tk) fun b u e => hk b u (fun hmem => ?_) (Heap.get?_push_of_some _ (k1 b u e)), ⟨t', ?_⟩, q⟩
    · have e1 : b = (s1.heap.push { cls := .type "dict_values", data := .fields #[.ref a] }).objs.size := List.mem_singleton.mp hmem
      have e2 := Heap.lt_size e
      rw [hsz] at e1
      rw [e1] at e2
      exact absurd e2 (Nat.not_lt.mpr (Nat.le_succ _))
    · rw [pre_sum is _ (by omega), hlv, List.take_length]
end
section
variable {K : PySem.W.Frag} {σ : L2.St} {H : Hp} {Q : VK} {D : Ends} {a b : Addr} {z v : V} {ty tx td : TE} {kvs : List (List Key × V)} {k : List Key}
def sumK (Q : VK) : VK := fun x H1 => ∃ (a : Addr) (kvs : List (Key × V)) (is : List Int), x = V.ref a ∧ H1 a = some (.dK kvs) ∧ kvs.map (·.2) = is.map V.int ∧ Q (.int is.sum) H1
theorem q_sumVals (h : td σ H (sumK Q)) : tSumVals td σ H Q := h
theorem q_sumK {kvs : List (Key × V)} {is : List Int} (h : H a = some (.dK kvs)) (e : kvs.map (·.2) = is.map V.int) (q : Q (.int is.sum) H) : sumK Q (.ref a) H := ⟨a, kvs, is, rfl, h, e, q⟩
theorem q_dG2aT (h : H a = some (.dT kvs)) (q : ty σ H fun y H2 => tx σ H2 (dG2K Q a y)) : dG2a ty tx σ Q (.ref a) H := ⟨a, rfl, .inr ⟨kvs, .inl h⟩, q⟩
theorem q_dG2T (h : H a = some (.dT kvs)) (hb : H b = some (.tup (k.map kV))) (q : Q ((valV kvs k).getD z) H) : dG2K Q a (.ref b) z H := ⟨_, DGet.t h hb, q⟩
theorem q_dPutT (h : H a = some (.dT kvs)) (hb : H b = some (.tup (k.map kV))) (hl : kvs.length < sizeLine) (q : D.nx σ (upd H a (.dT (putK kvs k v)))) : dPutK D σ v (.ref a) (.ref b) H := ⟨a, _, rfl, DPut.t h hb hl, q⟩
theorem q_dNewT (q : ∀ p, H p = none → Q (.ref p) (upd H p (.dT []))) : tDNewT σ H Q := q
end

/-! dicts keyed by nested tuples -/
mutual
inductive NV (H : Hp) : NestedKey → V → Prop
  | non : NV H .none .non
  | int (i : Int) : NV H (.num i) (.int i)
  | str (x : Str) : NV H (.text x) (.str x)
  | tup {b : Addr} {vs : List V} {ks : List NestedKey} : H b = some (.tup vs) → NVs H ks vs → NV H (.tup ks) (.ref b)
inductive NVs (H : Hp) : List NestedKey → List V → Prop
  | nil : NVs H [] []
  | cons {k : NestedKey} {v : V} {ks : List NestedKey} {vs : List V} : NV H k v → NVs H ks vs → NVs H (k :: ks) (v :: vs)
end
mutual
theorem NV.is {P : Program} {w : World} {H : Hp} {h : Heap} (ok : HOk P w H h) : ∀ {k : NestedKey} {v : V} {u : Value}, NV H k v → RelV v u → NestedIs h k u
  | _, _, _, .non, r => by cases (show _ = Value.none from r); exact .none
  | _, _, _, .int i, r => by obtain ⟨t, rfl⟩ := (show ∃ t, _ = Value.int i t from r); exact .int i t
  | _, _, _, .str x, r => by obtain ⟨t, rfl⟩ := (show ∃ t, _ = Value.str x t from r); exact .text x t
  | _, _, _, .tup (b := b) (vs := vs) hb hs, r => by
    cases (show _ = Value.ref b from r)
    obtain ⟨_, its, rv, o, o1, o2, n, o3⟩ := (show ObjOk P w H h b (.tup vs) from ok b _ hb)
    exact .tup o1 o2 o3 (by simpa using NVs.are ok hs rv)
theorem NVs.are {P : Program} {w : World} {H : Hp} {h : Heap} (ok : HOk P w H h) : ∀ {ks : List NestedKey} {vs : List V} {us : List Value}, NVs H ks vs → Vals vs us → NestedAll h ks us
  | _, _, _, .nil, r => by cases r; exact .nil
  | _, _, _, .cons a b, r => by
    cases r with
    | cons r1 r2 => exact .cons (NV.is ok a r1) (NVs.are ok b r2)
end
mutual
theorem NV.mono {H H' : Hp} (e : ∀ b ys, H b = some (.tup ys) → H' b = some (.tup ys)) : ∀ {k : NestedKey} {v : V}, NV H k v → NV H' k v
  | _, _, .non => .non
  | _, _, .int i => .int i
  | _, _, .str x => .str x
  | _, _, .tup h hs => .tup (e _ _ h) (NVs.mono e hs)
theorem NVs.mono {H H' : Hp} (e : ∀ b ys, H b = some (.tup ys) → H' b = some (.tup ys)) : ∀ {ks : List NestedKey} {vs : List V}, NVs H ks vs → NVs H' ks vs
  | _, _, .nil => .nil
  | _, _, .cons a b => .cons (NV.mono e a) (NVs.mono e b)
end
abbrev NKvs := List (NestedKey × Addr × V)
def nRel (p : NestedKey × Addr × V) (q : NestedKey × Addr × Value) : Prop := p.1 = q.1 ∧ p.2.1 = q.2.1 ∧ RelV p.2.2 q.2.2
def valN (kvs : NKvs) (k : NestedKey) : Option V := (kvs.find? fun p => decide (p.1 = k)).map (·.2.2)
/-- what is true of the object of such a dict -/
def dnP (P : Program) (w : World) (a : Addr) (kvs : NKvs) (h : Heap) : Prop := kvs.length ≤ sizeLine ∧ (a == sysModules) = false ∧ ∃ xs : List (NestedKey × Addr × Value), Paired nRel kvs xs ∧
  ∃ o es ep, h.get? a = some o ∧ o.ExactDict ∧ o.data = .dict es ep ∧ es.toList = xs.map (entryOfKey (nestedKind P w)) ∧ (xs.map (·.1)).Nodup
def DN (P : Program) (w : World) (a : Addr) (kvs : NKvs) : HO := .ext (dnP P w a kvs)
/-- its keys stand as tuples, to depth 8 -/
def NKeys (H : Hp) (kvs : NKvs) : Prop := ∀ p ∈ kvs, NV H p.1 (.ref p.2.1) ∧ p.1.depth ≤ 8
theorem NKeys.mono {H H' : Hp} {kvs : NKvs} (h : NKeys H kvs) (e : ∀ b ys, H b = some (.tup ys) → H' b = some (.tup ys)) : NKeys H' kvs := fun p hp => ⟨(h p hp).1.mono e, (h p hp).2⟩
theorem NKeys.snoc {H : Hp} {kvs : NKvs} {k : NestedKey} {b : Addr} {v : V} (h : NKeys H kvs) (hk : NV H k (.ref b)) (hd : k.depth ≤ 8) : NKeys H (kvs ++ [(k, b, v)]) := fun p hp => by
  rcases List.mem_append.mp hp with m | m
  · exact h p m
  · rw [List.mem_singleton.mp m]; exact ⟨hk, hd⟩
theorem n_val {kvs : NKvs} {xs : List (NestedKey × Addr × Value)} (r : Paired nRel kvs xs) (k : NestedKey) : RelO (valN kvs k) ((atKey xs k).map (·.2)) := by
  induction r with
  | nil => exact True.intro
  | @cons p q ps qs hpq t ih =>
    obtain ⟨e1, _, e3⟩ := hpq
    unfold valN atKey at ih ⊢
    rw [List.find?_cons, List.find?_cons, ← e1]
    by_cases e : p.1 = k
    · rw [decide_eq_true e]; exact e3
    · rw [decide_eq_false e]; exact ih
theorem dn_ok {P : Program} {w : World} {H : Hp} {h : Heap} {a : Addr} {kvs : NKvs} (d : dnP P w a kvs h) : ObjOk P w H h a (DN P w a kvs) := by
  refine ⟨d, ?_, fun g1 g2 q st => ?_⟩
  · obtain ⟨_, _, _, _, o, _, _, e, _⟩ := d
    exact ⟨o, e⟩
  · obtain ⟨z, y, xs, r, o, es, ep, e, c⟩ := q
    exact ⟨z, y, xs, r, o, es, ep, st _ e, c⟩
theorem n_keys {P : Program} {w : World} {H : Hp} {h : Heap} (ok : HOk P w H h) {kvs : NKvs} {xs : List (NestedKey × Addr × Value)} (r : Paired nRel kvs xs) : NKeys H kvs → ∀ x ∈ xs, (nestedKind P w).is h x.1 x.2.1 := by
  induction r with
  | nil => intro _ x hx; cases hx
  | @cons p q ps qs hpq t ih =>
    intro hk x hx
    rcases List.mem_cons.mp hx with m | m
    · obtain ⟨n1, n2⟩ := hk p List.mem_cons_self
      rw [m, ← hpq.1, ← hpq.2.1]
      exact ⟨NV.is ok n1 rfl, n2⟩
    · exact ih (fun p' hp' => hk p' (List.mem_cons_of_mem _ hp')) x m
section
variable {X : Cx} {pins : List (Addr × Obj)} {σ : L2.St} {H : Hp} {s : Shared} {a b : Addr} {kvs : NKvs} {k : NestedKey} {A : Around} {E : Value → Shared → Prop}
theorem dn_at (I : Inv X pins σ H s) (e : H a = some (DN X.prog X.w a kvs)) (hk : NKeys H kvs) : kvs.length ≤ sizeLine ∧ (a == sysModules) = false ∧ ∃ xs, Paired nRel kvs xs ∧ s.heap.DictOfH (nestedKind X.prog X.w) a xs := by
  obtain ⟨⟨z, y, xs, r, o, es, ep, e1, e2, e3, e4, e5⟩, _⟩ := (show ObjOk X.prog X.w H s.heap a (DN X.prog X.w a kvs) from I.hok a _ e)
  exact ⟨z, y, xs, r, o, es, ep, e1, e2, e3, e4, n_keys I.hok r hk, e5⟩
theorem dn_getItem {v : V} {Q : Value → Shared → Prop} (ha : A.units + 9 < cLine) (I : Inv X pins σ H s) (e : H a = some (DN X.prog X.w a kvs)) (hk : NKeys H kvs) (nk : NV H k (.ref b)) (dk : k.depth ≤ 8) (l : valN kvs k = some v)
    (q : ∀ u s', Inv X pins σ H s' → RelV v u → Q u s') : wpAny (model X.prog X.w) A (getItem (.ref a) (.ref b)) Q E s := by
  obtain ⟨z, hd, xs, rel, dd⟩ := dn_at I e hk
  obtain ⟨u, hu, ru⟩ := RelO.some_of (v := v) (o := (atKey xs k).map (·.2)) (by rw [← l]; exact n_val rel k)
  obtain ⟨p, hp, hp2⟩ := Option.map_eq_some_iff.mp hu
  refine wpAny_getItem_heap (knd := nestedKind X.prog X.w) (by show A.in1.units + 8 < cLine; exact ha) ⟨NV.is I.hok nk rfl, dk⟩ dd hp ?_
  rw [hp2]
  exact q u _ (I.tok _) ru
theorem dn_in {Q : Value → Shared → Prop} (ha : A.units + 9 < cLine) (I : Inv X pins σ H s) (e : H a = some (DN X.prog X.w a kvs)) (hk : NKeys H kvs) (nk : NV H k (.ref b)) (dk : k.depth ≤ 8)
    (q : ∀ s', Inv X pins σ H s' → Q (.bool (valN kvs k).isSome) s') : wpAny (model X.prog X.w) A (compareOp .In (.ref b) (.ref a)) Q E s := by
  obtain ⟨z, hd, xs, rel, dd⟩ := dn_at I e hk
  refine wpAny_in_heap (knd := nestedKind X.prog X.w) (by show A.in1.units + 8 < cLine; exact ha) ⟨NV.is I.hok nk rfl, dk⟩ hd dd ?_
  have t := (n_val rel k).isSome_eq
  rw [Option.isSome_map] at t
  rw [← t]
  exact q _ (I.tok _)
theorem dn_notIn {Q : Value → Shared → Prop} (ha : A.units + 9 < cLine) (I : Inv X pins σ H s) (e : H a = some (DN X.prog X.w a kvs)) (hk : NKeys H kvs) (nk : NV H k (.ref b)) (dk : k.depth ≤ 8)
    (q : ∀ s', Inv X pins σ H s' → Q (.bool (!(valN kvs k).isSome)) s') : wpAny (model X.prog X.w) A (compareOp .NotIn (.ref b) (.ref a)) Q E s := by
  obtain ⟨z, hd, xs, rel, dd⟩ := dn_at I e hk
  refine wpAny_notIn_heap (knd := nestedKind X.prog X.w) (by show A.in1.units + 8 < cLine; exact ha) ⟨NV.is I.hok nk rfl, dk⟩ hd dd ?_
  have t := (n_val rel k).isSome_eq
  rw [Option.isSome_map] at t
  rw [← t]
  exact q _ (I.tok _)
/-- a new key is stored -/
theorem dn_setItem {v : V} {u : Value} {Q : Unit → Shared → Prop} (ha : A.units + 9 < cLine) (I : Inv X pins σ H s) (e : H a = some (DN X.prog X.w a kvs)) (hk : NKeys H kvs) (nk : NV H k (.ref b)) (dk : k.depth ≤ 8) (l : valN kvs k = none) (hl : kvs.length < sizeLine) (ru : RelV v u)
    (q : ∀ s', Inv X pins σ (upd H a (DN X.prog X.w a (kvs ++ [(k, b, v)]))) s' → Q () s') : wpAny (model X.prog X.w) A (setItem (.ref a) (.ref b) u) Q E s := by
  obtain ⟨z, hd, xs, rel, dd⟩ := dn_at I e hk
  have hz : xs.length ≤ sizeLine := by rw [← Paired.length rel]; exact z
  have hn : atKey xs k = none := by
    have t := (n_val rel k).isSome_eq
    rw [l, Option.isSome_map] at t
    cases m : atKey xs k with
    | none => rfl
    | some _ => rw [m] at t; cases t
  refine wpAny_setItem_heap (knd := nestedKind X.prog X.w) (hsz := hz) (by show A.in1.units + 8 < cLine; exact ha) ⟨NV.is I.hok nk rfl, dk⟩ dd fun h' dd' hs => q _ ?_
  rw [storedH_new hn] at dd'
  obtain ⟨o, es, ep, e1, e2, e3, e4, _, e5⟩ := dd'
  exact d_write I (by rw [e]; exact True.intro) hs ⟨o, e1⟩ (dn_ok ⟨by rw [List.length_append]; exact hl, hd, _, Paired.snoc rel ⟨rfl, rfl, ru⟩, o, es, ep, e1, e2, e3, e4, e5⟩)
end
theorem hn_of {A : Around} {k : Nat} (hr : Room k A) : A.units + 9 < cLine := by have := hr65 hr; omega
def nGetK (P : Program) (w : World) (Q : VK) (x : V) : VK := fun y J => ∃ (a b : Addr) (kvs : NKvs) (k : NestedKey) (v : V), x = .ref a ∧ y = .ref b ∧ J a = some (DN P w a kvs) ∧ NKeys J kvs ∧ NV J k (.ref b) ∧ k.depth ≤ 8 ∧ valN kvs k = some v ∧ Q v J
def tNGet (P : Program) (w : World) (td ty : TE) : TE := fun σ H Q => td σ H fun x J => ty σ J (nGetK P w Q x)
def nInK (P : Program) (w : World) (n : Bool) (Q : VK) (y : V) : VK := fun x J => ∃ (a b : Addr) (kvs : NKvs) (k : NestedKey), x = .ref a ∧ y = .ref b ∧ J a = some (DN P w a kvs) ∧ NKeys J kvs ∧ NV J k (.ref b) ∧ k.depth ≤ 8 ∧ Q (.bl (xor n (valN kvs k).isSome)) J
def tNIn (P : Program) (w : World) (n : Bool) (ty td : TE) : TE := fun σ H Q => ty σ H fun y J => td σ J (nInK P w n Q y)
def nPutK (P : Program) (w : World) (D : Ends) (σ : L2.St) (v x : V) : VK := fun y J => ∃ (a b : Addr) (kvs : NKvs) (k : NestedKey), x = .ref a ∧ y = .ref b ∧ J a = some (DN P w a kvs) ∧ NKeys J kvs ∧ NV J k (.ref b) ∧ k.depth ≤ 8 ∧ valN kvs k = none ∧ kvs.length < sizeLine ∧ D.nx σ (upd J a (DN P w a (kvs ++ [(k, b, v)])))
def sNPut (P : Program) (w : World) (td ty tv : TE) : TS := fun D σ H => tv σ H fun v H1 => td σ H1 fun x H2 => ty σ H2 (nPutK P w D σ v x)
def tNNew (P : Program) (w : World) : TE := fun _ H Q => ∀ p, H p = none → Q (.ref p) (upd H p (DN P w p []))
section
variable {X : Cx} {o i value : Expr} {pos pos' : Pos} {td ty tv : TE}
theorem pe_nget (ha : X.A.units + 9 < cLine) (po : PE X o td) (pi : PE X i ty) (ns : NoSl i) : PE X (.Subscript o i pos) (tNGet X.prog X.w td ty) := ⟨fun pins s σ H Q I q => by
  refine subD_of PySem.F.slot_dict_getitem.lookup ns (thn (po.run pins s σ H _ I q) fun u s1 ⟨x, J, IJ, rx, q1⟩ => thn (pi.run pins s1 σ J _ IJ q1) fun iv s2 ⟨y, L, IL, ry, a, b, kvs, k, v, ex, ey, e, hk, nk, dk, l, q2⟩ => ?_)
  subst ex ey
  obtain rfl : u = Value.ref a := rx
  obtain rfl : iv = Value.ref b := ry
  obtain ⟨_, _, xs, _, dd⟩ := dn_at IL e hk
  exact ⟨dd.typeIs, dn_getItem ha IL e hk nk dk l fun z s3 I3 rz => ⟨v, L, I3, rz, q2⟩⟩⟩
theorem pc_nin (ha : X.A.units + 9 < cLine) (pi : PE X i ty) (po : PE X o td) : PC X .In i o (tNIn X.prog X.w false ty td) := ⟨fun pins s σ H Q I q => by
  refine thn (pi.run pins s σ H _ I q) fun iv s1 ⟨y, J, IJ, ry, q1⟩ => thn (po.run pins s1 σ J _ IJ q1) fun u s2 ⟨x, L, IL, rx, a, b, kvs, k, ex, ey, e, hk, nk, dk, q2⟩ => ?_
  subst ex ey
  obtain rfl : u = Value.ref a := rx
  obtain rfl : iv = Value.ref b := ry
  exact dn_in ha IL e hk nk dk fun s3 I3 => ⟨.bl (valN kvs k).isSome, L, I3, rfl, by rw [Bool.false_xor] at q2; exact q2⟩⟩
theorem pc_nnotin (ha : X.A.units + 9 < cLine) (pi : PE X i ty) (po : PE X o td) : PC X .NotIn i o (tNIn X.prog X.w true ty td) := ⟨fun pins s σ H Q I q => by
  refine thn (pi.run pins s σ H _ I q) fun iv s1 ⟨y, J, IJ, ry, q1⟩ => thn (po.run pins s1 σ J _ IJ q1) fun u s2 ⟨x, L, IL, rx, a, b, kvs, k, ex, ey, e, hk, nk, dk, q2⟩ => ?_
  subst ex ey
  obtain rfl : u = Value.ref a := rx
  obtain rfl : iv = Value.ref b := ry
  exact dn_notIn ha IL e hk nk dk fun s3 I3 => ⟨.bl (!(valN kvs k).isSome), L, I3, rfl, by rw [Bool.true_xor] at q2; exact q2⟩⟩
theorem ps_nput (ha : X.A.units + 9 < cLine) (po : PE X o td) (pi : PE X i ty) (pv' : PE X value tv) (sw : swapsWith value (some (.Subscript o i pos')) pos.line X.env = pure false) : PS X (.Assign [.Subscript o i pos'] value pos) (sNPut X.prog X.w td ty tv) := ⟨fun pins s σ H D I q => by
  refine wpAny_Assign_Subscript (thn (pv'.run pins s σ H _ I q) fun r s1 ⟨v, J1, I1, rv, q1⟩ => thn (po.run pins s1 σ J1 _ I1 q1) fun u s2 ⟨x, J2, I2, rx, q2⟩ => thn (pi.run pins s2 σ J2 _ I2 q2) fun iv s3 ⟨y, J3, I3, ry, a, b, kvs, k, ex, ey, e, hk, nk, dk, l, hl, q3⟩ => ?_) sw
  subst ex ey
  obtain rfl : u = Value.ref a := rx
  obtain rfl : iv = Value.ref b := ry
  exact dn_setItem ha I3 e hk nk dk l hl rv fun s4 I4 => ⟨σ, _, I4, q3⟩⟩
theorem pe_nnew : PE X (.Dict [] [] pos) (tNNew X.prog X.w) := ⟨fun pins s σ H Q I q =>
  wpAny_Dict_empty ⟨.ref s.heap.objs.size, _, I.laid (a := s.heap.objs.size) (o := DN X.prog X.w s.heap.objs.size []) (t' := s.toks) (fun _ _ z => Heap.get?_push_of_some _ z) (Nat.le_refl _)
    (dn_ok ⟨Nat.zero_le _, beq_eq_false_iff_ne.mpr (Ne.symm (Nat.ne_of_lt I.big)), [], .nil, _, #[], 0, Heap.get?_push_size _ rfl, ⟨rfl, rfl, rfl⟩, rfl, rfl, List.nodup_nil⟩), rfl, q _ (I.hok.fresh (Nat.le_refl _))⟩⟩
end
section
variable {P : Program} {w : World} {σ : L2.St} {H : Hp} {Q : VK} {D : Ends} {td ty tv : TE} {a b : Addr} {kvs : NKvs} {k : NestedKey} {v : V} {n : Bool}
theorem q_tNGet (q : td σ H fun x J => ty σ J (nGetK P w Q x)) : tNGet P w td ty σ H Q := q
theorem q_nGetK (e : H a = some (DN P w a kvs)) (hk : NKeys H kvs) (nk : NV H k (.ref b)) (dk : k.depth ≤ 8) (l : valN kvs k = some v) (q : Q v H) : nGetK P w Q (.ref a) (.ref b) H := ⟨a, b, kvs, k, v, rfl, rfl, e, hk, nk, dk, l, q⟩
theorem q_tNIn (q : ty σ H fun y J => td σ J (nInK P w n Q y)) : tNIn P w n ty td σ H Q := q
theorem q_nInK (e : H a = some (DN P w a kvs)) (hk : NKeys H kvs) (nk : NV H k (.ref b)) (dk : k.depth ≤ 8) (q : Q (.bl (xor n (valN kvs k).isSome)) H) : nInK P w n Q (.ref b) (.ref a) H := ⟨a, b, kvs, k, rfl, rfl, e, hk, nk, dk, q⟩
theorem q_sNPut (q : tv σ H fun v H1 => td σ H1 fun x H2 => ty σ H2 (nPutK P w D σ v x)) : sNPut P w td ty tv D σ H := q
theorem q_nPutK (e : H a = some (DN P w a kvs)) (hk : NKeys H kvs) (nk : NV H k (.ref b)) (dk : k.depth ≤ 8) (l : valN kvs k = none) (hl : kvs.length < sizeLine) (q : D.nx σ (upd H a (DN P w a (kvs ++ [(k, b, v)])))) : nPutK P w D σ v (.ref a) (.ref b) H := ⟨a, b, kvs, k, rfl, rfl, e, hk, nk, dk, l, hl, q⟩
theorem q_tNNew (q : ∀ p, H p = none → Q (.ref p) (upd H p (DN P w p []))) : tNNew P w σ H Q := q
end
theorem pss_cls2 {X : Cx} {oe : Obj} {cls : Value} {d : Option Addr} {b : List Stmt} {C C2 : Addr} {t t2 : TS} (hz : Zc cls d oe) (h : Zc (.ref C) none oe → PSs X b t) (h2 : Zc (.ref C2) none oe → PSs X b t2) :
    PSs X b (fun D σ H => ((cls = .ref C ∧ d = none) ∧ t D σ H) ∨ ((cls = .ref C2 ∧ d = none) ∧ t2 D σ H)) := ⟨fun pins s σ H D I q => by
  rcases q with ⟨⟨e1, e2⟩, q⟩ | ⟨⟨e1, e2⟩, q⟩
  · rw [e1, e2] at hz; exact (h hz).run pins s σ H D I q
  · rw [e1, e2] at hz; exact (h2 hz).run pins s σ H D I q⟩
theorem passF {P : Program} {w : World} {X : Cx} : Passes (L2.CX P w) X E0 := fun _ _ _ _ _ _ _ h => by
  obtain ⟨_, _, _, _, _, _, _, _, _, _, _, _, h⟩ := h
  exact h.elim

/-! an attribute or an item changed by an operator; a list unpacked; the sum over a dict's keys -/
section
variable {K : PySem.W.Frag} {σ : L2.St} {H : Hp} {Q : VK} {D : Ends} {a C dx : Addr} {v : V} {i j : Int} {ta tv td ty : TE} {rd : V → V → Hp → VK → Prop} {f s : Str} {fs : List (Str × V)} {kvs : List (Key × V)}
def faug2 (rd : V → V → Hp → VK → Prop) (v : V) (f : Str) (a C : Addr) (D : Ends) (σ : L2.St) : VK := fun y H2 => rd v y H2 fun z H3 => ∃ dx' fs', H3 a = some (.ins C dx' fs') ∧ fs'.length < 1000 ∧ D.nx σ (upd H3 a (.ins C dx' (putF f z fs')))
def faugK (K : PySem.W.Frag) (tv : TE) (rd : V → V → Hp → VK → Prop) (f : Str) (D : Ends) (σ : L2.St) : VK := fun x H1 => ∃ a C dx fs v, x = .ref a ∧ H1 a = some (.ins C dx fs) ∧ Cls K C ∧ NoAttr K C f ∧ fs.lookup f = some v ∧ tv σ H1 (faug2 rd v f a C D σ)
theorem q_sFldAug (h : ta σ H (faugK K tv rd f D σ)) : sFldAug K ta tv rd f D σ H := h
theorem q_faugK (h : H a = some (.ins C dx fs)) (hc : Cls K C) (hn : NoAttr K C f) (hl : fs.lookup f = some v) (k : tv σ H (faug2 rd v f a C D σ)) : faugK K tv rd f D σ (.ref a) H := ⟨a, C, dx, fs, v, rfl, h, hc, hn, hl, k⟩
theorem q_faugA (h : H a = some (.ins C dx fs)) (hl : fs.length < 1000) (k : D.nx σ (upd H a (.ins C dx (putF f (.int (i + j)) fs)))) : faug2 rAdd (.int i) f a C D σ (.int j) H := ⟨i, j, rfl, rfl, dx, fs, h, hl, k⟩
theorem q_faugS (h : H a = some (.ins C dx fs)) (hl : fs.length < 1000) (k : D.nx σ (upd H a (.ins C dx (putF f (.int (i - j)) fs)))) : faug2 rSub (.int i) f a C D σ (.int j) H := ⟨i, j, rfl, rfl, dx, fs, h, hl, k⟩
def daug2 (rd : V → V → Hp → VK → Prop) (D : Ends) (σ : L2.St) (v : V) (a : Addr) (y : V) : VK := fun y2 H3 => rd v y2 H3 fun z H4 => ∃ H5, DPut H4 a y z H5 ∧ D.nx σ H5
def daugK (tv : TE) (rd : V → V → Hp → VK → Prop) (D : Ends) (σ : L2.St) (x : V) : VK := fun y H2 => ∃ a v, x = .ref a ∧ DGet H2 a y (some v) ∧ tv σ H2 (daug2 rd D σ v a y)
theorem q_sDAug (h : td σ H fun x H1 => ty σ H1 (daugK tv rd D σ x)) : sDAug td ty tv rd D σ H := h
theorem q_daugK (h : H a = some (.dK kvs)) (hv : valV kvs (.inr s) = some v) (k : tv σ H (daug2 rd D σ v a (.str s))) : daugK tv rd D σ (.ref a) (.str s) H := ⟨a, v, rfl, by rw [← hv]; exact DGet.k (k := Sum.inr s) h, k⟩
theorem q_daugS (h : H a = some (.dK kvs)) (hl : kvs.length < sizeLine) (k : D.nx σ (upd H a (.dK (putK kvs (.inr s) (.int (i - j)))))) : daug2 rSub D σ (.int i) a (.str s) (.int j) H := ⟨i, j, rfl, rfl, _, DPut.k (k := Sum.inr s) h hl, k⟩
theorem q_daugA (h : H a = some (.dK kvs)) (hl : kvs.length < sizeLine) (k : D.nx σ (upd H a (.dK (putK kvs (.inr s) (.int (i + j)))))) : daug2 rAdd D σ (.int i) a (.str s) (.int j) H := ⟨i, j, rfl, rfl, _, DPut.k (k := Sum.inr s) h hl, k⟩
end
def rMulStr01 : R2 := fun x y H Q => ∃ s, x = .str s ∧ ((y = .int 1 ∧ Q (.str s) H) ∨ (y = .int 0 ∧ Q (.str Str.empty) H))
theorem oq_mulStr01 {X : Cx} : OpR X (binaryOp .Mult) rMulStr01 := by
  intro pins s σ H x y v u Q I rx ry h
  obtain ⟨z, rfl, h⟩ := h
  obtain ⟨t, rfl⟩ := rx
  rcases h with ⟨rfl, q⟩ | ⟨rfl, q⟩
  · obtain ⟨t', rfl⟩ := ry
    refine PySem.P.mul_str (by decide) (fun _ h => by cases h) (fun _ h => by cases h) ?_
    rw [if_neg (show ¬ (1 : Int) < 1 by omega), if_pos (by rfl)]
    exact ⟨.str z, H, I, ⟨_, rfl⟩, q⟩
  · obtain ⟨t', rfl⟩ := ry
    exact PySem.P.mul_str_none (by decide) (by decide) ⟨.str Str.empty, H, I.tok _, ⟨_, rfl⟩, q⟩
theorem q_mul1 {H : Hp} {Q : VK} {s : Str} (k : Q (.str s) H) : rMulStr01 (.str s) (.int 1) H Q := ⟨s, rfl, .inl ⟨rfl, k⟩⟩
theorem q_mul0 {H : Hp} {Q : VK} {s : Str} (k : Q (.str Str.empty) H) : rMulStr01 (.str s) (.int 0) H Q := ⟨s, rfl, .inr ⟨rfl, k⟩⟩
theorem q_int1f {H : Hp} {Q : VK} (k : Q (.int 0) H) : rInt1 [.bl false] H Q := .inr ⟨false, rfl, k⟩
/-! a walk over a dict's own keys, reading it -/
theorem q_unl {K : PySem.W.Frag} {σ : L2.St} {H : Hp} {a : Addr} {xs : List V} {n : Nat} {tg : TGs} {R : L2.St → Hp → Prop} (h : SqL K H a xs) (hn : xs.length = n) (k : tg xs σ H R) : gUnl K n tg (.ref a) σ H R := ⟨a, xs, rfl, h, hn, k⟩
/-! while -/
section
variable {σ : L2.St} {H : Hp} {D : Ends} {c : TT} {tb : TS}
def whK (tb : TS) (D : Ends) (Pv : Nat → L2.St → Hp → Prop) (m : Nat) (σ : L2.St) : Bool → Hp → Prop := fun b H1 => if b = true then ∃ N : L2.St → Hp → Prop, (∀ σ' H', N σ' H' → ∃ m', m' < m ∧ Pv m' σ' H') ∧ tb { D with nx := N, ct := N, bk := D.nx } σ H1 else D.nx σ H1
theorem q_while (Pv : Nat → L2.St → Hp → Prop) {m0 : Nat} (h0 : Pv m0 σ H) (hs : ∀ m σ H, Pv m σ H → c σ H (whK tb D Pv m σ)) : tWhile c tb D σ H := ⟨Pv, ⟨m0, h0⟩, hs⟩
theorem q_whT {Pv : Nat → L2.St → Hp → Prop} {m : Nat} (h : tb { D with nx := fun σ' H' => ∃ m', m' < m ∧ Pv m' σ' H', ct := fun σ' H' => ∃ m', m' < m ∧ Pv m' σ' H', bk := D.nx } σ H) : whK tb D Pv m σ true H := iteT ⟨_, fun _ _ h => h, h⟩
theorem q_whF {Pv : Nat → L2.St → Hp → Prop} {m : Nat} (h : D.nx σ H) : whK tb D Pv m σ false H := iteF h
theorem q_wh2 {Pv : Nat → L2.St → Hp → Prop} {m : Nat} {b : Bool} (h : b = true → tb { D with nx := fun σ' H' => ∃ m', m' < m ∧ Pv m' σ' H', ct := fun σ' H' => ∃ m', m' < m ∧ Pv m' σ' H', bk := D.nx } σ H) (h2 : b = false → D.nx σ H) : whK tb D Pv m σ b H := by
  cases b with
  | true => exact q_whT (h rfl)
  | false => exact q_whF (h2 rfl)
end
/-! one suite for several classes; get of one argument; del of an item of a dict; index; dict of pairs -/
theorem pss_clsC {X : Cx} {oe : Obj} {cls : Value} {d : Option Addr} {b : List Stmt} {C : Addr} {t t2 : TS} (hz : Zc cls d oe) (h : Zc (.ref C) none oe → PSs X b t) (h2 : PSs X b t2) :
    PSs X b (fun D σ H => ((cls = .ref C ∧ d = none) ∧ t D σ H) ∨ t2 D σ H) := ⟨fun pins s σ H D I q => by
  rcases q with ⟨⟨e1, e2⟩, q⟩ | q
  · rw [e1, e2] at hz; exact (h hz).run pins s σ H D I q
  · exact h2.run pins s σ H D I q⟩
section
variable {K : PySem.W.Frag} {σ : L2.St} {H : Hp} {Q : VK} {D : Ends} {a l : Addr} {v : V} {i : Int} {td ty : TE} {kvs : List (Key × V)} {s : Str}
def dG1K (Q : VK) (a : Addr) : VK := fun y H2 => ∃ o, DGet H2 a y o ∧ Q (o.getD .non) H2
def dG1a (ty : TE) (σ : L2.St) (Q : VK) : VK := fun x H1 => ∃ a, x = .ref a ∧ IsD H1 a ∧ ty σ H1 (dG1K Q a)
theorem q_tDGet1 (h : td σ H (dG1a ty σ Q)) : tDGet1 td ty σ H Q := h
theorem q_dG1a (h : H a = some (.dK kvs)) (k : ty σ H (dG1K Q a)) : dG1a ty σ Q (.ref a) H := ⟨a, rfl, .inl ⟨kvs, .inl h⟩, k⟩
theorem q_dG1S (h : H a = some (.dK kvs)) (k : Q ((valV kvs (.inr s)).getD .non) H) : dG1K Q a (.str s) H := ⟨_, DGet.k (k := Sum.inr s) h, k⟩
theorem q_dG1I (h : H a = some (.dK kvs)) (k : Q ((valV kvs (.inl i)).getD .non) H) : dG1K Q a (.int i) H := ⟨_, DGet.k (k := Sum.inl i) h, k⟩
def ddelK (D : Ends) (σ : L2.St) (x : V) : VK := fun y H2 => ∃ a kvs k, x = .ref a ∧ H2 a = some (.dK kvs) ∧ y = kV k ∧ (valV kvs k).isSome = true ∧ D.nx σ (upd H2 a (.dK (dropK kvs k)))
theorem q_sDDel (h : td σ H fun x H1 => ty σ H1 (ddelK D σ x)) : sDDel td ty D σ H := h
theorem q_ddelI (h : H a = some (.dK kvs)) (hs : (valV kvs (.inl i)).isSome = true) (k : D.nx σ (upd H a (.dK (dropK kvs (.inl i))))) : ddelK D σ (.ref a) (.int i) H := ⟨a, kvs, .inl i, rfl, h, rfl, hs, k⟩
theorem q_index {ys : List V} {y z : V} {j : Nat} (h : SqL K H a ys) (hy : flatV y = true) (ha : ys.all flatV = true) (hz : ys[j]? = some z) (he : eqV z y = true) (hf : ∀ (m : Nat) (z' : V), m < j → ys[m]? = some z' → eqV z' y = false) (k : Q (.int (j : Nat)) H) : rIndex K (.ref a) [y] H Q := ⟨a, ys, y, j, z, rfl, rfl, h, hy, ha, hz, he, hf, k⟩
theorem q_dSdS' {z : V} (h : H a = some (.dK kvs)) (hl : kvs.length < sizeLine) (k1 : ∀ v, valV kvs (.inr s) = some v → Q v H) (k2 : valV kvs (.inr s) = none → Q z (upd H a (.dK (putK kvs (.inr s) z)))) : dSdK Q a (.str s) z H := ⟨kvs, .inr s, h, rfl, hl, k1, k2⟩
def rDictP (K : PySem.W.Frag) : List V → Hp → VK → Prop := fun xs H Q => ∃ (a : Addr) (ps : List Addr) (kvs : List (Key × V)), xs = [.ref a] ∧ SqL K H a (ps.map V.ref) ∧ Paired (fun p kv => SqT K H p [kV kv.1, kv.2]) ps kvs ∧ ∀ p, H p = none → Q (.ref p) (upd H p (.dK (mergeK [] kvs)))
theorem cq_dictP {X : Cx} (hc : X.calm = true) : CallR X (.type "dict") (rDictP X.K) := call_dictP hc
def rLenD' : List V → Hp → VK → Prop := rLenD
theorem q_lenD (h : H a = some (.dK kvs)) (k : Q (.int kvs.length) H) : rLenD [.ref a] H Q := ⟨a, kvs, rfl, h, k⟩
theorem q_inL' {xs : List V} {x : V} (h : SqL K H l xs) (hx : flatV x = true) (ha : xs.all flatV = true) (k : Q (.bl (!inV x xs)) H) : rIn K true x (.ref l) H Q := ⟨l, xs, rfl, .inl h, hx, ha, k⟩
theorem q_eqB {c d : Bool} (k : Q (.bl (c == d)) H) : rEq (.bl c) (.bl d) H Q := ⟨rfl, by
  have e : decide (V.bl c = V.bl d) = (c == d) := by cases c <;> cases d <;> rfl
  rw [e]; exact k⟩
end
/-! a walk over a list that its body leaves ahead of the list's end: also within an except suite -/
def tForX (K : PySem.W.Frag) (te : TE) (g : TG) (tb : TS) : TS := fun D τ L => te τ L fun v M => ∃ (a : Addr) (ys : List V) (Pv : Nat → L2.St → Hp → Prop), v = .ref a ∧ SqL K M a ys ∧ Pv 0 τ M ∧
  ∀ n τ1 L1, Pv n τ1 L1 → SqL K L1 a ys ∧ ∃ y, ys[n]? = some y ∧ g y τ1 L1 fun τ2 L2 => tb { D with nx := Pv (n + 1), ct := Pv (n + 1), bk := D.nx } τ2 L2
theorem ps_forX {X : Cx} {tg l : Expr} {bd : List Stmt} {te : TE} {g : TG} {tb : TS} {ps : Pos} (own : PassesOwn (model X.prog X.w) X.A X.env X.xe) (hl : PE X l te) (hg : PG X tg g) (hb : PSs X bd tb)
    (fs : ∀ x, foldedSetIterable l X.env x = pure x := by intro _; rfl) : PS X (.For tg l bd [] ps) (tForX X.K te g tb) := by
  refine ⟨fun pn s0 τ0 L0 D J0 q0 => ?_⟩
  refine wpAny_For (thn (hl.run pn s0 τ0 L0 _ J0 q0) fun v0 sA ⟨x0, LA, JA, rA, a, ys, Pv, e0, hys, p0, turn⟩ => ?_) fs
  subst e0
  cases rA
  obtain ⟨_, _, isl, _⟩ := JA.list hys
  refine wpAny_pyIter_list isl.isList ?_
  have fok0 : FpOk X pn LA sA.heap.objs.size := JA.fpOk (Nat.le_refl _) (JA.hok.fresh (Nat.le_refl _))
  generalize hwalk : sA.heap.objs.size = wk at *
  have JB : Inv X pn τ0 LA { sA with heap := sA.heap.push { cls := .type "list_iterator", data := .fields #[.ref a, rawInt 0] } } := JA.kept (t' := sA.toks) fun b o e => Heap.get?_push_of_some _ e
  refine codeAny_forLoop_any (fun m s => ∃ n τ L, Inv X pn τ L s ∧ s.heap.IsListIter wk a n ∧ L wk = none ∧ Pv n τ L ∧ m + n = ys.length) ?_ ys.length ⟨0, τ0, LA, JB, ⟨_, by rw [← hwalk]; exact Heap.get?_push_size _ rfl, rfl, rfl⟩, fok0.1, p0, rfl⟩
  rintro m sB ⟨n, τ1, L1, J1, it1, none1, p1, hmn⟩
  obtain ⟨hys1, y, hy, st1⟩ := turn n τ1 L1 p1
  have hlt : n < ys.length := (List.getElem?_eq_some_iff.mp hy).1
  obtain ⟨_, rv1, isl1, _⟩ := J1.list hys1
  obtain ⟨u, hu, ru⟩ := rv1.get hy
  obtain ⟨_, z1, z2, z3, z4, z5⟩ := fok0
  refine wpAny_passesOwn own (wpAny_pyNext_list_item it1 isl1.isList (x := u) (by simpa using hu) fun h' it2 sb => ?_)
  have J2 : Inv X pn τ1 L1 { sB with heap := h' } := J1.turned (t' := sB.toks) (fun b o ne e => (sb.2 b ne).trans e) none1 z1 z3 z4 z5
  obtain ⟨oi, ei, ci, di⟩ := id it2
  refine wpAny_passesOwn own (go_of (s := { sB with heap := h' }) ei ci di (by decide) ?_)
  have hnc : ∀ v, oi.data ≠ .cell v := fun v z => by rw [di] at z; cases z
  have J3 : Inv X (pn ++ pinsAt [wk] h') τ1 L1 { sB with heap := h' } := J2.pinned (fun b hb => by rw [List.mem_singleton.mp hb]; exact ⟨none1, z1, z2, z3, z4, z5⟩) fun b hb => by rw [List.mem_singleton.mp hb]; exact ⟨oi, ei, hnc⟩
  have back : ∀ {τ L s}, Inv X (pn ++ pinsAt [wk] h') τ L s → Pv (n + 1) τ L → ∃ k, k < m ∧ ∃ n τ L, Inv X pn τ L s ∧ s.heap.IsListIter wk a n ∧ L wk = none ∧ Pv n τ L ∧ k + n = ys.length := fun {τ L s} J p => by
    obtain ⟨r1, r2, _⟩ := J.pin (wk, oi) (List.mem_append_right _ (List.mem_append_right _ (mem_pinsAt (List.mem_singleton.mpr rfl) ei)))
    exact ⟨m - 1, by omega, n + 1, τ, L, J.unpinned, ⟨oi, r1, ci, di⟩, r2, p, by omega⟩
  refine wpAny_passesOwn own (thn (hg.run _ _ τ1 L1 y u _ J3 ru st1) fun _ sC ⟨τ2, L2, J4, q4⟩ => ?_)
  refine wpAny_passesOwn own (thn (hb.run _ sC τ2 L2 _ J4 q4) fun fl sD q5 => ?_)
  cases fl with
  | next => obtain ⟨τ5, L5, J5, p5⟩ := q5; exact back J5 p5
  | cont => obtain ⟨τ5, L5, J5, p5⟩ := q5; exact back J5 p5
  | brk => obtain ⟨τ5, L5, J5, p5⟩ := q5; exact ⟨τ5, L5, J5.unpinned, p5⟩
  | ret v => obtain ⟨x5, τ5, L5, J5, r5, p5⟩ := q5; exact ⟨x5, τ5, L5, J5.unpinned, r5, p5⟩
theorem q_forX {K : PySem.W.Frag} {τ : L2.St} {M : Hp} {te : TE} {g : TG} {tb : TS} {D : Ends} (h : te τ M fun v M => ∃ (a : Addr) (ys : List V) (Pv : Nat → L2.St → Hp → Prop), v = .ref a ∧ SqL K M a ys ∧ Pv 0 τ M ∧
  ∀ n τ1 L1, Pv n τ1 L1 → SqL K L1 a ys ∧ ∃ y, ys[n]? = some y ∧ g y τ1 L1 fun τ2 L2 => tb { D with nx := Pv (n + 1), ct := Pv (n + 1), bk := D.nx } τ2 L2) : tForX K te g tb D τ M := h
theorem ps_forXK {K : PySem.W.Frag} {X : Cx} {tg l : Expr} {bd : List Stmt} {te : TE} {g : TG} {tb : TS} {ps : Pos} (hK : X.K = K) (own : PassesOwn (model X.prog X.w) X.A X.env X.xe) (hl : PE X l te) (hg : PG X tg g) (hb : PSs X bd tb)
    (fs : ∀ x, foldedSetIterable l X.env x = pure x := by intro _; rfl) : PS X (.For tg l bd [] ps) (tForX K te g tb) := hK ▸ ps_forX own hl hg hb fs
theorem ix_tupK {K : PySem.W.Frag} {X : Cx} (hK : X.K = K) : IxR X (rIxT K) := hK ▸ ix_tup
theorem ix_listK {K : PySem.W.Frag} {X : Cx} (hK : X.K = K) : IxR X (rIxL K) := hK ▸ ix_list
def mkA (C : Addr) (sp : Sp) (E : XK) (Q : VK) : List V → Hp → Prop := fun vs J => ∀ x dx, J x = none → J dx = none → dx ≠ x → sp (.ref x :: vs) (upd (upd J dx (.own x)) x (.ins C dx [])) (fun v L => v = .non ∧ Q (.ref x) L) E
theorem q_tMake {C : Addr} {sp : Sp} {E : XK} {t : TA} {σ : L2.St} {H : Hp} {Q : VK} (h : t σ H (mkA C sp E Q)) : tMake C sp [] E t σ H Q := by
  unfold tMake
  have e : mkA C sp E Q = fun vs J => ∀ x dx, J x = none → J dx = none → dx ≠ x → sp (.ref x :: (vs ++ [])) (upd (upd J dx (.own x)) x (.ins C dx [])) (fun v L => v = .non ∧ Q (.ref x) L) E := by
    funext vs J
    unfold mkA
    rw [List.append_nil]
  rw [← e]
  exact h

local macro_rules | `(tactic| walk_at "my_rd") => `(tactic| (repeat first
  | with_reducible refine q_tCons ?_
  | ((with_reducible apply q_var); (focus (exact rfl)))
  | with_reducible refine q_c ?_
  | with_reducible refine q_nx ?_
  | with_reducible refine q_bK ?_
  | with_reducible refine q_call ?_
  | with_reducible refine q_callK ?_
  | with_reducible refine q_tNil ?_
  | with_reducible refine q_cb ?_
  | with_reducible refine q_seq ?_
  | with_reducible refine q_asg ?_
  | with_reducible refine q_gName ?_
  | with_reducible refine q_op ?_
  | with_reducible refine q_test ?_
  | with_reducible refine q_tB ?_
  | with_reducible refine q_ifS ?_
  | with_reducible refine q_ret ?_
  | with_reducible refine q_rt ?_
  | with_reducible refine q_next ?_
  | with_reducible refine q_ifF ?_
  | with_reducible refine q_ifT ?_
  | with_reducible refine q_drop ?_
  | with_reducible refine q_and ?_
  | with_reducible refine q_or ?_
  | with_reducible refine q_andT ?_
  | with_reducible refine q_andF ?_
  | with_reducible refine q_orF ?_
  | with_reducible refine q_orT ?_
  | with_reducible refine q_andV ?_
  | with_reducible refine q_andVT ?_
  | with_reducible refine q_andVF ?_
  | with_reducible refine q_orV ?_
  | with_reducible refine q_gCons ?_
  | with_reducible refine q_gNil ?_
  | with_reducible refine q_tup ?_
  | with_reducible refine q_lst ?_
  | with_reducible refine q_not ?_
  | with_reducible refine q_notKT ?_
  | with_reducible refine q_notKF ?_
  | with_reducible refine q_I0 ?_
  | with_reducible refine q_eqI ?_
  | with_reducible refine q_neI ?_
  | ((with_reducible refine q_I ?_ ?_); first | decide | omega | exact ⟨by omega, by omega⟩ | exact ⟨by decide, by decide⟩ | exact .inl ⟨by omega, by omega⟩ | exact .inr ⟨by omega, by omega⟩ | exact .inr ⟨by decide, by decide⟩)
  | with_reducible refine q_eqS ?_
  | with_reducible refine q_neS ?_
  | with_reducible refine q_brk ?_
  | with_reducible refine q_ct ?_
  | with_reducible refine q_bk ?_
  | with_reducible refine q_cn ?_
  | with_reducible refine q_retN ?_
  | with_reducible refine q_gSub ?_
  | with_reducible refine q_for ?_
  | with_reducible refine q_iList ?_
  | with_reducible refine q_iTup ?_
  | with_reducible refine q_iRng1 ?_
  | with_reducible refine q_notK ?_
  | with_reducible refine q_orVT ?_
  | with_reducible refine q_orVF ?_
  | with_reducible refine q_notV ?_
  | with_reducible refine q_notVK ?_
  | with_reducible refine q_ifE ?_
  | with_reducible refine q_ifET ?_
  | with_reducible refine q_ifEF ?_
  | with_reducible refine q_yes ?_
  | with_reducible refine q_un ?_
  | with_reducible refine q_rU ?_
  | with_reducible refine q_abs ?_
  | with_reducible refine q_int1 ?_
  | with_reducible refine q_bm ?_
  | with_reducible refine q_bm0 ?_
  | with_reducible refine q_lc ?_
  | with_reducible refine q_keepT ?_
  | with_reducible refine q_keepF ?_
  | ((with_reducible apply q_aug); (focus (exact rfl)))
  | with_reducible refine q_ipI ?_
  | with_reducible refine q_chain ?_
  | with_reducible refine q_pairC ?_
  | with_reducible refine q_pairsK ?_
  | with_reducible refine q_pairN ?_
  | with_reducible refine q_fld ?_
  | with_reducible refine q_sFld ?_
  | with_reducible refine q_meth ?_
  | with_reducible refine q_makeK ?_
  | with_reducible refine q_isBl ?_
  | with_reducible refine q_notBl ?_
  | with_reducible refine q_sl ?_
  | with_reducible refine q_noPart ?_
  | with_reducible refine q_part ?_
  | with_reducible refine q_partK ?_
  | ((with_reducible apply q_mulStr); (focus (decide +kernel)))
  | with_reducible refine q_chT ?_
  | with_reducible refine q_chF ?_
  | with_reducible refine q_ord ?_
  | with_reducible refine q_iStr0 ?_
  | with_reducible refine q_iStr ?_
  | with_reducible refine q_tDIn ?_
  | with_reducible refine q_tDNotIn ?_
  | with_reducible refine q_tDGet ?_
  | with_reducible refine q_tDGet2 ?_
  | with_reducible refine q_tDGet1 ?_
  | with_reducible refine q_tDSetd ?_
  | ((with_reducible apply q_dG2a); (focus ((repeat first | (with_reducible exact upd_same) | (with_reducible assumption) | (with_reducible apply upd_new (by assumption)) | (with_reducible apply upd_other (by first | assumption | exact Ne.symm (by assumption))) | (with_reducible refine' Kp.get (by assumption) ?_ (by first | assumption | exact Ne.symm (by assumption))) | (with_reducible apply Same.get (by assumption))); done)))
  | ((with_reducible apply q_dSda); (focus ((repeat first | (with_reducible exact upd_same) | (with_reducible assumption) | (with_reducible apply upd_new (by assumption)) | (with_reducible apply upd_other (by first | assumption | exact Ne.symm (by assumption))) | (with_reducible refine' Kp.get (by assumption) ?_ (by first | assumption | exact Ne.symm (by assumption))) | (with_reducible apply Same.get (by assumption))); done)))
  | with_reducible refine q_sDPut ?_
  | ((with_reducible apply q_dInS); (focus ((repeat first | (with_reducible exact upd_same) | (with_reducible assumption) | (with_reducible apply upd_new (by assumption)) | (with_reducible apply upd_other (by first | assumption | exact Ne.symm (by assumption))) | (with_reducible refine' Kp.get (by assumption) ?_ (by first | assumption | exact Ne.symm (by assumption))) | (with_reducible apply Same.get (by assumption))); done)))
  | ((with_reducible apply q_dNInS); (focus ((repeat first | (with_reducible exact upd_same) | (with_reducible assumption) | (with_reducible apply upd_new (by assumption)) | (with_reducible apply upd_other (by first | assumption | exact Ne.symm (by assumption))) | (with_reducible refine' Kp.get (by assumption) ?_ (by first | assumption | exact Ne.symm (by assumption))) | (with_reducible apply Same.get (by assumption))); done)))
  | ((with_reducible apply q_dInI); (focus ((repeat first | (with_reducible exact upd_same) | (with_reducible assumption) | (with_reducible apply upd_new (by assumption)) | (with_reducible apply upd_other (by first | assumption | exact Ne.symm (by assumption))) | (with_reducible refine' Kp.get (by assumption) ?_ (by first | assumption | exact Ne.symm (by assumption))) | (with_reducible apply Same.get (by assumption))); done)))
  | ((with_reducible apply q_dNInI); (focus ((repeat first | (with_reducible exact upd_same) | (with_reducible assumption) | (with_reducible apply upd_new (by assumption)) | (with_reducible apply upd_other (by first | assumption | exact Ne.symm (by assumption))) | (with_reducible refine' Kp.get (by assumption) ?_ (by first | assumption | exact Ne.symm (by assumption))) | (with_reducible apply Same.get (by assumption))); done)))
  | ((with_reducible apply q_bmL); (focus ((repeat first | (with_reducible exact upd_same) | (with_reducible assumption) | (with_reducible apply upd_new (by assumption)) | (with_reducible apply upd_other (by first | assumption | exact Ne.symm (by assumption))) | (with_reducible refine' Kp.get (by assumption) ?_ (by first | assumption | exact Ne.symm (by assumption))) | (with_reducible apply Same.get (by assumption))); done)))
  | ((with_reducible apply q_bmL0); (focus ((repeat first | (with_reducible exact upd_same) | (with_reducible assumption) | (with_reducible apply upd_new (by assumption)) | (with_reducible apply upd_other (by first | assumption | exact Ne.symm (by assumption))) | (with_reducible refine' Kp.get (by assumption) ?_ (by first | assumption | exact Ne.symm (by assumption))) | (with_reducible apply Same.get (by assumption))); done)))
  | ((with_reducible apply q_ixLt); (focus ((repeat first | (with_reducible exact upd_same) | (with_reducible assumption) | (with_reducible apply upd_new (by assumption)) | (with_reducible apply upd_other (by first | assumption | exact Ne.symm (by assumption))) | (with_reducible refine' Kp.get (by assumption) ?_ (by first | assumption | exact Ne.symm (by assumption))) | (with_reducible apply Same.get (by assumption))); done)); (focus (exact rfl)))
  | ((with_reducible apply q_ixTt); (focus ((repeat first | (with_reducible exact upd_same) | (with_reducible assumption) | (with_reducible apply upd_new (by assumption)) | (with_reducible apply upd_other (by first | assumption | exact Ne.symm (by assumption))) | (with_reducible refine' Kp.get (by assumption) ?_ (by first | assumption | exact Ne.symm (by assumption))) | (with_reducible apply Same.get (by assumption))); done)); (focus (exact rfl)))
  | ((with_reducible apply q_lenLt); (focus ((repeat first | (with_reducible exact upd_same) | (with_reducible assumption) | (with_reducible apply upd_new (by assumption)) | (with_reducible apply upd_other (by first | assumption | exact Ne.symm (by assumption))) | (with_reducible refine' Kp.get (by assumption) ?_ (by first | assumption | exact Ne.symm (by assumption))) | (with_reducible apply Same.get (by assumption))); done)))
  | ((with_reducible apply q_lenTt); (focus ((repeat first | (with_reducible exact upd_same) | (with_reducible assumption) | (with_reducible apply upd_new (by assumption)) | (with_reducible apply upd_other (by first | assumption | exact Ne.symm (by assumption))) | (with_reducible refine' Kp.get (by assumption) ?_ (by first | assumption | exact Ne.symm (by assumption))) | (with_reducible apply Same.get (by assumption))); done)))
  | ((with_reducible apply q_append); (focus ((repeat first | (with_reducible exact upd_same) | (with_reducible assumption) | (with_reducible apply upd_new (by assumption)) | (with_reducible apply upd_other (by first | assumption | exact Ne.symm (by assumption))) | (with_reducible refine' Kp.get (by assumption) ?_ (by first | assumption | exact Ne.symm (by assumption))) | (with_reducible apply Same.get (by assumption))); done)); (focus ((first | (exact Nat.lt_of_ble_eq_true rfl) | (simp only [List.length_append, List.length_cons, List.length_nil, List.length_map]; exact small1000 (by omega))))))
  | ((with_reducible apply q_setL); (focus ((repeat first | (with_reducible exact upd_same) | (with_reducible assumption) | (with_reducible apply upd_new (by assumption)) | (with_reducible apply upd_other (by first | assumption | exact Ne.symm (by assumption))) | (with_reducible refine' Kp.get (by assumption) ?_ (by first | assumption | exact Ne.symm (by assumption))) | (with_reducible apply Same.get (by assumption))); done)); (focus (exact rfl)))
  | with_reducible refine q_ifNT ?_
  | with_reducible refine q_ifNF ?_
  | with_reducible refine q_andNT ?_
  | with_reducible refine q_andNF ?_
  | with_reducible refine q_orNT ?_
  | with_reducible refine q_orNF ?_
  | with_reducible refine q_bKNT ?_
  | with_reducible refine q_bKNF ?_
  | with_reducible refine q_tNGet ?_
  | with_reducible refine q_tNIn ?_
  | with_reducible refine q_sNPut ?_
  | with_reducible refine q_sFldAug ?_
  | with_reducible refine q_sDAug ?_
  | with_reducible refine q_sDDel ?_
  | with_reducible refine q_forX ?_
  | with_reducible refine q_tMake ?_
  | ((with_reducible apply q_dG1a); (focus ((repeat first | (with_reducible exact upd_same) | (with_reducible assumption) | (with_reducible apply upd_new (by assumption)) | (with_reducible apply upd_other (by first | assumption | exact Ne.symm (by assumption))) | (with_reducible refine' Kp.get (by assumption) ?_ (by first | assumption | exact Ne.symm (by assumption))) | (with_reducible apply Same.get (by assumption))); done)))))
open TL
def top (i : Nat) : Stmt := PySem.Challenge.pw_vaultbridge_k30_write_and_read.main.body.getD i (.Pass ⟨0, 0, 0, 0⟩)
abbrev s__wall : Stmt := top 0
theorem sc__wall : FnScope ["k"] ["k"] (defScope s__wall) := ⟨rfl, rfl, rfl, by decide +kernel, rfl, by decide +kernel, by decide +kernel⟩
abbrev s_is_integer : Stmt := top 10
theorem sc_is_integer : FnScope ["value"] ["value"] (defScope s_is_integer) := ⟨rfl, rfl, rfl, by decide +kernel, rfl, by decide +kernel, by decide +kernel⟩
abbrev s_is_at_least : Stmt := top 11
theorem sc_is_at_least : FnScope ["value", "least"] ["value", "least"] (defScope s_is_at_least) := ⟨rfl, rfl, rfl, by decide +kernel, rfl, by decide +kernel, by decide +kernel⟩
abbrev s_is_text : Stmt := top 12
theorem sc_is_text : FnScope ["value", "char", "code"] ["value"] (defScope s_is_text) := ⟨rfl, rfl, rfl, by decide +kernel, rfl, by decide +kernel, by decide +kernel⟩
abbrev s_is_short_text : Stmt := top 13
theorem sc_is_short_text : FnScope ["value", "most"] ["value", "most"] (defScope s_is_short_text) := ⟨rfl, rfl, rfl, by decide +kernel, rfl, by decide +kernel, by decide +kernel⟩
abbrev s_is_account : Stmt := top 14
theorem sc_is_account : FnScope ["value"] ["value"] (defScope s_is_account) := ⟨rfl, rfl, rfl, by decide +kernel, rfl, by decide +kernel, by decide +kernel⟩
abbrev s_is_side : Stmt := top 15
theorem sc_is_side : FnScope ["value"] ["value"] (defScope s_is_side) := ⟨rfl, rfl, rfl, by decide +kernel, rfl, by decide +kernel, by decide +kernel⟩
abbrev s_is_set : Stmt := top 17
theorem sc_is_set : FnScope ["value", "found", "part"] ["value"] (defScope s_is_set) := ⟨rfl, rfl, rfl, by decide +kernel, rfl, by decide +kernel, by decide +kernel⟩
abbrev s_is_pair : Stmt := top 18
theorem sc_is_pair : FnScope ["part"] ["part"] (defScope s_is_pair) := ⟨rfl, rfl, rfl, by decide +kernel, rfl, by decide +kernel, by decide +kernel⟩
abbrev s_is_transfer : Stmt := top 23
theorem sc_is_transfer : FnScope ["value", "token", "units", "fee", "sender", "receiver", "deadline"] ["value"] (defScope s_is_transfer) := ⟨rfl, rfl, rfl, by decide +kernel, rfl, by decide +kernel, by decide +kernel⟩
abbrev s_is_bundle : Stmt := top 24
theorem sc_is_bundle : FnScope ["value", "part"] ["value"] (defScope s_is_bundle) := ⟨rfl, rfl, rfl, by decide +kernel, rfl, by decide +kernel, by decide +kernel⟩
abbrev s_is_letter : Stmt := top 25
theorem sc_is_letter : FnScope ["value", "kind", "side", "number", "body"] ["value"] (defScope s_is_letter) := ⟨rfl, rfl, rfl, by decide +kernel, rfl, by decide +kernel, by decide +kernel⟩
abbrev s_write : Stmt := top 32
theorem sc_write : FnScope ["value", "written", "left", "part", "is_sign"] ["value"] (defScope s_write) := ⟨rfl, rfl, rfl, by decide +kernel, rfl, by decide +kernel, by decide +kernel⟩
abbrev s_written_integer : Stmt := top 33
theorem sc_written_integer : FnScope ["number", "sign"] ["number"] (defScope s_written_integer) := ⟨rfl, rfl, rfl, by decide +kernel, rfl, by decide +kernel, by decide +kernel⟩
abbrev s_digits_of : Stmt := top 34
theorem sc_digits_of : FnScope ["number", "powers", "power", "pieces", "middle", "digits", "piece", "half"] ["number"] (defScope s_digits_of) := ⟨rfl, rfl, rfl, by decide +kernel, rfl, by decide +kernel, by decide +kernel⟩
abbrev s_parted : Stmt := top 35
theorem sc_parted : FnScope ["parts", "found", "part"] ["parts"] (defScope s_parted) := ⟨rfl, rfl, rfl, by decide +kernel, rfl, by decide +kernel, by decide +kernel⟩
abbrev s_read : Stmt := top 36
theorem sc_read : FnScope ["text", "value", "end"] ["text"] (defScope s_read) := ⟨rfl, rfl, rfl, by decide +kernel, rfl, by decide +kernel, by decide +kernel⟩
abbrev s_read_letter : Stmt := top 37
theorem sc_read_letter : FnScope ["text", "value"] ["text"] (defScope s_read_letter) := ⟨rfl, rfl, rfl, by decide +kernel, rfl, by decide +kernel, by decide +kernel⟩
abbrev s_read_value : Stmt := top 38
theorem sc_read_value : FnScope ["text", "start", "depth", "sign", "digits", "end"] ["text", "start", "depth"] (defScope s_read_value) := ⟨rfl, rfl, rfl, by decide +kernel, rfl, by decide +kernel, by decide +kernel⟩
abbrev s_read_text : Stmt := top 39
theorem sc_read_text : FnScope ["text", "digits", "start", "end"] ["text", "digits", "start"] (defScope s_read_text) := ⟨rfl, rfl, rfl, by decide +kernel, rfl, by decide +kernel, by decide +kernel⟩
abbrev s_read_tuple : Stmt := top 40
theorem sc_read_tuple : FnScope ["text", "start", "depth", "parts", "part", "end"] ["text", "start", "depth"] (defScope s_read_tuple) := ⟨rfl, rfl, rfl, by decide +kernel, rfl, by decide +kernel, by decide +kernel⟩
abbrev s_sign_at : Stmt := top 41
theorem sc_sign_at : FnScope ["text", "place"] ["text", "place"] (defScope s_sign_at) := ⟨rfl, rfl, rfl, by decide +kernel, rfl, by decide +kernel, by decide +kernel⟩
abbrev s_digits_at : Stmt := top 42
theorem sc_digits_at : FnScope ["text", "start", "most", "end", "digits"] ["text", "start", "most"] (defScope s_digits_at) := ⟨rfl, rfl, rfl, by decide +kernel, rfl, by decide +kernel, by decide +kernel⟩
abbrev s_L_pot : Stmt := top 44
theorem sc_L_pot : FnScope ["script", "seed", "cell"] ["script"] (defScope s_L_pot) := ⟨rfl, rfl, rfl, by decide +kernel, rfl, by decide +kernel, by decide +kernel⟩
abbrev s_L_next : Stmt := top 45
theorem sc_L_next : FnScope ["pot", "limit", "mixed", "cell", "found"] ["pot", "limit"] (defScope s_L_next) := ⟨rfl, rfl, rfl, by decide +kernel, rfl, by decide +kernel, by decide +kernel⟩
abbrev s_L_is_int : Stmt := top 46
theorem sc_L_is_int : FnScope ["value"] ["value"] (defScope s_L_is_int) := ⟨rfl, rfl, rfl, by decide +kernel, rfl, by decide +kernel, by decide +kernel⟩
abbrev s_L_same : Stmt := top 47
theorem sc_L_same : FnScope ["found", "value", "k"] ["found", "value"] (defScope s_L_same) := ⟨rfl, rfl, rfl, by decide +kernel, rfl, by decide +kernel, by decide +kernel⟩
abbrev s_L_set : Stmt := top 48
theorem sc_L_set : FnScope ["pot", "most", "names", "found", "k"] ["pot", "most"] (defScope s_L_set) := ⟨rfl, rfl, rfl, by decide +kernel, rfl, by decide +kernel, by decide +kernel⟩
abbrev s_L_transfer : Stmt := top 49
theorem sc_L_transfer : FnScope ["pot", "units", "accounts"] ["pot"] (defScope s_L_transfer) := ⟨rfl, rfl, rfl, by decide +kernel, rfl, by decide +kernel, by decide +kernel⟩
abbrev s_L_letter : Stmt := top 50
theorem sc_L_letter : FnScope ["pot", "kind", "number", "side"] ["pot"] (defScope s_L_letter) := ⟨rfl, rfl, rfl, by decide +kernel, rfl, by decide +kernel, by decide +kernel⟩
abbrev s_L_refused : Stmt := top 51
theorem sc_L_refused : FnScope ["text", "e"] ["text"] (defScope s_L_refused) := ⟨rfl, rfl, rfl, by decide +kernel, rfl, by decide +kernel, by decide +kernel⟩
abbrev s_L_value : Stmt := top 52
theorem sc_L_value : FnScope ["pot", "depth", "kind", "k"] ["pot", "depth"] (defScope s_L_value) := ⟨rfl, rfl, rfl, by decide +kernel, rfl, by decide +kernel, by decide +kernel⟩
abbrev s_L_written : Stmt := top 53
theorem sc_L_written : FnScope ["value", "part"] ["value"] (defScope s_L_written) := ⟨rfl, rfl, rfl, by decide +kernel, rfl, by decide +kernel, by decide +kernel⟩
abbrev s_law : Stmt := top 54
theorem sc_law : FnScope ["script", "pot", "value", "k", "letter", "one", "plain", "text"] ["script"] (defScope s_law) := ⟨rfl, rfl, rfl, by decide +kernel, rfl, by decide +kernel, by decide +kernel⟩
structure Txt (K : PySem.W.Frag) (mg : Str → Option Value) where
  f__wall : Addr
  d__wall : FuncData
  F__wall : Fun K "_wall" "_wall" s__wall f__wall d__wall
  b__wall : Binds K d__wall ["k"] []
  g__wall : mg "_wall" = some (.ref f__wall)
  f_is_integer : Addr
  d_is_integer : FuncData
  F_is_integer : Fun K "is_integer" "is_integer" s_is_integer f_is_integer d_is_integer
  b_is_integer : Binds K d_is_integer ["value"] []
  g_is_integer : mg "is_integer" = some (.ref f_is_integer)
  f_is_at_least : Addr
  d_is_at_least : FuncData
  F_is_at_least : Fun K "is_at_least" "is_at_least" s_is_at_least f_is_at_least d_is_at_least
  b_is_at_least : Binds K d_is_at_least ["value", "least"] []
  g_is_at_least : mg "is_at_least" = some (.ref f_is_at_least)
  f_is_text : Addr
  d_is_text : FuncData
  F_is_text : Fun K "is_text" "is_text" s_is_text f_is_text d_is_text
  b_is_text : Binds K d_is_text ["value"] []
  g_is_text : mg "is_text" = some (.ref f_is_text)
  f_is_short_text : Addr
  d_is_short_text : FuncData
  F_is_short_text : Fun K "is_short_text" "is_short_text" s_is_short_text f_is_short_text d_is_short_text
  b_is_short_text : Binds K d_is_short_text ["value", "most"] []
  g_is_short_text : mg "is_short_text" = some (.ref f_is_short_text)
  f_is_account : Addr
  d_is_account : FuncData
  F_is_account : Fun K "is_account" "is_account" s_is_account f_is_account d_is_account
  b_is_account : Binds K d_is_account ["value"] []
  g_is_account : mg "is_account" = some (.ref f_is_account)
  f_is_side : Addr
  d_is_side : FuncData
  F_is_side : Fun K "is_side" "is_side" s_is_side f_is_side d_is_side
  b_is_side : Binds K d_is_side ["value"] []
  g_is_side : mg "is_side" = some (.ref f_is_side)
  f_is_set : Addr
  d_is_set : FuncData
  F_is_set : Fun K "is_set" "is_set" s_is_set f_is_set d_is_set
  b_is_set : Binds K d_is_set ["value"] []
  g_is_set : mg "is_set" = some (.ref f_is_set)
  f_is_pair : Addr
  d_is_pair : FuncData
  F_is_pair : Fun K "is_pair" "is_pair" s_is_pair f_is_pair d_is_pair
  b_is_pair : Binds K d_is_pair ["part"] []
  g_is_pair : mg "is_pair" = some (.ref f_is_pair)
  f_is_transfer : Addr
  d_is_transfer : FuncData
  F_is_transfer : Fun K "is_transfer" "is_transfer" s_is_transfer f_is_transfer d_is_transfer
  b_is_transfer : Binds K d_is_transfer ["value"] []
  g_is_transfer : mg "is_transfer" = some (.ref f_is_transfer)
  f_is_bundle : Addr
  d_is_bundle : FuncData
  F_is_bundle : Fun K "is_bundle" "is_bundle" s_is_bundle f_is_bundle d_is_bundle
  b_is_bundle : Binds K d_is_bundle ["value"] []
  g_is_bundle : mg "is_bundle" = some (.ref f_is_bundle)
  f_is_letter : Addr
  d_is_letter : FuncData
  F_is_letter : Fun K "is_letter" "is_letter" s_is_letter f_is_letter d_is_letter
  b_is_letter : Binds K d_is_letter ["value"] []
  g_is_letter : mg "is_letter" = some (.ref f_is_letter)
  f_write : Addr
  d_write : FuncData
  F_write : Fun K "write" "write" s_write f_write d_write
  b_write : Binds K d_write ["value"] []
  g_write : mg "write" = some (.ref f_write)
  f_written_integer : Addr
  d_written_integer : FuncData
  F_written_integer : Fun K "written_integer" "written_integer" s_written_integer f_written_integer d_written_integer
  b_written_integer : Binds K d_written_integer ["number"] []
  g_written_integer : mg "written_integer" = some (.ref f_written_integer)
  f_digits_of : Addr
  d_digits_of : FuncData
  F_digits_of : Fun K "digits_of" "digits_of" s_digits_of f_digits_of d_digits_of
  b_digits_of : Binds K d_digits_of ["number"] []
  g_digits_of : mg "digits_of" = some (.ref f_digits_of)
  f_parted : Addr
  d_parted : FuncData
  F_parted : Fun K "parted" "parted" s_parted f_parted d_parted
  b_parted : Binds K d_parted ["parts"] []
  g_parted : mg "parted" = some (.ref f_parted)
  f_read : Addr
  d_read : FuncData
  F_read : Fun K "read" "read" s_read f_read d_read
  b_read : Binds K d_read ["text"] []
  g_read : mg "read" = some (.ref f_read)
  f_read_letter : Addr
  d_read_letter : FuncData
  F_read_letter : Fun K "read_letter" "read_letter" s_read_letter f_read_letter d_read_letter
  b_read_letter : Binds K d_read_letter ["text"] []
  g_read_letter : mg "read_letter" = some (.ref f_read_letter)
  f_read_value : Addr
  d_read_value : FuncData
  F_read_value : Fun K "read_value" "read_value" s_read_value f_read_value d_read_value
  b_read_value : Binds K d_read_value ["text", "start", "depth"] []
  g_read_value : mg "read_value" = some (.ref f_read_value)
  f_read_text : Addr
  d_read_text : FuncData
  F_read_text : Fun K "read_text" "read_text" s_read_text f_read_text d_read_text
  b_read_text : Binds K d_read_text ["text", "digits", "start"] []
  g_read_text : mg "read_text" = some (.ref f_read_text)
  f_read_tuple : Addr
  d_read_tuple : FuncData
  F_read_tuple : Fun K "read_tuple" "read_tuple" s_read_tuple f_read_tuple d_read_tuple
  b_read_tuple : Binds K d_read_tuple ["text", "start", "depth"] []
  g_read_tuple : mg "read_tuple" = some (.ref f_read_tuple)
  f_sign_at : Addr
  d_sign_at : FuncData
  F_sign_at : Fun K "sign_at" "sign_at" s_sign_at f_sign_at d_sign_at
  b_sign_at : Binds K d_sign_at ["text", "place"] []
  g_sign_at : mg "sign_at" = some (.ref f_sign_at)
  f_digits_at : Addr
  d_digits_at : FuncData
  F_digits_at : Fun K "digits_at" "digits_at" s_digits_at f_digits_at d_digits_at
  b_digits_at : Binds K d_digits_at ["text", "start", "most"] []
  g_digits_at : mg "digits_at" = some (.ref f_digits_at)
  f_L_pot : Addr
  d_L_pot : FuncData
  F_L_pot : Fun K "_law_pot" "_law_pot" s_L_pot f_L_pot d_L_pot
  b_L_pot : Binds K d_L_pot ["script"] []
  g_L_pot : mg "_law_pot" = some (.ref f_L_pot)
  f_L_next : Addr
  d_L_next : FuncData
  F_L_next : Fun K "_law_next" "_law_next" s_L_next f_L_next d_L_next
  b_L_next : Binds K d_L_next ["pot", "limit"] []
  g_L_next : mg "_law_next" = some (.ref f_L_next)
  f_L_is_int : Addr
  d_L_is_int : FuncData
  F_L_is_int : Fun K "_law_is_int" "_law_is_int" s_L_is_int f_L_is_int d_L_is_int
  b_L_is_int : Binds K d_L_is_int ["value"] []
  g_L_is_int : mg "_law_is_int" = some (.ref f_L_is_int)
  f_L_same : Addr
  d_L_same : FuncData
  F_L_same : Fun K "_law_same" "_law_same" s_L_same f_L_same d_L_same
  b_L_same : Binds K d_L_same ["found", "value"] []
  g_L_same : mg "_law_same" = some (.ref f_L_same)
  f_L_set : Addr
  d_L_set : FuncData
  F_L_set : Fun K "_law_set" "_law_set" s_L_set f_L_set d_L_set
  b_L_set : Binds K d_L_set ["pot", "most"] []
  g_L_set : mg "_law_set" = some (.ref f_L_set)
  f_L_transfer : Addr
  d_L_transfer : FuncData
  F_L_transfer : Fun K "_law_transfer" "_law_transfer" s_L_transfer f_L_transfer d_L_transfer
  b_L_transfer : Binds K d_L_transfer ["pot"] []
  g_L_transfer : mg "_law_transfer" = some (.ref f_L_transfer)
  f_L_letter : Addr
  d_L_letter : FuncData
  F_L_letter : Fun K "_law_letter" "_law_letter" s_L_letter f_L_letter d_L_letter
  b_L_letter : Binds K d_L_letter ["pot"] []
  g_L_letter : mg "_law_letter" = some (.ref f_L_letter)
  f_L_refused : Addr
  d_L_refused : FuncData
  F_L_refused : Fun K "_law_refused" "_law_refused" s_L_refused f_L_refused d_L_refused
  b_L_refused : Binds K d_L_refused ["text"] []
  g_L_refused : mg "_law_refused" = some (.ref f_L_refused)
  f_L_value : Addr
  d_L_value : FuncData
  F_L_value : Fun K "_law_value" "_law_value" s_L_value f_L_value d_L_value
  b_L_value : Binds K d_L_value ["pot", "depth"] []
  g_L_value : mg "_law_value" = some (.ref f_L_value)
  f_L_written : Addr
  d_L_written : FuncData
  F_L_written : Fun K "_law_written" "_law_written" s_L_written f_L_written d_L_written
  b_L_written : Binds K d_L_written ["value"] []
  g_L_written : mg "_law_written" = some (.ref f_L_written)
  f_law : Addr
  d_law : FuncData
  F_law : Fun K "law" "law" s_law f_law d_law
  b_law : Binds K d_law ["script"] []
  g_law : mg "law" = some (.ref f_law)
  C_BridgeError : Addr
  g_BridgeError : mg "BridgeError" = some (.ref C_BridgeError)
  xe_BridgeError : PySem.W.excIn K C_BridgeError [.type "ValueError", .type "Exception", .type "BaseException", .type "object"] "ValueError.__new__" = true
  ke_BridgeError : PySem.W.keepIn K (.ref C_BridgeError) = true
  be_BridgeError : PySem.W.subIn K (.ref C_BridgeError) (.type "BaseException") = some true
  te_BridgeError : PySem.W.typeIn K (.ref C_BridgeError) = some (.type "type")
  ie_BridgeError : PySem.W.isClsIn K C_BridgeError = true
  se_BridgeError : PySem.W.subIn K (.ref C_BridgeError) (.ref C_BridgeError) = some true
  hd_BridgeError : PySem.W.hasDictIn K C_BridgeError = true
  C_BadNotation : Addr
  g_BadNotation : mg "BadNotation" = some (.ref C_BadNotation)
  xe_BadNotation : PySem.W.excIn K C_BadNotation [.type "ValueError", .type "Exception", .type "BaseException", .type "object"] "ValueError.__new__" = true
  ke_BadNotation : PySem.W.keepIn K (.ref C_BadNotation) = true
  be_BadNotation : PySem.W.subIn K (.ref C_BadNotation) (.type "BaseException") = some true
  te_BadNotation : PySem.W.typeIn K (.ref C_BadNotation) = some (.type "type")
  ie_BadNotation : PySem.W.isClsIn K C_BadNotation = true
  se_BadNotation : PySem.W.subIn K (.ref C_BadNotation) (.ref C_BadNotation) = some true
  hg_BadNotation : PySem.W.findIn K (.ref C_BadNotation) "__getattribute__" = some (some (.builtin "BaseException.__getattribute__"))
  hk_BadNotation : PySem.W.findIn K (.ref C_BadNotation) "__getattr__" = some none
  hd_BadNotation : PySem.W.hasDictIn K C_BadNotation = true
  ha_BadNotation : PySem.W.findIn K (.ref C_BadNotation) "__class__" = some (some (.builtin "object.__class__"))
  hm_BadNotation : PySem.W.mroIn K C_BadNotation (.type "object") = some true
  hn_BadNotation : PySem.W.specialIn K (.builtin "object.__class__") "__get__" = some (some (.builtin "getset_descriptor.__get__"))
  ht_BadNotation : PySem.W.takesIn K (.builtin "object.__class__") = some true
  ue_BadNotation : PySem.W.subIn K (.ref C_BadNotation) (.ref C_BridgeError) = some true
  a_ABOUT_ALL : Addr
  c_ABOUT_ALL : mg "ABOUT_ALL" = some (.ref a_ABOUT_ALL)
  k_ABOUT_ALL : SqTK K a_ABOUT_ALL [.str "stop", .str "resume"]
  a_ABOUT_ONE : Addr
  c_ABOUT_ONE : mg "ABOUT_ONE" = some (.ref a_ABOUT_ONE)
  k_ABOUT_ONE : SqTK K a_ABOUT_ONE [.str "deliver", .str "return", .str "cancel"]
  t_ACCOUNT_LENGTH : Tok
  c_ACCOUNT_LENGTH : mg "ACCOUNT_LENGTH" = some (.int 20 t_ACCOUNT_LENGTH)
  t_BARRED_CODE : Tok
  c_BARRED_CODE : mg "BARRED_CODE" = some (.int 37 t_BARRED_CODE)
  t_DEEPEST : Tok
  c_DEEPEST : mg "DEEPEST" = some (.int 10 t_DEEPEST)
  t_FIRST_CODE : Tok
  c_FIRST_CODE : mg "FIRST_CODE" = some (.int 32 t_FIRST_CODE)
  t_LAST_CODE : Tok
  c_LAST_CODE : mg "LAST_CODE" = some (.int 126 t_LAST_CODE)
  t_MOST_DIGITS : Tok
  c_MOST_DIGITS : mg "MOST_DIGITS" = some (.int 40 t_MOST_DIGITS)
  t_MOST_LENGTH_DIGITS : Tok
  c_MOST_LENGTH_DIGITS : mg "MOST_LENGTH_DIGITS" = some (.int 9 t_MOST_LENGTH_DIGITS)
  t_MOST_TRANSFERS : Tok
  c_MOST_TRANSFERS : mg "MOST_TRANSFERS" = some (.int 8 t_MOST_TRANSFERS)
  t_PIECE : Tok
  c_PIECE : mg "PIECE" = some (.int 10000000000000000000000000000000000000000000000000000000000000000 t_PIECE)
  a_SIDES : Addr
  c_SIDES : mg "SIDES" = some (.ref a_SIDES)
  k_SIDES : SqTK K a_SIDES [.str "west", .str "east"]
  z_abs : mg "abs" = none
  z_all : mg "all" = none
  z_bool : mg "bool" = none
  z_int : mg "int" = none
  z_isinstance : mg "isinstance" = none
  z_len : mg "len" = none
  z_list : mg "list" = none
  z_ord : mg "ord" = none
  z_range : mg "range" = none
  z_reversed : mg "reversed" = none
  z_str : mg "str" = none
  z_tuple : mg "tuple" = none
theorem Txt.ec_BadNotation {K : PySem.W.Frag} {mg : Str → Option Value} (T : Txt K mg) : ExcC K T.C_BadNotation := ⟨T.hg_BadNotation, T.hk_BadNotation, T.be_BadNotation, T.hd_BadNotation, T.ha_BadNotation, T.hn_BadNotation, T.ht_BadNotation, T.hm_BadNotation⟩
theorem Txt.hi_BadNotation {K : PySem.W.Frag} {mg : Str → Option Value} (T : Txt K mg) : PySem.W.kitOne K (.ref T.C_BadNotation) (.ref T.C_BadNotation) = some true := by
  unfold PySem.W.kitOne
  rw [if_pos (beq_self_eq_true _)]
theorem Txt.ex_BadNotation {K : PySem.W.Frag} {mg : Str → Option Value} (T : Txt K mg) : PySem.W.exmOne K (.ref T.C_BadNotation) (.ref T.C_BridgeError) = some true := PySem.W.exm_ref T.be_BridgeError T.hd_BridgeError T.te_BridgeError T.ue_BadNotation
/-! the law's own numbers -/
def PotAt (H : Hp) (p l : Addr) : Prop := ∃ (ns : List Int) (i c s : Int), H p = some (.lst [.ref l, .int i, .int c, .int s]) ∧ H l = some (.lst (ns.map V.int)) ∧ 0 ≤ i ∧ 0 ≤ c ∧ 0 ≤ s ∧ s < 2147483647 ∧ ns.length ≤ 1000 ∧ p ≠ l
theorem PotAt.at {H : Hp} {p l : Addr} (h : PotAt H p l) : ∃ o, H p = some o := by
  obtain ⟨ns, i, c, s, h1, _⟩ := h; exact ⟨_, h1⟩
theorem PotAt.atl {H : Hp} {p l : Addr} (h : PotAt H p l) : ∃ o, H l = some o := by
  obtain ⟨ns, i, c, s, _, h1, _⟩ := h; exact ⟨_, h1⟩
theorem PotAt.same {H H' : Hp} {p l : Addr} (h : PotAt H p l) (e : Same H H') : PotAt H' p l := by
  obtain ⟨ns, i, c, s, h1, h2, r⟩ := h; exact ⟨ns, i, c, s, e _ _ h1, e _ _ h2, r⟩
theorem PotAt.upd {H : Hp} {p l a : Addr} {o : HO} (h : PotAt H p l) (n1 : a ≠ p) (n2 : a ≠ l) : PotAt (L2.upd H a o) p l := by
  obtain ⟨ns, i, c, s, h1, h2, r⟩ := h; exact ⟨ns, i, c, s, upd_other n1.symm h1, upd_other n2.symm h2, r⟩
theorem PotAt.new {H : Hp} {p l a : Addr} {o : HO} (h : PotAt H p l) (n : H a = none) : PotAt (L2.upd H a o) p l := by
  obtain ⟨ns, i, c, s, h1, h2, r⟩ := h; exact ⟨ns, i, c, s, upd_new n h1, upd_new n h2, r⟩
theorem PotAt.nep {H : Hp} {p l a : Addr} (h : PotAt H p l) (n : H a = none) : a ≠ p := by
  obtain ⟨o, h1⟩ := h.at; exact (ne_of_none h1 n).symm
theorem PotAt.nel {H : Hp} {p l a : Addr} (h : PotAt H p l) (n : H a = none) : a ≠ l := by
  obtain ⟨o, h1⟩ := h.atl; exact (ne_of_none h1 n).symm
def sp_pot (K : PySem.W.Frag) : Sp := fun vs H Q _ => ∃ (a : Addr) (ns : List Int), vs = [.ref a] ∧ SqL K H a (ns.map V.int) ∧ ns.length ≤ 63 ∧ ∀ (p l : Addr) (H' : Hp), H p = none → H l = none → PotAt H' p l → Same H H' → Q (.ref p) H'
def sp_nextW : Sp := fun vs H Q _ => ∃ (p l : Addr) (n : Int), vs = [.ref p, .int n] ∧ PotAt H p l ∧ 0 < n ∧ n.natAbs.log2 < 9000 ∧ ∀ (r : Int) (H' : Hp), 0 ≤ r → r < n → PotAt H' p l → Kp p H H' → Q (.int r) H'
def sp_next : Sp := fun vs H Q _ => ∃ (p l : Addr) (n : Int), vs = [.ref p, .int n] ∧ PotAt H p l ∧ 0 < n ∧ n < 1000000000 ∧ ∀ (r : Int) (H' : Hp), 0 ≤ r → r < n → PotAt H' p l → Kp p H H' → Q (.int r) H'
section
variable {P : Program} {w : World} {K : PySem.W.Frag} {mg : Str → Option Value} {base : Heap}
theorem map_at {ns : List Int} {i : Nat} {x : V} (h : (ns.map V.int)[i]? = some x) : ∃ z, x = .int z := by
  rw [List.getElem?_map] at h
  cases e : ns[i]? with
  | none => rw [e] at h; cases h
  | some z => rw [e] at h; exact ⟨z, (Option.some.inj h).symm⟩
theorem ok_L_pot (T : Txt K mg) : FnOk P w K mg base CX0 1 T.f_L_pot T.d_L_pot ["script"] (sp_pot K) := by
  refine T.F_L_pot.ok sc_L_pot (fun vs H Q E h => ?_) (fun cdv A outer s H vs Q E hr h => ?_)
  · obtain ⟨a, ns, rfl, _⟩ := h; rfl
  · obtain ⟨a, ns, rfl, hS, hlen, k⟩ := h
    refine ⟨_, (pss_cons (ps_set (i := 1) sc_L_pot.nd rfl (Or.inl rfl) pe_int)
      (pss_cons (ps_for PassesOwn.never rfl (pi_list (pv 0)) (pg_name (i := 2) sc_L_pot.nd rfl (Or.inl rfl))
        (pss_one (ps_set (i := 1) sc_L_pot.nd rfl (Or.inl rfl) (pe_op op_mod (pe_callTy cq_int1 (by rfl) T.z_int boot_int (pa_cons (pe_op op_add (pe_op op_mul (pv 1) pe_int) (pv 2)) pa_nil)) pe_int))))
      (pss_one (ps_ret (pe_lst (pa_cons (pe_callTy cq_listOf (by rfl) T.z_list boot_list (pa_cons (pv 0) pa_nil)) (pa_cons pe_int (pa_cons pe_int (pa_cons (pv 1) pa_nil))))))))), ?_⟩
    (dsimp only [cxOf, Cx.nox, Cx.wish, L2.start, List.map, List.length, List.replicate, List.cons_append, List.nil_append, List.append_eq, Nat.reduceSub, Nat.reduceAdd])
    walk_at "my_rd"
    refine q_forL hS (fun i σ H2 => ∃ (z : Int) (v : Option V), σ = [some (.ref a), some (.int z), v] ∧ H2 = H ∧ 0 ≤ z ∧ z < 2147483647) ⟨1, none, rfl, rfl, by omega, by omega⟩ (fun i σ H2 _ ⟨_, _, _, e, _⟩ => e ▸ hS) ?_ ?_
    · rintro i x σ H2 hx ⟨z, v, rfl, rfl, h0, h1⟩
      obtain ⟨y, rfl⟩ := map_at hx
      walk_at "my_rd"
      exact ⟨_, _, rfl, rfl, Int.emod_nonneg _ (by decide), Int.emod_lt_of_pos _ (by decide)⟩
    · rintro σ H2 ⟨z, v, rfl, rfl, h0, h1⟩
      walk_at "my_rd"
      refine q_listL hS fun l nl => ?_
      walk_at "my_rd"
      refine q_lstK (Nat.le_of_ble_eq_true rfl) fun p np => ?_
      walk_at "my_rd"
      refine k p l _ (upd_none_back np) nl ⟨ns, 0, 0, z, upd_same, upd_new np upd_same, by omega, by omega, h0, h1, by omega, ?_⟩ (Same.new (Same.new (Same.refl _) nl) (upd_none_back np))
      exact upd_none_ne np
theorem ok_L_nextW (T : Txt K mg) : FnOk P w K mg base CX0 1 T.f_L_next T.d_L_next ["pot", "limit"] sp_nextW := by
  refine T.F_L_next.ok sc_L_next (fun vs H Q E h => ?_) (fun cdv A outer s H vs Q E hr h => ?_)
  · obtain ⟨p, l, n, rfl, _⟩ := h; rfl
  · obtain ⟨p, l, n, rfl, ⟨ns, i, c, z, hp, hl, hi, hc, hz0, hz1, hns, hpl⟩, hn, hn2, k⟩ := h
    refine ⟨_, (Evl.pss_cut (ps_if (PW.pt (pw_and (pt_cmpR op_eq (pe_ix ix_list (pv 0) pe_int (fun _ _ => rfl)) pe_int (nomark _)) (pw_and1 (pt_cmpR op_lt (pe_ix ix_list (pv 0) pe_int (fun _ _ => rfl)) (pe_callB cq_len (by rfl) T.z_len boot_len (pa_cons (pe_ix ix_list (pv 0) pe_int (fun _ _ => rfl)) pa_nil)) (nomark _))))) (pss_cons (ps_set (i := 3) sc_L_next.nd rfl (Or.inl rfl) (pe_callB cq_abs (by rfl) T.z_abs boot_abs (pa_cons (pe_callTy cq_int1 (by rfl) T.z_int boot_int (pa_cons (pe_ix ix_list (pe_ix ix_list (pv 0) pe_int (fun _ _ => rfl)) (pe_ix ix_list (pv 0) pe_int (fun _ _ => rfl)) (fun _ _ => rfl)) pa_nil)) pa_nil)))
      (pss_cons (ps_asg (pe_op op_add (pe_ix ix_list (pv 0) pe_int (fun _ _ => rfl)) pe_int) (pg_sub (pv 0) pe_int set_list))
      (pss_cons (ps_if (pt_cmpR op_lt (pv 3) (pe_op op_pow pe_int pe_int) (nomark _)) (pss_one (ps_ret (pe_op op_mod (pe_callTy cq_int1 (by rfl) T.z_int boot_int (pa_cons (pv 3) pa_nil)) (pv 1)))) pss_nil)
      (pss_one (ps_asg (pv 3) (pg_sub (pv 0) pe_int set_list)))))) pss_nil)
      (pss_cons (ps_if (pt_cmpR op_gt (pe_ix ix_list (pv 0) pe_int (fun _ _ => rfl)) pe_int (nomark _)) (pss_cons (ps_set (i := 4) sc_L_next.nd rfl (Or.inl rfl) (pe_op op_mod (pe_callTy cq_int1 (by rfl) T.z_int boot_int (pa_cons (pe_ix ix_list (pv 0) pe_int (fun _ _ => rfl)) pa_nil)) (pv 1)))
      (pss_cons (ps_asg (pe_op op_fdivW (pe_ix ix_list (pv 0) pe_int (fun _ _ => rfl)) (pv 1)) (pg_sub (pv 0) pe_int set_list))
      (pss_one (ps_ret (pv 4))))) pss_nil)
      (pss_cons (ps_asg (pe_op op_mod (pe_callTy cq_int1 (by rfl) T.z_int boot_int (pa_cons (pe_op op_add (pe_op op_mul (pe_ix ix_list (pv 0) pe_int (fun _ _ => rfl)) pe_int) pe_int) pa_nil)) pe_int) (pg_sub (pv 0) pe_int set_list))
      (pss_cons (ps_set (i := 2) sc_L_next.nd rfl (Or.inl rfl) (pe_op op_mod (pe_callTy cq_int1 (by rfl) T.z_int boot_int (pa_cons (pe_op op_add (pe_op op_mul (pe_ix ix_list (pv 0) pe_int (fun _ _ => rfl)) pe_int) (pe_op op_fdiv (pe_ix ix_list (pv 0) pe_int (fun _ _ => rfl)) pe_int)) pa_nil)) pe_int))
      (pss_one (ps_ret (pe_op op_mod (pe_callTy cq_int1 (by rfl) T.z_int boot_int (pa_cons (pv 2) pa_nil)) (pv 1)))))))), ?_⟩
    (dsimp only [cxOf, Cx.nox, Cx.wish, L2.start, List.map, List.length, List.replicate, List.cons_append, List.nil_append, List.append_eq, Nat.reduceSub, Nat.reduceAdd])
    refine q_cut (Mid := fun σ' H' => ∃ (cell : Option V) (i c : Int), σ' = [some (.ref p), some (.int n), none, cell, none] ∧ H' p = some (.lst [.ref l, .int i, .int c, .int z]) ∧ H' l = some (.lst (ns.map V.int)) ∧ 0 ≤ i ∧ 0 ≤ c ∧ Kp p H H') ?_ ?_
    · walk_at "my_rd"
      refine q_and2 (fun h1 => ?_) (fun _ => ?_)
      · walk_at "my_rd"
        refine q_if2 (fun h2 => ?_) (fun _ => ?_)
        · have h2 := dec_t h2
          rw [List.length_map] at h2
          have hi2 : i.toNat < ns.length := by omega
          have ha : atI (ns.map V.int) i = some (V.int ns[i.toNat]) := at_int (n := i.toNat) (by omega) (by rw [List.getElem?_map, List.getElem?_eq_getElem hi2]; rfl)
          walk_at "my_rd"
          refine q_ixLt hl ha ?_
          walk_at "my_rd"
          refine q_if2 (fun h3 => ?_) (fun h3 => ?_)
          · walk_at "my_rd"
            refine k _ _ (Int.emod_nonneg _ (by omega)) (Int.emod_lt_of_pos _ hn) ⟨ns, i + 1, c, z, upd_same, upd_other hpl.symm hl, by omega, hc, hz0, hz1, hns, hpl⟩ (Kp.upd Kp.refl)
          · walk_at "my_rd"
            refine ⟨_, i + 1, _, rfl, upd_same, upd_other hpl.symm (upd_other hpl.symm hl), by omega, ?_, Kp.upd (Kp.upd Kp.refl)⟩
            split <;> omega
        · walk_at "my_rd"
          exact ⟨none, i, c, rfl, hp, hl, hi, hc, Kp.refl⟩
      · walk_at "my_rd"
        exact ⟨none, i, c, rfl, hp, hl, hi, hc, Kp.refl⟩
    · clear hp hl hi hc i c
      rintro σ' H2 ⟨cell, i, c, rfl, hp, hl, hi, hc, kp⟩
      walk_at "my_rd"
      refine q_if2 (fun h1 => ?_) (fun h1 => ?_)
      · have h1 := dec_t h1
        walk_at "my_rd"
        refine k _ _ (Int.emod_nonneg _ (by omega)) (Int.emod_lt_of_pos _ hn) ⟨ns, i, c / n, z, upd_same, upd_other hpl.symm hl, hi, Int.ediv_nonneg hc (by omega), hz0, hz1, hns, hpl⟩ (Kp.upd kp)
      · walk_at "my_rd"
        refine k _ _ (Int.emod_nonneg _ (by omega)) (Int.emod_lt_of_pos _ hn) ⟨ns, i, c, _, upd_same, upd_other hpl.symm hl, hi, hc, Int.emod_nonneg _ (by decide), Int.emod_lt_of_pos _ (by decide), hns, hpl⟩ (Kp.upd kp)
theorem ok_L_next (T : Txt K mg) : FnOk P w K mg base CX0 1 T.f_L_next T.d_L_next ["pot", "limit"] sp_next := (ok_L_nextW T).imp fun vs H Q E h => by
  obtain ⟨p, l, n, e, pot, h1, h2, k⟩ := h
  refine ⟨p, l, n, e, pot, h1, ?_, k⟩
  have : n.natAbs < 2 ^ 30 := by omega
  have := (Nat.log2_lt (k := 30) (show n.natAbs ≠ 0 by omega)).mpr this
  omega
end

/-- rows that stand as tuples -/
structure RowsAt {α : Type} (f : α → List V) (H : Hp) (xs : List V) (rs : List α) : Prop where
  len : xs.length = rs.length
  at_ : ∀ (i : Nat) (r : α), rs[i]? = some r → ∃ a, xs[i]? = some (.ref a) ∧ H a = some (.tup (f r))
theorem RowsAt.mono {α : Type} {f : α → List V} {H H' : Hp} {xs : List V} {rs : List α} (h : RowsAt f H xs rs) (e : ∀ b ys, H b = some (.tup ys) → H' b = some (.tup ys)) : RowsAt f H' xs rs :=
  ⟨h.len, fun i r hr => by obtain ⟨a, h1, h2⟩ := h.at_ i r hr; exact ⟨a, h1, e _ _ h2⟩⟩
theorem RowsAt.same {α : Type} {f : α → List V} {H H' : Hp} {xs : List V} {rs : List α} (h : RowsAt f H xs rs) (e : Same H H') : RowsAt f H' xs rs := h.mono fun b ys q => e b _ q
theorem RowsAt.item {α : Type} {f : α → List V} {H : Hp} {xs : List V} {rs : List α} (h : RowsAt f H xs rs) {i : Nat} {x : V} (hx : xs[i]? = some x) : ∃ r a, rs[i]? = some r ∧ x = .ref a ∧ H a = some (.tup (f r)) := by
  have hi : i < rs.length := by rw [← h.len]; exact (List.getElem?_eq_some_iff.mp hx).1
  obtain ⟨a, h1, h2⟩ := h.at_ i rs[i] (List.getElem?_eq_getElem hi)
  exact ⟨rs[i], a, List.getElem?_eq_getElem hi, Option.some.inj (hx.symm.trans h1), h2⟩
theorem RowsAt.nil {α : Type} {f : α → List V} {H : Hp} : RowsAt f H [] [] := ⟨rfl, fun i r h => by simp at h⟩
theorem RowsAt.snoc {α : Type} {f : α → List V} {H : Hp} {xs : List V} {rs : List α} {a : Addr} {r : α} (h : RowsAt f H xs rs) (ha : H a = some (.tup (f r))) : RowsAt f H (xs ++ [.ref a]) (rs ++ [r]) := by
  refine ⟨by rw [List.length_append, List.length_append, h.len]; rfl, fun i g' hg => ?_⟩
  by_cases hi : i < rs.length
  · rw [List.getElem?_append_left hi] at hg
    rw [List.getElem?_append_left (by rw [h.len]; exact hi)]
    exact h.at_ i g' hg
  · have hi' : i = rs.length := by
      have := (List.getElem?_eq_some_iff.mp hg).1
      rw [List.length_append] at this
      simp at this
      omega
    subst hi'
    rw [List.getElem?_append_right (Nat.le_refl _)] at hg
    simp at hg
    subst hg
    refine ⟨a, ?_, ha⟩
    rw [List.getElem?_append_right (by rw [h.len]; exact Nat.le_refl _), h.len]
    simp

/-! written forms, as lists of signs -/
def intL (i : Int) : List Nat := (if i < 0 then [45] else []) ++ numL i.natAbs
mutual
def wrL : NestedKey → List Nat
  | .none => []
  | .num i => intL i
  | .text s => numL s.length ++ 58 :: tl s
  | .tup ks => 40 :: (wrsL ks ++ [41])
def wrsL : List NestedKey → List Nat
  | [] => []
  | k :: ks => wrL k ++ wrTail ks
def wrTail : List NestedKey → List Nat
  | [] => []
  | k :: ks => 44 :: (wrL k ++ wrTail ks)
end
mutual
def isV : NestedKey → Bool
  | .none => false
  | .num _ => true
  | .text _ => true
  | .tup ks => isVs ks
def isVs : List NestedKey → Bool
  | [] => true
  | k :: ks => isV k && isVs ks
end
def isDg (c : Nat) : Prop := 48 ≤ c ∧ c ≤ 57
def dl (r : List Nat) : Prop := r = [] ∨ ∃ c t, r = c :: t ∧ (c = 44 ∨ c = 41)
def nd (r : List Nat) : Prop := r = [] ∨ ∃ c t, r = c :: t ∧ ¬ isDg c
theorem dl.nd {r : List Nat} (h : dl r) : nd r := by
  rcases h with e | ⟨c, t, e, h⟩
  · exact .inl e
  · exact .inr ⟨c, t, e, fun q => by unfold isDg at q; omega⟩
theorem span_inj {a b r s : List Nat} (ha : ∀ c ∈ a, isDg c) (hb : ∀ c ∈ b, isDg c) (hr : nd r) (hs : nd s) (h : a ++ r = b ++ s) : a = b ∧ r = s := by
  induction a generalizing b with
  | nil =>
    cases b with
    | nil => exact ⟨rfl, h⟩
    | cons y b =>
      rw [List.nil_append, List.cons_append] at h
      rcases hr with e | ⟨c, t, e, q⟩
      · rw [e] at h; cases h
      · rw [e] at h
        injection h with h1 _
        exact absurd (h1 ▸ hb y List.mem_cons_self) q
  | cons x a ih =>
    cases b with
    | nil =>
      rw [List.nil_append, List.cons_append] at h
      rcases hs with e | ⟨c, t, e, q⟩
      · rw [e] at h; cases h
      · rw [e] at h
        injection h with h1 _
        exact absurd (h1 ▸ ha x List.mem_cons_self) q
    | cons y b =>
      rw [List.cons_append, List.cons_append] at h
      injection h with h1 h2
      obtain ⟨e1, e2⟩ := ih (fun c hc => ha c (List.mem_cons_of_mem _ hc)) (fun c hc => hb c (List.mem_cons_of_mem _ hc)) h2
      exact ⟨by rw [h1, e1], e2⟩
theorem num_dg (n : Nat) : ∀ c ∈ numL n, isDg c := by
  intro c hc
  obtain ⟨ch, hch, e⟩ := List.mem_map.mp hc
  have r := PyProof.Rows.digit_range (Nat.isDigit_of_mem_toDigits (by decide) (by decide) hch)
  rw [← e]
  exact r
theorem num_inj {m n : Nat} (h : numL m = numL n) : m = n := by
  have a := PySem.W.KIN.val_back m
  have b := PySem.W.KIN.val_back n
  have h' : (Nat.toDigits 10 m).map Char.toNat = (Nat.toDigits 10 n).map Char.toNat := h
  rw [h', b] at a
  exact a.symm
theorem num_ne (n : Nat) : ∃ c t, numL n = c :: t ∧ isDg c := by
  cases h : numL n with
  | nil =>
    have h' : (Nat.toDigits 10 n).map Char.toNat = [] := h
    have z := PyProof.Rows.tDigits_len_ge 10 n
    rw [List.map_eq_nil_iff.mp h'] at z
    exact absurd z (by decide)
  | cons c t => exact ⟨c, t, rfl, num_dg n c (by rw [h]; exact List.mem_cons_self)⟩
/-- how a written value begins -/
theorem wr_head : ∀ (k : NestedKey), isV k = true → ∃ c t, wrL k = c :: t ∧ (isDg c ∨ c = 45 ∨ c = 40)
  | .none, h => by cases h
  | .num i, _ => by
    show ∃ c t, intL i = c :: t ∧ _
    unfold intL
    by_cases h : i < 0
    · rw [if_pos h]; exact ⟨45, _, rfl, .inr (.inl rfl)⟩
    · rw [if_neg h]
      obtain ⟨c, t, e, q⟩ := num_ne i.natAbs
      exact ⟨c, t, e, .inl q⟩
  | .text s, _ => by
    obtain ⟨c, t, e, q⟩ := num_ne s.length
    exact ⟨c, t ++ 58 :: tl s, by show numL s.length ++ 58 :: tl s = _; rw [e]; rfl, .inl q⟩
  | .tup ks, _ => ⟨40, _, rfl, .inr (.inr rfl)⟩
theorem tl_inj {s t : Str} (h : tl s = tl t) : s = t := by
  cases s; cases t
  congr 1
  exact Array.toList_inj.mp h
theorem int_inj {i j : Int} {r s : List Nat} (hr : nd r) (hs : nd s) (h : intL i ++ r = intL j ++ s) : i = j ∧ r = s := by
  unfold intL at h
  by_cases hi : i < 0 <;> by_cases hj : j < 0
  · rw [if_pos hi, if_pos hj] at h
    injection h with _ h
    obtain ⟨e1, e2⟩ := span_inj (num_dg _) (num_dg _) hr hs h
    exact ⟨by have := num_inj e1; omega, e2⟩
  · rw [if_pos hi, if_neg hj] at h
    obtain ⟨c, t, e, q⟩ := num_ne j.natAbs
    rw [List.nil_append, e] at h
    injection h with h1 _
    unfold isDg at q
    omega
  · rw [if_neg hi, if_pos hj] at h
    obtain ⟨c, t, e, q⟩ := num_ne i.natAbs
    rw [List.nil_append, e] at h
    injection h with h1 _
    unfold isDg at q
    omega
  · rw [if_neg hi, if_neg hj, List.nil_append, List.nil_append] at h
    obtain ⟨e1, e2⟩ := span_inj (num_dg _) (num_dg _) hr hs h
    exact ⟨by have := num_inj e1; omega, e2⟩
theorem nd58 (t : List Nat) : nd (58 :: t) := .inr ⟨58, t, rfl, fun q => by unfold isDg at q; omega⟩
theorem int_text {i : Int} {s : Str} {r t : List Nat} (hr : dl r) (h : intL i ++ r = (numL s.length ++ 58 :: tl s) ++ t) : False := by
  unfold intL at h
  by_cases hi : i < 0
  · rw [if_pos hi] at h
    obtain ⟨c, u, e, q⟩ := num_ne s.length
    rw [e] at h
    injection h with h1 _
    unfold isDg at q
    omega
  · rw [if_neg hi, List.nil_append, List.append_assoc] at h
    obtain ⟨_, e⟩ := span_inj (num_dg _) (num_dg _) hr.nd (nd58 _) h
    rcases hr with q | ⟨c, u, q, z⟩
    · rw [q] at e; cases e
    · rw [q] at e
      injection e with e1 _
      omega
theorem tail_dl (ks : List NestedKey) (r : List Nat) : dl (wrTail ks ++ 41 :: r) := by
  cases ks with
  | nil => exact .inr ⟨41, r, rfl, .inr rfl⟩
  | cons k ks => exact .inr ⟨44, _, rfl, .inl rfl⟩
mutual
theorem wr_inj : ∀ (k l : NestedKey) {r s : List Nat}, isV k = true → isV l = true → dl r → dl s → wrL k ++ r = wrL l ++ s → k = l ∧ r = s
  | .none, _, _, _, h, _, _, _, _ => by cases h
  | .num _, .none, _, _, _, h, _, _, _ => by cases h
  | .num i, .num j, r, s, _, _, hr, hs, h => by
    obtain ⟨e1, e2⟩ := int_inj hr.nd hs.nd h
    exact ⟨by rw [e1], e2⟩
  | .num i, .text t, r, s, _, _, hr, hs, h => (int_text hr h).elim
  | .num i, .tup ls, r, s, hk, _, hr, hs, h => by
    obtain ⟨c, t, e, q⟩ := wr_head (.num i) hk
    rw [e] at h
    injection h with h1 _
    exfalso
    have e2 : wrL (.num i) = intL i := rfl
    rw [e2] at e
    unfold intL at e
    by_cases hi : i < 0
    · rw [if_pos hi] at e; injection e with e _; omega
    · rw [if_neg hi] at e
      obtain ⟨c2, t2, e3, q2⟩ := num_ne i.natAbs
      rw [List.nil_append, e3] at e
      injection e with e _
      unfold isDg at q2
      omega
  | .text _, .none, _, _, _, h, _, _, _ => by cases h
  | .text t, .num j, r, s, _, _, hr, hs, h => (int_text hs h.symm).elim
  | .text t, .text u, r, s, _, _, hr, hs, h => by
    have h' : (numL t.length ++ 58 :: tl t) ++ r = (numL u.length ++ 58 :: tl u) ++ s := h
    rw [List.append_assoc, List.append_assoc] at h'
    obtain ⟨e1, e2⟩ := span_inj (num_dg _) (num_dg _) (nd58 _) (nd58 _) h'
    have el := num_inj e1
    injection e2 with _ e2
    have e3 : tl t ++ r = tl u ++ s := e2
    obtain ⟨e4, e5⟩ := List.append_inj e3 el
    exact ⟨by rw [tl_inj e4], e5⟩
  | .text t, .tup ls, r, s, _, _, hr, hs, h => by
    obtain ⟨c, u, e, q⟩ := num_ne t.length
    have h' : (numL t.length ++ 58 :: tl t) ++ r = (40 :: (wrsL ls ++ [41])) ++ s := h
    rw [e] at h'
    injection h' with h1 _
    unfold isDg at q
    omega
  | .tup _, .none, _, _, _, h, _, _, _ => by cases h
  | .tup ks, .num j, r, s, _, hl, hr, hs, h => by
    exfalso
    have h' : (40 :: (wrsL ks ++ [41])) ++ r = intL j ++ s := h
    unfold intL at h'
    by_cases hi : j < 0
    · rw [if_pos hi] at h'; injection h' with e _; omega
    · rw [if_neg hi] at h'
      obtain ⟨c2, t2, e3, q2⟩ := num_ne j.natAbs
      rw [List.nil_append, e3] at h'
      injection h' with e _
      unfold isDg at q2
      omega
  | .tup ks, .text u, r, s, _, _, hr, hs, h => by
    obtain ⟨c, v, e, q⟩ := num_ne u.length
    have h' : (40 :: (wrsL ks ++ [41])) ++ r = (numL u.length ++ 58 :: tl u) ++ s := h
    rw [e] at h'
    injection h' with h1 _
    unfold isDg at q
    omega
  | .tup [], .tup [], r, s, _, _, _, _, h => by
    injection h with _ h
    injection h with _ h
    exact ⟨rfl, h⟩
  | .tup [], .tup (l :: ls), r, s, _, hl, _, _, h => by
    exfalso
    have hl' : (isV l && isVs ls) = true := hl
    rw [Bool.and_eq_true] at hl'
    obtain ⟨c, t, e, q⟩ := wr_head l hl'.1
    have h' : 40 :: (41 :: r) = 40 :: ((wrL l ++ wrTail ls ++ [41]) ++ s) := h
    rw [e] at h'
    injection h' with _ h'
    injection h' with h1 _
    unfold isDg at q
    omega
  | .tup (k :: ks), .tup [], r, s, hk, _, _, _, h => by
    exfalso
    have hk' : (isV k && isVs ks) = true := hk
    rw [Bool.and_eq_true] at hk'
    obtain ⟨c, t, e, q⟩ := wr_head k hk'.1
    have h' : 40 :: ((wrL k ++ wrTail ks ++ [41]) ++ r) = 40 :: (41 :: s) := h
    rw [e] at h'
    injection h' with _ h'
    injection h' with h1 _
    unfold isDg at q
    omega
  | .tup (k :: ks), .tup (l :: ls), r, s, hk, hl, _, _, h => by
    have hk' : (isV k && isVs ks) = true := hk
    have hl' : (isV l && isVs ls) = true := hl
    rw [Bool.and_eq_true] at hk' hl'
    have h' : 40 :: ((wrL k ++ wrTail ks ++ [41]) ++ r) = 40 :: ((wrL l ++ wrTail ls ++ [41]) ++ s) := h
    injection h' with _ h'
    rw [List.append_assoc, List.append_assoc, List.append_assoc, List.append_assoc] at h'
    obtain ⟨e1, e2⟩ := wr_inj k l hk'.1 hl'.1 (tail_dl ks r) (tail_dl ls s) h'
    obtain ⟨e3, e4⟩ := wrT_inj ks ls hk'.2 hl'.2 e2
    exact ⟨by rw [e1, e3], e4⟩
theorem wrT_inj : ∀ (ks ls : List NestedKey) {r s : List Nat}, isVs ks = true → isVs ls = true → wrTail ks ++ 41 :: r = wrTail ls ++ 41 :: s → ks = ls ∧ r = s
  | [], [], r, s, _, _, h => by
    injection h with _ h
    exact ⟨rfl, h⟩
  | [], l :: ls, r, s, _, _, h => by
    injection h with h _
    omega
  | k :: ks, [], r, s, _, _, h => by
    injection h with h _
    omega
  | k :: ks, l :: ls, r, s, hk, hl, h => by
    have hk' : (isV k && isVs ks) = true := hk
    have hl' : (isV l && isVs ls) = true := hl
    rw [Bool.and_eq_true] at hk' hl'
    have h' : 44 :: ((wrL k ++ wrTail ks) ++ 41 :: r) = 44 :: ((wrL l ++ wrTail ls) ++ 41 :: s) := h
    injection h' with _ h'
    rw [List.append_assoc, List.append_assoc] at h'
    obtain ⟨e1, e2⟩ := wr_inj k l hk'.1 hl'.1 (tail_dl ks r) (tail_dl ls s) h'
    obtain ⟨e3, e4⟩ := wrT_inj ks ls hk'.2 hl'.2 e2
    exact ⟨by rw [e1, e3], e4⟩
end
theorem wr_inj' {k l : NestedKey} (hk : isV k = true) (hl : isV l = true) (h : wrL k = wrL l) : k = l :=
  (wr_inj k l hk hl (.inl rfl) (.inl rfl) (by rw [h] : wrL k ++ [] = wrL l ++ [])).1

local macro_rules | `(tactic| walk_at "my_rd") => `(tactic| (repeat first
  | with_reducible refine q_tCons ?_
  | ((with_reducible apply q_var); (focus (exact rfl)))
  | with_reducible refine q_c ?_
  | with_reducible refine q_nx ?_
  | with_reducible refine q_bK ?_
  | with_reducible refine q_call ?_
  | with_reducible refine q_callK ?_
  | with_reducible refine q_tNil ?_
  | with_reducible refine q_cb ?_
  | with_reducible refine q_seq ?_
  | with_reducible refine q_asg ?_
  | with_reducible refine q_gName ?_
  | with_reducible refine q_op ?_
  | with_reducible refine q_test ?_
  | with_reducible refine q_tB ?_
  | with_reducible refine q_ifS ?_
  | with_reducible refine q_ret ?_
  | with_reducible refine q_rt ?_
  | with_reducible refine q_next ?_
  | with_reducible refine q_ifF ?_
  | with_reducible refine q_ifT ?_
  | with_reducible refine q_drop ?_
  | with_reducible refine q_and ?_
  | with_reducible refine q_or ?_
  | with_reducible refine q_andT ?_
  | with_reducible refine q_andF ?_
  | with_reducible refine q_orF ?_
  | with_reducible refine q_orT ?_
  | with_reducible refine q_andV ?_
  | with_reducible refine q_andVT ?_
  | with_reducible refine q_andVF ?_
  | with_reducible refine q_orV ?_
  | with_reducible refine q_gCons ?_
  | with_reducible refine q_gNil ?_
  | with_reducible refine q_tup ?_
  | with_reducible refine q_lst ?_
  | with_reducible refine q_not ?_
  | with_reducible refine q_notKT ?_
  | with_reducible refine q_notKF ?_
  | with_reducible refine q_I0 ?_
  | with_reducible refine q_eqI ?_
  | with_reducible refine q_neI ?_
  | ((with_reducible refine q_I ?_ ?_); first | decide | omega | exact ⟨by omega, by omega⟩ | exact ⟨by decide, by decide⟩ | exact .inl ⟨by omega, by omega⟩ | exact .inr ⟨by omega, by omega⟩ | exact .inr ⟨by decide, by decide⟩)
  | with_reducible refine q_eqS ?_
  | with_reducible refine q_neS ?_
  | with_reducible refine q_brk ?_
  | with_reducible refine q_ct ?_
  | with_reducible refine q_bk ?_
  | with_reducible refine q_cn ?_
  | with_reducible refine q_retN ?_
  | with_reducible refine q_gSub ?_
  | with_reducible refine q_for ?_
  | with_reducible refine q_iList ?_
  | with_reducible refine q_iTup ?_
  | with_reducible refine q_iRng1 ?_
  | with_reducible refine q_notK ?_
  | with_reducible refine q_orVT ?_
  | with_reducible refine q_orVF ?_
  | with_reducible refine q_notV ?_
  | with_reducible refine q_notVK ?_
  | with_reducible refine q_ifE ?_
  | with_reducible refine q_ifET ?_
  | with_reducible refine q_ifEF ?_
  | with_reducible refine q_yes ?_
  | with_reducible refine q_un ?_
  | with_reducible refine q_rU ?_
  | with_reducible refine q_abs ?_
  | with_reducible refine q_int1 ?_
  | with_reducible refine q_bm ?_
  | with_reducible refine q_bm0 ?_
  | with_reducible refine q_lc ?_
  | with_reducible refine q_keepT ?_
  | with_reducible refine q_keepF ?_
  | ((with_reducible apply q_aug); (focus (exact rfl)))
  | with_reducible refine q_ipI ?_
  | with_reducible refine q_chain ?_
  | with_reducible refine q_pairC ?_
  | with_reducible refine q_pairsK ?_
  | with_reducible refine q_pairN ?_
  | with_reducible refine q_fld ?_
  | with_reducible refine q_sFld ?_
  | with_reducible refine q_meth ?_
  | with_reducible refine q_makeK ?_
  | with_reducible refine q_isBl ?_
  | with_reducible refine q_notBl ?_
  | with_reducible refine q_sl ?_
  | with_reducible refine q_noPart ?_
  | with_reducible refine q_part ?_
  | with_reducible refine q_partK ?_
  | ((with_reducible apply q_mulStr); (focus (decide +kernel)))
  | with_reducible refine q_chT ?_
  | with_reducible refine q_chF ?_
  | with_reducible refine q_ord ?_
  | with_reducible refine q_iStr0 ?_
  | with_reducible refine q_iStr ?_
  | with_reducible refine q_tDIn ?_
  | with_reducible refine q_tDNotIn ?_
  | with_reducible refine q_tDGet ?_
  | with_reducible refine q_tDGet2 ?_
  | with_reducible refine q_tDGet1 ?_
  | with_reducible refine q_tDSetd ?_
  | ((with_reducible apply q_dG2a); (focus ((repeat first | (with_reducible exact upd_same) | (with_reducible assumption) | (with_reducible apply upd_new (by assumption)) | (with_reducible apply upd_other (by first | assumption | exact Ne.symm (by assumption))) | (with_reducible refine' Kp.get (by assumption) ?_ (by first | assumption | exact Ne.symm (by assumption))) | (with_reducible apply Same.get (by assumption))); done)))
  | ((with_reducible apply q_dSda); (focus ((repeat first | (with_reducible exact upd_same) | (with_reducible assumption) | (with_reducible apply upd_new (by assumption)) | (with_reducible apply upd_other (by first | assumption | exact Ne.symm (by assumption))) | (with_reducible refine' Kp.get (by assumption) ?_ (by first | assumption | exact Ne.symm (by assumption))) | (with_reducible apply Same.get (by assumption))); done)))
  | with_reducible refine q_sDPut ?_
  | ((with_reducible apply q_dInS); (focus ((repeat first | (with_reducible exact upd_same) | (with_reducible assumption) | (with_reducible apply upd_new (by assumption)) | (with_reducible apply upd_other (by first | assumption | exact Ne.symm (by assumption))) | (with_reducible refine' Kp.get (by assumption) ?_ (by first | assumption | exact Ne.symm (by assumption))) | (with_reducible apply Same.get (by assumption))); done)))
  | ((with_reducible apply q_dNInS); (focus ((repeat first | (with_reducible exact upd_same) | (with_reducible assumption) | (with_reducible apply upd_new (by assumption)) | (with_reducible apply upd_other (by first | assumption | exact Ne.symm (by assumption))) | (with_reducible refine' Kp.get (by assumption) ?_ (by first | assumption | exact Ne.symm (by assumption))) | (with_reducible apply Same.get (by assumption))); done)))
  | ((with_reducible apply q_dInI); (focus ((repeat first | (with_reducible exact upd_same) | (with_reducible assumption) | (with_reducible apply upd_new (by assumption)) | (with_reducible apply upd_other (by first | assumption | exact Ne.symm (by assumption))) | (with_reducible refine' Kp.get (by assumption) ?_ (by first | assumption | exact Ne.symm (by assumption))) | (with_reducible apply Same.get (by assumption))); done)))
  | ((with_reducible apply q_dNInI); (focus ((repeat first | (with_reducible exact upd_same) | (with_reducible assumption) | (with_reducible apply upd_new (by assumption)) | (with_reducible apply upd_other (by first | assumption | exact Ne.symm (by assumption))) | (with_reducible refine' Kp.get (by assumption) ?_ (by first | assumption | exact Ne.symm (by assumption))) | (with_reducible apply Same.get (by assumption))); done)))
  | ((with_reducible apply q_bmL); (focus ((repeat first | (with_reducible exact upd_same) | (with_reducible assumption) | (with_reducible apply upd_new (by assumption)) | (with_reducible apply upd_other (by first | assumption | exact Ne.symm (by assumption))) | (with_reducible refine' Kp.get (by assumption) ?_ (by first | assumption | exact Ne.symm (by assumption))) | (with_reducible apply Same.get (by assumption))); done)))
  | ((with_reducible apply q_bmL0); (focus ((repeat first | (with_reducible exact upd_same) | (with_reducible assumption) | (with_reducible apply upd_new (by assumption)) | (with_reducible apply upd_other (by first | assumption | exact Ne.symm (by assumption))) | (with_reducible refine' Kp.get (by assumption) ?_ (by first | assumption | exact Ne.symm (by assumption))) | (with_reducible apply Same.get (by assumption))); done)))
  | ((with_reducible apply q_ixLt); (focus ((repeat first | (with_reducible exact upd_same) | (with_reducible assumption) | (with_reducible apply upd_new (by assumption)) | (with_reducible apply upd_other (by first | assumption | exact Ne.symm (by assumption))) | (with_reducible refine' Kp.get (by assumption) ?_ (by first | assumption | exact Ne.symm (by assumption))) | (with_reducible apply Same.get (by assumption))); done)); (focus (exact rfl)))
  | ((with_reducible apply q_ixTt); (focus ((repeat first | (with_reducible exact upd_same) | (with_reducible assumption) | (with_reducible apply upd_new (by assumption)) | (with_reducible apply upd_other (by first | assumption | exact Ne.symm (by assumption))) | (with_reducible refine' Kp.get (by assumption) ?_ (by first | assumption | exact Ne.symm (by assumption))) | (with_reducible apply Same.get (by assumption))); done)); (focus (exact rfl)))
  | ((with_reducible apply q_lenLt); (focus ((repeat first | (with_reducible exact upd_same) | (with_reducible assumption) | (with_reducible apply upd_new (by assumption)) | (with_reducible apply upd_other (by first | assumption | exact Ne.symm (by assumption))) | (with_reducible refine' Kp.get (by assumption) ?_ (by first | assumption | exact Ne.symm (by assumption))) | (with_reducible apply Same.get (by assumption))); done)))
  | ((with_reducible apply q_lenTt); (focus ((repeat first | (with_reducible exact upd_same) | (with_reducible assumption) | (with_reducible apply upd_new (by assumption)) | (with_reducible apply upd_other (by first | assumption | exact Ne.symm (by assumption))) | (with_reducible refine' Kp.get (by assumption) ?_ (by first | assumption | exact Ne.symm (by assumption))) | (with_reducible apply Same.get (by assumption))); done)))
  | ((with_reducible apply q_append); (focus ((repeat first | (with_reducible exact upd_same) | (with_reducible assumption) | (with_reducible apply upd_new (by assumption)) | (with_reducible apply upd_other (by first | assumption | exact Ne.symm (by assumption))) | (with_reducible refine' Kp.get (by assumption) ?_ (by first | assumption | exact Ne.symm (by assumption))) | (with_reducible apply Same.get (by assumption))); done)); (focus ((first | (exact Nat.lt_of_ble_eq_true rfl) | (simp only [List.length_append, List.length_cons, List.length_nil, List.length_map]; exact small1000 (by omega))))))
  | ((with_reducible apply q_setL); (focus ((repeat first | (with_reducible exact upd_same) | (with_reducible assumption) | (with_reducible apply upd_new (by assumption)) | (with_reducible apply upd_other (by first | assumption | exact Ne.symm (by assumption))) | (with_reducible refine' Kp.get (by assumption) ?_ (by first | assumption | exact Ne.symm (by assumption))) | (with_reducible apply Same.get (by assumption))); done)); (focus (exact rfl)))
  | with_reducible refine q_ifNT ?_
  | with_reducible refine q_ifNF ?_
  | with_reducible refine q_andNT ?_
  | with_reducible refine q_andNF ?_
  | with_reducible refine q_orNT ?_
  | with_reducible refine q_orNF ?_
  | with_reducible refine q_bKNT ?_
  | with_reducible refine q_bKNF ?_
  | with_reducible refine q_tNGet ?_
  | with_reducible refine q_tNIn ?_
  | with_reducible refine q_sNPut ?_
  | with_reducible refine q_sFldAug ?_
  | with_reducible refine q_sDAug ?_
  | with_reducible refine q_sDDel ?_
  | with_reducible refine q_forX ?_
  | with_reducible refine q_tMake ?_
  | ((with_reducible apply q_dG1a); (focus ((repeat first | (with_reducible exact upd_same) | (with_reducible assumption) | (with_reducible apply upd_new (by assumption)) | (with_reducible apply upd_other (by first | assumption | exact Ne.symm (by assumption))) | (with_reducible refine' Kp.get (by assumption) ?_ (by first | assumption | exact Ne.symm (by assumption))) | (with_reducible apply Same.get (by assumption))); done)))))
open TL
/-! written forms: the defs -/
open RT in
theorem walk_revT {K : PySem.W.Frag} {a : Addr} {xs : List V} : Walk (ItvT K a xs.length) xs.length (fun H => SqT K H a xs) (fun i H x H' => H' = H ∧ xs[xs.length - 1 - i]? = some x) :=
  ⟨fun i _ hi q => ⟨hi, xs, xs[xs.length - 1 - i]'(by omega), q, List.getElem?_eq_getElem _⟩, fun _ _ => Nat.le_refl _, fun _ _ _ _ _ q y => ⟨y.1, y.2 _ q⟩⟩
def strL (l : List Nat) : Str := ⟨l.toArray⟩
theorem tl_strL (l : List Nat) : tl (strL l) = l := rfl
theorem strL_tl (s : Str) : strL (tl s) = s := tl_inj (tl_strL _)
theorem tl_len (s : Str) : s.length = (tl s).length := rfl
/-! no number of more than 64 digits -/
mutual
def smallV : NestedKey → Prop
  | .none => True
  | .num i => i.natAbs < 10 ^ 64
  | .text _ => True
  | .tup ks => smallVs ks
def smallVs : List NestedKey → Prop
  | [] => True
  | k :: ks => smallV k ∧ smallVs ks
end
mutual
def siz : NestedKey → Nat
  | .none => 1
  | .num _ => 1
  | .text _ => 1
  | .tup ks => 2 + sizs ks
def sizs : List NestedKey → Nat
  | [] => 0
  | k :: ks => siz k + 1 + sizs ks
end
/-- the parts of a tuple, the next one first -/
def prT : List V → List (V × Bool)
  | [] => []
  | v :: vs => (.str ",", true) :: (v, false) :: prT vs
def pr : List V → List (V × Bool)
  | [] => []
  | v :: vs => (v, false) :: prT vs
theorem prT_eq (vs : List V) : prT vs = if vs = [] then [] else (.str ",", true) :: pr vs := by
  cases vs with
  | nil => rfl
  | cons v vs => rw [if_neg (by intro z; cases z)]; rfl
theorem prT_len (vs : List V) : (prT vs).length = 2 * vs.length := by
  induction vs with
  | nil => rfl
  | cons v vs ih => show (prT vs).length + 1 + 1 = 2 * (vs.length + 1); omega
theorem pr_len (vs : List V) : (pr vs).length ≤ 2 * vs.length := by
  cases vs with
  | nil => exact Nat.le_refl _
  | cons v vs => show (prT vs).length + 1 ≤ 2 * (vs.length + 1); rw [prT_len]; omega
def pB (q : V × Bool) : List V := [q.1, .bl q.2]
/-- what a stack of parts gives, the next one first -/
inductive OutN (H : Hp) : Nat → List (V × Bool) → List Nat → Prop
  | nil : OutN H 0 [] []
  | sign {m : Nat} {M : List (V × Bool)} {o : List Nat} {s : Str} : OutN H m M o → OutN H (m + 1) ((.str s, true) :: M) (tl s ++ o)
  | val {m : Nat} {M : List (V × Bool)} {o : List Nat} {k : NestedKey} {v : V} : OutN H m M o → NV H k v → isV k = true → smallV k → OutN H (m + siz k) ((v, false) :: M) (wrL k ++ o)
theorem OutN.mono {H H' : Hp} {m : Nat} {M : List (V × Bool)} {o : List Nat} (h : OutN H m M o) (e : ∀ b ys, H b = some (.tup ys) → H' b = some (.tup ys)) : OutN H' m M o := by
  induction h with
  | nil => exact .nil
  | sign _ ih => exact .sign ih
  | val _ hn hv hs ih => exact .val ih (NV.mono e hn) hv hs
theorem outT {H : Hp} : ∀ {ks : List NestedKey} {vs : List V} {m : Nat} {M : List (V × Bool)} {o : List Nat}, NVs H ks vs → isVs ks = true → smallVs ks → OutN H m M o → OutN H (m + sizs ks) (prT vs ++ M) (wrTail ks ++ o)
  | _, _, _, _, _, .nil, _, _, h => h
  | _, _, m, M, o, .cons (k := k) (ks := ks) a b, hv, hs, h => by
    have hv' : (isV k && isVs ks) = true := hv
    rw [Bool.and_eq_true] at hv'
    have h2 := OutN.sign (s := ",") (OutN.val (outT b hv'.2 hs.2 h) a hv'.1 hs.1)
    have e : m + sizs (k :: ks) = m + sizs ks + siz k + 1 := by show m + (siz k + 1 + sizs ks) = _; omega
    rw [e]
    have e2 : wrTail (k :: ks) ++ o = tl (Str.ofString ",") ++ (wrL k ++ (wrTail ks ++ o)) := by
      show 44 :: (wrL k ++ wrTail ks) ++ o = [44] ++ (wrL k ++ (wrTail ks ++ o))
      rw [List.cons_append, List.append_assoc]
      rfl
    rw [e2]
    exact h2
theorem outP {H : Hp} {ks : List NestedKey} {vs : List V} {m : Nat} {M : List (V × Bool)} {o : List Nat} (hn : NVs H ks vs) (hv : isVs ks = true) (hs : smallVs ks) (h : OutN H m M o) : ∃ m', m' ≤ m + sizs ks ∧ OutN H m' (pr vs ++ M) (wrsL ks ++ o) := by
  cases hn with
  | nil => exact ⟨m, Nat.le_refl _, h⟩
  | @cons k v ks vs a b =>
    have hv' : (isV k && isVs ks) = true := hv
    rw [Bool.and_eq_true] at hv'
    refine ⟨m + sizs ks + siz k, by show _ ≤ m + (siz k + 1 + sizs ks); omega, ?_⟩
    have e : wrsL (k :: ks) ++ o = wrL k ++ (wrTail ks ++ o) := by show (wrL k ++ wrTail ks) ++ o = _; rw [List.append_assoc]
    rw [e]
    exact OutN.val (outT b hv'.2 hs.2 h) a hv'.1 hs.1
theorem OutN.len {H : Hp} {m : Nat} {M : List (V × Bool)} {o : List Nat} (h : OutN H m M o) : M.length ≤ m := by
  induction h with
  | nil => exact Nat.le_refl _
  | sign _ ih => exact Nat.succ_le_succ ih
  | @val m M o k v _ _ _ _ ih =>
    have : 1 ≤ siz k := by
      cases k <;> first | exact Nat.le_refl _ | (show 1 ≤ 2 + _; omega)
    show M.length + 1 ≤ m + siz k
    omega
def sp_dig : Sp := fun vs H Q _ => ∃ n : Nat, vs = [.int n] ∧ n < 10 ^ 64 ∧ Q (.str (strL (numL n))) H
def sp_wint : Sp := fun vs H Q _ => ∃ i : Int, vs = [.int i] ∧ i.natAbs < 10 ^ 64 ∧ Q (.str (strL (intL i))) H
def sp_parted : Sp := fun vs H Q _ => ∃ (b : Addr) (xs : List V), vs = [.ref b] ∧ H b = some (.tup xs) ∧ xs.length ≤ 1000000 ∧ ∀ (p : Addr) (H' : Hp) (ys : List V), H p = none → Same H H' → H' p = some (.lst ys) → RowsAt pB H' ys (pr xs).reverse → Q (.ref p) H'
def sp_write (K : PySem.W.Frag) : Sp := fun vs H Q _ => ∃ (v : V) (k : NestedKey), vs = [v] ∧ NV H k v ∧ isV k = true ∧ smallV k ∧ (wrL k).length ≤ 1000000 ∧ siz k ≤ 1000000 ∧ ∀ H', Same H H' → Q (.str (strL (wrL k))) H'
theorem log_lt {n : Nat} (h : n < 10 ^ 64) : n.log2 < 1920 := by
  by_cases h0 : n = 0
  · rw [h0]; decide
  · rw [Nat.log2_lt h0]
    exact Nat.lt_of_lt_of_le h (by decide +kernel)
section
variable {P : Program} {w : World} {K : PySem.W.Frag} {mg : Str → Option Value} {base : Heap}
theorem ok_digits_of (T : Txt K mg) : FnOk P w K mg base CX0 1 T.f_digits_of T.d_digits_of ["number"] sp_dig := by
  refine T.F_digits_of.ok sc_digits_of (fun vs H Q E h => ?_) (fun cdv A outer s H vs Q E hr h => ?_)
  · obtain ⟨n, rfl, _⟩ := h; rfl
  · obtain ⟨n, rfl, hn, k⟩ := h
    refine ⟨_, (pss_cons (ps_if (pt_cmpR op_lt (pv 0) (pe_glob (v := .int 10000000000000000000000000000000000000000000000000000000000000000) (by rfl) T.c_PIECE ⟨_, rfl⟩) (nomark _)) (pss_one (ps_ret (pe_callTy cq_strInt (by rfl) T.z_str boot_str (pa_cons (pv 0) pa_nil)))) pss_nil)
      (pss_cons ps_never
      (pss_cons ps_never
      (pss_cons ps_never
      (pss_cons ps_never
      (pss_cons ps_never
      (pss_cons ps_never
      (pss_one ps_never)))))))), ?_⟩
    (dsimp only [cxOf, Cx.nox, Cx.wish, L2.start, List.map, List.length, List.replicate, List.cons_append, List.nil_append, List.append_eq, Nat.reduceSub, Nat.reduceAdd])
    have hP : (n : Int) < 10000000000000000000000000000000000000000000000000000000000000000 := by
      have e : (10 : Nat) ^ 64 = 10000000000000000000000000000000000000000000000000000000000000000 := by decide +kernel
      rw [e] at hn
      omega
    generalize (10000000000000000000000000000000000000000000000000000000000000000 : Int) = PP at hP ⊢
    walk_at "my_rd"
    rw [decide_eq_true hP]
    walk_at "my_rd"
    refine q_strInt (by show n.log2 < 1920; exact log_lt hn) ?_
    walk_at "my_rd"
    have e2 : Str.ofString (toString (n : Int)) = strL (numL n) := tl_inj (tl_num n)
    rw [e2]
    exact k
theorem ok_written_integer (T : Txt K mg) : FnOk P w K mg base CX0 2 T.f_written_integer T.d_written_integer ["number"] sp_wint := by
  refine T.F_written_integer.ok sc_written_integer (fun vs H Q E h => ?_) (fun cdv A outer s H vs Q E hr h => ?_)
  · obtain ⟨n, rfl, _⟩ := h; rfl
  · obtain ⟨i, rfl, hn, k⟩ := h
    refine ⟨_, (pss_cons (ps_set (i := 1) sc_written_integer.nd rfl (Or.inl rfl) (pe_ifExp (pt_cmpR op_lt (pv 0) pe_int (nomark _)) pe_str pe_str))
      (pss_one (ps_ret (pe_op oq_addStr (pv 1) (pe_call (ok_digits_of T) (hr.mono (by decide)) (by rfl) T.g_digits_of T.F_digits_of.kp T.b_digits_of .nil pass0 (pa_cons (pe_callB cq_abs (by rfl) T.z_abs boot_abs (pa_cons (pv 0) pa_nil)) pa_nil)))))), ?_⟩
    (dsimp only [cxOf, Cx.nox, Cx.wish, L2.start, List.map, List.length, List.replicate, List.cons_append, List.nil_append, List.append_eq, Nat.reduceSub, Nat.reduceAdd])
    walk_at "my_rd"
    have hl : (strL (numL i.natAbs)).length ≤ 65 := by
      show (numL i.natAbs).length ≤ 65
      unfold numL
      rw [List.length_map]
      exact Nat.le_trans (PyProof.Rows.digits10_le (k := 64) (by decide) hn) (by decide)
    have hs : sizeLine = 16777216 := sizeLine_eq
    refine q_ifE2 (fun h => ?_) (fun h => ?_)
    · have h := dec_t h
      walk_at "my_rd"
      rw [if_pos h]
      refine ⟨i.natAbs, by rw [show -i = (i.natAbs : Int) by omega], hn, ?_⟩
      refine q_addStr (by show 1 + _ ≤ _; omega) ?_
      walk_at "my_rd"
      have e : Str.ofString "-" ++ strL (numL i.natAbs) = strL (intL i) := tl_inj (by rw [tl_append]; unfold intL; rw [if_pos h]; rfl)
      rw [e]
      exact k
    · have h := dec_f h
      walk_at "my_rd"
      rw [if_neg h]
      refine ⟨i.natAbs, by rw [show i = (i.natAbs : Int) by omega]; rfl, hn, ?_⟩
      refine q_addStr (by show 0 + _ ≤ _; omega) ?_
      walk_at "my_rd"
      have e : Str.ofString "" ++ strL (numL i.natAbs) = strL (intL i) := tl_inj (by rw [tl_append]; unfold intL; rw [if_neg h]; rfl)
      rw [e]
      exact k
end

local macro_rules | `(tactic| walk_at "my_rd") => `(tactic| (repeat first
  | with_reducible refine q_tCons ?_
  | ((with_reducible apply q_var); (focus (exact rfl)))
  | with_reducible refine q_c ?_
  | with_reducible refine q_nx ?_
  | with_reducible refine q_bK ?_
  | with_reducible refine q_call ?_
  | with_reducible refine q_callK ?_
  | with_reducible refine q_tNil ?_
  | with_reducible refine q_cb ?_
  | with_reducible refine q_seq ?_
  | with_reducible refine q_asg ?_
  | with_reducible refine q_gName ?_
  | with_reducible refine q_op ?_
  | with_reducible refine q_test ?_
  | with_reducible refine q_tB ?_
  | with_reducible refine q_ifS ?_
  | with_reducible refine q_ret ?_
  | with_reducible refine q_rt ?_
  | with_reducible refine q_next ?_
  | with_reducible refine q_ifF ?_
  | with_reducible refine q_ifT ?_
  | with_reducible refine q_drop ?_
  | with_reducible refine q_and ?_
  | with_reducible refine q_or ?_
  | with_reducible refine q_andT ?_
  | with_reducible refine q_andF ?_
  | with_reducible refine q_orF ?_
  | with_reducible refine q_orT ?_
  | with_reducible refine q_andV ?_
  | with_reducible refine q_andVT ?_
  | with_reducible refine q_andVF ?_
  | with_reducible refine q_orV ?_
  | with_reducible refine q_gCons ?_
  | with_reducible refine q_gNil ?_
  | with_reducible refine q_tup ?_
  | with_reducible refine q_lst ?_
  | with_reducible refine q_not ?_
  | with_reducible refine q_notKT ?_
  | with_reducible refine q_notKF ?_
  | with_reducible refine q_I0 ?_
  | with_reducible refine q_eqI ?_
  | with_reducible refine q_neI ?_
  | ((with_reducible refine q_I ?_ ?_); first | decide | omega | exact ⟨by omega, by omega⟩ | exact ⟨by decide, by decide⟩ | exact .inl ⟨by omega, by omega⟩ | exact .inr ⟨by omega, by omega⟩ | exact .inr ⟨by decide, by decide⟩)
  | with_reducible refine q_eqS ?_
  | with_reducible refine q_neS ?_
  | with_reducible refine q_brk ?_
  | with_reducible refine q_ct ?_
  | with_reducible refine q_bk ?_
  | with_reducible refine q_cn ?_
  | with_reducible refine q_retN ?_
  | with_reducible refine q_gSub ?_
  | with_reducible refine q_for ?_
  | with_reducible refine q_iList ?_
  | with_reducible refine q_iTup ?_
  | with_reducible refine q_iRng1 ?_
  | with_reducible refine q_notK ?_
  | with_reducible refine q_orVT ?_
  | with_reducible refine q_orVF ?_
  | with_reducible refine q_notV ?_
  | with_reducible refine q_notVK ?_
  | with_reducible refine q_ifE ?_
  | with_reducible refine q_ifET ?_
  | with_reducible refine q_ifEF ?_
  | with_reducible refine q_yes ?_
  | with_reducible refine q_un ?_
  | with_reducible refine q_rU ?_
  | with_reducible refine q_abs ?_
  | with_reducible refine q_int1 ?_
  | with_reducible refine q_bm ?_
  | with_reducible refine q_bm0 ?_
  | with_reducible refine q_lc ?_
  | with_reducible refine q_keepT ?_
  | with_reducible refine q_keepF ?_
  | ((with_reducible apply q_aug); (focus (exact rfl)))
  | with_reducible refine q_ipI ?_
  | with_reducible refine q_chain ?_
  | with_reducible refine q_pairC ?_
  | with_reducible refine q_pairsK ?_
  | with_reducible refine q_pairN ?_
  | with_reducible refine q_fld ?_
  | with_reducible refine q_sFld ?_
  | with_reducible refine q_meth ?_
  | with_reducible refine q_makeK ?_
  | with_reducible refine q_isBl ?_
  | with_reducible refine q_notBl ?_
  | with_reducible refine q_sl ?_
  | with_reducible refine q_noPart ?_
  | with_reducible refine q_part ?_
  | with_reducible refine q_partK ?_
  | ((with_reducible apply q_mulStr); (focus (decide +kernel)))
  | with_reducible refine q_chT ?_
  | with_reducible refine q_chF ?_
  | with_reducible refine q_ord ?_
  | with_reducible refine q_iStr0 ?_
  | with_reducible refine q_iStr ?_
  | with_reducible refine q_tDIn ?_
  | with_reducible refine q_tDNotIn ?_
  | with_reducible refine q_tDGet ?_
  | with_reducible refine q_tDGet2 ?_
  | with_reducible refine q_tDGet1 ?_
  | with_reducible refine q_tDSetd ?_
  | ((with_reducible apply q_dG2a); (focus ((repeat first | (with_reducible exact upd_same) | (with_reducible assumption) | (with_reducible apply upd_new (by assumption)) | (with_reducible apply upd_other (by first | assumption | exact Ne.symm (by assumption))) | (with_reducible refine' Kp.get (by assumption) ?_ (by first | assumption | exact Ne.symm (by assumption))) | (with_reducible apply Same.get (by assumption))); done)))
  | ((with_reducible apply q_dSda); (focus ((repeat first | (with_reducible exact upd_same) | (with_reducible assumption) | (with_reducible apply upd_new (by assumption)) | (with_reducible apply upd_other (by first | assumption | exact Ne.symm (by assumption))) | (with_reducible refine' Kp.get (by assumption) ?_ (by first | assumption | exact Ne.symm (by assumption))) | (with_reducible apply Same.get (by assumption))); done)))
  | with_reducible refine q_sDPut ?_
  | ((with_reducible apply q_dInS); (focus ((repeat first | (with_reducible exact upd_same) | (with_reducible assumption) | (with_reducible apply upd_new (by assumption)) | (with_reducible apply upd_other (by first | assumption | exact Ne.symm (by assumption))) | (with_reducible refine' Kp.get (by assumption) ?_ (by first | assumption | exact Ne.symm (by assumption))) | (with_reducible apply Same.get (by assumption))); done)))
  | ((with_reducible apply q_dNInS); (focus ((repeat first | (with_reducible exact upd_same) | (with_reducible assumption) | (with_reducible apply upd_new (by assumption)) | (with_reducible apply upd_other (by first | assumption | exact Ne.symm (by assumption))) | (with_reducible refine' Kp.get (by assumption) ?_ (by first | assumption | exact Ne.symm (by assumption))) | (with_reducible apply Same.get (by assumption))); done)))
  | ((with_reducible apply q_dInI); (focus ((repeat first | (with_reducible exact upd_same) | (with_reducible assumption) | (with_reducible apply upd_new (by assumption)) | (with_reducible apply upd_other (by first | assumption | exact Ne.symm (by assumption))) | (with_reducible refine' Kp.get (by assumption) ?_ (by first | assumption | exact Ne.symm (by assumption))) | (with_reducible apply Same.get (by assumption))); done)))
  | ((with_reducible apply q_dNInI); (focus ((repeat first | (with_reducible exact upd_same) | (with_reducible assumption) | (with_reducible apply upd_new (by assumption)) | (with_reducible apply upd_other (by first | assumption | exact Ne.symm (by assumption))) | (with_reducible refine' Kp.get (by assumption) ?_ (by first | assumption | exact Ne.symm (by assumption))) | (with_reducible apply Same.get (by assumption))); done)))
  | ((with_reducible apply q_bmL); (focus ((repeat first | (with_reducible exact upd_same) | (with_reducible assumption) | (with_reducible apply upd_new (by assumption)) | (with_reducible apply upd_other (by first | assumption | exact Ne.symm (by assumption))) | (with_reducible refine' Kp.get (by assumption) ?_ (by first | assumption | exact Ne.symm (by assumption))) | (with_reducible apply Same.get (by assumption))); done)))
  | ((with_reducible apply q_bmL0); (focus ((repeat first | (with_reducible exact upd_same) | (with_reducible assumption) | (with_reducible apply upd_new (by assumption)) | (with_reducible apply upd_other (by first | assumption | exact Ne.symm (by assumption))) | (with_reducible refine' Kp.get (by assumption) ?_ (by first | assumption | exact Ne.symm (by assumption))) | (with_reducible apply Same.get (by assumption))); done)))
  | ((with_reducible apply q_ixLt); (focus ((repeat first | (with_reducible exact upd_same) | (with_reducible assumption) | (with_reducible apply upd_new (by assumption)) | (with_reducible apply upd_other (by first | assumption | exact Ne.symm (by assumption))) | (with_reducible refine' Kp.get (by assumption) ?_ (by first | assumption | exact Ne.symm (by assumption))) | (with_reducible apply Same.get (by assumption))); done)); (focus (exact rfl)))
  | ((with_reducible apply q_ixTt); (focus ((repeat first | (with_reducible exact upd_same) | (with_reducible assumption) | (with_reducible apply upd_new (by assumption)) | (with_reducible apply upd_other (by first | assumption | exact Ne.symm (by assumption))) | (with_reducible refine' Kp.get (by assumption) ?_ (by first | assumption | exact Ne.symm (by assumption))) | (with_reducible apply Same.get (by assumption))); done)); (focus (exact rfl)))
  | ((with_reducible apply q_lenLt); (focus ((repeat first | (with_reducible exact upd_same) | (with_reducible assumption) | (with_reducible apply upd_new (by assumption)) | (with_reducible apply upd_other (by first | assumption | exact Ne.symm (by assumption))) | (with_reducible refine' Kp.get (by assumption) ?_ (by first | assumption | exact Ne.symm (by assumption))) | (with_reducible apply Same.get (by assumption))); done)))
  | ((with_reducible apply q_lenTt); (focus ((repeat first | (with_reducible exact upd_same) | (with_reducible assumption) | (with_reducible apply upd_new (by assumption)) | (with_reducible apply upd_other (by first | assumption | exact Ne.symm (by assumption))) | (with_reducible refine' Kp.get (by assumption) ?_ (by first | assumption | exact Ne.symm (by assumption))) | (with_reducible apply Same.get (by assumption))); done)))
  | ((with_reducible apply q_append); (focus ((repeat first | (with_reducible exact upd_same) | (with_reducible assumption) | (with_reducible apply upd_new (by assumption)) | (with_reducible apply upd_other (by first | assumption | exact Ne.symm (by assumption))) | (with_reducible refine' Kp.get (by assumption) ?_ (by first | assumption | exact Ne.symm (by assumption))) | (with_reducible apply Same.get (by assumption))); done)); (focus ((first | (exact Nat.lt_of_ble_eq_true rfl) | (simp only [List.length_append, List.length_cons, List.length_nil, List.length_map]; exact small1000 (by omega))))))
  | ((with_reducible apply q_setL); (focus ((repeat first | (with_reducible exact upd_same) | (with_reducible assumption) | (with_reducible apply upd_new (by assumption)) | (with_reducible apply upd_other (by first | assumption | exact Ne.symm (by assumption))) | (with_reducible refine' Kp.get (by assumption) ?_ (by first | assumption | exact Ne.symm (by assumption))) | (with_reducible apply Same.get (by assumption))); done)); (focus (exact rfl)))
  | with_reducible refine q_ifNT ?_
  | with_reducible refine q_ifNF ?_
  | with_reducible refine q_andNT ?_
  | with_reducible refine q_andNF ?_
  | with_reducible refine q_orNT ?_
  | with_reducible refine q_orNF ?_
  | with_reducible refine q_bKNT ?_
  | with_reducible refine q_bKNF ?_
  | with_reducible refine q_tNGet ?_
  | with_reducible refine q_tNIn ?_
  | with_reducible refine q_sNPut ?_
  | with_reducible refine q_sFldAug ?_
  | with_reducible refine q_sDAug ?_
  | with_reducible refine q_sDDel ?_
  | with_reducible refine q_forX ?_
  | with_reducible refine q_tMake ?_
  | ((with_reducible apply q_dG1a); (focus ((repeat first | (with_reducible exact upd_same) | (with_reducible assumption) | (with_reducible apply upd_new (by assumption)) | (with_reducible apply upd_other (by first | assumption | exact Ne.symm (by assumption))) | (with_reducible refine' Kp.get (by assumption) ?_ (by first | assumption | exact Ne.symm (by assumption))) | (with_reducible apply Same.get (by assumption))); done)))))
open TL
/-! a tuple's parts -/
theorem drop_step {xs : List V} {i : Nat} {x : V} (hi : i < xs.length) (hx : xs[xs.length - 1 - i]? = some x) : xs.drop (xs.length - (i + 1)) = x :: xs.drop (xs.length - i) := by
  have h1 : xs.length - (i + 1) < xs.length := by omega
  rw [List.drop_eq_getElem_cons h1, show xs.length - (i + 1) + 1 = xs.length - i by omega]
  congr 1
  have : xs[xs.length - (i + 1)]? = some x := by rw [← hx]; congr 1; omega
  exact (List.getElem?_eq_some_iff.mp this).2
section
variable {P : Program} {w : World} {K : PySem.W.Frag} {mg : Str → Option Value} {base : Heap}
theorem ok_parted (T : Txt K mg) : FnOk P w K mg base CX0 1 T.f_parted T.d_parted ["parts"] sp_parted := by
  refine T.F_parted.ok sc_parted (fun vs H Q E h => ?_) (fun cdv A outer s H vs Q E hr h => ?_)
  · obtain ⟨b, xs, rfl, _⟩ := h; rfl
  · obtain ⟨b, xs, rfl, hb, hl, k⟩ := h
    refine ⟨_, (pss_cons (ps_set (i := 1) sc_parted.nd rfl (Or.inl rfl) (pe_lst pa_nil))
      (pss_cons (ps_for PassesOwn.never rfl (RT.pi_revA (by rfl) T.z_reversed (pv 0)) (pg_name (i := 2) sc_parted.nd rfl (Or.inl rfl))
        (pss_cons (ps_if (pt_truth (pv 1) (by intro _; rfl)) (pss_one (ps_expr (pe_bm PySem.F.plainAttrs_list PySem.F.slot_list_append PySem.F.type_list_append mt_append (pv 1) (pa_cons (pe_tup (pa_cons pe_str (pa_cons pe_bl pa_nil))) pa_nil)))) pss_nil)
      (pss_one (ps_expr (pe_bm PySem.F.plainAttrs_list PySem.F.slot_list_append PySem.F.type_list_append mt_append (pv 1) (pa_cons (pe_tup (pa_cons (pv 2) (pa_cons pe_bl pa_nil))) pa_nil))))))
      (pss_one (ps_ret (pv 1))))), ?_⟩
    (dsimp only [cxOf, Cx.nox, Cx.wish, L2.start, List.map, List.length, List.replicate, List.cons_append, List.nil_append, List.append_eq, Nat.reduceSub, Nat.reduceAdd])
    walk_at "my_rd"
    refine q_lstK (Nat.le_of_ble_eq_true rfl) fun p np => ?_
    walk_at "my_rd"
    have np' := np
    have hb0 := upd_new (w := .lst []) np hb
    have sm0 : Same H (upd H p (.lst [])) := Same.up (Same.refl _) np
    have hp0 : upd H p (.lst []) p = some (.lst []) := upd_same
    generalize upd H p (.lst []) = H0 at hb0 sm0 hp0
    unfold RT.iRevA
    refine q_var (v := .ref b) rfl ⟨b, xs, rfl, .inr ⟨sqT hb0, ?_⟩⟩
    refine for_it walk_revT (fun i σ H' => ∃ (ys : List V) (v : Option V), σ = [some (.ref b), some (.ref p), v] ∧ Same H H' ∧ H' p = some (.lst ys) ∧ RowsAt pB H' ys (pr (xs.drop (xs.length - i))).reverse)
      ⟨[], _, rfl, sm0, hp0, by rw [Nat.sub_zero, List.drop_length]; exact .nil⟩ (fun i σ H' _ ⟨_, _, _, sm, _⟩ => sqT (sm _ _ hb)) ?_ ?_
    · rintro i x σ H' H2 hi ⟨ys, v, rfl, sm, hp, hR⟩ ⟨rfl, hx⟩
      have hd := drop_step hi hx
      have hlen : ys.length ≤ 2 * i := by
        have h1 := hR.len
        have h2 := pr_len (xs.drop (xs.length - i))
        rw [List.length_reverse] at h1
        rw [List.length_drop] at h2
        omega
      have hsl : sizeLine = 16777216 := sizeLine_eq
      walk_at "my_rd"
      refine ⟨_, .inl ⟨_, sqL hp, rfl⟩, ?_⟩
      rw [hd]
      generalize xs.drop (xs.length - i) = rest at hR hd
      cases hys : ys with
      | nil =>
        subst hys
        have hrest : rest = [] := by
          have h1 := hR.len
          cases rest with
          | nil => rfl
          | cons a r => simp [pr] at h1
        subst hrest
        refine q_ifF ?_
        walk_at "my_rd"
        refine q_tupK (Nat.le_of_ble_eq_true rfl) fun t nt => ?_
        walk_at "my_rd"
        have tp : t ≠ p := (ne_of_none hp nt).symm
        exact ⟨_, _, rfl, Same.new (Same.up sm nt) np', upd_same, RowsAt.snoc (rs := []) .nil (upd_other tp upd_same)⟩
      | cons y0 yr =>
        have hne : rest ≠ [] := by
          intro e
          subst e
          have h1 := hR.len
          rw [hys] at h1
          simp [pr] at h1
        have eP : (pr (x :: rest)).reverse = ((pr rest).reverse ++ [(.str ",", true)]) ++ [(x, false)] := by
          show ((x, false) :: prT rest).reverse = _
          rw [prT_eq, if_neg hne, List.reverse_cons, List.reverse_cons]
        rw [eP]
        rw [← hys]
        rw [← hys] at hys
        have e1 : (!ys.isEmpty) = true := by
          have h1 := hR.len
          cases ys with
          | nil =>
            rw [List.length_reverse] at h1
            cases rest with
            | nil => exact absurd rfl hne
            | cons a r => simp [pr] at h1
          | cons _ _ => rfl
        rw [e1]
        refine q_ifT ?_
        walk_at "my_rd"
        refine q_tupK (Nat.le_of_ble_eq_true rfl) fun t nt => ?_
        walk_at "my_rd"
        have tp : t ≠ p := (ne_of_none hp nt).symm
        refine q_append (upd_new nt hp) (by omega) ?_
        have sm1 : Same H (upd (upd H2 t (.tup [.str ",", .bl true])) p (.lst (ys ++ [.ref t]))) := Same.new (Same.up sm nt) np'
        have hp1 : upd (upd H2 t (.tup [.str ",", .bl true])) p (.lst (ys ++ [.ref t])) p = some (.lst (ys ++ [.ref t])) := upd_same
        have hR1 : RowsAt pB (upd (upd H2 t (.tup [.str ",", .bl true])) p (.lst (ys ++ [.ref t]))) (ys ++ [.ref t]) ((pr rest).reverse ++ [(.str ",", true)]) :=
          RowsAt.snoc (hR.mono fun b ys q => upd_other (ne_of q hp (by intro z; cases z)) (upd_new nt q)) (upd_other tp upd_same)
        generalize upd (upd H2 t (.tup [.str ",", .bl true])) p (.lst (ys ++ [.ref t])) = H3 at sm1 hp1 hR1
        walk_at "my_rd"
        refine q_tupK (Nat.le_of_ble_eq_true rfl) fun u nu => ?_
        walk_at "my_rd"
        have up : u ≠ p := (ne_of_none hp1 nu).symm
        refine q_append (upd_new nu hp1) (by rw [List.length_append]; show ys.length + 1 < _; omega) ?_
        walk_at "my_rd"
        exact ⟨_, _, rfl, Same.new (Same.up sm1 nu) np', upd_same, RowsAt.snoc (hR1.mono fun b ys q => upd_other (ne_of q hp1 (by intro z; cases z)) (upd_new nu q)) (upd_other up upd_same)⟩
    · rintro σ H' ⟨ys, v, rfl, sm, hp, hR⟩
      rw [Nat.sub_self, List.drop_zero] at hR
      walk_at "my_rd"
      exact k p H' ys np' sm hp hR
end

local macro_rules | `(tactic| walk_at "my_rd") => `(tactic| (repeat first
  | with_reducible refine q_tCons ?_
  | ((with_reducible apply q_var); (focus (exact rfl)))
  | with_reducible refine q_c ?_
  | with_reducible refine q_nx ?_
  | with_reducible refine q_bK ?_
  | with_reducible refine q_call ?_
  | with_reducible refine q_callK ?_
  | with_reducible refine q_tNil ?_
  | with_reducible refine q_cb ?_
  | with_reducible refine q_seq ?_
  | with_reducible refine q_asg ?_
  | with_reducible refine q_gName ?_
  | with_reducible refine q_op ?_
  | with_reducible refine q_test ?_
  | with_reducible refine q_tB ?_
  | with_reducible refine q_ifS ?_
  | with_reducible refine q_ret ?_
  | with_reducible refine q_rt ?_
  | with_reducible refine q_next ?_
  | with_reducible refine q_ifF ?_
  | with_reducible refine q_ifT ?_
  | with_reducible refine q_drop ?_
  | with_reducible refine q_and ?_
  | with_reducible refine q_or ?_
  | with_reducible refine q_andT ?_
  | with_reducible refine q_andF ?_
  | with_reducible refine q_orF ?_
  | with_reducible refine q_orT ?_
  | with_reducible refine q_andV ?_
  | with_reducible refine q_andVT ?_
  | with_reducible refine q_andVF ?_
  | with_reducible refine q_orV ?_
  | with_reducible refine q_gCons ?_
  | with_reducible refine q_gNil ?_
  | with_reducible refine q_tup ?_
  | with_reducible refine q_lst ?_
  | with_reducible refine q_not ?_
  | with_reducible refine q_notKT ?_
  | with_reducible refine q_notKF ?_
  | with_reducible refine q_I0 ?_
  | with_reducible refine q_eqI ?_
  | with_reducible refine q_neI ?_
  | ((with_reducible refine q_I ?_ ?_); first | decide | omega | exact ⟨by omega, by omega⟩ | exact ⟨by decide, by decide⟩ | exact .inl ⟨by omega, by omega⟩ | exact .inr ⟨by omega, by omega⟩ | exact .inr ⟨by decide, by decide⟩)
  | with_reducible refine q_eqS ?_
  | with_reducible refine q_neS ?_
  | with_reducible refine q_brk ?_
  | with_reducible refine q_ct ?_
  | with_reducible refine q_bk ?_
  | with_reducible refine q_cn ?_
  | with_reducible refine q_retN ?_
  | with_reducible refine q_gSub ?_
  | with_reducible refine q_for ?_
  | with_reducible refine q_iList ?_
  | with_reducible refine q_iTup ?_
  | with_reducible refine q_iRng1 ?_
  | with_reducible refine q_notK ?_
  | with_reducible refine q_orVT ?_
  | with_reducible refine q_orVF ?_
  | with_reducible refine q_notV ?_
  | with_reducible refine q_notVK ?_
  | with_reducible refine q_ifE ?_
  | with_reducible refine q_ifET ?_
  | with_reducible refine q_ifEF ?_
  | with_reducible refine q_yes ?_
  | with_reducible refine q_un ?_
  | with_reducible refine q_rU ?_
  | with_reducible refine q_abs ?_
  | with_reducible refine q_int1 ?_
  | with_reducible refine q_bm ?_
  | with_reducible refine q_bm0 ?_
  | with_reducible refine q_lc ?_
  | with_reducible refine q_keepT ?_
  | with_reducible refine q_keepF ?_
  | ((with_reducible apply q_aug); (focus (exact rfl)))
  | with_reducible refine q_ipI ?_
  | with_reducible refine q_chain ?_
  | with_reducible refine q_pairC ?_
  | with_reducible refine q_pairsK ?_
  | with_reducible refine q_pairN ?_
  | with_reducible refine q_fld ?_
  | with_reducible refine q_sFld ?_
  | with_reducible refine q_meth ?_
  | with_reducible refine q_makeK ?_
  | with_reducible refine q_isBl ?_
  | with_reducible refine q_notBl ?_
  | with_reducible refine q_sl ?_
  | with_reducible refine q_noPart ?_
  | with_reducible refine q_part ?_
  | with_reducible refine q_partK ?_
  | ((with_reducible apply q_mulStr); (focus (decide +kernel)))
  | with_reducible refine q_chT ?_
  | with_reducible refine q_chF ?_
  | with_reducible refine q_ord ?_
  | with_reducible refine q_iStr0 ?_
  | with_reducible refine q_iStr ?_
  | with_reducible refine q_tDIn ?_
  | with_reducible refine q_tDNotIn ?_
  | with_reducible refine q_tDGet ?_
  | with_reducible refine q_tDGet2 ?_
  | with_reducible refine q_tDGet1 ?_
  | with_reducible refine q_tDSetd ?_
  | ((with_reducible apply q_dG2a); (focus ((repeat first | (with_reducible exact upd_same) | (with_reducible assumption) | (with_reducible apply upd_new (by assumption)) | (with_reducible apply upd_other (by first | assumption | exact Ne.symm (by assumption))) | (with_reducible refine' Kp.get (by assumption) ?_ (by first | assumption | exact Ne.symm (by assumption))) | (with_reducible apply Same.get (by assumption))); done)))
  | ((with_reducible apply q_dSda); (focus ((repeat first | (with_reducible exact upd_same) | (with_reducible assumption) | (with_reducible apply upd_new (by assumption)) | (with_reducible apply upd_other (by first | assumption | exact Ne.symm (by assumption))) | (with_reducible refine' Kp.get (by assumption) ?_ (by first | assumption | exact Ne.symm (by assumption))) | (with_reducible apply Same.get (by assumption))); done)))
  | with_reducible refine q_sDPut ?_
  | ((with_reducible apply q_dInS); (focus ((repeat first | (with_reducible exact upd_same) | (with_reducible assumption) | (with_reducible apply upd_new (by assumption)) | (with_reducible apply upd_other (by first | assumption | exact Ne.symm (by assumption))) | (with_reducible refine' Kp.get (by assumption) ?_ (by first | assumption | exact Ne.symm (by assumption))) | (with_reducible apply Same.get (by assumption))); done)))
  | ((with_reducible apply q_dNInS); (focus ((repeat first | (with_reducible exact upd_same) | (with_reducible assumption) | (with_reducible apply upd_new (by assumption)) | (with_reducible apply upd_other (by first | assumption | exact Ne.symm (by assumption))) | (with_reducible refine' Kp.get (by assumption) ?_ (by first | assumption | exact Ne.symm (by assumption))) | (with_reducible apply Same.get (by assumption))); done)))
  | ((with_reducible apply q_dInI); (focus ((repeat first | (with_reducible exact upd_same) | (with_reducible assumption) | (with_reducible apply upd_new (by assumption)) | (with_reducible apply upd_other (by first | assumption | exact Ne.symm (by assumption))) | (with_reducible refine' Kp.get (by assumption) ?_ (by first | assumption | exact Ne.symm (by assumption))) | (with_reducible apply Same.get (by assumption))); done)))
  | ((with_reducible apply q_dNInI); (focus ((repeat first | (with_reducible exact upd_same) | (with_reducible assumption) | (with_reducible apply upd_new (by assumption)) | (with_reducible apply upd_other (by first | assumption | exact Ne.symm (by assumption))) | (with_reducible refine' Kp.get (by assumption) ?_ (by first | assumption | exact Ne.symm (by assumption))) | (with_reducible apply Same.get (by assumption))); done)))
  | ((with_reducible apply q_bmL); (focus ((repeat first | (with_reducible exact upd_same) | (with_reducible assumption) | (with_reducible apply upd_new (by assumption)) | (with_reducible apply upd_other (by first | assumption | exact Ne.symm (by assumption))) | (with_reducible refine' Kp.get (by assumption) ?_ (by first | assumption | exact Ne.symm (by assumption))) | (with_reducible apply Same.get (by assumption))); done)))
  | ((with_reducible apply q_bmL0); (focus ((repeat first | (with_reducible exact upd_same) | (with_reducible assumption) | (with_reducible apply upd_new (by assumption)) | (with_reducible apply upd_other (by first | assumption | exact Ne.symm (by assumption))) | (with_reducible refine' Kp.get (by assumption) ?_ (by first | assumption | exact Ne.symm (by assumption))) | (with_reducible apply Same.get (by assumption))); done)))
  | ((with_reducible apply q_ixLt); (focus ((repeat first | (with_reducible exact upd_same) | (with_reducible assumption) | (with_reducible apply upd_new (by assumption)) | (with_reducible apply upd_other (by first | assumption | exact Ne.symm (by assumption))) | (with_reducible refine' Kp.get (by assumption) ?_ (by first | assumption | exact Ne.symm (by assumption))) | (with_reducible apply Same.get (by assumption))); done)); (focus (exact rfl)))
  | ((with_reducible apply q_ixTt); (focus ((repeat first | (with_reducible exact upd_same) | (with_reducible assumption) | (with_reducible apply upd_new (by assumption)) | (with_reducible apply upd_other (by first | assumption | exact Ne.symm (by assumption))) | (with_reducible refine' Kp.get (by assumption) ?_ (by first | assumption | exact Ne.symm (by assumption))) | (with_reducible apply Same.get (by assumption))); done)); (focus (exact rfl)))
  | ((with_reducible apply q_lenLt); (focus ((repeat first | (with_reducible exact upd_same) | (with_reducible assumption) | (with_reducible apply upd_new (by assumption)) | (with_reducible apply upd_other (by first | assumption | exact Ne.symm (by assumption))) | (with_reducible refine' Kp.get (by assumption) ?_ (by first | assumption | exact Ne.symm (by assumption))) | (with_reducible apply Same.get (by assumption))); done)))
  | ((with_reducible apply q_lenTt); (focus ((repeat first | (with_reducible exact upd_same) | (with_reducible assumption) | (with_reducible apply upd_new (by assumption)) | (with_reducible apply upd_other (by first | assumption | exact Ne.symm (by assumption))) | (with_reducible refine' Kp.get (by assumption) ?_ (by first | assumption | exact Ne.symm (by assumption))) | (with_reducible apply Same.get (by assumption))); done)))
  | ((with_reducible apply q_append); (focus ((repeat first | (with_reducible exact upd_same) | (with_reducible assumption) | (with_reducible apply upd_new (by assumption)) | (with_reducible apply upd_other (by first | assumption | exact Ne.symm (by assumption))) | (with_reducible refine' Kp.get (by assumption) ?_ (by first | assumption | exact Ne.symm (by assumption))) | (with_reducible apply Same.get (by assumption))); done)); (focus ((first | (exact Nat.lt_of_ble_eq_true rfl) | (simp only [List.length_append, List.length_cons, List.length_nil, List.length_map]; exact small1000 (by omega))))))
  | ((with_reducible apply q_setL); (focus ((repeat first | (with_reducible exact upd_same) | (with_reducible assumption) | (with_reducible apply upd_new (by assumption)) | (with_reducible apply upd_other (by first | assumption | exact Ne.symm (by assumption))) | (with_reducible refine' Kp.get (by assumption) ?_ (by first | assumption | exact Ne.symm (by assumption))) | (with_reducible apply Same.get (by assumption))); done)); (focus (exact rfl)))
  | with_reducible refine q_ifNT ?_
  | with_reducible refine q_ifNF ?_
  | with_reducible refine q_andNT ?_
  | with_reducible refine q_andNF ?_
  | with_reducible refine q_orNT ?_
  | with_reducible refine q_orNF ?_
  | with_reducible refine q_bKNT ?_
  | with_reducible refine q_bKNF ?_
  | with_reducible refine q_tNGet ?_
  | with_reducible refine q_tNIn ?_
  | with_reducible refine q_sNPut ?_
  | with_reducible refine q_sFldAug ?_
  | with_reducible refine q_sDAug ?_
  | with_reducible refine q_sDDel ?_
  | with_reducible refine q_forX ?_
  | with_reducible refine q_tMake ?_
  | ((with_reducible apply q_dG1a); (focus ((repeat first | (with_reducible exact upd_same) | (with_reducible assumption) | (with_reducible apply upd_new (by assumption)) | (with_reducible apply upd_other (by first | assumption | exact Ne.symm (by assumption))) | (with_reducible refine' Kp.get (by assumption) ?_ (by first | assumption | exact Ne.symm (by assumption))) | (with_reducible apply Same.get (by assumption))); done)))))
/-! the law's own comparison: plain values, and lists of them -/
def scV : V → Bool
  | .non => true
  | .bl _ => true
  | .int _ => true
  | .str _ => true
  | _ => false
theorem scV_ty {K : PySem.W.Frag} {H : Hp} {x : V} (h : scV x = true) : (x = .non ∧ TyX K H x (.type "NoneType")) ∨ (∃ b, x = .bl b ∧ TyX K H x (.type "bool")) ∨ (∃ i, x = .int i ∧ TyX K H x (.type "int")) ∨ (∃ s, x = .str s ∧ TyX K H x (.type "str")) := by
  cases x with
  | non => exact .inl ⟨rfl, .base .non⟩
  | bl b => exact .inr (.inl ⟨b, rfl, .base (.bl b)⟩)
  | int i => exact .inr (.inr (.inl ⟨i, rfl, .base (.int i)⟩))
  | str s => exact .inr (.inr (.inr ⟨s, rfl, .base (.str s)⟩))
  | byt => cases h
  | flt => cases h
  | ref => cases h
  | ty => cases h
theorem q_is {K : PySem.W.Frag} {H : Hp} {Q : VK} {x : V} {t : String} {n : String} {b : Bool} (ht : TyX K H x (.type t)) (hk : kitB t n = some b) (k : Q (.bl b) H) : rIsi K [x, .ty n] H Q := q_isi ht (kit_ty hk) k

open TL
/-! write -/
theorem joinL_nil (ps : List (List Nat)) : joinL [] ps = ps.flatten := by
  induction ps with
  | nil => rfl
  | cons p r ih =>
    cases r with
    | nil => show p = [p].flatten; simp
    | cons q r =>
      show p ++ ([] ++ joinL [] (q :: r)) = (p :: q :: r).flatten
      rw [List.nil_append, ih]
      rfl
theorem sum_len (ws : List Str) : (ws.map (·.length)).sum = ((ws.map tl).flatten).length := by
  induction ws with
  | nil => rfl
  | cons w r ih => rw [List.map_cons, List.sum_cons, List.map_cons, List.flatten_cons, List.length_append, ih]; rfl
theorem RowsAt.unsnoc {α : Type} {f : α → List V} {H : Hp} {xs : List V} {rs : List α} {r : α} (h : RowsAt f H xs (rs ++ [r])) : ∃ ys c, xs = ys ++ [.ref c] ∧ H c = some (.tup (f r)) ∧ RowsAt f H ys rs := by
  have hl := h.len
  rw [List.length_append] at hl
  obtain ⟨c, h1, h2⟩ := h.at_ rs.length r (by rw [List.getElem?_append_right (Nat.le_refl _), Nat.sub_self]; rfl)
  have hn : rs.length < xs.length := by simp at hl; omega
  refine ⟨xs.take rs.length, c, ?_, h2, ⟨by rw [List.length_take]; omega, fun i r' hr => ?_⟩⟩
  · have e : xs.drop rs.length = [.ref c] := by
      rw [List.drop_eq_getElem_cons hn, List.drop_eq_nil_of_le (by simp at hl; omega)]
      rw [List.getElem?_eq_getElem hn] at h1
      rw [Option.some.inj h1]
    rw [← e, List.take_append_drop]
  · have hi : i < rs.length := (List.getElem?_eq_some_iff.mp hr).1
    obtain ⟨a, h3, h4⟩ := h.at_ i r' (by rw [List.getElem?_append_left hi]; exact hr)
    exact ⟨a, by rw [List.getElem?_take, if_pos hi]; exact h3, h4⟩
theorem RowsAt.app {α : Type} {f : α → List V} {H : Hp} {xs ys : List V} {rs ss : List α} (h : RowsAt f H xs rs) (g : RowsAt f H ys ss) : RowsAt f H (xs ++ ys) (rs ++ ss) := by
  refine ⟨by rw [List.length_append, List.length_append, h.len, g.len], fun i r hr => ?_⟩
  by_cases hi : i < rs.length
  · rw [List.getElem?_append_left hi] at hr
    rw [List.getElem?_append_left (by rw [h.len]; exact hi)]
    exact h.at_ i r hr
  · rw [List.getElem?_append_right (by omega)] at hr
    rw [List.getElem?_append_right (by rw [h.len]; omega), h.len]
    exact g.at_ _ r hr
theorem NVs.len {H : Hp} : ∀ {ks : List NestedKey} {vs : List V}, NVs H ks vs → vs.length ≤ sizs ks
  | _, _, .nil => Nat.le_refl _
  | _, _, .cons (k := k) (ks := ks) (vs := vs) a b => by
    have := NVs.len b
    show vs.length + 1 ≤ siz k + 1 + sizs ks
    omega
section
variable {P : Program} {w : World} {K : PySem.W.Frag} {mg : Str → Option Value} {base : Heap}
theorem NV.tupOf {H : Hp} {k : NestedKey} {b : Addr} (h : NV H k (.ref b)) : ∃ ks vs, k = .tup ks ∧ H b = some (.tup vs) ∧ NVs H ks vs := by
  cases h with
  | tup h1 h2 => exact ⟨_, _, rfl, h1, h2⟩
set_option maxHeartbeats 0 in
theorem ok_write (T : Txt K mg) : FnOk P w K mg base CX0 3 T.f_write T.d_write ["value"] (sp_write K) := by
  refine T.F_write.ok sc_write (fun vs H Q E h => ?_) (fun cdv A outer s H vs Q E hr h => ?_)
  · obtain ⟨v, k, rfl, _⟩ := h; rfl
  · obtain ⟨v, kk, rfl, hV, hiv, hsm, hlen, hsz, k⟩ := h
    have hsl : sizeLine = 16777216 := sizeLine_eq
    refine ⟨_, (pss_cons (ps_set (i := 1) sc_write.nd rfl (Or.inl rfl) (pe_lst pa_nil))
      (pss_cons (ps_set (i := 2) sc_write.nd rfl (Or.inl rfl) (pe_lst (pa_cons (pe_tup (pa_cons (pv 0) (pa_cons pe_bl pa_nil))) pa_nil)))
      (pss_cons (ps_while PassesOwn.never (pt_truth (pv 2) (by intro _; rfl)) (pss_cons (ps_asg (pe_bm0 PySem.F.plainAttrs_list PySem.F.slot_list_pop PySem.F.type_list_pop mt_pop (pv 2)) (pg_tup rfl (pgs_cons (pg_name (i := 3) sc_write.nd rfl (Or.inl rfl)) (pgs_cons (pg_name (i := 4) sc_write.nd rfl (Or.inl rfl)) pgs_nil))))
      (pss_one (ps_if (pt_val (pv 4)) (pss_one (ps_expr (pe_bm PySem.F.plainAttrs_list PySem.F.slot_list_append PySem.F.type_list_append mt_append (pv 1) (pa_cons (pv 3) pa_nil)))) (pss_one (ps_if (pt_val (pe_callB call_isi (by rfl) T.z_isinstance boot_isinstance (pa_cons (pv 3) (pa_cons (pe_bltn (v := .ty "tuple") (by rfl) T.z_tuple boot_tuple rfl) pa_nil)))) (pss_cons (ps_expr (pe_bm PySem.F.plainAttrs_list PySem.F.slot_list_append PySem.F.type_list_append mt_append (pv 1) (pa_cons pe_str pa_nil)))
      (pss_cons (ps_expr (pe_bm PySem.F.plainAttrs_list PySem.F.slot_list_append PySem.F.type_list_append mt_append (pv 2) (pa_cons (pe_tup (pa_cons pe_str (pa_cons pe_bl pa_nil))) pa_nil)))
      (pss_one (ps_expr (pe_bm PySem.F.plainAttrs_list PySem.F.slot_list_extend PySem.F.type_list_extend mt_extend (pv 2) (pa_cons (pe_call (ok_parted T) (hr.mono (by decide)) (by rfl) T.g_parted T.F_parted.kp T.b_parted .nil pass0 (pa_cons (pv 3) pa_nil)) pa_nil)))))) (pss_one (ps_if (pt_val (pe_callB call_isi (by rfl) T.z_isinstance boot_isinstance (pa_cons (pv 3) (pa_cons (pe_bltn (v := .ty "str") (by rfl) T.z_str boot_str rfl) pa_nil)))) (pss_one (ps_expr (pe_bm PySem.F.plainAttrs_list PySem.F.slot_list_append PySem.F.type_list_append mt_append (pv 1) (pa_cons (pe_joined (.cons (pe_fmt (pe_callB cq_lenS (by rfl) T.z_len boot_len (pa_cons (pv 3) pa_nil))) (.cons pe_str (.cons (pe_fmt (pv 3)) .nil)))) pa_nil)))) (pss_one (ps_expr (pe_bm PySem.F.plainAttrs_list PySem.F.slot_list_append PySem.F.type_list_append mt_append (pv 1) (pa_cons (pe_call (ok_written_integer T) (hr.mono (by decide)) (by rfl) T.g_written_integer T.F_written_integer.kp T.b_written_integer .nil pass0 (pa_cons (pv 3) pa_nil)) pa_nil))))))))))))
      (pss_one (ps_ret (pe_join pe_str (pv 1))))))), ?_⟩
    (dsimp only [cxOf, Cx.nox, Cx.wish, L2.start, List.map, List.length, List.replicate, List.cons_append, List.nil_append, List.append_eq, Nat.reduceSub, Nat.reduceAdd])
    walk_at "my_rd"
    refine q_lstK (Nat.le_of_ble_eq_true rfl) fun wr nwr => ?_
    walk_at "my_rd"
    refine q_tupK (Nat.le_of_ble_eq_true rfl) fun t nt => ?_
    walk_at "my_rd"
    refine q_lstK (Nat.le_of_ble_eq_true rfl) fun l nl => ?_
    have nwr0 := nwr
    have nl0 : H l = none := upd_none_back (upd_none_back nl)
    have lw : l ≠ wr := by
      intro e
      rw [e, upd_new nt upd_same] at nl
      cases nl
    have smA : Same H (upd (upd (upd H wr (.lst [])) t (.tup [v, .bl false])) l (.lst [.ref t])) := Same.new (Same.up (Same.new (Same.refl _) nwr) nt) nl0
    have hw0 : upd (upd (upd H wr (.lst [])) t (.tup [v, .bl false])) l (.lst [.ref t]) wr = some (.lst (([] : List Str).map V.str)) := upd_other lw.symm (upd_new nt upd_same)
    have hl0 : upd (upd (upd H wr (.lst [])) t (.tup [v, .bl false])) l (.lst [.ref t]) l = some (.lst [.ref t]) := upd_same
    have htl : t ≠ l := by
      intro e
      rw [← e, upd_same] at nl
      cases nl
    have hR0 : RowsAt pB (upd (upd (upd H wr (.lst [])) t (.tup [v, .bl false])) l (.lst [.ref t])) [.ref t] [(v, false)] := RowsAt.snoc (xs := []) (rs := []) .nil (upd_other htl upd_same)
    generalize upd (upd (upd H wr (.lst [])) t (.tup [v, .bl false])) l (.lst [.ref t]) = H0 at smA hw0 hl0 hR0
    walk_at "my_rd"
    have hO0 : OutN H0 (0 + siz kk) [(v, false)] (wrL kk ++ []) := .val .nil (NV.mono (fun b ys q => smA _ _ q) hV) hiv hsm
    refine q_while (fun m σ H' => ∃ (ws : List Str) (xs : List V) (M : List (V × Bool)) (o : List Nat) (v3 v4 : Option V), σ = [some v, some (.ref wr), some (.ref l), v3, v4] ∧ Same H H' ∧ H' wr = some (.lst (ws.map V.str)) ∧ H' l = some (.lst xs) ∧
      RowsAt pB H' xs M.reverse ∧ OutN H' m M o ∧ (ws.map tl).flatten ++ o = wrL kk ∧ m ≤ 1000000 ∧ ws.length + m ≤ 1000000) (m0 := siz kk)
      ⟨[], _, [(v, false)], wrL kk, _, _, rfl, smA, hw0, hl0, hR0, by rw [Nat.zero_add, List.append_nil] at hO0; exact hO0, rfl, hsz, by show 0 + _ ≤ _; omega⟩ ?_
    clear hO0 hR0 hl0 hw0 smA
    rintro m σ H' ⟨ws, xs, M, o, v3, v4, rfl, sm, hw, hl, hR, hO, ho, hm, hws⟩
    walk_at "my_rd"
    refine ⟨_, .inl ⟨_, sqL hl, rfl⟩, ?_⟩
    have hxl := hR.len
    rw [List.length_reverse] at hxl
    have hMl := hO.len
    cases M with
    | nil =>
      have hx : xs = [] := by
        cases xs with
        | nil => rfl
        | cons _ _ => simp at hxl
      subst hx
      cases hO
      refine q_whF ?_
      walk_at "my_rd"
      unfold tM1
      refine q_c ⟨⟨_, rfl⟩, ?_⟩
      walk_at "my_rd"
      rw [List.append_nil] at ho
      refine ⟨_, wr, ws, rfl, rfl, .inl (sqL hw), ?_, ?_⟩
      · rw [sum_len, ho]
        show _ + ws.length * 0 ≤ _
        omega
      · have e : Txt.join (Str.ofString "") ws = strL (wrL kk) := tl_inj (by rw [tl_strL, ← ho]; rw [join_eq, tl_join]; exact joinL_nil _)
        rw [e]
        exact k _ sm
    | cons q M =>
      have hx : (!xs.isEmpty) = true := by
        cases xs with
        | nil => simp at hxl
        | cons _ _ => rfl
      rw [hx]
      rw [List.reverse_cons] at hR
      obtain ⟨ys, c, rfl, hc, hRy⟩ := hR.unsnoc
      refine q_whT ?_
      walk_at "my_rd"
      refine ⟨l, _, .ref c, rfl, rfl, hl, by rw [List.length_append]; show (ys ++ [V.ref c])[ys.length + 1 - 1]? = _; rw [Nat.add_sub_cancel, List.getElem?_append_right (Nat.le_refl _), Nat.sub_self]; rfl, ?_⟩
      rw [List.dropLast_concat]
      have ncl : c ≠ l := ne_of hc hl (by intro z; cases z)
      have nwl : wr ≠ l := lw.symm
      have tpl : ∀ b zs, H' b = some (.tup zs) → upd H' l (.lst ys) b = some (.tup zs) := fun b zs q => upd_other (ne_of q hl (by intro z; cases z)) q
      have sm1 : Same H (upd H' l (.lst ys)) := Same.new sm nl0
      have hw1 : upd H' l (.lst ys) wr = some (.lst (ws.map V.str)) := upd_other nwl hw
      have hl1 : upd H' l (.lst ys) l = some (.lst ys) := upd_same
      have hc1 := tpl _ _ hc
      have hR1 := hRy.mono tpl
      have hO1 := hO.mono tpl
      have hyl : ys.length ≤ 1000000 := by rw [List.length_append] at hxl; have : (q :: M).length ≤ m := hMl; simp at hxl this; omega
      generalize upd H' l (.lst ys) = H1 at sm1 hw1 hl1 hc1 hR1 hO1
      clear hR hRy hl hw sm hO hc tpl hx hxl
      obtain ⟨qv, qb⟩ := q
      have hc1 : H1 c = some (.tup [qv, .bl qb]) := hc1
      refine q_gTup (sqT hc1) rfl ?_
      walk_at "my_rd"
      cases hO1 with
      | @sign m' M o' s hO2 =>
        refine q_ifT ?_
        walk_at "my_rd"
        have eM : ws.map V.str ++ [V.str s] = (ws ++ [s]).map V.str := by rw [List.map_append]; rfl
        refine q_append hw1 (by rw [List.length_map]; omega) ?_
        walk_at "my_rd"
        rw [eM]
        refine ⟨m', by omega, ws ++ [s], ys, M, o', _, _, rfl, Same.new sm1 nwr0, upd_same, upd_other lw hl1, hR1.mono fun b zs q => upd_other (ne_of q hw1 (by intro z; cases z)) q, hO2.mono fun b zs q => upd_other (ne_of q hw1 (by intro z; cases z)) q, ?_, by omega, by rw [List.length_append]; show ws.length + 1 + _ ≤ _; omega⟩
        rw [List.map_append, List.flatten_append, ← ho]
        show _ ++ [tl s].flatten ++ o' = _
        rw [List.flatten_cons, List.flatten_nil, List.append_nil, List.append_assoc]
      | @val m' M o' k1 v1 hO2 hn hv hs =>
        refine q_ifF ?_
        have hlk : (wrL k1).length ≤ 1000000 := by
          have := congrArg List.length ho
          rw [List.length_append, List.length_append] at this
          omega
        have fin : ∀ (s : Str), tl s = wrL k1 → 1 ≤ siz k1 → True := fun _ _ _ => trivial
        cases k1 with
        | none => cases hv
        | num i =>
          cases hn
          walk_at "my_rd"
          refine q_is (.base (.int i)) (b := false) (by decide +kernel) ?_
          walk_at "my_rd"
          refine q_is (.base (.int i)) (b := false) (by decide +kernel) ?_
          walk_at "my_rd"
          refine ⟨i, rfl, hs, ?_⟩
          walk_at "my_rd"
          have eM : ws.map V.str ++ [V.str (strL (intL i))] = (ws ++ [strL (intL i)]).map V.str := by rw [List.map_append]; rfl
          refine q_append hw1 (by rw [List.length_map]; omega) ?_
          walk_at "my_rd"
          rw [eM]
          have e1 : siz (.num i) = 1 := rfl
          refine ⟨m', by omega, ws ++ [strL (intL i)], ys, M, o', _, _, rfl, Same.new sm1 nwr0, upd_same, upd_other lw hl1, hR1.mono fun b zs q => upd_other (ne_of q hw1 (by intro z; cases z)) q, hO2.mono fun b zs q => upd_other (ne_of q hw1 (by intro z; cases z)) q, ?_, by omega, by rw [List.length_append]; show ws.length + 1 + _ ≤ _; omega⟩
          rw [List.map_append, List.flatten_append, ← ho]
          show _ ++ [tl (strL (intL i))].flatten ++ o' = _ ++ (intL i ++ o')
          rw [List.flatten_cons, List.flatten_nil, List.append_nil, List.append_assoc, tl_strL]
        | text s =>
          cases hn
          walk_at "my_rd"
          refine q_is (.base (.str s)) (b := false) (by decide +kernel) ?_
          walk_at "my_rd"
          refine q_is (.base (.str s)) (b := true) (by decide +kernel) ?_
          walk_at "my_rd"
          have hsl2 : s.length ≤ 1000000 := by
            have e : (wrL (.text s)).length = (numL s.length).length + (1 + s.length) := by
              show (numL s.length ++ 58 :: tl s).length = _
              rw [List.length_append, List.length_cons, tl_len]
              omega
            omega
          have hnl : (numL s.length).length ≤ 1000000 := by
            have e : (wrL (.text s)).length = (numL s.length).length + (1 + s.length) := by
              show (numL s.length ++ 58 :: tl s).length = _
              rw [List.length_append, List.length_cons, tl_len]
              omega
            omega
          have eN : Str.ofString (toString (s.length : Int)) = strL (numL s.length) := tl_inj (tl_num _)
          have eW : ((Str.empty ++ strL (numL s.length)) ++ Str.ofString ":") ++ s = strL (wrL (.text s)) := tl_inj (by
            rw [tl_append, tl_append, tl_append, tl_strL, tl_strL]
            show (([] ++ numL s.length) ++ [58]) ++ tl s = numL s.length ++ 58 :: tl s
            rw [List.nil_append, List.append_assoc]
            rfl)
          have l1 : (Str.empty ++ strL (numL s.length)).length = (numL s.length).length := by
            rw [tl_len, tl_append]
            rfl
          have l2 : ((Str.empty ++ strL (numL s.length)) ++ Str.ofString ":").length = (numL s.length).length + 1 := by
            rw [tl_len, tl_append, List.length_append, ← tl_len, l1]
            rfl
          unfold tJs tFmt
          walk_at "my_rd"
          refine q_lenS (by omega) ?_
          refine .inr ⟨_, rfl, log_lt (Nat.lt_of_le_of_lt (show _ ≤ 1000000 from hsl2) (by decide +kernel)), ?_⟩
          rw [eN]
          refine ⟨_, rfl, by rw [l1]; omega, ?_⟩
          unfold tJs
          refine q_c ⟨_, rfl, by rw [l2]; omega, ?_⟩
          unfold tJs
          refine q_var rfl (.inl ⟨_, rfl, by omega, ?_⟩)
          refine ⟨_, rfl, by rw [eW]; show (wrL _).length ≤ _; omega, ?_⟩
          unfold tJs
          rw [eW]
          walk_at "my_rd"
          have eM : ws.map V.str ++ [V.str (strL (wrL (.text s)))] = (ws ++ [strL (wrL (.text s))]).map V.str := by rw [List.map_append]; rfl
          refine q_append hw1 (by rw [List.length_map]; omega) ?_
          walk_at "my_rd"
          rw [eM]
          have e1 : siz (.text s) = 1 := rfl
          refine ⟨m', by omega, ws ++ [strL (wrL (.text s))], ys, M, o', _, _, rfl, Same.new sm1 nwr0, upd_same, upd_other lw hl1, hR1.mono fun b zs q => upd_other (ne_of q hw1 (by intro z; cases z)) q, hO2.mono fun b zs q => upd_other (ne_of q hw1 (by intro z; cases z)) q, ?_, by omega, by rw [List.length_append]; show ws.length + 1 + _ ≤ _; omega⟩
          rw [List.map_append, List.flatten_append, ← ho]
          show _ ++ [tl (strL (wrL (.text s)))].flatten ++ o' = _
          rw [List.flatten_cons, List.flatten_nil, List.append_nil, List.append_assoc, tl_strL]
        | tup ks =>
          obtain ⟨ks', vs, e, hb, hns⟩ : ∃ ks' vs, NestedKey.tup ks = .tup ks' ∧ (∃ b, qv = .ref b ∧ H1 b = some (.tup vs)) ∧ NVs H1 ks' vs := by
            cases hn with
            | tup h1 h2 => exact ⟨_, _, rfl, ⟨_, rfl, h1⟩, h2⟩
          injection e with e
          subst e
          obtain ⟨b, rfl, hb⟩ := hb
          walk_at "my_rd"
          refine q_is (.base (.tup hb)) (b := true) (by decide +kernel) ?_
          walk_at "my_rd"
          refine q_append hw1 (by rw [List.length_map]; omega) ?_
          walk_at "my_rd"
          have eM : ws.map V.str ++ [V.str (Str.ofString "(")] = (ws ++ [Str.ofString "("]).map V.str := by rw [List.map_append]; rfl
          rw [eM]
          have tpw : ∀ b zs, H1 b = some (.tup zs) → upd H1 wr (.lst ((ws ++ [Str.ofString "("]).map V.str)) b = some (.tup zs) := fun b zs q => upd_other (ne_of q hw1 (by intro z; cases z)) q
          have sm2 : Same H (upd H1 wr (.lst ((ws ++ [Str.ofString "("]).map V.str))) := Same.new sm1 nwr0
          have hw2 : upd H1 wr (.lst ((ws ++ [Str.ofString "("]).map V.str)) wr = some (.lst ((ws ++ [Str.ofString "("]).map V.str)) := upd_same
          have hl2 : upd H1 wr (.lst ((ws ++ [Str.ofString "("]).map V.str)) l = some (.lst ys) := upd_other lw hl1
          have hb2 := tpw _ _ hb
          have hR2 := hR1.mono tpw
          have hO3 := hO2.mono tpw
          have hn2 := NVs.mono tpw hns
          generalize upd H1 wr (.lst ((ws ++ [Str.ofString "("]).map V.str)) = H2 at sm2 hw2 hl2 hb2 hR2 hO3 hn2
          clear sm1 hw1 hl1 hb hR1 hO2 hns tpw hn hc1
          refine q_tupK (Nat.le_of_ble_eq_true rfl) fun t2 nt2 => ?_
          walk_at "my_rd"
          have t2l : t2 ≠ l := (ne_of_none hl2 nt2).symm
          refine q_append (upd_new nt2 hl2) (by omega) ?_
          walk_at "my_rd"
          have tp2 : ∀ b zs, H2 b = some (.tup zs) → upd (upd H2 t2 (.tup [.str ")", .bl true])) l (.lst (ys ++ [.ref t2])) b = some (.tup zs) := fun b zs q => upd_other (ne_of q hl2 (by intro z; cases z)) (upd_new nt2 q)
          have sm3 : Same H (upd (upd H2 t2 (.tup [.str ")", .bl true])) l (.lst (ys ++ [.ref t2]))) := Same.new (Same.up sm2 nt2) nl0
          have hw3 : upd (upd H2 t2 (.tup [.str ")", .bl true])) l (.lst (ys ++ [.ref t2])) wr = some (.lst ((ws ++ [Str.ofString "("]).map V.str)) := upd_other nwl (upd_new nt2 hw2)
          have hl3 : upd (upd H2 t2 (.tup [.str ")", .bl true])) l (.lst (ys ++ [.ref t2])) l = some (.lst (ys ++ [.ref t2])) := upd_same
          have hb3 := tp2 _ _ hb2
          have hR3 : RowsAt pB (upd (upd H2 t2 (.tup [.str ")", .bl true])) l (.lst (ys ++ [.ref t2]))) (ys ++ [.ref t2]) (M.reverse ++ [(.str ")", true)]) := RowsAt.snoc (hR2.mono tp2) (upd_other t2l upd_same)
          have hO4 := hO3.mono tp2
          have hn3 := NVs.mono tp2 hn2
          generalize upd (upd H2 t2 (.tup [.str ")", .bl true])) l (.lst (ys ++ [.ref t2])) = H3 at sm3 hw3 hl3 hb3 hR3 hO4 hn3
          clear sm2 hw2 hl2 hb2 hR2 hO3 hn2 tp2 nt2
          have hvl := NVs.len hn3
          have e1 : siz (.tup ks) = 2 + sizs ks := rfl
          walk_at "my_rd"
          refine ⟨b, vs, rfl, hb3, by omega, fun p2 H4 zs np2 sm4 hp2 hRz => ?_⟩
          have hl4 := sm4 _ _ hl3
          have hzl : zs.length ≤ 2 * vs.length := by
            have h1 := hRz.len
            rw [List.length_reverse] at h1
            have := pr_len vs
            omega
          walk_at "my_rd"
          refine ⟨l, p2, _, zs, rfl, rfl, hl4, hp2, by rw [List.length_append]; show ys.length + 1 + _ ≤ _; omega, ?_⟩
          walk_at "my_rd"
          have tp4 : ∀ b zs', H4 b = some (.tup zs') → upd H4 l (.lst (ys ++ [.ref t2] ++ zs)) b = some (.tup zs') := fun b zs' q => upd_other (ne_of q hl4 (by intro z; cases z)) q
          have hO5 := OutN.sign (s := Str.ofString ")") (hO4.mono fun b zs' q => tp4 _ _ (sm4 _ _ q))
          have hn5 := NVs.mono (fun b zs' q => tp4 _ _ (sm4 _ _ q)) hn3
          obtain ⟨m2, hm2, hO6⟩ := outP hn5 hv hs hO5
          have hR5 := (hR3.mono fun b zs' q => tp4 _ _ (sm4 _ _ q)).app (hRz.mono tp4)
          have eR : M.reverse ++ [(V.str ")", true)] ++ (pr vs).reverse = (pr vs ++ ((.str (Str.ofString ")"), true) :: M)).reverse := by
            rw [List.reverse_append, List.reverse_cons]
          rw [eR] at hR5
          refine ⟨m2, by omega, ws ++ [Str.ofString "("], _, _, _, _, _, rfl, Same.new (Same.trans sm3 sm4) nl0, upd_other nwl (sm4 _ _ hw3), upd_same, hR5, hO6, ?_, by omega, by rw [List.length_append]; show ws.length + 1 + _ ≤ _; omega⟩
          rw [List.map_append, List.flatten_append, ← ho]
          show (ws.map tl).flatten ++ [[40]].flatten ++ (wrsL ks ++ ([41] ++ o')) = (ws.map tl).flatten ++ (40 :: (wrsL ks ++ [41]) ++ o')
          simp [List.append_assoc]
end

local macro_rules | `(tactic| walk_at "my_rd") => `(tactic| (repeat first
  | with_reducible refine q_tCons ?_
  | ((with_reducible apply q_var); (focus (exact rfl)))
  | with_reducible refine q_c ?_
  | with_reducible refine q_nx ?_
  | with_reducible refine q_bK ?_
  | with_reducible refine q_call ?_
  | with_reducible refine q_callK ?_
  | with_reducible refine q_tNil ?_
  | with_reducible refine q_cb ?_
  | with_reducible refine q_seq ?_
  | with_reducible refine q_asg ?_
  | with_reducible refine q_gName ?_
  | with_reducible refine q_op ?_
  | with_reducible refine q_test ?_
  | with_reducible refine q_tB ?_
  | with_reducible refine q_ifS ?_
  | with_reducible refine q_ret ?_
  | with_reducible refine q_rt ?_
  | with_reducible refine q_next ?_
  | with_reducible refine q_ifF ?_
  | with_reducible refine q_ifT ?_
  | with_reducible refine q_drop ?_
  | with_reducible refine q_and ?_
  | with_reducible refine q_or ?_
  | with_reducible refine q_andT ?_
  | with_reducible refine q_andF ?_
  | with_reducible refine q_orF ?_
  | with_reducible refine q_orT ?_
  | with_reducible refine q_andV ?_
  | with_reducible refine q_andVT ?_
  | with_reducible refine q_andVF ?_
  | with_reducible refine q_orV ?_
  | with_reducible refine q_gCons ?_
  | with_reducible refine q_gNil ?_
  | with_reducible refine q_tup ?_
  | with_reducible refine q_lst ?_
  | with_reducible refine q_not ?_
  | with_reducible refine q_notKT ?_
  | with_reducible refine q_notKF ?_
  | with_reducible refine q_I0 ?_
  | with_reducible refine q_eqI ?_
  | with_reducible refine q_neI ?_
  | ((with_reducible refine q_I ?_ ?_); first | decide | omega | exact ⟨by omega, by omega⟩ | exact ⟨by decide, by decide⟩ | exact .inl ⟨by omega, by omega⟩ | exact .inr ⟨by omega, by omega⟩ | exact .inr ⟨by decide, by decide⟩)
  | with_reducible refine q_eqS ?_
  | with_reducible refine q_neS ?_
  | with_reducible refine q_brk ?_
  | with_reducible refine q_ct ?_
  | with_reducible refine q_bk ?_
  | with_reducible refine q_cn ?_
  | with_reducible refine q_retN ?_
  | with_reducible refine q_gSub ?_
  | with_reducible refine q_for ?_
  | with_reducible refine q_iList ?_
  | with_reducible refine q_iTup ?_
  | with_reducible refine q_iRng1 ?_
  | with_reducible refine q_notK ?_
  | with_reducible refine q_orVT ?_
  | with_reducible refine q_orVF ?_
  | with_reducible refine q_notV ?_
  | with_reducible refine q_notVK ?_
  | with_reducible refine q_ifE ?_
  | with_reducible refine q_ifET ?_
  | with_reducible refine q_ifEF ?_
  | with_reducible refine q_yes ?_
  | with_reducible refine q_un ?_
  | with_reducible refine q_rU ?_
  | with_reducible refine q_abs ?_
  | with_reducible refine q_int1 ?_
  | with_reducible refine q_bm ?_
  | with_reducible refine q_bm0 ?_
  | with_reducible refine q_lc ?_
  | with_reducible refine q_keepT ?_
  | with_reducible refine q_keepF ?_
  | ((with_reducible apply q_aug); (focus (exact rfl)))
  | with_reducible refine q_ipI ?_
  | with_reducible refine q_chain ?_
  | with_reducible refine q_pairC ?_
  | with_reducible refine q_pairsK ?_
  | with_reducible refine q_pairN ?_
  | with_reducible refine q_fld ?_
  | with_reducible refine q_sFld ?_
  | with_reducible refine q_meth ?_
  | with_reducible refine q_makeK ?_
  | with_reducible refine q_isBl ?_
  | with_reducible refine q_notBl ?_
  | with_reducible refine q_sl ?_
  | with_reducible refine q_noPart ?_
  | with_reducible refine q_part ?_
  | with_reducible refine q_partK ?_
  | ((with_reducible apply q_mulStr); (focus (decide +kernel)))
  | with_reducible refine q_chT ?_
  | with_reducible refine q_chF ?_
  | with_reducible refine q_ord ?_
  | with_reducible refine q_iStr0 ?_
  | with_reducible refine q_iStr ?_
  | with_reducible refine q_tDIn ?_
  | with_reducible refine q_tDNotIn ?_
  | with_reducible refine q_tDGet ?_
  | with_reducible refine q_tDGet2 ?_
  | with_reducible refine q_tDGet1 ?_
  | with_reducible refine q_tDSetd ?_
  | ((with_reducible apply q_dG2a); (focus ((repeat first | (with_reducible exact upd_same) | (with_reducible assumption) | (with_reducible apply upd_new (by assumption)) | (with_reducible apply upd_other (by first | assumption | exact Ne.symm (by assumption))) | (with_reducible refine' Kp.get (by assumption) ?_ (by first | assumption | exact Ne.symm (by assumption))) | (with_reducible apply Same.get (by assumption))); done)))
  | ((with_reducible apply q_dSda); (focus ((repeat first | (with_reducible exact upd_same) | (with_reducible assumption) | (with_reducible apply upd_new (by assumption)) | (with_reducible apply upd_other (by first | assumption | exact Ne.symm (by assumption))) | (with_reducible refine' Kp.get (by assumption) ?_ (by first | assumption | exact Ne.symm (by assumption))) | (with_reducible apply Same.get (by assumption))); done)))
  | with_reducible refine q_sDPut ?_
  | ((with_reducible apply q_dInS); (focus ((repeat first | (with_reducible exact upd_same) | (with_reducible assumption) | (with_reducible apply upd_new (by assumption)) | (with_reducible apply upd_other (by first | assumption | exact Ne.symm (by assumption))) | (with_reducible refine' Kp.get (by assumption) ?_ (by first | assumption | exact Ne.symm (by assumption))) | (with_reducible apply Same.get (by assumption))); done)))
  | ((with_reducible apply q_dNInS); (focus ((repeat first | (with_reducible exact upd_same) | (with_reducible assumption) | (with_reducible apply upd_new (by assumption)) | (with_reducible apply upd_other (by first | assumption | exact Ne.symm (by assumption))) | (with_reducible refine' Kp.get (by assumption) ?_ (by first | assumption | exact Ne.symm (by assumption))) | (with_reducible apply Same.get (by assumption))); done)))
  | ((with_reducible apply q_dInI); (focus ((repeat first | (with_reducible exact upd_same) | (with_reducible assumption) | (with_reducible apply upd_new (by assumption)) | (with_reducible apply upd_other (by first | assumption | exact Ne.symm (by assumption))) | (with_reducible refine' Kp.get (by assumption) ?_ (by first | assumption | exact Ne.symm (by assumption))) | (with_reducible apply Same.get (by assumption))); done)))
  | ((with_reducible apply q_dNInI); (focus ((repeat first | (with_reducible exact upd_same) | (with_reducible assumption) | (with_reducible apply upd_new (by assumption)) | (with_reducible apply upd_other (by first | assumption | exact Ne.symm (by assumption))) | (with_reducible refine' Kp.get (by assumption) ?_ (by first | assumption | exact Ne.symm (by assumption))) | (with_reducible apply Same.get (by assumption))); done)))
  | ((with_reducible apply q_bmL); (focus ((repeat first | (with_reducible exact upd_same) | (with_reducible assumption) | (with_reducible apply upd_new (by assumption)) | (with_reducible apply upd_other (by first | assumption | exact Ne.symm (by assumption))) | (with_reducible refine' Kp.get (by assumption) ?_ (by first | assumption | exact Ne.symm (by assumption))) | (with_reducible apply Same.get (by assumption))); done)))
  | ((with_reducible apply q_bmL0); (focus ((repeat first | (with_reducible exact upd_same) | (with_reducible assumption) | (with_reducible apply upd_new (by assumption)) | (with_reducible apply upd_other (by first | assumption | exact Ne.symm (by assumption))) | (with_reducible refine' Kp.get (by assumption) ?_ (by first | assumption | exact Ne.symm (by assumption))) | (with_reducible apply Same.get (by assumption))); done)))
  | ((with_reducible apply q_ixLt); (focus ((repeat first | (with_reducible exact upd_same) | (with_reducible assumption) | (with_reducible apply upd_new (by assumption)) | (with_reducible apply upd_other (by first | assumption | exact Ne.symm (by assumption))) | (with_reducible refine' Kp.get (by assumption) ?_ (by first | assumption | exact Ne.symm (by assumption))) | (with_reducible apply Same.get (by assumption))); done)); (focus (exact rfl)))
  | ((with_reducible apply q_ixTt); (focus ((repeat first | (with_reducible exact upd_same) | (with_reducible assumption) | (with_reducible apply upd_new (by assumption)) | (with_reducible apply upd_other (by first | assumption | exact Ne.symm (by assumption))) | (with_reducible refine' Kp.get (by assumption) ?_ (by first | assumption | exact Ne.symm (by assumption))) | (with_reducible apply Same.get (by assumption))); done)); (focus (exact rfl)))
  | ((with_reducible apply q_lenLt); (focus ((repeat first | (with_reducible exact upd_same) | (with_reducible assumption) | (with_reducible apply upd_new (by assumption)) | (with_reducible apply upd_other (by first | assumption | exact Ne.symm (by assumption))) | (with_reducible refine' Kp.get (by assumption) ?_ (by first | assumption | exact Ne.symm (by assumption))) | (with_reducible apply Same.get (by assumption))); done)))
  | ((with_reducible apply q_lenTt); (focus ((repeat first | (with_reducible exact upd_same) | (with_reducible assumption) | (with_reducible apply upd_new (by assumption)) | (with_reducible apply upd_other (by first | assumption | exact Ne.symm (by assumption))) | (with_reducible refine' Kp.get (by assumption) ?_ (by first | assumption | exact Ne.symm (by assumption))) | (with_reducible apply Same.get (by assumption))); done)))
  | ((with_reducible apply q_append); (focus ((repeat first | (with_reducible exact upd_same) | (with_reducible assumption) | (with_reducible apply upd_new (by assumption)) | (with_reducible apply upd_other (by first | assumption | exact Ne.symm (by assumption))) | (with_reducible refine' Kp.get (by assumption) ?_ (by first | assumption | exact Ne.symm (by assumption))) | (with_reducible apply Same.get (by assumption))); done)); (focus ((first | (exact Nat.lt_of_ble_eq_true rfl) | (simp only [List.length_append, List.length_cons, List.length_nil, List.length_map]; exact small1000 (by omega))))))
  | ((with_reducible apply q_setL); (focus ((repeat first | (with_reducible exact upd_same) | (with_reducible assumption) | (with_reducible apply upd_new (by assumption)) | (with_reducible apply upd_other (by first | assumption | exact Ne.symm (by assumption))) | (with_reducible refine' Kp.get (by assumption) ?_ (by first | assumption | exact Ne.symm (by assumption))) | (with_reducible apply Same.get (by assumption))); done)); (focus (exact rfl)))
  | with_reducible refine q_ifNT ?_
  | with_reducible refine q_ifNF ?_
  | with_reducible refine q_andNT ?_
  | with_reducible refine q_andNF ?_
  | with_reducible refine q_orNT ?_
  | with_reducible refine q_orNF ?_
  | with_reducible refine q_bKNT ?_
  | with_reducible refine q_bKNF ?_
  | with_reducible refine q_tNGet ?_
  | with_reducible refine q_tNIn ?_
  | with_reducible refine q_sNPut ?_
  | with_reducible refine q_sFldAug ?_
  | with_reducible refine q_sDAug ?_
  | with_reducible refine q_sDDel ?_
  | with_reducible refine q_forX ?_
  | with_reducible refine q_tMake ?_
  | ((with_reducible apply q_dG1a); (focus ((repeat first | (with_reducible exact upd_same) | (with_reducible assumption) | (with_reducible apply upd_new (by assumption)) | (with_reducible apply upd_other (by first | assumption | exact Ne.symm (by assumption))) | (with_reducible refine' Kp.get (by assumption) ?_ (by first | assumption | exact Ne.symm (by assumption))) | (with_reducible apply Same.get (by assumption))); done)))))
open TL
/-! reading, over the signs -/
open PySem.NumText in
abbrev dval (d : List Nat) : Nat := digitsVal d
def dgB (c : Nat) : Bool := decide (48 ≤ c) && decide (c ≤ 57)
def dsp (r : List Nat) : List Nat := r.takeWhile dgB
def okd (m : Nat) (d : List Nat) : Bool := decide (1 ≤ d.length) && (decide (d.length ≤ m) && (decide (d = [48]) || !decide (d[0]? = some 48)))
theorem dgB_iff {c : Nat} : dgB c = true ↔ 48 ≤ c ∧ c ≤ 57 := by unfold dgB; simp
theorem dsp_all (r : List Nat) : ∀ c ∈ dsp r, 48 ≤ c ∧ c ≤ 57 := by
  induction r with
  | nil => simp [dsp]
  | cons x r ih =>
    intro c hc
    unfold dsp at hc
    rw [List.takeWhile_cons] at hc
    split at hc
    · rename_i h
      rcases List.mem_cons.mp hc with rfl | hc
      · exact dgB_iff.mp h
      · exact ih c hc
    · cases hc
theorem dsp_cut (r : List Nat) : dsp r ++ r.drop (dsp r).length = r := by
  induction r with
  | nil => rfl
  | cons x r ih =>
    unfold dsp at ih ⊢
    rw [List.takeWhile_cons]
    split
    · show x :: (_ ++ _) = x :: r
      rw [List.length_cons, List.drop_succ_cons, ih]
    · rfl
theorem dsp_len (r : List Nat) : (dsp r).length ≤ r.length := by
  have := congrArg List.length (dsp_cut r)
  rw [List.length_append] at this
  omega
theorem dsp_take (r : List Nat) : r.take (dsp r).length = dsp r := by
  have := congrArg (List.take (dsp r).length) (dsp_cut r)
  rw [List.take_left'] at this
  · exact this.symm
  · rfl
theorem code_back : ∀ c, 48 ≤ c ∧ c ≤ 57 → (Char.ofNat c).toNat = c := by
  intro c h
  have : c = 48 ∨ c = 49 ∨ c = 50 ∨ c = 51 ∨ c = 52 ∨ c = 53 ∨ c = 54 ∨ c = 55 ∨ c = 56 ∨ c = 57 := by omega
  rcases this with rfl | rfl | rfl | rfl | rfl | rfl | rfl | rfl | rfl | rfl <;> rfl
theorem okd_num {m : Nat} {d : List Nat} (h : okd m d = true) (hd : ∀ c ∈ d, 48 ≤ c ∧ c ≤ 57) : numL (dval d) = d := by
  unfold okd at h
  rw [Bool.and_eq_true, Bool.and_eq_true, Bool.or_eq_true, decide_eq_true_eq, decide_eq_true_eq, decide_eq_true_eq] at h
  obtain ⟨h1, _, h3⟩ := h
  have e := PySem.NumText.toDigits_digitsVal (d.length - 1) d (by omega) hd (by
    rcases h3 with h3 | h3
    · left; rw [h3]; rfl
    · right
      cases d with
      | nil => simp at h1
      | cons c r =>
        refine ⟨c, r, rfl, ?_⟩
        have := hd c (List.mem_cons_self ..)
        have : c ≠ 48 := fun q => by rw [q] at h3; simp at h3
        omega)
  show (Nat.toDigits 10 (dval d)).map Char.toNat = d
  rw [show Nat.toDigits 10 (dval d) = d.map Char.ofNat from e, List.map_map]
  have : ∀ l : List Nat, (∀ c ∈ l, 48 ≤ c ∧ c ≤ 57) → l.map (Char.toNat ∘ Char.ofNat) = l := by
    intro l
    induction l with
    | nil => intro _; rfl
    | cons x r ih =>
      intro hl
      rw [List.map_cons, ih fun c hc => hl c (List.mem_cons_of_mem _ hc)]
      show (Char.ofNat x).toNat :: r = x :: r
      rw [code_back x (hl x (List.mem_cons_self ..))]
  exact this d hd
theorem dval_lt : ∀ (n : Nat) (d : List Nat), d.length = n → (∀ c ∈ d, 48 ≤ c ∧ c ≤ 57) → dval d < 10 ^ n
  | 0, d, h, _ => by
    rw [List.length_eq_zero_iff.mp h]
    show 0 < 1
    omega
  | n + 1, d, h, hd => by
    have hne : d ≠ [] := by intro e; rw [e] at h; simp at h
    have e := List.dropLast_concat_getLast hne
    have hl : d.dropLast.length = n := by rw [List.length_dropLast]; omega
    generalize d.dropLast = i at e hl
    generalize d.getLast hne = c at e
    subst e
    have hi := dval_lt n i hl fun c hc => hd c (List.mem_append_left _ hc)
    have hc := hd c (List.mem_append_right _ (List.mem_singleton.mpr rfl))
    show PySem.NumText.digitsVal (i ++ [c]) < _
    rw [PySem.NumText.digitsVal_snoc, Nat.pow_succ]
    have hi : PySem.NumText.digitsVal i < 10 ^ n := hi
    omega
theorem okd_len {m : Nat} {d : List Nat} (h : okd m d = true) : 1 ≤ d.length ∧ d.length ≤ m := by
  unfold okd at h
  rw [Bool.and_eq_true, Bool.and_eq_true, decide_eq_true_eq, decide_eq_true_eq] at h
  exact ⟨h.1, h.2.1⟩
abbrev Par := List Nat → Option (NestedKey × List Nat)
def pNeg : Par := fun r => if okd 40 (dsp r) = true then (if dsp r = [48] then none else some (.num (-(dval (dsp r) : Int)), r.drop (dsp r).length)) else none
def pTxt (d : List Nat) : Par := fun r => if d.length ≤ 9 then (if dval d ≤ r.length then some (.text (strL (r.take (dval d))), r.drop (dval d)) else none) else none
def pAft (d : List Nat) : Par := fun q => if q.head? = some 58 then pTxt d q.tail else some (.num (dval d : Int), q)
def pPos : Par := fun r => if okd 40 (dsp r) = true then pAft (dsp r) (r.drop (dsp r).length) else none
def pv1 (F : Par) : Par := fun r => if r.head? = some 40 then F r.tail else if r.head? = some 45 then pNeg r.tail else pPos r
def pLoop (G : Par) : Nat → List Nat → List NestedKey → Option (NestedKey × List Nat)
  | 0, r, ks => if r.head? = some 41 then some (.tup ks, r.tail) else none
  | f + 1, r, ks => if r.head? = some 44 then (match G r.tail with | none => none | some (k, q) => pLoop G f q (ks ++ [k])) else if r.head? = some 41 then some (.tup ks, r.tail) else none
def pTup (G : Par) : Par := fun r => if r.head? = some 41 then some (.tup [], r.tail) else match G r with | none => none | some (k, q) => pLoop G q.length q [k]
def par : Nat → Par
  | 0 => pv1 fun _ => none
  | n + 1 => pv1 (pTup (par n))
def rdL (l : List Nat) : Option NestedKey := match par 10 l with | some (k, []) => some k | _ => none
theorem headT {r : List Nat} {c : Nat} (h : r.head? = some c) : r = c :: r.tail := by
  cases r with
  | nil => cases h
  | cons x r => rw [Option.some.inj h]; rfl
theorem hd_pos {α : Type} {c : Nat} {t : List Nat} {a b : α} : (if (c :: t).head? = some c then a else b) = a := if_pos rfl
/-! what is read is what is written -/
def Snd (G : Par) : Prop := ∀ r k q, G r = some (k, q) → isV k = true ∧ smallV k ∧ wrL k ++ q = r
theorem pNeg_snd {r : List Nat} {k : NestedKey} {q : List Nat} (h : pNeg r = some (k, q)) : isV k = true ∧ smallV k ∧ wrL k ++ q = 45 :: r := by
  unfold pNeg at h
  split at h
  · rename_i ho
    split at h
    · cases h
    · rename_i hz
      cases h
      have hn := okd_num ho (dsp_all r)
      have hl := okd_len ho
      have hv := dval_lt _ _ rfl (dsp_all r)
      have hv2 : dval (dsp r) < 10 ^ 40 := Nat.lt_of_lt_of_le hv (Nat.pow_le_pow_right (by omega) hl.2)
      have h0 : 0 < dval (dsp r) := by
        rcases Nat.eq_zero_or_pos (dval (dsp r)) with e | e
        · rw [e] at hn
          exact absurd hn.symm hz
        · exact e
      refine ⟨rfl, ?_, ?_⟩
      · show (-(dval (dsp r) : Int)).natAbs < 10 ^ 64
        exact Nat.lt_of_le_of_lt (by omega) (Nat.lt_of_lt_of_le hv2 (Nat.pow_le_pow_right (by omega) (by omega)))
      · show intL (-(dval (dsp r) : Int)) ++ _ = _
        unfold intL
        rw [if_pos (by omega), show (-(dval (dsp r) : Int)).natAbs = dval (dsp r) by omega, hn]
        show 45 :: (dsp r ++ r.drop (dsp r).length) = _
        rw [dsp_cut]
  · cases h
theorem pPos_snd {r : List Nat} {k : NestedKey} {q : List Nat} (h : pPos r = some (k, q)) : isV k = true ∧ smallV k ∧ wrL k ++ q = r := by
  unfold pPos at h
  split at h
  · rename_i ho
    have hn := okd_num ho (dsp_all r)
    have hl := okd_len ho
    have hv := dval_lt _ _ rfl (dsp_all r)
    have hv2 : dval (dsp r) < 10 ^ 40 := Nat.lt_of_lt_of_le hv (Nat.pow_le_pow_right (by omega) hl.2)
    unfold pAft at h
    split at h
    · rename_i hc
      have hr := headT hc
      unfold pTxt at h
      split at h
      · split at h
        · rename_i hle
          cases h
          refine ⟨rfl, trivial, ?_⟩
          show (numL (strL ((r.drop (dsp r).length).tail.take (dval (dsp r)))).length ++ 58 :: tl (strL ((r.drop (dsp r).length).tail.take (dval (dsp r))))) ++ _ = _
          rw [tl_len, tl_strL, List.length_take, Nat.min_eq_left hle, hn, List.append_assoc]
          show dsp r ++ 58 :: (_ ++ _) = _
          rw [List.take_append_drop, ← hr, dsp_cut]
        · cases h
      · cases h
    · cases h
      refine ⟨rfl, ?_, ?_⟩
      · show ((dval (dsp r) : Nat) : Int).natAbs < 10 ^ 64
        exact Nat.lt_of_le_of_lt (by omega) (Nat.lt_of_lt_of_le hv2 (Nat.pow_le_pow_right (by omega) (by omega)))
      · show intL ((dval (dsp r) : Nat) : Int) ++ _ = _
        unfold intL
        rw [if_neg (by omega), show ((dval (dsp r) : Nat) : Int).natAbs = dval (dsp r) by omega, hn, List.nil_append, dsp_cut]
  · cases h
theorem isVs_app : ∀ {ks : List NestedKey} {k : NestedKey}, isVs ks = true → isV k = true → isVs (ks ++ [k]) = true
  | [], k, _, h => by show (isV k && true) = true; rw [h]; rfl
  | x :: ks, k, h, h2 => by
    have h : (isV x && isVs ks) = true := h
    rw [Bool.and_eq_true] at h
    show (isV x && isVs (ks ++ [k])) = true
    rw [h.1, isVs_app h.2 h2]
    rfl
theorem smallVs_app : ∀ {ks : List NestedKey} {k : NestedKey}, smallVs ks → smallV k → smallVs (ks ++ [k])
  | [], _, _, h => ⟨h, trivial⟩
  | _ :: _, _, h, h2 => ⟨h.1, smallVs_app h.2 h2⟩
theorem wrTail_app : ∀ (ks : List NestedKey) (k : NestedKey), wrTail (ks ++ [k]) = wrTail ks ++ 44 :: wrL k
  | [], k => by show 44 :: (wrL k ++ []) = _; rw [List.append_nil]; rfl
  | x :: ks, k => by
    show 44 :: (wrL x ++ wrTail (ks ++ [k])) = (44 :: (wrL x ++ wrTail ks)) ++ 44 :: wrL k
    rw [wrTail_app ks k]
    simp
theorem wrsL_app {ks : List NestedKey} {k : NestedKey} (h : ks ≠ []) : wrsL (ks ++ [k]) = wrsL ks ++ 44 :: wrL k := by
  cases ks with
  | nil => exact absurd rfl h
  | cons x ks =>
    show wrL x ++ wrTail (ks ++ [k]) = (wrL x ++ wrTail ks) ++ 44 :: wrL k
    rw [wrTail_app, List.append_assoc]
theorem pLoop_snd {G : Par} (hG : Snd G) : ∀ (f : Nat) (r : List Nat) (ks : List NestedKey) (k : NestedKey) (q : List Nat), pLoop G f r ks = some (k, q) → ks ≠ [] → isVs ks = true → smallVs ks → isV k = true ∧ smallV k ∧ wrL k ++ q = 40 :: (wrsL ks ++ r)
  | 0, r, ks, k, q, h, hk, h1, h2 => by
    unfold pLoop at h
    split at h
    · rename_i hc
      cases h
      refine ⟨h1, h2, ?_⟩
      show (40 :: (wrsL ks ++ [41])) ++ r.tail = _
      rw [List.cons_append, List.append_assoc]
      show 40 :: (wrsL ks ++ 41 :: r.tail) = _
      rw [← headT hc]
    · cases h
  | f + 1, r, ks, k, q, h, hk, h1, h2 => by
    unfold pLoop at h
    split at h
    · rename_i hc
      split at h
      · cases h
      · rename_i k2 q2 hg
        obtain ⟨a, b, c⟩ := hG _ _ _ hg
        obtain ⟨d, e, g⟩ := pLoop_snd hG f q2 (ks ++ [k2]) k q h (by simp) (isVs_app h1 a) (smallVs_app h2 b)
        refine ⟨d, e, ?_⟩
        rw [g, wrsL_app hk, List.append_assoc, List.cons_append, c, ← headT hc]
    · split at h
      · rename_i hc
        cases h
        refine ⟨h1, h2, ?_⟩
        show (40 :: (wrsL ks ++ [41])) ++ r.tail = _
        rw [List.cons_append, List.append_assoc]
        show 40 :: (wrsL ks ++ 41 :: r.tail) = _
        rw [← headT hc]
      · cases h
def Snd40 (F : Par) : Prop := ∀ r k q, F r = some (k, q) → isV k = true ∧ smallV k ∧ wrL k ++ q = 40 :: r
theorem pTup_snd {G : Par} (hG : Snd G) : Snd40 (pTup G) := by
  intro r k q h
  unfold pTup at h
  split at h
  · rename_i hc
    cases h
    refine ⟨rfl, trivial, ?_⟩
    show 40 :: 41 :: r.tail = _
    rw [← headT hc]
  · split at h
    · cases h
    · rename_i k2 q2 hg
      obtain ⟨a, b, c⟩ := hG _ _ _ hg
      obtain ⟨d, e, g⟩ := pLoop_snd hG _ q2 [k2] k q h (by simp) (by show (isV k2 && true) = true; rw [a]; rfl) ⟨b, trivial⟩
      refine ⟨d, e, ?_⟩
      rw [g]
      show 40 :: ((wrL k2 ++ []) ++ q2) = _
      rw [List.append_nil, c]
theorem pv1_snd {F : Par} (hF : Snd40 F) : Snd (pv1 F) := by
  intro r k q h
  unfold pv1 at h
  split at h
  · rename_i hc
    have := hF _ _ _ h
    rwa [← headT hc] at this
  · split at h
    · rename_i hc
      have := pNeg_snd h
      rwa [← headT hc] at this
    · exact pPos_snd h
theorem par_snd : ∀ n, Snd (par n)
  | 0 => pv1_snd fun r k q h => by cases h
  | n + 1 => pv1_snd (pTup_snd (par_snd n))
theorem Snd.less {G : Par} (h : Snd G) {r : List Nat} {k : NestedKey} {q : List Nat} (e : G r = some (k, q)) : q.length < r.length := by
  obtain ⟨a, _, c⟩ := h _ _ _ e
  obtain ⟨x, t, hx, _⟩ := wr_head k a
  rw [← c, hx, List.length_append, List.length_cons]
  omega
theorem rdL_snd {l : List Nat} {k : NestedKey} (h : rdL l = some k) : isV k = true ∧ smallV k ∧ wrL k = l := by
  unfold rdL at h
  split at h
  · rename_i k2 hp
    cases h
    obtain ⟨a, b, c⟩ := par_snd 10 _ _ _ hp
    rw [List.append_nil] at c
    exact ⟨a, b, c⟩
  · cases h
/-! what is written is read -/
mutual
def vk : Nat → NestedKey → Bool
  | _, .none => false
  | _, .num i => decide (i.natAbs < 10 ^ 40)
  | _, .text s => decide (s.length < 10 ^ 9)
  | n, .tup ks => decide (0 < n) && vks (n - 1) ks
def vks : Nat → List NestedKey → Bool
  | _, [] => true
  | n, k :: ks => vk n k && vks n ks
end
theorem num_back (n : Nat) : dval (numL n) = n := PySem.W.KIN.val_back n
theorem num_ok {n m : Nat} (h : n < 10 ^ m) (hm : 1 ≤ m) : okd m (numL n) = true := by
  have h1 : (numL n).length ≤ m := by
    unfold numL
    rw [List.length_map]
    exact PyProof.Rows.digits10_le hm h
  obtain ⟨c, t, e, _⟩ := num_ne n
  unfold okd
  rw [Bool.and_eq_true, Bool.and_eq_true, Bool.or_eq_true, decide_eq_true_eq, decide_eq_true_eq, decide_eq_true_eq]
  refine ⟨by rw [e, List.length_cons]; omega, h1, ?_⟩
  by_cases hc : c = 48
  · left
    subst hc
    cases t with
    | nil => exact e
    | cons d t =>
      exfalso
      have hv := num_back n
      rw [e] at hv
      have hv : dval (d :: t) = n := hv
      have hlt := dval_lt _ (d :: t) rfl fun c hc => by
        have := num_dg n c (by rw [e]; exact List.mem_cons_of_mem _ hc)
        exact this
      rw [hv] at hlt
      have h2 : (numL n).length ≤ (d :: t).length := by
        unfold numL
        rw [List.length_map]
        exact PyProof.Rows.digits10_le (by simp) hlt
      rw [e, List.length_cons] at h2
      omega
  · right
    rw [e]
    simp [hc]
theorem dsp_num (n : Nat) {r : List Nat} (hr : nd r) : dsp (numL n ++ r) = numL n := by
  have : ∀ l : List Nat, (∀ c ∈ l, isDg c) → dsp (l ++ r) = l := by
    intro l
    induction l with
    | nil =>
      intro _
      rcases hr with e | ⟨c, t, e, h⟩
      · rw [e]; rfl
      · rw [e]
        show List.takeWhile dgB (c :: t) = []
        rw [List.takeWhile_cons, if_neg (fun q => h (dgB_iff.mp q))]
    | cons x l ih =>
      intro hl
      show List.takeWhile dgB (x :: (l ++ r)) = _
      rw [List.takeWhile_cons, if_pos (dgB_iff.mpr (hl x (List.mem_cons_self ..)))]
      have : dsp (l ++ r) = l := ih fun c hc => hl c (List.mem_cons_of_mem _ hc)
      unfold dsp at this
      rw [this]
  exact this _ (num_dg n)
theorem pv1_pos {F : Par} {c : Nat} {t : List Nat} (h1 : c ≠ 40) (h2 : c ≠ 45) : pv1 F (c :: t) = pPos (c :: t) := by
  unfold pv1
  rw [if_neg (by simp [h1]), if_neg (by simp [h2])]
theorem pPos_num {n : Nat} {r : List Nat} (h : n < 10 ^ 40) (hr : dl r) : pPos (numL n ++ r) = some (.num (n : Int), r) := by
  unfold pPos
  rw [dsp_num n hr.nd, if_pos (num_ok h (by omega)), List.drop_left' rfl]
  unfold pAft
  rw [if_neg (by rcases hr with e | ⟨c, t, e, q⟩ <;> rw [e] <;> simp <;> omega), num_back]
theorem pPos_txt {s : Str} {r : List Nat} (h : s.length < 10 ^ 9) : pPos ((numL s.length ++ 58 :: tl s) ++ r) = some (.text s, r) := by
  rw [List.append_assoc, List.cons_append]
  unfold pPos
  rw [dsp_num _ (nd58 _), if_pos (num_ok (Nat.lt_of_lt_of_le h (Nat.pow_le_pow_right (by omega) (by omega))) (by omega)), List.drop_left' rfl]
  unfold pAft
  rw [hd_pos]
  unfold pTxt
  have hl := okd_len (num_ok h (m := 9) (by omega))
  rw [if_pos hl.2, num_back]
  show (if s.length ≤ (tl s ++ r).length then some (NestedKey.text (strL ((tl s ++ r).take s.length)), (tl s ++ r).drop s.length) else none) = _
  rw [if_pos (by rw [List.length_append, tl_len]; omega), List.take_left' (tl_len s).symm, List.drop_left' (tl_len s).symm, strL_tl]
mutual
theorem par_wr : ∀ (k : NestedKey) (n : Nat) (r : List Nat), vk n k = true → dl r → par n (wrL k ++ r) = some (k, r)
  | .none, n, r, h, _ => by unfold vk at h; cases h
  | .num i, n, r, h, hr => by
    unfold vk at h
    have h := of_decide_eq_true h
    have e : ∃ F, par n = pv1 F := by cases n <;> exact ⟨_, rfl⟩
    obtain ⟨F, e⟩ := e
    rw [e]
    show pv1 F (intL i ++ r) = _
    unfold intL
    by_cases hi : i < 0
    · rw [if_pos hi]
      show pv1 F (45 :: (numL i.natAbs ++ r)) = _
      unfold pv1
      rw [if_neg (by simp), hd_pos]
      show pNeg (numL i.natAbs ++ r) = _
      unfold pNeg
      rw [dsp_num _ hr.nd, if_pos (num_ok h (by omega)), if_neg (fun q => by
        have := num_back i.natAbs
        rw [q] at this
        have : (0 : Nat) = i.natAbs := this
        omega), List.drop_left' rfl, num_back]
      rw [show -(i.natAbs : Int) = i by omega]
    · rw [if_neg hi, List.nil_append]
      obtain ⟨c, t, ec, hc⟩ := num_ne i.natAbs
      unfold isDg at hc
      have := pPos_num h hr
      rw [ec] at this ⊢
      rw [List.cons_append] at this ⊢
      rw [pv1_pos (by omega) (by omega), this, show (i.natAbs : Int) = i by omega]
  | .text s, n, r, h, hr => by
    unfold vk at h
    have h := of_decide_eq_true h
    have e : ∃ F, par n = pv1 F := by cases n <;> exact ⟨_, rfl⟩
    obtain ⟨F, e⟩ := e
    rw [e]
    show pv1 F ((numL s.length ++ 58 :: tl s) ++ r) = _
    obtain ⟨c, t, ec, hc⟩ := num_ne s.length
    unfold isDg at hc
    have := pPos_txt (r := r) h
    rw [ec] at this ⊢
    rw [List.cons_append, List.cons_append] at this ⊢
    rw [pv1_pos (by omega) (by omega), this]
  | .tup [], n, r, h, hr => by
    unfold vk at h
    rw [Bool.and_eq_true, decide_eq_true_eq] at h
    obtain ⟨n, rfl⟩ : ∃ m, n = m + 1 := ⟨n - 1, by omega⟩
    show pv1 (pTup (par n)) (40 :: 41 :: r) = _
    unfold pv1
    rw [hd_pos]
    show pTup (par n) (41 :: r) = _
    unfold pTup
    rw [hd_pos]
    rfl
  | .tup (k :: ks), n, r, h, hr => by
    unfold vk at h
    rw [Bool.and_eq_true, decide_eq_true_eq] at h
    obtain ⟨n, rfl⟩ : ∃ m, n = m + 1 := ⟨n - 1, by omega⟩
    have h2 : vks n (k :: ks) = true := h.2
    unfold vks at h2
    rw [Bool.and_eq_true] at h2
    show pv1 (pTup (par n)) (40 :: (((wrL k ++ wrTail ks) ++ [41]) ++ r)) = _
    unfold pv1
    rw [hd_pos]
    show pTup (par n) (((wrL k ++ wrTail ks) ++ [41]) ++ r) = _
    unfold pTup
    have e : ((wrL k ++ wrTail ks) ++ [41]) ++ r = wrL k ++ (wrTail ks ++ 41 :: r) := by simp
    rw [e]
    have hv : isV k = true := vk_isV k n h2.1
    obtain ⟨c, t, ec, hc⟩ := wr_head k hv
    unfold isDg at hc
    rw [if_neg (by rw [ec]; simp; omega), par_wr k n _ h2.1 (tail_dl ks r)]
    show pLoop (par n) _ _ [k] = _
    rw [loop_wr ks n r [k] _ h2.2 (Nat.le_refl _)]
    rfl
theorem loop_wr : ∀ (ks : List NestedKey) (n : Nat) (r : List Nat) (acc : List NestedKey) (f : Nat), vks n ks = true → (wrTail ks ++ 41 :: r).length ≤ f → pLoop (par n) f (wrTail ks ++ 41 :: r) acc = some (.tup (acc ++ ks), r)
  | [], n, r, acc, f, _, hf => by
    rw [List.append_nil]
    show pLoop (par n) f (41 :: r) acc = _
    cases f with
    | zero => unfold pLoop; rw [hd_pos]; rfl
    | succ f => unfold pLoop; rw [if_neg (by simp), hd_pos]; rfl
  | k :: ks, n, r, acc, f, h, hf => by
    unfold vks at h
    rw [Bool.and_eq_true] at h
    have e : wrTail (k :: ks) ++ 41 :: r = 44 :: (wrL k ++ (wrTail ks ++ 41 :: r)) := by
      show (44 :: (wrL k ++ wrTail ks)) ++ 41 :: r = _
      simp
    rw [e] at hf ⊢
    obtain ⟨f, rfl⟩ : ∃ g, f = g + 1 := ⟨f - 1, by rw [List.length_cons] at hf; omega⟩
    unfold pLoop
    rw [hd_pos]
    show (match par n (wrL k ++ (wrTail ks ++ 41 :: r)) with | none => none | some (k, q) => pLoop (par n) f q (acc ++ [k])) = _
    rw [par_wr k n _ h.1 (tail_dl ks r)]
    show pLoop (par n) f _ (acc ++ [k]) = _
    rw [loop_wr ks n r (acc ++ [k]) f h.2 (by rw [List.length_cons, List.length_append] at hf; omega), List.append_assoc]
    rfl
theorem vk_isV : ∀ (k : NestedKey) (n : Nat), vk n k = true → isV k = true
  | .none, n, h => by unfold vk at h; cases h
  | .num _, _, _ => rfl
  | .text _, _, _ => rfl
  | .tup ks, n, h => by
    unfold vk at h
    rw [Bool.and_eq_true] at h
    exact vks_isV ks _ h.2
theorem vks_isV : ∀ (ks : List NestedKey) (n : Nat), vks n ks = true → isVs ks = true
  | [], _, _ => rfl
  | k :: ks, n, h => by
    unfold vks at h
    rw [Bool.and_eq_true] at h
    show (isV k && isVs ks) = true
    rw [vk_isV k n h.1, vks_isV ks n h.2]
    rfl
end
theorem rdL_wr {k : NestedKey} (h : vk 10 k = true) : rdL (wrL k) = some k := by
  have := par_wr k 10 [] h (.inl rfl)
  rw [List.append_nil] at this
  unfold rdL
  rw [this]
theorem rdL_more {k : NestedKey} {c : Nat} {r : List Nat} (h : vk 10 k = true) (hr : dl (c :: r)) : rdL (wrL k ++ c :: r) = none := by
  unfold rdL
  rw [par_wr k 10 (c :: r) h hr]

local macro_rules | `(tactic| walk_at "my_rd") => `(tactic| (repeat first
  | with_reducible refine q_tCons ?_
  | ((with_reducible apply q_var); (focus (exact rfl)))
  | with_reducible refine q_c ?_
  | with_reducible refine q_nx ?_
  | with_reducible refine q_bK ?_
  | with_reducible refine q_call ?_
  | with_reducible refine q_callK ?_
  | with_reducible refine q_tNil ?_
  | with_reducible refine q_cb ?_
  | with_reducible refine q_seq ?_
  | with_reducible refine q_asg ?_
  | with_reducible refine q_gName ?_
  | with_reducible refine q_op ?_
  | with_reducible refine q_test ?_
  | with_reducible refine q_tB ?_
  | with_reducible refine q_ifS ?_
  | with_reducible refine q_ret ?_
  | with_reducible refine q_rt ?_
  | with_reducible refine q_next ?_
  | with_reducible refine q_ifF ?_
  | with_reducible refine q_ifT ?_
  | with_reducible refine q_drop ?_
  | with_reducible refine q_and ?_
  | with_reducible refine q_or ?_
  | with_reducible refine q_andT ?_
  | with_reducible refine q_andF ?_
  | with_reducible refine q_orF ?_
  | with_reducible refine q_orT ?_
  | with_reducible refine q_andV ?_
  | with_reducible refine q_andVT ?_
  | with_reducible refine q_andVF ?_
  | with_reducible refine q_orV ?_
  | with_reducible refine q_gCons ?_
  | with_reducible refine q_gNil ?_
  | with_reducible refine q_tup ?_
  | with_reducible refine q_lst ?_
  | with_reducible refine q_not ?_
  | with_reducible refine q_notKT ?_
  | with_reducible refine q_notKF ?_
  | with_reducible refine q_I0 ?_
  | with_reducible refine q_eqI ?_
  | with_reducible refine q_neI ?_
  | ((with_reducible refine q_I ?_ ?_); first | decide | omega | exact ⟨by omega, by omega⟩ | exact ⟨by decide, by decide⟩ | exact .inl ⟨by omega, by omega⟩ | exact .inr ⟨by omega, by omega⟩ | exact .inr ⟨by decide, by decide⟩)
  | with_reducible refine q_eqS ?_
  | with_reducible refine q_neS ?_
  | with_reducible refine q_brk ?_
  | with_reducible refine q_ct ?_
  | with_reducible refine q_bk ?_
  | with_reducible refine q_cn ?_
  | with_reducible refine q_retN ?_
  | with_reducible refine q_gSub ?_
  | with_reducible refine q_for ?_
  | with_reducible refine q_iList ?_
  | with_reducible refine q_iTup ?_
  | with_reducible refine q_iRng1 ?_
  | with_reducible refine q_notK ?_
  | with_reducible refine q_orVT ?_
  | with_reducible refine q_orVF ?_
  | with_reducible refine q_notV ?_
  | with_reducible refine q_notVK ?_
  | with_reducible refine q_ifE ?_
  | with_reducible refine q_ifET ?_
  | with_reducible refine q_ifEF ?_
  | with_reducible refine q_yes ?_
  | with_reducible refine q_un ?_
  | with_reducible refine q_rU ?_
  | with_reducible refine q_abs ?_
  | with_reducible refine q_int1 ?_
  | with_reducible refine q_bm ?_
  | with_reducible refine q_bm0 ?_
  | with_reducible refine q_lc ?_
  | with_reducible refine q_keepT ?_
  | with_reducible refine q_keepF ?_
  | ((with_reducible apply q_aug); (focus (exact rfl)))
  | with_reducible refine q_ipI ?_
  | with_reducible refine q_chain ?_
  | with_reducible refine q_pairC ?_
  | with_reducible refine q_pairsK ?_
  | with_reducible refine q_pairN ?_
  | with_reducible refine q_fld ?_
  | with_reducible refine q_sFld ?_
  | with_reducible refine q_meth ?_
  | with_reducible refine q_makeK ?_
  | with_reducible refine q_isBl ?_
  | with_reducible refine q_notBl ?_
  | with_reducible refine q_sl ?_
  | with_reducible refine q_noPart ?_
  | with_reducible refine q_part ?_
  | with_reducible refine q_partK ?_
  | ((with_reducible apply q_mulStr); (focus (decide +kernel)))
  | with_reducible refine q_chT ?_
  | with_reducible refine q_chF ?_
  | with_reducible refine q_ord ?_
  | with_reducible refine q_iStr0 ?_
  | with_reducible refine q_iStr ?_
  | with_reducible refine q_tDIn ?_
  | with_reducible refine q_tDNotIn ?_
  | with_reducible refine q_tDGet ?_
  | with_reducible refine q_tDGet2 ?_
  | with_reducible refine q_tDGet1 ?_
  | with_reducible refine q_tDSetd ?_
  | ((with_reducible apply q_dG2a); (focus ((repeat first | (with_reducible exact upd_same) | (with_reducible assumption) | (with_reducible apply upd_new (by assumption)) | (with_reducible apply upd_other (by first | assumption | exact Ne.symm (by assumption))) | (with_reducible refine' Kp.get (by assumption) ?_ (by first | assumption | exact Ne.symm (by assumption))) | (with_reducible apply Same.get (by assumption))); done)))
  | ((with_reducible apply q_dSda); (focus ((repeat first | (with_reducible exact upd_same) | (with_reducible assumption) | (with_reducible apply upd_new (by assumption)) | (with_reducible apply upd_other (by first | assumption | exact Ne.symm (by assumption))) | (with_reducible refine' Kp.get (by assumption) ?_ (by first | assumption | exact Ne.symm (by assumption))) | (with_reducible apply Same.get (by assumption))); done)))
  | with_reducible refine q_sDPut ?_
  | ((with_reducible apply q_dInS); (focus ((repeat first | (with_reducible exact upd_same) | (with_reducible assumption) | (with_reducible apply upd_new (by assumption)) | (with_reducible apply upd_other (by first | assumption | exact Ne.symm (by assumption))) | (with_reducible refine' Kp.get (by assumption) ?_ (by first | assumption | exact Ne.symm (by assumption))) | (with_reducible apply Same.get (by assumption))); done)))
  | ((with_reducible apply q_dNInS); (focus ((repeat first | (with_reducible exact upd_same) | (with_reducible assumption) | (with_reducible apply upd_new (by assumption)) | (with_reducible apply upd_other (by first | assumption | exact Ne.symm (by assumption))) | (with_reducible refine' Kp.get (by assumption) ?_ (by first | assumption | exact Ne.symm (by assumption))) | (with_reducible apply Same.get (by assumption))); done)))
  | ((with_reducible apply q_dInI); (focus ((repeat first | (with_reducible exact upd_same) | (with_reducible assumption) | (with_reducible apply upd_new (by assumption)) | (with_reducible apply upd_other (by first | assumption | exact Ne.symm (by assumption))) | (with_reducible refine' Kp.get (by assumption) ?_ (by first | assumption | exact Ne.symm (by assumption))) | (with_reducible apply Same.get (by assumption))); done)))
  | ((with_reducible apply q_dNInI); (focus ((repeat first | (with_reducible exact upd_same) | (with_reducible assumption) | (with_reducible apply upd_new (by assumption)) | (with_reducible apply upd_other (by first | assumption | exact Ne.symm (by assumption))) | (with_reducible refine' Kp.get (by assumption) ?_ (by first | assumption | exact Ne.symm (by assumption))) | (with_reducible apply Same.get (by assumption))); done)))
  | ((with_reducible apply q_bmL); (focus ((repeat first | (with_reducible exact upd_same) | (with_reducible assumption) | (with_reducible apply upd_new (by assumption)) | (with_reducible apply upd_other (by first | assumption | exact Ne.symm (by assumption))) | (with_reducible refine' Kp.get (by assumption) ?_ (by first | assumption | exact Ne.symm (by assumption))) | (with_reducible apply Same.get (by assumption))); done)))
  | ((with_reducible apply q_bmL0); (focus ((repeat first | (with_reducible exact upd_same) | (with_reducible assumption) | (with_reducible apply upd_new (by assumption)) | (with_reducible apply upd_other (by first | assumption | exact Ne.symm (by assumption))) | (with_reducible refine' Kp.get (by assumption) ?_ (by first | assumption | exact Ne.symm (by assumption))) | (with_reducible apply Same.get (by assumption))); done)))
  | ((with_reducible apply q_ixLt); (focus ((repeat first | (with_reducible exact upd_same) | (with_reducible assumption) | (with_reducible apply upd_new (by assumption)) | (with_reducible apply upd_other (by first | assumption | exact Ne.symm (by assumption))) | (with_reducible refine' Kp.get (by assumption) ?_ (by first | assumption | exact Ne.symm (by assumption))) | (with_reducible apply Same.get (by assumption))); done)); (focus (exact rfl)))
  | ((with_reducible apply q_ixTt); (focus ((repeat first | (with_reducible exact upd_same) | (with_reducible assumption) | (with_reducible apply upd_new (by assumption)) | (with_reducible apply upd_other (by first | assumption | exact Ne.symm (by assumption))) | (with_reducible refine' Kp.get (by assumption) ?_ (by first | assumption | exact Ne.symm (by assumption))) | (with_reducible apply Same.get (by assumption))); done)); (focus (exact rfl)))
  | ((with_reducible apply q_lenLt); (focus ((repeat first | (with_reducible exact upd_same) | (with_reducible assumption) | (with_reducible apply upd_new (by assumption)) | (with_reducible apply upd_other (by first | assumption | exact Ne.symm (by assumption))) | (with_reducible refine' Kp.get (by assumption) ?_ (by first | assumption | exact Ne.symm (by assumption))) | (with_reducible apply Same.get (by assumption))); done)))
  | ((with_reducible apply q_lenTt); (focus ((repeat first | (with_reducible exact upd_same) | (with_reducible assumption) | (with_reducible apply upd_new (by assumption)) | (with_reducible apply upd_other (by first | assumption | exact Ne.symm (by assumption))) | (with_reducible refine' Kp.get (by assumption) ?_ (by first | assumption | exact Ne.symm (by assumption))) | (with_reducible apply Same.get (by assumption))); done)))
  | ((with_reducible apply q_append); (focus ((repeat first | (with_reducible exact upd_same) | (with_reducible assumption) | (with_reducible apply upd_new (by assumption)) | (with_reducible apply upd_other (by first | assumption | exact Ne.symm (by assumption))) | (with_reducible refine' Kp.get (by assumption) ?_ (by first | assumption | exact Ne.symm (by assumption))) | (with_reducible apply Same.get (by assumption))); done)); (focus ((first | (exact Nat.lt_of_ble_eq_true rfl) | (simp only [List.length_append, List.length_cons, List.length_nil, List.length_map]; exact small1000 (by omega))))))
  | ((with_reducible apply q_setL); (focus ((repeat first | (with_reducible exact upd_same) | (with_reducible assumption) | (with_reducible apply upd_new (by assumption)) | (with_reducible apply upd_other (by first | assumption | exact Ne.symm (by assumption))) | (with_reducible refine' Kp.get (by assumption) ?_ (by first | assumption | exact Ne.symm (by assumption))) | (with_reducible apply Same.get (by assumption))); done)); (focus (exact rfl)))
  | with_reducible refine q_ifNT ?_
  | with_reducible refine q_ifNF ?_
  | with_reducible refine q_andNT ?_
  | with_reducible refine q_andNF ?_
  | with_reducible refine q_orNT ?_
  | with_reducible refine q_orNF ?_
  | with_reducible refine q_bKNT ?_
  | with_reducible refine q_bKNF ?_
  | with_reducible refine q_tNGet ?_
  | with_reducible refine q_tNIn ?_
  | with_reducible refine q_sNPut ?_
  | with_reducible refine q_sFldAug ?_
  | with_reducible refine q_sDAug ?_
  | with_reducible refine q_sDDel ?_
  | with_reducible refine q_forX ?_
  | with_reducible refine q_tMake ?_
  | ((with_reducible apply q_dG1a); (focus ((repeat first | (with_reducible exact upd_same) | (with_reducible assumption) | (with_reducible apply upd_new (by assumption)) | (with_reducible apply upd_other (by first | assumption | exact Ne.symm (by assumption))) | (with_reducible refine' Kp.get (by assumption) ?_ (by first | assumption | exact Ne.symm (by assumption))) | (with_reducible apply Same.get (by assumption))); done)))))
/-! sets of guards as data: names with weights -/
abbrev Gs := List (Str × Int)
def wsum (gs : Gs) : Int := (gs.map (·.2)).sum
structure PairsAt (H : Hp) (xs : List V) (gs : Gs) : Prop where
  len : xs.length = gs.length
  at_ : ∀ (i : Nat) (g : Str × Int), gs[i]? = some g → ∃ a, xs[i]? = some (.ref a) ∧ H a = some (.tup [.str g.1, .int g.2])
theorem PairsAt.nil {H : Hp} : PairsAt H [] [] := ⟨rfl, fun i g h => by simp at h⟩
theorem PairsAt.mono {H H' : Hp} {xs : List V} {gs : Gs} (h : PairsAt H xs gs) (e : ∀ b ys, H b = some (.tup ys) → H' b = some (.tup ys)) : PairsAt H' xs gs :=
  ⟨h.len, fun i g hg => by obtain ⟨a, h1, h2⟩ := h.at_ i g hg; exact ⟨a, h1, e _ _ h2⟩⟩
theorem PairsAt.same {H H' : Hp} {xs : List V} {gs : Gs} (h : PairsAt H xs gs) (e : Same H H') : PairsAt H' xs gs := h.mono fun b ys q => e b _ q
theorem PairsAt.item {H : Hp} {xs : List V} {gs : Gs} (h : PairsAt H xs gs) {i : Nat} {x : V} (hx : xs[i]? = some x) : ∃ g a, gs[i]? = some g ∧ x = .ref a ∧ H a = some (.tup [.str g.1, .int g.2]) := by
  have hi : i < gs.length := by rw [← h.len]; exact (List.getElem?_eq_some_iff.mp hx).1
  obtain ⟨a, h1, h2⟩ := h.at_ i gs[i] (List.getElem?_eq_getElem hi)
  exact ⟨gs[i], a, List.getElem?_eq_getElem hi, Option.some.inj (hx.symm.trans h1), h2⟩
theorem PairsAt.snoc {H : Hp} {xs : List V} {gs : Gs} {a : Addr} {g : Str × Int} (h : PairsAt H xs gs) (ha : H a = some (.tup [.str g.1, .int g.2])) : PairsAt H (xs ++ [.ref a]) (gs ++ [g]) := by
  refine ⟨by rw [List.length_append, List.length_append, h.len]; rfl, fun i g' hg => ?_⟩
  by_cases hi : i < gs.length
  · rw [List.getElem?_append_left hi] at hg
    rw [List.getElem?_append_left (by rw [h.len]; exact hi)]
    exact h.at_ i g' hg
  · have hi' : i = gs.length := by
      have := (List.getElem?_eq_some_iff.mp hg).1
      rw [List.length_append] at this
      simp at this
      omega
    subst hi'
    rw [List.getElem?_append_right (Nat.le_refl _)] at hg
    simp at hg
    subst hg
    refine ⟨a, ?_, ha⟩
    rw [List.getElem?_append_right (by rw [h.len]; exact Nat.le_refl _), h.len]
    simp
theorem take_snoc {α : Type} {l : List α} {i : Nat} {x : α} (h : l[i]? = some x) : l.take (i + 1) = l.take i ++ [x] := by
  rw [List.take_add_one, h]; rfl
theorem wsum_snoc (gs : Gs) (g : Str × Int) : wsum (gs ++ [g]) = wsum gs + g.2 := by
  unfold wsum; rw [List.map_append, List.sum_append]; simp
theorem wsum_nonneg {gs : Gs} (h : ∀ g ∈ gs, 1 ≤ g.2) : 0 ≤ wsum gs := by
  induction gs with
  | nil => exact Int.le_refl _
  | cons g r ih =>
    have h1 := h g (List.mem_cons_self ..)
    have h2 := ih fun x hx => h x (List.mem_cons_of_mem _ hx)
    show 0 ≤ (g.2 :: r.map (·.2)).sum
    rw [List.sum_cons]
    have h3 : 0 ≤ (r.map (·.2)).sum := h2
    omega
theorem wsum_pos {gs : Gs} (h : ∀ g ∈ gs, 1 ≤ g.2) (hn : gs ≠ []) : 1 ≤ wsum gs := by
  cases gs with
  | nil => exact absurd rfl hn
  | cons g r =>
    have h1 := h g (List.mem_cons_self ..)
    have h2 : 0 ≤ wsum r := wsum_nonneg fun x hx => h x (List.mem_cons_of_mem _ hx)
    show 1 ≤ (g.2 :: r.map (·.2)).sum
    rw [List.sum_cons]
    have h3 : 0 ≤ (r.map (·.2)).sum := h2
    omega
theorem wsum_le {gs : Gs} {m : Int} (h : ∀ g ∈ gs, g.2 ≤ m) : wsum gs ≤ m * gs.length := by
  induction gs with
  | nil => show (0 : Int) ≤ m * 0; omega
  | cons g r ih =>
    have h1 := h g (List.mem_cons_self ..)
    have h2 := ih fun x hx => h x (List.mem_cons_of_mem _ hx)
    have e : wsum (g :: r) = g.2 + wsum r := by show (g.2 :: r.map (·.2)).sum = _; rw [List.sum_cons]; rfl
    rw [e, List.length_cons, Int.natCast_add, Int.mul_add]
    omega
def thr (gs : Gs) : Int := wsum gs * 2 / 3 + 1
/-- a set's total, its bounds -/
structure GsOk (gs : Gs) : Prop where
  pos : ∀ g ∈ gs, 1 ≤ g.2
  top : ∀ g ∈ gs, g.2 ≤ 1000000
  few : gs.length ≤ 1000
theorem GsOk.lo {gs : Gs} (h : GsOk gs) : 0 ≤ wsum gs := wsum_nonneg h.pos
theorem GsOk.hi {gs : Gs} (h : GsOk gs) : wsum gs ≤ 1000000000 := by
  have h1 := wsum_le h.top
  have h2 := h.few
  omega
theorem GsOk.take {gs : Gs} (h : GsOk gs) (i : Nat) : GsOk (gs.take i) :=
  ⟨fun g hg => h.pos g (List.mem_of_mem_take hg), fun g hg => h.top g (List.mem_of_mem_take hg), by rw [List.length_take]; have := h.few; omega⟩
def sp_total (K : PySem.W.Frag) : Sp := fun vs H Q _ => ∃ (a : Addr) (xs : List V) (gs : Gs), vs = [.ref a] ∧ SqT K H a xs ∧ PairsAt H xs gs ∧ GsOk gs ∧ ∀ H', Same H H' → Q (.int (wsum gs)) H'
def sp_threshold (K : PySem.W.Frag) : Sp := fun vs H Q _ => ∃ (a : Addr) (xs : List V) (gs : Gs), vs = [.ref a] ∧ SqT K H a xs ∧ PairsAt H xs gs ∧ GsOk gs ∧ ∀ H', Same H H' → Q (.int (thr gs)) H'
def sp_minority (K : PySem.W.Frag) : Sp := fun vs H Q _ => ∃ (a : Addr) (xs : List V) (gs : Gs), vs = [.ref a] ∧ SqT K H a xs ∧ PairsAt H xs gs ∧ GsOk gs ∧ ∀ H', Same H H' → Q (.int (wsum gs - thr gs + 1)) H'

/-! the law's sets -/
def nm (k : Nat) : Str := ("g" : Str) ++ (toString (k : Int) : Str)
def allNames : List Str := (List.range 7).map nm
theorem allNames_nodup : allNames.Nodup := by decide +kernel
theorem allNames_len : allNames.length = 7 := rfl
/-- a drawn set -/
structure Drawn (gs : Gs) : Prop where
  ne : gs ≠ []
  few : gs.length ≤ 7
  nd : (gs.map (·.1)).Nodup
  nms : ∀ g ∈ gs, g.1 ∈ allNames
  pos : ∀ g ∈ gs, 1 ≤ g.2
  top : ∀ g ∈ gs, g.2 ≤ 50
theorem Drawn.ok {gs : Gs} (h : Drawn gs) : GsOk gs := ⟨h.pos, fun g hg => by have := h.top g hg; omega, by have := h.few; omega⟩
def sp_Lset : Sp := fun vs H Q _ => ∃ (p l : Addr) (m : Int), vs = [.ref p, .int m] ∧ PotAt H p l ∧ 0 < m ∧ m ≤ 7 ∧ ∀ (a : Addr) (xs : List V) (gs : Gs) (H' : Hp), H a = none → H' a = some (.tup xs) → PairsAt H' xs gs → Drawn gs → (gs.length : Int) ≤ m → PotAt H' p l → Kp p H H' → Q (.ref a) H'
theorem perm_eraseIdx {α : Type} : ∀ {l : List α} {n : Nat} {x : α}, l[n]? = some x → (x :: l.eraseIdx n).Perm l
  | [], _, _, h => by simp at h
  | a :: r, 0, x, h => by
    have e : a = x := Option.some.inj h
    subst e
    exact List.Perm.refl _
  | a :: r, n + 1, x, h => by
    have ih := perm_eraseIdx (l := r) (n := n) (x := x) h
    show (x :: a :: r.eraseIdx n).Perm (a :: r)
    exact (List.Perm.swap a x _).trans (List.Perm.cons a ih)
theorem map_erase {α β : Type} (f : α → β) : ∀ (l : List α) (n : Nat), (l.map f).eraseIdx n = (l.eraseIdx n).map f
  | [], _ => rfl
  | _ :: _, 0 => rfl
  | a :: r, n + 1 => by
    show f a :: (r.map f).eraseIdx n = f a :: (r.eraseIdx n).map f
    rw [map_erase f r n]
theorem PairsAt.updL {H : Hp} {xs zs ys : List V} {gs : Gs} {F : Addr} (h : PairsAt H xs gs) (hF : H F = some (.lst ys)) : PairsAt (upd H F (.lst zs)) xs gs :=
  h.mono fun b ws q => upd_other (ne_of q hF (by intro z; cases z)) q
theorem PairsAt.new {H : Hp} {xs : List V} {gs : Gs} {F : Addr} {o : HO} (h : PairsAt H xs gs) (hF : H F = none) : PairsAt (upd H F o) xs gs :=
  h.mono fun b ws q => upd_new hF q
theorem PairsAt.kp {H H' : Hp} {xs : List V} {gs : Gs} {p l : Addr} (h : PairsAt H xs gs) (pot : PotAt H p l) (kp : Kp p H H') : PairsAt H' xs gs :=
  h.mono fun b ws q => by
    obtain ⟨ns, i, c, s, h1, _⟩ := pot
    exact kp _ _ q (ne_of q h1 (by intro z; cases z))
theorem nm_short : ∀ k : Nat, k < 7 → (Str.ofString (toString (k : Int))).length ≤ 5 := by decide +kernel
theorem names_pop {gn ss : List Str} {x : Str} {n : Nat} (hx : ss[n]? = some x) (h : (gn ++ ss).Nodup) : ((gn ++ [x]) ++ ss.eraseIdx n).Nodup := by
  obtain ⟨hn, e⟩ := List.getElem?_eq_some_iff.mp hx
  have hp : (x :: ss.eraseIdx n).Perm ss := perm_eraseIdx hx
  rw [List.append_assoc]
  exact (List.Perm.append_left gn hp).nodup_iff.mpr h
section
variable {P : Program} {w : World} {K : PySem.W.Frag} {mg : Str → Option Value} {base : Heap}
theorem ok_L_set (T : Txt K mg) : FnOk P w K mg base CX0 2 T.f_L_set T.d_L_set ["pot", "most"] sp_Lset := by
  refine T.F_L_set.ok sc_L_set (fun vs H Q E h => ?_) (fun cdv A outer s H vs Q E hr h => ?_)
  · obtain ⟨p, l, m, rfl, _⟩ := h; rfl
  · obtain ⟨p, l, m, rfl, pot, hm, hm7, k⟩ := h
    refine ⟨_, (pss_cons (ps_setLc (i := 2) (own := [("k", 4)]) (g := (gName 4)) (tt := tYes) (te := (tOp rAddStr (tC (.str "g")) (tCB rStrInt (tCons (tVar 4) tNil)))) rfl sc_L_set.nd rfl rfl (sw_true rfl rfl rfl (by decide +kernel)) (pi_range1 (by rfl) T.z_range (pa_cons pe_int pa_nil)) (blkOk_by (own := [("k", 4)]) (N := ["pot", "most", "names", "found", "k"]) (sc := defScope s_L_set) (by decide +kernel)) (fun _ _ _ _ _ => (pg_name (i := 4) sc_L_set.nd rfl (Or.inl rfl))) (fun _ _ _ _ _ => pts_nil) (fun _ _ _ _ _ => (pe_op oq_addStr pe_str (pe_callTy cq_strInt (by rfl) T.z_str boot_str (pa_cons (pv 4) pa_nil)))))
      (pss_cons (ps_set (i := 3) sc_L_set.nd rfl (Or.inl rfl) (pe_lst pa_nil))
      (pss_cons (ps_for PassesOwn.never rfl (pi_range1 (by rfl) T.z_range (pa_cons (pe_op op_add pe_int (pe_call (ok_L_next T) (hr.mono (by decide)) (by rfl) T.g_L_next T.F_L_next.kp T.b_L_next .nil pass0 (pa_cons (pv 0) (pa_cons (pv 1) pa_nil)))) pa_nil)) (pg_name (i := 4) sc_L_set.nd rfl (Or.inl rfl))
        (pss_one (ps_expr (pe_bm PySem.F.plainAttrs_list PySem.F.slot_list_append PySem.F.type_list_append mt_append (pv 3) (pa_cons (pe_tup (pa_cons (pe_bm PySem.F.plainAttrs_list PySem.F.slot_list_pop PySem.F.type_list_pop mt_popAt (pv 2) (pa_cons (pe_call (ok_L_next T) (hr.mono (by decide)) (by rfl) T.g_L_next T.F_L_next.kp T.b_L_next .nil pass0 (pa_cons (pv 0) (pa_cons (pe_callB cq_len (by rfl) T.z_len boot_len (pa_cons (pv 2) pa_nil)) pa_nil))) pa_nil)) (pa_cons (pe_op op_add pe_int (pe_call (ok_L_next T) (hr.mono (by decide)) (by rfl) T.g_L_next T.F_L_next.kp T.b_L_next .nil pass0 (pa_cons (pv 0) (pa_cons (pe_ix ix_list (pe_lst (pa_cons pe_int (pa_cons pe_int (pa_cons pe_int pa_nil)))) (pe_call (ok_L_next T) (hr.mono (by decide)) (by rfl) T.g_L_next T.F_L_next.kp T.b_L_next .nil pass0 (pa_cons (pv 0) (pa_cons pe_int pa_nil))) (fun _ _ => rfl)) pa_nil)))) pa_nil))) pa_nil)))))
      (pss_one (ps_ret (pe_callTy cq_tupOf (by rfl) T.z_tuple boot_tuple (pa_cons (pv 3) pa_nil))))))), ?_⟩
    (dsimp only [cxOf, Cx.nox, Cx.wish, L2.start, List.map, List.length, List.replicate, List.cons_append, List.nil_append, List.append_eq, Nat.reduceSub, Nat.reduceAdd])
    walk_at "my_rd"
    refine q_lcR ⟨by decide, by decide⟩ (fun N nN => ⟨fun i H2 => Same H H2 ∧ H2 N = some (.lst (((List.range i).map nm).map V.str)), ⟨Same.new (Same.refl _) nN, upd_same⟩, ?_, ?_⟩)
    · rintro i H2 hi ⟨sm, hD⟩
      have hi7 : i < 7 := by omega
      walk_at "my_rd"
      refine ⟨rfl, ?_⟩
      walk_at "my_rd"
      refine q_strInt (Nat.lt_of_le_of_lt (Nat.log2_le_self _) (by omega)) ?_
      refine q_addStr ?_ ?_
      · have := nm_short i hi7
        have h1 : (Str.ofString "g").length = 1 := rfl
        exact Nat.le_of_lt (small1000 (by omega))
      · walk_at "my_rd"
        refine q_accK hD (by rw [List.length_map, List.length_map, List.length_range]; exact small1000 (by omega)) ⟨Same.new sm nN, ?_⟩
        rw [upd_same, List.range_succ, List.map_append, List.map_append]
        rfl
    · rintro H2 ⟨sm, hN⟩
      have hN : H2 N = some (.lst (allNames.map V.str)) := hN
      walk_at "my_rd"
      refine q_lstK (Nat.zero_le _) fun F nF => ?_
      have nNF : N ≠ F := ne_of_none hN nF
      have hF0 : H F = none := Same.free sm nF
      have nNp : N ≠ p := pot.nep nN
      have nNl : N ≠ l := pot.nel nN
      have nFp : F ≠ p := pot.nep hF0
      have nFl : F ≠ l := pot.nel hF0
      walk_at "my_rd"
      refine ⟨p, l, m, rfl, (pot.same sm).new nF, hm, by omega, fun r H4 r0 r1 pot4 kp4 => ?_⟩
      have hN4 : H4 N = some (.lst (allNames.map V.str)) := Kp.get kp4 (upd_new nF hN) nNp
      have hF4 : H4 F = some (.lst []) := Kp.get kp4 upd_same nFp
      have kp0 : Kp p H H4 := Kp.trans (Kp.new (Same.kp sm) hF0) kp4
      walk_at "my_rd"
      refine q_forR ⟨by omega, by omega⟩ (fun i σ H5 => ∃ (ss : List Str) (xs : List V) (gs : Gs) (kv : Option V), σ = [some (.ref p), some (.int m), some (.ref N), some (.ref F), kv] ∧ H5 N = some (.lst (ss.map V.str)) ∧ H5 F = some (.lst xs) ∧ PairsAt H5 xs gs ∧ gs.length = i ∧ ss.length + i = 7 ∧ (gs.map (·.1) ++ ss).Nodup ∧ (∀ g ∈ gs, g.1 ∈ allNames) ∧ (∀ s ∈ ss, s ∈ allNames) ∧ (∀ g ∈ gs, 1 ≤ g.2) ∧ (∀ g ∈ gs, g.2 ≤ 50) ∧ PotAt H5 p l ∧ Kp p H H5)
        ⟨allNames, [], [], none, rfl, hN4, hF4, PairsAt.nil, rfl, allNames_len, allNames_nodup, by simp, fun s hs => hs, by simp, by simp, pot4, kp0⟩ ?_ ?_
      · rintro i σ H5 hi ⟨ss, xs, gs, kv, rfl, hN5, hF5, hP5, hl, hsl, hnd, hnm, hss, hpos, htop, pot5, kp5⟩
        walk_at "my_rd"
        refine ⟨p, l, _, rfl, pot5, by rw [List.length_map]; omega, by rw [List.length_map]; omega, fun r2 H6 a0 a1 pot6 kp6 => ?_⟩
        rw [List.length_map] at a1
        have hN6 : H6 N = some (.lst (ss.map V.str)) := Kp.get kp6 hN5 nNp
        have hF6 : H6 F = some (.lst xs) := Kp.get kp6 hF5 nFp
        have hP6 := hP5.kp pot5 kp6
        have hr2 : r2.toNat < ss.length := by omega
        have hx : ss[r2.toNat]? = some ss[r2.toNat] := List.getElem?_eq_getElem hr2
        walk_at "my_rd"
        refine q_popAt (n := r2.toNat) hN6 (by omega) (by rw [List.length_map]; exact hr2) (by omega) (v := .str ss[r2.toNat]) (by rw [List.getElem?_map, hx]; rfl) ?_
        rw [map_erase]
        generalize hH7 : upd H6 N (HO.lst ((ss.eraseIdx r2.toNat).map V.str)) = H7
        have hN7 : H7 N = some (.lst ((ss.eraseIdx r2.toNat).map V.str)) := by rw [← hH7]; exact upd_same
        have hF7 : H7 F = some (.lst xs) := by rw [← hH7]; exact upd_other nNF.symm hF6
        have hP7 : PairsAt H7 xs gs := by rw [← hH7]; exact hP6.updL hN6
        have pot7 : PotAt H7 p l := by rw [← hH7]; exact pot6.upd nNp nNl
        have kp7 : Kp p H H7 := by rw [← hH7]; exact Kp.new (Kp.trans kp5 kp6) nN
        walk_at "my_rd"
        refine q_lstK (by decide) fun M nM => ?_
        walk_at "my_rd"
        refine ⟨p, l, 3, rfl, pot7.new nM, by omega, by omega, fun r3 H8 b0 b1 pot8 kp8 => ?_⟩
        have hM8 : H8 M = some (.lst [.int 1, .int 4, .int 50]) := Kp.get kp8 upd_same (pot7.nep nM)
        obtain ⟨lim, hlim, l0, l1⟩ : ∃ lim : Int, atI [V.int 1, V.int 4, V.int 50] r3 = some (.int lim) ∧ 1 ≤ lim ∧ lim ≤ 50 := by
          have : r3 = 0 ∨ r3 = 1 ∨ r3 = 2 := by omega
          rcases this with rfl | rfl | rfl
          · exact ⟨1, rfl, by omega, by omega⟩
          · exact ⟨4, rfl, by omega, by omega⟩
          · exact ⟨50, rfl, by omega, by omega⟩
        walk_at "my_rd"
        refine q_ixLt hM8 hlim ?_
        walk_at "my_rd"
        refine ⟨p, l, lim, rfl, pot8, by omega, by omega, fun r4 H9 c0 c1 pot9 kp9 => ?_⟩
        have kp79 : Kp p (upd H7 M (.lst [.int 1, .int 4, .int 50])) H9 := Kp.trans kp8 kp9
        have hN9 : H9 N = some (.lst ((ss.eraseIdx r2.toNat).map V.str)) := Kp.get kp79 (upd_new nM hN7) nNp
        have hF9 : H9 F = some (.lst xs) := Kp.get kp79 (upd_new nM hF7) nFp
        have hP9 : PairsAt H9 xs gs := (hP7.new nM).kp (pot7.new nM) kp79
        have hM0 : H M = none := Kp.fresh kp7 pot.at.choose_spec nM (pot7.nep nM)
        have kp09 : Kp p H H9 := Kp.trans (Kp.new kp7 hM0) kp79
        walk_at "my_rd"
        refine q_tupK (by show 2 ≤ sizeLine; decide) fun U nU => ?_
        have hU0 : H U = none := Kp.fresh kp09 pot.at.choose_spec nU (pot9.nep nU)
        have nFU : F ≠ U := ne_of_none hF9 nU
        have nNU : N ≠ U := ne_of_none hN9 nU
        walk_at "my_rd"
        refine q_append (upd_new nU hF9) (by rw [hP9.len]; exact small1000 (by omega)) ?_
        walk_at "my_rd"
        refine ⟨ss.eraseIdx r2.toNat, xs ++ [.ref U], gs ++ [(ss[r2.toNat], 1 + r4)], _, rfl, upd_other nNF (upd_new nU hN9), upd_same, ?_, by rw [List.length_append, hl]; rfl, ?_, ?_, ?_, ?_, ?_, ?_, (pot9.new nU).upd nFp nFl, Kp.new (Kp.new kp09 hU0) hF0⟩
        · exact ((hP9.new nU).snoc (g := (ss[r2.toNat], 1 + r4)) upd_same).updL (upd_new nU hF9)
        · rw [List.length_eraseIdx_of_lt hr2]; omega
        · rw [List.map_append]
          exact names_pop hx hnd
        · intro g hg
          rcases List.mem_append.mp hg with h | h
          · exact hnm g h
          · rw [List.mem_singleton.mp h]; exact hss _ (List.mem_of_getElem? hx)
        · intro z hz
          exact hss z (List.mem_of_mem_eraseIdx hz)
        · intro g hg
          rcases List.mem_append.mp hg with h | h
          · exact hpos g h
          · rw [List.mem_singleton.mp h]; show 1 ≤ 1 + r4; omega
        · intro g hg
          rcases List.mem_append.mp hg with h | h
          · exact htop g h
          · rw [List.mem_singleton.mp h]; show 1 + r4 ≤ 50; omega
      · rintro σ H5 ⟨ss, xs, gs, kv, rfl, hN5, hF5, hP5, hl, hsl, hnd, hnm, hss, hpos, htop, pot5, kp5⟩
        walk_at "my_rd"
        refine q_tupL (sqL hF5) fun a na => ?_
        walk_at "my_rd"
        refine k a xs gs _ (Kp.fresh kp5 pot.at.choose_spec na (pot5.nep na)) upd_same (hP5.new na) ⟨?_, by omega, (List.nodup_append.mp hnd).1, hnm, hpos, htop⟩ (by omega) (pot5.new na) (Kp.new kp5 (Kp.fresh kp5 pot.at.choose_spec na (pot5.nep na)))
        rintro rfl
        simp at hl
        omega
end

/-! values as data -/
def intD : PyData → Bool
  | .int _ => true
  | _ => false
def boolD : PyData → Bool
  | .bool _ => true
  | _ => false
def strD : PyData → Bool
  | .str _ => true
  | _ => false
def tupD : PyData → Bool
  | .tuple _ => true
  | _ => false
def leastD (n : Int) : PyData → Bool
  | .int i => decide (n ≤ i)
  | _ => false
def okCode (c : Nat) : Bool := decide (32 ≤ c) && decide (c ≤ 126) && !decide (c = 37)
def textS (s : Str) : Bool := s.cps.toList.all okCode
def textD : PyData → Bool
  | .str s => textS s
  | _ => false
def shortD (m : Int) : PyData → Bool
  | .str s => textS s && (decide (1 ≤ (s.length : Int)) && decide ((s.length : Int) ≤ m))
  | _ => false
def accD : PyData → Bool := shortD 20
/-- the type of a value -/
def tyD : PyData → String
  | .none => "NoneType"
  | .bool _ => "bool"
  | .int _ => "int"
  | .str _ => "str"
  | .list _ => "list"
  | .tuple _ => "tuple"
  | .dict _ => "dict"
theorem dp_ty {K : PySem.W.Frag} {H : Hp} {v : V} {d : PyData} (h : Dp K H v d) : TyX K H v (.type (tyD d)) := by
  cases h with
  | non => exact .base .non
  | bl b => exact .base (.bl b)
  | int i => exact .base (.int i)
  | str x => exact .base (.str x)
  | lst h1 h2 =>
    rcases h1 with (h | ⟨o, h⟩) | ⟨o, its, n, h, h3, _⟩
    · exact .base (.lst h)
    · exact .base (.frz h)
    · exact .kList h h3
  | tup h1 h2 =>
    rcases h1 with (h | ⟨o, h⟩) | ⟨o, its, n, h, h3, _⟩
    · exact .base (.tup h)
    · exact .fTuple h
    · exact .kTuple h h3
def tyB (n : String) (d : PyData) : Bool := decide (tyD d = n) || (decide (n = "int") && decide (tyD d = "bool"))
theorem q_isiD {K : PySem.W.Frag} {H : Hp} {Q : VK} {v : V} {d : PyData} {n : String} {b : Bool} (h : Dp K H v d) (hk : kitB (tyD d) n = some b) (k : Q (.bl b) H) : rIsi K [v, .ty n] H Q := q_isi (dp_ty h) (kit_ty hk) k
theorem kit_int (d : PyData) : kitB (tyD d) "int" = some (intD d || boolD d) := by
  cases d <;> first | exact (by decide +kernel : kitB "NoneType" "int" = some false) | exact (by decide +kernel : kitB "bool" "int" = some true) | exact (by decide +kernel : kitB "int" "int" = some true) | exact (by decide +kernel : kitB "str" "int" = some false) | exact (by decide +kernel : kitB "list" "int" = some false) | exact (by decide +kernel : kitB "tuple" "int" = some false) | exact (by decide +kernel : kitB "dict" "int" = some false)
theorem kit_bool (d : PyData) : kitB (tyD d) "bool" = some (boolD d) := by
  cases d <;> first | exact (by decide +kernel : kitB "NoneType" "bool" = some false) | exact (by decide +kernel : kitB "bool" "bool" = some true) | exact (by decide +kernel : kitB "int" "bool" = some false) | exact (by decide +kernel : kitB "str" "bool" = some false) | exact (by decide +kernel : kitB "list" "bool" = some false) | exact (by decide +kernel : kitB "tuple" "bool" = some false) | exact (by decide +kernel : kitB "dict" "bool" = some false)
theorem kit_str (d : PyData) : kitB (tyD d) "str" = some (strD d) := by
  cases d <;> first | exact (by decide +kernel : kitB "NoneType" "str" = some false) | exact (by decide +kernel : kitB "bool" "str" = some false) | exact (by decide +kernel : kitB "int" "str" = some false) | exact (by decide +kernel : kitB "str" "str" = some true) | exact (by decide +kernel : kitB "list" "str" = some false) | exact (by decide +kernel : kitB "tuple" "str" = some false) | exact (by decide +kernel : kitB "dict" "str" = some false)
theorem kit_tuple (d : PyData) : kitB (tyD d) "tuple" = some (tupD d) := by
  cases d <;> first | exact (by decide +kernel : kitB "NoneType" "tuple" = some false) | exact (by decide +kernel : kitB "bool" "tuple" = some false) | exact (by decide +kernel : kitB "int" "tuple" = some false) | exact (by decide +kernel : kitB "str" "tuple" = some false) | exact (by decide +kernel : kitB "list" "tuple" = some false) | exact (by decide +kernel : kitB "tuple" "tuple" = some true) | exact (by decide +kernel : kitB "dict" "tuple" = some false)
mutual
theorem dp_mono {K : PySem.W.Frag} {H H' : Hp} (sm : Same H H') : ∀ {v : V} {d : PyData}, Dp K H v d → Dp K H' v d
  | _, _, .non => .non
  | _, _, .bl b => .bl b
  | _, _, .int i => .int i
  | _, _, .str x => .str x
  | _, _, .lst h1 h2 => .lst (Same.seq sm h1) (dpall_mono sm h2)
  | _, _, .tup h1 h2 => .tup (Same.sqT sm h1) (dpall_mono sm h2)
theorem dpall_mono {K : PySem.W.Frag} {H H' : Hp} (sm : Same H H') : ∀ {vs : List V} {ds : List PyData}, DpAll K H vs ds → DpAll K H' vs ds
  | _, _, .nil => .nil
  | _, _, .cons h1 h2 => .cons (dp_mono sm h1) (dpall_mono sm h2)
end
theorem dpall_len {K : PySem.W.Frag} {H : Hp} : ∀ {vs : List V} {ds : List PyData}, DpAll K H vs ds → vs.length = ds.length
  | _, _, .nil => rfl
  | _, _, .cons _ h => by rw [List.length_cons, List.length_cons, dpall_len h]
theorem dpall_get {K : PySem.W.Frag} {H : Hp} : ∀ {vs : List V} {ds : List PyData} {i : Nat} {v : V}, DpAll K H vs ds → vs[i]? = some v → ∃ d, ds[i]? = some d ∧ Dp K H v d
  | _, _, _, _, .nil, e => by simp at e
  | _, _, 0, _, .cons h _, e => by
    simp at e
    subst e
    exact ⟨_, rfl, h⟩
  | _, _, i + 1, v, .cons _ h, e => by
    obtain ⟨d, h1, h2⟩ := dpall_get h (i := i) (v := v) (by simpa using e)
    exact ⟨d, by simpa using h1, h2⟩
def Fine : PyData → Prop
  | .str s => s.length ≤ 100000
  | _ => True
/-- a def that tells something of one value -/
def sp_tell (K : PySem.W.Frag) (f : PyData → Bool) : Sp := fun vs H Q _ => ∃ (v : V) (d : PyData), vs = [v] ∧ Dp K H v d ∧ Fine d ∧ ∀ H', Same H H' → Q (.bl (f d)) H'
def sp_tell2 (K : PySem.W.Frag) (f : Int → PyData → Bool) : Sp := fun vs H Q _ => ∃ (v : V) (d : PyData) (n : Int), vs = [v, .int n] ∧ Dp K H v d ∧ Fine d ∧ ∀ H', Same H H' → Q (.bl (f n d)) H'
section
variable {P : Program} {w : World} {K : PySem.W.Frag} {mg : Str → Option Value} {base : Heap}
theorem ok_is_integer (T : Txt K mg) : FnOk P w K mg base CX0 1 T.f_is_integer T.d_is_integer ["value"] (sp_tell K intD) := by
  refine T.F_is_integer.ok sc_is_integer (fun vs H Q E h => ?_) (fun cdv A outer s H vs Q E hr h => ?_)
  · obtain ⟨v, d, rfl, _⟩ := h; rfl
  · obtain ⟨v, d, rfl, hd, _, k⟩ := h
    refine ⟨_, (pss_one (ps_ret (pe_and (pe_callB call_isi (by rfl) T.z_isinstance boot_isinstance (pa_cons (pv 0) (pa_cons (pe_bltn (v := .ty "int") (by rfl) T.z_int boot_int rfl) pa_nil))) (pe_one (pe_not (pe_callB call_isi (by rfl) T.z_isinstance boot_isinstance (pa_cons (pv 0) (pa_cons (pe_bltn (v := .ty "bool") (by rfl) T.z_bool boot_bool rfl) pa_nil)))))))), ?_⟩
    (dsimp only [cxOf, Cx.nox, Cx.wish, L2.start, List.map, List.length, List.replicate, List.cons_append, List.nil_append, List.append_eq, Nat.reduceSub, Nat.reduceAdd])
    walk_at "my_rd"
    refine q_isiD hd (kit_int d) ?_
    refine q_andV2 (fun h => ?_) (fun h => ?_)
    · walk_at "my_rd"
      refine q_isiD hd (kit_bool d) ?_
      walk_at "my_rd"
      have e : (!boolD d) = intD d := by cases d <;> first | rfl | cases h
      rw [e]
      exact k H (Same.refl _)
    · have e : false = intD d := by cases d <;> first | rfl | cases h
      rw [e]
      exact k H (Same.refl _)
theorem ok_is_at_least (T : Txt K mg) : FnOk P w K mg base CX0 2 T.f_is_at_least T.d_is_at_least ["value", "least"] (sp_tell2 K leastD) := by
  refine T.F_is_at_least.ok sc_is_at_least (fun vs H Q E h => ?_) (fun cdv A outer s H vs Q E hr h => ?_)
  · obtain ⟨v, d, n, rfl, _⟩ := h; rfl
  · obtain ⟨v, d, n, rfl, hd, hf, k⟩ := h
    refine ⟨_, (pss_one (ps_ret (pe_and (pe_call (ok_is_integer T) (hr.mono (by decide)) (by rfl) T.g_is_integer T.F_is_integer.kp T.b_is_integer .nil pass0 (pa_cons (pv 0) pa_nil)) (pe_one (pe_cmpR op_ge (pv 0) (pv 1) (nomark _)))))), ?_⟩
    (dsimp only [cxOf, Cx.nox, Cx.wish, L2.start, List.map, List.length, List.replicate, List.cons_append, List.nil_append, List.append_eq, Nat.reduceSub, Nat.reduceAdd])
    walk_at "my_rd"
    refine ⟨v, d, rfl, hd, hf, fun H1 sm => ?_⟩
    refine q_andV2 (fun h => ?_) (fun h => ?_)
    · cases hd with
      | int i =>
        walk_at "my_rd"
        exact k H1 sm
      | _ => cases h
    · have e : false = leastD n d := by cases d <;> first | rfl | cases h
      rw [e]
      exact k H1 sm
theorem ok_is_text (T : Txt K mg) : FnOk P w K mg base CX0 1 T.f_is_text T.d_is_text ["value"] (sp_tell K textD) := by
  refine T.F_is_text.ok sc_is_text (fun vs H Q E h => ?_) (fun cdv A outer s H vs Q E hr h => ?_)
  · obtain ⟨v, d, rfl, _⟩ := h; rfl
  · obtain ⟨v, d, rfl, hd, _, k⟩ := h
    refine ⟨_, (pss_cons (ps_if (pt_not (pt_val (pe_callB call_isi (by rfl) T.z_isinstance boot_isinstance (pa_cons (pv 0) (pa_cons (pe_bltn (v := .ty "str") (by rfl) T.z_str boot_str rfl) pa_nil))))) (pss_one (ps_ret pe_bl)) pss_nil)
      (pss_cons (ps_for PassesOwn.never rfl (pi_str (pv 0)) (pg_name (i := 1) sc_is_text.nd rfl (Or.inl rfl))
        (pss_cons (ps_set (i := 2) sc_is_text.nd rfl (Or.inl rfl) (pe_callB cq_ord (by rfl) T.z_ord boot_ord (pa_cons (pv 1) pa_nil)))
      (pss_one (ps_if (PW.pt (pw_or (pt_cmpR op_lt (pv 2) (pe_glob (v := .int 32) (by rfl) T.c_FIRST_CODE ⟨_, rfl⟩) (nomark _)) (pw_or (pt_cmpR op_gt (pv 2) (pe_glob (v := .int 126) (by rfl) T.c_LAST_CODE ⟨_, rfl⟩) (nomark _)) (pw_or1 (pt_cmpR op_eq (pv 2) (pe_glob (v := .int 37) (by rfl) T.c_BARRED_CODE ⟨_, rfl⟩) (nomark _)))))) (pss_one (ps_ret pe_bl)) pss_nil))))
      (pss_one (ps_ret pe_bl)))), ?_⟩
    (dsimp only [cxOf, Cx.nox, Cx.wish, L2.start, List.map, List.length, List.replicate, List.cons_append, List.nil_append, List.append_eq, Nat.reduceSub, Nat.reduceAdd])
    walk_at "my_rd"
    refine q_isiD hd (kit_str d) ?_
    walk_at "my_rd"
    cases hd with
    | str x =>
      show ifK _ _ _ _ false H
      walk_at "my_rd"
      refine q_forS (fun i σ H2 => ∃ c1 c2, σ = [some (.str x), c1, c2] ∧ H2 = H ∧ (x.cps.toList.take i).all okCode = true) ⟨_, _, rfl, rfl, rfl⟩ ?_ ?_
      · rintro i c σ H2 hc ⟨c1, c2, rfl, rfl, hall⟩
        have hc' : x.cps.toList[i]? = some c := by rw [Array.getElem?_toList]; exact hc
        have bad : okCode c = false → textD (.str x) = false := fun h => by
          show x.cps.toList.all okCode = false
          rw [List.all_eq_false]
          exact ⟨c, List.mem_of_getElem? hc', by rw [h]; exact Bool.false_ne_true⟩
        walk_at "my_rd"
        refine q_or2 (fun h => ?_) (fun h1 => ?_)
        · walk_at "my_rd"
          have h := dec_t h
          rw [← bad (by unfold okCode; rw [decide_eq_false (show ¬ 32 ≤ c by omega)]; rfl)]
          exact k _ (Same.refl _)
        · walk_at "my_rd"
          refine q_or2 (fun h => ?_) (fun h2 => ?_)
          · walk_at "my_rd"
            have h := dec_t h
            rw [← bad (by unfold okCode; rw [decide_eq_false (show ¬ c ≤ 126 by omega), Bool.and_false]; rfl)]
            exact k _ (Same.refl _)
          · walk_at "my_rd"
            refine q_if2 (fun h => ?_) (fun h3 => ?_)
            · walk_at "my_rd"
              have h := dec_t h
              rw [← bad (by unfold okCode; rw [decide_eq_true (show c = 37 by omega), Bool.and_comm]; rfl)]
              exact k _ (Same.refl _)
            · walk_at "my_rd"
              have h1 := dec_f h1
              have h2 := dec_f h2
              have h3 := dec_f h3
              refine ⟨_, _, rfl, rfl, ?_⟩
              rw [take_snoc hc', List.all_append, hall, Bool.true_and, List.all_cons, List.all_nil, Bool.and_true]
              unfold okCode
              rw [decide_eq_true (show 32 ≤ c by omega), decide_eq_true (show c ≤ 126 by omega), decide_eq_false (show ¬ c = 37 by omega)]
              rfl
      · rintro σ H2 ⟨c1, c2, rfl, rfl, hall⟩
        walk_at "my_rd"
        have e : textD (.str x) = true := by
          have e2 : x.cps.toList.take x.cps.size = x.cps.toList := List.take_of_length_le (by simp)
          rw [e2] at hall
          exact hall
        rw [← e]
        exact k _ (Same.refl _)
    | _ =>
      show ifK _ _ _ _ true H
      walk_at "my_rd"
      exact k H (Same.refl _)
theorem ok_is_short_text (T : Txt K mg) : FnOk P w K mg base CX0 2 T.f_is_short_text T.d_is_short_text ["value", "most"] (sp_tell2 K shortD) := by
  refine T.F_is_short_text.ok sc_is_short_text (fun vs H Q E h => ?_) (fun cdv A outer s H vs Q E hr h => ?_)
  · obtain ⟨v, d, n, rfl, _⟩ := h; rfl
  · obtain ⟨v, d, n, rfl, hd, hf, k⟩ := h
    refine ⟨_, (pss_one (ps_ret (pe_and (pe_call (ok_is_text T) (hr.mono (by decide)) (by rfl) T.g_is_text T.F_is_text.kp T.b_is_text .nil pass0 (pa_cons (pv 0) pa_nil)) (pe_one (pe_chain op_le op_le pe_int (pe_callB cq_lenS (by rfl) T.z_len boot_len (pa_cons (pv 0) pa_nil)) (pv 1)))))), ?_⟩
    (dsimp only [cxOf, Cx.nox, Cx.wish, L2.start, List.map, List.length, List.replicate, List.cons_append, List.nil_append, List.append_eq, Nat.reduceSub, Nat.reduceAdd])
    walk_at "my_rd"
    refine ⟨v, d, rfl, hd, hf, fun H1 sm => ?_⟩
    refine q_andV2 (fun h => ?_) (fun h => ?_)
    · cases hd with
      | str x =>
        have hx : x.length ≤ 100000 := hf
        walk_at "my_rd"
        refine q_lenS (Nat.le_trans hx (by decide)) ?_
        walk_at "my_rd"
        have e : shortD n (.str x) = (decide (1 ≤ (x.length : Int)) && decide ((x.length : Int) ≤ n)) := by
          show (textS x && _) = _
          rw [show textS x = true from h, Bool.true_and]
        refine q_ch2 (fun h1 => ?_) (fun h1 => ?_)
        · walk_at "my_rd"
          rw [h1, Bool.true_and] at e
          rw [← e]
          exact k H1 sm
        · rw [h1, Bool.false_and] at e
          rw [← e]
          exact k H1 sm
      | _ => cases h
    · have e : false = shortD n d := by
        cases d <;> first | rfl | (show false = (_ && _); rw [show textS _ = false from h]; rfl)
      rw [e]
      exact k H1 sm
theorem ok_is_account (T : Txt K mg) : FnOk P w K mg base CX0 3 T.f_is_account T.d_is_account ["value"] (sp_tell K accD) := by
  refine T.F_is_account.ok sc_is_account (fun vs H Q E h => ?_) (fun cdv A outer s H vs Q E hr h => ?_)
  · obtain ⟨v, d, rfl, _⟩ := h; rfl
  · obtain ⟨v, d, rfl, hd, hf, k⟩ := h
    refine ⟨_, (pss_one (ps_ret (pe_call (ok_is_short_text T) (hr.mono (by decide)) (by rfl) T.g_is_short_text T.F_is_short_text.kp T.b_is_short_text .nil pass0 (pa_cons (pv 0) (pa_cons (pe_glob (v := .int 20) (by rfl) T.c_ACCOUNT_LENGTH ⟨_, rfl⟩) pa_nil))))), ?_⟩
    (dsimp only [cxOf, Cx.nox, Cx.wish, L2.start, List.map, List.length, List.replicate, List.cons_append, List.nil_append, List.append_eq, Nat.reduceSub, Nat.reduceAdd])
    walk_at "my_rd"
    exact ⟨v, d, 20, rfl, hd, hf, fun H1 sm => k H1 sm⟩
end

local macro_rules | `(tactic| walk_at "my_rd") => `(tactic| (repeat first
  | with_reducible refine q_tCons ?_
  | ((with_reducible apply q_var); (focus (exact rfl)))
  | with_reducible refine q_c ?_
  | with_reducible refine q_nx ?_
  | with_reducible refine q_bK ?_
  | with_reducible refine q_call ?_
  | with_reducible refine q_callK ?_
  | with_reducible refine q_tNil ?_
  | with_reducible refine q_cb ?_
  | with_reducible refine q_seq ?_
  | with_reducible refine q_asg ?_
  | with_reducible refine q_gName ?_
  | with_reducible refine q_op ?_
  | with_reducible refine q_test ?_
  | with_reducible refine q_tB ?_
  | with_reducible refine q_ifS ?_
  | with_reducible refine q_ret ?_
  | with_reducible refine q_rt ?_
  | with_reducible refine q_next ?_
  | with_reducible refine q_ifF ?_
  | with_reducible refine q_ifT ?_
  | with_reducible refine q_drop ?_
  | with_reducible refine q_and ?_
  | with_reducible refine q_or ?_
  | with_reducible refine q_andT ?_
  | with_reducible refine q_andF ?_
  | with_reducible refine q_orF ?_
  | with_reducible refine q_orT ?_
  | with_reducible refine q_andV ?_
  | with_reducible refine q_andVT ?_
  | with_reducible refine q_andVF ?_
  | with_reducible refine q_orV ?_
  | with_reducible refine q_gCons ?_
  | with_reducible refine q_gNil ?_
  | with_reducible refine q_tup ?_
  | with_reducible refine q_lst ?_
  | with_reducible refine q_not ?_
  | with_reducible refine q_notKT ?_
  | with_reducible refine q_notKF ?_
  | with_reducible refine q_I0 ?_
  | with_reducible refine q_eqI ?_
  | with_reducible refine q_neI ?_
  | ((with_reducible refine q_I ?_ ?_); first | decide | omega | exact ⟨by omega, by omega⟩ | exact ⟨by decide, by decide⟩ | exact .inl ⟨by omega, by omega⟩ | exact .inr ⟨by omega, by omega⟩ | exact .inr ⟨by decide, by decide⟩)
  | with_reducible refine q_eqS ?_
  | with_reducible refine q_neS ?_
  | with_reducible refine q_brk ?_
  | with_reducible refine q_ct ?_
  | with_reducible refine q_bk ?_
  | with_reducible refine q_cn ?_
  | with_reducible refine q_retN ?_
  | with_reducible refine q_gSub ?_
  | with_reducible refine q_for ?_
  | with_reducible refine q_iList ?_
  | with_reducible refine q_iTup ?_
  | with_reducible refine q_iRng1 ?_
  | with_reducible refine q_notK ?_
  | with_reducible refine q_orVT ?_
  | with_reducible refine q_orVF ?_
  | with_reducible refine q_notV ?_
  | with_reducible refine q_notVK ?_
  | with_reducible refine q_ifE ?_
  | with_reducible refine q_ifET ?_
  | with_reducible refine q_ifEF ?_
  | with_reducible refine q_yes ?_
  | with_reducible refine q_un ?_
  | with_reducible refine q_rU ?_
  | with_reducible refine q_abs ?_
  | with_reducible refine q_int1 ?_
  | with_reducible refine q_bm ?_
  | with_reducible refine q_bm0 ?_
  | with_reducible refine q_lc ?_
  | with_reducible refine q_keepT ?_
  | with_reducible refine q_keepF ?_
  | ((with_reducible apply q_aug); (focus (exact rfl)))
  | with_reducible refine q_ipI ?_
  | with_reducible refine q_chain ?_
  | with_reducible refine q_pairC ?_
  | with_reducible refine q_pairsK ?_
  | with_reducible refine q_pairN ?_
  | with_reducible refine q_fld ?_
  | with_reducible refine q_sFld ?_
  | with_reducible refine q_meth ?_
  | with_reducible refine q_makeK ?_
  | with_reducible refine q_isBl ?_
  | with_reducible refine q_notBl ?_
  | with_reducible refine q_sl ?_
  | with_reducible refine q_noPart ?_
  | with_reducible refine q_part ?_
  | with_reducible refine q_partK ?_
  | ((with_reducible apply q_mulStr); (focus (decide +kernel)))
  | with_reducible refine q_chT ?_
  | with_reducible refine q_chF ?_
  | with_reducible refine q_ord ?_
  | with_reducible refine q_iStr0 ?_
  | with_reducible refine q_iStr ?_
  | with_reducible refine q_tDIn ?_
  | with_reducible refine q_tDNotIn ?_
  | with_reducible refine q_tDGet ?_
  | with_reducible refine q_tDGet2 ?_
  | with_reducible refine q_tDGet1 ?_
  | with_reducible refine q_tDSetd ?_
  | ((with_reducible apply q_dG2a); (focus ((repeat first | (with_reducible exact upd_same) | (with_reducible assumption) | (with_reducible apply upd_new (by assumption)) | (with_reducible apply upd_other (by first | assumption | exact Ne.symm (by assumption))) | (with_reducible refine' Kp.get (by assumption) ?_ (by first | assumption | exact Ne.symm (by assumption))) | (with_reducible apply Same.get (by assumption))); done)))
  | ((with_reducible apply q_dSda); (focus ((repeat first | (with_reducible exact upd_same) | (with_reducible assumption) | (with_reducible apply upd_new (by assumption)) | (with_reducible apply upd_other (by first | assumption | exact Ne.symm (by assumption))) | (with_reducible refine' Kp.get (by assumption) ?_ (by first | assumption | exact Ne.symm (by assumption))) | (with_reducible apply Same.get (by assumption))); done)))
  | with_reducible refine q_sDPut ?_
  | ((with_reducible apply q_dInS); (focus ((repeat first | (with_reducible exact upd_same) | (with_reducible assumption) | (with_reducible apply upd_new (by assumption)) | (with_reducible apply upd_other (by first | assumption | exact Ne.symm (by assumption))) | (with_reducible refine' Kp.get (by assumption) ?_ (by first | assumption | exact Ne.symm (by assumption))) | (with_reducible apply Same.get (by assumption))); done)))
  | ((with_reducible apply q_dNInS); (focus ((repeat first | (with_reducible exact upd_same) | (with_reducible assumption) | (with_reducible apply upd_new (by assumption)) | (with_reducible apply upd_other (by first | assumption | exact Ne.symm (by assumption))) | (with_reducible refine' Kp.get (by assumption) ?_ (by first | assumption | exact Ne.symm (by assumption))) | (with_reducible apply Same.get (by assumption))); done)))
  | ((with_reducible apply q_dInI); (focus ((repeat first | (with_reducible exact upd_same) | (with_reducible assumption) | (with_reducible apply upd_new (by assumption)) | (with_reducible apply upd_other (by first | assumption | exact Ne.symm (by assumption))) | (with_reducible refine' Kp.get (by assumption) ?_ (by first | assumption | exact Ne.symm (by assumption))) | (with_reducible apply Same.get (by assumption))); done)))
  | ((with_reducible apply q_dNInI); (focus ((repeat first | (with_reducible exact upd_same) | (with_reducible assumption) | (with_reducible apply upd_new (by assumption)) | (with_reducible apply upd_other (by first | assumption | exact Ne.symm (by assumption))) | (with_reducible refine' Kp.get (by assumption) ?_ (by first | assumption | exact Ne.symm (by assumption))) | (with_reducible apply Same.get (by assumption))); done)))
  | ((with_reducible apply q_bmL); (focus ((repeat first | (with_reducible exact upd_same) | (with_reducible assumption) | (with_reducible apply upd_new (by assumption)) | (with_reducible apply upd_other (by first | assumption | exact Ne.symm (by assumption))) | (with_reducible refine' Kp.get (by assumption) ?_ (by first | assumption | exact Ne.symm (by assumption))) | (with_reducible apply Same.get (by assumption))); done)))
  | ((with_reducible apply q_bmL0); (focus ((repeat first | (with_reducible exact upd_same) | (with_reducible assumption) | (with_reducible apply upd_new (by assumption)) | (with_reducible apply upd_other (by first | assumption | exact Ne.symm (by assumption))) | (with_reducible refine' Kp.get (by assumption) ?_ (by first | assumption | exact Ne.symm (by assumption))) | (with_reducible apply Same.get (by assumption))); done)))
  | ((with_reducible apply q_ixLt); (focus ((repeat first | (with_reducible exact upd_same) | (with_reducible assumption) | (with_reducible apply upd_new (by assumption)) | (with_reducible apply upd_other (by first | assumption | exact Ne.symm (by assumption))) | (with_reducible refine' Kp.get (by assumption) ?_ (by first | assumption | exact Ne.symm (by assumption))) | (with_reducible apply Same.get (by assumption))); done)); (focus (exact rfl)))
  | ((with_reducible apply q_ixTt); (focus ((repeat first | (with_reducible exact upd_same) | (with_reducible assumption) | (with_reducible apply upd_new (by assumption)) | (with_reducible apply upd_other (by first | assumption | exact Ne.symm (by assumption))) | (with_reducible refine' Kp.get (by assumption) ?_ (by first | assumption | exact Ne.symm (by assumption))) | (with_reducible apply Same.get (by assumption))); done)); (focus (exact rfl)))
  | ((with_reducible apply q_lenLt); (focus ((repeat first | (with_reducible exact upd_same) | (with_reducible assumption) | (with_reducible apply upd_new (by assumption)) | (with_reducible apply upd_other (by first | assumption | exact Ne.symm (by assumption))) | (with_reducible refine' Kp.get (by assumption) ?_ (by first | assumption | exact Ne.symm (by assumption))) | (with_reducible apply Same.get (by assumption))); done)))
  | ((with_reducible apply q_lenTt); (focus ((repeat first | (with_reducible exact upd_same) | (with_reducible assumption) | (with_reducible apply upd_new (by assumption)) | (with_reducible apply upd_other (by first | assumption | exact Ne.symm (by assumption))) | (with_reducible refine' Kp.get (by assumption) ?_ (by first | assumption | exact Ne.symm (by assumption))) | (with_reducible apply Same.get (by assumption))); done)))
  | ((with_reducible apply q_append); (focus ((repeat first | (with_reducible exact upd_same) | (with_reducible assumption) | (with_reducible apply upd_new (by assumption)) | (with_reducible apply upd_other (by first | assumption | exact Ne.symm (by assumption))) | (with_reducible refine' Kp.get (by assumption) ?_ (by first | assumption | exact Ne.symm (by assumption))) | (with_reducible apply Same.get (by assumption))); done)); (focus ((first | (exact Nat.lt_of_ble_eq_true rfl) | (simp only [List.length_append, List.length_cons, List.length_nil, List.length_map]; exact small1000 (by omega))))))
  | ((with_reducible apply q_setL); (focus ((repeat first | (with_reducible exact upd_same) | (with_reducible assumption) | (with_reducible apply upd_new (by assumption)) | (with_reducible apply upd_other (by first | assumption | exact Ne.symm (by assumption))) | (with_reducible refine' Kp.get (by assumption) ?_ (by first | assumption | exact Ne.symm (by assumption))) | (with_reducible apply Same.get (by assumption))); done)); (focus (exact rfl)))
  | with_reducible refine q_ifNT ?_
  | with_reducible refine q_ifNF ?_
  | with_reducible refine q_andNT ?_
  | with_reducible refine q_andNF ?_
  | with_reducible refine q_orNT ?_
  | with_reducible refine q_orNF ?_
  | with_reducible refine q_bKNT ?_
  | with_reducible refine q_bKNF ?_
  | with_reducible refine q_tNGet ?_
  | with_reducible refine q_tNIn ?_
  | with_reducible refine q_sNPut ?_
  | with_reducible refine q_sFldAug ?_
  | with_reducible refine q_sDAug ?_
  | with_reducible refine q_sDDel ?_
  | with_reducible refine q_forX ?_
  | with_reducible refine q_tMake ?_
  | ((with_reducible apply q_dG1a); (focus ((repeat first | (with_reducible exact upd_same) | (with_reducible assumption) | (with_reducible apply upd_new (by assumption)) | (with_reducible apply upd_other (by first | assumption | exact Ne.symm (by assumption))) | (with_reducible refine' Kp.get (by assumption) ?_ (by first | assumption | exact Ne.symm (by assumption))) | (with_reducible apply Same.get (by assumption))); done)))))
/-! pairs and sets, told of any value -/
def pairD : PyData → Bool
  | .tuple [a, b] => accD a && leastD 1 b
  | _ => false
def nameS : PyData → Str
  | .tuple (.str s :: _) => s
  | _ => ""
def setD : PyData → Bool
  | .tuple ds => !ds.isEmpty && (ds.all pairD && decide ((ds.map nameS).Nodup))
  | _ => false
def FineP (d : PyData) : Prop := ∀ a b, d = .tuple [a, b] → Fine a ∧ Fine b
def FineS (d : PyData) : Prop := ∀ ds, d = .tuple ds → ds.length ≤ 1000 ∧ ∀ x ∈ ds, FineP x
theorem pairD_shape {d : PyData} (h : pairD d = true) : ∃ s n, d = .tuple [.str s, .int n] ∧ accD (.str s) = true ∧ 1 ≤ n := by
  unfold pairD at h
  split at h
  · rename_i a b
    rw [Bool.and_eq_true] at h
    obtain ⟨h1, h2⟩ := h
    cases a <;> try cases h1
    cases b <;> try cases h2
    exact ⟨_, _, rfl, h1, of_decide_eq_true h2⟩
  · cases h
def sp_pair (K : PySem.W.Frag) : Sp := fun vs H Q _ => ∃ (v : V) (d : PyData), vs = [v] ∧ Dp K H v d ∧ FineP d ∧ ∀ H', Same H H' → Q (.bl (pairD d)) H'
def sp_set (K : PySem.W.Frag) : Sp := fun vs H Q _ => ∃ (v : V) (d : PyData), vs = [v] ∧ Dp K H v d ∧ FineS d ∧ ∀ H', Same H H' → Q (.bl (setD d)) H'
theorem mem_names {l : List Key} {s : Str} (ks : List Str) (h : l = ks.map Sum.inr) : (Sum.inr s : Key) ∈ l ↔ s ∈ ks := by
  subst h
  constructor
  · intro m
    obtain ⟨z, hz, e⟩ := List.mem_map.mp m
    cases e
    exact hz
  · exact fun m => List.mem_map.mpr ⟨s, m, rfl⟩
section
variable {P : Program} {w : World} {K : PySem.W.Frag} {mg : Str → Option Value} {base : Heap}
theorem ok_is_pair (T : Txt K mg) : FnOk P w K mg base CX0 4 T.f_is_pair T.d_is_pair ["part"] (sp_pair K) := by
  refine T.F_is_pair.ok sc_is_pair (fun vs H Q E h => ?_) (fun cdv A outer s H vs Q E hr h => ?_)
  · obtain ⟨v, d, rfl, _⟩ := h; rfl
  · obtain ⟨v, d, rfl, hd, hf, k⟩ := h
    refine ⟨_, (pss_one (ps_ret (pe_and (pe_callB call_isi (by rfl) T.z_isinstance boot_isinstance (pa_cons (pv 0) (pa_cons (pe_bltn (v := .ty "tuple") (by rfl) T.z_tuple boot_tuple rfl) pa_nil))) (pe_and (pe_cmpR op_eq (pe_callB cq_len (by rfl) T.z_len boot_len (pa_cons (pv 0) pa_nil)) pe_int (nomark _)) (pe_and (pe_call (ok_is_account T) (hr.mono (by decide)) (by rfl) T.g_is_account T.F_is_account.kp T.b_is_account .nil pass0 (pa_cons (pe_ix ix_tup (pv 0) pe_int (fun _ _ => rfl)) pa_nil)) (pe_one (pe_call (ok_is_at_least T) (hr.mono (by decide)) (by rfl) T.g_is_at_least T.F_is_at_least.kp T.b_is_at_least .nil pass0 (pa_cons (pe_ix ix_tup (pv 0) pe_int (fun _ _ => rfl)) (pa_cons pe_int pa_nil))))))))), ?_⟩
    (dsimp only [cxOf, Cx.nox, Cx.wish, L2.start, List.map, List.length, List.replicate, List.cons_append, List.nil_append, List.append_eq, Nat.reduceSub, Nat.reduceAdd])
    walk_at "my_rd"
    refine q_isiD hd (kit_tuple d) ?_
    cases hd with
    | @tup a xs ds h1 h2 =>
      show andVK _ _ _ (.bl true) H
      walk_at "my_rd"
      refine q_lenT h1 ?_
      walk_at "my_rd"
      have hl := dpall_len h2
      by_cases h : xs.length = 2
      · rw [decide_eq_true (show (xs.length : Int) = 2 by omega)]
        obtain ⟨v0, v1, rfl⟩ : ∃ v0 v1, xs = [v0, v1] := by
          match xs, h with
          | [v0, v1], _ => exact ⟨v0, v1, rfl⟩
        cases h2 with
        | cons d0 h2 =>
          cases h2 with
          | cons d1 h2 =>
            cases h2
            obtain ⟨f0, f1⟩ := hf _ _ rfl
            walk_at "my_rd"
            refine q_ixT h1 rfl ?_
            walk_at "my_rd"
            refine ⟨_, _, rfl, d0, f0, fun H1 sm => ?_⟩
            refine q_andV2 (fun h => ?_) (fun h => ?_)
            · walk_at "my_rd"
              refine q_ixT (Same.sqT sm h1) rfl ?_
              walk_at "my_rd"
              refine ⟨_, _, _, rfl, dp_mono sm d1, f1, fun H2 sm2 => ?_⟩
              rename_i y0 y1
              have e : pairD (.tuple [y0, y1]) = leastD 1 y1 := by
                show (accD y0 && leastD 1 y1) = _
                rw [h, Bool.true_and]
              rw [← e]
              exact k H2 (Same.trans sm sm2)
            · rename_i y0 y1
              have e : false = pairD (.tuple [y0, y1]) := by
                show false = (accD y0 && leastD 1 y1)
                rw [h, Bool.false_and]
              rw [e]
              exact k H1 sm
      · rw [decide_eq_false (show ¬ (xs.length : Int) = 2 by omega)]
        have e : false = pairD (.tuple ds) := by
          unfold pairD
          split
          · rename_i heq
            injection heq with heq
            subst heq
            exact absurd hl h
          · rfl
        walk_at "my_rd"
        rw [e]
        exact k H (Same.refl _)
    | _ =>
      show andVK _ _ _ (.bl false) H
      walk_at "my_rd"
      exact k H (Same.refl _)
theorem ok_is_set (T : Txt K mg) : FnOk P w K mg base CX0 5 T.f_is_set T.d_is_set ["value"] (sp_set K) := by
  refine T.F_is_set.ok sc_is_set (fun vs H Q E h => ?_) (fun cdv A outer s H vs Q E hr h => ?_)
  · obtain ⟨v, d, rfl, _⟩ := h; rfl
  · obtain ⟨v, d, rfl, hd, hf, k⟩ := h
    have hu := hu_of hr
    refine ⟨_, (pss_cons (ps_if (PW.pt (pw_or (pt_not (pt_val (pe_callB call_isi (by rfl) T.z_isinstance boot_isinstance (pa_cons (pv 0) (pa_cons (pe_bltn (v := .ty "tuple") (by rfl) T.z_tuple boot_tuple rfl) pa_nil))))) (pw_or1 (pt_not (pt_truth (pv 0) (by intro _; rfl)))))) (pss_one (ps_ret pe_bl)) pss_nil)
      (pss_cons (ps_set (i := 1) sc_is_set.nd rfl (Or.inl rfl) pe_dnewK)
      (pss_cons (ps_for PassesOwn.never rfl (pi_tup (pv 0)) (pg_name (i := 2) sc_is_set.nd rfl (Or.inl rfl))
        (pss_cons (ps_if (PW.pt (pw_or (pt_not (pt_val (pe_call (ok_is_pair T) (hr.mono (by decide)) (by rfl) T.g_is_pair T.F_is_pair.kp T.b_is_pair .nil pass0 (pa_cons (pv 2) pa_nil)))) (pw_or1 (pt_cmp (pc_din hu (pe_ix ix_tup (pv 2) pe_int (fun _ _ => rfl)) (pv 1)))))) (pss_one (ps_ret pe_bl)) pss_nil)
      (pss_one (ps_dput hu (pv 1) (pe_ix ix_tup (pv 2) pe_int (fun _ _ => rfl)) pe_bl rfl))))
      (pss_one (ps_ret pe_bl))))), ?_⟩
    (dsimp only [cxOf, Cx.nox, Cx.wish, L2.start, List.map, List.length, List.replicate, List.cons_append, List.nil_append, List.append_eq, Nat.reduceSub, Nat.reduceAdd])
    walk_at "my_rd"
    refine q_isiD hd (kit_tuple d) ?_
    cases hd with
    | @tup a xs ds h1 h2 =>
      show bK _ (.bl true) H
      walk_at "my_rd"
      have hl := dpall_len h2
      obtain ⟨hfl, hfp⟩ := hf ds rfl

      refine ⟨!xs.isEmpty, .inr (.inl ⟨xs, h1, rfl⟩), ?_⟩
      cases hx : xs.isEmpty with
      | true =>
        show ifK _ _ _ _ true H
        walk_at "my_rd"
        have e : xs = [] := List.isEmpty_iff.mp hx
        subst e
        have e2 : ds = [] := List.length_eq_zero_iff.mp hl.symm
        subst e2
        exact k H (Same.refl _)
      | false =>
        show ifK _ _ _ _ false H
        walk_at "my_rd"
        refine q_dNew fun F nF => ?_
        walk_at "my_rd"
        have e0 : ds.isEmpty = false := by
          cases ds with
          | nil => rw [List.length_eq_zero_iff.mp hl] at hx; cases hx
          | cons _ _ => rfl
        refine q_forT (Same.sqT (Same.new (Same.refl _) nF) h1) (fun i σ H2 => ∃ (kvs : List (Key × V)) (pv : Option V), σ = [some (.ref a), some (.ref F), pv] ∧ Same H H2 ∧ H2 F = some (.dK kvs) ∧ kvs.map (·.1) = ((ds.take i).map nameS).map Sum.inr ∧ (ds.take i).all pairD = true ∧ ((ds.take i).map nameS).Nodup)
          ⟨[], _, rfl, Same.new (Same.refl _) nF, upd_same, rfl, rfl, List.nodup_nil⟩ (fun i σ H2 _ ⟨_, _, _, sm, _⟩ => Same.sqT sm h1) ?_ ?_
        · rintro i x σ H2 hx ⟨kvs, pv, rfl, sm, hF, hk, hall, hnd⟩
          obtain ⟨dx, hdx, hdp⟩ := dpall_get h2 hx
          have hnf : ∀ b, (ds.take (i + 1)).all pairD = b → (b = false → ds.all pairD = false) := fun b hb hb2 => by
            rw [hb2] at hb
            rw [List.all_eq_false] at hb ⊢
            obtain ⟨z, hz, hp⟩ := hb
            exact ⟨z, List.mem_of_mem_take hz, hp⟩
          walk_at "my_rd"
          refine ⟨x, dx, rfl, dp_mono sm hdp, hfp dx (List.mem_of_getElem? hdx), fun H3 sm3 => ?_⟩
          cases hpd : pairD dx with
          | false =>
            walk_at "my_rd"

            walk_at "my_rd"
            have e : false = setD (.tuple ds) := by
              show false = (!ds.isEmpty && (ds.all pairD && _))
              rw [hnf false (by rw [take_snoc hdx, List.all_append, List.all_cons, hpd]; simp) rfl]
              simp
            rw [e]
            exact k H3 (Same.trans sm sm3)
          | true =>
            walk_at "my_rd"
            obtain ⟨nme, wt, rfl, _, _⟩ := pairD_shape hpd
            have hdp3 := dp_mono (Same.trans sm sm3) hdp
            have hF3 := sm3 _ _ hF
            cases hdp3 with
            | @tup b ys es t1 t2 =>
              cases t2 with
              | @cons v0 _ _ _ u0 t2 =>
                cases t2 with
                | cons u1 t3 =>
                cases t3
                cases u0 with
                | str _ =>
                  refine q_ixT t1 rfl ?_
                  walk_at "my_rd"
                  have key : (valV kvs (Sum.inr nme)).isSome = decide (nme ∈ (ds.take i).map nameS) := by
                    cases hv : valV kvs (Sum.inr nme) with
                    | none =>
                      have q := valV_not hv
                      rw [mem_names _ hk] at q
                      exact (decide_eq_false q).symm
                    | some _ =>
                      have q := valV_in hv
                      rw [mem_names _ hk] at q
                      exact (decide_eq_true q).symm
                  rw [key]
                  refine q_if2 (fun h => ?_) (fun h => ?_)
                  · have h := dec_t h
                    walk_at "my_rd"
                    have e : false = setD (.tuple ds) := by
                      show false = (!ds.isEmpty && (ds.all pairD && decide ((ds.map nameS).Nodup)))
                      rw [decide_eq_false, Bool.and_false, Bool.and_false]
                      intro hn
                      have h3 : ((ds.take (i + 1)).map nameS).Nodup := (List.Sublist.map _ (List.take_sublist _ _)).nodup hn
                      rw [take_snoc hdx, List.map_append] at h3
                      exact (List.nodup_append.mp h3).2.2 nme h nme (by simp [nameS]) rfl
                    rw [e]
                    exact k H3 (Same.trans sm sm3)
                  · have h := dec_f h
                    walk_at "my_rd"
                    refine q_ixT t1 rfl ?_
                    have hv : valV kvs (Sum.inr nme) = none := by
                      cases hv : valV kvs (Sum.inr nme) with
                      | none => rfl
                      | some _ =>
                        rw [hv] at key
                        exact absurd (dec_t key.symm) h
                    refine q_dPutS hF3 ?_ ?_
                    · have : kvs.length = (ds.take i).length := by
                        have := congrArg List.length hk
                        simpa using this
                      rw [List.length_take] at this
                      exact small1000 (by omega)
                    · walk_at "my_rd"
                      have e2 : ds.take (i + 1) = ds.take i ++ [PyData.tuple [.str nme, .int wt]] := take_snoc hdx
                      refine ⟨_, _, rfl, Same.new (Same.trans sm sm3) nF, upd_same, ?_, ?_, ?_⟩
                      · rw [putK_new _ hv, List.map_append, hk, e2, List.map_append, List.map_append]
                        rfl
                      · rw [e2, List.all_append, hall, List.all_cons, hpd]
                        rfl
                      · rw [e2, List.map_append]
                        exact nd_snoc hnd h
        · rintro σ H2 ⟨kvs, pv, rfl, sm, hF, hk, hall, hnd⟩
          walk_at "my_rd"
          have et : ds.take xs.length = ds := List.take_of_length_le (by rw [hl]; exact Nat.le_refl _)
          rw [et] at hall hnd
          have e : true = setD (.tuple ds) := by
            show true = (!ds.isEmpty && (ds.all pairD && decide ((ds.map nameS).Nodup)))
            rw [e0, hall, decide_eq_true hnd]
            rfl
          rw [e]
          exact k H2 sm
    | _ =>
      show bK _ (.bl false) H
      walk_at "my_rd"
      exact k H (Same.refl _)
end

/-! letters, told of any value -/
def flatD : PyData → Bool
  | .none => true
  | .bool _ => true
  | .int _ => true
  | .str _ => true
  | _ => false
def isS (s : Str) : PyData → Bool
  | .str z => decide (z = s)
  | _ => false
def sideD (d : PyData) : Bool := isS "west" d || isS "east" d
def oneD (d : PyData) : Bool := isS "deliver" d || (isS "return" d || isS "cancel" d)
def allD (d : PyData) : Bool := isS "stop" d || isS "resume" d
def emptyD : PyData → Bool
  | .tuple [] => true
  | _ => false
def leD : PyData → PyData → Bool
  | .int a, .int b => decide (a ≤ b)
  | _, _ => false
def transD : PyData → Bool
  | .tuple [t, u, f, s, r, d] => if !(textD t && (accD s && accD r)) then false else leastD 1 u && (leastD 0 f && (leD f u && leastD 0 d))
  | _ => false
def letterD : PyData → Bool
  | .tuple [k, s, n, b] => if isS "rotate" k then isS "both" s && (leastD 1 n && setD b) else if !(sideD s && leastD 0 n) then false else if oneD k then transD b else allD k && emptyD b
  | _ => false
def FineT (d : PyData) : Prop := ∀ t u f s r e, d = .tuple [t, u, f, s, r, e] → Fine t ∧ Fine u ∧ Fine f ∧ Fine s ∧ Fine r ∧ Fine e
structure FineB (b : PyData) : Prop where
  s : FineS b
  t : FineT b
  sh : SeqAt.shaped b = true
def FineL (d : PyData) : Prop := ∀ k s n b, d = .tuple [k, s, n, b] → flatD k = true ∧ flatD s = true ∧ Fine n ∧ FineB b ∧ isS "bundle" k = false
theorem six {α : Type} : ∀ {l : List α}, l.length = 6 → ∃ a b c d e f, l = [a, b, c, d, e, f]
  | [_, _, _, _, _, _], _ => ⟨_, _, _, _, _, _, rfl⟩
  | [], h => by simp at h
  | [_], h => by simp at h
  | [_, _], h => by simp at h
  | [_, _, _], h => by simp at h
  | [_, _, _, _], h => by simp at h
  | [_, _, _, _, _], h => by simp at h
  | _ :: _ :: _ :: _ :: _ :: _ :: _ :: _, h => by simp at h
theorem four {α : Type} : ∀ {l : List α}, l.length = 4 → ∃ a b c d, l = [a, b, c, d]
  | [_, _, _, _], _ => ⟨_, _, _, _, rfl⟩
  | [], h => by simp at h
  | [_], h => by simp at h
  | [_, _], h => by simp at h
  | [_, _, _], h => by simp at h
  | _ :: _ :: _ :: _ :: _ :: _, h => by simp at h
theorem dp_cons {K : PySem.W.Frag} {H : Hp} {xs : List V} {d : PyData} {ds : List PyData} (h : DpAll K H xs (d :: ds)) : ∃ v vs, xs = v :: vs ∧ Dp K H v d ∧ DpAll K H vs ds := by
  cases h with
  | cons a b => exact ⟨_, _, rfl, a, b⟩
theorem dp_nil {K : PySem.W.Frag} {H : Hp} {xs : List V} (h : DpAll K H xs []) : xs = [] := by cases h; rfl
theorem dp4 {K : PySem.W.Frag} {H : Hp} {xs : List V} {a b c d : PyData} (h : DpAll K H xs [a, b, c, d]) : ∃ v0 v1 v2 v3, xs = [v0, v1, v2, v3] ∧ Dp K H v0 a ∧ Dp K H v1 b ∧ Dp K H v2 c ∧ Dp K H v3 d := by
  obtain ⟨v0, xs, rfl, h0, h⟩ := dp_cons h
  obtain ⟨v1, xs, rfl, h1, h⟩ := dp_cons h
  obtain ⟨v2, xs, rfl, h2, h⟩ := dp_cons h
  obtain ⟨v3, xs, rfl, h3, h⟩ := dp_cons h
  obtain rfl := dp_nil h
  exact ⟨v0, v1, v2, v3, rfl, h0, h1, h2, h3⟩
theorem dp6 {K : PySem.W.Frag} {H : Hp} {xs : List V} {a b c d e f : PyData} (h : DpAll K H xs [a, b, c, d, e, f]) : ∃ v0 v1 v2 v3 v4 v5, xs = [v0, v1, v2, v3, v4, v5] ∧ Dp K H v0 a ∧ Dp K H v1 b ∧ Dp K H v2 c ∧ Dp K H v3 d ∧ Dp K H v4 e ∧ Dp K H v5 f := by
  obtain ⟨v0, xs, rfl, h0, h⟩ := dp_cons h
  obtain ⟨v1, xs, rfl, h1, h⟩ := dp_cons h
  obtain ⟨v2, v3, v4, v5, rfl, r⟩ := dp4 h
  exact ⟨v0, v1, v2, v3, v4, v5, rfl, h0, h1, r⟩
def sp_side (K : PySem.W.Frag) : Sp := fun vs H Q _ => ∃ (v : V) (d : PyData), vs = [v] ∧ Dp K H v d ∧ flatD d = true ∧ ∀ H', Same H H' → Q (.bl (sideD d)) H'
def sp_trans (K : PySem.W.Frag) : Sp := fun vs H Q _ => ∃ (v : V) (d : PyData), vs = [v] ∧ Dp K H v d ∧ FineT d ∧ ∀ H', Same H H' → Q (.bl (transD d)) H'
def sp_letter (K : PySem.W.Frag) : Sp := fun vs H Q _ => ∃ (v : V) (d : PyData), vs = [v] ∧ Dp K H v d ∧ FineL d ∧ ∀ H', Same H H' → Q (.bl (letterD d)) H'
def rInDT (K : PySem.W.Frag) : R2 := fun x y H Q => ∃ d ds, Dp K H x d ∧ Dp K H y (.tuple ds) ∧ SeqAt.shaped d = true ∧ SeqAt.shaped (.tuple ds) = true ∧ Q (.bl (ds.any fun z => PyData.eqv z d)) H
theorem op_inDT {X : Cx} (hu : X.A.units + 65 < cLine) : OpR X (compareOp .In) (rInDT X.K) := by
  intro pins s σ H x y v u Q I rx ry h
  obtain ⟨d, ds, hd, he, sd, se, q⟩ := h
  obtain ⟨as, r1⟩ := Dp.reads I d x v hd rx
  obtain ⟨bs, r2⟩ := Dp.reads I (.tuple ds) y u he ry
  exact SeqAt.in_tuple_reads r2 r1 (SeqAt.canLay_of_shaped se) (SeqAt.canLay_of_shaped sd) (room_in_shaped sd hu) ⟨.bl _, H, I, rfl, q⟩
theorem q_inDT {K : PySem.W.Frag} {H : Hp} {Q : VK} {x y : V} {d : PyData} {ds : List PyData} (hd : Dp K H x d) (hy : Dp K H y (.tuple ds)) (s1 : SeqAt.shaped d = true) (s2 : SeqAt.shaped (.tuple ds) = true) (k : Q (.bl (ds.any fun z => PyData.eqv z d)) H) : rInDT K x y H Q := ⟨d, ds, hd, hy, s1, s2, k⟩
theorem eqv_S (s : Str) (d : PyData) : PyData.eqv (.str s) d = isS s d := by
  cases d with
  | str x =>
    simp only [PyData.eqv, isS]
    by_cases h : x = s
    · subst h; simp
    · have : ¬ s = x := fun e => h e.symm
      simp [h, this]
  | _ => simp [PyData.eqv, isS]
theorem eqv_S' (s : Str) (d : PyData) : PyData.eqv d (.str s) = isS s d := by
  cases d with
  | str x =>
    simp only [PyData.eqv, isS]
    by_cases h : x = s
    · subst h; simp
    · simp [h]
  | _ => simp [PyData.eqv, isS]
def FineG (d : PyData) : Prop := ∀ k s n b, d = .tuple [k, s, n, b] → SeqAt.shaped k = true ∧ SeqAt.shaped s = true ∧ Fine n ∧ FineB b ∧ isS "bundle" k = false
def sp_sideG (K : PySem.W.Frag) : Sp := fun vs H Q _ => ∃ (v : V) (d : PyData), vs = [v] ∧ Dp K H v d ∧ SeqAt.shaped d = true ∧ ∀ H', Same H H' → Q (.bl (sideD d)) H'
def sp_letG (K : PySem.W.Frag) : Sp := fun vs H Q _ => ∃ (v : V) (d : PyData), vs = [v] ∧ Dp K H v d ∧ FineG d ∧ ∀ H', Same H H' → Q (.bl (letterD d)) H'
def sp_none : Sp := fun _ _ _ _ => False
theorem flat_v {K : PySem.W.Frag} {H : Hp} {v : V} {d : PyData} (h : Dp K H v d) (f : flatD d = true) : flatV v = true := by
  cases h <;> first | rfl | cases f
theorem isS_v {K : PySem.W.Frag} {H : Hp} {v : V} {d : PyData} {s : Str} (h : Dp K H v d) (f : flatD d = true) : eqV (.str s) v = isS s d := by
  cases h with
  | str x =>
    show (s == x) = decide (x = s)
    by_cases e : x = s
    · subst e; simp
    · rw [decide_eq_false e]; exact beq_eq_false_iff_ne.mpr (fun q => e q.symm)
  | _ => first | rfl | cases f
theorem eqS_v {K : PySem.W.Frag} {H : Hp} {v : V} {d : PyData} {s : Str} (h : Dp K H v d) (f : flatD d = true) : scal v (.str s) = true ∧ decide (v = .str s) = isS s d := by
  cases h with
  | str x => exact ⟨rfl, dec_str x s⟩
  | non => exact ⟨rfl, decide_eq_false (fun e => by cases e)⟩
  | bl b => exact ⟨rfl, decide_eq_false (fun e => by cases e)⟩
  | int i => exact ⟨rfl, decide_eq_false (fun e => by cases e)⟩
  | lst _ _ => cases f
  | tup _ _ => cases f
theorem empty_eqv (d : PyData) : PyData.eqv d (.tuple []) = emptyD d := by
  cases d with
  | tuple xs => cases xs <;> simp [PyData.eqv, PyData.eqvAll, emptyD]
  | _ => simp [PyData.eqv, emptyD]
section
variable {P : Program} {w : World} {K : PySem.W.Frag} {mg : Str → Option Value} {base : Heap}
theorem ok_is_bundle (T : Txt K mg) : FnOk P w K mg base CX0 5 T.f_is_bundle T.d_is_bundle ["value"] sp_none :=
  ⟨fun _ _ _ _ h => h.elim, fun _ _ _ _ _ _ _ _ _ _ _ _ _ h => h.elim⟩
theorem ok_is_transfer (T : Txt K mg) : FnOk P w K mg base CX0 4 T.f_is_transfer T.d_is_transfer ["value"] (sp_trans K) := by
  refine T.F_is_transfer.ok sc_is_transfer (fun vs H Q E h => ?_) (fun cdv A outer s H vs Q E hr h => ?_)
  · obtain ⟨v, d, rfl, _⟩ := h; rfl
  · obtain ⟨v, d, rfl, hd, hf, k⟩ := h
    refine ⟨_, (pss_cons (ps_if (PW.pt (pw_or (pt_not (pt_val (pe_callB call_isi (by rfl) T.z_isinstance boot_isinstance (pa_cons (pv 0) (pa_cons (pe_bltn (v := .ty "tuple") (by rfl) T.z_tuple boot_tuple rfl) pa_nil))))) (pw_or1 (pt_cmpR op_ne (pe_callB cq_len (by rfl) T.z_len boot_len (pa_cons (pv 0) pa_nil)) pe_int (nomark _))))) (pss_one (ps_ret pe_bl)) pss_nil)
      (pss_cons (ps_asg (pv 0) (pg_tup rfl (pgs_cons (pg_name (i := 1) sc_is_transfer.nd rfl (Or.inl rfl)) (pgs_cons (pg_name (i := 2) sc_is_transfer.nd rfl (Or.inl rfl)) (pgs_cons (pg_name (i := 3) sc_is_transfer.nd rfl (Or.inl rfl)) (pgs_cons (pg_name (i := 4) sc_is_transfer.nd rfl (Or.inl rfl)) (pgs_cons (pg_name (i := 5) sc_is_transfer.nd rfl (Or.inl rfl)) (pgs_cons (pg_name (i := 6) sc_is_transfer.nd rfl (Or.inl rfl)) pgs_nil))))))))
      (pss_cons (ps_if (PW.pt (pw_or (pt_not (pt_val (pe_call (ok_is_text T) (hr.mono (by decide)) (by rfl) T.g_is_text T.F_is_text.kp T.b_is_text .nil pass0 (pa_cons (pv 1) pa_nil)))) (pw_or (pt_not (pt_val (pe_call (ok_is_account T) (hr.mono (by decide)) (by rfl) T.g_is_account T.F_is_account.kp T.b_is_account .nil pass0 (pa_cons (pv 4) pa_nil)))) (pw_or1 (pt_not (pt_val (pe_call (ok_is_account T) (hr.mono (by decide)) (by rfl) T.g_is_account T.F_is_account.kp T.b_is_account .nil pass0 (pa_cons (pv 5) pa_nil)))))))) (pss_one (ps_ret pe_bl)) pss_nil)
      (pss_one (ps_ret (pe_and (pe_call (ok_is_at_least T) (hr.mono (by decide)) (by rfl) T.g_is_at_least T.F_is_at_least.kp T.b_is_at_least .nil pass0 (pa_cons (pv 2) (pa_cons pe_int pa_nil))) (pe_and (pe_call (ok_is_at_least T) (hr.mono (by decide)) (by rfl) T.g_is_at_least T.F_is_at_least.kp T.b_is_at_least .nil pass0 (pa_cons (pv 3) (pa_cons pe_int pa_nil))) (pe_and (pe_cmpR op_le (pv 3) (pv 2) (nomark _)) (pe_one (pe_call (ok_is_at_least T) (hr.mono (by decide)) (by rfl) T.g_is_at_least T.F_is_at_least.kp T.b_is_at_least .nil pass0 (pa_cons (pv 6) (pa_cons pe_int pa_nil)))))))))))), ?_⟩
    (dsimp only [cxOf, Cx.nox, Cx.wish, L2.start, List.map, List.length, List.replicate, List.cons_append, List.nil_append, List.append_eq, Nat.reduceSub, Nat.reduceAdd])
    walk_at "my_rd"
    refine q_isiD hd (kit_tuple d) ?_
    cases hd with
    | @tup a xs ds h1 h2 =>
      show bK _ (.bl true) H
      walk_at "my_rd"
      refine q_lenT h1 ?_
      walk_at "my_rd"
      have hl := dpall_len h2
      by_cases h : ds.length = 6
      · rw [decide_eq_true (show (xs.length : Int) = 6 by omega)]
        walk_at "my_rd"
        obtain ⟨t, u, f, sn, rc, dl, rfl⟩ := six h
        obtain ⟨v0, v1, v2, v3, v4, v5, rfl, d0, d1, d2, d3, d4, d5⟩ := dp6 h2
        obtain ⟨f0, f1, f2, f3, f4, f5⟩ := hf _ _ _ _ _ _ rfl
        refine q_gTup h1 rfl ?_
        walk_at "my_rd"
        have eD : transD (.tuple [t, u, f, sn, rc, dl]) = if !(textD t && (accD sn && accD rc)) then false else leastD 1 u && (leastD 0 f && (leD f u && leastD 0 dl)) := rfl
        refine ⟨v0, t, rfl, d0, f0, fun H1 sm1 => ?_⟩
        walk_at "my_rd"
        cases b0 : textD t with
        | false =>
          walk_at "my_rd"
          have e : false = transD (.tuple [t, u, f, sn, rc, dl]) := by rw [eD, b0]; rfl
          rw [e]
          exact k _ sm1
        | true =>
          walk_at "my_rd"
          refine ⟨v3, sn, rfl, dp_mono sm1 d3, f3, fun H2 sm2 => ?_⟩
          have sm2 := Same.trans sm1 sm2
          walk_at "my_rd"
          cases b1 : accD sn with
          | false =>
            walk_at "my_rd"
            have e : false = transD (.tuple [t, u, f, sn, rc, dl]) := by rw [eD, b0, b1]; rfl
            rw [e]
            exact k _ sm2
          | true =>
            walk_at "my_rd"
            refine ⟨v4, rc, rfl, dp_mono sm2 d4, f4, fun H3 sm3 => ?_⟩
            have sm3 := Same.trans sm2 sm3
            walk_at "my_rd"
            cases b2 : accD rc with
            | false =>
              walk_at "my_rd"
              have e : false = transD (.tuple [t, u, f, sn, rc, dl]) := by rw [eD, b0, b1, b2]; rfl
              rw [e]
              exact k _ sm3
            | true =>
              walk_at "my_rd"
              have eD : transD (.tuple [t, u, f, sn, rc, dl]) = (leastD 1 u && (leastD 0 f && (leD f u && leastD 0 dl))) := by rw [eD, b0, b1, b2]; rfl
              refine ⟨v1, u, 1, rfl, dp_mono sm3 d1, f1, fun H4 sm4 => ?_⟩
              have sm4 := Same.trans sm3 sm4
              cases b3 : leastD 1 u with
              | false =>
                walk_at "my_rd"
                have e : false = transD (.tuple [t, u, f, sn, rc, dl]) := by rw [eD, b3]; rfl
                rw [e]
                exact k _ sm4
              | true =>
                walk_at "my_rd"
                refine ⟨v2, f, 0, rfl, dp_mono sm4 d2, f2, fun H5 sm5 => ?_⟩
                have sm5 := Same.trans sm4 sm5
                cases b4 : leastD 0 f with
                | false =>
                  walk_at "my_rd"
                  have e : false = transD (.tuple [t, u, f, sn, rc, dl]) := by rw [eD, b3, b4]; rfl
                  rw [e]
                  exact k _ sm5
                | true =>
                  walk_at "my_rd"
                  obtain ⟨iu, rfl⟩ : ∃ i, u = .int i := by cases u <;> first | exact ⟨_, rfl⟩ | cases b3
                  obtain ⟨jf, rfl⟩ : ∃ i, f = .int i := by cases f <;> first | exact ⟨_, rfl⟩ | cases b4
                  cases d1
                  cases d2
                  walk_at "my_rd"
                  cases b5 : decide (jf ≤ iu) with
                  | false =>
                    walk_at "my_rd"
                    have e : false = transD (.tuple [t, .int iu, .int jf, sn, rc, dl]) := by
                      rw [eD, b3, b4, show leD (.int jf) (.int iu) = false from b5]
                      rfl
                    rw [e]
                    exact k _ sm5
                  | true =>
                    walk_at "my_rd"
                    refine ⟨v5, dl, 0, rfl, dp_mono sm5 d5, f5, fun H6 sm6 => ?_⟩
                    have e : leastD 0 dl = transD (.tuple [t, .int iu, .int jf, sn, rc, dl]) := by
                      rw [eD, b3, b4, show leD (.int jf) (.int iu) = true from b5, Bool.true_and, Bool.true_and, Bool.true_and]
                    rw [e]
                    exact k _ (Same.trans sm5 sm6)
      · rw [decide_eq_false (show ¬ (xs.length : Int) = 6 by omega)]
        have e : false = transD (.tuple ds) := by
          unfold transD
          split
          · rename_i heq
            injection heq with heq
            subst heq
            exact absurd rfl h
          · rfl
        walk_at "my_rd"
        rw [e]
        exact k H (Same.refl _)
    | _ =>
      show bK _ (.bl false) H
      walk_at "my_rd"
      exact k H (Same.refl _)
end
section
variable {P : Program} {w : World} {K : PySem.W.Frag} {mg : Str → Option Value} {base : Heap}
theorem fold_in3 {K : PySem.W.Frag} {H : Hp} {v : V} {d : PyData} (hd : Dp K H v d) (hf : flatD d = true) : inV v [.str "deliver", .str "return", .str "cancel"] = oneD d := by
  show (eqV (.str "deliver") v || (eqV (.str "return") v || (eqV (.str "cancel") v || false))) = _
  rw [isS_v hd hf, isS_v hd hf, isS_v hd hf, Bool.or_false]
  rfl
theorem fold_in2 {K : PySem.W.Frag} {H : Hp} {v : V} {d : PyData} (hd : Dp K H v d) (hf : flatD d = true) : inV v [.str "stop", .str "resume"] = allD d := by
  show (eqV (.str "stop") v || (eqV (.str "resume") v || false)) = _
  rw [isS_v hd hf, isS_v hd hf, Bool.or_false]
  rfl
theorem empty_shaped : SeqAt.shaped (.tuple []) = true := by decide
theorem strs_shaped : SeqAt.shaped (.tuple [.str "west", .str "east"]) = true ∧ SeqAt.shaped (.tuple [.str "deliver", .str "return", .str "cancel"]) = true ∧ SeqAt.shaped (.tuple [.str "stop", .str "resume"]) = true := by decide +kernel
theorem ok_is_side (T : Txt K mg) : FnOk P w K mg base CX0 1 T.f_is_side T.d_is_side ["value"] (sp_sideG K) := by
  refine T.F_is_side.ok sc_is_side (fun vs H Q E h => ?_) (fun cdv A outer s H vs Q E hr h => ?_)
  · obtain ⟨v, d, rfl, _⟩ := h; rfl
  · obtain ⟨v, d, rfl, hd, hf, k⟩ := h
    refine ⟨_, (pss_one (ps_ret (pe_cmpR (op_inDT (hr65 hr)) (pv 0) (pe_glob (v := .ref T.a_SIDES) (by rfl) T.c_SIDES rfl) (by rfl)))), ?_⟩
    (dsimp only [cxOf, Cx.nox, Cx.wish, L2.start, List.map, List.length, List.replicate, List.cons_append, List.nil_append, List.append_eq, Nat.reduceSub, Nat.reduceAdd])
    walk_at "my_rd"
    refine q_inDT (ds := [.str "west", .str "east"]) hd (.tup T.k_SIDES.sq (.cons (.str _) (.cons (.str _) .nil))) hf strs_shaped.1 ?_
    have e : List.any [PyData.str "west", PyData.str "east"] (fun z => PyData.eqv z d) = sideD d := by
      show (PyData.eqv (.str "west") d || (PyData.eqv (.str "east") d || false)) = _
      rw [eqv_S, eqv_S, Bool.or_false]
      rfl
    rw [e]
    exact k H (Same.refl _)
theorem any_one (d : PyData) : List.any [PyData.str "deliver", PyData.str "return", PyData.str "cancel"] (fun z => PyData.eqv z d) = oneD d := by
  show (PyData.eqv (.str "deliver") d || (PyData.eqv (.str "return") d || (PyData.eqv (.str "cancel") d || false))) = _
  rw [eqv_S, eqv_S, eqv_S, Bool.or_false]
  rfl
theorem any_all (d : PyData) : List.any [PyData.str "stop", PyData.str "resume"] (fun z => PyData.eqv z d) = allD d := by
  show (PyData.eqv (.str "stop") d || (PyData.eqv (.str "resume") d || false)) = _
  rw [eqv_S, eqv_S, Bool.or_false]
  rfl
theorem q_eqG {K : PySem.W.Frag} {H : Hp} {Q : VK} {v : V} {d : PyData} {s : Str} (hd : Dp K H v d) (hf : SeqAt.shaped d = true) (k : Q (.bl (isS s d)) H) (hs : SeqAt.shaped (.str s) = true := by decide +kernel) : rEqD K v (.str s) H Q := q_eqD hd (.str s) hf hs (by rw [eqv_S']; exact k)
theorem ok_is_letter (T : Txt K mg) : FnOk P w K mg base CX0 6 T.f_is_letter T.d_is_letter ["value"] (sp_letG K) := by
  refine T.F_is_letter.ok sc_is_letter (fun vs H Q E h => ?_) (fun cdv A outer s H vs Q E hr h => ?_)
  · obtain ⟨v, d, rfl, _⟩ := h; rfl
  · obtain ⟨v, d, rfl, hd, hf, k⟩ := h
    refine ⟨_, (pss_cons (ps_if (PW.pt (pw_or (pt_not (pt_val (pe_callB call_isi (by rfl) T.z_isinstance boot_isinstance (pa_cons (pv 0) (pa_cons (pe_bltn (v := .ty "tuple") (by rfl) T.z_tuple boot_tuple rfl) pa_nil))))) (pw_or1 (pt_cmpR op_ne (pe_callB cq_len (by rfl) T.z_len boot_len (pa_cons (pv 0) pa_nil)) pe_int (nomark _))))) (pss_one (ps_ret pe_bl)) pss_nil)
      (pss_cons (ps_asg (pv 0) (pg_tup rfl (pgs_cons (pg_name (i := 1) sc_is_letter.nd rfl (Or.inl rfl)) (pgs_cons (pg_name (i := 2) sc_is_letter.nd rfl (Or.inl rfl)) (pgs_cons (pg_name (i := 3) sc_is_letter.nd rfl (Or.inl rfl)) (pgs_cons (pg_name (i := 4) sc_is_letter.nd rfl (Or.inl rfl)) pgs_nil))))))
      (pss_cons (ps_if (pt_cmpR (op_eqD hr.units) (pv 1) pe_str (nomark _)) (pss_one (ps_ret (pe_and (pe_cmpR (op_eqD hr.units) (pv 2) pe_str (nomark _)) (pe_and (pe_call (ok_is_at_least T) (hr.mono (by decide)) (by rfl) T.g_is_at_least T.F_is_at_least.kp T.b_is_at_least .nil pass0 (pa_cons (pv 3) (pa_cons pe_int pa_nil))) (pe_one (pe_call (ok_is_set T) (hr.mono (by decide)) (by rfl) T.g_is_set T.F_is_set.kp T.b_is_set .nil pass0 (pa_cons (pv 4) pa_nil))))))) pss_nil)
      (pss_cons (ps_if (PW.pt (pw_or (pt_not (pt_val (pe_call (ok_is_side T) (hr.mono (by decide)) (by rfl) T.g_is_side T.F_is_side.kp T.b_is_side .nil pass0 (pa_cons (pv 2) pa_nil)))) (pw_or1 (pt_not (pt_val (pe_call (ok_is_at_least T) (hr.mono (by decide)) (by rfl) T.g_is_at_least T.F_is_at_least.kp T.b_is_at_least .nil pass0 (pa_cons (pv 3) (pa_cons pe_int pa_nil)))))))) (pss_one (ps_ret pe_bl)) pss_nil)
      (pss_cons (ps_if (pt_cmpR (op_inDT (hr65 hr)) (pv 1) (pe_glob (v := .ref T.a_ABOUT_ONE) (by rfl) T.c_ABOUT_ONE rfl) (by rfl)) (pss_one (ps_ret (pe_call (ok_is_transfer T) (hr.mono (by decide)) (by rfl) T.g_is_transfer T.F_is_transfer.kp T.b_is_transfer .nil pass0 (pa_cons (pv 4) pa_nil)))) pss_nil)
      (pss_cons (ps_if (pt_cmpR (op_eqD hr.units) (pv 1) pe_str (nomark _)) (pss_one (ps_ret (pe_call (ok_is_bundle T) (hr.mono (by decide)) (by rfl) T.g_is_bundle T.F_is_bundle.kp T.b_is_bundle .nil pass0 (pa_cons (pv 4) pa_nil)))) pss_nil)
      (pss_one (ps_ret (pe_and (pe_cmpR (op_inDT (hr65 hr)) (pv 1) (pe_glob (v := .ref T.a_ABOUT_ALL) (by rfl) T.c_ABOUT_ALL rfl) (by rfl)) (pe_one (pe_cmpR (op_eqD hr.units) (pv 4) (pe_tup pa_nil) (nomark _)))))))))))), ?_⟩
    (dsimp only [cxOf, Cx.nox, Cx.wish, L2.start, List.map, List.length, List.replicate, List.cons_append, List.nil_append, List.append_eq, Nat.reduceSub, Nat.reduceAdd])
    walk_at "my_rd"
    refine q_isiD hd (kit_tuple d) ?_
    cases hd with
    | @tup a xs ds h1 h2 =>
      show bK _ (.bl true) H
      walk_at "my_rd"
      refine q_lenT h1 ?_
      walk_at "my_rd"
      have hl := dpall_len h2
      by_cases h : ds.length = 4
      · rw [decide_eq_true (show (xs.length : Int) = 4 by omega)]
        walk_at "my_rd"
        obtain ⟨kd, sd, nb, bd, rfl⟩ := four h
        obtain ⟨v0, v1, v2, v3, rfl, d0, d1, d2, d3⟩ := dp4 h2
        obtain ⟨f0, f1, f2, f3, hnb⟩ := hf _ _ _ _ rfl
        refine q_gTup h1 rfl ?_
        walk_at "my_rd"
        have eD : letterD (.tuple [kd, sd, nb, bd]) = if isS "rotate" kd then isS "both" sd && (leastD 1 nb && setD bd) else if !(sideD sd && leastD 0 nb) then false else if oneD kd then transD bd else allD kd && emptyD bd := rfl
        refine q_eqG d0 f0 ?_
        walk_at "my_rd"
        cases b0 : isS "rotate" kd with
        | true =>
          rw [b0, if_pos rfl] at eD
          walk_at "my_rd"
          refine q_eqG d1 f1 ?_
          cases b1 : isS "both" sd with
          | false =>
            rw [b1, Bool.false_and] at eD
            walk_at "my_rd"
            rw [← eD]
            exact k H (Same.refl _)
          | true =>
            rw [b1, Bool.true_and] at eD
            walk_at "my_rd"
            refine ⟨v2, nb, 1, rfl, d2, f2, fun H1 sm1 => ?_⟩
            cases b2 : leastD 1 nb with
            | false =>
              rw [b2, Bool.false_and] at eD
              walk_at "my_rd"
              rw [← eD]
              exact k _ sm1
            | true =>
              rw [b2, Bool.true_and] at eD
              walk_at "my_rd"
              refine ⟨v3, bd, rfl, dp_mono sm1 d3, f3.s, fun H2 sm2 => ?_⟩
              rw [← eD]
              exact k _ (Same.trans sm1 sm2)
        | false =>
          rw [b0, if_neg Bool.false_ne_true] at eD
          walk_at "my_rd"
          refine ⟨v1, sd, rfl, d1, f1, fun H1 sm1 => ?_⟩
          walk_at "my_rd"
          cases b1 : sideD sd with
          | false =>
            rw [b1, Bool.false_and] at eD
            walk_at "my_rd"
            have e : false = letterD (.tuple [kd, sd, nb, bd]) := by rw [eD]; rfl
            rw [e]
            exact k _ sm1
          | true =>
            rw [b1, Bool.true_and] at eD
            walk_at "my_rd"
            refine ⟨v2, nb, 0, rfl, dp_mono sm1 d2, f2, fun H2 sm2 => ?_⟩
            have sm2 := Same.trans sm1 sm2
            walk_at "my_rd"
            cases b2 : leastD 0 nb with
            | false =>
              rw [b2] at eD
              walk_at "my_rd"
              have e : false = letterD (.tuple [kd, sd, nb, bd]) := by rw [eD]; rfl
              rw [e]
              exact k _ sm2
            | true =>
              rw [b2, show (!true) = false from rfl, if_neg Bool.false_ne_true] at eD
              walk_at "my_rd"
              refine q_inDT (ds := [.str "deliver", .str "return", .str "cancel"]) (dp_mono sm2 d0) (.tup T.k_ABOUT_ONE.sq (.cons (.str _) (.cons (.str _) (.cons (.str _) .nil)))) f0 strs_shaped.2.1 ?_
              rw [any_one]
              walk_at "my_rd"
              cases b3 : oneD kd with
              | true =>
                rw [b3, if_pos rfl] at eD
                walk_at "my_rd"
                refine ⟨v3, bd, rfl, dp_mono sm2 d3, f3.t, fun H3 sm3 => ?_⟩
                rw [← eD]
                exact k _ (Same.trans sm2 sm3)
              | false =>
                rw [b3, if_neg Bool.false_ne_true] at eD
                walk_at "my_rd"
                refine q_eqG (dp_mono sm2 d0) f0 ?_
                rw [hnb]
                walk_at "my_rd"
                refine q_inDT (ds := [.str "stop", .str "resume"]) (dp_mono sm2 d0) (.tup T.k_ABOUT_ALL.sq (.cons (.str _) (.cons (.str _) .nil))) f0 strs_shaped.2.2 ?_
                rw [any_all]
                cases b4 : allD kd with
                | false =>
                  rw [b4, Bool.false_and] at eD
                  walk_at "my_rd"
                  rw [← eD]
                  exact k _ sm2
                | true =>
                  rw [b4, Bool.true_and] at eD
                  walk_at "my_rd"
                  refine q_tupK (Nat.zero_le _) fun e ne => ?_
                  have sm3 : Same H2 (upd H2 e (.tup [])) := Same.new (Same.refl _) ne
                  refine q_eqD (dp_mono (Same.trans sm2 sm3) d3) (.tup (sqT upd_same) .nil) f3.sh empty_shaped ?_
                  rw [empty_eqv, ← eD]
                  exact k _ (Same.trans sm2 sm3)
      · rw [decide_eq_false (show ¬ (xs.length : Int) = 4 by omega)]
        have e : false = letterD (.tuple ds) := by
          unfold letterD
          split
          · rename_i heq
            injection heq with heq
            subst heq
            exact absurd rfl h
          · rfl
        walk_at "my_rd"
        rw [e]
        exact k H (Same.refl _)
    | _ =>
      show bK _ (.bl false) H
      walk_at "my_rd"
      exact k H (Same.refl _)
end

local macro_rules | `(tactic| walk_at "my_rd") => `(tactic| (repeat first
  | with_reducible refine q_tCons ?_
  | ((with_reducible apply q_var); (focus (exact rfl)))
  | with_reducible refine q_c ?_
  | with_reducible refine q_nx ?_
  | with_reducible refine q_bK ?_
  | with_reducible refine q_call ?_
  | with_reducible refine q_callK ?_
  | with_reducible refine q_tNil ?_
  | with_reducible refine q_cb ?_
  | with_reducible refine q_seq ?_
  | with_reducible refine q_asg ?_
  | with_reducible refine q_gName ?_
  | with_reducible refine q_op ?_
  | with_reducible refine q_test ?_
  | with_reducible refine q_tB ?_
  | with_reducible refine q_ifS ?_
  | with_reducible refine q_ret ?_
  | with_reducible refine q_rt ?_
  | with_reducible refine q_next ?_
  | with_reducible refine q_ifF ?_
  | with_reducible refine q_ifT ?_
  | with_reducible refine q_drop ?_
  | with_reducible refine q_and ?_
  | with_reducible refine q_or ?_
  | with_reducible refine q_andT ?_
  | with_reducible refine q_andF ?_
  | with_reducible refine q_orF ?_
  | with_reducible refine q_orT ?_
  | with_reducible refine q_andV ?_
  | with_reducible refine q_andVT ?_
  | with_reducible refine q_andVF ?_
  | with_reducible refine q_orV ?_
  | with_reducible refine q_gCons ?_
  | with_reducible refine q_gNil ?_
  | with_reducible refine q_tup ?_
  | with_reducible refine q_lst ?_
  | with_reducible refine q_not ?_
  | with_reducible refine q_notKT ?_
  | with_reducible refine q_notKF ?_
  | with_reducible refine q_I0 ?_
  | with_reducible refine q_eqI ?_
  | with_reducible refine q_neI ?_
  | ((with_reducible refine q_I ?_ ?_); first | decide | omega | exact ⟨by omega, by omega⟩ | exact ⟨by decide, by decide⟩ | exact .inl ⟨by omega, by omega⟩ | exact .inr ⟨by omega, by omega⟩ | exact .inr ⟨by decide, by decide⟩)
  | with_reducible refine q_eqS ?_
  | with_reducible refine q_neS ?_
  | with_reducible refine q_brk ?_
  | with_reducible refine q_ct ?_
  | with_reducible refine q_bk ?_
  | with_reducible refine q_cn ?_
  | with_reducible refine q_retN ?_
  | with_reducible refine q_gSub ?_
  | with_reducible refine q_for ?_
  | with_reducible refine q_iList ?_
  | with_reducible refine q_iTup ?_
  | with_reducible refine q_iRng1 ?_
  | with_reducible refine q_notK ?_
  | with_reducible refine q_orVT ?_
  | with_reducible refine q_orVF ?_
  | with_reducible refine q_notV ?_
  | with_reducible refine q_notVK ?_
  | with_reducible refine q_ifE ?_
  | with_reducible refine q_ifET ?_
  | with_reducible refine q_ifEF ?_
  | with_reducible refine q_yes ?_
  | with_reducible refine q_un ?_
  | with_reducible refine q_rU ?_
  | with_reducible refine q_abs ?_
  | with_reducible refine q_int1 ?_
  | with_reducible refine q_bm ?_
  | with_reducible refine q_bm0 ?_
  | with_reducible refine q_lc ?_
  | with_reducible refine q_keepT ?_
  | with_reducible refine q_keepF ?_
  | ((with_reducible apply q_aug); (focus (exact rfl)))
  | with_reducible refine q_ipI ?_
  | with_reducible refine q_chain ?_
  | with_reducible refine q_pairC ?_
  | with_reducible refine q_pairsK ?_
  | with_reducible refine q_pairN ?_
  | with_reducible refine q_fld ?_
  | with_reducible refine q_sFld ?_
  | with_reducible refine q_meth ?_
  | with_reducible refine q_makeK ?_
  | with_reducible refine q_isBl ?_
  | with_reducible refine q_notBl ?_
  | with_reducible refine q_sl ?_
  | with_reducible refine q_noPart ?_
  | with_reducible refine q_part ?_
  | with_reducible refine q_partK ?_
  | ((with_reducible apply q_mulStr); (focus (decide +kernel)))
  | with_reducible refine q_chT ?_
  | with_reducible refine q_chF ?_
  | with_reducible refine q_ord ?_
  | with_reducible refine q_iStr0 ?_
  | with_reducible refine q_iStr ?_
  | with_reducible refine q_tDIn ?_
  | with_reducible refine q_tDNotIn ?_
  | with_reducible refine q_tDGet ?_
  | with_reducible refine q_tDGet2 ?_
  | with_reducible refine q_tDGet1 ?_
  | with_reducible refine q_tDSetd ?_
  | ((with_reducible apply q_dG2a); (focus ((repeat first | (with_reducible exact upd_same) | (with_reducible assumption) | (with_reducible apply upd_new (by assumption)) | (with_reducible apply upd_other (by first | assumption | exact Ne.symm (by assumption))) | (with_reducible refine' Kp.get (by assumption) ?_ (by first | assumption | exact Ne.symm (by assumption))) | (with_reducible apply Same.get (by assumption))); done)))
  | ((with_reducible apply q_dSda); (focus ((repeat first | (with_reducible exact upd_same) | (with_reducible assumption) | (with_reducible apply upd_new (by assumption)) | (with_reducible apply upd_other (by first | assumption | exact Ne.symm (by assumption))) | (with_reducible refine' Kp.get (by assumption) ?_ (by first | assumption | exact Ne.symm (by assumption))) | (with_reducible apply Same.get (by assumption))); done)))
  | with_reducible refine q_sDPut ?_
  | ((with_reducible apply q_dInS); (focus ((repeat first | (with_reducible exact upd_same) | (with_reducible assumption) | (with_reducible apply upd_new (by assumption)) | (with_reducible apply upd_other (by first | assumption | exact Ne.symm (by assumption))) | (with_reducible refine' Kp.get (by assumption) ?_ (by first | assumption | exact Ne.symm (by assumption))) | (with_reducible apply Same.get (by assumption))); done)))
  | ((with_reducible apply q_dNInS); (focus ((repeat first | (with_reducible exact upd_same) | (with_reducible assumption) | (with_reducible apply upd_new (by assumption)) | (with_reducible apply upd_other (by first | assumption | exact Ne.symm (by assumption))) | (with_reducible refine' Kp.get (by assumption) ?_ (by first | assumption | exact Ne.symm (by assumption))) | (with_reducible apply Same.get (by assumption))); done)))
  | ((with_reducible apply q_dInI); (focus ((repeat first | (with_reducible exact upd_same) | (with_reducible assumption) | (with_reducible apply upd_new (by assumption)) | (with_reducible apply upd_other (by first | assumption | exact Ne.symm (by assumption))) | (with_reducible refine' Kp.get (by assumption) ?_ (by first | assumption | exact Ne.symm (by assumption))) | (with_reducible apply Same.get (by assumption))); done)))
  | ((with_reducible apply q_dNInI); (focus ((repeat first | (with_reducible exact upd_same) | (with_reducible assumption) | (with_reducible apply upd_new (by assumption)) | (with_reducible apply upd_other (by first | assumption | exact Ne.symm (by assumption))) | (with_reducible refine' Kp.get (by assumption) ?_ (by first | assumption | exact Ne.symm (by assumption))) | (with_reducible apply Same.get (by assumption))); done)))
  | ((with_reducible apply q_bmL); (focus ((repeat first | (with_reducible exact upd_same) | (with_reducible assumption) | (with_reducible apply upd_new (by assumption)) | (with_reducible apply upd_other (by first | assumption | exact Ne.symm (by assumption))) | (with_reducible refine' Kp.get (by assumption) ?_ (by first | assumption | exact Ne.symm (by assumption))) | (with_reducible apply Same.get (by assumption))); done)))
  | ((with_reducible apply q_bmL0); (focus ((repeat first | (with_reducible exact upd_same) | (with_reducible assumption) | (with_reducible apply upd_new (by assumption)) | (with_reducible apply upd_other (by first | assumption | exact Ne.symm (by assumption))) | (with_reducible refine' Kp.get (by assumption) ?_ (by first | assumption | exact Ne.symm (by assumption))) | (with_reducible apply Same.get (by assumption))); done)))
  | ((with_reducible apply q_ixLt); (focus ((repeat first | (with_reducible exact upd_same) | (with_reducible assumption) | (with_reducible apply upd_new (by assumption)) | (with_reducible apply upd_other (by first | assumption | exact Ne.symm (by assumption))) | (with_reducible refine' Kp.get (by assumption) ?_ (by first | assumption | exact Ne.symm (by assumption))) | (with_reducible apply Same.get (by assumption))); done)); (focus (exact rfl)))
  | ((with_reducible apply q_ixTt); (focus ((repeat first | (with_reducible exact upd_same) | (with_reducible assumption) | (with_reducible apply upd_new (by assumption)) | (with_reducible apply upd_other (by first | assumption | exact Ne.symm (by assumption))) | (with_reducible refine' Kp.get (by assumption) ?_ (by first | assumption | exact Ne.symm (by assumption))) | (with_reducible apply Same.get (by assumption))); done)); (focus (exact rfl)))
  | ((with_reducible apply q_lenLt); (focus ((repeat first | (with_reducible exact upd_same) | (with_reducible assumption) | (with_reducible apply upd_new (by assumption)) | (with_reducible apply upd_other (by first | assumption | exact Ne.symm (by assumption))) | (with_reducible refine' Kp.get (by assumption) ?_ (by first | assumption | exact Ne.symm (by assumption))) | (with_reducible apply Same.get (by assumption))); done)))
  | ((with_reducible apply q_lenTt); (focus ((repeat first | (with_reducible exact upd_same) | (with_reducible assumption) | (with_reducible apply upd_new (by assumption)) | (with_reducible apply upd_other (by first | assumption | exact Ne.symm (by assumption))) | (with_reducible refine' Kp.get (by assumption) ?_ (by first | assumption | exact Ne.symm (by assumption))) | (with_reducible apply Same.get (by assumption))); done)))
  | ((with_reducible apply q_append); (focus ((repeat first | (with_reducible exact upd_same) | (with_reducible assumption) | (with_reducible apply upd_new (by assumption)) | (with_reducible apply upd_other (by first | assumption | exact Ne.symm (by assumption))) | (with_reducible refine' Kp.get (by assumption) ?_ (by first | assumption | exact Ne.symm (by assumption))) | (with_reducible apply Same.get (by assumption))); done)); (focus ((first | (exact Nat.lt_of_ble_eq_true rfl) | (simp only [List.length_append, List.length_cons, List.length_nil, List.length_map]; exact small1000 (by omega))))))
  | ((with_reducible apply q_setL); (focus ((repeat first | (with_reducible exact upd_same) | (with_reducible assumption) | (with_reducible apply upd_new (by assumption)) | (with_reducible apply upd_other (by first | assumption | exact Ne.symm (by assumption))) | (with_reducible refine' Kp.get (by assumption) ?_ (by first | assumption | exact Ne.symm (by assumption))) | (with_reducible apply Same.get (by assumption))); done)); (focus (exact rfl)))
  | with_reducible refine q_ifNT ?_
  | with_reducible refine q_ifNF ?_
  | with_reducible refine q_andNT ?_
  | with_reducible refine q_andNF ?_
  | with_reducible refine q_orNT ?_
  | with_reducible refine q_orNF ?_
  | with_reducible refine q_bKNT ?_
  | with_reducible refine q_bKNF ?_
  | with_reducible refine q_tNGet ?_
  | with_reducible refine q_tNIn ?_
  | with_reducible refine q_sNPut ?_
  | with_reducible refine q_sFldAug ?_
  | with_reducible refine q_sDAug ?_
  | with_reducible refine q_sDDel ?_
  | with_reducible refine q_forX ?_
  | with_reducible refine q_tMake ?_
  | ((with_reducible apply q_dG1a); (focus ((repeat first | (with_reducible exact upd_same) | (with_reducible assumption) | (with_reducible apply upd_new (by assumption)) | (with_reducible apply upd_other (by first | assumption | exact Ne.symm (by assumption))) | (with_reducible refine' Kp.get (by assumption) ?_ (by first | assumption | exact Ne.symm (by assumption))) | (with_reducible apply Same.get (by assumption))); done)))))
/-! the law's letters -/
theorem menu {l : List V} {r : Int} (h0 : 0 ≤ r) (h1 : r < l.length) : ∃ v, atI l r = some v ∧ v ∈ l :=
  ⟨l[r.toNat]'(by omega), at_int (n := r.toNat) (by omega) (List.getElem?_eq_getElem _), List.getElem_mem _⟩
theorem menuS {ss : List Str} {r : Int} (h0 : 0 ≤ r) (h1 : r < ss.length) : ∃ s, atI (ss.map V.str) r = some (.str s) ∧ s ∈ ss := by
  obtain ⟨v, h, m⟩ := menu (l := ss.map V.str) h0 (by rw [List.length_map]; exact h1)
  obtain ⟨s, hs, rfl⟩ := List.mem_map.mp m
  exact ⟨s, h, hs⟩
def accs : List Str := ["ann", "bob", "cyd", "relayer"]
def toks : List Str := ["coin", "gold", "iron"]
def sides : List Str := ["west", "east"]
def stops : List Str := ["stop", "resume"]
def ones : List Str := ["deliver", "return", "cancel"]
theorem stops_ok : ∀ z ∈ stops, isS "rotate" (.str z) = false ∧ oneD (.str z) = false ∧ allD (.str z) = true ∧ z ≠ "rotate" := by decide +kernel
theorem ones_ok : ∀ z ∈ ones, isS "rotate" (.str z) = false ∧ oneD (.str z) = true ∧ allD (.str z) = false ∧ z ≠ "rotate" := by decide +kernel
def kinds : List Str := ["deliver", "return", "rotate", "stop", "resume", "cancel"]
theorem accs_ok : ∀ z ∈ accs, accD (.str z) = true ∧ PyData.strOk z = true ∧ z.length ≤ 20 := by decide +kernel
theorem toks_ok : ∀ z ∈ toks, textD (.str z) = true ∧ PyData.strOk z = true ∧ z.length ≤ 20 := by decide +kernel
theorem sides_ok : ∀ z ∈ sides, sideD (.str z) = true ∧ PyData.strOk z = true ∧ z.length ≤ 20 := by decide +kernel
theorem kinds_ok : ∀ z ∈ kinds, PyData.strOk z = true ∧ z.length ≤ 20 ∧ isS "bundle" (.str z) = false := by decide +kernel
theorem names_ok : ∀ z ∈ allNames, PyData.strOk z = true ∧ accD (.str z) = true ∧ z.length ≤ 20 := by decide +kernel
structure Tr where
  tok : Str
  units : Int
  fee : Int
  snd : Str
  rcv : Str
  dl : Int
def Tr.v (x : Tr) : List V := [.str x.tok, .int x.units, .int x.fee, .str x.snd, .str x.rcv, .int x.dl]
def Tr.d (x : Tr) : PyData := .tuple [.str x.tok, .int x.units, .int x.fee, .str x.snd, .str x.rcv, .int x.dl]
structure Tr.Ok (x : Tr) : Prop where
  t : x.tok ∈ toks
  u : 1 ≤ x.units
  u2 : x.units ≤ 1000
  f : 0 ≤ x.fee
  f2 : x.fee ≤ x.units
  s : x.snd ∈ accs
  r : x.rcv ∈ accs
  d : 0 ≤ x.dl
  d2 : x.dl < 12
theorem Tr.dp {K : PySem.W.Frag} {H : Hp} {x : Tr} {a : Addr} (h : H a = some (.tup x.v)) : Dp K H (.ref a) x.d :=
  .tup (sqT h) (.cons (.str _) (.cons (.int _) (.cons (.int _) (.cons (.str _) (.cons (.str _) (.cons (.int _) .nil))))))
theorem Tr.Ok.trans {x : Tr} (h : x.Ok) : transD x.d = true := by
  show (if !(textD (.str x.tok) && (accD (.str x.snd) && accD (.str x.rcv))) then false else decide (1 ≤ x.units) && (decide (0 ≤ x.fee) && (decide (x.fee ≤ x.units) && decide (0 ≤ x.dl)))) = true
  rw [(toks_ok _ h.t).1, (accs_ok _ h.s).1, (accs_ok _ h.r).1, decide_eq_true h.u, decide_eq_true h.f, decide_eq_true h.f2, decide_eq_true h.d]
  rfl
/-- any tuple of texts, ints, Nones, bools: shaped -/
def scD : PyData → Bool
  | .none => true
  | .bool _ => true
  | .int _ => true
  | .str s => PyData.strOk s
  | _ => false
theorem sc_lay {d : PyData} (h : scD d = true) : d.canLay0 = true ∧ d.depth = 0 := by
  cases d with
  | str s => exact ⟨by simp [PyData.canLay0]; exact h, by simp [PyData.depth]⟩
  | none => exact ⟨by simp [PyData.canLay0], by simp [PyData.depth]⟩
  | bool b => exact ⟨by simp [PyData.canLay0], by simp [PyData.depth]⟩
  | int b => exact ⟨by simp [PyData.canLay0], by simp [PyData.depth]⟩
  | list _ => cases h
  | tuple _ => cases h
  | dict _ => cases h
theorem sc_all : ∀ {ds : List PyData}, ds.all scD = true → PyData.canLayAll0 ds = true ∧ PyData.depthAll ds = 0
  | [], _ => ⟨by simp [PyData.canLayAll0], by simp [PyData.depthAll]⟩
  | d :: ds, h => by
    rw [List.all_cons, Bool.and_eq_true] at h
    obtain ⟨h1, h2⟩ := sc_lay h.1
    obtain ⟨h3, h4⟩ := sc_all h.2
    exact ⟨by simp [PyData.canLayAll0, h1, h3], by simp [PyData.depthAll, h2, h4]⟩
theorem sc_shaped {ds : List PyData} (h : ds.all scD = true) : SeqAt.shaped (.tuple ds) = true := by
  obtain ⟨h1, h2⟩ := sc_all h
  show ((PyData.tuple ds).canLay0 && decide ((PyData.tuple ds).depth ≤ 64)) = true
  simp [PyData.canLay0, PyData.depth, h1, h2]
def smD : PyData → Bool
  | .str s => decide (s.length ≤ 100000)
  | _ => true
theorem sm_fine {d : PyData} (h : smD d = true) : Fine d := by
  cases d with
  | str s => exact (of_decide_eq_true (p := s.length ≤ 100000) h)
  | _ => trivial
/-- a flat tuple is fine -/
theorem flat_fine {ds : List PyData} (h : ds.all scD = true) (h2 : ds.all smD = true) (hl : ds.length ≤ 1000) : FineB (.tuple ds) where
  s := by
    intro es e
    injection e with e
    subst e
    refine ⟨hl, fun x hx => ?_⟩
    have hs := List.all_eq_true.mp h x hx
    intro a b e
    subst e
    cases hs
  t := by
    intro t u f s r e e2
    injection e2 with e2
    subst e2
    simp only [List.all_cons, Bool.and_eq_true] at h2
    exact ⟨sm_fine h2.1, sm_fine h2.2.1, sm_fine h2.2.2.1, sm_fine h2.2.2.2.1, sm_fine h2.2.2.2.2.1, sm_fine h2.2.2.2.2.2.1⟩
  sh := sc_shaped h
theorem none_fine : FineB .none := ⟨fun ds e => (nomatch e), fun _ _ _ _ _ _ e => (nomatch e), by decide⟩
theorem fine2 {a b : PyData} (ha : Fine a) (hb : Fine b) : FineP (.tuple [a, b]) := by
  intro x y e
  injection e with e
  injection e with e1 e
  injection e with e2 e
  subst e1 e2
  exact ⟨ha, hb⟩
theorem nest_fine : FineB (.tuple [.tuple [.tuple []]]) := by
  refine ⟨?_, (fun _ _ _ _ _ _ e => by cases e), by decide⟩
  intro ds e
  injection e with e
  subst e
  refine ⟨by decide, fun x hx => ?_⟩
  rw [List.mem_singleton.mp hx]
  intro a b e
  cases e
def prd (g : Str × Int) : PyData := .tuple [.str g.1, .int g.2]
theorem PairsAt.tail {H : Hp} {x : V} {xs : List V} {g : Str × Int} {gs : Gs} (h : PairsAt H (x :: xs) (g :: gs)) : PairsAt H xs gs :=
  ⟨by have := h.len; simpa using this, fun i g' hg => by have := h.at_ (i + 1) g' (by simpa using hg); simpa using this⟩
theorem PairsAt.dp {K : PySem.W.Frag} {H : Hp} : ∀ {xs : List V} {gs : Gs}, PairsAt H xs gs → DpAll K H xs (gs.map prd)
  | [], [], _ => .nil
  | [], g :: gs, h => by have := h.len; simp at this
  | x :: xs, [], h => by have := h.len; simp at this
  | x :: xs, g :: gs, h => by
    obtain ⟨a, e, ha⟩ := h.at_ 0 g rfl
    have e : x = .ref a := Option.some.inj e
    subst e
    exact .cons (.tup (sqT ha) (.cons (.str _) (.cons (.int _) .nil))) h.tail.dp
theorem Drawn.set {gs : Gs} (h : Drawn gs) : setD (.tuple (gs.map prd)) = true := by
  have h1 : (gs.map prd).isEmpty = false := by
    cases gs with
    | nil => exact absurd rfl h.ne
    | cons _ _ => rfl
  have h2 : (gs.map prd).all pairD = true := by
    rw [List.all_eq_true]
    intro d hd
    obtain ⟨g, hg, rfl⟩ := List.mem_map.mp hd
    show (accD (.str g.1) && leastD 1 (.int g.2)) = true
    rw [(names_ok _ (h.nms g hg)).2.1, Bool.true_and]
    exact decide_eq_true (h.pos g hg)
  have h3 : ((gs.map prd).map nameS) = gs.map (·.1) := by
    rw [List.map_map]
    rfl
  show (!(gs.map prd).isEmpty && ((gs.map prd).all pairD && decide (((gs.map prd).map nameS).Nodup))) = true
  rw [h1, h2, h3, decide_eq_true h.nd]
  rfl
theorem prds_lay : ∀ zs : Gs, (∀ z ∈ zs, PyData.strOk z.1 = true) → PyData.canLayAll0 (zs.map prd) = true ∧ PyData.depthAll (zs.map prd) ≤ 1
  | [], _ => ⟨by simp [PyData.canLayAll0], by simp [PyData.depthAll]⟩
  | z :: zs, h => by
    obtain ⟨h1, h2⟩ := prds_lay zs fun y hy => h y (List.mem_cons_of_mem _ hy)
    have h3 := h z (List.mem_cons_self ..)
    refine ⟨by simp [PyData.canLayAll0, prd, PyData.canLay0, h1, h3], ?_⟩
    simp only [List.map_cons, PyData.depthAll, prd, PyData.depth]
    omega
theorem Drawn.fine {gs : Gs} (h : Drawn gs) : FineB (.tuple (gs.map prd)) where
  s := by
    intro ds e
    injection e with e
    subst e
    refine ⟨by rw [List.length_map]; have := h.few; omega, fun x hx => ?_⟩
    obtain ⟨g, hg, rfl⟩ := List.mem_map.mp hx
    exact fine2 (by show g.1.length ≤ 100000; have := (names_ok _ (h.nms g hg)).2.2; omega) trivial
  t := by
    intro t u f s r e e2
    injection e2 with e2
    have : ∀ x ∈ gs.map prd, Fine x := fun x hx => by
      obtain ⟨g, _, rfl⟩ := List.mem_map.mp hx
      exact trivial
    rw [e2] at this
    exact ⟨this _ (by simp), this _ (by simp), this _ (by simp), this _ (by simp), this _ (by simp), this _ (by simp)⟩
  sh := by
    obtain ⟨h1, h2⟩ := prds_lay gs fun z hz => (names_ok _ (h.nms z hz)).1
    show ((PyData.tuple (gs.map prd)).canLay0 && decide ((PyData.tuple (gs.map prd)).depth ≤ 64)) = true
    rw [Bool.and_eq_true]
    refine ⟨by simp only [PyData.canLay0]; exact h1, decide_eq_true ?_⟩
    simp only [PyData.depth]
    omega
theorem Tr.Ok.fine {x : Tr} (h : x.Ok) : FineB x.d := by
  refine flat_fine ?_ ?_ (Nat.le_of_ble_eq_true rfl)
  · simp [scD, (toks_ok _ h.t).2.1, (accs_ok _ h.s).2.1, (accs_ok _ h.r).2.1]
  · have h1 := (toks_ok _ h.t).2.2
    have h2 := (accs_ok _ h.s).2.2
    have h3 := (accs_ok _ h.r).2.2
    simp only [List.all_cons, List.all_nil, smD, Bool.and_true, Bool.true_and, Bool.and_eq_true, decide_eq_true_eq]
    omega
/-- a drawn letter -/
inductive LetD : Str → Str → Int → PyData → Prop
  | rot {n : Int} {gs : Gs} (hn : 1 ≤ n) (hg : Drawn gs) : LetD "rotate" "both" n (.tuple (gs.map prd))
  | stop {k s : Str} {n : Int} (hk : k ∈ stops) (hs : s ∈ sides) (hn : 0 ≤ n) : LetD k s n (.tuple [])
  | tr {k s : Str} {n : Int} {x : Tr} (hk : k ∈ ones) (hs : s ∈ sides) (hn : 0 ≤ n) (hx : x.Ok) : LetD k s n x.d
theorem letterD_eq (k s n b : PyData) : letterD (.tuple [k, s, n, b]) = if isS "rotate" k then isS "both" s && (leastD 1 n && setD b) else if !(sideD s && leastD 0 n) then false else if oneD k then transD b else allD k && emptyD b := rfl
theorem empty_fine : FineB (.tuple []) := flat_fine rfl rfl (by decide)
theorem LetD.fine {k s : Str} {n : Int} {b : PyData} (h : LetD k s n b) : FineB b := by
  cases h with
  | rot hn hg => exact hg.fine
  | stop => exact empty_fine
  | tr _ _ _ hx => exact hx.fine
theorem kS (k z : Str) (e : k = z) (f : Str → Bool) (h : f z = true) : f k = true := by subst e; exact h
theorem LetD.ok {k s : Str} {n : Int} {b : PyData} (h : LetD k s n b) : letterD (.tuple [.str k, .str s, .int n, b]) = true := by
  rw [letterD_eq]
  cases h with
  | rot hn hg =>
    rw [if_pos (show isS "rotate" (.str "rotate") = true by decide +kernel), hg.set, show isS "both" (.str "both") = true by decide +kernel, show leastD 1 (.int n) = true from decide_eq_true hn]
    rfl
  | stop hk hs hn =>
    rw [(sides_ok _ hs).1, show leastD 0 (.int n) = true from decide_eq_true hn]
    obtain ⟨h1, h2, h3, _⟩ := stops_ok _ hk
    rw [h1, h2, h3]
    rfl
  | tr hk hs hn hx =>
    rw [(sides_ok _ hs).1, show leastD 0 (.int n) = true from decide_eq_true hn, hx.trans]
    obtain ⟨h1, h2, h3, _⟩ := ones_ok _ hk
    rw [h1, h2]
    rfl
theorem bad_sent (s n b : PyData) : letterD (.tuple [.str "sent", s, n, b]) = false := by
  rw [letterD_eq, show isS "rotate" (.str "sent") = false by decide +kernel, show oneD (.str "sent") = false by decide +kernel, show allD (.str "sent") = false by decide +kernel]
  cases sideD s <;> cases leastD 0 n <;> rfl
theorem bad_side {s : PyData} (h1 : isS "both" s = false) (h2 : sideD s = false) (k n b : PyData) : letterD (.tuple [k, s, n, b]) = false := by
  rw [letterD_eq, h1, h2]
  cases isS "rotate" k <;> rfl
theorem bad_side2 {k s : PyData} (h1 : isS "rotate" k = false) (h2 : sideD s = false) (n b : PyData) : letterD (.tuple [k, s, n, b]) = false := by
  rw [letterD_eq, h1, h2]
  rfl
theorem bad_num {n : PyData} (h1 : leastD 1 n = false) (h2 : leastD 0 n = false) (k s b : PyData) : letterD (.tuple [k, s, n, b]) = false := by
  rw [letterD_eq, h1, h2, Bool.false_and, Bool.and_false, Bool.and_false]
  cases isS "rotate" k <;> rfl
theorem bad_body {b : PyData} (h1 : setD b = false) (h2 : transD b = false) (h3 : emptyD b = false) (k s n : PyData) : letterD (.tuple [k, s, n, b]) = false := by
  rw [letterD_eq, h1, h2, h3, Bool.and_false, Bool.and_false, Bool.and_false]
  cases isS "rotate" k <;> cases sideD s <;> cases leastD 0 n <;> cases oneD k <;> rfl
theorem bad_none (s n b : PyData) : letterD (.tuple [.none, s, n, b]) = false := by
  rw [letterD_eq, show isS "rotate" .none = false from rfl, show oneD .none = false from rfl, show allD .none = false from rfl]
  cases sideD s <;> cases leastD 0 n <;> rfl
theorem bad_trans {k b : PyData} (h1 : isS "rotate" k = false) (h2 : oneD k = true) (h3 : transD b = false) (s n : PyData) : letterD (.tuple [k, s, n, b]) = false := by
  rw [letterD_eq, h1, h2, h3]
  cases sideD s <;> cases leastD 0 n <;> rfl
theorem bad_stop {k b : PyData} (h1 : isS "rotate" k = false) (h2 : oneD k = false) (h3 : emptyD b = false) (s n : PyData) : letterD (.tuple [k, s, n, b]) = false := by
  rw [letterD_eq, h1, h2, h3, Bool.and_false]
  cases sideD s <;> cases leastD 0 n <;> rfl
theorem bad_rot {k s n b : PyData} (h1 : isS "rotate" k = true) (h : (isS "both" s && (leastD 1 n && setD b)) = false) : letterD (.tuple [k, s, n, b]) = false := by
  rw [letterD_eq, h1, if_pos rfl, h]
theorem fineL4 {k s n b : PyData} (h1 : flatD k = true) (h2 : flatD s = true) (h3 : Fine n) (h4 : FineB b) (h5 : isS "bundle" k = false) : FineL (.tuple [k, s, n, b]) := by
  intro k' s' n' b' e
  injection e with e
  injection e with e1 e
  injection e with e2 e
  injection e with e3 e
  injection e with e4 e
  subst e1 e2 e3 e4
  exact ⟨h1, h2, h3, h4, h5⟩
mutual
inductive TupDp (K : PySem.W.Frag) (H : Hp) : V → PyData → Prop
  | non : TupDp K H .non .none
  | bl (b : Bool) : TupDp K H (.bl b) (.bool b)
  | int (i : Int) : TupDp K H (.int i) (.int i)
  | str (x : Str) : TupDp K H (.str x) (.str x)
  | tup {a : Addr} {xs : List V} {ds : List PyData} : H a = some (.tup xs) → TupAll K H xs ds → TupDp K H (.ref a) (.tuple ds)
inductive TupAll (K : PySem.W.Frag) (H : Hp) : List V → List PyData → Prop
  | nil : TupAll K H [] []
  | cons {v : V} {vs : List V} {d : PyData} {ds : List PyData} : TupDp K H v d → TupAll K H vs ds → TupAll K H (v :: vs) (d :: ds)
end
mutual
theorem TupDp.dp {K : PySem.W.Frag} {H : Hp} : ∀ {v : V} {d : PyData}, TupDp K H v d → Dp K H v d
  | _, _, .non => .non
  | _, _, .bl b => .bl b
  | _, _, .int i => .int i
  | _, _, .str x => .str x
  | _, _, .tup h1 h2 => .tup (sqT h1) (TupAll.dp h2)
theorem TupAll.dp {K : PySem.W.Frag} {H : Hp} : ∀ {vs : List V} {ds : List PyData}, TupAll K H vs ds → DpAll K H vs ds
  | _, _, .nil => .nil
  | _, _, .cons h1 h2 => .cons (TupDp.dp h1) (TupAll.dp h2)
end
mutual
theorem TupDp.mono {K : PySem.W.Frag} {H H' : Hp} (e : ∀ b ys, H b = some (.tup ys) → H' b = some (.tup ys)) : ∀ {v : V} {d : PyData}, TupDp K H v d → TupDp K H' v d
  | _, _, .non => .non
  | _, _, .bl b => .bl b
  | _, _, .int i => .int i
  | _, _, .str x => .str x
  | _, _, .tup h1 h2 => .tup (e _ _ h1) (TupAll.mono e h2)
theorem TupAll.mono {K : PySem.W.Frag} {H H' : Hp} (e : ∀ b ys, H b = some (.tup ys) → H' b = some (.tup ys)) : ∀ {vs : List V} {ds : List PyData}, TupAll K H vs ds → TupAll K H' vs ds
  | _, _, .nil => .nil
  | _, _, .cons h1 h2 => .cons (TupDp.mono e h1) (TupAll.mono e h2)
end
theorem Kp.tup {p l b : Addr} {ys : List V} {H H' : Hp} (k : Kp p H H') (pot : PotAt H p l) (h : H b = some (.tup ys)) : H' b = some (.tup ys) := by
  obtain ⟨ns, i, c, s, h1, _⟩ := pot
  exact k _ _ h (ne_of h h1 (by intro z; cases z))
theorem TupDp.kp {K : PySem.W.Frag} {H H' : Hp} {p l : Addr} {v : V} {d : PyData} (h : TupDp K H v d) (k : Kp p H H') (pot : PotAt H p l) : TupDp K H' v d := h.mono fun b ys q => k.tup pot q
theorem TupDp.same {K : PySem.W.Frag} {H H' : Hp} {v : V} {d : PyData} (h : TupDp K H v d) (k : Same H H') : TupDp K H' v d := h.mono fun b ys q => k _ _ q
theorem PairsAt.tall {K : PySem.W.Frag} {H : Hp} : ∀ {xs : List V} {gs : Gs}, PairsAt H xs gs → TupAll K H xs (gs.map prd)
  | [], [], _ => .nil
  | [], g :: gs, h => by have := h.len; simp at this
  | x :: xs, [], h => by have := h.len; simp at this
  | x :: xs, g :: gs, h => by
    obtain ⟨a, e, ha⟩ := h.at_ 0 g rfl
    have e : x = .ref a := Option.some.inj e
    subst e
    exact .cons (.tup ha (.cons (.str _) (.cons (.int _) .nil))) h.tail.tall
theorem Tr.tdp {K : PySem.W.Frag} {H : Hp} {x : Tr} {a : Addr} (h : H a = some (.tup x.v)) : TupDp K H (.ref a) x.d :=
  .tup h (.cons (.str _) (.cons (.int _) (.cons (.int _) (.cons (.str _) (.cons (.str _) (.cons (.int _) .nil))))))
def sp_Ltrans : Sp := fun vs H Q _ => ∃ (p l : Addr), vs = [.ref p] ∧ PotAt H p l ∧ ∀ (a : Addr) (x : Tr) (H' : Hp), H a = none → H' a = some (.tup x.v) → x.Ok → PotAt H' p l → Kp p H H' → Q (.ref a) H'
def sp_Lletter (K : PySem.W.Frag) : Sp := fun vs H Q _ => ∃ (p l : Addr), vs = [.ref p] ∧ PotAt H p l ∧ ∀ (a : Addr) (k s : Str) (n : Int) (bv : V) (bd : PyData) (H' : Hp), H a = none → H' a = some (.tup [.str k, .str s, .int n, bv]) → TupDp K H' bv bd → LetD k s n bd → n ≤ 10 → k ∈ kinds → PotAt H' p l → Kp p H H' → Q (.ref a) H'
def sp_LbadT (K : PySem.W.Frag) : Sp := fun vs H Q _ => ∃ (p l a : Addr) (x : Tr), vs = [.ref p, .ref a] ∧ PotAt H p l ∧ H a = some (.tup x.v) ∧ x.Ok ∧ ∀ (v : V) (d : PyData) (H' : Hp), TupDp K H' v d → transD d = false → FineB d → PotAt H' p l → Kp p H H' → Q v H'

section
variable {P : Program} {w : World} {K : PySem.W.Frag} {mg : Str → Option Value} {base : Heap}
theorem ok_L_transfer (T : Txt K mg) : FnOk P w K mg base CX0 2 T.f_L_transfer T.d_L_transfer ["pot"] sp_Ltrans := by
  refine T.F_L_transfer.ok sc_L_transfer (fun vs H Q E h => ?_) (fun cdv A outer s H vs Q E hr h => ?_)
  · obtain ⟨p, l, rfl, _⟩ := h; rfl
  · obtain ⟨p, l, rfl, pot, k⟩ := h
    refine ⟨_, (pss_cons (ps_set (i := 1) sc_L_transfer.nd rfl (Or.inl rfl) (pe_op op_add pe_int (pe_call (ok_L_next T) (hr.mono (by decide)) (by rfl) T.g_L_next T.F_L_next.kp T.b_L_next .nil pass0 (pa_cons (pv 0) (pa_cons (pe_ix ix_list (pe_lst (pa_cons pe_int (pa_cons pe_int pa_nil))) (pe_call (ok_L_next T) (hr.mono (by decide)) (by rfl) T.g_L_next T.F_L_next.kp T.b_L_next .nil pass0 (pa_cons (pv 0) (pa_cons pe_int pa_nil))) (fun _ _ => rfl)) pa_nil)))))
      (pss_cons (ps_set (i := 2) sc_L_transfer.nd rfl (Or.inl rfl) (pe_lst (pa_cons pe_str (pa_cons pe_str (pa_cons pe_str (pa_cons pe_str pa_nil))))))
      (pss_one (ps_ret (pe_tup (pa_cons (pe_ix ix_list (pe_lst (pa_cons pe_str (pa_cons pe_str (pa_cons pe_str pa_nil)))) (pe_call (ok_L_next T) (hr.mono (by decide)) (by rfl) T.g_L_next T.F_L_next.kp T.b_L_next .nil pass0 (pa_cons (pv 0) (pa_cons pe_int pa_nil))) (fun _ _ => rfl)) (pa_cons (pv 1) (pa_cons (pe_call (ok_L_next T) (hr.mono (by decide)) (by rfl) T.g_L_next T.F_L_next.kp T.b_L_next .nil pass0 (pa_cons (pv 0) (pa_cons (pe_op op_add (pv 1) pe_int) pa_nil))) (pa_cons (pe_ix ix_list (pv 2) (pe_call (ok_L_next T) (hr.mono (by decide)) (by rfl) T.g_L_next T.F_L_next.kp T.b_L_next .nil pass0 (pa_cons (pv 0) (pa_cons pe_int pa_nil))) (fun _ _ => rfl)) (pa_cons (pe_ix ix_list (pv 2) (pe_call (ok_L_next T) (hr.mono (by decide)) (by rfl) T.g_L_next T.F_L_next.kp T.b_L_next .nil pass0 (pa_cons (pv 0) (pa_cons pe_int pa_nil))) (fun _ _ => rfl)) (pa_cons (pe_call (ok_L_next T) (hr.mono (by decide)) (by rfl) T.g_L_next T.F_L_next.kp T.b_L_next .nil pass0 (pa_cons (pv 0) (pa_cons pe_int pa_nil))) pa_nil))))))))))), ?_⟩
    (dsimp only [cxOf, Cx.nox, Cx.wish, L2.start, List.map, List.length, List.replicate, List.cons_append, List.nil_append, List.append_eq, Nat.reduceSub, Nat.reduceAdd])
    walk_at "my_rd"
    refine q_lstK (Nat.le_of_ble_eq_true rfl) fun M nM => ?_
    walk_at "my_rd"
    refine ⟨p, l, 2, rfl, pot.new nM, by omega, by omega, fun r H1 r0 r1 pot1 kp1 => ?_⟩
    have kp01 : Kp p H H1 := Kp.trans (Kp.new Kp.refl nM) kp1
    have hM1 : H1 M = some (.lst [.int 5, .int 1000]) := Kp.get kp1 upd_same (pot.nep nM)
    obtain ⟨lim, hlim, l0, l1⟩ : ∃ lim : Int, atI [V.int 5, V.int 1000] r = some (.int lim) ∧ 1 ≤ lim ∧ lim ≤ 1000 := by
      have : r = 0 ∨ r = 1 := by omega
      rcases this with rfl | rfl
      · exact ⟨5, rfl, by omega, by omega⟩
      · exact ⟨1000, rfl, by omega, by omega⟩
    walk_at "my_rd"
    refine q_ixLt hM1 hlim ?_
    walk_at "my_rd"
    refine ⟨p, l, lim, rfl, pot1, by omega, by omega, fun u H2 u0 u1 pot2 kp2 => ?_⟩
    have kp02 := Kp.trans kp01 kp2
    walk_at "my_rd"
    refine q_lstK (Nat.le_of_ble_eq_true rfl) fun AC nAC => ?_
    walk_at "my_rd"
    have nACp := pot2.nep nAC
    generalize hH3 : upd H2 AC _ = H3
    have kp03 : Kp p H H3 := by rw [← hH3]; exact Kp.new kp02 (Kp.fresh kp02 pot.at.choose_spec nAC nACp)
    have pot3 : PotAt H3 p l := by rw [← hH3]; exact pot2.new nAC
    have hAC : H3 AC = some (.lst (accs.map V.str)) := by rw [← hH3]; exact upd_same
    refine q_lstK (Nat.le_of_ble_eq_true rfl) fun TK nTK => ?_
    walk_at "my_rd"
    have hAC4 : (upd H3 TK (.lst [.str "coin", .str "gold", .str "iron"])) AC = some (.lst (accs.map V.str)) := upd_new nTK hAC
    have hTK : (upd H3 TK (.lst [.str "coin", .str "gold", .str "iron"])) TK = some (.lst (toks.map V.str)) := upd_same
    have nTKp := pot3.nep nTK
    have kp04 := Kp.new (w := .lst [.str "coin", .str "gold", .str "iron"]) kp03 (Kp.fresh kp03 pot.at.choose_spec nTK nTKp)
    refine ⟨p, l, 3, rfl, pot3.new nTK, by omega, by omega, fun r4 H4 q0 q1 pot4 kp4 => ?_⟩
    obtain ⟨tk, htk, mtk⟩ := menuS (ss := toks) q0 (by show r4 < 3; omega)
    have kp05 := Kp.trans kp04 kp4
    have hAC5 := Kp.get kp4 hAC4 nACp
    walk_at "my_rd"
    refine q_ixLt (Kp.get kp4 hTK nTKp) htk ?_
    walk_at "my_rd"
    refine ⟨p, l, _, rfl, pot4, by omega, by omega, fun fe H5 f0 f1 pot5 kp5 => ?_⟩
    have kp06 := Kp.trans kp05 kp5
    have hAC6 := Kp.get kp5 hAC5 nACp
    walk_at "my_rd"
    refine ⟨p, l, 4, rfl, pot5, by omega, by omega, fun r6 H6 s0 s1 pot6 kp6 => ?_⟩
    obtain ⟨sn, hsn, msn⟩ := menuS (ss := accs) s0 (by show r6 < 4; omega)
    have kp07 := Kp.trans kp06 kp6
    have hAC7 := Kp.get kp6 hAC6 nACp
    walk_at "my_rd"
    refine q_ixLt hAC7 hsn ?_
    walk_at "my_rd"
    refine ⟨p, l, 4, rfl, pot6, by omega, by omega, fun r7 H7 t0 t1 pot7 kp7 => ?_⟩
    obtain ⟨rc, hrc, mrc⟩ := menuS (ss := accs) t0 (by show r7 < 4; omega)
    have kp08 := Kp.trans kp07 kp7
    have hAC8 := Kp.get kp7 hAC7 nACp
    walk_at "my_rd"
    refine q_ixLt hAC8 hrc ?_
    walk_at "my_rd"
    refine ⟨p, l, 12, rfl, pot7, by omega, by omega, fun dl H8 d0 d1 pot8 kp8 => ?_⟩
    have kp09 := Kp.trans kp08 kp8
    walk_at "my_rd"
    refine q_tupK (Nat.le_of_ble_eq_true rfl) fun R nR => ?_
    walk_at "my_rd"
    have hR0 := Kp.fresh kp09 pot.at.choose_spec nR (pot8.nep nR)
    exact k R ⟨tk, 1 + u, fe, sn, rc, dl⟩ _ hR0 upd_same ⟨mtk, by show 1 ≤ 1 + u; omega, by show 1 + u ≤ 1000; omega, f0, by show fe ≤ 1 + u; omega, msn, mrc, d0, d1⟩ (pot8.new nR) (Kp.new kp09 hR0)
theorem ok_L_letter (T : Txt K mg) : FnOk P w K mg base CX0 3 T.f_L_letter T.d_L_letter ["pot"] (sp_Lletter K) := by
  refine T.F_L_letter.ok sc_L_letter (fun vs H Q E h => ?_) (fun cdv A outer s H vs Q E hr h => ?_)
  · obtain ⟨p, l, rfl, _⟩ := h; rfl
  · obtain ⟨p, l, rfl, pot, k⟩ := h
    refine ⟨_, (pss_cons (ps_set (i := 1) sc_L_letter.nd rfl (Or.inl rfl) (pe_ix ix_list (pe_lst (pa_cons pe_str (pa_cons pe_str (pa_cons pe_str (pa_cons pe_str (pa_cons pe_str (pa_cons pe_str pa_nil))))))) (pe_call (ok_L_next T) (hr.mono (by decide)) (by rfl) T.g_L_next T.F_L_next.kp T.b_L_next .nil pass0 (pa_cons (pv 0) (pa_cons pe_int pa_nil))) (fun _ _ => rfl)))
      (pss_cons (ps_set (i := 2) sc_L_letter.nd rfl (Or.inl rfl) (pe_call (ok_L_next T) (hr.mono (by decide)) (by rfl) T.g_L_next T.F_L_next.kp T.b_L_next .nil pass0 (pa_cons (pv 0) (pa_cons pe_int pa_nil))))
      (pss_cons (ps_set (i := 3) sc_L_letter.nd rfl (Or.inl rfl) (pe_ix ix_list (pe_lst (pa_cons pe_str (pa_cons pe_str pa_nil))) (pe_call (ok_L_next T) (hr.mono (by decide)) (by rfl) T.g_L_next T.F_L_next.kp T.b_L_next .nil pass0 (pa_cons (pv 0) (pa_cons pe_int pa_nil))) (fun _ _ => rfl)))
      (pss_cons (ps_if (pt_cmpR op_eq (pv 1) pe_str (nomark _)) (pss_one (ps_ret (pe_tup (pa_cons (pv 1) (pa_cons pe_str (pa_cons (pe_op op_add pe_int (pv 2)) (pa_cons (pe_call (ok_L_set T) (hr.mono (by decide)) (by rfl) T.g_L_set T.F_L_set.kp T.b_L_set .nil pass0 (pa_cons (pv 0) (pa_cons pe_int pa_nil))) pa_nil))))))) pss_nil)
      (pss_cons (ps_if (PW.pt (pw_or (pt_cmpR op_eq (pv 1) pe_str (nomark _)) (pw_or1 (pt_cmpR op_eq (pv 1) pe_str (nomark _))))) (pss_one (ps_ret (pe_tup (pa_cons (pv 1) (pa_cons (pv 3) (pa_cons (pv 2) (pa_cons (pe_tup pa_nil) pa_nil))))))) pss_nil)
      (pss_one (ps_ret (pe_tup (pa_cons (pv 1) (pa_cons (pv 3) (pa_cons (pv 2) (pa_cons (pe_call (ok_L_transfer T) (hr.mono (by decide)) (by rfl) T.g_L_transfer T.F_L_transfer.kp T.b_L_transfer .nil pass0 (pa_cons (pv 0) pa_nil)) pa_nil)))))))))))), ?_⟩
    (dsimp only [cxOf, Cx.nox, Cx.wish, L2.start, List.map, List.length, List.replicate, List.cons_append, List.nil_append, List.append_eq, Nat.reduceSub, Nat.reduceAdd])
    walk_at "my_rd"
    refine q_lstK (Nat.le_of_ble_eq_true rfl) fun M nM => ?_
    walk_at "my_rd"
    refine ⟨p, l, 6, rfl, pot.new nM, by omega, by omega, fun r H1 r0 r1 pot1 kp1 => ?_⟩
    have kp01 : Kp p H H1 := Kp.trans (Kp.new Kp.refl nM) kp1
    obtain ⟨kd, hkd, mkd⟩ := menuS (ss := kinds) r0 (by show r < 6; omega)
    walk_at "my_rd"
    refine q_ixLt (Kp.get kp1 upd_same (pot.nep nM)) hkd ?_
    walk_at "my_rd"
    refine ⟨p, l, 4, rfl, pot1, by omega, by omega, fun nb H2 n0 n1 pot2 kp2 => ?_⟩
    have kp02 := Kp.trans kp01 kp2
    walk_at "my_rd"
    refine q_lstK (Nat.le_of_ble_eq_true rfl) fun SD nSD => ?_
    walk_at "my_rd"
    refine ⟨p, l, 2, rfl, pot2.new nSD, by omega, by omega, fun r3 H3 q0 q1 pot3 kp3 => ?_⟩
    have kp03 := Kp.trans (Kp.new kp02 (Kp.fresh kp02 pot.at.choose_spec nSD (pot2.nep nSD))) kp3
    obtain ⟨sd, hsd, msd⟩ := menuS (ss := sides) q0 (by show r3 < 2; omega)
    walk_at "my_rd"
    refine q_ixLt (Kp.get kp3 upd_same (pot2.nep nSD)) hsd ?_
    walk_at "my_rd"
    refine q_if2 (fun h => ?_) (fun h => ?_)
    · have h := dec_t h
      subst h
      walk_at "my_rd"
      refine ⟨p, l, 4, rfl, pot3, by omega, by omega, fun g xs gs H4 ng hg hP hD _ pot4 kp4 => ?_⟩
      have kp04 := Kp.trans kp03 kp4
      walk_at "my_rd"
      refine q_tupK (Nat.le_of_ble_eq_true rfl) fun R nR => ?_
      walk_at "my_rd"
      have hR0 := Kp.fresh kp04 pot.at.choose_spec nR (pot4.nep nR)
      exact k R "rotate" "both" (1 + nb) (.ref g) (.tuple (gs.map prd)) _ hR0 upd_same (.tup (upd_new nR hg) ((hP.new nR).tall)) (.rot (by omega) hD) (by omega) mkd (pot4.new nR) (Kp.new kp04 hR0)
    · have h := dec_f h
      walk_at "my_rd"
      by_cases hs : kd ∈ stops
      · have e : (decide (kd = "stop") || decide (kd = "resume")) = true := by
          rcases List.mem_cons.mp hs with e | e
          · rw [decide_eq_true e]; rfl
          · rw [decide_eq_true (List.mem_singleton.mp e), Bool.or_true]
        have body : ∀ (D : Ends) (t u : TS) (σ : L2.St), D.rt = Q → t = tRet (tTup (tCons (tVar 1) (tCons (tVar 3) (tCons (tVar 2) (tCons (tTup tNil) tNil))))) → σ = [some (.ref p), some (.str kd), some (.int nb), some (.str sd)] → ifK D t u σ true H3 := by
          intro D t u σ e1 e2 e3
          subst e2 e3
          walk_at "my_rd"
          refine q_tupK (Nat.zero_le _) fun e ne => ?_
          walk_at "my_rd"
          refine q_tupK (Nat.le_of_ble_eq_true rfl) fun R nR => ?_
          rw [e1]
          have sm : Same H3 (upd (upd H3 e (.tup [])) R (.tup [.str kd, .str sd, .int nb, .ref e])) := by (repeat first | (with_reducible exact Same.refl _) | (with_reducible assumption) | (with_reducible refine Same.up ?_ (by assumption)) | (with_reducible refine' Same.trans ?_ (by assumption)))
          have hR0 := Kp.fresh kp03 pot.at.choose_spec (upd_none_back nR) (pot3.nep (upd_none_back nR))
          exact k R kd sd nb (.ref e) (.tuple []) _ hR0 upd_same (.tup (upd_new nR upd_same) .nil) (.stop hs msd n0) (by omega) mkd (pot3.same sm) (Kp.trans kp03 (Same.kp sm))
        cases c1 : decide (kd = "stop") with
        | true =>
          refine q_orT ?_
          exact body _ _ _ _ rfl rfl rfl
        | false =>
          rw [c1, Bool.false_or] at e
          walk_at "my_rd"
          rw [e]
          exact body _ _ _ _ rfl rfl rfl
      · rw [decide_eq_false (show ¬ kd = "stop" from fun e => hs (by rw [e]; decide +kernel))]
        walk_at "my_rd"
        rw [decide_eq_false (show ¬ kd = "resume" from fun e => hs (by rw [e]; decide +kernel))]
        walk_at "my_rd"
        refine ⟨p, l, rfl, pot3, fun a x H4 na ha hx pot4 kp4 => ?_⟩
        have kp04 := Kp.trans kp03 kp4
        walk_at "my_rd"
        refine q_tupK (Nat.le_of_ble_eq_true rfl) fun R nR => ?_
        walk_at "my_rd"
        have hR0 := Kp.fresh kp04 pot.at.choose_spec nR (pot4.nep nR)
        have ho : kd ∈ ones := by
          have : ∀ z ∈ kinds, z = "rotate" ∨ z ∈ stops ∨ z ∈ ones := by decide +kernel
          rcases this kd mkd with e | e | e
          · exact absurd e h
          · exact absurd e hs
          · exact e
        exact k R kd sd nb (.ref a) x.d _ hR0 upd_same (Tr.tdp (upd_new nR ha)) (.tr ho msd n0 hx) (by omega) mkd (pot4.new nR) (Kp.new kp04 hR0)
end

local macro_rules | `(tactic| walk_at "my_rd") => `(tactic| (repeat first
  | with_reducible refine q_tCons ?_
  | ((with_reducible apply q_var); (focus (exact rfl)))
  | with_reducible refine q_c ?_
  | with_reducible refine q_nx ?_
  | with_reducible refine q_bK ?_
  | with_reducible refine q_call ?_
  | with_reducible refine q_callK ?_
  | with_reducible refine q_tNil ?_
  | with_reducible refine q_cb ?_
  | with_reducible refine q_seq ?_
  | with_reducible refine q_asg ?_
  | with_reducible refine q_gName ?_
  | with_reducible refine q_op ?_
  | with_reducible refine q_test ?_
  | with_reducible refine q_tB ?_
  | with_reducible refine q_ifS ?_
  | with_reducible refine q_ret ?_
  | with_reducible refine q_rt ?_
  | with_reducible refine q_next ?_
  | with_reducible refine q_ifF ?_
  | with_reducible refine q_ifT ?_
  | with_reducible refine q_drop ?_
  | with_reducible refine q_and ?_
  | with_reducible refine q_or ?_
  | with_reducible refine q_andT ?_
  | with_reducible refine q_andF ?_
  | with_reducible refine q_orF ?_
  | with_reducible refine q_orT ?_
  | with_reducible refine q_andV ?_
  | with_reducible refine q_andVT ?_
  | with_reducible refine q_andVF ?_
  | with_reducible refine q_orV ?_
  | with_reducible refine q_gCons ?_
  | with_reducible refine q_gNil ?_
  | with_reducible refine q_tup ?_
  | with_reducible refine q_lst ?_
  | with_reducible refine q_not ?_
  | with_reducible refine q_notKT ?_
  | with_reducible refine q_notKF ?_
  | with_reducible refine q_I0 ?_
  | with_reducible refine q_eqI ?_
  | with_reducible refine q_neI ?_
  | ((with_reducible refine q_I ?_ ?_); first | decide | omega | exact ⟨by omega, by omega⟩ | exact ⟨by decide, by decide⟩ | exact .inl ⟨by omega, by omega⟩ | exact .inr ⟨by omega, by omega⟩ | exact .inr ⟨by decide, by decide⟩)
  | with_reducible refine q_eqS ?_
  | with_reducible refine q_neS ?_
  | with_reducible refine q_brk ?_
  | with_reducible refine q_ct ?_
  | with_reducible refine q_bk ?_
  | with_reducible refine q_cn ?_
  | with_reducible refine q_retN ?_
  | with_reducible refine q_gSub ?_
  | with_reducible refine q_for ?_
  | with_reducible refine q_iList ?_
  | with_reducible refine q_iTup ?_
  | with_reducible refine q_iRng1 ?_
  | with_reducible refine q_notK ?_
  | with_reducible refine q_orVT ?_
  | with_reducible refine q_orVF ?_
  | with_reducible refine q_notV ?_
  | with_reducible refine q_notVK ?_
  | with_reducible refine q_ifE ?_
  | with_reducible refine q_ifET ?_
  | with_reducible refine q_ifEF ?_
  | with_reducible refine q_yes ?_
  | with_reducible refine q_un ?_
  | with_reducible refine q_rU ?_
  | with_reducible refine q_abs ?_
  | with_reducible refine q_int1 ?_
  | with_reducible refine q_bm ?_
  | with_reducible refine q_bm0 ?_
  | with_reducible refine q_lc ?_
  | with_reducible refine q_keepT ?_
  | with_reducible refine q_keepF ?_
  | ((with_reducible apply q_aug); (focus (exact rfl)))
  | with_reducible refine q_ipI ?_
  | with_reducible refine q_chain ?_
  | with_reducible refine q_pairC ?_
  | with_reducible refine q_pairsK ?_
  | with_reducible refine q_pairN ?_
  | with_reducible refine q_fld ?_
  | with_reducible refine q_sFld ?_
  | with_reducible refine q_meth ?_
  | with_reducible refine q_makeK ?_
  | with_reducible refine q_isBl ?_
  | with_reducible refine q_notBl ?_
  | with_reducible refine q_sl ?_
  | with_reducible refine q_noPart ?_
  | with_reducible refine q_part ?_
  | with_reducible refine q_partK ?_
  | ((with_reducible apply q_mulStr); (focus (decide +kernel)))
  | with_reducible refine q_chT ?_
  | with_reducible refine q_chF ?_
  | with_reducible refine q_ord ?_
  | with_reducible refine q_iStr0 ?_
  | with_reducible refine q_iStr ?_
  | with_reducible refine q_tDIn ?_
  | with_reducible refine q_tDNotIn ?_
  | with_reducible refine q_tDGet ?_
  | with_reducible refine q_tDGet2 ?_
  | with_reducible refine q_tDGet1 ?_
  | with_reducible refine q_tDSetd ?_
  | ((with_reducible apply q_dG2a); (focus ((repeat first | (with_reducible exact upd_same) | (with_reducible assumption) | (with_reducible apply upd_new (by assumption)) | (with_reducible apply upd_other (by first | assumption | exact Ne.symm (by assumption))) | (with_reducible refine' Kp.get (by assumption) ?_ (by first | assumption | exact Ne.symm (by assumption))) | (with_reducible apply Same.get (by assumption))); done)))
  | ((with_reducible apply q_dSda); (focus ((repeat first | (with_reducible exact upd_same) | (with_reducible assumption) | (with_reducible apply upd_new (by assumption)) | (with_reducible apply upd_other (by first | assumption | exact Ne.symm (by assumption))) | (with_reducible refine' Kp.get (by assumption) ?_ (by first | assumption | exact Ne.symm (by assumption))) | (with_reducible apply Same.get (by assumption))); done)))
  | with_reducible refine q_sDPut ?_
  | ((with_reducible apply q_dInS); (focus ((repeat first | (with_reducible exact upd_same) | (with_reducible assumption) | (with_reducible apply upd_new (by assumption)) | (with_reducible apply upd_other (by first | assumption | exact Ne.symm (by assumption))) | (with_reducible refine' Kp.get (by assumption) ?_ (by first | assumption | exact Ne.symm (by assumption))) | (with_reducible apply Same.get (by assumption))); done)))
  | ((with_reducible apply q_dNInS); (focus ((repeat first | (with_reducible exact upd_same) | (with_reducible assumption) | (with_reducible apply upd_new (by assumption)) | (with_reducible apply upd_other (by first | assumption | exact Ne.symm (by assumption))) | (with_reducible refine' Kp.get (by assumption) ?_ (by first | assumption | exact Ne.symm (by assumption))) | (with_reducible apply Same.get (by assumption))); done)))
  | ((with_reducible apply q_dInI); (focus ((repeat first | (with_reducible exact upd_same) | (with_reducible assumption) | (with_reducible apply upd_new (by assumption)) | (with_reducible apply upd_other (by first | assumption | exact Ne.symm (by assumption))) | (with_reducible refine' Kp.get (by assumption) ?_ (by first | assumption | exact Ne.symm (by assumption))) | (with_reducible apply Same.get (by assumption))); done)))
  | ((with_reducible apply q_dNInI); (focus ((repeat first | (with_reducible exact upd_same) | (with_reducible assumption) | (with_reducible apply upd_new (by assumption)) | (with_reducible apply upd_other (by first | assumption | exact Ne.symm (by assumption))) | (with_reducible refine' Kp.get (by assumption) ?_ (by first | assumption | exact Ne.symm (by assumption))) | (with_reducible apply Same.get (by assumption))); done)))
  | ((with_reducible apply q_bmL); (focus ((repeat first | (with_reducible exact upd_same) | (with_reducible assumption) | (with_reducible apply upd_new (by assumption)) | (with_reducible apply upd_other (by first | assumption | exact Ne.symm (by assumption))) | (with_reducible refine' Kp.get (by assumption) ?_ (by first | assumption | exact Ne.symm (by assumption))) | (with_reducible apply Same.get (by assumption))); done)))
  | ((with_reducible apply q_bmL0); (focus ((repeat first | (with_reducible exact upd_same) | (with_reducible assumption) | (with_reducible apply upd_new (by assumption)) | (with_reducible apply upd_other (by first | assumption | exact Ne.symm (by assumption))) | (with_reducible refine' Kp.get (by assumption) ?_ (by first | assumption | exact Ne.symm (by assumption))) | (with_reducible apply Same.get (by assumption))); done)))
  | ((with_reducible apply q_ixLt); (focus ((repeat first | (with_reducible exact upd_same) | (with_reducible assumption) | (with_reducible apply upd_new (by assumption)) | (with_reducible apply upd_other (by first | assumption | exact Ne.symm (by assumption))) | (with_reducible refine' Kp.get (by assumption) ?_ (by first | assumption | exact Ne.symm (by assumption))) | (with_reducible apply Same.get (by assumption))); done)); (focus (exact rfl)))
  | ((with_reducible apply q_ixTt); (focus ((repeat first | (with_reducible exact upd_same) | (with_reducible assumption) | (with_reducible apply upd_new (by assumption)) | (with_reducible apply upd_other (by first | assumption | exact Ne.symm (by assumption))) | (with_reducible refine' Kp.get (by assumption) ?_ (by first | assumption | exact Ne.symm (by assumption))) | (with_reducible apply Same.get (by assumption))); done)); (focus (exact rfl)))
  | ((with_reducible apply q_lenLt); (focus ((repeat first | (with_reducible exact upd_same) | (with_reducible assumption) | (with_reducible apply upd_new (by assumption)) | (with_reducible apply upd_other (by first | assumption | exact Ne.symm (by assumption))) | (with_reducible refine' Kp.get (by assumption) ?_ (by first | assumption | exact Ne.symm (by assumption))) | (with_reducible apply Same.get (by assumption))); done)))
  | ((with_reducible apply q_lenTt); (focus ((repeat first | (with_reducible exact upd_same) | (with_reducible assumption) | (with_reducible apply upd_new (by assumption)) | (with_reducible apply upd_other (by first | assumption | exact Ne.symm (by assumption))) | (with_reducible refine' Kp.get (by assumption) ?_ (by first | assumption | exact Ne.symm (by assumption))) | (with_reducible apply Same.get (by assumption))); done)))
  | ((with_reducible apply q_append); (focus ((repeat first | (with_reducible exact upd_same) | (with_reducible assumption) | (with_reducible apply upd_new (by assumption)) | (with_reducible apply upd_other (by first | assumption | exact Ne.symm (by assumption))) | (with_reducible refine' Kp.get (by assumption) ?_ (by first | assumption | exact Ne.symm (by assumption))) | (with_reducible apply Same.get (by assumption))); done)); (focus ((first | (exact Nat.lt_of_ble_eq_true rfl) | (simp only [List.length_append, List.length_cons, List.length_nil, List.length_map]; exact small1000 (by omega))))))
  | ((with_reducible apply q_setL); (focus ((repeat first | (with_reducible exact upd_same) | (with_reducible assumption) | (with_reducible apply upd_new (by assumption)) | (with_reducible apply upd_other (by first | assumption | exact Ne.symm (by assumption))) | (with_reducible refine' Kp.get (by assumption) ?_ (by first | assumption | exact Ne.symm (by assumption))) | (with_reducible apply Same.get (by assumption))); done)); (focus (exact rfl)))
  | with_reducible refine q_ifNT ?_
  | with_reducible refine q_ifNF ?_
  | with_reducible refine q_andNT ?_
  | with_reducible refine q_andNF ?_
  | with_reducible refine q_orNT ?_
  | with_reducible refine q_orNF ?_
  | with_reducible refine q_bKNT ?_
  | with_reducible refine q_bKNF ?_
  | with_reducible refine q_tNGet ?_
  | with_reducible refine q_tNIn ?_
  | with_reducible refine q_sNPut ?_
  | with_reducible refine q_sFldAug ?_
  | with_reducible refine q_sDAug ?_
  | with_reducible refine q_sDDel ?_
  | with_reducible refine q_forX ?_
  | with_reducible refine q_tMake ?_
  | ((with_reducible apply q_dG1a); (focus ((repeat first | (with_reducible exact upd_same) | (with_reducible assumption) | (with_reducible apply upd_new (by assumption)) | (with_reducible apply upd_other (by first | assumption | exact Ne.symm (by assumption))) | (with_reducible refine' Kp.get (by assumption) ?_ (by first | assumption | exact Ne.symm (by assumption))) | (with_reducible apply Same.get (by assumption))); done)))))
open TL
/-! reading: the defs below the values -/
def rIntS : List V → Hp → VK → Prop := fun xs H Q => ∃ a n, xs = [.str a] ∧ PySem.intText? a = some n ∧ a.length ≤ 640 ∧ Q (.int n) H
theorem cq_intS {X : Cx} : CallR X (.type "int") rIntS := call_int_str
theorem q_intS {H : Hp} {Q : VK} {d : List Nat} (hd : ∀ c ∈ d, 48 ≤ c ∧ c ≤ 57) (h1 : d ≠ []) (hl : d.length ≤ 640) (k : Q (.int (dval d : Nat)) H) : rIntS [.str (strL d)] H Q :=
  ⟨strL d, _, rfl, PySem.intText_digits (x := strL d) hd h1 (Nat.le_trans hl (by decide)), hl, k⟩
theorem q_tM0 {σ : L2.St} {H : Hp} {Q : VK} {to : TE} {r : V → List V → Hp → VK → Prop} (h : to σ H fun x H1 => (∃ a, x = .str a) ∧ r x [] H1 Q) : tM0 r to σ H Q := h
theorem q_slS {H : Hp} {Q : VK} {s : Str} {lo hi : Option Int} (hl : s.length ≤ sizeLine) (k : Q (.str (cutS s lo hi)) H) : rSlS (.str s) lo hi H Q := ⟨s, rfl, hl, k⟩
theorem q_ixS {H : Hp} {Q : VK} {s : Str} {i : Int} {c : Nat} (hl : s.length ≤ sizeLine) (ha : atI s.cps.toList i = some c) (k : Q (.str ⟨#[c]⟩) H) : rIxS (.str s) (.int i) H Q := ⟨s, i, c, rfl, rfl, hl, ha, k⟩
theorem cutS_nat (s : Str) (a b : Nat) : cutS s (some (a : Int)) (some (b : Int)) = strL (((tl s).drop a).take (b - a)) := by
  unfold cutS
  rw [show HT.sIx s.length 0 (some (a : Int)) = min a s.length from HT.sIx_nat s.length 0 a, show HT.sIx s.length s.length (some (b : Int)) = min b s.length from HT.sIx_nat s.length s.length b]
  have e : ((tl s).drop (min a s.length)).take (min b s.length - min a s.length) = ((tl s).drop a).take (b - a) := by
    have hn : s.length = (tl s).length := tl_len s
    by_cases ha : a ≤ (tl s).length
    · rw [hn, Nat.min_eq_left ha]
      by_cases hb : b ≤ (tl s).length
      · rw [Nat.min_eq_left hb]
      · rw [Nat.min_eq_right (by omega), List.take_of_length_le (by rw [List.length_drop]; omega), List.take_of_length_le (by rw [List.length_drop]; omega)]
    · rw [List.drop_eq_nil_of_le (by omega), List.drop_eq_nil_of_le (by omega)]
      simp
  show (⟨(((tl s).drop (min a s.length)).take (min b s.length - min a s.length)).toArray⟩ : Str) = _
  rw [e]
  rfl
theorem strL_inj {a b : List Nat} : strL a = strL b ↔ a = b := ⟨fun h => by have := congrArg tl h; exact this, fun h => by rw [h]⟩
theorem sgn_dec (r : List Nat) (c : Nat) : decide (strL (r.take 1) = strL [c]) = decide (r.head? = some c) := by
  rw [decide_eq_decide, strL_inj]
  cases r with
  | nil => simp
  | cons x r => simp
def TxOk (s : Str) : Prop := (∀ c ∈ tl s, c < 128) ∧ (tl s).length ≤ 1000000
theorem TxOk.sz {s : Str} (h : TxOk s) : s.length ≤ sizeLine := by
  have := h.2
  have e : sizeLine = 16777216 := sizeLine_eq
  rw [tl_len]
  omega
def hdg : List Nat → Bool
  | [] => false
  | c :: _ => dgB c
theorem isdig : ∀ c < 128, PySem.Unicode.isDigit c = dgB c := by decide +kernel
theorem isdig_sgn {r : List Nat} (h : ∀ c ∈ r, c < 128) : Txt.isdigit (strL (r.take 1)) = hdg r := by
  cases r with
  | nil => rfl
  | cons c r =>
    show (decide (1 > 0) && (#[c] : Array Nat).all PySem.Unicode.isDigit) = dgB c
    rw [← isdig c (h c (List.mem_cons_self ..))]
    simp
theorem hd_dsp : ∀ (r : List Nat) (j : Nat), j ≤ (dsp r).length → hdg (r.drop j) = decide (j < (dsp r).length)
  | [], j, h => by
    have : j = 0 := by simpa [dsp] using h
    subst this
    rfl
  | c :: r, 0, _ => by
    show dgB c = decide (0 < (List.takeWhile dgB (c :: r)).length)
    rw [List.takeWhile_cons]
    split
    · rename_i hc
      rw [hc]
      simp
    · rename_i hc
      rw [Bool.eq_false_iff.mpr hc]
      simp
  | c :: r, j + 1, h => by
    unfold dsp at h ⊢
    rw [List.takeWhile_cons] at h ⊢
    split at h
    · rename_i hc
      rw [if_pos hc]
      rw [List.length_cons] at h ⊢
      have := hd_dsp r j (by unfold dsp; omega)
      rw [List.drop_succ_cons, this]
      unfold dsp
      rw [decide_eq_decide]
      omega
    · simp at h
def sp_sign : Sp := fun vs H Q _ => ∃ (s : Str) (p : Nat), vs = [.str s, .int (p : Nat)] ∧ TxOk s ∧ Q (.str (strL (((tl s).drop p).take 1))) H
def sp_dgs (C : Addr) : Sp := fun vs H Q E => ∃ (s : Str) (p m : Nat), vs = [.str s, .int (p : Nat), .int (m : Nat)] ∧ TxOk s ∧ (okd m (dsp ((tl s).drop p)) = false → E (.ref C) none H) ∧ (okd m (dsp ((tl s).drop p)) = true → Q (.str (strL (dsp ((tl s).drop p)))) H)
def Res (C : Addr) (o : Option (NestedKey × List Nat)) (L : List Nat) (b : Nat) (H : Hp) (Q : VK) (E : XK) : Prop := (o = none → ∀ H', Same H H' → E (.ref C) none H') ∧
  ∀ (k : NestedKey) (e : Nat) (v : V) (t : Addr) (H' : Hp), o = some (k, L.drop e) → b < e → e ≤ L.length → Same H H' → H' t = some (.tup [v, .int (e : Nat)]) → NV H' k v → Q (.ref t) H'
def sp_rtx (C : Addr) : Sp := fun vs H Q E => ∃ (s : Str) (d : List Nat) (p b : Nat), vs = [.str s, .str (strL d), .int (p : Nat)] ∧ TxOk s ∧ (∀ c ∈ d, 48 ≤ c ∧ c ≤ 57) ∧ d ≠ [] ∧ d.length ≤ 40 ∧ b < p ∧ p ≤ (tl s).length ∧ Res C (pTxt d ((tl s).drop p)) (tl s) b H Q E
section
variable {P : Program} {w : World} {K : PySem.W.Frag} {mg : Str → Option Value} {base : Heap}
theorem ok_sign_at (T : Txt K mg) : FnOk P w K mg base CX0 1 T.f_sign_at T.d_sign_at ["text", "place"] sp_sign := by
  refine T.F_sign_at.ok sc_sign_at (fun vs H Q E h => ?_) (fun cdv A outer s H vs Q E hr h => ?_)
  · obtain ⟨s, p, rfl, _⟩ := h; rfl
  · obtain ⟨s, p, rfl, hs, k⟩ := h
    refine ⟨_, (pss_one (ps_ret (pe_slice sl_str (pv 0) (po_some (pv 1)) (po_some (pe_op op_add (pv 1) pe_int))))), ?_⟩
    (dsimp only [cxOf, Cx.nox, Cx.wish, L2.start, List.map, List.length, List.replicate, List.cons_append, List.nil_append, List.append_eq, Nat.reduceSub, Nat.reduceAdd])
    walk_at "my_rd"
    refine q_slS hs.sz ?_
    rw [show ((p : Nat) : Int) + 1 = ((p + 1 : Nat) : Int) from rfl, cutS_nat, show p + 1 - p = 1 by omega]
    exact k
theorem ok_digits_at (T : Txt K mg) : FnOk P w K mg base (L2.CX P w) 2 T.f_digits_at T.d_digits_at ["text", "start", "most"] (sp_dgs T.C_BadNotation) := by
  refine T.F_digits_at.okX sc_digits_at (fun vs H Q E h => ?_) (fun cdv A outer s H vs Q E hr h => ?_)
  · obtain ⟨s, p, m, rfl, _⟩ := h; rfl
  · obtain ⟨s, p, m, rfl, hs, kE, kQ⟩ := h
    refine ⟨_, (pss_cons (ps_set (i := 3) sc_digits_at.nd rfl (Or.inl rfl) (pv 1))
      (Evl.pss_cut (ps_while (passes_of rfl) (pt_val (pe_m0 PySem.F.slot_str_isdigit PySem.F.type_str_isdigit mt_isdigit (pe_call (ok_sign_at T) (hr.mono (by decide)) (by rfl) T.g_sign_at T.F_sign_at.kp T.b_sign_at .nil pass0 (pa_cons (pv 0) (pa_cons (pv 3) pa_nil))))) (pss_one (ps_aug (i := 3) sc_digits_at.nd rfl (Or.inl rfl) pe_int ip_add)))
      (pss_cons (ps_set (i := 4) sc_digits_at.nd rfl (Or.inl rfl) (pe_slice sl_str (pv 0) (po_some (pv 1)) (po_some (pv 3))))
      (pss_cons (ps_if (pt_not (pt_chain op_le op_le pe_int (pe_callB cq_lenS (by rfl) T.z_len boot_len (pa_cons (pv 4) pa_nil)) (pv 2))) (pss_one (ps_raise rfl (takes_of rfl rfl rfl rfl) (pmk_own PySem.F.excBase_ValueError T.xe_BadNotation T.g_BadNotation T.ke_BadNotation (raises_own T.be_BadNotation T.te_BadNotation) (by exact rfl)))) pss_nil)
      (pss_cons (ps_if (PW.pt (pw_and (pt_cmpR op_ne (pv 4) pe_str (nomark _)) (pw_and1 (pt_cmpR op_eq (pe_ix ix_str (pv 4) pe_int (fun _ _ => rfl)) pe_str (nomark _))))) (pss_one (ps_raise rfl (takes_of rfl rfl rfl rfl) (pmk_own PySem.F.excBase_ValueError T.xe_BadNotation T.g_BadNotation T.ke_BadNotation (raises_own T.be_BadNotation T.te_BadNotation) (by exact rfl)))) pss_nil)
      (pss_one (ps_ret (pv 4)))))))), ?_⟩
    have hr128 : ∀ j, ∀ c ∈ ((tl s).drop p).drop j, c < 128 := fun j c hc => hs.1 c (List.mem_of_mem_drop (List.mem_of_mem_drop hc))
    have hall := dsp_all ((tl s).drop p)
    have htk := dsp_take ((tl s).drop p)
    have hln := dsp_len ((tl s).drop p)
    (dsimp only [cxOf, Cx.nox, Cx.wish, L2.start, List.map, List.length, List.replicate, List.cons_append, List.nil_append, List.append_eq, Nat.reduceSub, Nat.reduceAdd])
    walk_at "my_rd"
    refine q_cut (Mid := fun σ H2 => H2 = H ∧ ∃ v4 : Option V, σ = [some (.str s), some (.int (p : Nat)), some (.int (m : Nat)), some (.int (p + (dsp ((tl s).drop p)).length : Nat)), v4]) ?_ ?_
    · refine q_while (fun n σ H2 => H2 = H ∧ ∃ (j : Nat) (v4 : Option V), σ = [some (.str s), some (.int (p : Nat)), some (.int (m : Nat)), some (.int (p + j : Nat)), v4] ∧ j ≤ (dsp ((tl s).drop p)).length ∧ n = (dsp ((tl s).drop p)).length - j) (m0 := (dsp ((tl s).drop p)).length)
        ⟨rfl, 0, _, rfl, Nat.zero_le _, rfl⟩ ?_
      rintro n σ H2 ⟨rfl, j, v4, rfl, hj, rfl⟩
      walk_at "my_rd"
      refine q_tM0 ?_
      walk_at "my_rd"
      refine ⟨s, p + j, rfl, hs, ?_⟩
      refine ⟨⟨_, rfl⟩, _, rfl, rfl, trivial, ?_⟩
      rw [← List.drop_drop, isdig_sgn (hr128 j), hd_dsp _ j hj]
      walk_at "my_rd"
      refine q_wh2 (fun h => ?_) (fun h => ?_)
      · have h := dec_t h
        walk_at "my_rd"
        rw [show ((p + j : Nat) : Int) + 1 = ((p + (j + 1) : Nat) : Int) from rfl]
        exact ⟨_, by omega, rfl, j + 1, _, rfl, by omega, rfl⟩
      · have h := dec_f h
        walk_at "my_rd"
        refine ⟨rfl, v4, ?_⟩
        rw [show j = (dsp ((tl s).drop p)).length by omega]
    · rintro σ H2 ⟨rfl, v4, rfl⟩
      walk_at "my_rd"
      refine q_slS hs.sz ?_
      rw [cutS_nat, show p + (dsp ((tl s).drop p)).length - p = (dsp ((tl s).drop p)).length by omega, htk]
      generalize hd : dsp ((tl s).drop p) = d at kE kQ hall hln
      have hdl : d.length ≤ 1000000 := by
        have := hs.2
        rw [List.length_drop] at hln
        omega
      have hdz : (strL d).length ≤ sizeLine := by
        have e : sizeLine = 16777216 := sizeLine_eq
        show d.length ≤ _
        omega
      walk_at "my_rd"
      refine q_lenS hdz ?_
      walk_at "my_rd"
      rw [show ((strL d).length : Int) = ((d.length : Nat) : Int) from rfl]
      refine q_ch2 (fun h1 => ?_) (fun h1 => ?_)
      · have h1 := dec_t h1
        walk_at "my_rd"
        refine q_if2 (fun h2 => ?_) (fun h2 => ?_)
        · have h2 : ¬ ((d.length : Int) ≤ (m : Nat)) := fun q => by rw [decide_eq_true q] at h2; cases h2
          walk_at "my_rd"
          refine kE ?_
          unfold okd
          rw [decide_eq_false (show ¬ d.length ≤ m by omega), Bool.false_and, Bool.and_false]
        · have h2 : (d.length : Int) ≤ (m : Nat) := by
            by_cases q : (d.length : Int) ≤ (m : Nat)
            · exact q
            · rw [decide_eq_false q] at h2; cases h2
          walk_at "my_rd"
          rw [show Str.ofString "0" = strL [48] from by decide +kernel, show decide (strL d = strL [48]) = decide (d = [48]) from decide_eq_decide.mpr strL_inj]
          have e1 : decide (1 ≤ d.length) = true := decide_eq_true (by omega)
          have e2 : decide (d.length ≤ m) = true := decide_eq_true (by omega)
          unfold okd at kE kQ
          rw [e1, e2, Bool.true_and, Bool.true_and] at kE kQ
          by_cases hz : d = [48]
          · rw [decide_eq_true hz] at kQ ⊢
            walk_at "my_rd"
            exact kQ rfl
          · rw [decide_eq_false hz] at kE kQ ⊢
            walk_at "my_rd"
            cases d with
            | nil => simp at h1
            | cons c t =>
              refine q_ixS hdz (c := c) (at_int (n := 0) rfl rfl) ?_
              walk_at "my_rd"
              rw [show decide ((⟨#[c]⟩ : Str) = strL [48]) = decide (c = 48) from decide_eq_decide.mpr ⟨fun q => by have := congrArg tl q; have : [c] = [48] := this; simpa using this, fun q => by rw [q]; rfl⟩]
              refine q_if2 (fun h3 => ?_) (fun h3 => ?_)
              · have h3 := dec_t h3
                walk_at "my_rd"
                exact kE (by rw [h3]; rfl)
              · have h3 := dec_f h3
                walk_at "my_rd"
                exact kQ (by simp [h3])
      · have h1 := dec_f h1
        walk_at "my_rd"
        refine kE ?_
        unfold okd
        rw [decide_eq_false (show ¬ 1 ≤ d.length by omega), Bool.false_and]
theorem ok_read_text (T : Txt K mg) : FnOk P w K mg base (L2.CX P w) 1 T.f_read_text T.d_read_text ["text", "digits", "start"] (sp_rtx T.C_BadNotation) := by
  refine T.F_read_text.okX sc_read_text (fun vs H Q E h => ?_) (fun cdv A outer s H vs Q E hr h => ?_)
  · obtain ⟨s, d, p, b, rfl, _⟩ := h; rfl
  · obtain ⟨s, d, p, b, rfl, hs, hd, hne, hdl, hb, hp, kE, kQ⟩ := h
    have hsl : sizeLine = 16777216 := sizeLine_eq
    have hlen := hs.2
    refine ⟨_, (pss_cons (ps_if (pt_cmpR op_gt (pe_callB cq_lenS (by rfl) T.z_len boot_len (pa_cons (pv 1) pa_nil)) (pe_glob (v := .int 9) (by rfl) T.c_MOST_LENGTH_DIGITS ⟨_, rfl⟩) (nomark _)) (pss_one (ps_raise rfl (takes_of rfl rfl rfl rfl) (pmk_own PySem.F.excBase_ValueError T.xe_BadNotation T.g_BadNotation T.ke_BadNotation (raises_own T.be_BadNotation T.te_BadNotation) (by exact rfl)))) pss_nil)
      (pss_cons (ps_set (i := 3) sc_read_text.nd rfl (Or.inl rfl) (pe_op op_add (pv 2) (pe_callTy cq_intS (by rfl) T.z_int boot_int (pa_cons (pv 1) pa_nil))))
      (pss_cons (ps_if (pt_cmpR op_gt (pv 3) (pe_callB cq_lenS (by rfl) T.z_len boot_len (pa_cons (pv 0) pa_nil)) (nomark _)) (pss_one (ps_raise rfl (takes_of rfl rfl rfl rfl) (pmk_own PySem.F.excBase_ValueError T.xe_BadNotation T.g_BadNotation T.ke_BadNotation (raises_own T.be_BadNotation T.te_BadNotation) (by exact rfl)))) pss_nil)
      (pss_one (ps_ret (pe_tup (pa_cons (pe_slice sl_str (pv 0) (po_some (pv 2)) (po_some (pv 3))) (pa_cons (pv 3) pa_nil)))))))), ?_⟩
    (dsimp only [cxOf, Cx.nox, Cx.wish, L2.start, List.map, List.length, List.replicate, List.cons_append, List.nil_append, List.append_eq, Nat.reduceSub, Nat.reduceAdd])
    walk_at "my_rd"
    refine q_lenS (by show d.length ≤ _; omega) ?_
    walk_at "my_rd"
    rw [show ((strL d).length : Int) = ((d.length : Nat) : Int) from rfl]
    refine q_if2 (fun h1 => ?_) (fun h1 => ?_)
    · have h1 := dec_t h1
      walk_at "my_rd"
      refine kE ?_ _ (Same.refl _)
      unfold pTxt
      rw [if_neg (by omega)]
    · have h1 := dec_f h1
      walk_at "my_rd"
      refine q_intS hd hne (by omega) ?_
      walk_at "my_rd"
      refine q_lenS hs.sz ?_
      walk_at "my_rd"
      rw [show (s.length : Int) = (((tl s).length : Nat) : Int) from rfl]
      have hdr : ((tl s).drop p).length = (tl s).length - p := List.length_drop ..
      refine q_if2 (fun h2 => ?_) (fun h2 => ?_)
      · have h2 := dec_t h2
        walk_at "my_rd"
        refine kE ?_ _ (Same.refl _)
        unfold pTxt
        rw [if_pos (by omega), if_neg (by omega)]
      · have h2 := dec_f h2
        walk_at "my_rd"
        refine q_slS hs.sz ?_
        rw [show ((p : Nat) : Int) + ((dval d : Nat) : Int) = ((p + dval d : Nat) : Int) from rfl, cutS_nat, show p + dval d - p = dval d by omega]
        walk_at "my_rd"
        refine q_tupK (Nat.le_of_ble_eq_true rfl) fun t nt => ?_
        refine kQ (.text (strL (((tl s).drop p).take (dval d)))) (p + dval d) _ t _ ?_ (by omega) (by omega) (Same.new (Same.refl _) nt) upd_same (.str _)
        unfold pTxt
        rw [if_pos (by omega), if_pos (by omega), List.drop_drop]
end

/-! reading: values and tuples -/
theorem NVs.snoc {H : Hp} {k : NestedKey} {v : V} (h : NV H k v) : ∀ {ks : List NestedKey} {vs : List V}, NVs H ks vs → NVs H (ks ++ [k]) (vs ++ [v])
  | _, _, .nil => .cons h .nil
  | _, _, .cons a b => .cons a (NVs.snoc h b)
def sp_rv (C : Addr) (dep : Nat) (G : Par) : Sp := fun vs H Q E => ∃ (s : Str) (p : Nat), vs = [.str s, .int (p : Nat), .int (dep : Nat)] ∧ TxOk s ∧ p ≤ (tl s).length ∧ Res C (G ((tl s).drop p)) (tl s) p H Q E
def sp_rt (C : Addr) (dep : Nat) (F : Par) : Sp := fun vs H Q E => ∃ (s : Str) (p : Nat), vs = [.str s, .int (p : Nat), .int (dep : Nat)] ∧ TxOk s ∧ ((tl s).drop p).head? = some 40 ∧ Res C (F ((tl s).drop p).tail) (tl s) p H Q E
theorem drop_tl (L : List Nat) (p : Nat) : (L.drop p).tail = L.drop (p + 1) := List.tail_drop
theorem head_lt {L : List Nat} {p c : Nat} (h : (L.drop p).head? = some c) : p < L.length := by
  by_cases q : p < L.length
  · exact q
  · rw [List.drop_eq_nil_of_le (by omega)] at h
    cases h
theorem dsp_drop_le (L : List Nat) {p : Nat} (hp : p ≤ L.length) : p + (dsp (L.drop p)).length ≤ L.length := by
  have := dsp_len (L.drop p)
  rw [List.length_drop] at this
  omega
section
variable {P : Program} {w : World} {K : PySem.W.Frag} {mg : Str → Option Value} {base : Heap}
theorem ok_rv {m dep : Nat} {F : Par} (hm : 2 ≤ m) (ok_rtIH : ∀ T : Txt K mg, FnOk P w K mg base (L2.CX P w) m T.f_read_tuple T.d_read_tuple ["text", "start", "depth"] (sp_rt T.C_BadNotation (dep + 1) F)) (T : Txt K mg) :
    FnOk P w K mg base (L2.CX P w) (m + 1) T.f_read_value T.d_read_value ["text", "start", "depth"] (sp_rv T.C_BadNotation dep (pv1 F)) := by
  refine T.F_read_value.okX sc_read_value (fun vs H Q E h => ?_) (fun cdv A outer s H vs Q E hr h => ?_)
  · obtain ⟨s, p, rfl, _⟩ := h; rfl
  · obtain ⟨s, p, rfl, hs, hp, kE, kQ⟩ := h
    have hsl : sizeLine = 16777216 := sizeLine_eq
    have hlen := hs.2
    refine ⟨_, (pss_cons (ps_set (i := 3) sc_read_value.nd rfl (Or.inl rfl) (pe_call (ok_sign_at T) (hr.mono (by omega)) (by rfl) T.g_sign_at T.F_sign_at.kp T.b_sign_at .nil pass0 (pa_cons (pv 0) (pa_cons (pv 1) pa_nil))))
      (pss_cons (ps_if (pt_cmpR op_eq (pv 3) pe_str (nomark _)) (pss_one (ps_ret (pe_call (ok_rtIH T) (hr.mono (by omega)) (by rfl) T.g_read_tuple T.F_read_tuple.kp T.b_read_tuple .nil (passes_call (takes_of rfl rfl rfl rfl) fun _ _ _ _ h => h) (pa_cons (pv 0) (pa_cons (pv 1) (pa_cons (pe_op op_add (pv 2) pe_int) pa_nil)))))) pss_nil)
      (pss_cons (ps_if (pt_cmpR op_eq (pv 3) pe_str (nomark _)) (pss_cons (ps_set (i := 4) sc_read_value.nd rfl (Or.inl rfl) (pe_call (ok_digits_at T) (hr.mono (by omega)) (by rfl) T.g_digits_at T.F_digits_at.kp T.b_digits_at .nil (passes_call (takes_of rfl rfl rfl rfl) fun _ _ _ _ h => h) (pa_cons (pv 0) (pa_cons (pe_op op_add (pv 1) pe_int) (pa_cons (pe_glob (v := .int 40) (by rfl) T.c_MOST_DIGITS ⟨_, rfl⟩) pa_nil)))))
      (pss_cons (ps_if (pt_cmpR op_eq (pv 4) pe_str (nomark _)) (pss_one (ps_raise rfl (takes_of rfl rfl rfl rfl) (pmk_own PySem.F.excBase_ValueError T.xe_BadNotation T.g_BadNotation T.ke_BadNotation (raises_own T.be_BadNotation T.te_BadNotation) (by exact rfl)))) pss_nil)
      (pss_one (ps_ret (pe_tup (pa_cons (pe_un un_neg (pe_callTy cq_intS (by rfl) T.z_int boot_int (pa_cons (pv 4) pa_nil))) (pa_cons (pe_op op_add (pe_op op_add (pv 1) pe_int) (pe_callB cq_lenS (by rfl) T.z_len boot_len (pa_cons (pv 4) pa_nil))) pa_nil))))))) pss_nil)
      (pss_cons (ps_set (i := 4) sc_read_value.nd rfl (Or.inl rfl) (pe_call (ok_digits_at T) (hr.mono (by omega)) (by rfl) T.g_digits_at T.F_digits_at.kp T.b_digits_at .nil (passes_call (takes_of rfl rfl rfl rfl) fun _ _ _ _ h => h) (pa_cons (pv 0) (pa_cons (pv 1) (pa_cons (pe_glob (v := .int 40) (by rfl) T.c_MOST_DIGITS ⟨_, rfl⟩) pa_nil)))))
      (pss_cons (ps_set (i := 5) sc_read_value.nd rfl (Or.inl rfl) (pe_op op_add (pv 1) (pe_callB cq_lenS (by rfl) T.z_len boot_len (pa_cons (pv 4) pa_nil))))
      (pss_cons (ps_if (pt_cmpR op_eq (pe_call (ok_sign_at T) (hr.mono (by omega)) (by rfl) T.g_sign_at T.F_sign_at.kp T.b_sign_at .nil pass0 (pa_cons (pv 0) (pa_cons (pv 5) pa_nil))) pe_str (nomark _)) (pss_one (ps_ret (pe_call (ok_read_text T) (hr.mono (by omega)) (by rfl) T.g_read_text T.F_read_text.kp T.b_read_text .nil (passes_call (takes_of rfl rfl rfl rfl) fun _ _ _ _ h => h) (pa_cons (pv 0) (pa_cons (pv 4) (pa_cons (pe_op op_add (pv 5) pe_int) pa_nil)))))) pss_nil)
      (pss_one (ps_ret (pe_tup (pa_cons (pe_callTy cq_intS (by rfl) T.z_int boot_int (pa_cons (pv 4) pa_nil)) (pa_cons (pv 5) pa_nil))))))))))), ?_⟩
    (dsimp only [cxOf, Cx.nox, Cx.wish, L2.start, List.map, List.length, List.replicate, List.cons_append, List.nil_append, List.append_eq, Nat.reduceSub, Nat.reduceAdd])
    walk_at "my_rd"
    refine ⟨s, p, rfl, hs, ?_⟩
    walk_at "my_rd"
    rw [show Str.ofString "(" = strL [40] from by decide +kernel, sgn_dec]
    unfold pv1 at kE kQ
    by_cases h40 : ((tl s).drop p).head? = some 40
    · rw [decide_eq_true h40]
      rw [if_pos h40] at kE kQ
      walk_at "my_rd"
      exact ⟨s, p, rfl, hs, h40, kE, kQ⟩
    · rw [decide_eq_false h40]
      rw [if_neg h40] at kE kQ
      walk_at "my_rd"
      rw [show Str.ofString "-" = strL [45] from by decide +kernel, sgn_dec]
      by_cases h45 : ((tl s).drop p).head? = some 45
      · have hlt := head_lt h45
        rw [decide_eq_true h45]
        rw [if_pos h45, drop_tl] at kE kQ
        unfold pNeg at kE kQ
        have hall := dsp_all ((tl s).drop (p + 1))
        have hle := dsp_drop_le (tl s) (p := p + 1) (by omega)
        walk_at "my_rd"
        refine ⟨s, p + 1, 40, rfl, hs, fun ho => ?_, fun ho => ?_⟩
        · rw [if_neg (by rw [ho]; exact Bool.false_ne_true)] at kE
          exact kE rfl _ (Same.refl _)
        · rw [if_pos ho, List.drop_drop] at kE kQ
          have hl := okd_len ho
          generalize dsp ((tl s).drop (p + 1)) = d at kE kQ hall hle hl
          walk_at "my_rd"
          rw [show Str.ofString "0" = strL [48] from by decide +kernel, show decide (strL d = strL [48]) = decide (d = [48]) from decide_eq_decide.mpr strL_inj]
          by_cases hz : d = [48]
          · rw [decide_eq_true hz]
            rw [if_pos hz] at kE
            walk_at "my_rd"
            exact kE rfl _ (Same.refl _)
          · rw [decide_eq_false hz]
            rw [if_neg hz] at kQ
            walk_at "my_rd"
            refine q_intS hall (by intro e; rw [e] at hl; simp at hl) (by omega) ?_
            walk_at "my_rd"
            refine q_lenS (by show d.length ≤ _; omega) ?_
            walk_at "my_rd"
            rw [show ((p : Nat) : Int) + 1 + ((strL d).length : Int) = ((p + 1 + d.length : Nat) : Int) from rfl]
            refine q_tupK (Nat.le_of_ble_eq_true rfl) fun t nt => ?_
            exact kQ _ (p + 1 + d.length) _ t _ rfl (by omega) (by omega) (Same.new (Same.refl _) nt) upd_same (.int _)
      · rw [decide_eq_false h45]
        rw [if_neg h45] at kE kQ
        unfold pPos at kE kQ
        have hall := dsp_all ((tl s).drop p)
        have hle := dsp_drop_le (tl s) hp
        walk_at "my_rd"
        refine ⟨s, p, 40, rfl, hs, fun ho => ?_, fun ho => ?_⟩
        · rw [if_neg (by rw [ho]; exact Bool.false_ne_true)] at kE
          exact kE rfl _ (Same.refl _)
        · rw [if_pos ho, List.drop_drop] at kE kQ
          have hl := okd_len ho
          generalize dsp ((tl s).drop p) = d at kE kQ hall hle hl
          have hne : d ≠ [] := by intro e; rw [e] at hl; simp at hl
          unfold pAft at kE kQ
          walk_at "my_rd"
          refine q_lenS (by show d.length ≤ _; omega) ?_
          walk_at "my_rd"
          rw [show ((p : Nat) : Int) + ((strL d).length : Int) = ((p + d.length : Nat) : Int) from rfl]
          refine ⟨s, p + d.length, rfl, hs, ?_⟩
          walk_at "my_rd"
          rw [show Str.ofString ":" = strL [58] from by decide +kernel, sgn_dec]
          by_cases h58 : ((tl s).drop (p + d.length)).head? = some 58
          · have hlt := head_lt h58
            rw [decide_eq_true h58]
            rw [if_pos h58, drop_tl] at kE kQ
            walk_at "my_rd"
            exact ⟨s, d, p + d.length + 1, p, rfl, hs, hall, hne, hl.2, by omega, by omega, kE, kQ⟩
          · rw [decide_eq_false h58]
            rw [if_neg h58] at kQ
            walk_at "my_rd"
            refine q_intS hall hne (by omega) ?_
            walk_at "my_rd"
            refine q_tupK (Nat.le_of_ble_eq_true rfl) fun t nt => ?_
            exact kQ _ (p + d.length) _ t _ rfl (by omega) (by omega) (Same.new (Same.refl _) nt) upd_same (.int _)
theorem ok_rt_deep (T : Txt K mg) : FnOk P w K mg base (L2.CX P w) 2 T.f_read_tuple T.d_read_tuple ["text", "start", "depth"] (sp_rt T.C_BadNotation (10 + 1) fun _ => none) := by
  refine T.F_read_tuple.okX sc_read_tuple (fun vs H Q E h => ?_) (fun cdv A outer s H vs Q E hr h => ?_)
  · obtain ⟨s, p, rfl, _⟩ := h; rfl
  · obtain ⟨s, p, rfl, hs, hp, kE, kQ⟩ := h
    refine ⟨_, (pss_cons (ps_if (pt_cmpR op_gt (pv 2) (pe_glob (v := .int 10) (by rfl) T.c_DEEPEST ⟨_, rfl⟩) (nomark _)) (pss_one (ps_raise rfl (takes_of rfl rfl rfl rfl) (pmk_own PySem.F.excBase_ValueError T.xe_BadNotation T.g_BadNotation T.ke_BadNotation (raises_own T.be_BadNotation T.te_BadNotation) (by exact rfl)))) pss_nil)
      (pss_cons ps_never
      (pss_cons ps_never
      (pss_cons ps_never
      (pss_cons ps_never
      (pss_cons ps_never
      (pss_one ps_never))))))), ?_⟩
    (dsimp only [cxOf, Cx.nox, Cx.wish, L2.start, List.map, List.length, List.replicate, List.cons_append, List.nil_append, List.append_eq, Nat.reduceSub, Nat.reduceAdd])
    walk_at "my_rd"
    rw [show decide ((10 : Int) < ((10 + 1 : Nat) : Int)) = true from rfl]
    walk_at "my_rd"
    exact kE rfl _ (Same.refl _)
theorem pLoop_no {G : Par} {g : Nat} {r : List Nat} {ks : List NestedKey} (h : ¬ r.head? = some 44) : pLoop G g r ks = if r.head? = some 41 then some (.tup ks, r.tail) else none := by
  cases g with
  | zero => rfl
  | succ g => unfold pLoop; rw [if_neg h]
theorem ok_rt {m dep : Nat} {G : Par} (hm : 2 ≤ m) (hdep : dep ≤ 10) (ok_rvIH : ∀ T : Txt K mg, FnOk P w K mg base (L2.CX P w) m T.f_read_value T.d_read_value ["text", "start", "depth"] (sp_rv T.C_BadNotation dep G)) (T : Txt K mg) :
    FnOk P w K mg base (L2.CX P w) (m + 1) T.f_read_tuple T.d_read_tuple ["text", "start", "depth"] (sp_rt T.C_BadNotation dep (pTup G)) := by
  refine T.F_read_tuple.okX sc_read_tuple (fun vs H Q E h => ?_) (fun cdv A outer s H vs Q E hr h => ?_)
  · obtain ⟨s, p, rfl, _⟩ := h; rfl
  · obtain ⟨s, p, rfl, hs, h40, kE, kQ⟩ := h
    have hsl : sizeLine = 16777216 := sizeLine_eq
    have hlen := hs.2
    have hlt := head_lt h40
    rw [drop_tl] at kE kQ
    refine ⟨_, (pss_cons (ps_if (pt_cmpR op_gt (pv 2) (pe_glob (v := .int 10) (by rfl) T.c_DEEPEST ⟨_, rfl⟩) (nomark _)) (pss_one (ps_raise rfl (takes_of rfl rfl rfl rfl) (pmk_own PySem.F.excBase_ValueError T.xe_BadNotation T.g_BadNotation T.ke_BadNotation (raises_own T.be_BadNotation T.te_BadNotation) (by exact rfl)))) pss_nil)
      (pss_cons (ps_if (pt_cmpR op_eq (pe_call (ok_sign_at T) (hr.mono (by omega)) (by rfl) T.g_sign_at T.F_sign_at.kp T.b_sign_at .nil pass0 (pa_cons (pv 0) (pa_cons (pe_op op_add (pv 1) pe_int) pa_nil))) pe_str (nomark _)) (pss_one (ps_ret (pe_tup (pa_cons (pe_tup pa_nil) (pa_cons (pe_op op_add (pv 1) pe_int) pa_nil))))) pss_nil)
      (pss_cons (ps_asg (pe_call (ok_rvIH T) (hr.mono (by omega)) (by rfl) T.g_read_value T.F_read_value.kp T.b_read_value .nil (passes_call (takes_of rfl rfl rfl rfl) fun _ _ _ _ h => h) (pa_cons (pv 0) (pa_cons (pe_op op_add (pv 1) pe_int) (pa_cons (pv 2) pa_nil)))) (pg_tup rfl (pgs_cons (pg_name (i := 4) sc_read_tuple.nd rfl (Or.inl rfl)) (pgs_cons (pg_name (i := 5) sc_read_tuple.nd rfl (Or.inl rfl)) pgs_nil))))
      (pss_cons (ps_set (i := 3) sc_read_tuple.nd rfl (Or.inl rfl) (pe_lst (pa_cons (pv 4) pa_nil)))
      (pss_cons (ps_while (passes_of rfl) (pt_cmpR op_eq (pe_call (ok_sign_at T) (hr.mono (by omega)) (by rfl) T.g_sign_at T.F_sign_at.kp T.b_sign_at .nil pass0 (pa_cons (pv 0) (pa_cons (pv 5) pa_nil))) pe_str (nomark _)) (pss_cons (ps_asg (pe_call (ok_rvIH T) (hr.mono (by omega)) (by rfl) T.g_read_value T.F_read_value.kp T.b_read_value .nil (passes_call (takes_of rfl rfl rfl rfl) fun _ _ _ _ h => h) (pa_cons (pv 0) (pa_cons (pe_op op_add (pv 5) pe_int) (pa_cons (pv 2) pa_nil)))) (pg_tup rfl (pgs_cons (pg_name (i := 4) sc_read_tuple.nd rfl (Or.inl rfl)) (pgs_cons (pg_name (i := 5) sc_read_tuple.nd rfl (Or.inl rfl)) pgs_nil))))
      (pss_one (ps_expr (pe_bm PySem.F.plainAttrs_list PySem.F.slot_list_append PySem.F.type_list_append mt_append (pv 3) (pa_cons (pv 4) pa_nil))))))
      (pss_cons (ps_if (pt_cmpR op_ne (pe_call (ok_sign_at T) (hr.mono (by omega)) (by rfl) T.g_sign_at T.F_sign_at.kp T.b_sign_at .nil pass0 (pa_cons (pv 0) (pa_cons (pv 5) pa_nil))) pe_str (nomark _)) (pss_one (ps_raise rfl (takes_of rfl rfl rfl rfl) (pmk_own PySem.F.excBase_ValueError T.xe_BadNotation T.g_BadNotation T.ke_BadNotation (raises_own T.be_BadNotation T.te_BadNotation) (by exact rfl)))) pss_nil)
      (pss_one (ps_ret (pe_tup (pa_cons (pe_callTy cq_tupOf (by rfl) T.z_tuple boot_tuple (pa_cons (pv 3) pa_nil)) (pa_cons (pe_op op_add (pv 5) pe_int) pa_nil))))))))))), ?_⟩
    (dsimp only [cxOf, Cx.nox, Cx.wish, L2.start, List.map, List.length, List.replicate, List.cons_append, List.nil_append, List.append_eq, Nat.reduceSub, Nat.reduceAdd])
    walk_at "my_rd"
    rw [decide_eq_false (show ¬ (10 : Int) < ((dep : Nat) : Int) by omega)]
    walk_at "my_rd"
    refine ⟨s, p + 1, rfl, hs, ?_⟩
    walk_at "my_rd"
    rw [show Str.ofString ")" = strL [41] from by decide +kernel, sgn_dec]
    obtain ⟨R, hR⟩ : ∃ R, R = pTup G ((tl s).drop (p + 1)) := ⟨_, rfl⟩
    rw [← hR] at kE kQ
    unfold pTup at hR
    by_cases h41 : ((tl s).drop (p + 1)).head? = some 41
    · have hlt2 := head_lt h41
      rw [decide_eq_true h41]
      rw [if_pos h41, drop_tl] at hR
      walk_at "my_rd"
      refine q_tupK (Nat.le_of_ble_eq_true rfl) fun t0 nt0 => ?_
      have sm0 : Same H (upd H t0 (.tup [])) := Same.new (Same.refl _) nt0
      have ht0 : upd H t0 (.tup []) t0 = some (.tup []) := upd_same
      generalize upd H t0 (.tup []) = H0 at sm0 ht0
      walk_at "my_rd"
      refine q_tupK (Nat.le_of_ble_eq_true rfl) fun t nt => ?_
      have sm1 : Same H0 (upd H0 t (.tup [.ref t0, .int (((p : Nat) : Int) + 2)])) := Same.new (Same.refl _) nt
      exact kQ (.tup []) (p + 1 + 1) (.ref t0) t _ hR (by omega) (by omega) (sm0.trans sm1) upd_same (.tup (sm1 _ _ ht0) .nil)
    · rw [decide_eq_false h41]
      rw [if_neg h41] at hR
      walk_at "my_rd"
      refine ⟨s, p + 1, rfl, hs, by omega, fun hn H' sm => kE (by rw [hR, hn]) H' sm, fun k0 e0 v0 t0 H0 hk0 he0 hel0 sm0 ht0 hv0 => ?_⟩
      rw [hk0] at hR
      have hR : R = pLoop G ((tl s).drop e0).length ((tl s).drop e0) [k0] := hR
      refine q_gTup (sqT ht0) rfl ?_
      walk_at "my_rd"
      refine q_lstK (Nat.le_of_ble_eq_true rfl) fun f nf => ?_
      have nfH : H f = none := Same.free sm0 nf
      have smf : Same H0 (upd H0 f (.lst [v0])) := Same.new (Same.refl _) nf
      have hf0 : upd H0 f (.lst [v0]) f = some (.lst [v0]) := upd_same
      have hv1 : NV (upd H0 f (.lst [v0])) k0 v0 := NV.mono (fun b ys q => smf _ _ q) hv0
      have smA : Same H (upd H0 f (.lst [v0])) := sm0.trans smf
      generalize upd H0 f (.lst [v0]) = H1 at hf0 hv1 smA
      clear hv0 ht0 smf sm0
      walk_at "my_rd"
      refine q_while (fun n σ H' => ∃ (e g : Nat) (vs : List V) (ks : List NestedKey) (v4 : Option V), σ = [some (.str s), some (.int (p : Nat)), some (.int (dep : Nat)), some (.ref f), v4, some (.int (e : Nat))] ∧ Same H H' ∧ H' f = some (.lst vs) ∧ NVs H' ks vs ∧ p < e ∧ e ≤ (tl s).length ∧ vs.length ≤ e ∧ ((tl s).drop e).length ≤ g ∧ R = pLoop G g ((tl s).drop e) ks ∧ n = (tl s).length - e) (m0 := (tl s).length - e0)
        ⟨e0, _, [v0], [k0], _, rfl, smA, hf0, .cons hv1 .nil, by omega, hel0, by show 1 ≤ e0; omega, Nat.le_refl _, hR, rfl⟩ ?_
      rintro n σ H' ⟨e, g, vs, ks, v4, rfl, sm, hf, hNs, hpe, hel, hvl, hg, hRe, rfl⟩
      walk_at "my_rd"
      refine ⟨s, e, rfl, hs, ?_⟩
      walk_at "my_rd"
      rw [show Str.ofString "," = strL [44] from by decide +kernel, sgn_dec]
      by_cases h44 : ((tl s).drop e).head? = some 44
      · have hlt2 := head_lt h44
        rw [List.length_drop] at hg
        obtain ⟨g, rfl⟩ : ∃ g', g = g' + 1 := ⟨g - 1, by omega⟩
        unfold pLoop at hRe
        rw [if_pos h44, drop_tl] at hRe
        rw [decide_eq_true h44]
        refine q_whT ?_
        walk_at "my_rd"
        refine ⟨s, e + 1, rfl, hs, by omega, fun hn H2 sm2 => kE (by rw [hRe, hn]) H2 (sm.trans sm2), fun k2 e2 v2 t2 H2 hk2 he2 hel2 sm2 ht2 hv2 => ?_⟩
        rw [hk2] at hRe
        have hRe : R = pLoop G g ((tl s).drop e2) (ks ++ [k2]) := hRe
        have hf2 := sm2 _ _ hf
        have hNs2 : NVs H2 ks vs := NVs.mono (fun b ys q => sm2 _ _ q) hNs
        refine q_gTup (sqT ht2) rfl ?_
        walk_at "my_rd"
        refine q_append hf2 (by omega) ?_
        walk_at "my_rd"
        have tp : ∀ b ys, H2 b = some (.tup ys) → upd H2 f (.lst (vs ++ [v2])) b = some (.tup ys) := fun b ys q => upd_other (ne_of q hf2 (by intro z; cases z)) q
        exact ⟨(tl s).length - e2, by omega, e2, g, vs ++ [v2], ks ++ [k2], _, rfl, fun c o hc => upd_other (ne_of_none hc nfH) (sm2 _ _ (sm _ _ hc)), upd_same, NVs.snoc (NV.mono tp hv2) (NVs.mono tp hNs2), by omega, hel2, by rw [List.length_append]; show vs.length + 1 ≤ e2; omega, by rw [List.length_drop]; omega, hRe, rfl⟩
      · rw [pLoop_no h44] at hRe
        rw [decide_eq_false h44]
        refine q_whF ?_
        walk_at "my_rd"
        refine ⟨s, e, rfl, hs, ?_⟩
        walk_at "my_rd"
        rw [sgn_dec]
        by_cases h41 : ((tl s).drop e).head? = some 41
        · have hlt2 := head_lt h41
          rw [decide_eq_true h41]
          rw [if_pos h41, drop_tl] at hRe
          walk_at "my_rd"
          refine q_tupL (sqL hf) fun l nl => ?_
          have sml : Same H' (upd H' l (.tup vs)) := Same.new (Same.refl _) nl
          have hl : upd H' l (.tup vs) l = some (.tup vs) := upd_same
          generalize upd H' l (.tup vs) = H2 at sml hl
          walk_at "my_rd"
          refine q_tupK (Nat.le_of_ble_eq_true rfl) fun t nt => ?_
          have smt : Same H2 (upd H2 t (.tup [.ref l, .int (((e : Nat) : Int) + 1)])) := Same.new (Same.refl _) nt
          exact kQ (.tup ks) (e + 1) (.ref l) t _ hRe (by omega) (by omega) (sm.trans (sml.trans smt)) upd_same (.tup (smt _ _ hl) (NVs.mono (fun b ys q => smt _ _ (sml _ _ q)) hNs))
        · rw [decide_eq_false h41]
          rw [if_neg h41] at hRe
          walk_at "my_rd"
          exact kE hRe _ sm
theorem ok_tower : ∀ (n : Nat), n ≤ 10 → ∀ T : Txt K mg, FnOk P w K mg base (L2.CX P w) (3 + 2 * n) T.f_read_value T.d_read_value ["text", "start", "depth"] (sp_rv T.C_BadNotation (10 - n) (par n))
  | 0, _, T => ok_rv (m := 2) (dep := 10) (by omega) ok_rt_deep T
  | n + 1, h, T => by
    have e : 10 - (n + 1) + 1 = 10 - n := by omega
    have h1 : ∀ T : Txt K mg, FnOk P w K mg base (L2.CX P w) (3 + 2 * n + 1) T.f_read_tuple T.d_read_tuple ["text", "start", "depth"] (sp_rt T.C_BadNotation (10 - (n + 1) + 1) (pTup (par n))) := by
      rw [e]
      exact ok_rt (m := 3 + 2 * n) (by omega) (by omega) (ok_tower n (by omega))
    exact ok_rv (m := 3 + 2 * n + 1) (by omega) h1 T
end
def txC (c : Nat) : Bool := decide (32 ≤ c) && (decide (c ≤ 126) && !decide (c = 37))
def rdT (s : Str) : Option NestedKey := if (tl s).all txC = true then rdL (tl s) else none
def sp_read (C : Addr) : Sp := fun vs H Q E => ∃ s : Str, vs = [.str s] ∧ (tl s).length ≤ 100000 ∧ (rdT s = none → ∀ H', Same H H' → E (.ref C) none H') ∧ ∀ (k : NestedKey) (v : V) (H' : Hp), rdT s = some k → Same H H' → NV H' k v → Q v H'
section
variable {P : Program} {w : World} {K : PySem.W.Frag} {mg : Str → Option Value} {base : Heap}
theorem tx_text (s : Str) : textD (.str s) = (tl s).all txC := by
  show (tl s).all okCode = _
  congr 1
  funext c
  unfold okCode txC
  rw [Bool.and_assoc]
theorem ok_read (T : Txt K mg) : FnOk P w K mg base (L2.CX P w) 24 T.f_read T.d_read ["text"] (sp_read T.C_BadNotation) := by
  have ok_read_value : ∀ T : Txt K mg, FnOk P w K mg base (L2.CX P w) 23 T.f_read_value T.d_read_value ["text", "start", "depth"] (sp_rv T.C_BadNotation 0 (par 10)) := fun T => ok_tower 10 (by omega) T
  refine T.F_read.okX sc_read (fun vs H Q E h => ?_) (fun cdv A outer s H vs Q E hr h => ?_)
  · obtain ⟨s, rfl, _⟩ := h; rfl
  · obtain ⟨s, rfl, hlen, kE, kQ⟩ := h
    have hsl : sizeLine = 16777216 := sizeLine_eq
    refine ⟨_, (pss_cons (ps_if (pt_not (pt_val (pe_call (ok_is_text T) (hr.mono (by decide)) (by rfl) T.g_is_text T.F_is_text.kp T.b_is_text .nil pass0 (pa_cons (pv 0) pa_nil)))) (pss_one (ps_raise rfl (takes_of rfl rfl rfl rfl) (pmk_own PySem.F.excBase_ValueError T.xe_BadNotation T.g_BadNotation T.ke_BadNotation (raises_own T.be_BadNotation T.te_BadNotation) (by exact rfl)))) pss_nil)
      (pss_cons (ps_asg (pe_call (ok_read_value T) (hr.mono (by decide)) (by rfl) T.g_read_value T.F_read_value.kp T.b_read_value .nil (passes_call (takes_of rfl rfl rfl rfl) fun _ _ _ _ h => h) (pa_cons (pv 0) (pa_cons pe_int (pa_cons pe_int pa_nil)))) (pg_tup rfl (pgs_cons (pg_name (i := 1) sc_read.nd rfl (Or.inl rfl)) (pgs_cons (pg_name (i := 2) sc_read.nd rfl (Or.inl rfl)) pgs_nil))))
      (pss_cons (ps_if (pt_cmpR op_ne (pv 2) (pe_callB cq_lenS (by rfl) T.z_len boot_len (pa_cons (pv 0) pa_nil)) (nomark _)) (pss_one (ps_raise rfl (takes_of rfl rfl rfl rfl) (pmk_own PySem.F.excBase_ValueError T.xe_BadNotation T.g_BadNotation T.ke_BadNotation (raises_own T.be_BadNotation T.te_BadNotation) (by exact rfl)))) pss_nil)
      (pss_one (ps_ret (pv 1)))))), ?_⟩
    (dsimp only [cxOf, Cx.nox, Cx.wish, L2.start, List.map, List.length, List.replicate, List.cons_append, List.nil_append, List.append_eq, Nat.reduceSub, Nat.reduceAdd])
    walk_at "my_rd"
    refine ⟨.str s, .str s, rfl, .str s, hlen, fun H1 sm1 => ?_⟩
    rw [tx_text]
    unfold rdT at kE kQ
    by_cases ht : (tl s).all txC = true
    · rw [ht]
      rw [if_pos ht] at kE kQ
      have hs : TxOk s := ⟨fun c hc => by
        have := List.all_eq_true.mp ht c hc
        unfold txC at this
        simp at this
        omega, by omega⟩
      walk_at "my_rd"
      refine ⟨s, 0, rfl, hs, Nat.zero_le _, fun hn H' sm => ?_, fun k e v t H' hk he hel sm htt hv => ?_⟩
      · refine kE ?_ H' (sm1.trans sm)
        rw [List.drop_zero] at hn
        unfold rdL
        rw [hn]
      · rw [List.drop_zero] at hk
        refine q_gTup (sqT htt) rfl ?_
        walk_at "my_rd"
        refine q_lenS (by rw [tl_len]; omega) ?_
        walk_at "my_rd"
        rw [show (s.length : Int) = (((tl s).length : Nat) : Int) from rfl]
        by_cases hz : e = (tl s).length
        · rw [show (!decide (((e : Nat) : Int) = (((tl s).length : Nat) : Int))) = false by simp [hz]]
          walk_at "my_rd"
          refine kQ k v H' ?_ (sm1.trans sm) hv
          unfold rdL
          rw [hk, hz, List.drop_length]
        · rw [show (!decide (((e : Nat) : Int) = (((tl s).length : Nat) : Int))) = true by rw [decide_eq_false (by omega)]; rfl]
          walk_at "my_rd"
          refine kE ?_ H' (sm1.trans sm)
          unfold rdL
          rw [hk, List.drop_eq_getElem_cons (show e < (tl s).length by omega)]
    · rw [Bool.eq_false_iff.mpr ht]
      rw [if_neg ht] at kE
      walk_at "my_rd"
      exact kE rfl _ sm1
end

local macro_rules | `(tactic| walk_at "my_rd") => `(tactic| (repeat first
  | with_reducible refine q_tCons ?_
  | ((with_reducible apply q_var); (focus (exact rfl)))
  | with_reducible refine q_c ?_
  | with_reducible refine q_nx ?_
  | with_reducible refine q_bK ?_
  | with_reducible refine q_call ?_
  | with_reducible refine q_callK ?_
  | with_reducible refine q_tNil ?_
  | with_reducible refine q_cb ?_
  | with_reducible refine q_seq ?_
  | with_reducible refine q_asg ?_
  | with_reducible refine q_gName ?_
  | with_reducible refine q_op ?_
  | with_reducible refine q_test ?_
  | with_reducible refine q_tB ?_
  | with_reducible refine q_ifS ?_
  | with_reducible refine q_ret ?_
  | with_reducible refine q_rt ?_
  | with_reducible refine q_next ?_
  | with_reducible refine q_ifF ?_
  | with_reducible refine q_ifT ?_
  | with_reducible refine q_drop ?_
  | with_reducible refine q_and ?_
  | with_reducible refine q_or ?_
  | with_reducible refine q_andT ?_
  | with_reducible refine q_andF ?_
  | with_reducible refine q_orF ?_
  | with_reducible refine q_orT ?_
  | with_reducible refine q_andV ?_
  | with_reducible refine q_andVT ?_
  | with_reducible refine q_andVF ?_
  | with_reducible refine q_orV ?_
  | with_reducible refine q_gCons ?_
  | with_reducible refine q_gNil ?_
  | with_reducible refine q_tup ?_
  | with_reducible refine q_lst ?_
  | with_reducible refine q_not ?_
  | with_reducible refine q_notKT ?_
  | with_reducible refine q_notKF ?_
  | with_reducible refine q_I0 ?_
  | with_reducible refine q_eqI ?_
  | with_reducible refine q_neI ?_
  | ((with_reducible refine q_I ?_ ?_); first | decide | omega | exact ⟨by omega, by omega⟩ | exact ⟨by decide, by decide⟩ | exact .inl ⟨by omega, by omega⟩ | exact .inr ⟨by omega, by omega⟩ | exact .inr ⟨by decide, by decide⟩)
  | with_reducible refine q_eqS ?_
  | with_reducible refine q_neS ?_
  | with_reducible refine q_brk ?_
  | with_reducible refine q_ct ?_
  | with_reducible refine q_bk ?_
  | with_reducible refine q_cn ?_
  | with_reducible refine q_retN ?_
  | with_reducible refine q_gSub ?_
  | with_reducible refine q_for ?_
  | with_reducible refine q_iList ?_
  | with_reducible refine q_iTup ?_
  | with_reducible refine q_iRng1 ?_
  | with_reducible refine q_notK ?_
  | with_reducible refine q_orVT ?_
  | with_reducible refine q_orVF ?_
  | with_reducible refine q_notV ?_
  | with_reducible refine q_notVK ?_
  | with_reducible refine q_ifE ?_
  | with_reducible refine q_ifET ?_
  | with_reducible refine q_ifEF ?_
  | with_reducible refine q_yes ?_
  | with_reducible refine q_un ?_
  | with_reducible refine q_rU ?_
  | with_reducible refine q_abs ?_
  | with_reducible refine q_int1 ?_
  | with_reducible refine q_bm ?_
  | with_reducible refine q_bm0 ?_
  | with_reducible refine q_lc ?_
  | with_reducible refine q_keepT ?_
  | with_reducible refine q_keepF ?_
  | ((with_reducible apply q_aug); (focus (exact rfl)))
  | with_reducible refine q_ipI ?_
  | with_reducible refine q_chain ?_
  | with_reducible refine q_pairC ?_
  | with_reducible refine q_pairsK ?_
  | with_reducible refine q_pairN ?_
  | with_reducible refine q_fld ?_
  | with_reducible refine q_sFld ?_
  | with_reducible refine q_meth ?_
  | with_reducible refine q_makeK ?_
  | with_reducible refine q_isBl ?_
  | with_reducible refine q_notBl ?_
  | with_reducible refine q_sl ?_
  | with_reducible refine q_noPart ?_
  | with_reducible refine q_part ?_
  | with_reducible refine q_partK ?_
  | ((with_reducible apply q_mulStr); (focus (decide +kernel)))
  | with_reducible refine q_chT ?_
  | with_reducible refine q_chF ?_
  | with_reducible refine q_ord ?_
  | with_reducible refine q_iStr0 ?_
  | with_reducible refine q_iStr ?_
  | with_reducible refine q_tDIn ?_
  | with_reducible refine q_tDNotIn ?_
  | with_reducible refine q_tDGet ?_
  | with_reducible refine q_tDGet2 ?_
  | with_reducible refine q_tDGet1 ?_
  | with_reducible refine q_tDSetd ?_
  | ((with_reducible apply q_dG2a); (focus ((repeat first | (with_reducible exact upd_same) | (with_reducible assumption) | (with_reducible apply upd_new (by assumption)) | (with_reducible apply upd_other (by first | assumption | exact Ne.symm (by assumption))) | (with_reducible refine' Kp.get (by assumption) ?_ (by first | assumption | exact Ne.symm (by assumption))) | (with_reducible apply Same.get (by assumption))); done)))
  | ((with_reducible apply q_dSda); (focus ((repeat first | (with_reducible exact upd_same) | (with_reducible assumption) | (with_reducible apply upd_new (by assumption)) | (with_reducible apply upd_other (by first | assumption | exact Ne.symm (by assumption))) | (with_reducible refine' Kp.get (by assumption) ?_ (by first | assumption | exact Ne.symm (by assumption))) | (with_reducible apply Same.get (by assumption))); done)))
  | with_reducible refine q_sDPut ?_
  | ((with_reducible apply q_dInS); (focus ((repeat first | (with_reducible exact upd_same) | (with_reducible assumption) | (with_reducible apply upd_new (by assumption)) | (with_reducible apply upd_other (by first | assumption | exact Ne.symm (by assumption))) | (with_reducible refine' Kp.get (by assumption) ?_ (by first | assumption | exact Ne.symm (by assumption))) | (with_reducible apply Same.get (by assumption))); done)))
  | ((with_reducible apply q_dNInS); (focus ((repeat first | (with_reducible exact upd_same) | (with_reducible assumption) | (with_reducible apply upd_new (by assumption)) | (with_reducible apply upd_other (by first | assumption | exact Ne.symm (by assumption))) | (with_reducible refine' Kp.get (by assumption) ?_ (by first | assumption | exact Ne.symm (by assumption))) | (with_reducible apply Same.get (by assumption))); done)))
  | ((with_reducible apply q_dInI); (focus ((repeat first | (with_reducible exact upd_same) | (with_reducible assumption) | (with_reducible apply upd_new (by assumption)) | (with_reducible apply upd_other (by first | assumption | exact Ne.symm (by assumption))) | (with_reducible refine' Kp.get (by assumption) ?_ (by first | assumption | exact Ne.symm (by assumption))) | (with_reducible apply Same.get (by assumption))); done)))
  | ((with_reducible apply q_dNInI); (focus ((repeat first | (with_reducible exact upd_same) | (with_reducible assumption) | (with_reducible apply upd_new (by assumption)) | (with_reducible apply upd_other (by first | assumption | exact Ne.symm (by assumption))) | (with_reducible refine' Kp.get (by assumption) ?_ (by first | assumption | exact Ne.symm (by assumption))) | (with_reducible apply Same.get (by assumption))); done)))
  | ((with_reducible apply q_bmL); (focus ((repeat first | (with_reducible exact upd_same) | (with_reducible assumption) | (with_reducible apply upd_new (by assumption)) | (with_reducible apply upd_other (by first | assumption | exact Ne.symm (by assumption))) | (with_reducible refine' Kp.get (by assumption) ?_ (by first | assumption | exact Ne.symm (by assumption))) | (with_reducible apply Same.get (by assumption))); done)))
  | ((with_reducible apply q_bmL0); (focus ((repeat first | (with_reducible exact upd_same) | (with_reducible assumption) | (with_reducible apply upd_new (by assumption)) | (with_reducible apply upd_other (by first | assumption | exact Ne.symm (by assumption))) | (with_reducible refine' Kp.get (by assumption) ?_ (by first | assumption | exact Ne.symm (by assumption))) | (with_reducible apply Same.get (by assumption))); done)))
  | ((with_reducible apply q_ixLt); (focus ((repeat first | (with_reducible exact upd_same) | (with_reducible assumption) | (with_reducible apply upd_new (by assumption)) | (with_reducible apply upd_other (by first | assumption | exact Ne.symm (by assumption))) | (with_reducible refine' Kp.get (by assumption) ?_ (by first | assumption | exact Ne.symm (by assumption))) | (with_reducible apply Same.get (by assumption))); done)); (focus (exact rfl)))
  | ((with_reducible apply q_ixTt); (focus ((repeat first | (with_reducible exact upd_same) | (with_reducible assumption) | (with_reducible apply upd_new (by assumption)) | (with_reducible apply upd_other (by first | assumption | exact Ne.symm (by assumption))) | (with_reducible refine' Kp.get (by assumption) ?_ (by first | assumption | exact Ne.symm (by assumption))) | (with_reducible apply Same.get (by assumption))); done)); (focus (exact rfl)))
  | ((with_reducible apply q_lenLt); (focus ((repeat first | (with_reducible exact upd_same) | (with_reducible assumption) | (with_reducible apply upd_new (by assumption)) | (with_reducible apply upd_other (by first | assumption | exact Ne.symm (by assumption))) | (with_reducible refine' Kp.get (by assumption) ?_ (by first | assumption | exact Ne.symm (by assumption))) | (with_reducible apply Same.get (by assumption))); done)))
  | ((with_reducible apply q_lenTt); (focus ((repeat first | (with_reducible exact upd_same) | (with_reducible assumption) | (with_reducible apply upd_new (by assumption)) | (with_reducible apply upd_other (by first | assumption | exact Ne.symm (by assumption))) | (with_reducible refine' Kp.get (by assumption) ?_ (by first | assumption | exact Ne.symm (by assumption))) | (with_reducible apply Same.get (by assumption))); done)))
  | ((with_reducible apply q_append); (focus ((repeat first | (with_reducible exact upd_same) | (with_reducible assumption) | (with_reducible apply upd_new (by assumption)) | (with_reducible apply upd_other (by first | assumption | exact Ne.symm (by assumption))) | (with_reducible refine' Kp.get (by assumption) ?_ (by first | assumption | exact Ne.symm (by assumption))) | (with_reducible apply Same.get (by assumption))); done)); (focus ((first | (exact Nat.lt_of_ble_eq_true rfl) | (simp only [List.length_append, List.length_cons, List.length_nil, List.length_map]; exact small1000 (by omega))))))
  | ((with_reducible apply q_setL); (focus ((repeat first | (with_reducible exact upd_same) | (with_reducible assumption) | (with_reducible apply upd_new (by assumption)) | (with_reducible apply upd_other (by first | assumption | exact Ne.symm (by assumption))) | (with_reducible refine' Kp.get (by assumption) ?_ (by first | assumption | exact Ne.symm (by assumption))) | (with_reducible apply Same.get (by assumption))); done)); (focus (exact rfl)))
  | with_reducible refine q_ifNT ?_
  | with_reducible refine q_ifNF ?_
  | with_reducible refine q_andNT ?_
  | with_reducible refine q_andNF ?_
  | with_reducible refine q_orNT ?_
  | with_reducible refine q_orNF ?_
  | with_reducible refine q_bKNT ?_
  | with_reducible refine q_bKNF ?_
  | with_reducible refine q_tNGet ?_
  | with_reducible refine q_tNIn ?_
  | with_reducible refine q_sNPut ?_
  | with_reducible refine q_sFldAug ?_
  | with_reducible refine q_sDAug ?_
  | with_reducible refine q_sDDel ?_
  | with_reducible refine q_forX ?_
  | with_reducible refine q_tMake ?_
  | ((with_reducible apply q_dG1a); (focus ((repeat first | (with_reducible exact upd_same) | (with_reducible assumption) | (with_reducible apply upd_new (by assumption)) | (with_reducible apply upd_other (by first | assumption | exact Ne.symm (by assumption))) | (with_reducible refine' Kp.get (by assumption) ?_ (by first | assumption | exact Ne.symm (by assumption))) | (with_reducible apply Same.get (by assumption))); done)))))
open TL
/-! letters as keys and as data -/
mutual
theorem NV.tdp {K : PySem.W.Frag} {H : Hp} : ∀ {k : NestedKey} {v : V}, NV H k v → TupDp K H v k.data
  | _, _, .non => by simp only [NestedKey.data]; exact .non
  | _, _, .int i => by simp only [NestedKey.data]; exact .int i
  | _, _, .str x => by simp only [NestedKey.data]; exact .str x
  | _, _, .tup h hs => by simp only [NestedKey.data]; exact .tup h (NVs.tdps hs)
theorem NVs.tdps {K : PySem.W.Frag} {H : Hp} : ∀ {ks : List NestedKey} {vs : List V}, NVs H ks vs → TupAll K H vs (NestedKey.datas ks)
  | _, _, .nil => by simp only [NestedKey.datas]; exact .nil
  | _, _, .cons a b => by simp only [NestedKey.datas]; exact .cons (NV.tdp a) (NVs.tdps b)
end
mutual
theorem key_eqv : ∀ a b : NestedKey, PyData.eqv a.data b.data = NestedKey.beq a b
  | .none, .none => by simp [NestedKey.data, NestedKey.beq, PyData.eqv]
  | .num a, .num b => by simp only [NestedKey.data, NestedKey.beq, PyData.eqv]; exact Bool.eq_iff_iff.mpr (by simp)
  | .text a, .text b => by simp only [NestedKey.data, NestedKey.beq, PyData.eqv]; exact Bool.eq_iff_iff.mpr (by simp)
  | .tup a, .tup b => by simp only [NestedKey.data, NestedKey.beq, PyData.eqv]; exact keys_eqv a b
  | .none, .num _ => by simp [NestedKey.data, NestedKey.beq, PyData.eqv]
  | .none, .text _ => by simp [NestedKey.data, NestedKey.beq, PyData.eqv]
  | .none, .tup _ => by simp [NestedKey.data, NestedKey.beq, PyData.eqv]
  | .num _, .none => by simp [NestedKey.data, NestedKey.beq, PyData.eqv]
  | .num _, .text _ => by simp [NestedKey.data, NestedKey.beq, PyData.eqv]
  | .num _, .tup _ => by simp [NestedKey.data, NestedKey.beq, PyData.eqv]
  | .text _, .none => by simp [NestedKey.data, NestedKey.beq, PyData.eqv]
  | .text _, .num _ => by simp [NestedKey.data, NestedKey.beq, PyData.eqv]
  | .text _, .tup _ => by simp [NestedKey.data, NestedKey.beq, PyData.eqv]
  | .tup _, .none => by simp [NestedKey.data, NestedKey.beq, PyData.eqv]
  | .tup _, .num _ => by simp [NestedKey.data, NestedKey.beq, PyData.eqv]
  | .tup _, .text _ => by simp [NestedKey.data, NestedKey.beq, PyData.eqv]
theorem keys_eqv : ∀ a b : List NestedKey, PyData.eqvAll (NestedKey.datas a) (NestedKey.datas b) = NestedKey.beqAll a b
  | [], [] => by simp [NestedKey.datas, NestedKey.beqAll, PyData.eqvAll]
  | [], _ :: _ => by simp [NestedKey.datas, NestedKey.beqAll, PyData.eqvAll]
  | _ :: _, [] => by simp [NestedKey.datas, NestedKey.beqAll, PyData.eqvAll]
  | x :: xs, y :: ys => by simp only [NestedKey.datas, NestedKey.beqAll, PyData.eqvAll]; rw [key_eqv x y, keys_eqv xs ys]
end
theorem key_dec (a b : NestedKey) : PyData.eqv a.data b.data = decide (a = b) := by rw [key_eqv, NestedKey.decide_eq]
theorem lays {α : Type} (f : α → PyData) (n : Nat) : ∀ xs : List α, (∀ x ∈ xs, (f x).canLay0 = true ∧ (f x).depth ≤ n) → PyData.canLayAll0 (xs.map f) = true ∧ PyData.depthAll (xs.map f) ≤ n
  | [], _ => ⟨by simp [PyData.canLayAll0], by simp [PyData.depthAll]⟩
  | x :: r, h => by
    obtain ⟨h1, h2⟩ := lays f n r fun y hy => h y (List.mem_cons_of_mem _ hy)
    obtain ⟨h3, h4⟩ := h x List.mem_cons_self
    exact ⟨by simp [PyData.canLayAll0, h1, h3], by simp only [List.map_cons, PyData.depthAll]; omega⟩
theorem shaped_of {d : PyData} (h1 : d.canLay0 = true) (h2 : d.depth ≤ 60) : SeqAt.shaped d = true := by
  show (d.canLay0 && decide (d.depth ≤ 64)) = true
  rw [h1, Bool.true_and, decide_eq_true_eq]
  omega
theorem shaped_l {α : Type} (f : α → PyData) (n : Nat) (hn : n ≤ 50) (xs : List α) (h : ∀ x ∈ xs, (f x).canLay0 = true ∧ (f x).depth ≤ n) : SeqAt.shaped (.list (xs.map f)) = true := by
  obtain ⟨h1, h2⟩ := lays f n xs h
  exact shaped_of (by simp only [PyData.canLay0]; exact h1) (by simp only [PyData.depth]; omega)
mutual
theorem key_depth : ∀ k : NestedKey, k.data.depth = k.depth
  | .none => by simp [NestedKey.data, NestedKey.depth, PyData.depth]
  | .num _ => by simp [NestedKey.data, NestedKey.depth, PyData.depth]
  | .text _ => by simp [NestedKey.data, NestedKey.depth, PyData.depth]
  | .tup ks => by simp only [NestedKey.data, NestedKey.depth, PyData.depth]; rw [keys_depth ks]
theorem keys_depth : ∀ ks : List NestedKey, PyData.depthAll (NestedKey.datas ks) = NestedKey.depthAll ks
  | [] => by simp [NestedKey.datas, NestedKey.depthAll, PyData.depthAll]
  | k :: r => by simp only [NestedKey.datas, NestedKey.depthAll, PyData.depthAll]; rw [key_depth k, keys_depth r]
end

/-! letters read -/
def sp_rlet (K : PySem.W.Frag) (C : Addr) : Sp := fun vs H Q E => ∃ s : Str, vs = [.str s] ∧ (tl s).length ≤ 100000 ∧ (∀ k, rdT s = some k → FineG k.data) ∧ (rdT s = none → ∀ H', Same H H' → E (.ref C) none H') ∧ (∀ k, rdT s = some k → letterD k.data = false → ∀ H', Same H H' → E (.ref C) none H') ∧
  ∀ (k : NestedKey) (v : V) (H' : Hp), rdT s = some k → letterD k.data = true → Same H H' → NV H' k v → Q v H'
def sp_Lref (K : PySem.W.Frag) : Sp := fun vs H Q _ => ∃ (s : Str) (k : NestedKey), vs = [.str s] ∧ (tl s).length ≤ 100000 ∧ rdT s = some k ∧ FineG k.data ∧ letterD k.data = false ∧ ∀ H', Same H H' → Q (.bl true) H'
section
variable {P : Program} {w : World} {K : PySem.W.Frag} {mg : Str → Option Value} {base : Heap}
theorem ok_read_letter (T : Txt K mg) : FnOk P w K mg base (L2.CX P w) 25 T.f_read_letter T.d_read_letter ["text"] (sp_rlet K T.C_BadNotation) := by
  refine T.F_read_letter.okX sc_read_letter (fun vs H Q E h => ?_) (fun cdv A outer s H vs Q E hr h => ?_)
  · obtain ⟨s, rfl, _⟩ := h; rfl
  · obtain ⟨s, rfl, hlen, hF, kN, kE, kQ⟩ := h
    refine ⟨_, (pss_cons (ps_set (i := 1) sc_read_letter.nd rfl (Or.inl rfl) (pe_call (ok_read T) (hr.mono (by decide)) (by rfl) T.g_read T.F_read.kp T.b_read .nil (passes_call (takes_of rfl rfl rfl rfl) fun _ _ _ _ h => h) (pa_cons (pv 0) pa_nil)))
      (pss_cons (ps_if (pt_not (pt_val (pe_call (ok_is_letter T) (hr.mono (by decide)) (by rfl) T.g_is_letter T.F_is_letter.kp T.b_is_letter .nil pass0 (pa_cons (pv 1) pa_nil)))) (pss_one (ps_raise rfl (takes_of rfl rfl rfl rfl) (pmk_own PySem.F.excBase_ValueError T.xe_BadNotation T.g_BadNotation T.ke_BadNotation (raises_own T.be_BadNotation T.te_BadNotation) (by exact rfl)))) pss_nil)
      (pss_one (ps_ret (pv 1))))), ?_⟩
    (dsimp only [cxOf, Cx.nox, Cx.wish, L2.start, List.map, List.length, List.replicate, List.cons_append, List.nil_append, List.append_eq, Nat.reduceSub, Nat.reduceAdd])
    walk_at "my_rd"
    refine ⟨s, rfl, hlen, kN, fun k v H1 hk sm1 hv => ?_⟩
    walk_at "my_rd"
    refine ⟨v, k.data, rfl, (NV.tdp hv).dp, hF k hk, fun H2 sm2 => ?_⟩
    cases hl : letterD k.data with
    | false =>
      walk_at "my_rd"
      exact kE k hk hl H2 (sm1.trans sm2)
    | true =>
      walk_at "my_rd"
      exact kQ k v H2 hk hl (sm1.trans sm2) (NV.mono (fun b ys q => sm2 _ _ q) hv)
theorem ok_L_refused (T : Txt K mg) : FnOk P w K mg base CX0 26 T.f_L_refused T.d_L_refused ["text"] (sp_Lref K) := by
  refine T.F_L_refused.ok sc_L_refused (fun vs H Q E h => ?_) (fun cdv A outer s H vs Q E hr h => ?_)
  · obtain ⟨s, k, rfl, _⟩ := h; rfl
  · obtain ⟨s, k, rfl, hlen, hk, hF, hl, kk⟩ := h
    refine ⟨_, (pss_cons (ps_try_as (i := 1) rfl rfl sc_L_refused.nd rfl rfl ⟨rfl, by decide, .inl T.g_BridgeError⟩ takes0 (fun W pn xe tk _ => (pss_one (ps_expr (pe_callS (ok_read_letter T) (hr.mono (by decide)) (by rfl) T.g_read_letter T.F_read_letter.kp T.b_read_letter (fun σ => passAt tk σ) (pa_cons (pv 0) pa_nil)))))
      (fun a oe cls d pn hz hf => (pss_cls (C := T.C_BadNotation) hz fun hz => (pss_one (ps_ret (pe_callB (call_isE (T.ec_BadNotation) hz hf) (by rfl) T.z_isinstance boot_isinstance (pa_cons (pv 1) (pa_cons (pe_glob (v := .ref T.C_BadNotation) (by rfl) T.g_BadNotation rfl) pa_nil))))))))
      (pss_one (ps_ret pe_bl))), ?_⟩
    (dsimp only [cxOf, Cx.nox, Cx.wish, L2.start, List.map, List.length, List.replicate, List.cons_append, List.nil_append, List.append_eq, Nat.reduceSub, Nat.reduceAdd])
    walk_at "my_rd"
    refine q_callS ?_
    walk_at "my_rd"
    refine ⟨s, rfl, hlen, fun k2 h2 => by rw [Option.some.inj (h2.symm.trans hk)]; exact hF, fun hn => absurd (hn.symm.trans hk) (by intro z; cases z), fun k2 _ _ H1 sm => ⟨true, T.ex_BadNotation, fun _ b hb => ⟨⟨rfl, rfl⟩, ?_⟩, fun q => nomatch q⟩, fun k2 v H1 h2 hl2 => absurd hl2 (by rw [Option.some.inj (h2.symm.trans hk), hl]; exact Bool.false_ne_true)⟩
    walk_at "my_rd"
    refine q_isE T.hi_BadNotation ?_
    walk_at "my_rd"
    exact kk H1 sm
end

local macro_rules | `(tactic| walk_at "my_rd") => `(tactic| (repeat first
  | with_reducible refine q_tCons ?_
  | ((with_reducible apply q_var); (focus (exact rfl)))
  | with_reducible refine q_c ?_
  | with_reducible refine q_nx ?_
  | with_reducible refine q_bK ?_
  | with_reducible refine q_call ?_
  | with_reducible refine q_callK ?_
  | with_reducible refine q_tNil ?_
  | with_reducible refine q_cb ?_
  | with_reducible refine q_seq ?_
  | with_reducible refine q_asg ?_
  | with_reducible refine q_gName ?_
  | with_reducible refine q_op ?_
  | with_reducible refine q_test ?_
  | with_reducible refine q_tB ?_
  | with_reducible refine q_ifS ?_
  | with_reducible refine q_ret ?_
  | with_reducible refine q_rt ?_
  | with_reducible refine q_next ?_
  | with_reducible refine q_ifF ?_
  | with_reducible refine q_ifT ?_
  | with_reducible refine q_drop ?_
  | with_reducible refine q_and ?_
  | with_reducible refine q_or ?_
  | with_reducible refine q_andT ?_
  | with_reducible refine q_andF ?_
  | with_reducible refine q_orF ?_
  | with_reducible refine q_orT ?_
  | with_reducible refine q_andV ?_
  | with_reducible refine q_andVT ?_
  | with_reducible refine q_andVF ?_
  | with_reducible refine q_orV ?_
  | with_reducible refine q_gCons ?_
  | with_reducible refine q_gNil ?_
  | with_reducible refine q_tup ?_
  | with_reducible refine q_lst ?_
  | with_reducible refine q_not ?_
  | with_reducible refine q_notKT ?_
  | with_reducible refine q_notKF ?_
  | with_reducible refine q_I0 ?_
  | with_reducible refine q_eqI ?_
  | with_reducible refine q_neI ?_
  | ((with_reducible refine q_I ?_ ?_); first | decide | omega | exact ⟨by omega, by omega⟩ | exact ⟨by decide, by decide⟩ | exact .inl ⟨by omega, by omega⟩ | exact .inr ⟨by omega, by omega⟩ | exact .inr ⟨by decide, by decide⟩)
  | with_reducible refine q_eqS ?_
  | with_reducible refine q_neS ?_
  | with_reducible refine q_brk ?_
  | with_reducible refine q_ct ?_
  | with_reducible refine q_bk ?_
  | with_reducible refine q_cn ?_
  | with_reducible refine q_retN ?_
  | with_reducible refine q_gSub ?_
  | with_reducible refine q_for ?_
  | with_reducible refine q_iList ?_
  | with_reducible refine q_iTup ?_
  | with_reducible refine q_iRng1 ?_
  | with_reducible refine q_notK ?_
  | with_reducible refine q_orVT ?_
  | with_reducible refine q_orVF ?_
  | with_reducible refine q_notV ?_
  | with_reducible refine q_notVK ?_
  | with_reducible refine q_ifE ?_
  | with_reducible refine q_ifET ?_
  | with_reducible refine q_ifEF ?_
  | with_reducible refine q_yes ?_
  | with_reducible refine q_un ?_
  | with_reducible refine q_rU ?_
  | with_reducible refine q_abs ?_
  | with_reducible refine q_int1 ?_
  | with_reducible refine q_bm ?_
  | with_reducible refine q_bm0 ?_
  | with_reducible refine q_lc ?_
  | with_reducible refine q_keepT ?_
  | with_reducible refine q_keepF ?_
  | ((with_reducible apply q_aug); (focus (exact rfl)))
  | with_reducible refine q_ipI ?_
  | with_reducible refine q_chain ?_
  | with_reducible refine q_pairC ?_
  | with_reducible refine q_pairsK ?_
  | with_reducible refine q_pairN ?_
  | with_reducible refine q_fld ?_
  | with_reducible refine q_sFld ?_
  | with_reducible refine q_meth ?_
  | with_reducible refine q_makeK ?_
  | with_reducible refine q_isBl ?_
  | with_reducible refine q_notBl ?_
  | with_reducible refine q_sl ?_
  | with_reducible refine q_noPart ?_
  | with_reducible refine q_part ?_
  | with_reducible refine q_partK ?_
  | ((with_reducible apply q_mulStr); (focus (decide +kernel)))
  | with_reducible refine q_chT ?_
  | with_reducible refine q_chF ?_
  | with_reducible refine q_ord ?_
  | with_reducible refine q_iStr0 ?_
  | with_reducible refine q_iStr ?_
  | with_reducible refine q_tDIn ?_
  | with_reducible refine q_tDNotIn ?_
  | with_reducible refine q_tDGet ?_
  | with_reducible refine q_tDGet2 ?_
  | with_reducible refine q_tDGet1 ?_
  | with_reducible refine q_tDSetd ?_
  | ((with_reducible apply q_dG2a); (focus ((repeat first | (with_reducible exact upd_same) | (with_reducible assumption) | (with_reducible apply upd_new (by assumption)) | (with_reducible apply upd_other (by first | assumption | exact Ne.symm (by assumption))) | (with_reducible refine' Kp.get (by assumption) ?_ (by first | assumption | exact Ne.symm (by assumption))) | (with_reducible apply Same.get (by assumption))); done)))
  | ((with_reducible apply q_dSda); (focus ((repeat first | (with_reducible exact upd_same) | (with_reducible assumption) | (with_reducible apply upd_new (by assumption)) | (with_reducible apply upd_other (by first | assumption | exact Ne.symm (by assumption))) | (with_reducible refine' Kp.get (by assumption) ?_ (by first | assumption | exact Ne.symm (by assumption))) | (with_reducible apply Same.get (by assumption))); done)))
  | with_reducible refine q_sDPut ?_
  | ((with_reducible apply q_dInS); (focus ((repeat first | (with_reducible exact upd_same) | (with_reducible assumption) | (with_reducible apply upd_new (by assumption)) | (with_reducible apply upd_other (by first | assumption | exact Ne.symm (by assumption))) | (with_reducible refine' Kp.get (by assumption) ?_ (by first | assumption | exact Ne.symm (by assumption))) | (with_reducible apply Same.get (by assumption))); done)))
  | ((with_reducible apply q_dNInS); (focus ((repeat first | (with_reducible exact upd_same) | (with_reducible assumption) | (with_reducible apply upd_new (by assumption)) | (with_reducible apply upd_other (by first | assumption | exact Ne.symm (by assumption))) | (with_reducible refine' Kp.get (by assumption) ?_ (by first | assumption | exact Ne.symm (by assumption))) | (with_reducible apply Same.get (by assumption))); done)))
  | ((with_reducible apply q_dInI); (focus ((repeat first | (with_reducible exact upd_same) | (with_reducible assumption) | (with_reducible apply upd_new (by assumption)) | (with_reducible apply upd_other (by first | assumption | exact Ne.symm (by assumption))) | (with_reducible refine' Kp.get (by assumption) ?_ (by first | assumption | exact Ne.symm (by assumption))) | (with_reducible apply Same.get (by assumption))); done)))
  | ((with_reducible apply q_dNInI); (focus ((repeat first | (with_reducible exact upd_same) | (with_reducible assumption) | (with_reducible apply upd_new (by assumption)) | (with_reducible apply upd_other (by first | assumption | exact Ne.symm (by assumption))) | (with_reducible refine' Kp.get (by assumption) ?_ (by first | assumption | exact Ne.symm (by assumption))) | (with_reducible apply Same.get (by assumption))); done)))
  | ((with_reducible apply q_bmL); (focus ((repeat first | (with_reducible exact upd_same) | (with_reducible assumption) | (with_reducible apply upd_new (by assumption)) | (with_reducible apply upd_other (by first | assumption | exact Ne.symm (by assumption))) | (with_reducible refine' Kp.get (by assumption) ?_ (by first | assumption | exact Ne.symm (by assumption))) | (with_reducible apply Same.get (by assumption))); done)))
  | ((with_reducible apply q_bmL0); (focus ((repeat first | (with_reducible exact upd_same) | (with_reducible assumption) | (with_reducible apply upd_new (by assumption)) | (with_reducible apply upd_other (by first | assumption | exact Ne.symm (by assumption))) | (with_reducible refine' Kp.get (by assumption) ?_ (by first | assumption | exact Ne.symm (by assumption))) | (with_reducible apply Same.get (by assumption))); done)))
  | ((with_reducible apply q_ixLt); (focus ((repeat first | (with_reducible exact upd_same) | (with_reducible assumption) | (with_reducible apply upd_new (by assumption)) | (with_reducible apply upd_other (by first | assumption | exact Ne.symm (by assumption))) | (with_reducible refine' Kp.get (by assumption) ?_ (by first | assumption | exact Ne.symm (by assumption))) | (with_reducible apply Same.get (by assumption))); done)); (focus (exact rfl)))
  | ((with_reducible apply q_ixTt); (focus ((repeat first | (with_reducible exact upd_same) | (with_reducible assumption) | (with_reducible apply upd_new (by assumption)) | (with_reducible apply upd_other (by first | assumption | exact Ne.symm (by assumption))) | (with_reducible refine' Kp.get (by assumption) ?_ (by first | assumption | exact Ne.symm (by assumption))) | (with_reducible apply Same.get (by assumption))); done)); (focus (exact rfl)))
  | ((with_reducible apply q_lenLt); (focus ((repeat first | (with_reducible exact upd_same) | (with_reducible assumption) | (with_reducible apply upd_new (by assumption)) | (with_reducible apply upd_other (by first | assumption | exact Ne.symm (by assumption))) | (with_reducible refine' Kp.get (by assumption) ?_ (by first | assumption | exact Ne.symm (by assumption))) | (with_reducible apply Same.get (by assumption))); done)))
  | ((with_reducible apply q_lenTt); (focus ((repeat first | (with_reducible exact upd_same) | (with_reducible assumption) | (with_reducible apply upd_new (by assumption)) | (with_reducible apply upd_other (by first | assumption | exact Ne.symm (by assumption))) | (with_reducible refine' Kp.get (by assumption) ?_ (by first | assumption | exact Ne.symm (by assumption))) | (with_reducible apply Same.get (by assumption))); done)))
  | ((with_reducible apply q_append); (focus ((repeat first | (with_reducible exact upd_same) | (with_reducible assumption) | (with_reducible apply upd_new (by assumption)) | (with_reducible apply upd_other (by first | assumption | exact Ne.symm (by assumption))) | (with_reducible refine' Kp.get (by assumption) ?_ (by first | assumption | exact Ne.symm (by assumption))) | (with_reducible apply Same.get (by assumption))); done)); (focus ((first | (exact Nat.lt_of_ble_eq_true rfl) | (simp only [List.length_append, List.length_cons, List.length_nil, List.length_map]; exact small1000 (by omega))))))
  | ((with_reducible apply q_setL); (focus ((repeat first | (with_reducible exact upd_same) | (with_reducible assumption) | (with_reducible apply upd_new (by assumption)) | (with_reducible apply upd_other (by first | assumption | exact Ne.symm (by assumption))) | (with_reducible refine' Kp.get (by assumption) ?_ (by first | assumption | exact Ne.symm (by assumption))) | (with_reducible apply Same.get (by assumption))); done)); (focus (exact rfl)))
  | with_reducible refine q_ifNT ?_
  | with_reducible refine q_ifNF ?_
  | with_reducible refine q_andNT ?_
  | with_reducible refine q_andNF ?_
  | with_reducible refine q_orNT ?_
  | with_reducible refine q_orNF ?_
  | with_reducible refine q_bKNT ?_
  | with_reducible refine q_bKNF ?_
  | with_reducible refine q_tNGet ?_
  | with_reducible refine q_tNIn ?_
  | with_reducible refine q_sNPut ?_
  | with_reducible refine q_sFldAug ?_
  | with_reducible refine q_sDAug ?_
  | with_reducible refine q_sDDel ?_
  | with_reducible refine q_forX ?_
  | with_reducible refine q_tMake ?_
  | ((with_reducible apply q_dG1a); (focus ((repeat first | (with_reducible exact upd_same) | (with_reducible assumption) | (with_reducible apply upd_new (by assumption)) | (with_reducible apply upd_other (by first | assumption | exact Ne.symm (by assumption))) | (with_reducible refine' Kp.get (by assumption) ?_ (by first | assumption | exact Ne.symm (by assumption))) | (with_reducible apply Same.get (by assumption))); done)))))
open TL
/-! keys of data -/
mutual
theorem NV.of {K : PySem.W.Frag} {H : Hp} : ∀ (k : NestedKey) (v : V), TupDp K H v k.data → NV H k v
  | .none, v, h => by simp only [NestedKey.data] at h; cases h; exact .non
  | .num i, v, h => by simp only [NestedKey.data] at h; cases h; exact .int i
  | .text x, v, h => by simp only [NestedKey.data] at h; cases h; exact .str x
  | .tup ks, v, h => by simp only [NestedKey.data] at h; cases h with | tup h1 h2 => exact .tup h1 (NVs.of ks _ h2)
theorem NVs.of {K : PySem.W.Frag} {H : Hp} : ∀ (ks : List NestedKey) (vs : List V), TupAll K H vs (NestedKey.datas ks) → NVs H ks vs
  | [], vs, h => by simp only [NestedKey.datas] at h; cases h; exact .nil
  | k :: r, vs, h => by simp only [NestedKey.datas] at h; cases h with | cons h1 h2 => exact .cons (NV.of k _ h1) (NVs.of r _ h2)
end
def gk (g : Str × Int) : NestedKey := .tup [.text g.1, .num g.2]
theorem gk_data (g : Str × Int) : (gk g).data = prd g := by simp [gk, prd, NestedKey.data, NestedKey.datas]
theorem gks_data : ∀ gs : Gs, NestedKey.datas (gs.map gk) = gs.map prd
  | [] => by simp [NestedKey.datas]
  | g :: gs => by simp only [List.map_cons, NestedKey.datas]; rw [gk_data, gks_data gs]
def Tr.key (x : Tr) : NestedKey := .tup [.text x.tok, .num x.units, .num x.fee, .text x.snd, .text x.rcv, .num x.dl]
theorem Tr.key_data (x : Tr) : x.key.data = x.d := by simp [Tr.key, Tr.d, NestedKey.data, NestedKey.datas]

/-! values of the law, as keys -/
mutual
def nk : Nat → NestedKey → Bool
  | _, .none => false
  | _, .num i => decide (i.natAbs < 10 ^ 40)
  | _, .text s => decide (s.length ≤ 100) && ((tl s).all txC && !decide (s = "bundle"))
  | n, .tup ks => decide (0 < n) && (decide (ks.length ≤ 8) && nks (n - 1) ks)
def nks : Nat → List NestedKey → Bool
  | _, [] => true
  | n, k :: ks => nk n k && nks n ks
end
theorem nk_num {n : Nat} {i : Int} : nk n (.num i) = decide (i.natAbs < 10 ^ 40) := by unfold nk; rfl
theorem nk_text {n : Nat} {s : Str} : nk n (.text s) = (decide (s.length ≤ 100) && ((tl s).all txC && !decide (s = "bundle"))) := by unfold nk; rfl
theorem nk_tup {n : Nat} {ks : List NestedKey} : nk n (.tup ks) = (decide (0 < n) && (decide (ks.length ≤ 8) && nks (n - 1) ks)) := by rw [nk]
theorem nks_cons {n : Nat} {k : NestedKey} {ks : List NestedKey} : nks n (k :: ks) = (nk n k && nks n ks) := by rw [nks]
theorem nks_nil {n : Nat} : nks n [] = true := by unfold nks; rfl
theorem nk_none {n : Nat} (h : nk n .none = true) : False := by unfold nk at h; cases h
mutual
theorem nk_vk : ∀ (k : NestedKey) {n : Nat}, nk n k = true → vk n k = true
  | .none, _, h => (nk_none h).elim
  | .num i, _, h => by rw [nk_num] at h; unfold vk; exact h
  | .text s, _, h => by
    rw [nk_text, Bool.and_eq_true, decide_eq_true_eq] at h
    unfold vk
    exact decide_eq_true (Nat.lt_of_le_of_lt h.1 (by decide))
  | .tup ks, n, h => by
    rw [nk_tup, Bool.and_eq_true, Bool.and_eq_true] at h
    unfold vk
    rw [h.1, nks_vks ks h.2.2]
    rfl
theorem nks_vks : ∀ (ks : List NestedKey) {n : Nat}, nks n ks = true → vks n ks = true
  | [], _, _ => by unfold vks; rfl
  | k :: ks, _, h => by
    rw [nks_cons, Bool.and_eq_true] at h
    unfold vks
    rw [nk_vk k h.1, nks_vks ks h.2]
    rfl
end
mutual
theorem nk_mono : ∀ (k : NestedKey) {m n : Nat}, m ≤ n → nk m k = true → nk n k = true
  | .none, _, _, _, h => (nk_none h).elim
  | .num _, _, _, _, h => by rw [nk_num] at h ⊢; exact h
  | .text _, _, _, _, h => by rw [nk_text] at h ⊢; exact h
  | .tup ks, m, n, hmn, h => by
    rw [nk_tup, Bool.and_eq_true, Bool.and_eq_true, decide_eq_true_eq] at h ⊢
    exact ⟨by omega, h.2.1, nks_mono ks (by omega) h.2.2⟩
theorem nks_mono : ∀ (ks : List NestedKey) {m n : Nat}, m ≤ n → nks m ks = true → nks n ks = true
  | [], _, _, _, _ => nks_nil
  | k :: ks, m, n, hmn, h => by
    rw [nks_cons, Bool.and_eq_true] at h ⊢
    exact ⟨nk_mono k hmn h.1, nks_mono ks hmn h.2⟩
end
theorem tx_num (n : Nat) : (numL n).all txC = true := by
  rw [List.all_eq_true]
  intro c hc
  have := num_dg n c hc
  unfold isDg at this
  unfold txC
  simp
  omega
mutual
theorem nk_tx : ∀ (k : NestedKey) {n : Nat}, nk n k = true → (wrL k).all txC = true
  | .none, _, h => (nk_none h).elim
  | .num i, _, _ => by
    show (intL i).all txC = true
    unfold intL
    rw [List.all_append, tx_num]
    split <;> rfl
  | .text s, _, h => by
    rw [nk_text, Bool.and_eq_true, Bool.and_eq_true] at h
    show (numL s.length ++ 58 :: tl s).all txC = true
    rw [List.all_append, tx_num, List.all_cons, h.2.1]
    rfl
  | .tup [], _, _ => rfl
  | .tup (k :: ks), n, h => by
    rw [nk_tup, Bool.and_eq_true, Bool.and_eq_true, nks_cons, Bool.and_eq_true] at h
    show (40 :: ((wrL k ++ wrTail ks) ++ [41])).all txC = true
    rw [List.all_cons, List.all_append, List.all_append, nk_tx k h.2.2.1, nks_tx ks h.2.2.2]
    rfl
theorem nks_tx : ∀ (ks : List NestedKey) {n : Nat}, nks n ks = true → (wrTail ks).all txC = true
  | [], _, _ => rfl
  | k :: ks, n, h => by
    rw [nks_cons, Bool.and_eq_true] at h
    show (44 :: (wrL k ++ wrTail ks)).all txC = true
    rw [List.all_cons, List.all_append, nk_tx k h.1, nks_tx ks h.2]
    rfl
end
theorem nk_rd {k : NestedKey} (h : nk 10 k = true) : rdT (strL (wrL k)) = some k := by
  unfold rdT
  rw [tl_strL, if_pos (nk_tx k h)]
  exact rdL_wr (nk_vk k h)
theorem tx_ok {s : Str} (h : (tl s).all txC = true) : PyData.strOk s = true := by
  show s.cps.all (· < 0x110000) = true
  rw [Array.all_eq_true]
  intro i hi
  have := List.all_eq_true.mp h s.cps[i] (by show s.cps[i] ∈ s.cps.toList; exact Array.getElem_mem_toList hi)
  unfold txC at this
  simp at this
  simp
  omega
mutual
theorem nk_lay : ∀ (k : NestedKey) {n : Nat}, nk n k = true → k.data.canLay0 = true ∧ k.data.depth ≤ n
  | .none, _, h => (nk_none h).elim
  | .num i, _, _ => by simp [NestedKey.data, PyData.canLay0, PyData.depth]
  | .text s, _, h => by
    rw [nk_text, Bool.and_eq_true, Bool.and_eq_true] at h
    simp [NestedKey.data, PyData.canLay0, PyData.depth, tx_ok h.2.1]
  | .tup ks, n, h => by
    rw [nk_tup, Bool.and_eq_true, Bool.and_eq_true, decide_eq_true_eq] at h
    obtain ⟨a, b⟩ := nks_lay ks h.2.2
    refine ⟨by simp only [NestedKey.data, PyData.canLay0]; exact a, ?_⟩
    simp only [NestedKey.data, PyData.depth]
    omega
theorem nks_lay : ∀ (ks : List NestedKey) {n : Nat}, nks n ks = true → PyData.canLayAll0 (NestedKey.datas ks) = true ∧ PyData.depthAll (NestedKey.datas ks) ≤ n
  | [], _, _ => by simp [NestedKey.datas, PyData.canLayAll0, PyData.depthAll]
  | k :: ks, n, h => by
    rw [nks_cons, Bool.and_eq_true] at h
    obtain ⟨a, b⟩ := nk_lay k h.1
    obtain ⟨c, d⟩ := nks_lay ks h.2
    refine ⟨by simp [NestedKey.datas, PyData.canLayAll0, a, c], ?_⟩
    simp only [NestedKey.datas, PyData.depthAll]
    omega
end
theorem nk_sh {k : NestedKey} {n : Nat} (h : nk n k = true) (hn : n ≤ 60) : SeqAt.shaped k.data = true := by
  obtain ⟨a, b⟩ := nk_lay k h
  exact shaped_of a (by omega)
theorem nk_fine {k : NestedKey} {n : Nat} (h : nk n k = true) : Fine k.data := by
  cases k with
  | text s =>
    rw [nk_text, Bool.and_eq_true, decide_eq_true_eq] at h
    show s.length ≤ 100000
    omega
  | none => exact (nk_none h).elim
  | num i => exact trivial
  | tup ks => simp only [NestedKey.data]; exact trivial
theorem datas_len : ∀ ks : List NestedKey, (NestedKey.datas ks).length = ks.length
  | [] => by simp [NestedKey.datas]
  | k :: ks => by simp [NestedKey.datas, datas_len ks]
theorem datas_mem : ∀ {ks : List NestedKey} {d : PyData} {n : Nat}, d ∈ NestedKey.datas ks → nks n ks = true → ∃ k, d = k.data ∧ nk n k = true
  | [], _, _, h, _ => by simp [NestedKey.datas] at h
  | k :: ks, d, n, h, hk => by
    rw [nks_cons, Bool.and_eq_true] at hk
    simp only [NestedKey.datas] at h
    rcases List.mem_cons.mp h with rfl | h
    · exact ⟨k, rfl, hk.1⟩
    · exact datas_mem h hk.2
theorem nk_parts {k : NestedKey} {n : Nat} {ds : List PyData} (h : nk n k = true) (e : k.data = .tuple ds) : ds.length ≤ 8 ∧ ∀ d ∈ ds, ∃ k' : NestedKey, d = k'.data ∧ nk n k' = true := by
  cases k with
  | none => exact (nk_none h).elim
  | num i => simp only [NestedKey.data] at e; cases e
  | text s => simp only [NestedKey.data] at e; cases e
  | tup ks =>
    simp only [NestedKey.data] at e
    injection e with e
    subst e
    rw [nk_tup, Bool.and_eq_true, Bool.and_eq_true, decide_eq_true_eq, decide_eq_true_eq] at h
    refine ⟨by rw [datas_len]; exact h.2.1, fun d hd => ?_⟩
    obtain ⟨k', e, q⟩ := datas_mem hd h.2.2
    exact ⟨k', e, nk_mono k' (by omega) q⟩
theorem nk_fineB {k : NestedKey} {n : Nat} (h : nk n k = true) (hn : n ≤ 60) : FineB k.data where
  s := by
    intro ds e
    obtain ⟨a, b⟩ := nk_parts h e
    refine ⟨by omega, fun x hx => ?_⟩
    obtain ⟨k', rfl, hk⟩ := b x hx
    intro p q e2
    obtain ⟨_, b2⟩ := nk_parts hk e2
    obtain ⟨k1, rfl, h1⟩ := b2 p (by simp)
    obtain ⟨k2, rfl, h2⟩ := b2 q (by simp)
    exact ⟨nk_fine h1, nk_fine h2⟩
  t := by
    intro t u f s r e eq
    obtain ⟨_, b⟩ := nk_parts h eq
    have g : ∀ d ∈ [t, u, f, s, r, e], Fine d := fun d hd => by
      obtain ⟨k', rfl, hk⟩ := b d hd
      exact nk_fine hk
    exact ⟨g _ (by simp), g _ (by simp), g _ (by simp), g _ (by simp), g _ (by simp), g _ (by simp)⟩
  sh := nk_sh h hn
theorem nk_bundle {k : NestedKey} {n : Nat} (h : nk n k = true) : isS "bundle" k.data = false := by
  cases k with
  | none => exact (nk_none h).elim
  | num i => simp [NestedKey.data, isS]
  | text s =>
    rw [nk_text, Bool.and_eq_true, Bool.and_eq_true] at h
    simp only [NestedKey.data, isS]
    have := h.2.2
    simpa using this
  | tup ks => simp [NestedKey.data, isS]
theorem nk_fineG {k : NestedKey} {n : Nat} (h : nk n k = true) (hn : n ≤ 60) : FineG k.data := by
  intro a b c d e
  obtain ⟨_, g⟩ := nk_parts h e
  obtain ⟨ka, rfl, ha⟩ := g a (by simp)
  obtain ⟨kb, rfl, hb⟩ := g b (by simp)
  obtain ⟨kc, rfl, hc⟩ := g c (by simp)
  obtain ⟨kd, rfl, hd⟩ := g d (by simp)
  exact ⟨nk_sh ha hn, nk_sh hb hn, nk_fine hc, nk_fineB hd hn, nk_bundle ha⟩

local macro_rules | `(tactic| walk_at "my_rd") => `(tactic| (repeat first
  | with_reducible refine q_tCons ?_
  | ((with_reducible apply q_var); (focus (exact rfl)))
  | with_reducible refine q_c ?_
  | with_reducible refine q_nx ?_
  | with_reducible refine q_bK ?_
  | with_reducible refine q_call ?_
  | with_reducible refine q_callK ?_
  | with_reducible refine q_tNil ?_
  | with_reducible refine q_cb ?_
  | with_reducible refine q_seq ?_
  | with_reducible refine q_asg ?_
  | with_reducible refine q_gName ?_
  | with_reducible refine q_op ?_
  | with_reducible refine q_test ?_
  | with_reducible refine q_tB ?_
  | with_reducible refine q_ifS ?_
  | with_reducible refine q_ret ?_
  | with_reducible refine q_rt ?_
  | with_reducible refine q_next ?_
  | with_reducible refine q_ifF ?_
  | with_reducible refine q_ifT ?_
  | with_reducible refine q_drop ?_
  | with_reducible refine q_and ?_
  | with_reducible refine q_or ?_
  | with_reducible refine q_andT ?_
  | with_reducible refine q_andF ?_
  | with_reducible refine q_orF ?_
  | with_reducible refine q_orT ?_
  | with_reducible refine q_andV ?_
  | with_reducible refine q_andVT ?_
  | with_reducible refine q_andVF ?_
  | with_reducible refine q_orV ?_
  | with_reducible refine q_gCons ?_
  | with_reducible refine q_gNil ?_
  | with_reducible refine q_tup ?_
  | with_reducible refine q_lst ?_
  | with_reducible refine q_not ?_
  | with_reducible refine q_notKT ?_
  | with_reducible refine q_notKF ?_
  | with_reducible refine q_I0 ?_
  | with_reducible refine q_eqI ?_
  | with_reducible refine q_neI ?_
  | ((with_reducible refine q_I ?_ ?_); first | decide | omega | exact ⟨by omega, by omega⟩ | exact ⟨by decide, by decide⟩ | exact .inl ⟨by omega, by omega⟩ | exact .inr ⟨by omega, by omega⟩ | exact .inr ⟨by decide, by decide⟩)
  | with_reducible refine q_eqS ?_
  | with_reducible refine q_neS ?_
  | with_reducible refine q_brk ?_
  | with_reducible refine q_ct ?_
  | with_reducible refine q_bk ?_
  | with_reducible refine q_cn ?_
  | with_reducible refine q_retN ?_
  | with_reducible refine q_gSub ?_
  | with_reducible refine q_for ?_
  | with_reducible refine q_iList ?_
  | with_reducible refine q_iTup ?_
  | with_reducible refine q_iRng1 ?_
  | with_reducible refine q_notK ?_
  | with_reducible refine q_orVT ?_
  | with_reducible refine q_orVF ?_
  | with_reducible refine q_notV ?_
  | with_reducible refine q_notVK ?_
  | with_reducible refine q_ifE ?_
  | with_reducible refine q_ifET ?_
  | with_reducible refine q_ifEF ?_
  | with_reducible refine q_yes ?_
  | with_reducible refine q_un ?_
  | with_reducible refine q_rU ?_
  | with_reducible refine q_abs ?_
  | with_reducible refine q_int1 ?_
  | with_reducible refine q_bm ?_
  | with_reducible refine q_bm0 ?_
  | with_reducible refine q_lc ?_
  | with_reducible refine q_keepT ?_
  | with_reducible refine q_keepF ?_
  | ((with_reducible apply q_aug); (focus (exact rfl)))
  | with_reducible refine q_ipI ?_
  | with_reducible refine q_chain ?_
  | with_reducible refine q_pairC ?_
  | with_reducible refine q_pairsK ?_
  | with_reducible refine q_pairN ?_
  | with_reducible refine q_fld ?_
  | with_reducible refine q_sFld ?_
  | with_reducible refine q_meth ?_
  | with_reducible refine q_makeK ?_
  | with_reducible refine q_isBl ?_
  | with_reducible refine q_notBl ?_
  | with_reducible refine q_sl ?_
  | with_reducible refine q_noPart ?_
  | with_reducible refine q_part ?_
  | with_reducible refine q_partK ?_
  | ((with_reducible apply q_mulStr); (focus (decide +kernel)))
  | with_reducible refine q_chT ?_
  | with_reducible refine q_chF ?_
  | with_reducible refine q_ord ?_
  | with_reducible refine q_iStr0 ?_
  | with_reducible refine q_iStr ?_
  | with_reducible refine q_tDIn ?_
  | with_reducible refine q_tDNotIn ?_
  | with_reducible refine q_tDGet ?_
  | with_reducible refine q_tDGet2 ?_
  | with_reducible refine q_tDGet1 ?_
  | with_reducible refine q_tDSetd ?_
  | ((with_reducible apply q_dG2a); (focus ((repeat first | (with_reducible exact upd_same) | (with_reducible assumption) | (with_reducible apply upd_new (by assumption)) | (with_reducible apply upd_other (by first | assumption | exact Ne.symm (by assumption))) | (with_reducible refine' Kp.get (by assumption) ?_ (by first | assumption | exact Ne.symm (by assumption))) | (with_reducible apply Same.get (by assumption))); done)))
  | ((with_reducible apply q_dSda); (focus ((repeat first | (with_reducible exact upd_same) | (with_reducible assumption) | (with_reducible apply upd_new (by assumption)) | (with_reducible apply upd_other (by first | assumption | exact Ne.symm (by assumption))) | (with_reducible refine' Kp.get (by assumption) ?_ (by first | assumption | exact Ne.symm (by assumption))) | (with_reducible apply Same.get (by assumption))); done)))
  | with_reducible refine q_sDPut ?_
  | ((with_reducible apply q_dInS); (focus ((repeat first | (with_reducible exact upd_same) | (with_reducible assumption) | (with_reducible apply upd_new (by assumption)) | (with_reducible apply upd_other (by first | assumption | exact Ne.symm (by assumption))) | (with_reducible refine' Kp.get (by assumption) ?_ (by first | assumption | exact Ne.symm (by assumption))) | (with_reducible apply Same.get (by assumption))); done)))
  | ((with_reducible apply q_dNInS); (focus ((repeat first | (with_reducible exact upd_same) | (with_reducible assumption) | (with_reducible apply upd_new (by assumption)) | (with_reducible apply upd_other (by first | assumption | exact Ne.symm (by assumption))) | (with_reducible refine' Kp.get (by assumption) ?_ (by first | assumption | exact Ne.symm (by assumption))) | (with_reducible apply Same.get (by assumption))); done)))
  | ((with_reducible apply q_dInI); (focus ((repeat first | (with_reducible exact upd_same) | (with_reducible assumption) | (with_reducible apply upd_new (by assumption)) | (with_reducible apply upd_other (by first | assumption | exact Ne.symm (by assumption))) | (with_reducible refine' Kp.get (by assumption) ?_ (by first | assumption | exact Ne.symm (by assumption))) | (with_reducible apply Same.get (by assumption))); done)))
  | ((with_reducible apply q_dNInI); (focus ((repeat first | (with_reducible exact upd_same) | (with_reducible assumption) | (with_reducible apply upd_new (by assumption)) | (with_reducible apply upd_other (by first | assumption | exact Ne.symm (by assumption))) | (with_reducible refine' Kp.get (by assumption) ?_ (by first | assumption | exact Ne.symm (by assumption))) | (with_reducible apply Same.get (by assumption))); done)))
  | ((with_reducible apply q_bmL); (focus ((repeat first | (with_reducible exact upd_same) | (with_reducible assumption) | (with_reducible apply upd_new (by assumption)) | (with_reducible apply upd_other (by first | assumption | exact Ne.symm (by assumption))) | (with_reducible refine' Kp.get (by assumption) ?_ (by first | assumption | exact Ne.symm (by assumption))) | (with_reducible apply Same.get (by assumption))); done)))
  | ((with_reducible apply q_bmL0); (focus ((repeat first | (with_reducible exact upd_same) | (with_reducible assumption) | (with_reducible apply upd_new (by assumption)) | (with_reducible apply upd_other (by first | assumption | exact Ne.symm (by assumption))) | (with_reducible refine' Kp.get (by assumption) ?_ (by first | assumption | exact Ne.symm (by assumption))) | (with_reducible apply Same.get (by assumption))); done)))
  | ((with_reducible apply q_ixLt); (focus ((repeat first | (with_reducible exact upd_same) | (with_reducible assumption) | (with_reducible apply upd_new (by assumption)) | (with_reducible apply upd_other (by first | assumption | exact Ne.symm (by assumption))) | (with_reducible refine' Kp.get (by assumption) ?_ (by first | assumption | exact Ne.symm (by assumption))) | (with_reducible apply Same.get (by assumption))); done)); (focus (exact rfl)))
  | ((with_reducible apply q_ixTt); (focus ((repeat first | (with_reducible exact upd_same) | (with_reducible assumption) | (with_reducible apply upd_new (by assumption)) | (with_reducible apply upd_other (by first | assumption | exact Ne.symm (by assumption))) | (with_reducible refine' Kp.get (by assumption) ?_ (by first | assumption | exact Ne.symm (by assumption))) | (with_reducible apply Same.get (by assumption))); done)); (focus (exact rfl)))
  | ((with_reducible apply q_lenLt); (focus ((repeat first | (with_reducible exact upd_same) | (with_reducible assumption) | (with_reducible apply upd_new (by assumption)) | (with_reducible apply upd_other (by first | assumption | exact Ne.symm (by assumption))) | (with_reducible refine' Kp.get (by assumption) ?_ (by first | assumption | exact Ne.symm (by assumption))) | (with_reducible apply Same.get (by assumption))); done)))
  | ((with_reducible apply q_lenTt); (focus ((repeat first | (with_reducible exact upd_same) | (with_reducible assumption) | (with_reducible apply upd_new (by assumption)) | (with_reducible apply upd_other (by first | assumption | exact Ne.symm (by assumption))) | (with_reducible refine' Kp.get (by assumption) ?_ (by first | assumption | exact Ne.symm (by assumption))) | (with_reducible apply Same.get (by assumption))); done)))
  | ((with_reducible apply q_append); (focus ((repeat first | (with_reducible exact upd_same) | (with_reducible assumption) | (with_reducible apply upd_new (by assumption)) | (with_reducible apply upd_other (by first | assumption | exact Ne.symm (by assumption))) | (with_reducible refine' Kp.get (by assumption) ?_ (by first | assumption | exact Ne.symm (by assumption))) | (with_reducible apply Same.get (by assumption))); done)); (focus ((first | (exact Nat.lt_of_ble_eq_true rfl) | (simp only [List.length_append, List.length_cons, List.length_nil, List.length_map]; exact small1000 (by omega))))))
  | ((with_reducible apply q_setL); (focus ((repeat first | (with_reducible exact upd_same) | (with_reducible assumption) | (with_reducible apply upd_new (by assumption)) | (with_reducible apply upd_other (by first | assumption | exact Ne.symm (by assumption))) | (with_reducible refine' Kp.get (by assumption) ?_ (by first | assumption | exact Ne.symm (by assumption))) | (with_reducible apply Same.get (by assumption))); done)); (focus (exact rfl)))
  | with_reducible refine q_ifNT ?_
  | with_reducible refine q_ifNF ?_
  | with_reducible refine q_andNT ?_
  | with_reducible refine q_andNF ?_
  | with_reducible refine q_orNT ?_
  | with_reducible refine q_orNF ?_
  | with_reducible refine q_bKNT ?_
  | with_reducible refine q_bKNF ?_
  | with_reducible refine q_tNGet ?_
  | with_reducible refine q_tNIn ?_
  | with_reducible refine q_sNPut ?_
  | with_reducible refine q_sFldAug ?_
  | with_reducible refine q_sDAug ?_
  | with_reducible refine q_sDDel ?_
  | with_reducible refine q_forX ?_
  | with_reducible refine q_tMake ?_
  | ((with_reducible apply q_dG1a); (focus ((repeat first | (with_reducible exact upd_same) | (with_reducible assumption) | (with_reducible apply upd_new (by assumption)) | (with_reducible apply upd_other (by first | assumption | exact Ne.symm (by assumption))) | (with_reducible refine' Kp.get (by assumption) ?_ (by first | assumption | exact Ne.symm (by assumption))) | (with_reducible apply Same.get (by assumption))); done)))))
open TL
def nB : Nat → Nat
  | 0 => 104
  | n + 1 => 8 * (nB n + 1) + 2
theorem nB_le (n : Nat) : 104 ≤ nB n := by
  induction n with
  | zero => exact Nat.le_refl _
  | succ n ih => show 104 ≤ 8 * (nB n + 1) + 2; omega
mutual
theorem nk_small : ∀ (k : NestedKey) {n : Nat}, nk n k = true → smallV k
  | .none, _, _ => trivial
  | .num i, _, h => by
    rw [nk_num, decide_eq_true_eq] at h
    exact Nat.lt_of_lt_of_le h (Nat.pow_le_pow_right (by omega) (by omega))
  | .text _, _, _ => trivial
  | .tup ks, _, h => by
    rw [nk_tup, Bool.and_eq_true, Bool.and_eq_true] at h
    exact nks_small ks h.2.2
theorem nks_small : ∀ (ks : List NestedKey) {n : Nat}, nks n ks = true → smallVs ks
  | [], _, _ => trivial
  | k :: ks, _, h => by
    rw [nks_cons, Bool.and_eq_true] at h
    exact ⟨nk_small k h.1, nks_small ks h.2⟩
end
theorem num_len {n m : Nat} (h : n < 10 ^ m) (hm : 1 ≤ m) : (numL n).length ≤ m := by
  unfold numL
  rw [List.length_map]
  exact PyProof.Rows.digits10_le hm h
mutual
theorem nk_len : ∀ (k : NestedKey) {n : Nat}, nk n k = true → (wrL k).length ≤ nB n
  | .none, _, h => (nk_none h).elim
  | .num i, n, h => by
    rw [nk_num, decide_eq_true_eq] at h
    have := nB_le n
    have := num_len h (by omega)
    show (intL i).length ≤ _
    unfold intL
    rw [List.length_append]
    split <;> simp <;> omega
  | .text s, n, h => by
    rw [nk_text, Bool.and_eq_true, decide_eq_true_eq] at h
    have := nB_le n
    have := num_len (n := s.length) (m := 3) (by omega) (by omega)
    show (numL s.length ++ 58 :: tl s).length ≤ _
    rw [List.length_append, List.length_cons, ← tl_len]
    omega
  | .tup [], n, h => by
    have := nB_le n
    show 2 ≤ _
    omega
  | .tup (k :: ks), n, h => by
    rw [nk_tup, Bool.and_eq_true, Bool.and_eq_true, decide_eq_true_eq, decide_eq_true_eq, nks_cons, Bool.and_eq_true] at h
    obtain ⟨n, rfl⟩ : ∃ m, n = m + 1 := ⟨n - 1, by omega⟩
    have a := nk_len k h.2.2.1
    have b := nks_len ks h.2.2.2
    have c : ks.length + 1 ≤ 8 := h.2.1
    have d := Nat.mul_le_mul_right (nB n + 1) (show ks.length ≤ 7 by omega)
    show (40 :: ((wrL k ++ wrTail ks) ++ [41])).length ≤ 8 * (nB n + 1) + 2
    rw [List.length_cons, List.length_append, List.length_append]
    show (wrL k).length + (wrTail ks).length + 1 + 1 ≤ _
    have a : (wrL k).length ≤ nB n := a
    have b : (wrTail ks).length ≤ ks.length * (nB n + 1) := b
    omega
theorem nks_len : ∀ (ks : List NestedKey) {n : Nat}, nks n ks = true → (wrTail ks).length ≤ ks.length * (nB n + 1)
  | [], _, _ => Nat.zero_le _
  | k :: ks, n, h => by
    rw [nks_cons, Bool.and_eq_true] at h
    have a := nk_len k h.1
    have b := nks_len ks h.2
    show (44 :: (wrL k ++ wrTail ks)).length ≤ (ks.length + 1) * (nB n + 1)
    rw [List.length_cons, List.length_append, Nat.add_mul]
    omega
end
mutual
theorem siz_le : ∀ k : NestedKey, isV k = true → siz k + 1 ≤ 2 * (wrL k).length
  | .none, h => by cases h
  | .num i, _ => by
    obtain ⟨c, t, e, _⟩ := wr_head (.num i) rfl
    rw [e, List.length_cons]
    show 1 + 1 ≤ _
    omega
  | .text s, _ => by
    obtain ⟨c, t, e, _⟩ := wr_head (.text s) rfl
    rw [e, List.length_cons]
    show 1 + 1 ≤ _
    omega
  | .tup [], _ => by show 2 + 0 + 1 ≤ 2 * 2; omega
  | .tup (k :: ks), h => by
    have h : (isV k && isVs ks) = true := h
    rw [Bool.and_eq_true] at h
    have a := siz_le k h.1
    have b := sizs_le ks h.2
    show 2 + (siz k + 1 + sizs ks) + 1 ≤ 2 * (40 :: ((wrL k ++ wrTail ks) ++ [41])).length
    rw [List.length_cons, List.length_append, List.length_append]
    show _ ≤ 2 * (_ + 1 + 1)
    omega
theorem sizs_le : ∀ ks : List NestedKey, isVs ks = true → sizs ks ≤ 2 * (wrTail ks).length
  | [], _ => Nat.zero_le _
  | k :: ks, h => by
    have h : (isV k && isVs ks) = true := h
    rw [Bool.and_eq_true] at h
    have a := siz_le k h.1
    have b := sizs_le ks h.2
    show siz k + 1 + sizs ks ≤ 2 * (44 :: (wrL k ++ wrTail ks)).length
    rw [List.length_cons, List.length_append]
    omega
end
theorem tl_int (i : Int) : tl (Str.ofString (toString i)) = intL i := by
  cases i with
  | ofNat n =>
    show tl (Str.ofString (toString ((n : Nat) : Int))) = _
    rw [tl_num]
    unfold intL
    rw [if_neg (by show ¬ ((n : Nat) : Int) < 0; omega)]
    rfl
  | negSucc n =>
    have e : Str.ofString (toString (Int.negSucc n)) = Str.ofString "-" ++ Str.ofString (toString ((n + 1 : Nat) : Int)) := tl_inj (by
      rw [tl_append]
      show (Str.ofString ("-" ++ Nat.repr (n + 1))).cps.toList = _ ++ (Str.ofString (Nat.repr (n + 1))).cps.toList
      rw [signs_ofString, signs_ofString, String.toList_append, List.map_append]
      rfl)
    rw [e, tl_append, tl_num]
    unfold intL
    rw [if_pos (by omega)]
    rfl
theorem joinL_wr : ∀ ks : List NestedKey, joinL [44] (ks.map wrL) = wrsL ks
  | [] => rfl
  | [k] => by show wrL k = wrL k ++ []; rw [List.append_nil]
  | k :: k2 :: ks => by
    show wrL k ++ ([44] ++ joinL [44] ((k2 :: ks).map wrL)) = wrL k ++ wrTail (k2 :: ks)
    rw [joinL_wr (k2 :: ks)]
    rfl
/-! letters as such keys -/
theorem kinds_nk : ∀ z ∈ kinds, nk 0 (.text z) = true := by decide +kernel
theorem sides_nk : ∀ z ∈ sides, nk 0 (.text z) = true := by decide +kernel
theorem toks_nk : ∀ z ∈ toks, nk 0 (.text z) = true := by decide +kernel
theorem accs_nk : ∀ z ∈ accs, nk 0 (.text z) = true := by decide +kernel
theorem names_nk : ∀ z ∈ allNames, nk 0 (.text z) = true := by decide +kernel
theorem num_nk {i : Int} {n : Nat} (h : i.natAbs ≤ 1000000) : nk n (.num i) = true := by
  rw [nk_num]
  exact decide_eq_true (Nat.lt_of_le_of_lt h (by decide))
theorem gs_nk : ∀ {gs : Gs}, (∀ g ∈ gs, g.1 ∈ allNames) → (∀ g ∈ gs, 1 ≤ g.2 ∧ g.2 ≤ 50) → nks 1 (gs.map gk) = true
  | [], _, _ => nks_nil
  | g :: gs, h, h2 => by
    rw [List.map_cons, nks_cons, gs_nk (fun x hx => h x (List.mem_cons_of_mem _ hx)) (fun x hx => h2 x (List.mem_cons_of_mem _ hx)), Bool.and_true]
    unfold gk
    rw [nk_tup, nks_cons, nks_cons, nks_nil, names_nk g.1 (h g (List.mem_cons_self ..)), num_nk (by have := h2 g (List.mem_cons_self ..); omega)]
    rfl
theorem let_nk {K : PySem.W.Frag} {H : Hp} {a : Addr} {kk s : Str} {n : Int} {bv : V} {bd : PyData} (ha : H a = some (.tup [.str kk, .str s, .int n, bv])) (hb : TupDp K H bv bd) (hl : LetD kk s n bd) (hn : n ≤ 10) (hk : kk ∈ kinds) :
    ∃ bk, NV H (.tup [.text kk, .text s, .num n, bk]) (.ref a) ∧ nk 3 (.tup [.text kk, .text s, .num n, bk]) = true ∧ letterD (NestedKey.tup [.text kk, .text s, .num n, bk]).data = true ∧ NV H bk bv := by
  have e : ∀ bk : NestedKey, (NestedKey.tup [.text kk, .text s, .num n, bk]).data = .tuple [.str kk, .str s, .int n, bk.data] := fun bk => by simp [NestedKey.data, NestedKey.datas]
  have hok := hl.ok
  have fin : ∀ bk : NestedKey, bk.data = bd → nk 2 bk = true → nk 2 (.text s) = true → 0 ≤ n → _ := fun bk e1 h1 h2 h3 => by
    have hv : NV H bk bv := NV.of bk bv (by rw [e1]; exact hb)
    refine (⟨bk, .tup ha (.cons (.str _) (.cons (.str _) (.cons (.int _) (.cons hv .nil)))), ?_, by rw [e, e1]; exact hok, hv⟩ : ∃ bk, NV H (.tup [.text kk, .text s, .num n, bk]) (.ref a) ∧ nk 3 (.tup [.text kk, .text s, .num n, bk]) = true ∧ letterD (NestedKey.tup [.text kk, .text s, .num n, bk]).data = true ∧ NV H bk bv)
    rw [nk_tup, nks_cons, nks_cons, nks_cons, nks_cons, nks_nil, nk_mono _ (show 0 ≤ 3 - 1 by omega) (kinds_nk kk hk), num_nk (by omega)]
    show (decide (0 < 3) && (decide (4 ≤ 8) && (true && (nk 2 (.text s) && (true && (nk 2 bk && true)))))) = true
    rw [h1, h2]
    rfl
  cases hl with
  | @rot _ gs h1 hg =>
    refine fin (.tup (gs.map gk)) (by simp only [NestedKey.data]; rw [gks_data]) ?_ (by decide +kernel) (by omega)
    rw [nk_tup, gs_nk hg.nms (fun g h => ⟨hg.pos g h, hg.top g h⟩), List.length_map, decide_eq_true (by have := hg.few; omega : gs.length ≤ 8)]
    rfl
  | stop h1 h2 h3 => exact fin (.tup []) (by simp [NestedKey.data, NestedKey.datas]) (by rw [nk_tup, nks_nil]; rfl) (nk_mono _ (by omega) (sides_nk s h2)) h3
  | @tr _ _ _ x h1 h2 h3 hx =>
    refine fin x.key x.key_data ?_ (nk_mono _ (by omega) (sides_nk s h2)) h3
    unfold Tr.key
    have := hx.u; have := hx.u2; have := hx.f; have := hx.f2; have := hx.d; have := hx.d2
    rw [nk_tup, nks_cons, nks_cons, nks_cons, nks_cons, nks_cons, nks_cons, nks_nil, nk_mono _ (show 0 ≤ 2 - 1 by omega) (toks_nk _ hx.t), nk_mono _ (show 0 ≤ 2 - 1 by omega) (accs_nk _ hx.s), nk_mono _ (show 0 ≤ 2 - 1 by omega) (accs_nk _ hx.r), num_nk (by omega), num_nk (by omega), num_nk (by omega)]
    rfl

local macro_rules | `(tactic| walk_at "my_rd") => `(tactic| (repeat first
  | with_reducible refine q_tCons ?_
  | ((with_reducible apply q_var); (focus (exact rfl)))
  | with_reducible refine q_c ?_
  | with_reducible refine q_nx ?_
  | with_reducible refine q_bK ?_
  | with_reducible refine q_call ?_
  | with_reducible refine q_callK ?_
  | with_reducible refine q_tNil ?_
  | with_reducible refine q_cb ?_
  | with_reducible refine q_seq ?_
  | with_reducible refine q_asg ?_
  | with_reducible refine q_gName ?_
  | with_reducible refine q_op ?_
  | with_reducible refine q_test ?_
  | with_reducible refine q_tB ?_
  | with_reducible refine q_ifS ?_
  | with_reducible refine q_ret ?_
  | with_reducible refine q_rt ?_
  | with_reducible refine q_next ?_
  | with_reducible refine q_ifF ?_
  | with_reducible refine q_ifT ?_
  | with_reducible refine q_drop ?_
  | with_reducible refine q_and ?_
  | with_reducible refine q_or ?_
  | with_reducible refine q_andT ?_
  | with_reducible refine q_andF ?_
  | with_reducible refine q_orF ?_
  | with_reducible refine q_orT ?_
  | with_reducible refine q_andV ?_
  | with_reducible refine q_andVT ?_
  | with_reducible refine q_andVF ?_
  | with_reducible refine q_orV ?_
  | with_reducible refine q_gCons ?_
  | with_reducible refine q_gNil ?_
  | with_reducible refine q_tup ?_
  | with_reducible refine q_lst ?_
  | with_reducible refine q_not ?_
  | with_reducible refine q_notKT ?_
  | with_reducible refine q_notKF ?_
  | with_reducible refine q_I0 ?_
  | with_reducible refine q_eqI ?_
  | with_reducible refine q_neI ?_
  | ((with_reducible refine q_I ?_ ?_); first | decide | omega | exact ⟨by omega, by omega⟩ | exact ⟨by decide, by decide⟩ | exact .inl ⟨by omega, by omega⟩ | exact .inr ⟨by omega, by omega⟩ | exact .inr ⟨by decide, by decide⟩)
  | with_reducible refine q_eqS ?_
  | with_reducible refine q_neS ?_
  | with_reducible refine q_brk ?_
  | with_reducible refine q_ct ?_
  | with_reducible refine q_bk ?_
  | with_reducible refine q_cn ?_
  | with_reducible refine q_retN ?_
  | with_reducible refine q_gSub ?_
  | with_reducible refine q_for ?_
  | with_reducible refine q_iList ?_
  | with_reducible refine q_iTup ?_
  | with_reducible refine q_iRng1 ?_
  | with_reducible refine q_notK ?_
  | with_reducible refine q_orVT ?_
  | with_reducible refine q_orVF ?_
  | with_reducible refine q_notV ?_
  | with_reducible refine q_notVK ?_
  | with_reducible refine q_ifE ?_
  | with_reducible refine q_ifET ?_
  | with_reducible refine q_ifEF ?_
  | with_reducible refine q_yes ?_
  | with_reducible refine q_un ?_
  | with_reducible refine q_rU ?_
  | with_reducible refine q_abs ?_
  | with_reducible refine q_int1 ?_
  | with_reducible refine q_bm ?_
  | with_reducible refine q_bm0 ?_
  | with_reducible refine q_lc ?_
  | with_reducible refine q_keepT ?_
  | with_reducible refine q_keepF ?_
  | ((with_reducible apply q_aug); (focus (exact rfl)))
  | with_reducible refine q_ipI ?_
  | with_reducible refine q_chain ?_
  | with_reducible refine q_pairC ?_
  | with_reducible refine q_pairsK ?_
  | with_reducible refine q_pairN ?_
  | with_reducible refine q_fld ?_
  | with_reducible refine q_sFld ?_
  | with_reducible refine q_meth ?_
  | with_reducible refine q_makeK ?_
  | with_reducible refine q_isBl ?_
  | with_reducible refine q_notBl ?_
  | with_reducible refine q_sl ?_
  | with_reducible refine q_noPart ?_
  | with_reducible refine q_part ?_
  | with_reducible refine q_partK ?_
  | ((with_reducible apply q_mulStr); (focus (decide +kernel)))
  | with_reducible refine q_chT ?_
  | with_reducible refine q_chF ?_
  | with_reducible refine q_ord ?_
  | with_reducible refine q_iStr0 ?_
  | with_reducible refine q_iStr ?_
  | with_reducible refine q_tDIn ?_
  | with_reducible refine q_tDNotIn ?_
  | with_reducible refine q_tDGet ?_
  | with_reducible refine q_tDGet2 ?_
  | with_reducible refine q_tDGet1 ?_
  | with_reducible refine q_tDSetd ?_
  | ((with_reducible apply q_dG2a); (focus ((repeat first | (with_reducible exact upd_same) | (with_reducible assumption) | (with_reducible apply upd_new (by assumption)) | (with_reducible apply upd_other (by first | assumption | exact Ne.symm (by assumption))) | (with_reducible refine' Kp.get (by assumption) ?_ (by first | assumption | exact Ne.symm (by assumption))) | (with_reducible apply Same.get (by assumption))); done)))
  | ((with_reducible apply q_dSda); (focus ((repeat first | (with_reducible exact upd_same) | (with_reducible assumption) | (with_reducible apply upd_new (by assumption)) | (with_reducible apply upd_other (by first | assumption | exact Ne.symm (by assumption))) | (with_reducible refine' Kp.get (by assumption) ?_ (by first | assumption | exact Ne.symm (by assumption))) | (with_reducible apply Same.get (by assumption))); done)))
  | with_reducible refine q_sDPut ?_
  | ((with_reducible apply q_dInS); (focus ((repeat first | (with_reducible exact upd_same) | (with_reducible assumption) | (with_reducible apply upd_new (by assumption)) | (with_reducible apply upd_other (by first | assumption | exact Ne.symm (by assumption))) | (with_reducible refine' Kp.get (by assumption) ?_ (by first | assumption | exact Ne.symm (by assumption))) | (with_reducible apply Same.get (by assumption))); done)))
  | ((with_reducible apply q_dNInS); (focus ((repeat first | (with_reducible exact upd_same) | (with_reducible assumption) | (with_reducible apply upd_new (by assumption)) | (with_reducible apply upd_other (by first | assumption | exact Ne.symm (by assumption))) | (with_reducible refine' Kp.get (by assumption) ?_ (by first | assumption | exact Ne.symm (by assumption))) | (with_reducible apply Same.get (by assumption))); done)))
  | ((with_reducible apply q_dInI); (focus ((repeat first | (with_reducible exact upd_same) | (with_reducible assumption) | (with_reducible apply upd_new (by assumption)) | (with_reducible apply upd_other (by first | assumption | exact Ne.symm (by assumption))) | (with_reducible refine' Kp.get (by assumption) ?_ (by first | assumption | exact Ne.symm (by assumption))) | (with_reducible apply Same.get (by assumption))); done)))
  | ((with_reducible apply q_dNInI); (focus ((repeat first | (with_reducible exact upd_same) | (with_reducible assumption) | (with_reducible apply upd_new (by assumption)) | (with_reducible apply upd_other (by first | assumption | exact Ne.symm (by assumption))) | (with_reducible refine' Kp.get (by assumption) ?_ (by first | assumption | exact Ne.symm (by assumption))) | (with_reducible apply Same.get (by assumption))); done)))
  | ((with_reducible apply q_bmL); (focus ((repeat first | (with_reducible exact upd_same) | (with_reducible assumption) | (with_reducible apply upd_new (by assumption)) | (with_reducible apply upd_other (by first | assumption | exact Ne.symm (by assumption))) | (with_reducible refine' Kp.get (by assumption) ?_ (by first | assumption | exact Ne.symm (by assumption))) | (with_reducible apply Same.get (by assumption))); done)))
  | ((with_reducible apply q_bmL0); (focus ((repeat first | (with_reducible exact upd_same) | (with_reducible assumption) | (with_reducible apply upd_new (by assumption)) | (with_reducible apply upd_other (by first | assumption | exact Ne.symm (by assumption))) | (with_reducible refine' Kp.get (by assumption) ?_ (by first | assumption | exact Ne.symm (by assumption))) | (with_reducible apply Same.get (by assumption))); done)))
  | ((with_reducible apply q_ixLt); (focus ((repeat first | (with_reducible exact upd_same) | (with_reducible assumption) | (with_reducible apply upd_new (by assumption)) | (with_reducible apply upd_other (by first | assumption | exact Ne.symm (by assumption))) | (with_reducible refine' Kp.get (by assumption) ?_ (by first | assumption | exact Ne.symm (by assumption))) | (with_reducible apply Same.get (by assumption))); done)); (focus (exact rfl)))
  | ((with_reducible apply q_ixTt); (focus ((repeat first | (with_reducible exact upd_same) | (with_reducible assumption) | (with_reducible apply upd_new (by assumption)) | (with_reducible apply upd_other (by first | assumption | exact Ne.symm (by assumption))) | (with_reducible refine' Kp.get (by assumption) ?_ (by first | assumption | exact Ne.symm (by assumption))) | (with_reducible apply Same.get (by assumption))); done)); (focus (exact rfl)))
  | ((with_reducible apply q_lenLt); (focus ((repeat first | (with_reducible exact upd_same) | (with_reducible assumption) | (with_reducible apply upd_new (by assumption)) | (with_reducible apply upd_other (by first | assumption | exact Ne.symm (by assumption))) | (with_reducible refine' Kp.get (by assumption) ?_ (by first | assumption | exact Ne.symm (by assumption))) | (with_reducible apply Same.get (by assumption))); done)))
  | ((with_reducible apply q_lenTt); (focus ((repeat first | (with_reducible exact upd_same) | (with_reducible assumption) | (with_reducible apply upd_new (by assumption)) | (with_reducible apply upd_other (by first | assumption | exact Ne.symm (by assumption))) | (with_reducible refine' Kp.get (by assumption) ?_ (by first | assumption | exact Ne.symm (by assumption))) | (with_reducible apply Same.get (by assumption))); done)))
  | ((with_reducible apply q_append); (focus ((repeat first | (with_reducible exact upd_same) | (with_reducible assumption) | (with_reducible apply upd_new (by assumption)) | (with_reducible apply upd_other (by first | assumption | exact Ne.symm (by assumption))) | (with_reducible refine' Kp.get (by assumption) ?_ (by first | assumption | exact Ne.symm (by assumption))) | (with_reducible apply Same.get (by assumption))); done)); (focus ((first | (exact Nat.lt_of_ble_eq_true rfl) | (simp only [List.length_append, List.length_cons, List.length_nil, List.length_map]; exact small1000 (by omega))))))
  | ((with_reducible apply q_setL); (focus ((repeat first | (with_reducible exact upd_same) | (with_reducible assumption) | (with_reducible apply upd_new (by assumption)) | (with_reducible apply upd_other (by first | assumption | exact Ne.symm (by assumption))) | (with_reducible refine' Kp.get (by assumption) ?_ (by first | assumption | exact Ne.symm (by assumption))) | (with_reducible apply Same.get (by assumption))); done)); (focus (exact rfl)))
  | with_reducible refine q_ifNT ?_
  | with_reducible refine q_ifNF ?_
  | with_reducible refine q_andNT ?_
  | with_reducible refine q_andNF ?_
  | with_reducible refine q_orNT ?_
  | with_reducible refine q_orNF ?_
  | with_reducible refine q_bKNT ?_
  | with_reducible refine q_bKNF ?_
  | with_reducible refine q_tNGet ?_
  | with_reducible refine q_tNIn ?_
  | with_reducible refine q_sNPut ?_
  | with_reducible refine q_sFldAug ?_
  | with_reducible refine q_sDAug ?_
  | with_reducible refine q_sDDel ?_
  | with_reducible refine q_forX ?_
  | with_reducible refine q_tMake ?_
  | ((with_reducible apply q_dG1a); (focus ((repeat first | (with_reducible exact upd_same) | (with_reducible assumption) | (with_reducible apply upd_new (by assumption)) | (with_reducible apply upd_other (by first | assumption | exact Ne.symm (by assumption))) | (with_reducible refine' Kp.get (by assumption) ?_ (by first | assumption | exact Ne.symm (by assumption))) | (with_reducible apply Same.get (by assumption))); done)))))
open TL
/-! the law's values -/
theorem fresh_of {H H' : Hp} {p l a : Addr} (pot : PotAt H p l) (pot' : PotAt H' p l) (k : Kp p H H') (n : H' a = none) : H a = none := by
  obtain ⟨o, q⟩ := pot.at
  exact k.fresh q n (pot'.nep n)
theorem at_str {s : Str} {i : Int} (h0 : 0 ≤ i) (h1 : i < (tl s).length) : ∃ c, atI s.cps.toList i = some c ∧ c ∈ tl s := by
  obtain ⟨n, rfl⟩ := Int.eq_ofNat_of_zero_le h0
  exact ⟨_, atI_nat (List.getElem?_eq_getElem (show n < (tl s).length by omega)), List.getElem_mem _⟩
theorem ones_len {ws : List Str} (h : ∀ x ∈ ws, x.length = 1) : (ws.map (·.length)).sum = ws.length := by
  induction ws with
  | nil => rfl
  | cons x r ih =>
    rw [List.map_cons, List.sum_cons, h x (List.mem_cons_self ..), ih fun y hy => h y (List.mem_cons_of_mem _ hy), List.length_cons]
    omega
def tx2 (c : Nat) : Bool := txC c && !decide (c = 98)
theorem alpha_tx : ∀ c ∈ tl (Str.ofString "0123:,()-a "), tx2 c = true := by decide +kernel
theorem join_nk {ws : List Str} {n : Nat} (h : ∀ x ∈ ws, x.length = 1 ∧ (tl x).all tx2 = true) (hl : ws.length ≤ 20) : nk n (.text (Txt.join (Str.ofString "") ws)) = true := by
  have e : tl (Txt.join (Str.ofString "") ws) = (ws.map tl).flatten := by
    rw [join_eq, tl_join]
    exact joinL_nil _
  have h1 : (Txt.join (Str.ofString "") ws).length = ws.length := by
    rw [tl_len, e, ← sum_len, ones_len fun x hx => (h x hx).1]
  have h2 : ∀ c ∈ tl (Txt.join (Str.ofString "") ws), tx2 c = true := by
    intro c hc
    rw [e] at hc
    obtain ⟨y, hy, hc⟩ := List.mem_flatten.mp hc
    obtain ⟨x, hx, rfl⟩ := List.mem_map.mp hy
    exact List.all_eq_true.mp (h x hx).2 c hc
  rw [nk_text, Bool.and_eq_true, Bool.and_eq_true]
  refine ⟨decide_eq_true (by omega), List.all_eq_true.mpr fun c hc => ?_, ?_⟩
  · have := h2 c hc
    unfold tx2 at this
    rw [Bool.and_eq_true] at this
    exact this.1
  · rw [decide_eq_false]
    · rfl
    · intro q
      have := h2 98 (by rw [q]; decide +kernel)
      revert this
      decide
def sp_val (n : Nat) : Sp := fun vs H Q _ => ∃ (p l : Addr), vs = [.ref p, .int (n : Nat)] ∧ PotAt H p l ∧ ∀ (k : NestedKey) (v : V) (H' : Hp), PotAt H' p l → Kp p H H' → NV H' k v → nk n k = true → Q v H'
theorem nks_snoc {n : Nat} : ∀ {ks : List NestedKey} {k : NestedKey}, nks n ks = true → nk n k = true → nks n (ks ++ [k]) = true
  | [], k, _, h => by
    show nks n [k] = true
    rw [nks_cons, nks_nil, h]
    rfl
  | x :: ks, k, h, h2 => by
    rw [nks_cons, Bool.and_eq_true] at h
    show nks n (x :: (ks ++ [k])) = true
    rw [nks_cons, h.1, nks_snoc h.2 h2]
    rfl
section
variable {P : Program} {w : World} {K : PySem.W.Frag} {mg : Str → Option Value} {base : Heap}
theorem ok_no {X : CXT} {m : Nat} {f : Addr} {fd : FuncData} {ps : List Str} : FnOk P w K mg base X m f fd ps sp_none :=
  ⟨fun _ _ _ _ h => h.elim, fun _ _ _ _ _ _ _ _ _ _ _ _ _ h => h.elim⟩
theorem ok_L_valueS {m n : Nat} {S : Sp} (hm : 1 ≤ m) (ok_L_valueIH : ∀ T : Txt K mg, FnOk P w K mg base CX0 m T.f_L_value T.d_L_value ["pot", "depth"] S) (hS : 0 < n → ∀ vs H Q E, sp_val (n - 1) vs H Q E → S vs H Q E) (T : Txt K mg) :
    FnOk P w K mg base CX0 (m + 1) T.f_L_value T.d_L_value ["pot", "depth"] (sp_val n) := by
  refine T.F_L_value.ok sc_L_value (fun vs H Q E h => ?_) (fun cdv A outer s H vs Q E hr h => ?_)
  · obtain ⟨p, l, rfl, _⟩ := h; rfl
  · obtain ⟨p, l, rfl, pot, k⟩ := h
    refine ⟨_, (pss_cons (ps_set (i := 2) sc_L_value.nd rfl (Or.inl rfl) (pe_call (ok_L_nextW T) (hr.mono (by omega)) (by rfl) T.g_L_next T.F_L_next.kp T.b_L_next .nil pass0 (pa_cons (pv 0) (pa_cons pe_int pa_nil))))
      (pss_cons (ps_if (pt_cmpR op_eq (pv 2) pe_int (nomark _)) (pss_one (ps_ret (pe_op op_sub (pe_call (ok_L_nextW T) (hr.mono (by omega)) (by rfl) T.g_L_next T.F_L_next.kp T.b_L_next .nil pass0 (pa_cons (pv 0) (pa_cons (pe_op op_pow pe_int pe_int) pa_nil))) (pe_call (ok_L_nextW T) (hr.mono (by omega)) (by rfl) T.g_L_next T.F_L_next.kp T.b_L_next .nil pass0 (pa_cons (pv 0) (pa_cons (pe_op op_pow pe_int pe_int) pa_nil)))))) pss_nil)
      (pss_cons (ps_if (PW.pt (pw_or (pt_cmpR op_eq (pv 2) pe_int (nomark _)) (pw_or1 (pt_cmpR op_eq (pv 1) pe_int (nomark _))))) (pss_one (ps_ret (pe_op op_sub (pe_call (ok_L_nextW T) (hr.mono (by omega)) (by rfl) T.g_L_next T.F_L_next.kp T.b_L_next .nil pass0 (pa_cons (pv 0) (pa_cons pe_int pa_nil))) pe_int))) pss_nil)
      (pss_cons (ps_if (pt_cmpR op_lt (pv 2) pe_int (nomark _)) (pss_one (ps_ret (pe_join pe_str (pe_lc (own := [("k", 3)]) (g := (gName 3)) (tt := tYes) (te := (tOp rIxS (tC (.str "0123:,()-a ")) (tCall sp_nextW [] E0 (tCons (tVar 0) (tCons (tC (.int 11)) tNil))))) rfl sc_L_value.nd (pi_range1 (by rfl) T.z_range (pa_cons (pe_call (ok_L_nextW T) (hr.mono (by omega)) (by rfl) T.g_L_next T.F_L_next.kp T.b_L_next .nil pass0 (pa_cons (pv 0) (pa_cons pe_int pa_nil))) pa_nil)) (blkOk_by (own := [("k", 3)]) (N := ["pot", "depth", "kind", "k"]) (sc := defScope s_L_value) (by decide +kernel)) (fun _ _ _ _ _ => (pg_name (i := 3) sc_L_value.nd rfl (Or.inl rfl))) (fun _ _ _ _ _ => pts_nil) (fun _ _ _ _ _ => (pe_ix ix_str pe_str (pe_call (ok_L_nextW T) (hr.mono (by omega)) (by rfl) T.g_L_next T.F_L_next.kp T.b_L_next .nil pass0 (pa_cons (pv 0) (pa_cons pe_int pa_nil))) (fun _ _ => rfl))))))) pss_nil)
      (pss_one (ps_ret (pe_callTy cq_tupOf (by rfl) T.z_tuple boot_tuple (pa_cons (pe_lc (own := [("k", 3)]) (g := (gName 3)) (tt := tYes) (te := (tCall S [] E0 (tCons (tVar 0) (tCons (tOp (rI0 fun i j => .int (i - j)) (tVar 1) (tC (.int 1))) tNil)))) rfl sc_L_value.nd (pi_range1 (by rfl) T.z_range (pa_cons (pe_call (ok_L_nextW T) (hr.mono (by omega)) (by rfl) T.g_L_next T.F_L_next.kp T.b_L_next .nil pass0 (pa_cons (pv 0) (pa_cons pe_int pa_nil))) pa_nil)) (blkOk_by (own := [("k", 3)]) (N := ["pot", "depth", "kind", "k"]) (sc := defScope s_L_value) (by decide +kernel)) (fun _ _ _ _ _ => (pg_name (i := 3) sc_L_value.nd rfl (Or.inl rfl))) (fun _ _ _ _ _ => pts_nil) (fun _ _ _ _ _ => (pe_call (ok_L_valueIH T) (hr.mono (by omega)) (by rfl) T.g_L_value T.F_L_value.kp T.b_L_value .nil pass0 (pa_cons (pv 0) (pa_cons (pe_op op_sub (pv 1) pe_int) pa_nil))))) pa_nil)))))))), ?_⟩
    (dsimp only [cxOf, Cx.nox, Cx.wish, L2.start, List.map, List.length, List.replicate, List.cons_append, List.nil_append, List.append_eq, Nat.reduceSub, Nat.reduceAdd])
    walk_at "my_rd"
    refine ⟨p, l, 6, rfl, pot, by omega, by decide, fun mm H1 m0 m1 pot1 kp1 => ?_⟩
    walk_at "my_rd"
    refine q_if2 (fun h => ?_) (fun h => ?_)
    · walk_at "my_rd"
      refine ⟨p, l, _, rfl, pot1, by decide +kernel, by decide +kernel, fun b H2 b0 b1 pot2 kp2 => ?_⟩
      walk_at "my_rd"
      refine ⟨p, l, _, rfl, pot2, by decide +kernel, by decide +kernel, fun c H3 c0 c1 pot3 kp3 => ?_⟩
      walk_at "my_rd"
      refine k (.num (b - c)) _ H3 pot3 ((kp1.trans kp2).trans kp3) (.int _) ?_
      rw [nk_num, decide_eq_true_eq]
      have e : ((10 : Int) ^ (40 : Int).toNat) = ((10 ^ 40 : Nat) : Int) := by decide +kernel
      rw [e] at b1 c1
      omega
    · have num : ∀ (b : Int) (H2 : Hp), 0 ≤ b → b < 30 → PotAt H2 p l → Kp p H1 H2 → Q (.int (b - 9)) H2 := fun b H2 b0 b1 pot2 kp2 => k (.num (b - 9)) _ H2 pot2 (kp1.trans kp2) (.int _) (num_nk (by omega))
      walk_at "my_rd"
      refine q_or2 (fun h => ?_) (fun h => ?_)
      · walk_at "my_rd"
        refine ⟨p, l, 30, rfl, pot1, by omega, by decide, fun b H2 b0 b1 pot2 kp2 => ?_⟩
        walk_at "my_rd"
        exact num b H2 b0 b1 pot2 kp2
      · walk_at "my_rd"
        refine q_if2 (fun h => ?_) (fun hn => ?_)
        · walk_at "my_rd"
          refine ⟨p, l, 30, rfl, pot1, by omega, by decide, fun b H2 b0 b1 pot2 kp2 => ?_⟩
          walk_at "my_rd"
          exact num b H2 b0 b1 pot2 kp2
        · have hn := dec_f hn
          obtain ⟨n, rfl⟩ : ∃ n', n = n' + 1 := ⟨n - 1, by omega⟩
          have hS := hS (by omega)
          walk_at "my_rd"
          refine q_if2 (fun h => ?_) (fun h => ?_)
          · walk_at "my_rd"
            unfold tM1
            refine q_c ⟨⟨_, rfl⟩, ?_⟩
            walk_at "my_rd"
            refine ⟨p, l, 13, rfl, pot1, by omega, by decide, fun c H2 c0 c1 pot2 kp2 => ?_⟩
            walk_at "my_rd"
            refine q_lcR ⟨c0, by omega⟩ (fun oa noa => ⟨fun i H' => ∃ ws : List Str, PotAt H' p l ∧ Kp p H1 H' ∧ H' oa = some (.lst (ws.map V.str)) ∧ ws.length = i ∧ ∀ x ∈ ws, x.length = 1 ∧ (tl x).all tx2 = true, ⟨[], pot2.new noa, kp2.new (fresh_of pot1 pot2 kp2 noa), upd_same, rfl, by simp⟩, ?_, ?_⟩)
            · rintro i H' hi ⟨ws, pot3, kp3, hoa, hl, h1⟩
              walk_at "my_rd"
              refine ⟨rfl, ?_⟩
              walk_at "my_rd"
              refine ⟨p, l, 11, rfl, pot3, by omega, by decide, fun b H4 b0 b1 pot4 kp4 => ?_⟩
              have nop : oa ≠ p := pot2.nep noa
              have nol : oa ≠ l := pot2.nel noa
              obtain ⟨ch, hch, hin⟩ := at_str (s := Str.ofString "0123:,()-a ") b0 (by show b < 11; omega)
              refine q_ixS (by decide +kernel) hch ?_
              refine q_accK (kp4.get hoa nop) (by rw [List.length_map]; exact small1000 (by omega)) ⟨ws ++ [⟨#[ch]⟩], pot4.upd nop nol, (kp3.trans kp4).new (fresh_of pot1 pot2 kp2 noa), by rw [upd_same, List.map_append]; rfl, by rw [List.length_append]; show ws.length + 1 = i + 1; omega, fun x hx => ?_⟩
              rcases List.mem_append.mp hx with q | q
              · exact h1 x q
              · rw [List.mem_singleton.mp q]
                refine ⟨rfl, ?_⟩
                show ([ch] : List Nat).all tx2 = true
                rw [List.all_cons, alpha_tx ch hin]
                rfl
            · rintro H3 ⟨ws, pot3, kp3, hoa, hl, h1⟩
              walk_at "my_rd"
              refine ⟨_, oa, ws, rfl, rfl, .inl (sqL hoa), by rw [ones_len fun x hx => (h1 x hx).1]; show ws.length + ws.length * 0 ≤ 16777216; omega, ?_⟩
              exact k (.text _) _ H3 pot3 (kp1.trans kp3) (.str _) (join_nk h1 (by omega))
          · walk_at "my_rd"
            refine ⟨p, l, 5, rfl, pot1, by omega, by decide, fun c H2 c0 c1 pot2 kp2 => ?_⟩
            walk_at "my_rd"
            refine q_lcR ⟨c0, by omega⟩ (fun oa noa => ⟨fun i H' => ∃ (vs : List V) (ks : List NestedKey), PotAt H' p l ∧ Kp p H1 H' ∧ H' oa = some (.lst vs) ∧ NVs H' ks vs ∧ vs.length = i ∧ ks.length = i ∧ nks n ks = true, ⟨[], [], pot2.new noa, kp2.new (fresh_of pot1 pot2 kp2 noa), upd_same, .nil, rfl, rfl, nks_nil⟩, ?_, ?_⟩)
            · rintro i H' hi ⟨vs, ks, pot3, kp3, hoa, hN, hl, hkl, h1⟩
              have nop : oa ≠ p := pot2.nep noa
              have nol : oa ≠ l := pot2.nel noa
              walk_at "my_rd"
              refine ⟨rfl, ?_⟩
              walk_at "my_rd"
              rw [show ((n + 1 : Nat) : Int) - 1 = (n : Nat) by omega]
              refine hS _ _ _ _ ⟨p, l, rfl, pot3, fun k2 v2 H4 pot4 kp4 hv2 hk2 => ?_⟩
              have hoa4 := kp4.get hoa nop
              obtain ⟨_, _, _, _, hp3, _⟩ := pot3
              have tp : ∀ b ys, H' b = some (.tup ys) → H4 b = some (.tup ys) := fun b ys q => kp4.get q (ne_of q hp3 (by intro z; cases z))
              have tq : ∀ b ys, H4 b = some (.tup ys) → upd H4 oa (.lst (vs ++ [v2])) b = some (.tup ys) := fun b ys q => upd_other (ne_of q hoa4 (by intro z; cases z)) q
              exact q_accK hoa4 (small1000 (by omega)) ⟨vs ++ [v2], ks ++ [k2], pot4.upd nop nol, (kp3.trans kp4).new (fresh_of pot1 pot2 kp2 noa), upd_same, NVs.snoc (NV.mono tq hv2) (NVs.mono tq (NVs.mono tp hN)), by rw [List.length_append]; show vs.length + 1 = i + 1; omega, by rw [List.length_append]; show ks.length + 1 = i + 1; omega, nks_snoc h1 hk2⟩
            · rintro H3 ⟨vs, ks, pot3, kp3, hoa, hN, hl, hkl, h1⟩
              walk_at "my_rd"
              refine q_tupL (sqL hoa) fun t nt => ?_
              have sm : Same H3 (upd H3 t (.tup vs)) := Same.new (Same.refl _) nt
              refine k (.tup ks) _ _ (pot3.same sm) ((kp1.trans kp3).trans (Same.kp sm)) (.tup upd_same (NVs.mono (fun b ys q => sm _ _ q) hN)) ?_
              rw [nk_tup, Bool.and_eq_true, Bool.and_eq_true]
              exact ⟨decide_eq_true (by omega), decide_eq_true (by omega), h1⟩
theorem ok_L_value (T : Txt K mg) : FnOk P w K mg base CX0 5 T.f_L_value T.d_L_value ["pot", "depth"] (sp_val 3) :=
  ok_L_valueS (m := 4) (n := 3) (by omega) (fun T => ok_L_valueS (m := 3) (n := 2) (by omega) (fun T => ok_L_valueS (m := 2) (n := 1) (by omega) (fun T => ok_L_valueS (m := 1) (n := 0) (by omega) (fun _ => ok_no) (fun h => absurd h (by omega)) T) (fun _ _ _ _ _ h => h) T) (fun _ _ _ _ _ h => h) T) (fun _ _ _ _ _ h => h) T
end

local macro_rules | `(tactic| walk_at "my_rd") => `(tactic| (repeat first
  | with_reducible refine q_tCons ?_
  | ((with_reducible apply q_var); (focus (exact rfl)))
  | with_reducible refine q_c ?_
  | with_reducible refine q_nx ?_
  | with_reducible refine q_bK ?_
  | with_reducible refine q_call ?_
  | with_reducible refine q_callK ?_
  | with_reducible refine q_tNil ?_
  | with_reducible refine q_cb ?_
  | with_reducible refine q_seq ?_
  | with_reducible refine q_asg ?_
  | with_reducible refine q_gName ?_
  | with_reducible refine q_op ?_
  | with_reducible refine q_test ?_
  | with_reducible refine q_tB ?_
  | with_reducible refine q_ifS ?_
  | with_reducible refine q_ret ?_
  | with_reducible refine q_rt ?_
  | with_reducible refine q_next ?_
  | with_reducible refine q_ifF ?_
  | with_reducible refine q_ifT ?_
  | with_reducible refine q_drop ?_
  | with_reducible refine q_and ?_
  | with_reducible refine q_or ?_
  | with_reducible refine q_andT ?_
  | with_reducible refine q_andF ?_
  | with_reducible refine q_orF ?_
  | with_reducible refine q_orT ?_
  | with_reducible refine q_andV ?_
  | with_reducible refine q_andVT ?_
  | with_reducible refine q_andVF ?_
  | with_reducible refine q_orV ?_
  | with_reducible refine q_gCons ?_
  | with_reducible refine q_gNil ?_
  | with_reducible refine q_tup ?_
  | with_reducible refine q_lst ?_
  | with_reducible refine q_not ?_
  | with_reducible refine q_notKT ?_
  | with_reducible refine q_notKF ?_
  | with_reducible refine q_I0 ?_
  | with_reducible refine q_eqI ?_
  | with_reducible refine q_neI ?_
  | ((with_reducible refine q_I ?_ ?_); first | decide | omega | exact ⟨by omega, by omega⟩ | exact ⟨by decide, by decide⟩ | exact .inl ⟨by omega, by omega⟩ | exact .inr ⟨by omega, by omega⟩ | exact .inr ⟨by decide, by decide⟩)
  | with_reducible refine q_eqS ?_
  | with_reducible refine q_neS ?_
  | with_reducible refine q_brk ?_
  | with_reducible refine q_ct ?_
  | with_reducible refine q_bk ?_
  | with_reducible refine q_cn ?_
  | with_reducible refine q_retN ?_
  | with_reducible refine q_gSub ?_
  | with_reducible refine q_for ?_
  | with_reducible refine q_iList ?_
  | with_reducible refine q_iTup ?_
  | with_reducible refine q_iRng1 ?_
  | with_reducible refine q_notK ?_
  | with_reducible refine q_orVT ?_
  | with_reducible refine q_orVF ?_
  | with_reducible refine q_notV ?_
  | with_reducible refine q_notVK ?_
  | with_reducible refine q_ifE ?_
  | with_reducible refine q_ifET ?_
  | with_reducible refine q_ifEF ?_
  | with_reducible refine q_yes ?_
  | with_reducible refine q_un ?_
  | with_reducible refine q_rU ?_
  | with_reducible refine q_abs ?_
  | with_reducible refine q_int1 ?_
  | with_reducible refine q_bm ?_
  | with_reducible refine q_bm0 ?_
  | with_reducible refine q_lc ?_
  | with_reducible refine q_keepT ?_
  | with_reducible refine q_keepF ?_
  | ((with_reducible apply q_aug); (focus (exact rfl)))
  | with_reducible refine q_ipI ?_
  | with_reducible refine q_chain ?_
  | with_reducible refine q_pairC ?_
  | with_reducible refine q_pairsK ?_
  | with_reducible refine q_pairN ?_
  | with_reducible refine q_fld ?_
  | with_reducible refine q_sFld ?_
  | with_reducible refine q_meth ?_
  | with_reducible refine q_makeK ?_
  | with_reducible refine q_isBl ?_
  | with_reducible refine q_notBl ?_
  | with_reducible refine q_sl ?_
  | with_reducible refine q_noPart ?_
  | with_reducible refine q_part ?_
  | with_reducible refine q_partK ?_
  | ((with_reducible apply q_mulStr); (focus (decide +kernel)))
  | with_reducible refine q_chT ?_
  | with_reducible refine q_chF ?_
  | with_reducible refine q_ord ?_
  | with_reducible refine q_iStr0 ?_
  | with_reducible refine q_iStr ?_
  | with_reducible refine q_tDIn ?_
  | with_reducible refine q_tDNotIn ?_
  | with_reducible refine q_tDGet ?_
  | with_reducible refine q_tDGet2 ?_
  | with_reducible refine q_tDGet1 ?_
  | with_reducible refine q_tDSetd ?_
  | ((with_reducible apply q_dG2a); (focus ((repeat first | (with_reducible exact upd_same) | (with_reducible assumption) | (with_reducible apply upd_new (by assumption)) | (with_reducible apply upd_other (by first | assumption | exact Ne.symm (by assumption))) | (with_reducible refine' Kp.get (by assumption) ?_ (by first | assumption | exact Ne.symm (by assumption))) | (with_reducible apply Same.get (by assumption))); done)))
  | ((with_reducible apply q_dSda); (focus ((repeat first | (with_reducible exact upd_same) | (with_reducible assumption) | (with_reducible apply upd_new (by assumption)) | (with_reducible apply upd_other (by first | assumption | exact Ne.symm (by assumption))) | (with_reducible refine' Kp.get (by assumption) ?_ (by first | assumption | exact Ne.symm (by assumption))) | (with_reducible apply Same.get (by assumption))); done)))
  | with_reducible refine q_sDPut ?_
  | ((with_reducible apply q_dInS); (focus ((repeat first | (with_reducible exact upd_same) | (with_reducible assumption) | (with_reducible apply upd_new (by assumption)) | (with_reducible apply upd_other (by first | assumption | exact Ne.symm (by assumption))) | (with_reducible refine' Kp.get (by assumption) ?_ (by first | assumption | exact Ne.symm (by assumption))) | (with_reducible apply Same.get (by assumption))); done)))
  | ((with_reducible apply q_dNInS); (focus ((repeat first | (with_reducible exact upd_same) | (with_reducible assumption) | (with_reducible apply upd_new (by assumption)) | (with_reducible apply upd_other (by first | assumption | exact Ne.symm (by assumption))) | (with_reducible refine' Kp.get (by assumption) ?_ (by first | assumption | exact Ne.symm (by assumption))) | (with_reducible apply Same.get (by assumption))); done)))
  | ((with_reducible apply q_dInI); (focus ((repeat first | (with_reducible exact upd_same) | (with_reducible assumption) | (with_reducible apply upd_new (by assumption)) | (with_reducible apply upd_other (by first | assumption | exact Ne.symm (by assumption))) | (with_reducible refine' Kp.get (by assumption) ?_ (by first | assumption | exact Ne.symm (by assumption))) | (with_reducible apply Same.get (by assumption))); done)))
  | ((with_reducible apply q_dNInI); (focus ((repeat first | (with_reducible exact upd_same) | (with_reducible assumption) | (with_reducible apply upd_new (by assumption)) | (with_reducible apply upd_other (by first | assumption | exact Ne.symm (by assumption))) | (with_reducible refine' Kp.get (by assumption) ?_ (by first | assumption | exact Ne.symm (by assumption))) | (with_reducible apply Same.get (by assumption))); done)))
  | ((with_reducible apply q_bmL); (focus ((repeat first | (with_reducible exact upd_same) | (with_reducible assumption) | (with_reducible apply upd_new (by assumption)) | (with_reducible apply upd_other (by first | assumption | exact Ne.symm (by assumption))) | (with_reducible refine' Kp.get (by assumption) ?_ (by first | assumption | exact Ne.symm (by assumption))) | (with_reducible apply Same.get (by assumption))); done)))
  | ((with_reducible apply q_bmL0); (focus ((repeat first | (with_reducible exact upd_same) | (with_reducible assumption) | (with_reducible apply upd_new (by assumption)) | (with_reducible apply upd_other (by first | assumption | exact Ne.symm (by assumption))) | (with_reducible refine' Kp.get (by assumption) ?_ (by first | assumption | exact Ne.symm (by assumption))) | (with_reducible apply Same.get (by assumption))); done)))
  | ((with_reducible apply q_ixLt); (focus ((repeat first | (with_reducible exact upd_same) | (with_reducible assumption) | (with_reducible apply upd_new (by assumption)) | (with_reducible apply upd_other (by first | assumption | exact Ne.symm (by assumption))) | (with_reducible refine' Kp.get (by assumption) ?_ (by first | assumption | exact Ne.symm (by assumption))) | (with_reducible apply Same.get (by assumption))); done)); (focus (exact rfl)))
  | ((with_reducible apply q_ixTt); (focus ((repeat first | (with_reducible exact upd_same) | (with_reducible assumption) | (with_reducible apply upd_new (by assumption)) | (with_reducible apply upd_other (by first | assumption | exact Ne.symm (by assumption))) | (with_reducible refine' Kp.get (by assumption) ?_ (by first | assumption | exact Ne.symm (by assumption))) | (with_reducible apply Same.get (by assumption))); done)); (focus (exact rfl)))
  | ((with_reducible apply q_lenLt); (focus ((repeat first | (with_reducible exact upd_same) | (with_reducible assumption) | (with_reducible apply upd_new (by assumption)) | (with_reducible apply upd_other (by first | assumption | exact Ne.symm (by assumption))) | (with_reducible refine' Kp.get (by assumption) ?_ (by first | assumption | exact Ne.symm (by assumption))) | (with_reducible apply Same.get (by assumption))); done)))
  | ((with_reducible apply q_lenTt); (focus ((repeat first | (with_reducible exact upd_same) | (with_reducible assumption) | (with_reducible apply upd_new (by assumption)) | (with_reducible apply upd_other (by first | assumption | exact Ne.symm (by assumption))) | (with_reducible refine' Kp.get (by assumption) ?_ (by first | assumption | exact Ne.symm (by assumption))) | (with_reducible apply Same.get (by assumption))); done)))
  | ((with_reducible apply q_append); (focus ((repeat first | (with_reducible exact upd_same) | (with_reducible assumption) | (with_reducible apply upd_new (by assumption)) | (with_reducible apply upd_other (by first | assumption | exact Ne.symm (by assumption))) | (with_reducible refine' Kp.get (by assumption) ?_ (by first | assumption | exact Ne.symm (by assumption))) | (with_reducible apply Same.get (by assumption))); done)); (focus ((first | (exact Nat.lt_of_ble_eq_true rfl) | (simp only [List.length_append, List.length_cons, List.length_nil, List.length_map]; exact small1000 (by omega))))))
  | ((with_reducible apply q_setL); (focus ((repeat first | (with_reducible exact upd_same) | (with_reducible assumption) | (with_reducible apply upd_new (by assumption)) | (with_reducible apply upd_other (by first | assumption | exact Ne.symm (by assumption))) | (with_reducible refine' Kp.get (by assumption) ?_ (by first | assumption | exact Ne.symm (by assumption))) | (with_reducible apply Same.get (by assumption))); done)); (focus (exact rfl)))
  | with_reducible refine q_ifNT ?_
  | with_reducible refine q_ifNF ?_
  | with_reducible refine q_andNT ?_
  | with_reducible refine q_andNF ?_
  | with_reducible refine q_orNT ?_
  | with_reducible refine q_orNF ?_
  | with_reducible refine q_bKNT ?_
  | with_reducible refine q_bKNF ?_
  | with_reducible refine q_tNGet ?_
  | with_reducible refine q_tNIn ?_
  | with_reducible refine q_sNPut ?_
  | with_reducible refine q_sFldAug ?_
  | with_reducible refine q_sDAug ?_
  | with_reducible refine q_sDDel ?_
  | with_reducible refine q_forX ?_
  | with_reducible refine q_tMake ?_
  | ((with_reducible apply q_dG1a); (focus ((repeat first | (with_reducible exact upd_same) | (with_reducible assumption) | (with_reducible apply upd_new (by assumption)) | (with_reducible apply upd_other (by first | assumption | exact Ne.symm (by assumption))) | (with_reducible refine' Kp.get (by assumption) ?_ (by first | assumption | exact Ne.symm (by assumption))) | (with_reducible apply Same.get (by assumption))); done)))))
open TL
/-! whole numbers told -/
def sp_isint (K : PySem.W.Frag) : Sp := fun vs H Q _ => ∃ x : V, vs = [x] ∧ scV x = true ∧ Q (.bl (match x with | .int _ => true | _ => false)) H
section
variable {P : Program} {w : World} {K : PySem.W.Frag} {mg : Str → Option Value} {base : Heap}
theorem ok_L_is_int (T : Txt K mg) : FnOk P w K mg base CX0 1 T.f_L_is_int T.d_L_is_int ["value"] (sp_isint K) := by
  refine T.F_L_is_int.ok sc_L_is_int (fun vs H Q E h => ?_) (fun cdv A outer s H vs Q E hr h => ?_)
  · obtain ⟨x, rfl, _⟩ := h; rfl
  · obtain ⟨x, rfl, hx, k⟩ := h
    refine ⟨_, (pss_one (ps_ret (pe_and (pe_callB call_isi (by rfl) T.z_isinstance boot_isinstance (pa_cons (pv 0) (pa_cons (pe_bltn (v := .ty "int") (by rfl) T.z_int boot_int rfl) pa_nil))) (pe_one (pe_not (pe_callB call_isi (by rfl) T.z_isinstance boot_isinstance (pa_cons (pv 0) (pa_cons (pe_bltn (v := .ty "bool") (by rfl) T.z_bool boot_bool rfl) pa_nil)))))))), ?_⟩
    (dsimp only [cxOf, Cx.nox, Cx.wish, L2.start, List.map, List.length, List.replicate, List.cons_append, List.nil_append, List.append_eq, Nat.reduceSub, Nat.reduceAdd])
    walk_at "my_rd"
    rcases scV_ty (K := K) (H := H) hx with ⟨rfl, ht⟩ | ⟨b, rfl, ht⟩ | ⟨i, rfl, ht⟩ | ⟨z, rfl, ht⟩
    · refine q_is ht (b := false) (by decide +kernel) ?_
      walk_at "my_rd"
      exact k
    · refine q_is ht (b := true) (by decide +kernel) ?_
      walk_at "my_rd"
      refine q_is ht (b := true) (by decide +kernel) ?_
      walk_at "my_rd"
      exact k
    · refine q_is ht (b := true) (by decide +kernel) ?_
      walk_at "my_rd"
      refine q_is ht (b := false) (by decide +kernel) ?_
      walk_at "my_rd"
      exact k
    · refine q_is ht (b := false) (by decide +kernel) ?_
      walk_at "my_rd"
      exact k
end

/-! the law's own writing and comparing -/
theorem NVs.get {H : Hp} : ∀ {ks : List NestedKey} {vs : List V} {j : Nat} {k : NestedKey}, NVs H ks vs → ks[j]? = some k → ∃ v, vs[j]? = some v ∧ NV H k v
  | _, _, _, _, .nil, h => by simp at h
  | _, _, 0, _, .cons a _, h => by
    obtain rfl := Option.some.inj h
    exact ⟨_, rfl, a⟩
  | _, _, j + 1, _, .cons _ b, h => NVs.get (j := j) b h
theorem NVs.lenE {H : Hp} : ∀ {ks : List NestedKey} {vs : List V}, NVs H ks vs → vs.length = ks.length
  | _, _, .nil => rfl
  | _, _, .cons _ b => congrArg (· + 1) (NVs.lenE b)
theorem nks_get : ∀ {ks : List NestedKey} {n j : Nat} {k : NestedKey}, nks n ks = true → ks[j]? = some k → nk n k = true
  | [], _, _, _, _, h => by simp at h
  | x :: ks, n, 0, k, h, e => by
    rw [nks_cons, Bool.and_eq_true] at h
    obtain rfl := Option.some.inj e
    exact h.1
  | x :: ks, n, j + 1, k, h, e => by
    rw [nks_cons, Bool.and_eq_true] at h
    exact nks_get (j := j) h.2 e
theorem all_rep : ∀ n : Nat, (List.replicate n true).all id = true
  | 0 => rfl
  | n + 1 => by rw [List.replicate_succ, List.all_cons, all_rep n]; rfl
def sp_same (K : PySem.W.Frag) (n : Nat) : Sp := fun vs H Q _ => ∃ (k : NestedKey) (v1 v2 : V), vs = [v1, v2] ∧ NV H k v1 ∧ NV H k v2 ∧ nk n k = true ∧ n ≤ 60 ∧ ∀ H', Same H H' → Q (.bl true) H'
def sp_wri (n : Nat) : Sp := fun vs H Q _ => ∃ (k : NestedKey) (v : V), vs = [v] ∧ NV H k v ∧ nk n k = true ∧ (wrL k).length ≤ 100000 ∧ ∀ H', Same H H' → Q (.str (strL (wrL k))) H'
theorem wr_flat : ∀ ks : List NestedKey, ((ks.map wrL).flatten).length ≤ (wrTail ks).length
  | [] => Nat.zero_le _
  | k :: ks => by
    have := wr_flat ks
    show (wrL k ++ (ks.map wrL).flatten).length ≤ (44 :: (wrL k ++ wrTail ks)).length
    rw [List.length_append, List.length_cons, List.length_append]
    omega
theorem wrTail_le (ks : List NestedKey) : (wrTail ks).length ≤ (wrsL ks).length + 1 := by
  cases ks with
  | nil => exact Nat.zero_le _
  | cons k ks => show (44 :: (wrL k ++ wrTail ks)).length ≤ (wrL k ++ wrTail ks).length + 1; simp
theorem wrTail_get : ∀ {ks : List NestedKey} {j : Nat} {k : NestedKey}, ks[j]? = some k → (wrL k).length ≤ (wrTail ks).length
  | [], _, _, h => by simp at h
  | x :: ks, 0, k, h => by
    obtain rfl := Option.some.inj h
    show _ ≤ (44 :: (wrL x ++ wrTail ks)).length
    rw [List.length_cons, List.length_append]
    omega
  | x :: ks, j + 1, k, h => by
    have := wrTail_get (ks := ks) (j := j) h
    show _ ≤ (44 :: (wrL x ++ wrTail ks)).length
    rw [List.length_cons, List.length_append]
    omega
section
variable {P : Program} {w : World} {K : PySem.W.Frag} {mg : Str → Option Value} {base : Heap}
theorem ok_L_sameS {m n : Nat} {S : Sp} (hm : 1 ≤ m) (ok_L_sameIH : ∀ T : Txt K mg, FnOk P w K mg base CX0 m T.f_L_same T.d_L_same ["found", "value"] S) (hS : 0 < n → ∀ vs H Q E, sp_same K (n - 1) vs H Q E → S vs H Q E) (T : Txt K mg) :
    FnOk P w K mg base CX0 (m + 1) T.f_L_same T.d_L_same ["found", "value"] (sp_same K n) := by
  refine T.F_L_same.ok sc_L_same (fun vs H Q E h => ?_) (fun cdv A outer s H vs Q E hr h => ?_)
  · obtain ⟨k, v1, v2, rfl, _⟩ := h; rfl
  · obtain ⟨kk, v1, v2, rfl, h1, h2, hk, hn60, k⟩ := h
    have sh := nk_sh hk hn60
    have ly := (nk_lay kk hk).1
    have d1 : Dp K H v1 kk.data := (NV.tdp h1).dp
    have d2 : Dp K H v2 kk.data := (NV.tdp h2).dp
    refine ⟨_, (pss_cons (ps_if (pt_cmpR op_isN (pv 1) pe_non (nomark _)) (pss_one (ps_ret (pe_cmpR op_isN (pv 0) pe_non (nomark _)))) pss_nil)
      (pss_cons (ps_if (pt_val (pe_callB call_isi (by rfl) T.z_isinstance boot_isinstance (pa_cons (pv 1) (pa_cons (pe_bltn (v := .ty "bool") (by rfl) T.z_bool boot_bool rfl) pa_nil)))) (pss_one (ps_ret (pe_and (pe_callB call_isi (by rfl) T.z_isinstance boot_isinstance (pa_cons (pv 0) (pa_cons (pe_bltn (v := .ty "bool") (by rfl) T.z_bool boot_bool rfl) pa_nil))) (pe_one (pe_cmpR (op_eqD hr.units) (pv 0) (pv 1) (nomark _)))))) pss_nil)
      (pss_cons (ps_if (pt_val (pe_callB call_isi (by rfl) T.z_isinstance boot_isinstance (pa_cons (pv 1) (pa_cons (pe_bltn (v := .ty "int") (by rfl) T.z_int boot_int rfl) pa_nil)))) (pss_one (ps_ret (pe_and (pe_call (ok_L_is_int T) (hr.mono (by omega)) (by rfl) T.g_L_is_int T.F_L_is_int.kp T.b_L_is_int .nil pass0 (pa_cons (pv 0) pa_nil)) (pe_one (pe_cmpR (op_eqD hr.units) (pv 0) (pv 1) (nomark _)))))) pss_nil)
      (pss_cons (ps_if (pt_val (pe_callB call_isi (by rfl) T.z_isinstance boot_isinstance (pa_cons (pv 1) (pa_cons (pe_bltn (v := .ty "str") (by rfl) T.z_str boot_str rfl) pa_nil)))) (pss_one (ps_ret (pe_and (pe_callB call_isi (by rfl) T.z_isinstance boot_isinstance (pa_cons (pv 0) (pa_cons (pe_bltn (v := .ty "str") (by rfl) T.z_str boot_str rfl) pa_nil))) (pe_one (pe_cmpR (op_eqD hr.units) (pv 0) (pv 1) (nomark _)))))) pss_nil)
      (pss_cons (ps_if (PW.pt (pw_or (pt_cmpR op_ne (pe_callB call_isi (by rfl) T.z_isinstance boot_isinstance (pa_cons (pv 1) (pa_cons (pe_bltn (v := .ty "list") (by rfl) T.z_list boot_list rfl) pa_nil))) (pe_callB call_isi (by rfl) T.z_isinstance boot_isinstance (pa_cons (pv 0) (pa_cons (pe_bltn (v := .ty "list") (by rfl) T.z_list boot_list rfl) pa_nil))) (nomark _)) (pw_or1 (pt_cmpR op_ne (pe_callB call_isi (by rfl) T.z_isinstance boot_isinstance (pa_cons (pv 1) (pa_cons (pe_bltn (v := .ty "tuple") (by rfl) T.z_tuple boot_tuple rfl) pa_nil))) (pe_callB call_isi (by rfl) T.z_isinstance boot_isinstance (pa_cons (pv 0) (pa_cons (pe_bltn (v := .ty "tuple") (by rfl) T.z_tuple boot_tuple rfl) pa_nil))) (nomark _))))) (pss_one (ps_ret pe_bl)) pss_nil)
      (pss_one (ps_ret (pe_and (pe_cmpR op_eq (pe_callB cq_len (by rfl) T.z_len boot_len (pa_cons (pv 0) pa_nil)) (pe_callB cq_len (by rfl) T.z_len boot_len (pa_cons (pv 1) pa_nil)) (nomark _)) (pe_one (pe_callB (cr_all rfl) (by rfl) T.z_all boot_all (pa_cons (pe_lc (own := [("k", 2)]) (g := (gName 2)) (tt := tYes) (te := (tCall S [] E0 (tCons (tOp (rIxT K) (tVar 0) (tVar 2)) (tCons (tOp (rIxT K) (tVar 1) (tVar 2)) tNil)))) rfl sc_L_same.nd (pi_range1 (by rfl) T.z_range (pa_cons (pe_callB cq_len (by rfl) T.z_len boot_len (pa_cons (pv 1) pa_nil)) pa_nil)) (blkOk_by (own := [("k", 2)]) (N := ["found", "value", "k"]) (sc := defScope s_L_same) (by decide +kernel)) (fun _ _ _ _ _ => (pg_name (i := 2) sc_L_same.nd rfl (Or.inl rfl))) (fun _ _ _ _ _ => pts_nil) (fun _ _ _ _ _ => (pe_call (ok_L_sameIH T) (hr.mono (by omega)) (by rfl) T.g_L_same T.F_L_same.kp T.b_L_same .nil pass0 (pa_cons (pe_ix ix_tup (pv 0) (pv 2) (fun _ _ => rfl)) (pa_cons (pe_ix ix_tup (pv 1) (pv 2) (fun _ _ => rfl)) pa_nil))))) pa_nil))))))))))), ?_⟩
    (dsimp only [cxOf, Cx.nox, Cx.wish, L2.start, List.map, List.length, List.replicate, List.cons_append, List.nil_append, List.append_eq, Nat.reduceSub, Nat.reduceAdd])
    walk_at "my_rd"
    refine q_isN' ?_
    cases kk with
    | none => exact (nk_none hk).elim
    | num i =>
      cases h1
      cases h2
      rw [show decide (V.int i = V.non) = false by simp]
      walk_at "my_rd"
      refine q_is (.base (.int i)) (b := false) (by decide +kernel) ?_
      walk_at "my_rd"
      refine q_is (.base (.int i)) (b := true) (by decide +kernel) ?_
      walk_at "my_rd"
      refine ⟨.int i, rfl, rfl, ?_⟩
      show andVK _ _ _ (.bl true) H
      walk_at "my_rd"
      refine q_eqD d1 d2 sh sh ?_
      rw [SeqAt.eqv_refl _ ly]
      exact k H (Same.refl _)
    | text x =>
      cases h1
      cases h2
      rw [show decide (V.str x = V.non) = false by simp]
      walk_at "my_rd"
      refine q_is (.base (.str x)) (b := false) (by decide +kernel) ?_
      walk_at "my_rd"
      refine q_is (.base (.str x)) (b := false) (by decide +kernel) ?_
      walk_at "my_rd"
      refine q_is (.base (.str x)) (b := true) (by decide +kernel) ?_
      walk_at "my_rd"
      refine q_is (.base (.str x)) (b := true) (by decide +kernel) ?_
      walk_at "my_rd"
      refine q_eqD d1 d2 sh sh ?_
      rw [SeqAt.eqv_refl _ ly]
      exact k H (Same.refl _)
    | tup ks =>
      obtain ⟨a, hv1⟩ : ∃ a, v1 = .ref a := by cases h1 with | tup _ _ => exact ⟨_, rfl⟩
      obtain ⟨b, hv2⟩ : ∃ b, v2 = .ref b := by cases h2 with | tup _ _ => exact ⟨_, rfl⟩
      subst hv1 hv2
      obtain ⟨_, vs, e1, ha, n1⟩ := NV.tupOf h1
      obtain ⟨_, us, e2, hb, n2⟩ := NV.tupOf h2
      injection e1 with e1
      injection e2 with e2
      subst e1 e2
      have l1 := n1.lenE
      have l2 := n2.lenE
      rw [nk_tup, Bool.and_eq_true, Bool.and_eq_true, decide_eq_true_eq, decide_eq_true_eq] at hk
      have hS := hS hk.1
      rw [show decide (V.ref b = V.non) = false by simp]
      walk_at "my_rd"
      refine q_is (.base (.tup hb)) (b := false) (by decide +kernel) ?_
      walk_at "my_rd"
      refine q_is (.base (.tup hb)) (b := false) (by decide +kernel) ?_
      walk_at "my_rd"
      refine q_is (.base (.tup hb)) (b := false) (by decide +kernel) ?_
      walk_at "my_rd"
      refine q_is (.base (.tup hb)) (b := false) (by decide +kernel) ?_
      walk_at "my_rd"
      refine q_is (.base (.tup ha)) (b := false) (by decide +kernel) ?_
      refine q_ne rfl ?_
      rw [show (!decide (V.bl false = V.bl false)) = false by simp]
      walk_at "my_rd"
      refine q_is (.base (.tup hb)) (b := true) (by decide +kernel) ?_
      walk_at "my_rd"
      refine q_is (.base (.tup ha)) (b := true) (by decide +kernel) ?_
      refine q_ne rfl ?_
      rw [show (!decide (V.bl true = V.bl true)) = false by simp]
      walk_at "my_rd"
      rw [decide_eq_true (show (vs.length : Int) = (us.length : Int) by omega)]
      walk_at "my_rd"
      refine q_lcR ⟨by omega, by omega⟩ (fun D nD => ⟨fun j H' => Same H H' ∧ H' D = some (.lst ((List.replicate j true).map V.bl)), ⟨Same.new (Same.refl _) nD, upd_same⟩, ?_, ?_⟩)
      · rintro j H' hj ⟨sm, hD⟩
        have hjk : j < ks.length := by omega
        obtain ⟨x1, g1, m1⟩ := n1.get (List.getElem?_eq_getElem hjk)
        obtain ⟨x2, g2, m2⟩ := n2.get (List.getElem?_eq_getElem hjk)
        walk_at "my_rd"
        refine ⟨rfl, ?_⟩
        walk_at "my_rd"
        refine q_ixT (sqT (sm _ _ ha)) (at_int rfl g1) ?_
        walk_at "my_rd"
        refine q_ixT (sqT (sm _ _ hb)) (at_int rfl g2) ?_
        walk_at "my_rd"
        refine hS _ _ _ _ ⟨ks[j], x1, x2, rfl, NV.mono (fun b ys q => sm _ _ q) m1, NV.mono (fun b ys q => sm _ _ q) m2, nks_get hk.2.2 (List.getElem?_eq_getElem hjk), by omega, fun H3 sm3 => ?_⟩
        refine q_accK (sm3 _ _ hD) (by rw [List.length_map, List.length_replicate]; exact small1000 (by omega)) ⟨fun c o hc => upd_other (ne_of_none hc nD) (sm3 _ _ (sm _ _ hc)), ?_⟩
        rw [upd_same, List.replicate_succ', List.map_append]
        rfl
      · rintro H' ⟨sm, hD⟩
        walk_at "my_rd"
        refine q_all (sqL hD) ?_
        rw [all_rep]
        exact k H' sm
theorem ok_L_writtenS {m n : Nat} {S : Sp} (hm : 1 ≤ m) (ok_L_writtenIH : ∀ T : Txt K mg, FnOk P w K mg base CX0 m T.f_L_written T.d_L_written ["value"] S) (hS : 0 < n → ∀ vs H Q E, sp_wri (n - 1) vs H Q E → S vs H Q E) (T : Txt K mg) :
    FnOk P w K mg base CX0 (m + 1) T.f_L_written T.d_L_written ["value"] (sp_wri n) := by
  refine T.F_L_written.ok sc_L_written (fun vs H Q E h => ?_) (fun cdv A outer s H vs Q E hr h => ?_)
  · obtain ⟨k, v, rfl, _⟩ := h; rfl
  · obtain ⟨kk, v, rfl, h1, hk, hlen, k⟩ := h
    refine ⟨_, (pss_cons (ps_if (pt_val (pe_callB call_isi (by rfl) T.z_isinstance boot_isinstance (pa_cons (pv 0) (pa_cons (pe_bltn (v := .ty "int") (by rfl) T.z_int boot_int rfl) pa_nil)))) (pss_one (ps_ret (pe_callTy cq_strInt (by rfl) T.z_str boot_str (pa_cons (pv 0) pa_nil)))) pss_nil)
      (pss_cons (ps_if (pt_val (pe_callB call_isi (by rfl) T.z_isinstance boot_isinstance (pa_cons (pv 0) (pa_cons (pe_bltn (v := .ty "str") (by rfl) T.z_str boot_str rfl) pa_nil)))) (pss_one (ps_ret (pe_op oq_addStr (pe_op oq_addStr (pe_callTy cq_strInt (by rfl) T.z_str boot_str (pa_cons (pe_callB cq_lenS (by rfl) T.z_len boot_len (pa_cons (pv 0) pa_nil)) pa_nil)) pe_str) (pv 0)))) pss_nil)
      (pss_one (ps_ret (pe_op oq_addStr (pe_op oq_addStr pe_str (pe_join pe_str (pe_lc (own := [("part", 1)]) (g := (gName 1)) (tt := tYes) (te := (tCall S [] E0 (tCons (tVar 1) tNil))) rfl sc_L_written.nd (pi_tup (pv 0)) (blkOk_by (own := [("part", 1)]) (N := ["value", "part"]) (sc := defScope s_L_written) (by decide +kernel)) (fun _ _ _ _ _ => (pg_name (i := 1) sc_L_written.nd rfl (Or.inl rfl))) (fun _ _ _ _ _ => pts_nil) (fun _ _ _ _ _ => (pe_call (ok_L_writtenIH T) (hr.mono (by omega)) (by rfl) T.g_L_written T.F_L_written.kp T.b_L_written .nil pass0 (pa_cons (pv 1) pa_nil)))))) pe_str))))), ?_⟩
    (dsimp only [cxOf, Cx.nox, Cx.wish, L2.start, List.map, List.length, List.replicate, List.cons_append, List.nil_append, List.append_eq, Nat.reduceSub, Nat.reduceAdd])
    walk_at "my_rd"
    cases kk with
    | none => exact (nk_none hk).elim
    | num i =>
      cases h1
      rw [nk_num, decide_eq_true_eq] at hk
      refine q_is (.base (.int i)) (b := true) (by decide +kernel) ?_
      walk_at "my_rd"
      refine q_strInt (log_lt (Nat.lt_of_lt_of_le hk (Nat.pow_le_pow_right (by omega) (by omega)))) ?_
      rw [show Str.ofString (toString i) = strL (wrL (.num i)) from tl_inj (by rw [tl_int]; rfl)]
      exact k H (Same.refl _)
    | text x =>
      cases h1
      have hl : x.length ≤ 100 := by
        rw [nk_text, Bool.and_eq_true, decide_eq_true_eq] at hk
        exact hk.1
      have hnl := num_len (n := x.length) (m := 3) (by omega) (by omega)
      have e : sizeLine = 16777216 := sizeLine_eq
      refine q_is (.base (.str x)) (b := false) (by decide +kernel) ?_
      walk_at "my_rd"
      refine q_is (.base (.str x)) (b := true) (by decide +kernel) ?_
      walk_at "my_rd"
      refine q_lenS (by omega) ?_
      walk_at "my_rd"
      refine q_strInt (Nat.lt_of_le_of_lt (Nat.log2_le_self _) (by omega)) ?_
      rw [show Str.ofString (toString ((x.length : Nat) : Int)) = strL (numL x.length) from tl_inj (by rw [tl_num]; rfl)]
      walk_at "my_rd"
      refine q_addStr (by show (numL x.length).length + 1 ≤ _; omega) ?_
      have hl2 : (strL (numL x.length) ++ Str.ofString ":").length = (numL x.length).length + 1 := by rw [tl_len, tl_append, List.length_append]; rfl
      walk_at "my_rd"
      refine q_addStr (by omega) ?_
      rw [show (strL (numL x.length) ++ Str.ofString ":") ++ x = strL (wrL (.text x)) from tl_inj (by
        rw [tl_append, tl_append]
        show (numL x.length ++ [58]) ++ tl x = numL x.length ++ 58 :: tl x
        rw [List.append_assoc]
        rfl)]
      exact k H (Same.refl _)
    | tup ks =>
      obtain ⟨a, hv1⟩ : ∃ a, v = .ref a := by cases h1 with | tup _ _ => exact ⟨_, rfl⟩
      subst hv1
      obtain ⟨_, vs, e1, ha, n1⟩ := NV.tupOf h1
      injection e1 with e1
      subst e1
      have l1 := n1.lenE
      rw [nk_tup, Bool.and_eq_true, Bool.and_eq_true, decide_eq_true_eq, decide_eq_true_eq] at hk
      have hS := hS hk.1
      have e : sizeLine = 16777216 := sizeLine_eq
      have hwl : (wrsL ks).length + 2 ≤ 100000 := by
        have : (40 :: (wrsL ks ++ [41])).length ≤ 100000 := hlen
        rw [List.length_cons, List.length_append] at this
        exact this
      refine q_is (.base (.tup ha)) (b := false) (by decide +kernel) ?_
      walk_at "my_rd"
      refine q_is (.base (.tup ha)) (b := false) (by decide +kernel) ?_
      walk_at "my_rd"
      unfold tM1
      refine q_c ⟨⟨_, rfl⟩, ?_⟩
      walk_at "my_rd"
      refine q_lcT (sqT ha) (fun D nD => ⟨fun j H' => ∃ ws : List Str, Same H H' ∧ H' D = some (.lst (ws.map V.str)) ∧ ws.length = j ∧ ws.map tl = (ks.take j).map wrL, ⟨[], Same.new (Same.refl _) nD, upd_same, rfl, by rw [List.take_zero]; rfl⟩, fun j H' _ ⟨_, sm, _⟩ => sqT (sm _ _ ha), ?_, ?_⟩)
      · rintro j x H' hx ⟨ws, sm, hD, hwl2, hws⟩
        have hjl : j < vs.length := (List.getElem?_eq_some_iff.mp hx).1
        have hjk : j < ks.length := by omega
        have hkj := List.getElem?_eq_getElem hjk
        obtain ⟨x', g1, m1⟩ := n1.get hkj
        obtain rfl := Option.some.inj (hx.symm.trans g1)
        have hle := wrTail_get hkj
        have hle2 := wrTail_le ks
        walk_at "my_rd"
        refine ⟨rfl, ?_⟩
        walk_at "my_rd"
        refine hS _ _ _ _ ⟨ks[j], x, rfl, NV.mono (fun b ys q => sm _ _ q) m1, nks_get hk.2.2 hkj, by omega, fun H3 sm3 => ?_⟩
        refine q_accK (sm3 _ _ hD) (by rw [List.length_map]; exact small1000 (by omega)) ⟨ws ++ [strL (wrL ks[j])], fun c o hc => upd_other (ne_of_none hc nD) (sm3 _ _ (sm _ _ hc)), by rw [upd_same, List.map_append]; rfl, by rw [List.length_append]; show ws.length + 1 = j + 1; omega, ?_⟩
        rw [List.map_append, hws, List.take_add_one, hkj, List.map_append]
        rfl
      · rintro H' ⟨ws, sm, hD, hwl2, hws⟩
        rw [List.take_of_length_le (by omega)] at hws
        have f1 := wr_flat ks
        have f2 := wrTail_le ks
        have f3 : (ws.map (·.length)).sum = ((ks.map wrL).flatten).length := by rw [sum_len, hws]
        have ej : tl (Txt.join (Str.ofString ",") ws) = wrsL ks := by
          rw [join_eq, tl_join, hws]
          exact joinL_wr ks
        walk_at "my_rd"
        refine ⟨_, D, ws, rfl, rfl, .inl (sqL hD), by rw [f3]; show _ + ws.length * 1 ≤ _; omega, ?_⟩
        have lj : (Txt.join (Str.ofString ",") ws).length = (wrsL ks).length := by rw [tl_len, ej]
        generalize Txt.join (Str.ofString ",") ws = jn at ej lj
        refine q_addStr (by show 1 + jn.length ≤ _; omega) ?_
        have l2 : (Str.ofString "(" ++ jn).length = 1 + jn.length := by rw [tl_len, tl_append, List.length_append]; rfl
        walk_at "my_rd"
        refine q_addStr (by rw [l2]; show 1 + jn.length + 1 ≤ _; omega) ?_
        rw [show (Str.ofString "(" ++ jn) ++ Str.ofString ")" = strL (wrL (.tup ks)) from tl_inj (by
          rw [tl_append, tl_append, ej]
          rfl)]
        exact k H' sm
end
section
variable {P : Program} {w : World} {K : PySem.W.Frag} {mg : Str → Option Value} {base : Heap}
theorem ok_L_sameN : ∀ (n : Nat) (T : Txt K mg), FnOk P w K mg base CX0 (n + 2) T.f_L_same T.d_L_same ["found", "value"] (sp_same K n)
  | 0, T => ok_L_sameS (m := 1) (by omega) (fun _ => ok_no) (fun h => absurd h (by omega)) T
  | n + 1, T => ok_L_sameS (m := n + 2) (n := n + 1) (by omega) (ok_L_sameN n) (fun _ _ _ _ _ h => h) T
theorem ok_L_same (T : Txt K mg) : FnOk P w K mg base CX0 12 T.f_L_same T.d_L_same ["found", "value"] (sp_same K 10) := ok_L_sameN 10 T
theorem ok_L_writtenN : ∀ (n : Nat) (T : Txt K mg), FnOk P w K mg base CX0 (n + 2) T.f_L_written T.d_L_written ["value"] (sp_wri n)
  | 0, T => ok_L_writtenS (m := 1) (by omega) (fun _ => ok_no) (fun h => absurd h (by omega)) T
  | n + 1, T => ok_L_writtenS (m := n + 2) (n := n + 1) (by omega) (ok_L_writtenN n) (fun _ _ _ _ _ h => h) T
theorem ok_L_written (T : Txt K mg) : FnOk P w K mg base CX0 12 T.f_L_written T.d_L_written ["value"] (sp_wri 10) := ok_L_writtenN 10 T
end

local macro_rules | `(tactic| walk_at "my_rd") => `(tactic| (repeat first
  | with_reducible refine q_tCons ?_
  | ((with_reducible apply q_var); (focus (exact rfl)))
  | with_reducible refine q_c ?_
  | with_reducible refine q_nx ?_
  | with_reducible refine q_bK ?_
  | with_reducible refine q_call ?_
  | with_reducible refine q_callK ?_
  | with_reducible refine q_tNil ?_
  | with_reducible refine q_cb ?_
  | with_reducible refine q_seq ?_
  | with_reducible refine q_asg ?_
  | with_reducible refine q_gName ?_
  | with_reducible refine q_op ?_
  | with_reducible refine q_test ?_
  | with_reducible refine q_tB ?_
  | with_reducible refine q_ifS ?_
  | with_reducible refine q_ret ?_
  | with_reducible refine q_rt ?_
  | with_reducible refine q_next ?_
  | with_reducible refine q_ifF ?_
  | with_reducible refine q_ifT ?_
  | with_reducible refine q_drop ?_
  | with_reducible refine q_and ?_
  | with_reducible refine q_or ?_
  | with_reducible refine q_andT ?_
  | with_reducible refine q_andF ?_
  | with_reducible refine q_orF ?_
  | with_reducible refine q_orT ?_
  | with_reducible refine q_andV ?_
  | with_reducible refine q_andVT ?_
  | with_reducible refine q_andVF ?_
  | with_reducible refine q_orV ?_
  | with_reducible refine q_gCons ?_
  | with_reducible refine q_gNil ?_
  | with_reducible refine q_tup ?_
  | with_reducible refine q_lst ?_
  | with_reducible refine q_not ?_
  | with_reducible refine q_notKT ?_
  | with_reducible refine q_notKF ?_
  | with_reducible refine q_I0 ?_
  | with_reducible refine q_eqI ?_
  | with_reducible refine q_neI ?_
  | ((with_reducible refine q_I ?_ ?_); first | decide | omega | exact ⟨by omega, by omega⟩ | exact ⟨by decide, by decide⟩ | exact .inl ⟨by omega, by omega⟩ | exact .inr ⟨by omega, by omega⟩ | exact .inr ⟨by decide, by decide⟩)
  | with_reducible refine q_eqS ?_
  | with_reducible refine q_neS ?_
  | with_reducible refine q_brk ?_
  | with_reducible refine q_ct ?_
  | with_reducible refine q_bk ?_
  | with_reducible refine q_cn ?_
  | with_reducible refine q_retN ?_
  | with_reducible refine q_gSub ?_
  | with_reducible refine q_for ?_
  | with_reducible refine q_iList ?_
  | with_reducible refine q_iTup ?_
  | with_reducible refine q_iRng1 ?_
  | with_reducible refine q_notK ?_
  | with_reducible refine q_orVT ?_
  | with_reducible refine q_orVF ?_
  | with_reducible refine q_notV ?_
  | with_reducible refine q_notVK ?_
  | with_reducible refine q_ifE ?_
  | with_reducible refine q_ifET ?_
  | with_reducible refine q_ifEF ?_
  | with_reducible refine q_yes ?_
  | with_reducible refine q_un ?_
  | with_reducible refine q_rU ?_
  | with_reducible refine q_abs ?_
  | with_reducible refine q_int1 ?_
  | with_reducible refine q_bm ?_
  | with_reducible refine q_bm0 ?_
  | with_reducible refine q_lc ?_
  | with_reducible refine q_keepT ?_
  | with_reducible refine q_keepF ?_
  | ((with_reducible apply q_aug); (focus (exact rfl)))
  | with_reducible refine q_ipI ?_
  | with_reducible refine q_chain ?_
  | with_reducible refine q_pairC ?_
  | with_reducible refine q_pairsK ?_
  | with_reducible refine q_pairN ?_
  | with_reducible refine q_fld ?_
  | with_reducible refine q_sFld ?_
  | with_reducible refine q_meth ?_
  | with_reducible refine q_makeK ?_
  | with_reducible refine q_isBl ?_
  | with_reducible refine q_notBl ?_
  | with_reducible refine q_sl ?_
  | with_reducible refine q_noPart ?_
  | with_reducible refine q_part ?_
  | with_reducible refine q_partK ?_
  | ((with_reducible apply q_mulStr); (focus (decide +kernel)))
  | with_reducible refine q_chT ?_
  | with_reducible refine q_chF ?_
  | with_reducible refine q_ord ?_
  | with_reducible refine q_iStr0 ?_
  | with_reducible refine q_iStr ?_
  | with_reducible refine q_tDIn ?_
  | with_reducible refine q_tDNotIn ?_
  | with_reducible refine q_tDGet ?_
  | with_reducible refine q_tDGet2 ?_
  | with_reducible refine q_tDGet1 ?_
  | with_reducible refine q_tDSetd ?_
  | ((with_reducible apply q_dG2a); (focus ((repeat first | (with_reducible exact upd_same) | (with_reducible assumption) | (with_reducible apply upd_new (by assumption)) | (with_reducible apply upd_other (by first | assumption | exact Ne.symm (by assumption))) | (with_reducible refine' Kp.get (by assumption) ?_ (by first | assumption | exact Ne.symm (by assumption))) | (with_reducible apply Same.get (by assumption))); done)))
  | ((with_reducible apply q_dSda); (focus ((repeat first | (with_reducible exact upd_same) | (with_reducible assumption) | (with_reducible apply upd_new (by assumption)) | (with_reducible apply upd_other (by first | assumption | exact Ne.symm (by assumption))) | (with_reducible refine' Kp.get (by assumption) ?_ (by first | assumption | exact Ne.symm (by assumption))) | (with_reducible apply Same.get (by assumption))); done)))
  | with_reducible refine q_sDPut ?_
  | ((with_reducible apply q_dInS); (focus ((repeat first | (with_reducible exact upd_same) | (with_reducible assumption) | (with_reducible apply upd_new (by assumption)) | (with_reducible apply upd_other (by first | assumption | exact Ne.symm (by assumption))) | (with_reducible refine' Kp.get (by assumption) ?_ (by first | assumption | exact Ne.symm (by assumption))) | (with_reducible apply Same.get (by assumption))); done)))
  | ((with_reducible apply q_dNInS); (focus ((repeat first | (with_reducible exact upd_same) | (with_reducible assumption) | (with_reducible apply upd_new (by assumption)) | (with_reducible apply upd_other (by first | assumption | exact Ne.symm (by assumption))) | (with_reducible refine' Kp.get (by assumption) ?_ (by first | assumption | exact Ne.symm (by assumption))) | (with_reducible apply Same.get (by assumption))); done)))
  | ((with_reducible apply q_dInI); (focus ((repeat first | (with_reducible exact upd_same) | (with_reducible assumption) | (with_reducible apply upd_new (by assumption)) | (with_reducible apply upd_other (by first | assumption | exact Ne.symm (by assumption))) | (with_reducible refine' Kp.get (by assumption) ?_ (by first | assumption | exact Ne.symm (by assumption))) | (with_reducible apply Same.get (by assumption))); done)))
  | ((with_reducible apply q_dNInI); (focus ((repeat first | (with_reducible exact upd_same) | (with_reducible assumption) | (with_reducible apply upd_new (by assumption)) | (with_reducible apply upd_other (by first | assumption | exact Ne.symm (by assumption))) | (with_reducible refine' Kp.get (by assumption) ?_ (by first | assumption | exact Ne.symm (by assumption))) | (with_reducible apply Same.get (by assumption))); done)))
  | ((with_reducible apply q_bmL); (focus ((repeat first | (with_reducible exact upd_same) | (with_reducible assumption) | (with_reducible apply upd_new (by assumption)) | (with_reducible apply upd_other (by first | assumption | exact Ne.symm (by assumption))) | (with_reducible refine' Kp.get (by assumption) ?_ (by first | assumption | exact Ne.symm (by assumption))) | (with_reducible apply Same.get (by assumption))); done)))
  | ((with_reducible apply q_bmL0); (focus ((repeat first | (with_reducible exact upd_same) | (with_reducible assumption) | (with_reducible apply upd_new (by assumption)) | (with_reducible apply upd_other (by first | assumption | exact Ne.symm (by assumption))) | (with_reducible refine' Kp.get (by assumption) ?_ (by first | assumption | exact Ne.symm (by assumption))) | (with_reducible apply Same.get (by assumption))); done)))
  | ((with_reducible apply q_ixLt); (focus ((repeat first | (with_reducible exact upd_same) | (with_reducible assumption) | (with_reducible apply upd_new (by assumption)) | (with_reducible apply upd_other (by first | assumption | exact Ne.symm (by assumption))) | (with_reducible refine' Kp.get (by assumption) ?_ (by first | assumption | exact Ne.symm (by assumption))) | (with_reducible apply Same.get (by assumption))); done)); (focus (exact rfl)))
  | ((with_reducible apply q_ixTt); (focus ((repeat first | (with_reducible exact upd_same) | (with_reducible assumption) | (with_reducible apply upd_new (by assumption)) | (with_reducible apply upd_other (by first | assumption | exact Ne.symm (by assumption))) | (with_reducible refine' Kp.get (by assumption) ?_ (by first | assumption | exact Ne.symm (by assumption))) | (with_reducible apply Same.get (by assumption))); done)); (focus (exact rfl)))
  | ((with_reducible apply q_lenLt); (focus ((repeat first | (with_reducible exact upd_same) | (with_reducible assumption) | (with_reducible apply upd_new (by assumption)) | (with_reducible apply upd_other (by first | assumption | exact Ne.symm (by assumption))) | (with_reducible refine' Kp.get (by assumption) ?_ (by first | assumption | exact Ne.symm (by assumption))) | (with_reducible apply Same.get (by assumption))); done)))
  | ((with_reducible apply q_lenTt); (focus ((repeat first | (with_reducible exact upd_same) | (with_reducible assumption) | (with_reducible apply upd_new (by assumption)) | (with_reducible apply upd_other (by first | assumption | exact Ne.symm (by assumption))) | (with_reducible refine' Kp.get (by assumption) ?_ (by first | assumption | exact Ne.symm (by assumption))) | (with_reducible apply Same.get (by assumption))); done)))
  | ((with_reducible apply q_append); (focus ((repeat first | (with_reducible exact upd_same) | (with_reducible assumption) | (with_reducible apply upd_new (by assumption)) | (with_reducible apply upd_other (by first | assumption | exact Ne.symm (by assumption))) | (with_reducible refine' Kp.get (by assumption) ?_ (by first | assumption | exact Ne.symm (by assumption))) | (with_reducible apply Same.get (by assumption))); done)); (focus ((first | (exact Nat.lt_of_ble_eq_true rfl) | (simp only [List.length_append, List.length_cons, List.length_nil, List.length_map]; exact small1000 (by omega))))))
  | ((with_reducible apply q_setL); (focus ((repeat first | (with_reducible exact upd_same) | (with_reducible assumption) | (with_reducible apply upd_new (by assumption)) | (with_reducible apply upd_other (by first | assumption | exact Ne.symm (by assumption))) | (with_reducible refine' Kp.get (by assumption) ?_ (by first | assumption | exact Ne.symm (by assumption))) | (with_reducible apply Same.get (by assumption))); done)); (focus (exact rfl)))
  | with_reducible refine q_ifNT ?_
  | with_reducible refine q_ifNF ?_
  | with_reducible refine q_andNT ?_
  | with_reducible refine q_andNF ?_
  | with_reducible refine q_orNT ?_
  | with_reducible refine q_orNF ?_
  | with_reducible refine q_bKNT ?_
  | with_reducible refine q_bKNF ?_
  | with_reducible refine q_tNGet ?_
  | with_reducible refine q_tNIn ?_
  | with_reducible refine q_sNPut ?_
  | with_reducible refine q_sFldAug ?_
  | with_reducible refine q_sDAug ?_
  | with_reducible refine q_sDDel ?_
  | with_reducible refine q_forX ?_
  | with_reducible refine q_tMake ?_
  | ((with_reducible apply q_dG1a); (focus ((repeat first | (with_reducible exact upd_same) | (with_reducible assumption) | (with_reducible apply upd_new (by assumption)) | (with_reducible apply upd_other (by first | assumption | exact Ne.symm (by assumption))) | (with_reducible refine' Kp.get (by assumption) ?_ (by first | assumption | exact Ne.symm (by assumption))) | (with_reducible apply Same.get (by assumption))); done)))))
open TL
/-! the law of writing and reading -/
def spLaw (K : PySem.W.Frag) : Sp := fun vs H Q _ => ∃ (a : Addr) (ns : List Int), vs = [.ref a] ∧ SqL K H a (ns.map V.int) ∧ ns.length ≤ 63 ∧ ∀ H', Q (.bl true) H'
theorem wri_use {K : PySem.W.Frag} {H : Hp} {Q : VK} {E : XK} {k : NestedKey} {v : V} (hv : NV H k v) (hk : nk 10 k = true) (hl : (wrL k).length ≤ 60000) (kk : ∀ H', Same H H' → Q (.str (strL (wrL k))) H') : sp_write K [v] H Q E := by
  have i := vk_isV k 10 (nk_vk k hk)
  have := siz_le k i
  exact ⟨v, k, rfl, hv, i, nk_small k hk, by omega, by omega, kk⟩
theorem NV.kp {H H' : Hp} {p l : Addr} {k : NestedKey} {v : V} (h : NV H k v) (pot : PotAt H p l) (kp : Kp p H H') : NV H' k v := NV.mono (fun b ys q => Kp.tup kp pot q) h
theorem NV.sm {H H' : Hp} {k : NestedKey} {v : V} (h : NV H k v) (s : Same H H') : NV H' k v := NV.mono (fun b ys q => s _ _ q) h
section
variable {P : Program} {w : World} {K : PySem.W.Frag} {mg : Str → Option Value} {base : Heap}
set_option maxHeartbeats 0 in
theorem ok_law (T : Txt K mg) : FnOk P w K mg base CX0 30 T.f_law T.d_law ["script"] (spLaw K) := by
  refine T.F_law.ok sc_law (fun vs H Q E h => ?_) (fun cdv A outer s H vs Q E hr h => ?_)
  · obtain ⟨a, ns, rfl, _⟩ := h; rfl
  · obtain ⟨a0, ns0, rfl, hS, hlen, k⟩ := h
    refine ⟨_, (pss_cons (ps_set (i := 1) sc_law.nd rfl (Or.inl rfl) (pe_call (ok_L_pot T) (hr.mono (by decide)) (by rfl) T.g_L_pot T.F_L_pot.kp T.b_L_pot .nil pass0 (pa_cons (pv 0) pa_nil)))
      (pss_cons (ps_set (i := 2) sc_law.nd rfl (Or.inl rfl) (pe_call (ok_L_value T) (hr.mono (by decide)) (by rfl) T.g_L_value T.F_L_value.kp T.b_L_value .nil pass0 (pa_cons (pv 1) (pa_cons pe_int pa_nil))))
      (pss_cons (ps_for PassesOwn.never rfl (pi_range1 (by rfl) T.z_range (pa_cons (pe_ix ix_list (pe_lst (pa_cons pe_int (pa_cons pe_int pa_nil))) (pe_call (ok_L_next T) (hr.mono (by decide)) (by rfl) T.g_L_next T.F_L_next.kp T.b_L_next .nil pass0 (pa_cons (pv 1) (pa_cons pe_int pa_nil))) (fun _ _ => rfl)) pa_nil)) (pg_name (i := 3) sc_law.nd rfl (Or.inl rfl))
        (pss_one (ps_set (i := 2) sc_law.nd rfl (Or.inl rfl) (pe_tup (pa_cons (pv 2) (pa_cons (pv 3) pa_nil))))))
      (pss_cons (ps_set (i := 4) sc_law.nd rfl (Or.inl rfl) (pe_call (ok_L_letter T) (hr.mono (by decide)) (by rfl) T.g_L_letter T.F_L_letter.kp T.b_L_letter .nil pass0 (pa_cons (pv 1) pa_nil)))
      (pss_cons (ps_for PassesOwn.never rfl (pi_list (pe_lst (pa_cons (pv 2) (pa_cons (pv 4) pa_nil)))) (pg_name (i := 5) sc_law.nd rfl (Or.inl rfl))
        (pss_cons (ps_set (i := 7) sc_law.nd rfl (Or.inl rfl) (pe_call (ok_write T) (hr.mono (by decide)) (by rfl) T.g_write T.F_write.kp T.b_write .nil pass0 (pa_cons (pv 5) pa_nil)))
      (pss_one (ps_if (PW.pt (pw_or (pt_not (pt_val (pe_callB call_isi (by rfl) T.z_isinstance boot_isinstance (pa_cons (pv 7) (pa_cons (pe_bltn (v := .ty "str") (by rfl) T.z_str boot_str rfl) pa_nil))))) (pw_or (pt_cmpR op_ne (pv 7) (pe_call (ok_L_written T) (hr.mono (by decide)) (by rfl) T.g_L_written T.F_L_written.kp T.b_L_written .nil pass0 (pa_cons (pv 5) pa_nil)) (nomark _)) (pw_or1 (pt_not (pt_val (pe_call (ok_L_same T) (hr.mono (by decide)) (by rfl) T.g_L_same T.F_L_same.kp T.b_L_same .nil pass0 (pa_cons (pe_call (ok_read T) (hr.mono (by decide)) (by rfl) T.g_read T.F_read.kp T.b_read .nil passF (pa_cons (pv 7) pa_nil)) (pa_cons (pv 5) pa_nil))))))))) (pss_one (ps_ret pe_bl)) pss_nil))))
      (pss_cons (ps_if (pt_not (pt_val (pe_call (ok_L_same T) (hr.mono (by decide)) (by rfl) T.g_L_same T.F_L_same.kp T.b_L_same .nil pass0 (pa_cons (pe_call (ok_read_letter T) (hr.mono (by decide)) (by rfl) T.g_read_letter T.F_read_letter.kp T.b_read_letter .nil passF (pa_cons (pe_call (ok_write T) (hr.mono (by decide)) (by rfl) T.g_write T.F_write.kp T.b_write .nil pass0 (pa_cons (pv 4) pa_nil)) pa_nil)) (pa_cons (pv 4) pa_nil))))) (pss_one (ps_ret pe_bl)) pss_nil)
      (Evl.pss_cut (ps_set (i := 6) sc_law.nd rfl (Or.inl rfl) (pe_and (pe_callB call_isi (by rfl) T.z_isinstance boot_isinstance (pa_cons (pv 2) (pa_cons (pe_bltn (v := .ty "tuple") (by rfl) T.z_tuple boot_tuple rfl) pa_nil))) (pe_one (pe_call (ok_is_letter T) (hr.mono (by decide)) (by rfl) T.g_is_letter T.F_is_letter.kp T.b_is_letter .nil pass0 (pa_cons (pv 2) pa_nil)))))
      (pss_one (ps_ret (pe_or (pv 6) (pe_one (pe_and (pe_call (ok_L_refused T) (hr.mono (by decide)) (by rfl) T.g_L_refused T.F_L_refused.kp T.b_L_refused .nil pass0 (pa_cons (pe_call (ok_write T) (hr.mono (by decide)) (by rfl) T.g_write T.F_write.kp T.b_write .nil pass0 (pa_cons (pv 2) pa_nil)) pa_nil)) (pe_one (pe_call (ok_L_refused T) (hr.mono (by decide)) (by rfl) T.g_L_refused T.F_L_refused.kp T.b_L_refused .nil pass0 (pa_cons (pe_call (ok_write T) (hr.mono (by decide)) (by rfl) T.g_write T.F_write.kp T.b_write .nil pass0 (pa_cons (pe_slice sl_tupA (pv 4) po_none (po_some pe_int)) pa_nil)) pa_nil))))))))))))))), ?_⟩
    (dsimp only [cxOf, Cx.nox, Cx.wish, L2.start, List.map, List.length, List.replicate, List.cons_append, List.nil_append, List.append_eq, Nat.reduceSub, Nat.reduceAdd])
    walk_at "my_rd"
    refine ⟨a0, ns0, rfl, hS, hlen, fun p l H1 np nl0 pot1 sm1 => ?_⟩
    clear hS sm1 np nl0
    walk_at "my_rd"
    refine ⟨p, l, rfl, pot1, fun k0 v0 H2 pot2 kp2 hv0 hk0 => ?_⟩
    clear pot1 kp2
    have hl0 : (wrL k0).length ≤ 53978 := Nat.le_trans (nk_len k0 hk0) (by decide)
    walk_at "my_rd"
    refine q_lstK (Nat.le_of_ble_eq_true rfl) fun cl ncl => ?_
    walk_at "my_rd"
    refine ⟨p, l, 2, rfl, pot2.new ncl, by omega, by omega, fun r H3 r0 r1 pot3 kp3 => ?_⟩
    have hcl0 : upd H2 cl (.lst [.int 0, .int 6]) cl = some (.lst [.int 0, .int 6]) := upd_same
    have hcl := kp3.get hcl0 (pot2.nep ncl)
    have hv3 : NV H3 k0 v0 := (hv0.sm (Same.new (Same.refl _) ncl)).kp (pot2.new ncl) kp3
    obtain ⟨c, hc, hc0, hc6⟩ : ∃ c : Int, atI [V.int 0, V.int 6] r = some (.int c) ∧ 0 ≤ c ∧ c ≤ 6 := by
      have : r = 0 ∨ r = 1 := by omega
      rcases this with rfl | rfl
      · exact ⟨0, rfl, by omega, by omega⟩
      · exact ⟨6, rfl, by omega, by omega⟩
    clear hv0 pot2 kp3 ncl
    refine q_ixLt hcl hc ?_
    walk_at "my_rd"
    refine q_forR ⟨hc0, by omega⟩ (fun i σ H' => ∃ (kv : NestedKey) (v : V) (v3 : Option V), σ = [some (.ref a0), some (.ref p), some v, v3, none, none, none, none] ∧ PotAt H' p l ∧ NV H' kv v ∧ nk (3 + i) kv = true ∧ (wrL kv).length ≤ 53978 + 6 * i) ⟨k0, v0, _, rfl, pot3, hv3, hk0, by omega⟩ ?_ ?_
    · rintro i σ H' hi ⟨kv, v, v3, rfl, pot4, hv4, hk4, hl4⟩
      walk_at "my_rd"
      refine q_tupK (Nat.le_of_ble_eq_true rfl) fun t nt => ?_
      refine ⟨.tup [kv, .num i], _, _, rfl, pot4.new nt, .tup upd_same (.cons (hv4.sm (Same.new (Same.refl _) nt)) (.cons (.int _) .nil)), ?_, ?_⟩
      · rw [nk_tup, nks_cons, nks_cons, nks_nil, show 3 + (i + 1) - 1 = 3 + i by omega, hk4, num_nk (by omega), decide_eq_true (by omega)]
        rfl
      · have hin : (numL i).length ≤ 1 := num_len (m := 1) (by omega) (by omega)
        show (40 :: ((wrL kv ++ (44 :: (intL (i : Int) ++ []))) ++ [41])).length ≤ _
        rw [List.length_cons, List.length_append, List.length_append, List.length_cons, List.append_nil]
        have hii : (intL ((i : Nat) : Int)).length ≤ 1 := by
          unfold intL
          rw [if_neg (by omega)]
          exact hin
        show (wrL kv).length + ((intL ((i : Nat) : Int)).length + 1) + 1 + 1 ≤ _
        omega
    · rintro σ H' ⟨kv, v, v3, rfl, pot4, hv4, hk4, hl4⟩
      have hkv := nk_mono kv (show 3 + c.toNat ≤ 10 by omega) hk4
      have hlv : (wrL kv).length ≤ 60000 := by omega
      clear hv3 hk0 hl0 hcl pot3 hk4 hl4
      walk_at "my_rd"
      refine ⟨p, l, rfl, pot4, fun a kk s n bv bd H5 na ha hb hLd hn hkk pot5 kp5 => ?_⟩
      have hv5 := hv4.kp pot4 kp5
      obtain ⟨bk, hvl, hkl3, hLt, hbv⟩ := let_nk ha hb hLd hn hkk
      have hkl := nk_mono _ (show 3 ≤ 10 by omega) hkl3
      have hll : (wrL (.tup [.text kk, .text s, .num n, bk])).length ≤ 60000 := Nat.le_trans (nk_len _ hkl3) (by decide)
      clear hv4 pot4 kp5 pot5 hb hLd hkl3
      walk_at "my_rd"
      refine q_lstK (Nat.le_of_ble_eq_true rfl) fun f nf => ?_
      have hf : upd H5 f (.lst [v, .ref a]) f = some (.lst [v, .ref a]) := upd_same
      have smf : Same H5 (upd H5 f (.lst [v, .ref a])) := Same.new (Same.refl _) nf
      generalize upd H5 f (.lst [v, .ref a]) = H6 at hf smf
      have hv6 := hv5.sm smf
      have hvl6 := hvl.sm smf
      have ha6 := smf _ _ ha
      clear hv5 hvl ha smf nf hbv
      walk_at "my_rd"
      refine q_forL (sqL hf) (fun j σ H' => ∃ v5 v7 : Option V, σ = [some (.ref a0), some (.ref p), some v, v3, some (.ref a), v5, none, v7] ∧ Same H6 H') ⟨_, _, rfl, Same.refl _⟩ (fun _ _ _ _ ⟨_, _, _, sm⟩ => sqL (sm _ _ hf)) ?_ ?_
      · rintro j x σ H' hx ⟨v5, v7, rfl, sm⟩
        obtain ⟨kx, hvx, hkx, hlx⟩ : ∃ kx, NV H6 kx x ∧ nk 10 kx = true ∧ (wrL kx).length ≤ 60000 := by
          match j, hx with
          | 0, hx => exact ⟨kv, (Option.some.inj hx) ▸ hv6, hkv, hlv⟩
          | 1, hx => exact ⟨_, (Option.some.inj hx) ▸ hvl6, hkl, hll⟩
          | j + 2, hx => cases hx
        have hvx := hvx.sm sm
        have hrd := nk_rd hkx
        walk_at "my_rd"
        refine wri_use hvx hkx hlx fun H7 sm7 => ?_
        walk_at "my_rd"
        refine q_is (.base (.str _)) (b := true) (by decide +kernel) ?_
        walk_at "my_rd"
        refine ⟨kx, x, rfl, hvx.sm sm7, hkx, by omega, fun H8 sm8 => ?_⟩
        walk_at "my_rd"
        rw [show (!decide (strL (wrL kx) = strL (wrL kx))) = false by simp]
        walk_at "my_rd"
        refine ⟨_, rfl, by rw [tl_strL]; omega, fun hn2 => absurd (hrd.symm.trans hn2) (by intro z; cases z), fun k2 v2 H9 hk2 sm9 hv2 => ?_⟩
        obtain rfl := Option.some.inj (hrd.symm.trans hk2)
        walk_at "my_rd"
        refine ⟨kx, v2, x, rfl, hv2, ((hvx.sm sm7).sm sm8).sm sm9, hkx, by omega, fun HA smA => ?_⟩
        walk_at "my_rd"
        exact ⟨_, _, rfl, sm.trans (sm7.trans (sm8.trans (sm9.trans smA)))⟩
      · rintro σ H' ⟨v5, v7, rfl, sm⟩
        have hv7 := hv6.sm sm
        have hvl7 := hvl6.sm sm
        have ha7 := sm _ _ ha6
        clear hv6 hvl6 ha6 sm hf
        obtain ⟨kl, hkl_⟩ : ∃ kl : NestedKey, kl = .tup [.text kk, .text s, .num n, bk] := ⟨_, rfl⟩
        rw [← hkl_] at hvl7 hkl hll hLt
        have hrd := nk_rd hkl
        walk_at "my_rd"
        refine wri_use hvl7 hkl hll fun H8 sm8 => ?_
        walk_at "my_rd"
        refine ⟨_, rfl, by rw [tl_strL]; omega, fun k2 h2 => by rw [Option.some.inj (h2.symm.trans hrd)]; exact nk_fineG hkl (by omega), fun hn2 => absurd (hrd.symm.trans hn2) (by intro z; cases z), fun k2 h2 hf2 => absurd hf2 (by rw [Option.some.inj (h2.symm.trans hrd), hLt]; intro z; cases z), fun k2 v2 H9 hk2 _ sm9 hv2 => ?_⟩
        obtain rfl := Option.some.inj (hrd.symm.trans hk2)
        walk_at "my_rd"
        refine ⟨kl, v2, .ref a, rfl, hv2, (hvl7.sm sm8).sm sm9, hkl, by omega, fun HA smA => ?_⟩
        have hvA := ((hv7.sm sm8).sm sm9).sm smA
        have haA := smA _ _ (sm9 _ _ (sm8 _ _ ha7))
        clear hv7 hvl7 ha7 sm8 sm9 smA hv2
        walk_at "my_rd"
        refine q_cut (Mid := fun σ H' => σ = [some (.ref a0), some (.ref p), some v, v3, some (.ref a), v5, some (.bl (letterD kv.data)), v7] ∧ Same HA H') ?_ ?_
        · walk_at "my_rd"
          have hG := nk_fineG hkv (by omega)
          have hdp : Dp K HA v kv.data := (NV.tdp hvA).dp
          cases kv with
          | none => exact (nk_none hkv).elim
          | num i =>
            cases hvA
            refine q_is (.base (.int i)) (b := false) (by decide +kernel) ?_
            walk_at "my_rd"
            exact ⟨by simp [NestedKey.data, letterD], Same.refl _⟩
          | text x =>
            cases hvA
            refine q_is (.base (.str x)) (b := false) (by decide +kernel) ?_
            walk_at "my_rd"
            exact ⟨by simp [NestedKey.data, letterD], Same.refl _⟩
          | tup ks =>
            obtain ⟨b, hb⟩ : ∃ b, v = .ref b := by cases hvA with | tup _ _ => exact ⟨_, rfl⟩
            subst hb
            obtain ⟨_, vs, e1, hb, _⟩ := NV.tupOf hvA
            refine q_is (.base (.tup hb)) (b := true) (by decide +kernel) ?_
            walk_at "my_rd"
            refine ⟨_, _, rfl, hdp, hG, fun HB smB => ?_⟩
            walk_at "my_rd"
            exact ⟨rfl, smB⟩
        · rintro σ HB ⟨rfl, smB⟩
          have hvB := hvA.sm smB
          have haB := smB _ _ haA
          walk_at "my_rd"
          refine q_orV2 (fun h => ?_) (fun h => ?_)
          · exact k _
          · walk_at "my_rd"
            refine wri_use hvB hkv hlv fun HC smC => ?_
            walk_at "my_rd"
            refine ⟨_, kv, rfl, by rw [tl_strL]; omega, nk_rd hkv, nk_fineG hkv (by omega), h, fun HD smD => ?_⟩
            walk_at "my_rd"
            have haD := smD _ _ (smC _ _ haB)
            refine q_slA haD fun q HE smE hq => ?_
            rw [show (3 : Int) = ((3 : Nat) : Int) from rfl, cut_take (by show 3 ≤ 4; decide)] at hq
            have hq : HE q = some (.tup [.str kk, .str s, .int n]) := hq
            have hk3 : nk 10 (.tup [.text kk, .text s, .num n]) = true := by
              rw [hkl_, nk_tup, nks_cons, nks_cons, nks_cons, Bool.and_eq_true, Bool.and_eq_true, Bool.and_eq_true, Bool.and_eq_true, Bool.and_eq_true] at hkl
              rw [nk_tup, nks_cons, nks_cons, nks_cons, nks_nil, hkl.2.2.1, hkl.2.2.2.1, hkl.2.2.2.2.1]
              rfl
            have hl3 : (wrL (.tup [.text kk, .text s, .num n])).length ≤ 60000 := by
              refine Nat.le_trans ?_ hll
              rw [hkl_]
              show (40 :: ((wrL (.text kk) ++ wrTail [.text s, .num n]) ++ [41])).length ≤ (40 :: ((wrL (.text kk) ++ wrTail [.text s, .num n, bk]) ++ [41])).length
              show (40 :: ((wrL (.text kk) ++ (44 :: (wrL (.text s) ++ (44 :: (wrL (.num n) ++ []))))) ++ [41])).length ≤ (40 :: ((wrL (.text kk) ++ (44 :: (wrL (.text s) ++ (44 :: (wrL (.num n) ++ (44 :: (wrL bk ++ []))))))) ++ [41])).length
              simp only [List.length_cons, List.length_append, List.length_nil]
              omega
            walk_at "my_rd"
            refine wri_use (k := .tup [.text kk, .text s, .num n]) (.tup hq (.cons (.str _) (.cons (.str _) (.cons (.int _) .nil)))) hk3 hl3 fun HF smF => ?_
            walk_at "my_rd"
            refine ⟨_, _, rfl, by rw [tl_strL]; omega, nk_rd hk3, nk_fineG hk3 (by omega), by simp [NestedKey.data, NestedKey.datas, letterD], fun HG smG => ?_⟩
            exact k _
end

def txt_mk {K : PySem.W.Frag} {h : Heap} {mg : Str → Option Value} (X : K.In h) (G : h.Ns mainGlobals mg)
    {f0 f1 f2 f3 f4 f5 f6 f7 f8 f9 f10 f11 f12 f13 f14 f15 f16 f17 f18 f19 f20 f21 f22 f23 f24 f25 f26 f27 f28 f29 f30 f31 f32 f33 C0 C1 g0 g1 g11 : Addr} {od0 an0 od1 an1 od2 an2 od3 an3 od4 an4 od5 an5 od6 an6 od7 an7 od8 an8 od9 an9 od10 an10 od11 an11 od12 an12 od13 an13 od14 an14 od15 an15 od16 an16 od17 an17 od18 an18 od19 an19 od20 an20 od21 an21 od22 an22 od23 an23 od24 an24 od25 an25 od26 an26 od27 an27 od28 an28 od29 an29 od30 an30 od31 an31 od32 an32 od33 an33 : Option Addr} {sl0 sl1 sl2 sl3 sl4 sl5 sl6 sl7 sl8 sl9 sl10 sl11 sl12 sl13 sl14 sl15 sl16 sl17 sl18 sl19 sl20 sl21 sl22 sl23 sl24 sl25 sl26 sl27 sl28 sl29 sl30 sl31 sl32 sl33 : Array (Option Value)} {oc0 kV0 dc0 pm0 cd0 ct0 oc1 kV1 dc1 pm1 cd1 ct1 oc2 kV2 dc2 pm2 cd2 ct2 oc3 kV3 dc3 pm3 cd3 ct3 oc4 kV4 dc4 pm4 cd4 ct4 oc5 kV5 dc5 pm5 cd5 ct5 oc6 kV6 dc6 pm6 cd6 ct6 oc7 kV7 dc7 pm7 cd7 ct7 oc8 kV8 dc8 pm8 cd8 ct8 oc9 kV9 dc9 pm9 cd9 ct9 oc10 kV10 dc10 pm10 cd10 ct10 oc11 kV11 dc11 pm11 cd11 ct11 oc12 kV12 dc12 pm12 cd12 ct12 oc13 kV13 dc13 pm13 cd13 ct13 oc14 kV14 dc14 pm14 cd14 ct14 oc15 kV15 dc15 pm15 cd15 ct15 oc16 kV16 dc16 pm16 cd16 ct16 oc17 kV17 dc17 pm17 cd17 ct17 oc18 kV18 dc18 pm18 cd18 ct18 oc19 kV19 dc19 pm19 cd19 ct19 oc20 kV20 dc20 pm20 cd20 ct20 oc21 kV21 dc21 pm21 cd21 ct21 oc22 kV22 dc22 pm22 cd22 ct22 oc23 kV23 dc23 pm23 cd23 ct23 oc24 kV24 dc24 pm24 cd24 ct24 oc25 kV25 dc25 pm25 cd25 ct25 oc26 kV26 dc26 pm26 cd26 ct26 oc27 kV27 dc27 pm27 cd27 ct27 oc28 kV28 dc28 pm28 cd28 ct28 oc29 kV29 dc29 pm29 cd29 ct29 oc30 kV30 dc30 pm30 cd30 ct30 oc31 kV31 dc31 pm31 cd31 ct31 oc32 kV32 dc32 pm32 cd32 ct32 oc33 kV33 dc33 pm33 cd33 ct33 : Value} {tk2 tk3 tk4 tk5 tk6 tk7 tk8 tk9 tk10 : Tok} {odg0 : Option Addr} {itg0 : Array Value} {ng0 : Nat} {slg0 : Array (Option Value)} {odg1 : Option Addr} {itg1 : Array Value} {ng1 : Nat} {slg1 : Array (Option Value)} {odg11 : Option Addr} {itg11 : Array Value} {ng11 : Nat} {slg11 : Array (Option Value)}
    (a0 : PySem.W.nsIn K mainGlobals "_wall" = some (some (.ref f0)))
    (a1 : PySem.W.nsIn K mainGlobals "is_integer" = some (some (.ref f1)))
    (a2 : PySem.W.nsIn K mainGlobals "is_at_least" = some (some (.ref f2)))
    (a3 : PySem.W.nsIn K mainGlobals "is_text" = some (some (.ref f3)))
    (a4 : PySem.W.nsIn K mainGlobals "is_short_text" = some (some (.ref f4)))
    (a5 : PySem.W.nsIn K mainGlobals "is_account" = some (some (.ref f5)))
    (a6 : PySem.W.nsIn K mainGlobals "is_side" = some (some (.ref f6)))
    (a7 : PySem.W.nsIn K mainGlobals "is_set" = some (some (.ref f7)))
    (a8 : PySem.W.nsIn K mainGlobals "is_pair" = some (some (.ref f8)))
    (a9 : PySem.W.nsIn K mainGlobals "is_transfer" = some (some (.ref f9)))
    (a10 : PySem.W.nsIn K mainGlobals "is_bundle" = some (some (.ref f10)))
    (a11 : PySem.W.nsIn K mainGlobals "is_letter" = some (some (.ref f11)))
    (a12 : PySem.W.nsIn K mainGlobals "write" = some (some (.ref f12)))
    (a13 : PySem.W.nsIn K mainGlobals "written_integer" = some (some (.ref f13)))
    (a14 : PySem.W.nsIn K mainGlobals "digits_of" = some (some (.ref f14)))
    (a15 : PySem.W.nsIn K mainGlobals "parted" = some (some (.ref f15)))
    (a16 : PySem.W.nsIn K mainGlobals "read" = some (some (.ref f16)))
    (a17 : PySem.W.nsIn K mainGlobals "read_letter" = some (some (.ref f17)))
    (a18 : PySem.W.nsIn K mainGlobals "read_value" = some (some (.ref f18)))
    (a19 : PySem.W.nsIn K mainGlobals "read_text" = some (some (.ref f19)))
    (a20 : PySem.W.nsIn K mainGlobals "read_tuple" = some (some (.ref f20)))
    (a21 : PySem.W.nsIn K mainGlobals "sign_at" = some (some (.ref f21)))
    (a22 : PySem.W.nsIn K mainGlobals "digits_at" = some (some (.ref f22)))
    (a23 : PySem.W.nsIn K mainGlobals "_law_pot" = some (some (.ref f23)))
    (a24 : PySem.W.nsIn K mainGlobals "_law_next" = some (some (.ref f24)))
    (a25 : PySem.W.nsIn K mainGlobals "_law_is_int" = some (some (.ref f25)))
    (a26 : PySem.W.nsIn K mainGlobals "_law_same" = some (some (.ref f26)))
    (a27 : PySem.W.nsIn K mainGlobals "_law_set" = some (some (.ref f27)))
    (a28 : PySem.W.nsIn K mainGlobals "_law_transfer" = some (some (.ref f28)))
    (a29 : PySem.W.nsIn K mainGlobals "_law_letter" = some (some (.ref f29)))
    (a30 : PySem.W.nsIn K mainGlobals "_law_refused" = some (some (.ref f30)))
    (a31 : PySem.W.nsIn K mainGlobals "_law_value" = some (some (.ref f31)))
    (a32 : PySem.W.nsIn K mainGlobals "_law_written" = some (some (.ref f32)))
    (a33 : PySem.W.nsIn K mainGlobals "law" = some (some (.ref f33)))
    (aC0 : PySem.W.nsIn K mainGlobals "BridgeError" = some (some (.ref C0)))
    (aC1 : PySem.W.nsIn K mainGlobals "BadNotation" = some (some (.ref C1)))
    (l0 : K.lookup f0 = some ⟨oc0, od0, .func (PySem.W.fnOf "_wall" "_wall" (defArgs s__wall) (defBody s__wall) (defScope s__wall) .none kV0 dc0 pm0 an0 cd0 ct0), sl0⟩)
    (c0 : PySem.W.codeIn K cd0 "_wall" = true)
    (k0 : PySem.W.keepIn K (.ref f0) = true)
    (l1 : K.lookup f1 = some ⟨oc1, od1, .func (PySem.W.fnOf "is_integer" "is_integer" (defArgs s_is_integer) (defBody s_is_integer) (defScope s_is_integer) .none kV1 dc1 pm1 an1 cd1 ct1), sl1⟩)
    (c1 : PySem.W.codeIn K cd1 "is_integer" = true)
    (k1 : PySem.W.keepIn K (.ref f1) = true)
    (l2 : K.lookup f2 = some ⟨oc2, od2, .func (PySem.W.fnOf "is_at_least" "is_at_least" (defArgs s_is_at_least) (defBody s_is_at_least) (defScope s_is_at_least) .none kV2 dc2 pm2 an2 cd2 ct2), sl2⟩)
    (c2 : PySem.W.codeIn K cd2 "is_at_least" = true)
    (k2 : PySem.W.keepIn K (.ref f2) = true)
    (l3 : K.lookup f3 = some ⟨oc3, od3, .func (PySem.W.fnOf "is_text" "is_text" (defArgs s_is_text) (defBody s_is_text) (defScope s_is_text) .none kV3 dc3 pm3 an3 cd3 ct3), sl3⟩)
    (c3 : PySem.W.codeIn K cd3 "is_text" = true)
    (k3 : PySem.W.keepIn K (.ref f3) = true)
    (l4 : K.lookup f4 = some ⟨oc4, od4, .func (PySem.W.fnOf "is_short_text" "is_short_text" (defArgs s_is_short_text) (defBody s_is_short_text) (defScope s_is_short_text) .none kV4 dc4 pm4 an4 cd4 ct4), sl4⟩)
    (c4 : PySem.W.codeIn K cd4 "is_short_text" = true)
    (k4 : PySem.W.keepIn K (.ref f4) = true)
    (l5 : K.lookup f5 = some ⟨oc5, od5, .func (PySem.W.fnOf "is_account" "is_account" (defArgs s_is_account) (defBody s_is_account) (defScope s_is_account) .none kV5 dc5 pm5 an5 cd5 ct5), sl5⟩)
    (c5 : PySem.W.codeIn K cd5 "is_account" = true)
    (k5 : PySem.W.keepIn K (.ref f5) = true)
    (l6 : K.lookup f6 = some ⟨oc6, od6, .func (PySem.W.fnOf "is_side" "is_side" (defArgs s_is_side) (defBody s_is_side) (defScope s_is_side) .none kV6 dc6 pm6 an6 cd6 ct6), sl6⟩)
    (c6 : PySem.W.codeIn K cd6 "is_side" = true)
    (k6 : PySem.W.keepIn K (.ref f6) = true)
    (l7 : K.lookup f7 = some ⟨oc7, od7, .func (PySem.W.fnOf "is_set" "is_set" (defArgs s_is_set) (defBody s_is_set) (defScope s_is_set) .none kV7 dc7 pm7 an7 cd7 ct7), sl7⟩)
    (c7 : PySem.W.codeIn K cd7 "is_set" = true)
    (k7 : PySem.W.keepIn K (.ref f7) = true)
    (l8 : K.lookup f8 = some ⟨oc8, od8, .func (PySem.W.fnOf "is_pair" "is_pair" (defArgs s_is_pair) (defBody s_is_pair) (defScope s_is_pair) .none kV8 dc8 pm8 an8 cd8 ct8), sl8⟩)
    (c8 : PySem.W.codeIn K cd8 "is_pair" = true)
    (k8 : PySem.W.keepIn K (.ref f8) = true)
    (l9 : K.lookup f9 = some ⟨oc9, od9, .func (PySem.W.fnOf "is_transfer" "is_transfer" (defArgs s_is_transfer) (defBody s_is_transfer) (defScope s_is_transfer) .none kV9 dc9 pm9 an9 cd9 ct9), sl9⟩)
    (c9 : PySem.W.codeIn K cd9 "is_transfer" = true)
    (k9 : PySem.W.keepIn K (.ref f9) = true)
    (l10 : K.lookup f10 = some ⟨oc10, od10, .func (PySem.W.fnOf "is_bundle" "is_bundle" (defArgs s_is_bundle) (defBody s_is_bundle) (defScope s_is_bundle) .none kV10 dc10 pm10 an10 cd10 ct10), sl10⟩)
    (c10 : PySem.W.codeIn K cd10 "is_bundle" = true)
    (k10 : PySem.W.keepIn K (.ref f10) = true)
    (l11 : K.lookup f11 = some ⟨oc11, od11, .func (PySem.W.fnOf "is_letter" "is_letter" (defArgs s_is_letter) (defBody s_is_letter) (defScope s_is_letter) .none kV11 dc11 pm11 an11 cd11 ct11), sl11⟩)
    (c11 : PySem.W.codeIn K cd11 "is_letter" = true)
    (k11 : PySem.W.keepIn K (.ref f11) = true)
    (l12 : K.lookup f12 = some ⟨oc12, od12, .func (PySem.W.fnOf "write" "write" (defArgs s_write) (defBody s_write) (defScope s_write) .none kV12 dc12 pm12 an12 cd12 ct12), sl12⟩)
    (c12 : PySem.W.codeIn K cd12 "write" = true)
    (k12 : PySem.W.keepIn K (.ref f12) = true)
    (l13 : K.lookup f13 = some ⟨oc13, od13, .func (PySem.W.fnOf "written_integer" "written_integer" (defArgs s_written_integer) (defBody s_written_integer) (defScope s_written_integer) .none kV13 dc13 pm13 an13 cd13 ct13), sl13⟩)
    (c13 : PySem.W.codeIn K cd13 "written_integer" = true)
    (k13 : PySem.W.keepIn K (.ref f13) = true)
    (l14 : K.lookup f14 = some ⟨oc14, od14, .func (PySem.W.fnOf "digits_of" "digits_of" (defArgs s_digits_of) (defBody s_digits_of) (defScope s_digits_of) .none kV14 dc14 pm14 an14 cd14 ct14), sl14⟩)
    (c14 : PySem.W.codeIn K cd14 "digits_of" = true)
    (k14 : PySem.W.keepIn K (.ref f14) = true)
    (l15 : K.lookup f15 = some ⟨oc15, od15, .func (PySem.W.fnOf "parted" "parted" (defArgs s_parted) (defBody s_parted) (defScope s_parted) .none kV15 dc15 pm15 an15 cd15 ct15), sl15⟩)
    (c15 : PySem.W.codeIn K cd15 "parted" = true)
    (k15 : PySem.W.keepIn K (.ref f15) = true)
    (l16 : K.lookup f16 = some ⟨oc16, od16, .func (PySem.W.fnOf "read" "read" (defArgs s_read) (defBody s_read) (defScope s_read) .none kV16 dc16 pm16 an16 cd16 ct16), sl16⟩)
    (c16 : PySem.W.codeIn K cd16 "read" = true)
    (k16 : PySem.W.keepIn K (.ref f16) = true)
    (l17 : K.lookup f17 = some ⟨oc17, od17, .func (PySem.W.fnOf "read_letter" "read_letter" (defArgs s_read_letter) (defBody s_read_letter) (defScope s_read_letter) .none kV17 dc17 pm17 an17 cd17 ct17), sl17⟩)
    (c17 : PySem.W.codeIn K cd17 "read_letter" = true)
    (k17 : PySem.W.keepIn K (.ref f17) = true)
    (l18 : K.lookup f18 = some ⟨oc18, od18, .func (PySem.W.fnOf "read_value" "read_value" (defArgs s_read_value) (defBody s_read_value) (defScope s_read_value) .none kV18 dc18 pm18 an18 cd18 ct18), sl18⟩)
    (c18 : PySem.W.codeIn K cd18 "read_value" = true)
    (k18 : PySem.W.keepIn K (.ref f18) = true)
    (l19 : K.lookup f19 = some ⟨oc19, od19, .func (PySem.W.fnOf "read_text" "read_text" (defArgs s_read_text) (defBody s_read_text) (defScope s_read_text) .none kV19 dc19 pm19 an19 cd19 ct19), sl19⟩)
    (c19 : PySem.W.codeIn K cd19 "read_text" = true)
    (k19 : PySem.W.keepIn K (.ref f19) = true)
    (l20 : K.lookup f20 = some ⟨oc20, od20, .func (PySem.W.fnOf "read_tuple" "read_tuple" (defArgs s_read_tuple) (defBody s_read_tuple) (defScope s_read_tuple) .none kV20 dc20 pm20 an20 cd20 ct20), sl20⟩)
    (c20 : PySem.W.codeIn K cd20 "read_tuple" = true)
    (k20 : PySem.W.keepIn K (.ref f20) = true)
    (l21 : K.lookup f21 = some ⟨oc21, od21, .func (PySem.W.fnOf "sign_at" "sign_at" (defArgs s_sign_at) (defBody s_sign_at) (defScope s_sign_at) .none kV21 dc21 pm21 an21 cd21 ct21), sl21⟩)
    (c21 : PySem.W.codeIn K cd21 "sign_at" = true)
    (k21 : PySem.W.keepIn K (.ref f21) = true)
    (l22 : K.lookup f22 = some ⟨oc22, od22, .func (PySem.W.fnOf "digits_at" "digits_at" (defArgs s_digits_at) (defBody s_digits_at) (defScope s_digits_at) .none kV22 dc22 pm22 an22 cd22 ct22), sl22⟩)
    (c22 : PySem.W.codeIn K cd22 "digits_at" = true)
    (k22 : PySem.W.keepIn K (.ref f22) = true)
    (l23 : K.lookup f23 = some ⟨oc23, od23, .func (PySem.W.fnOf "_law_pot" "_law_pot" (defArgs s_L_pot) (defBody s_L_pot) (defScope s_L_pot) .none kV23 dc23 pm23 an23 cd23 ct23), sl23⟩)
    (c23 : PySem.W.codeIn K cd23 "_law_pot" = true)
    (k23 : PySem.W.keepIn K (.ref f23) = true)
    (l24 : K.lookup f24 = some ⟨oc24, od24, .func (PySem.W.fnOf "_law_next" "_law_next" (defArgs s_L_next) (defBody s_L_next) (defScope s_L_next) .none kV24 dc24 pm24 an24 cd24 ct24), sl24⟩)
    (c24 : PySem.W.codeIn K cd24 "_law_next" = true)
    (k24 : PySem.W.keepIn K (.ref f24) = true)
    (l25 : K.lookup f25 = some ⟨oc25, od25, .func (PySem.W.fnOf "_law_is_int" "_law_is_int" (defArgs s_L_is_int) (defBody s_L_is_int) (defScope s_L_is_int) .none kV25 dc25 pm25 an25 cd25 ct25), sl25⟩)
    (c25 : PySem.W.codeIn K cd25 "_law_is_int" = true)
    (k25 : PySem.W.keepIn K (.ref f25) = true)
    (l26 : K.lookup f26 = some ⟨oc26, od26, .func (PySem.W.fnOf "_law_same" "_law_same" (defArgs s_L_same) (defBody s_L_same) (defScope s_L_same) .none kV26 dc26 pm26 an26 cd26 ct26), sl26⟩)
    (c26 : PySem.W.codeIn K cd26 "_law_same" = true)
    (k26 : PySem.W.keepIn K (.ref f26) = true)
    (l27 : K.lookup f27 = some ⟨oc27, od27, .func (PySem.W.fnOf "_law_set" "_law_set" (defArgs s_L_set) (defBody s_L_set) (defScope s_L_set) .none kV27 dc27 pm27 an27 cd27 ct27), sl27⟩)
    (c27 : PySem.W.codeIn K cd27 "_law_set" = true)
    (k27 : PySem.W.keepIn K (.ref f27) = true)
    (l28 : K.lookup f28 = some ⟨oc28, od28, .func (PySem.W.fnOf "_law_transfer" "_law_transfer" (defArgs s_L_transfer) (defBody s_L_transfer) (defScope s_L_transfer) .none kV28 dc28 pm28 an28 cd28 ct28), sl28⟩)
    (c28 : PySem.W.codeIn K cd28 "_law_transfer" = true)
    (k28 : PySem.W.keepIn K (.ref f28) = true)
    (l29 : K.lookup f29 = some ⟨oc29, od29, .func (PySem.W.fnOf "_law_letter" "_law_letter" (defArgs s_L_letter) (defBody s_L_letter) (defScope s_L_letter) .none kV29 dc29 pm29 an29 cd29 ct29), sl29⟩)
    (c29 : PySem.W.codeIn K cd29 "_law_letter" = true)
    (k29 : PySem.W.keepIn K (.ref f29) = true)
    (l30 : K.lookup f30 = some ⟨oc30, od30, .func (PySem.W.fnOf "_law_refused" "_law_refused" (defArgs s_L_refused) (defBody s_L_refused) (defScope s_L_refused) .none kV30 dc30 pm30 an30 cd30 ct30), sl30⟩)
    (c30 : PySem.W.codeIn K cd30 "_law_refused" = true)
    (k30 : PySem.W.keepIn K (.ref f30) = true)
    (l31 : K.lookup f31 = some ⟨oc31, od31, .func (PySem.W.fnOf "_law_value" "_law_value" (defArgs s_L_value) (defBody s_L_value) (defScope s_L_value) .none kV31 dc31 pm31 an31 cd31 ct31), sl31⟩)
    (c31 : PySem.W.codeIn K cd31 "_law_value" = true)
    (k31 : PySem.W.keepIn K (.ref f31) = true)
    (l32 : K.lookup f32 = some ⟨oc32, od32, .func (PySem.W.fnOf "_law_written" "_law_written" (defArgs s_L_written) (defBody s_L_written) (defScope s_L_written) .none kV32 dc32 pm32 an32 cd32 ct32), sl32⟩)
    (c32 : PySem.W.codeIn K cd32 "_law_written" = true)
    (k32 : PySem.W.keepIn K (.ref f32) = true)
    (l33 : K.lookup f33 = some ⟨oc33, od33, .func (PySem.W.fnOf "law" "law" (defArgs s_law) (defBody s_law) (defScope s_law) .none kV33 dc33 pm33 an33 cd33 ct33), sl33⟩)
    (c33 : PySem.W.codeIn K cd33 "law" = true)
    (k33 : PySem.W.keepIn K (.ref f33) = true)
    (xe0 : PySem.W.excIn K C0 [.type "ValueError", .type "Exception", .type "BaseException", .type "object"] "ValueError.__new__" = true)
    (ke0 : PySem.W.keepIn K (.ref C0) = true)
    (be0 : PySem.W.subIn K (.ref C0) (.type "BaseException") = some true)
    (te0 : PySem.W.typeIn K (.ref C0) = some (.type "type"))
    (ie0 : PySem.W.isClsIn K C0 = true)
    (se0 : PySem.W.subIn K (.ref C0) (.ref C0) = some true)
    (hd0 : PySem.W.hasDictIn K C0 = true)
    (xe1 : PySem.W.excIn K C1 [.type "ValueError", .type "Exception", .type "BaseException", .type "object"] "ValueError.__new__" = true)
    (ke1 : PySem.W.keepIn K (.ref C1) = true)
    (be1 : PySem.W.subIn K (.ref C1) (.type "BaseException") = some true)
    (te1 : PySem.W.typeIn K (.ref C1) = some (.type "type"))
    (ie1 : PySem.W.isClsIn K C1 = true)
    (se1 : PySem.W.subIn K (.ref C1) (.ref C1) = some true)
    (hg1 : PySem.W.findIn K (.ref C1) "__getattribute__" = some (some (.builtin "BaseException.__getattribute__")))
    (hk1 : PySem.W.findIn K (.ref C1) "__getattr__" = some none)
    (hd1 : PySem.W.hasDictIn K C1 = true)
    (ha1 : PySem.W.findIn K (.ref C1) "__class__" = some (some (.builtin "object.__class__")))
    (hm1 : PySem.W.mroIn K C1 (.type "object") = some true)
    (hn1 : PySem.W.specialIn K (.builtin "object.__class__") "__get__" = some (some (.builtin "getset_descriptor.__get__")))
    (ht1 : PySem.W.takesIn K (.builtin "object.__class__") = some true)
    (ue1 : PySem.W.subIn K (.ref C1) (.ref C0) = some true)
    (q0 : PySem.W.nsIn K mainGlobals "ABOUT_ALL" = some (some (.ref g0)))
    (r0 : K.lookup g0 = some ⟨.type "tuple", odg0, .seq itg0 ng0, slg0⟩)
    (v0 : ValsB [.str "stop", .str "resume"] itg0.toList = true)
    (q1 : PySem.W.nsIn K mainGlobals "ABOUT_ONE" = some (some (.ref g1)))
    (r1 : K.lookup g1 = some ⟨.type "tuple", odg1, .seq itg1 ng1, slg1⟩)
    (v1 : ValsB [.str "deliver", .str "return", .str "cancel"] itg1.toList = true)
    (q2 : PySem.W.nsIn K mainGlobals "ACCOUNT_LENGTH" = some (some (.int 20 tk2)))
    (q3 : PySem.W.nsIn K mainGlobals "BARRED_CODE" = some (some (.int 37 tk3)))
    (q4 : PySem.W.nsIn K mainGlobals "DEEPEST" = some (some (.int 10 tk4)))
    (q5 : PySem.W.nsIn K mainGlobals "FIRST_CODE" = some (some (.int 32 tk5)))
    (q6 : PySem.W.nsIn K mainGlobals "LAST_CODE" = some (some (.int 126 tk6)))
    (q7 : PySem.W.nsIn K mainGlobals "MOST_DIGITS" = some (some (.int 40 tk7)))
    (q8 : PySem.W.nsIn K mainGlobals "MOST_LENGTH_DIGITS" = some (some (.int 9 tk8)))
    (q9 : PySem.W.nsIn K mainGlobals "MOST_TRANSFERS" = some (some (.int 8 tk9)))
    (q10 : PySem.W.nsIn K mainGlobals "PIECE" = some (some (.int 10000000000000000000000000000000000000000000000000000000000000000 tk10)))
    (q11 : PySem.W.nsIn K mainGlobals "SIDES" = some (some (.ref g11)))
    (r11 : K.lookup g11 = some ⟨.type "tuple", odg11, .seq itg11 ng11, slg11⟩)
    (v11 : ValsB [.str "west", .str "east"] itg11.toList = true)
    (z0 : PySem.W.nsIn K mainGlobals "abs" = some none)
    (z1 : PySem.W.nsIn K mainGlobals "all" = some none)
    (z2 : PySem.W.nsIn K mainGlobals "bool" = some none)
    (z3 : PySem.W.nsIn K mainGlobals "int" = some none)
    (z4 : PySem.W.nsIn K mainGlobals "isinstance" = some none)
    (z5 : PySem.W.nsIn K mainGlobals "len" = some none)
    (z6 : PySem.W.nsIn K mainGlobals "list" = some none)
    (z7 : PySem.W.nsIn K mainGlobals "ord" = some none)
    (z8 : PySem.W.nsIn K mainGlobals "range" = some none)
    (z9 : PySem.W.nsIn K mainGlobals "reversed" = some none)
    (z10 : PySem.W.nsIn K mainGlobals "str" = some none)
    (z11 : PySem.W.nsIn K mainGlobals "tuple" = some none) : Txt K mg where
  f__wall := f0
  d__wall := PySem.W.fnOf "_wall" "_wall" (defArgs s__wall) (defBody s__wall) (defScope s__wall) .none kV0 dc0 pm0 an0 cd0 ct0
  F__wall := fun_mk (st := s__wall) l0 c0 k0
  b__wall := Fun.binds (fun_mk (st := s__wall) l0 c0 k0) (ps := ["k"]) fun _ _ _ _ _ _ us hl => match us, hl with | [_], _ => rfl
  g__wall := PySem.W.mg_of X G a0
  f_is_integer := f1
  d_is_integer := PySem.W.fnOf "is_integer" "is_integer" (defArgs s_is_integer) (defBody s_is_integer) (defScope s_is_integer) .none kV1 dc1 pm1 an1 cd1 ct1
  F_is_integer := fun_mk (st := s_is_integer) l1 c1 k1
  b_is_integer := Fun.binds (fun_mk (st := s_is_integer) l1 c1 k1) (ps := ["value"]) fun _ _ _ _ _ _ us hl => match us, hl with | [_], _ => rfl
  g_is_integer := PySem.W.mg_of X G a1
  f_is_at_least := f2
  d_is_at_least := PySem.W.fnOf "is_at_least" "is_at_least" (defArgs s_is_at_least) (defBody s_is_at_least) (defScope s_is_at_least) .none kV2 dc2 pm2 an2 cd2 ct2
  F_is_at_least := fun_mk (st := s_is_at_least) l2 c2 k2
  b_is_at_least := Fun.binds (fun_mk (st := s_is_at_least) l2 c2 k2) (ps := ["value", "least"]) fun _ _ _ _ _ _ us hl => match us, hl with | [_, _], _ => rfl
  g_is_at_least := PySem.W.mg_of X G a2
  f_is_text := f3
  d_is_text := PySem.W.fnOf "is_text" "is_text" (defArgs s_is_text) (defBody s_is_text) (defScope s_is_text) .none kV3 dc3 pm3 an3 cd3 ct3
  F_is_text := fun_mk (st := s_is_text) l3 c3 k3
  b_is_text := Fun.binds (fun_mk (st := s_is_text) l3 c3 k3) (ps := ["value"]) fun _ _ _ _ _ _ us hl => match us, hl with | [_], _ => rfl
  g_is_text := PySem.W.mg_of X G a3
  f_is_short_text := f4
  d_is_short_text := PySem.W.fnOf "is_short_text" "is_short_text" (defArgs s_is_short_text) (defBody s_is_short_text) (defScope s_is_short_text) .none kV4 dc4 pm4 an4 cd4 ct4
  F_is_short_text := fun_mk (st := s_is_short_text) l4 c4 k4
  b_is_short_text := Fun.binds (fun_mk (st := s_is_short_text) l4 c4 k4) (ps := ["value", "most"]) fun _ _ _ _ _ _ us hl => match us, hl with | [_, _], _ => rfl
  g_is_short_text := PySem.W.mg_of X G a4
  f_is_account := f5
  d_is_account := PySem.W.fnOf "is_account" "is_account" (defArgs s_is_account) (defBody s_is_account) (defScope s_is_account) .none kV5 dc5 pm5 an5 cd5 ct5
  F_is_account := fun_mk (st := s_is_account) l5 c5 k5
  b_is_account := Fun.binds (fun_mk (st := s_is_account) l5 c5 k5) (ps := ["value"]) fun _ _ _ _ _ _ us hl => match us, hl with | [_], _ => rfl
  g_is_account := PySem.W.mg_of X G a5
  f_is_side := f6
  d_is_side := PySem.W.fnOf "is_side" "is_side" (defArgs s_is_side) (defBody s_is_side) (defScope s_is_side) .none kV6 dc6 pm6 an6 cd6 ct6
  F_is_side := fun_mk (st := s_is_side) l6 c6 k6
  b_is_side := Fun.binds (fun_mk (st := s_is_side) l6 c6 k6) (ps := ["value"]) fun _ _ _ _ _ _ us hl => match us, hl with | [_], _ => rfl
  g_is_side := PySem.W.mg_of X G a6
  f_is_set := f7
  d_is_set := PySem.W.fnOf "is_set" "is_set" (defArgs s_is_set) (defBody s_is_set) (defScope s_is_set) .none kV7 dc7 pm7 an7 cd7 ct7
  F_is_set := fun_mk (st := s_is_set) l7 c7 k7
  b_is_set := Fun.binds (fun_mk (st := s_is_set) l7 c7 k7) (ps := ["value"]) fun _ _ _ _ _ _ us hl => match us, hl with | [_], _ => rfl
  g_is_set := PySem.W.mg_of X G a7
  f_is_pair := f8
  d_is_pair := PySem.W.fnOf "is_pair" "is_pair" (defArgs s_is_pair) (defBody s_is_pair) (defScope s_is_pair) .none kV8 dc8 pm8 an8 cd8 ct8
  F_is_pair := fun_mk (st := s_is_pair) l8 c8 k8
  b_is_pair := Fun.binds (fun_mk (st := s_is_pair) l8 c8 k8) (ps := ["part"]) fun _ _ _ _ _ _ us hl => match us, hl with | [_], _ => rfl
  g_is_pair := PySem.W.mg_of X G a8
  f_is_transfer := f9
  d_is_transfer := PySem.W.fnOf "is_transfer" "is_transfer" (defArgs s_is_transfer) (defBody s_is_transfer) (defScope s_is_transfer) .none kV9 dc9 pm9 an9 cd9 ct9
  F_is_transfer := fun_mk (st := s_is_transfer) l9 c9 k9
  b_is_transfer := Fun.binds (fun_mk (st := s_is_transfer) l9 c9 k9) (ps := ["value"]) fun _ _ _ _ _ _ us hl => match us, hl with | [_], _ => rfl
  g_is_transfer := PySem.W.mg_of X G a9
  f_is_bundle := f10
  d_is_bundle := PySem.W.fnOf "is_bundle" "is_bundle" (defArgs s_is_bundle) (defBody s_is_bundle) (defScope s_is_bundle) .none kV10 dc10 pm10 an10 cd10 ct10
  F_is_bundle := fun_mk (st := s_is_bundle) l10 c10 k10
  b_is_bundle := Fun.binds (fun_mk (st := s_is_bundle) l10 c10 k10) (ps := ["value"]) fun _ _ _ _ _ _ us hl => match us, hl with | [_], _ => rfl
  g_is_bundle := PySem.W.mg_of X G a10
  f_is_letter := f11
  d_is_letter := PySem.W.fnOf "is_letter" "is_letter" (defArgs s_is_letter) (defBody s_is_letter) (defScope s_is_letter) .none kV11 dc11 pm11 an11 cd11 ct11
  F_is_letter := fun_mk (st := s_is_letter) l11 c11 k11
  b_is_letter := Fun.binds (fun_mk (st := s_is_letter) l11 c11 k11) (ps := ["value"]) fun _ _ _ _ _ _ us hl => match us, hl with | [_], _ => rfl
  g_is_letter := PySem.W.mg_of X G a11
  f_write := f12
  d_write := PySem.W.fnOf "write" "write" (defArgs s_write) (defBody s_write) (defScope s_write) .none kV12 dc12 pm12 an12 cd12 ct12
  F_write := fun_mk (st := s_write) l12 c12 k12
  b_write := Fun.binds (fun_mk (st := s_write) l12 c12 k12) (ps := ["value"]) fun _ _ _ _ _ _ us hl => match us, hl with | [_], _ => rfl
  g_write := PySem.W.mg_of X G a12
  f_written_integer := f13
  d_written_integer := PySem.W.fnOf "written_integer" "written_integer" (defArgs s_written_integer) (defBody s_written_integer) (defScope s_written_integer) .none kV13 dc13 pm13 an13 cd13 ct13
  F_written_integer := fun_mk (st := s_written_integer) l13 c13 k13
  b_written_integer := Fun.binds (fun_mk (st := s_written_integer) l13 c13 k13) (ps := ["number"]) fun _ _ _ _ _ _ us hl => match us, hl with | [_], _ => rfl
  g_written_integer := PySem.W.mg_of X G a13
  f_digits_of := f14
  d_digits_of := PySem.W.fnOf "digits_of" "digits_of" (defArgs s_digits_of) (defBody s_digits_of) (defScope s_digits_of) .none kV14 dc14 pm14 an14 cd14 ct14
  F_digits_of := fun_mk (st := s_digits_of) l14 c14 k14
  b_digits_of := Fun.binds (fun_mk (st := s_digits_of) l14 c14 k14) (ps := ["number"]) fun _ _ _ _ _ _ us hl => match us, hl with | [_], _ => rfl
  g_digits_of := PySem.W.mg_of X G a14
  f_parted := f15
  d_parted := PySem.W.fnOf "parted" "parted" (defArgs s_parted) (defBody s_parted) (defScope s_parted) .none kV15 dc15 pm15 an15 cd15 ct15
  F_parted := fun_mk (st := s_parted) l15 c15 k15
  b_parted := Fun.binds (fun_mk (st := s_parted) l15 c15 k15) (ps := ["parts"]) fun _ _ _ _ _ _ us hl => match us, hl with | [_], _ => rfl
  g_parted := PySem.W.mg_of X G a15
  f_read := f16
  d_read := PySem.W.fnOf "read" "read" (defArgs s_read) (defBody s_read) (defScope s_read) .none kV16 dc16 pm16 an16 cd16 ct16
  F_read := fun_mk (st := s_read) l16 c16 k16
  b_read := Fun.binds (fun_mk (st := s_read) l16 c16 k16) (ps := ["text"]) fun _ _ _ _ _ _ us hl => match us, hl with | [_], _ => rfl
  g_read := PySem.W.mg_of X G a16
  f_read_letter := f17
  d_read_letter := PySem.W.fnOf "read_letter" "read_letter" (defArgs s_read_letter) (defBody s_read_letter) (defScope s_read_letter) .none kV17 dc17 pm17 an17 cd17 ct17
  F_read_letter := fun_mk (st := s_read_letter) l17 c17 k17
  b_read_letter := Fun.binds (fun_mk (st := s_read_letter) l17 c17 k17) (ps := ["text"]) fun _ _ _ _ _ _ us hl => match us, hl with | [_], _ => rfl
  g_read_letter := PySem.W.mg_of X G a17
  f_read_value := f18
  d_read_value := PySem.W.fnOf "read_value" "read_value" (defArgs s_read_value) (defBody s_read_value) (defScope s_read_value) .none kV18 dc18 pm18 an18 cd18 ct18
  F_read_value := fun_mk (st := s_read_value) l18 c18 k18
  b_read_value := Fun.binds (fun_mk (st := s_read_value) l18 c18 k18) (ps := ["text", "start", "depth"]) fun _ _ _ _ _ _ us hl => match us, hl with | [_, _, _], _ => rfl
  g_read_value := PySem.W.mg_of X G a18
  f_read_text := f19
  d_read_text := PySem.W.fnOf "read_text" "read_text" (defArgs s_read_text) (defBody s_read_text) (defScope s_read_text) .none kV19 dc19 pm19 an19 cd19 ct19
  F_read_text := fun_mk (st := s_read_text) l19 c19 k19
  b_read_text := Fun.binds (fun_mk (st := s_read_text) l19 c19 k19) (ps := ["text", "digits", "start"]) fun _ _ _ _ _ _ us hl => match us, hl with | [_, _, _], _ => rfl
  g_read_text := PySem.W.mg_of X G a19
  f_read_tuple := f20
  d_read_tuple := PySem.W.fnOf "read_tuple" "read_tuple" (defArgs s_read_tuple) (defBody s_read_tuple) (defScope s_read_tuple) .none kV20 dc20 pm20 an20 cd20 ct20
  F_read_tuple := fun_mk (st := s_read_tuple) l20 c20 k20
  b_read_tuple := Fun.binds (fun_mk (st := s_read_tuple) l20 c20 k20) (ps := ["text", "start", "depth"]) fun _ _ _ _ _ _ us hl => match us, hl with | [_, _, _], _ => rfl
  g_read_tuple := PySem.W.mg_of X G a20
  f_sign_at := f21
  d_sign_at := PySem.W.fnOf "sign_at" "sign_at" (defArgs s_sign_at) (defBody s_sign_at) (defScope s_sign_at) .none kV21 dc21 pm21 an21 cd21 ct21
  F_sign_at := fun_mk (st := s_sign_at) l21 c21 k21
  b_sign_at := Fun.binds (fun_mk (st := s_sign_at) l21 c21 k21) (ps := ["text", "place"]) fun _ _ _ _ _ _ us hl => match us, hl with | [_, _], _ => rfl
  g_sign_at := PySem.W.mg_of X G a21
  f_digits_at := f22
  d_digits_at := PySem.W.fnOf "digits_at" "digits_at" (defArgs s_digits_at) (defBody s_digits_at) (defScope s_digits_at) .none kV22 dc22 pm22 an22 cd22 ct22
  F_digits_at := fun_mk (st := s_digits_at) l22 c22 k22
  b_digits_at := Fun.binds (fun_mk (st := s_digits_at) l22 c22 k22) (ps := ["text", "start", "most"]) fun _ _ _ _ _ _ us hl => match us, hl with | [_, _, _], _ => rfl
  g_digits_at := PySem.W.mg_of X G a22
  f_L_pot := f23
  d_L_pot := PySem.W.fnOf "_law_pot" "_law_pot" (defArgs s_L_pot) (defBody s_L_pot) (defScope s_L_pot) .none kV23 dc23 pm23 an23 cd23 ct23
  F_L_pot := fun_mk (st := s_L_pot) l23 c23 k23
  b_L_pot := Fun.binds (fun_mk (st := s_L_pot) l23 c23 k23) (ps := ["script"]) fun _ _ _ _ _ _ us hl => match us, hl with | [_], _ => rfl
  g_L_pot := PySem.W.mg_of X G a23
  f_L_next := f24
  d_L_next := PySem.W.fnOf "_law_next" "_law_next" (defArgs s_L_next) (defBody s_L_next) (defScope s_L_next) .none kV24 dc24 pm24 an24 cd24 ct24
  F_L_next := fun_mk (st := s_L_next) l24 c24 k24
  b_L_next := Fun.binds (fun_mk (st := s_L_next) l24 c24 k24) (ps := ["pot", "limit"]) fun _ _ _ _ _ _ us hl => match us, hl with | [_, _], _ => rfl
  g_L_next := PySem.W.mg_of X G a24
  f_L_is_int := f25
  d_L_is_int := PySem.W.fnOf "_law_is_int" "_law_is_int" (defArgs s_L_is_int) (defBody s_L_is_int) (defScope s_L_is_int) .none kV25 dc25 pm25 an25 cd25 ct25
  F_L_is_int := fun_mk (st := s_L_is_int) l25 c25 k25
  b_L_is_int := Fun.binds (fun_mk (st := s_L_is_int) l25 c25 k25) (ps := ["value"]) fun _ _ _ _ _ _ us hl => match us, hl with | [_], _ => rfl
  g_L_is_int := PySem.W.mg_of X G a25
  f_L_same := f26
  d_L_same := PySem.W.fnOf "_law_same" "_law_same" (defArgs s_L_same) (defBody s_L_same) (defScope s_L_same) .none kV26 dc26 pm26 an26 cd26 ct26
  F_L_same := fun_mk (st := s_L_same) l26 c26 k26
  b_L_same := Fun.binds (fun_mk (st := s_L_same) l26 c26 k26) (ps := ["found", "value"]) fun _ _ _ _ _ _ us hl => match us, hl with | [_, _], _ => rfl
  g_L_same := PySem.W.mg_of X G a26
  f_L_set := f27
  d_L_set := PySem.W.fnOf "_law_set" "_law_set" (defArgs s_L_set) (defBody s_L_set) (defScope s_L_set) .none kV27 dc27 pm27 an27 cd27 ct27
  F_L_set := fun_mk (st := s_L_set) l27 c27 k27
  b_L_set := Fun.binds (fun_mk (st := s_L_set) l27 c27 k27) (ps := ["pot", "most"]) fun _ _ _ _ _ _ us hl => match us, hl with | [_, _], _ => rfl
  g_L_set := PySem.W.mg_of X G a27
  f_L_transfer := f28
  d_L_transfer := PySem.W.fnOf "_law_transfer" "_law_transfer" (defArgs s_L_transfer) (defBody s_L_transfer) (defScope s_L_transfer) .none kV28 dc28 pm28 an28 cd28 ct28
  F_L_transfer := fun_mk (st := s_L_transfer) l28 c28 k28
  b_L_transfer := Fun.binds (fun_mk (st := s_L_transfer) l28 c28 k28) (ps := ["pot"]) fun _ _ _ _ _ _ us hl => match us, hl with | [_], _ => rfl
  g_L_transfer := PySem.W.mg_of X G a28
  f_L_letter := f29
  d_L_letter := PySem.W.fnOf "_law_letter" "_law_letter" (defArgs s_L_letter) (defBody s_L_letter) (defScope s_L_letter) .none kV29 dc29 pm29 an29 cd29 ct29
  F_L_letter := fun_mk (st := s_L_letter) l29 c29 k29
  b_L_letter := Fun.binds (fun_mk (st := s_L_letter) l29 c29 k29) (ps := ["pot"]) fun _ _ _ _ _ _ us hl => match us, hl with | [_], _ => rfl
  g_L_letter := PySem.W.mg_of X G a29
  f_L_refused := f30
  d_L_refused := PySem.W.fnOf "_law_refused" "_law_refused" (defArgs s_L_refused) (defBody s_L_refused) (defScope s_L_refused) .none kV30 dc30 pm30 an30 cd30 ct30
  F_L_refused := fun_mk (st := s_L_refused) l30 c30 k30
  b_L_refused := Fun.binds (fun_mk (st := s_L_refused) l30 c30 k30) (ps := ["text"]) fun _ _ _ _ _ _ us hl => match us, hl with | [_], _ => rfl
  g_L_refused := PySem.W.mg_of X G a30
  f_L_value := f31
  d_L_value := PySem.W.fnOf "_law_value" "_law_value" (defArgs s_L_value) (defBody s_L_value) (defScope s_L_value) .none kV31 dc31 pm31 an31 cd31 ct31
  F_L_value := fun_mk (st := s_L_value) l31 c31 k31
  b_L_value := Fun.binds (fun_mk (st := s_L_value) l31 c31 k31) (ps := ["pot", "depth"]) fun _ _ _ _ _ _ us hl => match us, hl with | [_, _], _ => rfl
  g_L_value := PySem.W.mg_of X G a31
  f_L_written := f32
  d_L_written := PySem.W.fnOf "_law_written" "_law_written" (defArgs s_L_written) (defBody s_L_written) (defScope s_L_written) .none kV32 dc32 pm32 an32 cd32 ct32
  F_L_written := fun_mk (st := s_L_written) l32 c32 k32
  b_L_written := Fun.binds (fun_mk (st := s_L_written) l32 c32 k32) (ps := ["value"]) fun _ _ _ _ _ _ us hl => match us, hl with | [_], _ => rfl
  g_L_written := PySem.W.mg_of X G a32
  f_law := f33
  d_law := PySem.W.fnOf "law" "law" (defArgs s_law) (defBody s_law) (defScope s_law) .none kV33 dc33 pm33 an33 cd33 ct33
  F_law := fun_mk (st := s_law) l33 c33 k33
  b_law := Fun.binds (fun_mk (st := s_law) l33 c33 k33) (ps := ["script"]) fun _ _ _ _ _ _ us hl => match us, hl with | [_], _ => rfl
  g_law := PySem.W.mg_of X G a33
  C_BridgeError := C0
  g_BridgeError := PySem.W.mg_of X G aC0
  xe_BridgeError := xe0
  ke_BridgeError := ke0
  be_BridgeError := be0
  te_BridgeError := te0
  ie_BridgeError := ie0
  se_BridgeError := se0
  hd_BridgeError := hd0
  C_BadNotation := C1
  g_BadNotation := PySem.W.mg_of X G aC1
  xe_BadNotation := xe1
  ke_BadNotation := ke1
  be_BadNotation := be1
  te_BadNotation := te1
  ie_BadNotation := ie1
  se_BadNotation := se1
  hg_BadNotation := hg1
  hk_BadNotation := hk1
  hd_BadNotation := hd1
  ha_BadNotation := ha1
  hm_BadNotation := hm1
  hn_BadNotation := hn1
  ht_BadNotation := ht1
  ue_BadNotation := ue1
  a_ABOUT_ALL := g0
  c_ABOUT_ALL := PySem.W.mg_of X G q0
  k_ABOUT_ALL := ⟨_, _, _, r0, rfl, rfl, (ValsB.size v0 (by decide)), ValsB.vals v0⟩
  a_ABOUT_ONE := g1
  c_ABOUT_ONE := PySem.W.mg_of X G q1
  k_ABOUT_ONE := ⟨_, _, _, r1, rfl, rfl, (ValsB.size v1 (by decide)), ValsB.vals v1⟩
  t_ACCOUNT_LENGTH := tk2
  c_ACCOUNT_LENGTH := PySem.W.mg_of X G q2
  t_BARRED_CODE := tk3
  c_BARRED_CODE := PySem.W.mg_of X G q3
  t_DEEPEST := tk4
  c_DEEPEST := PySem.W.mg_of X G q4
  t_FIRST_CODE := tk5
  c_FIRST_CODE := PySem.W.mg_of X G q5
  t_LAST_CODE := tk6
  c_LAST_CODE := PySem.W.mg_of X G q6
  t_MOST_DIGITS := tk7
  c_MOST_DIGITS := PySem.W.mg_of X G q7
  t_MOST_LENGTH_DIGITS := tk8
  c_MOST_LENGTH_DIGITS := PySem.W.mg_of X G q8
  t_MOST_TRANSFERS := tk9
  c_MOST_TRANSFERS := PySem.W.mg_of X G q9
  t_PIECE := tk10
  c_PIECE := PySem.W.mg_of X G q10
  a_SIDES := g11
  c_SIDES := PySem.W.mg_of X G q11
  k_SIDES := ⟨_, _, _, r11, rfl, rfl, (ValsB.size v11 (by decide)), ValsB.vals v11⟩
  z_abs := PySem.W.mg_none_of X G z0
  z_all := PySem.W.mg_none_of X G z1
  z_bool := PySem.W.mg_none_of X G z2
  z_int := PySem.W.mg_none_of X G z3
  z_isinstance := PySem.W.mg_none_of X G z4
  z_len := PySem.W.mg_none_of X G z5
  z_list := PySem.W.mg_none_of X G z6
  z_ord := PySem.W.mg_none_of X G z7
  z_range := PySem.W.mg_none_of X G z8
  z_reversed := PySem.W.mg_none_of X G z9
  z_str := PySem.W.mg_none_of X G z10
  z_tuple := PySem.W.mg_none_of X G z11
theorem all_mk {l : PySem.W.OpenLaw} {w : World} {K : PySem.W.Frag} {h : Heap} {mg : Str → Option Value} {fa : Addr} (X : K.In h) (G : h.Ns mainGlobals mg) (hfa : mg "law" = some (.ref fa))
    {f0 f1 f2 f3 f4 f5 f6 f7 f8 f9 f10 f11 f12 f13 f14 f15 f16 f17 f18 f19 f20 f21 f22 f23 f24 f25 f26 f27 f28 f29 f30 f31 f32 f33 C0 C1 g0 g1 g11 : Addr} {od0 an0 od1 an1 od2 an2 od3 an3 od4 an4 od5 an5 od6 an6 od7 an7 od8 an8 od9 an9 od10 an10 od11 an11 od12 an12 od13 an13 od14 an14 od15 an15 od16 an16 od17 an17 od18 an18 od19 an19 od20 an20 od21 an21 od22 an22 od23 an23 od24 an24 od25 an25 od26 an26 od27 an27 od28 an28 od29 an29 od30 an30 od31 an31 od32 an32 od33 an33 : Option Addr} {sl0 sl1 sl2 sl3 sl4 sl5 sl6 sl7 sl8 sl9 sl10 sl11 sl12 sl13 sl14 sl15 sl16 sl17 sl18 sl19 sl20 sl21 sl22 sl23 sl24 sl25 sl26 sl27 sl28 sl29 sl30 sl31 sl32 sl33 : Array (Option Value)} {oc0 kV0 dc0 pm0 cd0 ct0 oc1 kV1 dc1 pm1 cd1 ct1 oc2 kV2 dc2 pm2 cd2 ct2 oc3 kV3 dc3 pm3 cd3 ct3 oc4 kV4 dc4 pm4 cd4 ct4 oc5 kV5 dc5 pm5 cd5 ct5 oc6 kV6 dc6 pm6 cd6 ct6 oc7 kV7 dc7 pm7 cd7 ct7 oc8 kV8 dc8 pm8 cd8 ct8 oc9 kV9 dc9 pm9 cd9 ct9 oc10 kV10 dc10 pm10 cd10 ct10 oc11 kV11 dc11 pm11 cd11 ct11 oc12 kV12 dc12 pm12 cd12 ct12 oc13 kV13 dc13 pm13 cd13 ct13 oc14 kV14 dc14 pm14 cd14 ct14 oc15 kV15 dc15 pm15 cd15 ct15 oc16 kV16 dc16 pm16 cd16 ct16 oc17 kV17 dc17 pm17 cd17 ct17 oc18 kV18 dc18 pm18 cd18 ct18 oc19 kV19 dc19 pm19 cd19 ct19 oc20 kV20 dc20 pm20 cd20 ct20 oc21 kV21 dc21 pm21 cd21 ct21 oc22 kV22 dc22 pm22 cd22 ct22 oc23 kV23 dc23 pm23 cd23 ct23 oc24 kV24 dc24 pm24 cd24 ct24 oc25 kV25 dc25 pm25 cd25 ct25 oc26 kV26 dc26 pm26 cd26 ct26 oc27 kV27 dc27 pm27 cd27 ct27 oc28 kV28 dc28 pm28 cd28 ct28 oc29 kV29 dc29 pm29 cd29 ct29 oc30 kV30 dc30 pm30 cd30 ct30 oc31 kV31 dc31 pm31 cd31 ct31 oc32 kV32 dc32 pm32 cd32 ct32 oc33 kV33 dc33 pm33 cd33 ct33 : Value} {tk2 tk3 tk4 tk5 tk6 tk7 tk8 tk9 tk10 : Tok} {odg0 : Option Addr} {itg0 : Array Value} {ng0 : Nat} {slg0 : Array (Option Value)} {odg1 : Option Addr} {itg1 : Array Value} {ng1 : Nat} {slg1 : Array (Option Value)} {odg11 : Option Addr} {itg11 : Array Value} {ng11 : Nat} {slg11 : Array (Option Value)}
    (a0 : PySem.W.nsIn K mainGlobals "_wall" = some (some (.ref f0)))
    (a1 : PySem.W.nsIn K mainGlobals "is_integer" = some (some (.ref f1)))
    (a2 : PySem.W.nsIn K mainGlobals "is_at_least" = some (some (.ref f2)))
    (a3 : PySem.W.nsIn K mainGlobals "is_text" = some (some (.ref f3)))
    (a4 : PySem.W.nsIn K mainGlobals "is_short_text" = some (some (.ref f4)))
    (a5 : PySem.W.nsIn K mainGlobals "is_account" = some (some (.ref f5)))
    (a6 : PySem.W.nsIn K mainGlobals "is_side" = some (some (.ref f6)))
    (a7 : PySem.W.nsIn K mainGlobals "is_set" = some (some (.ref f7)))
    (a8 : PySem.W.nsIn K mainGlobals "is_pair" = some (some (.ref f8)))
    (a9 : PySem.W.nsIn K mainGlobals "is_transfer" = some (some (.ref f9)))
    (a10 : PySem.W.nsIn K mainGlobals "is_bundle" = some (some (.ref f10)))
    (a11 : PySem.W.nsIn K mainGlobals "is_letter" = some (some (.ref f11)))
    (a12 : PySem.W.nsIn K mainGlobals "write" = some (some (.ref f12)))
    (a13 : PySem.W.nsIn K mainGlobals "written_integer" = some (some (.ref f13)))
    (a14 : PySem.W.nsIn K mainGlobals "digits_of" = some (some (.ref f14)))
    (a15 : PySem.W.nsIn K mainGlobals "parted" = some (some (.ref f15)))
    (a16 : PySem.W.nsIn K mainGlobals "read" = some (some (.ref f16)))
    (a17 : PySem.W.nsIn K mainGlobals "read_letter" = some (some (.ref f17)))
    (a18 : PySem.W.nsIn K mainGlobals "read_value" = some (some (.ref f18)))
    (a19 : PySem.W.nsIn K mainGlobals "read_text" = some (some (.ref f19)))
    (a20 : PySem.W.nsIn K mainGlobals "read_tuple" = some (some (.ref f20)))
    (a21 : PySem.W.nsIn K mainGlobals "sign_at" = some (some (.ref f21)))
    (a22 : PySem.W.nsIn K mainGlobals "digits_at" = some (some (.ref f22)))
    (a23 : PySem.W.nsIn K mainGlobals "_law_pot" = some (some (.ref f23)))
    (a24 : PySem.W.nsIn K mainGlobals "_law_next" = some (some (.ref f24)))
    (a25 : PySem.W.nsIn K mainGlobals "_law_is_int" = some (some (.ref f25)))
    (a26 : PySem.W.nsIn K mainGlobals "_law_same" = some (some (.ref f26)))
    (a27 : PySem.W.nsIn K mainGlobals "_law_set" = some (some (.ref f27)))
    (a28 : PySem.W.nsIn K mainGlobals "_law_transfer" = some (some (.ref f28)))
    (a29 : PySem.W.nsIn K mainGlobals "_law_letter" = some (some (.ref f29)))
    (a30 : PySem.W.nsIn K mainGlobals "_law_refused" = some (some (.ref f30)))
    (a31 : PySem.W.nsIn K mainGlobals "_law_value" = some (some (.ref f31)))
    (a32 : PySem.W.nsIn K mainGlobals "_law_written" = some (some (.ref f32)))
    (a33 : PySem.W.nsIn K mainGlobals "law" = some (some (.ref f33)))
    (aC0 : PySem.W.nsIn K mainGlobals "BridgeError" = some (some (.ref C0)))
    (aC1 : PySem.W.nsIn K mainGlobals "BadNotation" = some (some (.ref C1)))
    (l0 : K.lookup f0 = some ⟨oc0, od0, .func (PySem.W.fnOf "_wall" "_wall" (defArgs s__wall) (defBody s__wall) (defScope s__wall) .none kV0 dc0 pm0 an0 cd0 ct0), sl0⟩)
    (c0 : PySem.W.codeIn K cd0 "_wall" = true)
    (k0 : PySem.W.keepIn K (.ref f0) = true)
    (l1 : K.lookup f1 = some ⟨oc1, od1, .func (PySem.W.fnOf "is_integer" "is_integer" (defArgs s_is_integer) (defBody s_is_integer) (defScope s_is_integer) .none kV1 dc1 pm1 an1 cd1 ct1), sl1⟩)
    (c1 : PySem.W.codeIn K cd1 "is_integer" = true)
    (k1 : PySem.W.keepIn K (.ref f1) = true)
    (l2 : K.lookup f2 = some ⟨oc2, od2, .func (PySem.W.fnOf "is_at_least" "is_at_least" (defArgs s_is_at_least) (defBody s_is_at_least) (defScope s_is_at_least) .none kV2 dc2 pm2 an2 cd2 ct2), sl2⟩)
    (c2 : PySem.W.codeIn K cd2 "is_at_least" = true)
    (k2 : PySem.W.keepIn K (.ref f2) = true)
    (l3 : K.lookup f3 = some ⟨oc3, od3, .func (PySem.W.fnOf "is_text" "is_text" (defArgs s_is_text) (defBody s_is_text) (defScope s_is_text) .none kV3 dc3 pm3 an3 cd3 ct3), sl3⟩)
    (c3 : PySem.W.codeIn K cd3 "is_text" = true)
    (k3 : PySem.W.keepIn K (.ref f3) = true)
    (l4 : K.lookup f4 = some ⟨oc4, od4, .func (PySem.W.fnOf "is_short_text" "is_short_text" (defArgs s_is_short_text) (defBody s_is_short_text) (defScope s_is_short_text) .none kV4 dc4 pm4 an4 cd4 ct4), sl4⟩)
    (c4 : PySem.W.codeIn K cd4 "is_short_text" = true)
    (k4 : PySem.W.keepIn K (.ref f4) = true)
    (l5 : K.lookup f5 = some ⟨oc5, od5, .func (PySem.W.fnOf "is_account" "is_account" (defArgs s_is_account) (defBody s_is_account) (defScope s_is_account) .none kV5 dc5 pm5 an5 cd5 ct5), sl5⟩)
    (c5 : PySem.W.codeIn K cd5 "is_account" = true)
    (k5 : PySem.W.keepIn K (.ref f5) = true)
    (l6 : K.lookup f6 = some ⟨oc6, od6, .func (PySem.W.fnOf "is_side" "is_side" (defArgs s_is_side) (defBody s_is_side) (defScope s_is_side) .none kV6 dc6 pm6 an6 cd6 ct6), sl6⟩)
    (c6 : PySem.W.codeIn K cd6 "is_side" = true)
    (k6 : PySem.W.keepIn K (.ref f6) = true)
    (l7 : K.lookup f7 = some ⟨oc7, od7, .func (PySem.W.fnOf "is_set" "is_set" (defArgs s_is_set) (defBody s_is_set) (defScope s_is_set) .none kV7 dc7 pm7 an7 cd7 ct7), sl7⟩)
    (c7 : PySem.W.codeIn K cd7 "is_set" = true)
    (k7 : PySem.W.keepIn K (.ref f7) = true)
    (l8 : K.lookup f8 = some ⟨oc8, od8, .func (PySem.W.fnOf "is_pair" "is_pair" (defArgs s_is_pair) (defBody s_is_pair) (defScope s_is_pair) .none kV8 dc8 pm8 an8 cd8 ct8), sl8⟩)
    (c8 : PySem.W.codeIn K cd8 "is_pair" = true)
    (k8 : PySem.W.keepIn K (.ref f8) = true)
    (l9 : K.lookup f9 = some ⟨oc9, od9, .func (PySem.W.fnOf "is_transfer" "is_transfer" (defArgs s_is_transfer) (defBody s_is_transfer) (defScope s_is_transfer) .none kV9 dc9 pm9 an9 cd9 ct9), sl9⟩)
    (c9 : PySem.W.codeIn K cd9 "is_transfer" = true)
    (k9 : PySem.W.keepIn K (.ref f9) = true)
    (l10 : K.lookup f10 = some ⟨oc10, od10, .func (PySem.W.fnOf "is_bundle" "is_bundle" (defArgs s_is_bundle) (defBody s_is_bundle) (defScope s_is_bundle) .none kV10 dc10 pm10 an10 cd10 ct10), sl10⟩)
    (c10 : PySem.W.codeIn K cd10 "is_bundle" = true)
    (k10 : PySem.W.keepIn K (.ref f10) = true)
    (l11 : K.lookup f11 = some ⟨oc11, od11, .func (PySem.W.fnOf "is_letter" "is_letter" (defArgs s_is_letter) (defBody s_is_letter) (defScope s_is_letter) .none kV11 dc11 pm11 an11 cd11 ct11), sl11⟩)
    (c11 : PySem.W.codeIn K cd11 "is_letter" = true)
    (k11 : PySem.W.keepIn K (.ref f11) = true)
    (l12 : K.lookup f12 = some ⟨oc12, od12, .func (PySem.W.fnOf "write" "write" (defArgs s_write) (defBody s_write) (defScope s_write) .none kV12 dc12 pm12 an12 cd12 ct12), sl12⟩)
    (c12 : PySem.W.codeIn K cd12 "write" = true)
    (k12 : PySem.W.keepIn K (.ref f12) = true)
    (l13 : K.lookup f13 = some ⟨oc13, od13, .func (PySem.W.fnOf "written_integer" "written_integer" (defArgs s_written_integer) (defBody s_written_integer) (defScope s_written_integer) .none kV13 dc13 pm13 an13 cd13 ct13), sl13⟩)
    (c13 : PySem.W.codeIn K cd13 "written_integer" = true)
    (k13 : PySem.W.keepIn K (.ref f13) = true)
    (l14 : K.lookup f14 = some ⟨oc14, od14, .func (PySem.W.fnOf "digits_of" "digits_of" (defArgs s_digits_of) (defBody s_digits_of) (defScope s_digits_of) .none kV14 dc14 pm14 an14 cd14 ct14), sl14⟩)
    (c14 : PySem.W.codeIn K cd14 "digits_of" = true)
    (k14 : PySem.W.keepIn K (.ref f14) = true)
    (l15 : K.lookup f15 = some ⟨oc15, od15, .func (PySem.W.fnOf "parted" "parted" (defArgs s_parted) (defBody s_parted) (defScope s_parted) .none kV15 dc15 pm15 an15 cd15 ct15), sl15⟩)
    (c15 : PySem.W.codeIn K cd15 "parted" = true)
    (k15 : PySem.W.keepIn K (.ref f15) = true)
    (l16 : K.lookup f16 = some ⟨oc16, od16, .func (PySem.W.fnOf "read" "read" (defArgs s_read) (defBody s_read) (defScope s_read) .none kV16 dc16 pm16 an16 cd16 ct16), sl16⟩)
    (c16 : PySem.W.codeIn K cd16 "read" = true)
    (k16 : PySem.W.keepIn K (.ref f16) = true)
    (l17 : K.lookup f17 = some ⟨oc17, od17, .func (PySem.W.fnOf "read_letter" "read_letter" (defArgs s_read_letter) (defBody s_read_letter) (defScope s_read_letter) .none kV17 dc17 pm17 an17 cd17 ct17), sl17⟩)
    (c17 : PySem.W.codeIn K cd17 "read_letter" = true)
    (k17 : PySem.W.keepIn K (.ref f17) = true)
    (l18 : K.lookup f18 = some ⟨oc18, od18, .func (PySem.W.fnOf "read_value" "read_value" (defArgs s_read_value) (defBody s_read_value) (defScope s_read_value) .none kV18 dc18 pm18 an18 cd18 ct18), sl18⟩)
    (c18 : PySem.W.codeIn K cd18 "read_value" = true)
    (k18 : PySem.W.keepIn K (.ref f18) = true)
    (l19 : K.lookup f19 = some ⟨oc19, od19, .func (PySem.W.fnOf "read_text" "read_text" (defArgs s_read_text) (defBody s_read_text) (defScope s_read_text) .none kV19 dc19 pm19 an19 cd19 ct19), sl19⟩)
    (c19 : PySem.W.codeIn K cd19 "read_text" = true)
    (k19 : PySem.W.keepIn K (.ref f19) = true)
    (l20 : K.lookup f20 = some ⟨oc20, od20, .func (PySem.W.fnOf "read_tuple" "read_tuple" (defArgs s_read_tuple) (defBody s_read_tuple) (defScope s_read_tuple) .none kV20 dc20 pm20 an20 cd20 ct20), sl20⟩)
    (c20 : PySem.W.codeIn K cd20 "read_tuple" = true)
    (k20 : PySem.W.keepIn K (.ref f20) = true)
    (l21 : K.lookup f21 = some ⟨oc21, od21, .func (PySem.W.fnOf "sign_at" "sign_at" (defArgs s_sign_at) (defBody s_sign_at) (defScope s_sign_at) .none kV21 dc21 pm21 an21 cd21 ct21), sl21⟩)
    (c21 : PySem.W.codeIn K cd21 "sign_at" = true)
    (k21 : PySem.W.keepIn K (.ref f21) = true)
    (l22 : K.lookup f22 = some ⟨oc22, od22, .func (PySem.W.fnOf "digits_at" "digits_at" (defArgs s_digits_at) (defBody s_digits_at) (defScope s_digits_at) .none kV22 dc22 pm22 an22 cd22 ct22), sl22⟩)
    (c22 : PySem.W.codeIn K cd22 "digits_at" = true)
    (k22 : PySem.W.keepIn K (.ref f22) = true)
    (l23 : K.lookup f23 = some ⟨oc23, od23, .func (PySem.W.fnOf "_law_pot" "_law_pot" (defArgs s_L_pot) (defBody s_L_pot) (defScope s_L_pot) .none kV23 dc23 pm23 an23 cd23 ct23), sl23⟩)
    (c23 : PySem.W.codeIn K cd23 "_law_pot" = true)
    (k23 : PySem.W.keepIn K (.ref f23) = true)
    (l24 : K.lookup f24 = some ⟨oc24, od24, .func (PySem.W.fnOf "_law_next" "_law_next" (defArgs s_L_next) (defBody s_L_next) (defScope s_L_next) .none kV24 dc24 pm24 an24 cd24 ct24), sl24⟩)
    (c24 : PySem.W.codeIn K cd24 "_law_next" = true)
    (k24 : PySem.W.keepIn K (.ref f24) = true)
    (l25 : K.lookup f25 = some ⟨oc25, od25, .func (PySem.W.fnOf "_law_is_int" "_law_is_int" (defArgs s_L_is_int) (defBody s_L_is_int) (defScope s_L_is_int) .none kV25 dc25 pm25 an25 cd25 ct25), sl25⟩)
    (c25 : PySem.W.codeIn K cd25 "_law_is_int" = true)
    (k25 : PySem.W.keepIn K (.ref f25) = true)
    (l26 : K.lookup f26 = some ⟨oc26, od26, .func (PySem.W.fnOf "_law_same" "_law_same" (defArgs s_L_same) (defBody s_L_same) (defScope s_L_same) .none kV26 dc26 pm26 an26 cd26 ct26), sl26⟩)
    (c26 : PySem.W.codeIn K cd26 "_law_same" = true)
    (k26 : PySem.W.keepIn K (.ref f26) = true)
    (l27 : K.lookup f27 = some ⟨oc27, od27, .func (PySem.W.fnOf "_law_set" "_law_set" (defArgs s_L_set) (defBody s_L_set) (defScope s_L_set) .none kV27 dc27 pm27 an27 cd27 ct27), sl27⟩)
    (c27 : PySem.W.codeIn K cd27 "_law_set" = true)
    (k27 : PySem.W.keepIn K (.ref f27) = true)
    (l28 : K.lookup f28 = some ⟨oc28, od28, .func (PySem.W.fnOf "_law_transfer" "_law_transfer" (defArgs s_L_transfer) (defBody s_L_transfer) (defScope s_L_transfer) .none kV28 dc28 pm28 an28 cd28 ct28), sl28⟩)
    (c28 : PySem.W.codeIn K cd28 "_law_transfer" = true)
    (k28 : PySem.W.keepIn K (.ref f28) = true)
    (l29 : K.lookup f29 = some ⟨oc29, od29, .func (PySem.W.fnOf "_law_letter" "_law_letter" (defArgs s_L_letter) (defBody s_L_letter) (defScope s_L_letter) .none kV29 dc29 pm29 an29 cd29 ct29), sl29⟩)
    (c29 : PySem.W.codeIn K cd29 "_law_letter" = true)
    (k29 : PySem.W.keepIn K (.ref f29) = true)
    (l30 : K.lookup f30 = some ⟨oc30, od30, .func (PySem.W.fnOf "_law_refused" "_law_refused" (defArgs s_L_refused) (defBody s_L_refused) (defScope s_L_refused) .none kV30 dc30 pm30 an30 cd30 ct30), sl30⟩)
    (c30 : PySem.W.codeIn K cd30 "_law_refused" = true)
    (k30 : PySem.W.keepIn K (.ref f30) = true)
    (l31 : K.lookup f31 = some ⟨oc31, od31, .func (PySem.W.fnOf "_law_value" "_law_value" (defArgs s_L_value) (defBody s_L_value) (defScope s_L_value) .none kV31 dc31 pm31 an31 cd31 ct31), sl31⟩)
    (c31 : PySem.W.codeIn K cd31 "_law_value" = true)
    (k31 : PySem.W.keepIn K (.ref f31) = true)
    (l32 : K.lookup f32 = some ⟨oc32, od32, .func (PySem.W.fnOf "_law_written" "_law_written" (defArgs s_L_written) (defBody s_L_written) (defScope s_L_written) .none kV32 dc32 pm32 an32 cd32 ct32), sl32⟩)
    (c32 : PySem.W.codeIn K cd32 "_law_written" = true)
    (k32 : PySem.W.keepIn K (.ref f32) = true)
    (l33 : K.lookup f33 = some ⟨oc33, od33, .func (PySem.W.fnOf "law" "law" (defArgs s_law) (defBody s_law) (defScope s_law) .none kV33 dc33 pm33 an33 cd33 ct33), sl33⟩)
    (c33 : PySem.W.codeIn K cd33 "law" = true)
    (k33 : PySem.W.keepIn K (.ref f33) = true)
    (xe0 : PySem.W.excIn K C0 [.type "ValueError", .type "Exception", .type "BaseException", .type "object"] "ValueError.__new__" = true)
    (ke0 : PySem.W.keepIn K (.ref C0) = true)
    (be0 : PySem.W.subIn K (.ref C0) (.type "BaseException") = some true)
    (te0 : PySem.W.typeIn K (.ref C0) = some (.type "type"))
    (ie0 : PySem.W.isClsIn K C0 = true)
    (se0 : PySem.W.subIn K (.ref C0) (.ref C0) = some true)
    (hd0 : PySem.W.hasDictIn K C0 = true)
    (xe1 : PySem.W.excIn K C1 [.type "ValueError", .type "Exception", .type "BaseException", .type "object"] "ValueError.__new__" = true)
    (ke1 : PySem.W.keepIn K (.ref C1) = true)
    (be1 : PySem.W.subIn K (.ref C1) (.type "BaseException") = some true)
    (te1 : PySem.W.typeIn K (.ref C1) = some (.type "type"))
    (ie1 : PySem.W.isClsIn K C1 = true)
    (se1 : PySem.W.subIn K (.ref C1) (.ref C1) = some true)
    (hg1 : PySem.W.findIn K (.ref C1) "__getattribute__" = some (some (.builtin "BaseException.__getattribute__")))
    (hk1 : PySem.W.findIn K (.ref C1) "__getattr__" = some none)
    (hd1 : PySem.W.hasDictIn K C1 = true)
    (ha1 : PySem.W.findIn K (.ref C1) "__class__" = some (some (.builtin "object.__class__")))
    (hm1 : PySem.W.mroIn K C1 (.type "object") = some true)
    (hn1 : PySem.W.specialIn K (.builtin "object.__class__") "__get__" = some (some (.builtin "getset_descriptor.__get__")))
    (ht1 : PySem.W.takesIn K (.builtin "object.__class__") = some true)
    (ue1 : PySem.W.subIn K (.ref C1) (.ref C0) = some true)
    (q0 : PySem.W.nsIn K mainGlobals "ABOUT_ALL" = some (some (.ref g0)))
    (r0 : K.lookup g0 = some ⟨.type "tuple", odg0, .seq itg0 ng0, slg0⟩)
    (v0 : ValsB [.str "stop", .str "resume"] itg0.toList = true)
    (q1 : PySem.W.nsIn K mainGlobals "ABOUT_ONE" = some (some (.ref g1)))
    (r1 : K.lookup g1 = some ⟨.type "tuple", odg1, .seq itg1 ng1, slg1⟩)
    (v1 : ValsB [.str "deliver", .str "return", .str "cancel"] itg1.toList = true)
    (q2 : PySem.W.nsIn K mainGlobals "ACCOUNT_LENGTH" = some (some (.int 20 tk2)))
    (q3 : PySem.W.nsIn K mainGlobals "BARRED_CODE" = some (some (.int 37 tk3)))
    (q4 : PySem.W.nsIn K mainGlobals "DEEPEST" = some (some (.int 10 tk4)))
    (q5 : PySem.W.nsIn K mainGlobals "FIRST_CODE" = some (some (.int 32 tk5)))
    (q6 : PySem.W.nsIn K mainGlobals "LAST_CODE" = some (some (.int 126 tk6)))
    (q7 : PySem.W.nsIn K mainGlobals "MOST_DIGITS" = some (some (.int 40 tk7)))
    (q8 : PySem.W.nsIn K mainGlobals "MOST_LENGTH_DIGITS" = some (some (.int 9 tk8)))
    (q9 : PySem.W.nsIn K mainGlobals "MOST_TRANSFERS" = some (some (.int 8 tk9)))
    (q10 : PySem.W.nsIn K mainGlobals "PIECE" = some (some (.int 10000000000000000000000000000000000000000000000000000000000000000 tk10)))
    (q11 : PySem.W.nsIn K mainGlobals "SIDES" = some (some (.ref g11)))
    (r11 : K.lookup g11 = some ⟨.type "tuple", odg11, .seq itg11 ng11, slg11⟩)
    (v11 : ValsB [.str "west", .str "east"] itg11.toList = true)
    (z0 : PySem.W.nsIn K mainGlobals "abs" = some none)
    (z1 : PySem.W.nsIn K mainGlobals "all" = some none)
    (z2 : PySem.W.nsIn K mainGlobals "bool" = some none)
    (z3 : PySem.W.nsIn K mainGlobals "int" = some none)
    (z4 : PySem.W.nsIn K mainGlobals "isinstance" = some none)
    (z5 : PySem.W.nsIn K mainGlobals "len" = some none)
    (z6 : PySem.W.nsIn K mainGlobals "list" = some none)
    (z7 : PySem.W.nsIn K mainGlobals "ord" = some none)
    (z8 : PySem.W.nsIn K mainGlobals "range" = some none)
    (z9 : PySem.W.nsIn K mainGlobals "reversed" = some none)
    (z10 : PySem.W.nsIn K mainGlobals "str" = some none)
    (z11 : PySem.W.nsIn K mainGlobals "tuple" = some none) :
    ∃ fd : FuncData, (∀ (s : Shared) (v : Value), BindsTo s fd ⟨[v], []⟩ [("script", v)]) ∧ ∀ base : Heap, K.In base → base.Ns mainGlobals mg → FnOk l.prog w K mg base CX0 30 fa fd ["script"] (spLaw K) := by
  have e := hfa.symm.trans (PySem.W.mg_of X G a33)
  cases e
  exact ⟨PySem.W.fnOf "law" "law" (defArgs s_law) (defBody s_law) (defScope s_law) .none kV33 dc33 pm33 an33 cd33 ct33, fun s v => .of_eq rfl, fun base _ _ => ok_law (txt_mk X G a0 a1 a2 a3 a4 a5 a6 a7 a8 a9 a10 a11 a12 a13 a14 a15 a16 a17 a18 a19 a20 a21 a22 a23 a24 a25 a26 a27 a28 a29 a30 a31 a32 a33 aC0 aC1 l0 c0 k0 l1 c1 k1 l2 c2 k2 l3 c3 k3 l4 c4 k4 l5 c5 k5 l6 c6 k6 l7 c7 k7 l8 c8 k8 l9 c9 k9 l10 c10 k10 l11 c11 k11 l12 c12 k12 l13 c13 k13 l14 c14 k14 l15 c15 k15 l16 c16 k16 l17 c17 k17 l18 c18 k18 l19 c19 k19 l20 c20 k20 l21 c21 k21 l22 c22 k22 l23 c23 k23 l24 c24 k24 l25 c25 k25 l26 c26 k26 l27 c27 k27 l28 c28 k28 l29 c29 k29 l30 c30 k30 l31 c31 k31 l32 c32 k32 l33 c33 k33 xe0 ke0 be0 te0 ie0 se0 hd0 xe1 ke1 be1 te1 ie1 se1 hg1 hk1 hd1 ha1 hm1 hn1 ht1 ue1 q0 r0 v0 q1 r1 v1 q2 q3 q4 q5 q6 q7 q8 q9 q10 q11 r11 v11 z0 z1 z2 z3 z4 z5 z6 z7 z8 z9 z10 z11)⟩
end Pf
open PySem PySem.W PyProof.Rows
set_option maxRecDepth 100000 in
set_option maxHeartbeats 0 in
theorem PySem.Challenge.cw_vaultbridge_k30_write_and_read_holds : PySem.Challenge.rw_vaultbridge_k30_write_and_read.Holds := by
  w_on; o_law; k_head; (case hw => w_witness2)
  k_fill
  refine L2.walk_of (l := PySem.Challenge.rw_vaultbridge_k30_write_and_read) (n := 63) (k := 30) (x := "script") (CX := fun _ => L2.CX0) (sp := fun w => Pf.spLaw _) rfl (by decide) rfl ⟨rfl, by decide, by decide⟩ (fun w h Y => PySem.W.kIn_of Y) ?F (fun _ _ a ns hl _ hS => ⟨a, ns, rfl, hS, hl, fun _ => rfl⟩) (fun _ _ _ _ _ h => h)
  case F =>
    intro w mg fa h KX G hmg
    refine' Pf.all_mk KX G hmg ?a0 ?a1 ?a2 ?a3 ?a4 ?a5 ?a6 ?a7 ?a8 ?a9 ?a10 ?a11 ?a12 ?a13 ?a14 ?a15 ?a16 ?a17 ?a18 ?a19 ?a20 ?a21 ?a22 ?a23 ?a24 ?a25 ?a26 ?a27 ?a28 ?a29 ?a30 ?a31 ?a32 ?a33 ?aC0 ?aC1 ?l0 ?c0 ?k0 ?l1 ?c1 ?k1 ?l2 ?c2 ?k2 ?l3 ?c3 ?k3 ?l4 ?c4 ?k4 ?l5 ?c5 ?k5 ?l6 ?c6 ?k6 ?l7 ?c7 ?k7 ?l8 ?c8 ?k8 ?l9 ?c9 ?k9 ?l10 ?c10 ?k10 ?l11 ?c11 ?k11 ?l12 ?c12 ?k12 ?l13 ?c13 ?k13 ?l14 ?c14 ?k14 ?l15 ?c15 ?k15 ?l16 ?c16 ?k16 ?l17 ?c17 ?k17 ?l18 ?c18 ?k18 ?l19 ?c19 ?k19 ?l20 ?c20 ?k20 ?l21 ?c21 ?k21 ?l22 ?c22 ?k22 ?l23 ?c23 ?k23 ?l24 ?c24 ?k24 ?l25 ?c25 ?k25 ?l26 ?c26 ?k26 ?l27 ?c27 ?k27 ?l28 ?c28 ?k28 ?l29 ?c29 ?k29 ?l30 ?c30 ?k30 ?l31 ?c31 ?k31 ?l32 ?c32 ?k32 ?l33 ?c33 ?k33 ?xe0 ?ke0 ?be0 ?te0 ?ie0 ?se0 ?hd0 ?xe1 ?ke1 ?be1 ?te1 ?ie1 ?se1 ?hg1 ?hk1 ?hd1 ?ha1 ?hm1 ?hn1 ?ht1 ?ue1 ?q0 ?r0 ?v0 ?q1 ?r1 ?v1 ?q2 ?q3 ?q4 ?q5 ?q6 ?q7 ?q8 ?q9 ?q10 ?q11 ?r11 ?v11 ?z0 ?z1 ?z2 ?z3 ?z4 ?z5 ?z6 ?z7 ?z8 ?z9 ?z10 ?z11
    (case a0 => k_is)
    (case a1 => k_is)
    (case a2 => k_is)
    (case a3 => k_is)
    (case a4 => k_is)
    (case a5 => k_is)
    (case a6 => k_is)
    (case a7 => k_is)
    (case a8 => k_is)
    (case a9 => k_is)
    (case a10 => k_is)
    (case a11 => k_is)
    (case a12 => k_is)
    (case a13 => k_is)
    (case a14 => k_is)
    (case a15 => k_is)
    (case a16 => k_is)
    (case a17 => k_is)
    (case a18 => k_is)
    (case a19 => k_is)
    (case a20 => k_is)
    (case a21 => k_is)
    (case a22 => k_is)
    (case a23 => k_is)
    (case a24 => k_is)
    (case a25 => k_is)
    (case a26 => k_is)
    (case a27 => k_is)
    (case a28 => k_is)
    (case a29 => k_is)
    (case a30 => k_is)
    (case a31 => k_is)
    (case a32 => k_is)
    (case a33 => k_is)
    (case aC0 => k_is)
    (case aC1 => k_is)
    (case l0 => k_is)
    (case c0 => k_is)
    (case k0 => k_is)
    (case l1 => k_is)
    (case c1 => k_is)
    (case k1 => k_is)
    (case l2 => k_is)
    (case c2 => k_is)
    (case k2 => k_is)
    (case l3 => k_is)
    (case c3 => k_is)
    (case k3 => k_is)
    (case l4 => k_is)
    (case c4 => k_is)
    (case k4 => k_is)
    (case l5 => k_is)
    (case c5 => k_is)
    (case k5 => k_is)
    (case l6 => k_is)
    (case c6 => k_is)
    (case k6 => k_is)
    (case l7 => k_is)
    (case c7 => k_is)
    (case k7 => k_is)
    (case l8 => k_is)
    (case c8 => k_is)
    (case k8 => k_is)
    (case l9 => k_is)
    (case c9 => k_is)
    (case k9 => k_is)
    (case l10 => k_is)
    (case c10 => k_is)
    (case k10 => k_is)
    (case l11 => k_is)
    (case c11 => k_is)
    (case k11 => k_is)
    (case l12 => k_is)
    (case c12 => k_is)
    (case k12 => k_is)
    (case l13 => k_is)
    (case c13 => k_is)
    (case k13 => k_is)
    (case l14 => k_is)
    (case c14 => k_is)
    (case k14 => k_is)
    (case l15 => k_is)
    (case c15 => k_is)
    (case k15 => k_is)
    (case l16 => k_is)
    (case c16 => k_is)
    (case k16 => k_is)
    (case l17 => k_is)
    (case c17 => k_is)
    (case k17 => k_is)
    (case l18 => k_is)
    (case c18 => k_is)
    (case k18 => k_is)
    (case l19 => k_is)
    (case c19 => k_is)
    (case k19 => k_is)
    (case l20 => k_is)
    (case c20 => k_is)
    (case k20 => k_is)
    (case l21 => k_is)
    (case c21 => k_is)
    (case k21 => k_is)
    (case l22 => k_is)
    (case c22 => k_is)
    (case k22 => k_is)
    (case l23 => k_is)
    (case c23 => k_is)
    (case k23 => k_is)
    (case l24 => k_is)
    (case c24 => k_is)
    (case k24 => k_is)
    (case l25 => k_is)
    (case c25 => k_is)
    (case k25 => k_is)
    (case l26 => k_is)
    (case c26 => k_is)
    (case k26 => k_is)
    (case l27 => k_is)
    (case c27 => k_is)
    (case k27 => k_is)
    (case l28 => k_is)
    (case c28 => k_is)
    (case k28 => k_is)
    (case l29 => k_is)
    (case c29 => k_is)
    (case k29 => k_is)
    (case l30 => k_is)
    (case c30 => k_is)
    (case k30 => k_is)
    (case l31 => k_is)
    (case c31 => k_is)
    (case k31 => k_is)
    (case l32 => k_is)
    (case c32 => k_is)
    (case k32 => k_is)
    (case l33 => k_is)
    (case c33 => k_is)
    (case k33 => k_is)
    (case xe0 => k_exc)
    (case ke0 => k_is)
    (case be0 => k_is)
    (case te0 => k_is)
    (case ie0 => k_is)
    (case se0 => k_is)
    (case hd0 => k_is)
    (case xe1 => k_exc)
    (case ke1 => k_is)
    (case be1 => k_is)
    (case te1 => k_is)
    (case ie1 => k_is)
    (case se1 => k_is)
    (case hg1 => k_is)
    (case hk1 => k_is)
    (case hd1 => k_is)
    (case ha1 => k_is)
    (case hm1 => k_is)
    (case hn1 => k_is)
    (case ht1 => k_is)
    (case ue1 => k_is)
    (case q0 => k_is)
    (case r0 => k_is)
    (case v0 => decide +kernel)
    (case q1 => k_is)
    (case r1 => k_is)
    (case v1 => decide +kernel)
    (case q2 => k_is)
    (case q3 => k_is)
    (case q4 => k_is)
    (case q5 => k_is)
    (case q6 => k_is)
    (case q7 => k_is)
    (case q8 => k_is)
    (case q9 => k_is)
    (case q10 => k_is)
    (case q11 => k_is)
    (case r11 => k_is)
    (case v11 => decide +kernel)
    (case z0 => k_is)
    (case z1 => k_is)
    (case z2 => k_is)
    (case z3 => k_is)
    (case z4 => k_is)
    (case z5 => k_is)
    (case z6 => k_is)
    (case z7 => k_is)
    (case z8 => k_is)
    (case z9 => k_is)
    (case z10 => k_is)
    (case z11 => k_is)
