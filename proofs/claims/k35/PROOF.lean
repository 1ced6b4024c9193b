
import PyProof.Rows.All
import HandS.WordsExc
import HandS.SetKeys
import HandS.Flow
import HandS.ExcIs
import HandS.Sort
import HandS.Wide
import HandS.NoneIn
import HandS.Walk
import HandS.Text
import HandS.Rev
import HandS.FStr
import HandS.WideBits
import PyProof.SumWalkG
import KE.KeyNested
import KE.KIntText
import KE.GoesZip
import KE.GoesMore
import HandS.Zip
import Wide.All
import OpenK.AllK
import Wide.FinOn
import HandS.ForMost
import HandS.TupAny
import HandS.Deep
import HandS.IsInst
import HandS.Style
import HandS.Steps
import HandS.Evl
import HandS.Defaults
import HandS.MakeKwOnly
import PySem.Challenge.RW_vaultbridge_k35_growth_papers
set_option Elab.async false
set_option linter.all false
set_option maxRecDepth 100000
set_option maxHeartbeats 1000000
namespace Pf
open PySem PySem.Spec PyProof.Rows L2


/-! readings, one step a lemma -/
section
open PySem PySem.Spec PyProof.Rows L2
variable {K : PySem.W.Frag} {σ : L2.St} {H H1 H' : Hp} {Q : VK} {D : Ends} {t u : TS} {ta tb tc te : TE} {tt tu : TT} {tr : TA} {g : TG} {v x y : V} {i j : Int} {a b p l : Addr} {xs ys : List V} {o : HO}

/-! heaps -/
theorem upd_new {c : Addr} {w : HO} (hb : H b = none) (h : H c = some o) : upd H b w c = some o := by
  rw [upd_ne (ne_of_none h hb)]; exact h
theorem upd_other {c : Addr} {w : HO} (hb : c ≠ b) (h : H c = some o) : upd H b w c = some o := by
  rw [upd_ne hb]; exact h
theorem upd_free {c : Addr} {w : HO} (hb : c ≠ b) (h : H c = none) : upd H b w c = none := by
  rw [upd_ne hb]; exact h
theorem upd_none_ne {c : Addr} {w : HO} (h : upd H b w c = none) : c ≠ b := fun e => by rw [e, upd_same] at h; cases h
theorem upd_none_back {c : Addr} {w : HO} (h : upd H b w c = none) : H c = none := by rw [upd_ne (upd_none_ne h)] at h; exact h
/-- everything but p stays -/
def Kp (p : Addr) (H H' : Hp) : Prop := ∀ b o, H b = some o → b ≠ p → H' b = some o
theorem Kp.get {c : Addr} (k : Kp p H H') (h : H c = some o) (n : c ≠ p) : H' c = some o := k c o h n
theorem Kp.refl : Kp p H H := fun _ _ h _ => h
theorem Kp.trans (k : Kp p H H1) (k2 : Kp p H1 H') : Kp p H H' := fun b o h n => k2 b o (k b o h n) n
theorem Kp.upd {w : HO} (k : Kp p H H') : Kp p H (upd H' p w) := fun b o h n => upd_other n (k b o h n)
theorem Kp.new {w : HO} (k : Kp p H H') (h : H a = none) : Kp p H (L2.upd H' a w) := fun b o hb n => upd_other (ne_of_none hb h) (k b o hb n)
theorem Kp.fresh (k : Kp p H H') (hp : H p = some o) (h : H' a = none) (n : a ≠ p) : H a = none := by
  cases q : H a with
  | none => rfl
  | some w => rw [k a w q n] at h; cases h
theorem Same.get {c : Addr} (k : Same H H') (h : H c = some o) : H' c = some o := k c o h
theorem Same.new {w : HO} (k : Same H H') (h : H a = none) : Same H (L2.upd H' a w) := fun b o hb => upd_other (ne_of_none hb h) (k b o hb)
theorem Same.up {w : HO} (k : Same H H') (h : H' a = none) : Same H (L2.upd H' a w) := Same.new k (Same.free k h)
theorem Same.kp (k : Same H H') : Kp p H H' := fun b o h _ => k b o h
theorem sqL (h : H a = some (.lst xs)) : SqL K H a xs := .inl (.inl h)
theorem sqT (h : H a = some (.tup xs)) : SqT K H a xs := .inl (.inl h)

/-- a tuple of the written part -/
def SqTK (K : PySem.W.Frag) (a : Addr) (xs : List V) : Prop := ∃ (o : Obj) (its : Array Value) (n : Nat), K.lookup a = some o ∧ o.cls = .type "tuple" ∧ o.data = .seq its n ∧ its.size ≤ sizeLine ∧ Vals xs its.toList
theorem SqTK.sq {xs : List V} (h : SqTK K a xs) : SqT K H a xs := .inr h
def relB : V → Value → Bool
  | .str x, .str z _ => decide (x = z)
  | .int i, .int k _ => decide (i = k)
  | _, _ => false
theorem relB_rel : ∀ {x : V} {u : Value}, relB x u = true → RelV x u := by
  intro x u h
  cases x <;> cases u <;> first | (cases h; done) | skip
  · have e := of_decide_eq_true h
    subst e
    exact ⟨_, rfl⟩
  · have e := of_decide_eq_true h
    subst e
    exact ⟨_, rfl⟩
def ValsB : List V → List Value → Bool
  | [], [] => true
  | x :: xs, u :: us => relB x u && ValsB xs us
  | _, _ => false
theorem ValsB.vals : ∀ {xs : List V} {us : List Value}, ValsB xs us = true → Vals xs us
  | [], [], _ => .nil
  | [], _ :: _, h => by cases h
  | _ :: _, [], h => by cases h
  | x :: xs, u :: us, h => by
    have h : (relB x u && ValsB xs us) = true := h
    rw [Bool.and_eq_true] at h
    exact .cons (relB_rel h.1) (ValsB.vals h.2)
theorem ValsB.size {xs : List V} {its : Array Value} (h : ValsB xs its.toList = true) (hl : xs.length ≤ sizeLine) : its.size ≤ sizeLine := by
  have e := (ValsB.vals h).length
  have : its.toList.length = its.size := rfl
  omega
theorem hr65 {A : Around} {k : Nat} (hr : Room k A) : A.units + 65 < cLine := by have := hr.un; omega
theorem Same.sqT {xs : List V} (e : Same H H') (h : SqT K H a xs) : SqT K H' a xs := by
  rcases h with (h | ⟨o, h⟩) | h
  · exact .inl (.inl (e _ _ h))
  · exact .inl (.inr ⟨o, e _ _ h⟩)
  · exact .inr h
/-! statements -/
theorem q_seq (h : t { D with nx := u D } σ H) : tSeq t u D σ H := h
theorem q_next (h : D.nx σ H) : tNext D σ H := h
theorem q_brk (h : D.bk σ H) : tBreak D σ H := h
theorem q_ct (h : D.ct σ H) : tCont D σ H := h
theorem q_nx {f : L2.St → Hp → Prop} {r : VK} {b c : L2.St → Hp → Prop} (h : f σ H) : Ends.nx ⟨f, r, b, c⟩ σ H := h
theorem q_bk {f : L2.St → Hp → Prop} {r : VK} {b c : L2.St → Hp → Prop} (h : b σ H) : Ends.bk ⟨f, r, b, c⟩ σ H := h
theorem q_cn {f : L2.St → Hp → Prop} {r : VK} {b c : L2.St → Hp → Prop} (h : c σ H) : Ends.ct ⟨f, r, b, c⟩ σ H := h
theorem q_rt {f : L2.St → Hp → Prop} {r : VK} {b c : L2.St → Hp → Prop} (h : r v H) : Ends.rt ⟨f, r, b, c⟩ v H := h
theorem q_drop (h : te σ H fun _ H1 => D.nx σ H1) : tDrop te D σ H := h
theorem q_ret (h : te σ H D.rt) : tRet te D σ H := h
theorem q_retN (h : D.rt .non H) : tRetN D σ H := h
def ifK (D : Ends) (t u : TS) (σ : L2.St) : Bool → Hp → Prop := fun b H => if b = true then t D σ H else u D σ H
theorem q_ifS (h : tt σ H (ifK D t u σ)) : tIfS tt t u D σ H := h
theorem q_ifT (h : t D σ H) : ifK D t u σ true H := iteT h
theorem q_ifF (h : u D σ H) : ifK D t u σ false H := iteF h
theorem q_if2 {c : Bool} (h : c = true → t D σ H) (h2 : c = false → u D σ H) : ifK D t u σ c H := by
  cases c with
  | true => exact iteT (h rfl)
  | false => exact iteF (h2 rfl)
theorem q_asg (h : te σ H fun x H1 => g x σ H1 D.nx) : tAsg te g D σ H := h
theorem q_gName {n : Nat} {R : L2.St → Hp → Prop} (h : R (σ.set n (some v)) H) : gName n v σ H R := h
theorem q_gTup {n : Nat} {tg : TGs} {R : L2.St → Hp → Prop} (h : SqT K H a xs) (hn : xs.length = n) (k : tg xs σ H R) : gTup K n tg (.ref a) σ H R := ⟨a, xs, rfl, h, hn, k⟩
theorem q_gCons {tg : TGs} {R : L2.St → Hp → Prop} (k : g v σ H fun σ' H' => tg xs σ' H' R) : gCons g tg (v :: xs) σ H R := ⟨v, xs, rfl, k⟩
theorem q_gNil {R : L2.St → Hp → Prop} (k : R σ H) : gNil [] σ H R := ⟨rfl, k⟩
theorem q_gSub {to ti : TE} {ts : TSet} {R : L2.St → Hp → Prop} (k : to σ H fun o H1 => ti σ H1 fun i H2 => ts o i v H2 fun H3 => R σ H3) : gSub to ti ts v σ H R := k
theorem q_setL {R : Hp → Prop} {n : Nat} (h : H p = some (.lst xs)) (hi : ixN xs.length i = some n) (k : R (upd H p (.lst (xs.set n v)))) : rSetL (.ref p) (.int i) v H R := ⟨p, xs, i, n, rfl, rfl, h, hi, k⟩
theorem q_aug {n : Nat} {ti : TIp} (hx : σ[n]? = some (some x)) (h : te σ H fun y H1 => ti x y H1 fun z H2 => D.nx (σ.set n (some z)) H2) : tAug n te ti D σ H := ⟨x, hx, h⟩
theorem q_ipI {f : Int → Int → Int} (k : Q (.int (f i j)) H) : ipI f (.int i) (.int j) H Q := ⟨i, j, rfl, rfl, k⟩
theorem q_cut {Mid : L2.St → Hp → Prop} (h : t { D with nx := Mid } σ H) (k : ∀ σ' H', Mid σ' H' → u D σ' H') : Evl.tCut t u D σ H := ⟨Mid, h, k⟩
theorem dec_t {c : Prop} [Decidable c] (h : decide c = true) : c := of_decide_eq_true h
theorem dec_f {c : Prop} [Decidable c] (h : decide c = false) : ¬ c := of_decide_eq_false h
theorem ndec_t {c : Prop} [Decidable c] (h : (!decide c) = true) : ¬ c := fun q => by rw [decide_eq_true q] at h; cases h
theorem ndec_f {c : Prop} [Decidable c] (h : (!decide c) = false) : c := by
  by_cases q : c
  · exact q
  · rw [decide_eq_false q] at h; cases h
def forK (g : TG) (tb : TS) (D : Ends) (σ : L2.St) : It → Hp → Prop := fun J H1 => ∃ W : Nat → Nat → L2.St → Hp → Prop, (∃ m, W 0 m σ H1) ∧ ∀ i m σ H, W i m σ H →
  (J.stop i H ∧ D.nx σ H) ∨ (J.go i H ∧ ∃ N : L2.St → Hp → Prop, (∀ σ' H', N σ' H' → ∃ m', m' < m ∧ W (i + 1) m' σ' H') ∧ ∀ x H', J.yld i H x H' → g x σ H' fun σ2 H2 => tb { D with nx := N, ct := N, bk := D.nx } σ2 H2)
theorem q_for {wi : TI} (h : wi σ H (forK g t D σ)) : tFor wi g t D σ H := h
theorem q_iList {R : It → Hp → Prop} (h : te σ H fun x H1 => ∃ a, x = .ref a ∧ (∃ xs, SqL K H1 a xs) ∧ R (Itl K a) H1) : iList K te σ H R := h
theorem q_iTup {R : It → Hp → Prop} (h : te σ H fun x H1 => ∃ a, x = .ref a ∧ (∃ xs, SqT K H1 a xs) ∧ R (Itt K a) H1) : iTup K te σ H R := h
theorem q_forL {S : List V} (h : SqL K H a S) (Pv : Nat → L2.St → Hp → Prop) (h0 : Pv 0 σ H) (hl : ∀ i σ H, i ≤ S.length → Pv i σ H → SqL K H a S)
    (hs : ∀ i x σ H, S[i]? = some x → Pv i σ H → g x σ H fun σ2 H2 => t { D with nx := Pv (i + 1), ct := Pv (i + 1), bk := D.nx } σ2 H2) (hd : ∀ σ H, Pv S.length σ H → D.nx σ H) :
    ∃ b, V.ref a = .ref b ∧ (∃ xs, SqL K H b xs) ∧ forK g t D σ (Itl K b) H := ⟨a, rfl, ⟨S, h⟩, for_list Pv h0 hl hs hd⟩
theorem q_forT {S : List V} (h : SqT K H a S) (Pv : Nat → L2.St → Hp → Prop) (h0 : Pv 0 σ H) (hl : ∀ i σ H, i ≤ S.length → Pv i σ H → SqT K H a S)
    (hs : ∀ i x σ H, S[i]? = some x → Pv i σ H → g x σ H fun σ2 H2 => t { D with nx := Pv (i + 1), ct := Pv (i + 1), bk := D.nx } σ2 H2) (hd : ∀ σ H, Pv S.length σ H → D.nx σ H) :
    ∃ b, V.ref a = .ref b ∧ (∃ xs, SqT K H b xs) ∧ forK g t D σ (Itt K b) H := ⟨a, rfl, ⟨S, h⟩, for_tup Pv h0 hl hs hd⟩
def rg1K (R : It → Hp → Prop) : List V → Hp → Prop := fun vs H1 => ∃ j : Int, vs = [.int j] ∧ -(2 ^ 62) ≤ j ∧ j < 2 ^ 62 ∧ R (Itr 0 j.toNat) H1
theorem q_iRng1 {R : It → Hp → Prop} (h : tr σ H (rg1K R)) : iRng1 tr σ H R := h
theorem q_forR (hj : 0 ≤ j ∧ j < 1000000000000000) (Pv : Nat → L2.St → Hp → Prop) (h0 : Pv 0 σ H)
    (hs : ∀ (i : Nat) σ H, (i : Int) < j → Pv i σ H → g (.int i) σ H fun σ2 H2 => t { D with nx := Pv (i + 1), ct := Pv (i + 1), bk := D.nx } σ2 H2) (hd : ∀ σ H, Pv j.toNat σ H → D.nx σ H) :
    rg1K (forK g t D σ) [.int j] H := ⟨j, rfl, by omega, by omega, for_range Pv h0 (fun i σ H hi hp => by have e : (0 : Int) + (i : Int) = (i : Int) := Int.zero_add _; rw [e]; exact hs i σ H (by omega) hp) hd⟩

/-! tests and values -/
def bK (Q : Bool → Hp → Prop) : VK := fun x H => ∃ k, x = .bl k ∧ Q k H
theorem q_test {R : Bool → Hp → Prop} (h : te σ H (bK R)) : tTest te σ H R := h
theorem q_tB {R : Bool → Hp → Prop} (h : te σ H (bK R)) : tB te σ H R := h
theorem q_bK {R : Bool → Hp → Prop} {c : Bool} (k : R c H) : bK R (.bl c) H := ⟨c, rfl, k⟩
def andK (u : TT) (σ : L2.St) (R : Bool → Hp → Prop) : Bool → Hp → Prop := fun c H1 => if c = true then u σ H1 R else R false H1
def orK (u : TT) (σ : L2.St) (R : Bool → Hp → Prop) : Bool → Hp → Prop := fun c H1 => if c = true then R true H1 else u σ H1 R
theorem q_and {R : Bool → Hp → Prop} (h : tt σ H (andK tu σ R)) : tAnd tt tu σ H R := h
theorem q_or {R : Bool → Hp → Prop} (h : tt σ H (orK tu σ R)) : tOr tt tu σ H R := h
theorem q_andT {R : Bool → Hp → Prop} (h : tu σ H R) : andK tu σ R true H := iteT h
theorem q_andF {R : Bool → Hp → Prop} (h : R false H) : andK tu σ R false H := iteF h
theorem q_orT {R : Bool → Hp → Prop} (h : R true H) : orK tu σ R true H := iteT h
theorem q_orF {R : Bool → Hp → Prop} (h : tu σ H R) : orK tu σ R false H := iteF h
theorem q_and2 {R : Bool → Hp → Prop} {c : Bool} (h : c = true → tu σ H R) (h2 : c = false → R false H) : andK tu σ R c H := by
  cases c with
  | true => exact iteT (h rfl)
  | false => exact iteF (h2 rfl)
theorem q_or2 {R : Bool → Hp → Prop} {c : Bool} (h : c = true → R true H) (h2 : c = false → tu σ H R) : orK tu σ R c H := by
  cases c with
  | true => exact iteT (h rfl)
  | false => exact iteF (h2 rfl)
def notK (R : Bool → Hp → Prop) : Bool → Hp → Prop := fun c H1 => R (!c) H1
theorem q_not {R : Bool → Hp → Prop} (h : tt σ H (notK R)) : tNot tt σ H R := h
theorem q_notKT {R : Bool → Hp → Prop} (h : R false H) : notK R true H := h
theorem q_notKF {R : Bool → Hp → Prop} (h : R true H) : notK R false H := h
theorem q_notK {R : Bool → Hp → Prop} {c : Bool} (h : R (!c) H) : notK R c H := h
def andVK (tb : TE) (σ : L2.St) (Q : VK) : VK := fun x H1 => ∃ c, x = .bl c ∧ if c = true then tb σ H1 Q else Q (.bl false) H1
def orVK (tb : TE) (σ : L2.St) (Q : VK) : VK := fun x H1 => ∃ c, x = .bl c ∧ if c = true then Q (.bl true) H1 else tb σ H1 Q
theorem q_andV (h : ta σ H (andVK tb σ Q)) : tAndV ta tb σ H Q := h
theorem q_orV (h : ta σ H (orVK tb σ Q)) : tOrV ta tb σ H Q := h
theorem q_andVT (h : tb σ H Q) : andVK tb σ Q (.bl true) H := ⟨true, rfl, iteT h⟩
theorem q_andVF (h : Q (.bl false) H) : andVK tb σ Q (.bl false) H := ⟨false, rfl, iteF h⟩
theorem q_orVT (h : Q (.bl true) H) : orVK tb σ Q (.bl true) H := ⟨true, rfl, iteT h⟩
theorem q_orVF (h : tb σ H Q) : orVK tb σ Q (.bl false) H := ⟨false, rfl, iteF h⟩
theorem q_andV2 {c : Bool} (h : c = true → tb σ H Q) (h2 : c = false → Q (.bl false) H) : andVK tb σ Q (.bl c) H := by
  cases c with
  | true => exact q_andVT (h rfl)
  | false => exact q_andVF (h2 rfl)
theorem q_orV2 {c : Bool} (h : c = true → Q (.bl true) H) (h2 : c = false → tb σ H Q) : orVK tb σ Q (.bl c) H := by
  cases c with
  | true => exact q_orVT (h rfl)
  | false => exact q_orVF (h2 rfl)
def notVK (Q : VK) : VK := fun x H1 => ∃ c, x = .bl c ∧ Q (.bl (!c)) H1
theorem q_notV (h : ta σ H (notVK Q)) : tNotV ta σ H Q := h
theorem q_notVK {c : Bool} (k : Q (.bl (!c)) H) : notVK Q (.bl c) H := ⟨c, rfl, k⟩
def ifEK (ta tb : TE) (σ : L2.St) (Q : VK) : Bool → Hp → Prop := fun c H1 => if c = true then ta σ H1 Q else tb σ H1 Q
theorem q_ifE (h : tt σ H (ifEK ta tb σ Q)) : tIf tt ta tb σ H Q := h
theorem q_ifET (h : ta σ H Q) : ifEK ta tb σ Q true H := iteT h
theorem q_ifEF (h : tb σ H Q) : ifEK ta tb σ Q false H := iteF h
theorem q_ifE2 {c : Bool} (h : c = true → ta σ H Q) (h2 : c = false → tb σ H Q) : ifEK ta tb σ Q c H := by
  cases c with
  | true => exact iteT (h rfl)
  | false => exact iteF (h2 rfl)
theorem q_yes {R : Bool → Hp → Prop} (k : R true H) : tYes σ H R := k
theorem q_var {n : Nat} (h : σ[n]? = some (some v)) (k : Q v H) : tVar n σ H Q := ⟨v, h, k⟩
theorem q_c (k : Q v H) : tC v σ H Q := k
theorem q_op {r : R2} (h : ta σ H fun x H1 => tb σ H1 fun y H2 => r x y H2 Q) : tOp r ta tb σ H Q := h
theorem q_un {r : V → Hp → VK → Prop} (h : ta σ H fun x H1 => r x H1 Q) : tUn r ta σ H Q := h
theorem q_rU {f : Int → V} (k : Q (f i) H) : rU f (.int i) H Q := ⟨i, rfl, k⟩
theorem q_I0 {f : Int → Int → V} (k : Q (f i j) H) : rI0 f (.int i) (.int j) H Q := ⟨i, j, rfl, rfl, k⟩
theorem q_I {C : Int → Int → Prop} {f : Int → Int → V} (hc : C i j) (k : Q (f i j) H) : rI C f (.int i) (.int j) H Q := ⟨i, j, rfl, rfl, hc, k⟩
theorem q_eq (hs : scal x y = true) (k : Q (.bl (decide (x = y))) H) : rEq x y H Q := ⟨hs, k⟩
theorem q_ne (hs : scal x y = true) (k : Q (.bl (!decide (x = y))) H) : rNe x y H Q := ⟨hs, k⟩
theorem dec_int (i j : Int) : decide (V.int i = V.int j) = decide (i = j) := by
  by_cases h : i = j
  · subst h; simp
  · rw [decide_eq_false h, decide_eq_false (fun e => h (V.int.inj e))]
theorem q_eqI (k : Q (.bl (decide (i = j))) H) : rEq (.int i) (.int j) H Q := ⟨rfl, by rw [dec_int]; exact k⟩
theorem q_neI (k : Q (.bl (!decide (i = j))) H) : rNe (.int i) (.int j) H Q := ⟨rfl, by rw [dec_int]; exact k⟩
theorem dec_str (i j : Str) : decide (V.str i = V.str j) = decide (i = j) := by
  by_cases h : i = j
  · subst h; simp
  · rw [decide_eq_false h, decide_eq_false (fun e => h (V.str.inj e))]
theorem q_eqS {s z : Str} (k : Q (.bl (decide (s = z))) H) : rEq (.str s) (.str z) H Q := ⟨rfl, by rw [dec_str]; exact k⟩
theorem q_neS {s z : Str} (k : Q (.bl (!decide (s = z))) H) : rNe (.str s) (.str z) H Q := ⟨rfl, by rw [dec_str]; exact k⟩
theorem q_ixL (h : SqL K H p xs) (ha : atI xs i = some v) (k : Q v H) : rIxL K (.ref p) (.int i) H Q := ⟨p, xs, i, v, rfl, rfl, h, ha, k⟩
theorem q_ixT (h : SqT K H p xs) (ha : atI xs i = some v) (k : Q v H) : rIxT K (.ref p) (.int i) H Q := ⟨p, xs, i, v, rfl, rfl, h, ha, k⟩
theorem q_ixLt (h : H p = some (.lst xs)) (ha : atI xs i = some v) (k : Q v H) : rIxL K (.ref p) (.int i) H Q := q_ixL (sqL h) ha k
theorem q_ixTt (h : H p = some (.tup xs)) (ha : atI xs i = some v) (k : Q v H) : rIxT K (.ref p) (.int i) H Q := q_ixT (sqT h) ha k
theorem q_ixSL (h : SqL K H p xs) (ha : atI xs i = some v) (k : Q v H) : rIx K (.ref p) (.int i) H Q := .inl ⟨p, xs, i, v, rfl, rfl, h, ha, k⟩
theorem q_ixST (h : SqT K H p xs) (ha : atI xs i = some v) (k : Q v H) : rIx K (.ref p) (.int i) H Q := .inr (.inl ⟨p, xs, i, v, rfl, rfl, h, ha, k⟩)
theorem at_int {α : Type} {xs : List α} {i : Int} {x : α} {n : Nat} (e : i = (n : Int)) (h : xs[n]? = some x) : atI xs i = some x := by rw [e]; exact atI_nat h
theorem q_tNil {R : List V → Hp → Prop} (k : R [] H) : tNil σ H R := k
theorem q_tCons {R : List V → Hp → Prop} (h : ta σ H fun x H1 => tr σ H1 fun xs H2 => R (x :: xs) H2) : tCons ta tr σ H R := h
def tupK (Q : VK) : List V → Hp → Prop := fun xs H1 => xs.length ≤ sizeLine ∧ ∀ p, H1 p = none → Q (.ref p) (upd H1 p (.tup xs))
def lstK (Q : VK) : List V → Hp → Prop := fun xs H1 => xs.length ≤ sizeLine ∧ ∀ p, H1 p = none → Q (.ref p) (upd H1 p (.lst xs))
theorem q_tup (h : tr σ H (tupK Q)) : tTup tr σ H Q := h
theorem q_lst (h : tr σ H (lstK Q)) : tLst tr σ H Q := h
theorem q_tupK (hl : xs.length ≤ sizeLine) (k : ∀ p, H p = none → Q (.ref p) (upd H p (.tup xs))) : tupK Q xs H := ⟨hl, k⟩
theorem q_lstK (hl : xs.length ≤ sizeLine) (k : ∀ p, H p = none → Q (.ref p) (upd H p (.lst xs))) : lstK Q xs H := ⟨hl, k⟩
theorem q_cb {r : List V → Hp → VK → Prop} (h : tr σ H fun vs H1 => r vs H1 Q) : tCB r tr σ H Q := h
def callK (sp : Sp) (dvs : List V) (E : XK) (Q : VK) : List V → Hp → Prop := fun vs H1 => sp (vs ++ dvs) H1 Q E
theorem q_call {sp : Sp} {dvs : List V} {E : XK} (h : tr σ H (callK sp dvs E Q)) : tCall sp dvs E tr σ H Q := h
theorem q_callK {sp : Sp} {E : XK} (h : sp xs H Q E) : callK sp [] E Q xs H := by unfold callK; rw [List.append_nil]; exact h

/-! built-ins, by names of our own -/
def rLenQ (K : PySem.W.Frag) : List V → Hp → VK → Prop := fun xs H Q => ∃ p ys, xs = [.ref p] ∧ (SqL K H p ys ∨ SqT K H p ys) ∧ Q (.int ys.length) H
theorem cq_len {X : Cx} : CallR X (.builtin "len") (rLenQ X.K) := call_len_seq
theorem q_lenL (h : SqL K H p xs) (k : Q (.int xs.length) H) : rLenQ K [.ref p] H Q := ⟨p, xs, rfl, .inl h, k⟩
theorem q_lenT (h : SqT K H p xs) (k : Q (.int xs.length) H) : rLenQ K [.ref p] H Q := ⟨p, xs, rfl, .inr h, k⟩
theorem q_lenLt (h : H p = some (.lst xs)) (k : Q (.int xs.length) H) : rLenQ K [.ref p] H Q := q_lenL (sqL h) k
theorem q_lenTt (h : H p = some (.tup xs)) (k : Q (.int xs.length) H) : rLenQ K [.ref p] H Q := q_lenT (sqT h) k
def rLenD : List V → Hp → VK → Prop := fun xs H Q => ∃ a kvs, xs = [V.ref a] ∧ H a = some (.dK kvs) ∧ Q (.int kvs.length) H
def rLenS : List V → Hp → VK → Prop := fun xs H Q => ∃ x : Str, xs = [.str x] ∧ x.length ≤ sizeLine ∧ Q (.int x.length) H
theorem cq_lenS {X : Cx} : CallR X (.builtin "len") rLenS := by
  intro pins s σ H xs us Q I r h
  obtain ⟨x, e, hl, q⟩ := h
  exact call_len pins s σ H xs us Q I r ⟨.str x, x.length, e, ⟨hl, rfl⟩, q⟩
theorem q_lenS {x : Str} (hl : x.length ≤ sizeLine) (k : Q (.int x.length) H) : rLenS [.str x] H Q := ⟨x, rfl, hl, k⟩
def rAbs : List V → Hp → VK → Prop := fun xs H Q => ∃ i, xs = [.int i] ∧ Q (.int (if i < 0 then -i else i)) H
theorem cq_abs {X : Cx} : CallR X (.builtin "abs") rAbs := call_abs
theorem q_abs (k : Q (.int (if i < 0 then -i else i)) H) : rAbs [.int i] H Q := ⟨i, rfl, k⟩
def rInt1 : List V → Hp → VK → Prop := fun xs H Q => (∃ i, xs = [.int i] ∧ Q (.int i) H) ∨ ∃ k, xs = [.bl k] ∧ Q (.int (if k then 1 else 0)) H
theorem cq_int1 {X : Cx} : CallR X (.type "int") rInt1 := call_int1
theorem q_int1 (k : Q (.int i) H) : rInt1 [.int i] H Q := .inl ⟨i, rfl, k⟩
def rStrInt : List V → Hp → VK → Prop := fun xs H Q => ∃ i, xs = [.int i] ∧ i.natAbs.log2 < 1920 ∧ Q (.str (toString i)) H
theorem cq_strInt {X : Cx} : CallR X (.type "str") rStrInt := call_str_int
theorem q_strInt (hb : i.natAbs.log2 < 1920) (k : Q (.str (toString i)) H) : rStrInt [.int i] H Q := ⟨i, rfl, hb, k⟩
def rListOf (K : PySem.W.Frag) : List V → Hp → VK → Prop := fun xs H Q => ∃ p ys, xs = [.ref p] ∧ (SqL K H p ys ∨ SqT K H p ys) ∧ ∀ l, H l = none → Q (.ref l) (upd H l (.lst ys))
theorem cq_listOf {X : Cx} : CallR X (.type "list") (rListOf X.K) := call_list_of
theorem q_listL (h : SqL K H p xs) (k : ∀ l, H l = none → Q (.ref l) (upd H l (.lst xs))) : rListOf K [.ref p] H Q := ⟨p, xs, rfl, .inl h, k⟩
theorem q_listT (h : SqT K H p xs) (k : ∀ l, H l = none → Q (.ref l) (upd H l (.lst xs))) : rListOf K [.ref p] H Q := ⟨p, xs, rfl, .inr h, k⟩
def rTupOf (K : PySem.W.Frag) : List V → Hp → VK → Prop := fun xs H Q => ∃ p ys, xs = [.ref p] ∧ ((SqL K H p ys ∧ ∀ l, H l = none → Q (.ref l) (upd H l (.tup ys))) ∨ (SqT K H p ys ∧ Q (.ref p) H))
theorem cq_tupOf {X : Cx} : CallR X (.type "tuple") (rTupOf X.K) := call_tuple_of
theorem q_tupL (h : SqL K H p xs) (k : ∀ l, H l = none → Q (.ref l) (upd H l (.tup xs))) : rTupOf K [.ref p] H Q := ⟨p, xs, rfl, .inl ⟨h, k⟩⟩
theorem q_sum {ns : List Int} (h : SqL K H a (ns.map V.int)) (k : Q (.int ns.sum) H) : rSum K [.ref a] H Q := ⟨a, ns, rfl, h, k⟩
theorem q_all {bs : List Bool} (h : SqL K H a (bs.map V.bl)) (k : Q (.bl (bs.all id)) H) : rAll K [.ref a] H Q := ⟨a, bs, rfl, h, k⟩
theorem q_any {bs : List Bool} (h : SqL K H a (bs.map V.bl)) (k : Q (.bl (bs.any id)) H) : rAny K [.ref a] H Q := ⟨a, bs, rfl, h, k⟩
def rAddStr : R2 := fun x y H Q => ∃ i j, x = .str i ∧ y = .str j ∧ i.length + j.length ≤ sizeLine ∧ Q (.str (i ++ j)) H
theorem oq_addStr {X : Cx} : OpR X (binaryOp .Add) rAddStr := op_add_str
theorem q_addStr {s z : Str} (hl : s.length + z.length ≤ sizeLine) (k : Q (.str (s ++ z)) H) : rAddStr (.str s) (.str z) H Q := ⟨s, z, rfl, rfl, hl, k⟩
theorem q_isN' (k : Q (.bl (decide (x = .non))) H) : rIsN x .non H Q := ⟨rfl, k⟩
theorem q_notN' (k : Q (.bl (!decide (x = .non))) H) : rNotN x .non H Q := ⟨rfl, k⟩
theorem q_inD {d : PyData} {ds : List PyData} (hd : Dp K H x d) (hy : Dp K H y (.list ds)) (s1 : SeqAt.shaped d = true) (s2 : SeqAt.shaped (.list ds) = true) (k : Q (.bl (ds.any fun z => PyData.eqv z d)) H) : rInD K x y H Q := ⟨d, ds, hd, hy, s1, s2, k⟩
theorem q_notInD {d : PyData} {ds : List PyData} (hd : Dp K H x d) (hy : Dp K H y (.list ds)) (s1 : SeqAt.shaped d = true) (s2 : SeqAt.shaped (.list ds) = true) (k : Q (.bl (!ds.any fun z => PyData.eqv z d)) H) : rNotInD K x y H Q := ⟨d, ds, hd, hy, s1, s2, k⟩
theorem q_ifNT (h : u D σ H) : ifK D t u σ (!true) H := q_ifF h
theorem q_ifNF (h : t D σ H) : ifK D t u σ (!false) H := q_ifT h
theorem q_andNT {R : Bool → Hp → Prop} (h : R false H) : andK tu σ R (!true) H := q_andF h
theorem q_andNF {R : Bool → Hp → Prop} (h : tu σ H R) : andK tu σ R (!false) H := q_andT h
theorem q_orNT {R : Bool → Hp → Prop} (h : tu σ H R) : orK tu σ R (!true) H := q_orF h
theorem q_orNF {R : Bool → Hp → Prop} (h : R true H) : orK tu σ R (!false) H := q_orT h
theorem q_bKNT {R : Bool → Hp → Prop} (h : R false H) : bK R (.bl (!true)) H := q_bK h
theorem q_bKNF {R : Bool → Hp → Prop} (h : R true H) : bK R (.bl (!false)) H := q_bK h
/-! chains, isinstance, texts, dicts -/
def chK2 (r' : R2) (y : V) (tc : TE) (σ : L2.St) (Q : VK) : VK := fun z H3 => ∃ k, z = .bl k ∧ (if k = true then tc σ H3 fun w' H4 => r' y w' H4 Q else Q (.bl false) H3)
theorem q_chain {r r' : R2} (h : ta σ H fun x H1 => tb σ H1 fun y H2 => r x y H2 (chK2 r' y tc σ Q)) : tChain r r' ta tb tc σ H Q := h
theorem q_chT {r' : R2} (h : tc σ H fun w' H4 => r' y w' H4 Q) : chK2 r' y tc σ Q (.bl true) H := ⟨true, rfl, iteT h⟩
theorem q_chF {r' : R2} (h : Q (.bl false) H) : chK2 r' y tc σ Q (.bl false) H := ⟨false, rfl, iteF h⟩
theorem q_ch2 {r' : R2} {c : Bool} (h : c = true → tc σ H fun w' H4 => r' y w' H4 Q) (h2 : c = false → Q (.bl false) H) : chK2 r' y tc σ Q (.bl c) H := by
  cases c with
  | true => exact q_chT (h rfl)
  | false => exact q_chF (h2 rfl)
def rIsiQ (K : PySem.W.Frag) : List V → Hp → VK → Prop := rIsi K
theorem q_isi {n : String} {t : Value} {c : Bool} (ht : TyX K H x t) (hk : PySem.W.kitOne K t (.type n) = some c) (k : Q (.bl c) H) : rIsi K [x, .ty n] H Q := ⟨x, .ty n, t, .type n, c, rfl, .ty n, ht, hk, k⟩
def rOrd : List V → Hp → VK → Prop := fun xs H Q => ∃ x, xs = [.str x] ∧ x.length = 1 ∧ Q (.int (x.cps.getD 0 0 : Nat)) H
theorem cq_ord {X : Cx} : CallR X (.builtin "ord") rOrd := call_ord
theorem q_ord {c : Nat} (k : Q (.int c) H) : rOrd [.str ⟨#[c]⟩] H Q := ⟨_, rfl, rfl, k⟩
theorem q_forS {s : Str} (Pv : Nat → L2.St → Hp → Prop) (h0 : Pv 0 σ H)
    (hs : ∀ i c σ H, s.cps[i]? = some c → Pv i σ H → g (.str ⟨#[c]⟩) σ H fun σ2 H2 => t { D with nx := Pv (i + 1), ct := Pv (i + 1), bk := D.nx } σ2 H2) (hd : ∀ σ H, Pv s.cps.size σ H → D.nx σ H) : forK g t D σ (Its s) H := by
  refine ⟨fun i m σ H => i + m = s.cps.size ∧ Pv i σ H, ⟨s.cps.size, Nat.zero_add _, h0⟩, fun i m σ H hW => ?_⟩
  obtain ⟨e, hp⟩ := hW
  by_cases hi : i < s.cps.size
  · refine .inr ⟨hi, Pv (i + 1), fun σ' H' hN => ⟨m - 1, by omega, by omega, hN⟩, fun x H' hy => ?_⟩
    obtain ⟨rfl, c, hc, rfl⟩ := hy
    exact hs i c σ H' hc hp
  · have e2 : i = s.cps.size := by omega
    subst e2
    exact .inl ⟨Nat.le_refl _, hd σ H hp⟩
theorem q_iStr {s : Str} {R : It → Hp → Prop} (k : R (Its s) H) : ∃ z, V.str s = .str z ∧ R (Its z) H := ⟨s, rfl, k⟩
theorem q_iStr0 {R : It → Hp → Prop} (h : te σ H fun v H1 => ∃ x, v = .str x ∧ R (Its x) H1) : iStr te σ H R := h
def dInK (Q : VK) (y : V) : VK := fun x H2 => ∃ a o, x = .ref a ∧ DGet H2 a y o ∧ Q (.bl o.isSome) H2
def dNInK (Q : VK) (y : V) : VK := fun x H2 => ∃ a o, x = .ref a ∧ DGet H2 a y o ∧ Q (.bl (!o.isSome)) H2
theorem q_tDIn {ty td : TE} (h : ty σ H fun y H1 => td σ H1 (dInK Q y)) : tDIn ty td σ H Q := h
theorem q_tDNotIn {ty td : TE} (h : ty σ H fun y H1 => td σ H1 (dNInK Q y)) : tDNotIn ty td σ H Q := h
theorem q_dInS {kvs : List (Key × V)} {s : Str} (h : H a = some (.dK kvs)) (k : Q (.bl (valV kvs (.inr s)).isSome) H) : dInK Q (.str s) (.ref a) H := ⟨a, _, rfl, DGet.k (k := Sum.inr s) h, k⟩
theorem q_dNInS {kvs : List (Key × V)} {s : Str} (h : H a = some (.dK kvs)) (k : Q (.bl (!(valV kvs (.inr s)).isSome)) H) : dNInK Q (.str s) (.ref a) H := ⟨a, _, rfl, DGet.k (k := Sum.inr s) h, k⟩
theorem q_dInI {kvs : List (Key × V)} (h : H a = some (.dK kvs)) (k : Q (.bl (valV kvs (.inl i)).isSome) H) : dInK Q (.int i) (.ref a) H := ⟨a, _, rfl, DGet.k (k := Sum.inl i) h, k⟩
theorem q_dNInI {kvs : List (Key × V)} (h : H a = some (.dK kvs)) (k : Q (.bl (!(valV kvs (.inl i)).isSome)) H) : dNInK Q (.int i) (.ref a) H := ⟨a, _, rfl, DGet.k (k := Sum.inl i) h, k⟩
def dGetK (Q : VK) (x : V) : VK := fun y H2 => ∃ a v, x = .ref a ∧ DGet H2 a y (some v) ∧ Q v H2
theorem q_tDGet {ty td : TE} (h : td σ H fun x H1 => ty σ H1 (dGetK Q x)) : tDGet td ty σ H Q := h
theorem q_dGetS {kvs : List (Key × V)} {s : Str} (h : H a = some (.dK kvs)) (e : valV kvs (.inr s) = some v) (k : Q v H) : dGetK Q (.ref a) (.str s) H := ⟨a, v, rfl, by rw [← e]; exact DGet.k (k := Sum.inr s) h, k⟩
theorem q_dGetI {kvs : List (Key × V)} (h : H a = some (.dK kvs)) (e : valV kvs (.inl i) = some v) (k : Q v H) : dGetK Q (.ref a) (.int i) H := ⟨a, v, rfl, by rw [← e]; exact DGet.k (k := Sum.inl i) h, k⟩
theorem q_dNew (k : ∀ p, H p = none → Q (.ref p) (upd H p (.dK []))) : tDNewK σ H Q := k
def dPutK (D : Ends) (σ : L2.St) (v x : V) : VK := fun y H3 => ∃ a H4, x = .ref a ∧ DPut H3 a y v H4 ∧ D.nx σ H4
theorem q_sDPut {td ty tv : TE} (h : tv σ H fun v H1 => td σ H1 fun x H2 => ty σ H2 (dPutK D σ v x)) : sDPut td ty tv D σ H := h
theorem q_dPutS {kvs : List (Key × V)} {s : Str} (h : H a = some (.dK kvs)) (hl : kvs.length < sizeLine) (k : D.nx σ (upd H a (.dK (putK kvs (.inr s) v)))) : dPutK D σ v (.ref a) (.str s) H := ⟨a, _, rfl, DPut.k (k := Sum.inr s) h hl, k⟩
theorem q_dPutI {kvs : List (Key × V)} (h : H a = some (.dK kvs)) (hl : kvs.length < sizeLine) (k : D.nx σ (upd H a (.dK (putK kvs (.inl i) v)))) : dPutK D σ v (.ref a) (.int i) H := ⟨a, _, rfl, DPut.k (k := Sum.inl i) h hl, k⟩
def truK (K : PySem.W.Frag) (R : Bool → Hp → Prop) : VK := fun x H' => ∃ k, TruV K x H' k ∧ R k H'
theorem q_tru {R : Bool → Hp → Prop} (h : te σ H (truK K R)) : (fun (σ : L2.St) (H : Hp) (Q : Bool → Hp → Prop) => te σ H fun x H' => ∃ k, TruV K x H' k ∧ Q k H') σ H R := h
theorem q_isBl {c d : Bool} (k : Q (.bl (decide (c = d))) H) : rIsB (.bl c) (.bl d) H Q := ⟨c, d, rfl, rfl, k⟩
theorem q_notBl {c d : Bool} (k : Q (.bl (!decide (c = d))) H) : rNotB (.bl c) (.bl d) H Q := ⟨c, d, rfl, rfl, k⟩
theorem q_inT (h : SqT K H p xs) (hx : flatV x = true) (ha : xs.all flatV = true) (k : Q (.bl (inV x xs)) H) : rIn K false x (.ref p) H Q := ⟨p, xs, rfl, .inr h, hx, ha, k⟩
theorem q_inL (h : SqL K H p xs) (hx : flatV x = true) (ha : xs.all flatV = true) (k : Q (.bl (inV x xs)) H) : rIn K false x (.ref p) H Q := ⟨p, xs, rfl, .inl h, hx, ha, k⟩
theorem q_eqD {d e : PyData} (hd : Dp K H x d) (he : Dp K H y e) (s1 : SeqAt.shaped d = true) (s2 : SeqAt.shaped e = true) (k : Q (.bl (PyData.eqv d e)) H) : rEqD K x y H Q := ⟨d, e, hd, he, s1, s2, k⟩
theorem q_neD {d e : PyData} (hd : Dp K H x d) (he : Dp K H y e) (s1 : SeqAt.shaped d = true) (s2 : SeqAt.shaped e = true) (k : Q (.bl (!PyData.eqv d e)) H) : rNeD K x y H Q := ⟨d, e, hd, he, s1, s2, k⟩
theorem q_catA (h1 : H a = some (.tup xs)) (h2 : H b = some (.tup ys)) (hl : xs.length + ys.length ≤ sizeLine) (k : ∀ p H', Same H H' → H' p = some (.tup (xs ++ ys)) → Q (.ref p) H') : rCatA K (.ref a) (.ref b) H Q := by
  refine ⟨a, b, xs, ys, rfl, rfl, sqT h1, sqT h2, hl, fun e => ?_, fun _ e => ?_, fun _ _ p hp => k p _ (Same.new (Same.refl _) hp) upd_same⟩
  · subst e; exact k b H (Same.refl _) h2
  · subst e; exact k a H (Same.refl _) (by rw [List.append_nil]; exact h1)
theorem q_slA {lo hi : Option Int} (h : H a = some (.tup xs)) (k : ∀ p H', Same H H' → H' p = some (.tup (cutV xs lo hi)) → Q (.ref p) H') : rSlA K (.ref a) lo hi H Q := by
  refine ⟨a, xs, rfl, sqT h, fun e => ?_, fun _ p hp => k p _ (Same.new (Same.refl _) hp) upd_same⟩
  refine k a H (Same.refl _) ?_
  unfold cutV
  rw [e.1, e.2, List.drop_zero, Nat.sub_zero, List.take_length]
  exact h
theorem cut_take {n : Nat} (hn : n ≤ xs.length) : cutV xs none (some (n : Int)) = xs.take n := by
  unfold cutV
  rw [HT.sIx_none, show HT.sIx xs.length xs.length (some (n : Int)) = min n xs.length from HT.sIx_nat xs.length xs.length n, Nat.min_eq_left hn, List.drop_zero, Nat.sub_zero]
theorem cut_drop {n : Nat} (hn : n ≤ xs.length) : cutV xs (some (n : Int)) none = xs.drop n := by
  unfold cutV
  rw [HT.sIx_none, show HT.sIx xs.length 0 (some (n : Int)) = min n xs.length from HT.sIx_nat xs.length 0 n, Nat.min_eq_left hn]
  exact List.take_of_length_le (by rw [List.length_drop]; exact Nat.le_refl _)
theorem q_sl {r : V → Option Int → Option Int → Hp → VK → Prop} {tl th : TO} (h : te σ H fun x H1 => tl σ H1 fun l H2 => th σ H2 fun u H3 => r x l u H3 Q) : tSl r te tl th σ H Q := h
theorem q_noPart {R : Option Int → Hp → Prop} (k : R none H) : tNoPart σ H R := k
def partK (R : Option Int → Hp → Prop) : VK := fun x H1 => ∃ i, x = .int i ∧ R (some i) H1
theorem q_part {R : Option Int → Hp → Prop} (h : te σ H (partK R)) : tPart te σ H R := h
theorem q_partK {R : Option Int → Hp → Prop} (k : R (some i) H) : partK R (.int i) H := ⟨i, rfl, k⟩
/-! a text times a number -/
def repS (s : Str) (n : Int) : Str := ⟨(List.replicate n.toNat s.cps).foldl (· ++ ·) #[]⟩
def mulOk (s : Str) (n : Int) : Bool := decide (2 ≤ n) && decide (n ≤ 1000) && decide (s.length = 1) && decide ((repS s n).length ≤ 1000)
def rMulStr : R2 := fun x y H Q => ∃ s n, x = .str s ∧ y = .int n ∧ mulOk s n = true ∧ Q (.str (repS s n)) H
theorem oq_mulStr {X : Cx} : OpR X (binaryOp .Mult) rMulStr := by
  intro pins s σ H x y v u Q I rx ry h
  obtain ⟨z, n, rfl, rfl, hm, q⟩ := h
  obtain ⟨t, rfl⟩ := rx
  obtain ⟨t', rfl⟩ := ry
  unfold mulOk at hm
  simp only [Bool.and_eq_true, decide_eq_true_eq] at hm
  obtain ⟨⟨⟨h1, h2⟩, h3⟩, h4⟩ := hm
  have e1 : (n == 1 || z.length == 0) = false := by
    rw [h3]
    have : (n == 1) = false := beq_eq_false_iff_ne.mpr (by omega)
    rw [this]
    rfl
  refine PySem.P.mul_str ?_ (fun _ _ => ?_) (fun _ _ => ?_) ?_
  · rw [decide_eq_false (show ¬ n < -(2 ^ 63) by omega), decide_eq_false (show ¬ n ≥ 2 ^ 63 by omega)]
    rfl
  · rw [h3]
    have : (1 : Int) ≤ (2 ^ 63 - 1) / n := Int.le_ediv_of_mul_le (by omega) (by omega)
    exact Int.not_lt.mpr this
  · rw [h3, Nat.one_mul]
    exact decide_eq_false (by
      have : sizeLine = 16777216 := sizeLine_eq
      omega)
  · rw [if_neg (show ¬ n < 1 by omega), if_neg (by rw [e1]; exact Bool.false_ne_true)]
    exact ⟨Nat.le_trans h4 (by decide), .str (repS z n), H, I.tok _, ⟨_, rfl⟩, q⟩
theorem q_mulStr {s : Str} (hm : mulOk s i = true) (k : Q (.str (repS s i)) H) : rMulStr (.str s) (.int i) H Q := ⟨s, i, rfl, rfl, hm, k⟩
/-! methods of lists -/
def bmK (K : PySem.W.Frag) (T : String) (r : V → List V → Hp → VK → Prop) (t : TA) (σ : L2.St) (Q : VK) : VK := fun x H1 => tyV K T x H1 ∧ t σ H1 fun xs H2 => r x xs H2 Q
def bmK0 (K : PySem.W.Frag) (T : String) (r : V → List V → Hp → VK → Prop) (Q : VK) : VK := fun x H1 => tyV K T x H1 ∧ r x [] H1 Q
theorem q_bm {T : String} {r : V → List V → Hp → VK → Prop} (h : te σ H (bmK K T r tr σ Q)) : tBM K T r te tr σ H Q := h
theorem q_bm0 {T : String} {r : V → List V → Hp → VK → Prop} (h : te σ H (bmK0 K T r Q)) : tBM0 K T r te σ H Q := h
theorem q_bmL {r : V → List V → Hp → VK → Prop} (h : H l = some (.lst xs)) (k : tr σ H fun vs H2 => r (.ref l) vs H2 Q) : bmK K "list" r tr σ Q (.ref l) H := ⟨.inl ⟨rfl, xs, sqL h⟩, k⟩
theorem q_bmL0 {r : V → List V → Hp → VK → Prop} (h : H l = some (.lst xs)) (k : r (.ref l) [] H Q) : bmK0 K "list" r Q (.ref l) H := ⟨.inl ⟨rfl, xs, sqL h⟩, k⟩
theorem q_append (h : H l = some (.lst xs)) (hl : xs.length < sizeLine) (k : Q .non (upd H l (.lst (xs ++ [y])))) : rAppend (.ref l) [y] H Q := ⟨l, xs, y, rfl, rfl, h, hl, k⟩
theorem q_popAt {n : Nat} (h : H l = some (.lst xs)) (e : i = (n : Int)) (hn : n < xs.length) (hb : i < 2 ^ 63) (hv : xs[n]? = some v) (k : Q v (upd H l (.lst (xs.eraseIdx n)))) : rPopAt (.ref l) [.int i] H Q := by
  refine ⟨l, xs, i, n, v, rfl, rfl, h, by omega, hb, ?_, hv, k⟩
  subst e
  unfold seqIndex?
  have h1 : ¬ ((n : Int) < 0) := by omega
  have h2 : (n : Int) < (xs.length : Int) := by omega
  have h3 : (0 : Int) ≤ (n : Int) := by omega
  simp [h1, h2, h3]
/-! a walk over a list or a tuple -/
theorem pi_or {X : Cx} {tg e : Expr} {w1 w2 : TI} (h1 : PI X tg e w1) (h2 : PI X tg e w2) : PI X tg e (fun σ H R => w1 σ H R ∨ w2 σ H R) :=
  ⟨fun pins s σ H R I h => h.elim (h1.run pins s σ H R I) (h2.run pins s σ H R I)⟩
def iSeq (K : PySem.W.Frag) (te : TE) : TI := fun σ H R => iList K te σ H R ∨ iTup K te σ H R
theorem pi_seq {X : Cx} {tg e : Expr} {te : TE} (h : PE X e te) : PI X tg e (iSeq X.K te) := pi_or (pi_list h) (pi_tup h)
theorem q_iSeqL {R : It → Hp → Prop} (h : te σ H fun x H1 => ∃ a, x = .ref a ∧ (∃ xs, SqL K H1 a xs) ∧ R (Itl K a) H1) : iSeq K te σ H R := .inl h
theorem q_iSeqT {R : It → Hp → Prop} (h : te σ H fun x H1 => ∃ a, x = .ref a ∧ (∃ xs, SqT K H1 a xs) ∧ R (Itt K a) H1) : iSeq K te σ H R := .inr h
/-! a written dict -/
def pairsK (σ : L2.St) (r : List (TE × TE)) (x : V) (Q : List (V × V) → Hp → Prop) : VK := fun y H2 => tPairs r σ H2 fun ps H3 => Q ((x, y) :: ps) H3
theorem q_pairC {tk tv : TE} {r : List (TE × TE)} {R : List (V × V) → Hp → Prop} (h : tk σ H fun x H1 => tv σ H1 (pairsK σ r x R)) : tPairs ((tk, tv) :: r) σ H R := h
theorem q_pairsK {r : List (TE × TE)} {R : List (V × V) → Hp → Prop} (h : tPairs r σ H fun ps H3 => R ((x, y) :: ps) H3) : pairsK σ r x R y H := h
theorem q_pairN {R : List (V × V) → Hp → Prop} (h : R [] H) : tPairs [] σ H R := h
def dispK (Q : VK) (p : Addr) : List (V × V) → Hp → Prop := fun ps H2 => H2 p = some (.dK []) ∧ ∃ kvs : List (Key × V), ps = kvs.map (fun kv => (kV kv.1, kv.2)) ∧ kvs.length ≤ 15 ∧ Q (.ref p) (upd H2 p (.dK (mergeK [] kvs)))
theorem q_disp {trs : List (TE × TE)} (k : ∀ p, H p = none → tPairs trs σ (upd H p (.dK [])) (dispK Q p)) : tDisp trs σ H Q := k
theorem valV_cons {κ : Type} [DecidableEq κ] {kvs : List (κ × V)} {k k' : κ} {v : V} : valV ((k, v) :: kvs) k' = if k = k' then some v else valV kvs k' := by
  unfold valV
  rw [List.find?_cons]
  by_cases e : k = k'
  · rw [if_pos e, decide_eq_true e]; rfl
  · rw [if_neg e, decide_eq_false e]
theorem valV_nomem {κ : Type} [DecidableEq κ] {kvs : List (κ × V)} {k : κ} (h : k ∉ kvs.map (·.1)) : valV kvs k = none := by
  cases q : valV kvs k with
  | none => rfl
  | some v => exact absurd (valV_in q) h
theorem merge_app : ∀ (kvs acc : List (Key × V)), ((acc ++ kvs).map (·.1)).Nodup → mergeK acc kvs = acc ++ kvs
  | [], acc, _ => by rw [List.append_nil]; rfl
  | (k, v) :: r, acc, h => by
    have hk : k ∉ acc.map (·.1) := by
      rw [List.map_append] at h
      intro m
      exact (List.nodup_append.mp h).2.2 k m k (by simp) rfl
    show mergeK (putK acc k v) r = _
    rw [putK_new v (valV_nomem hk), merge_app r (acc ++ [(k, v)]) (by rw [List.append_assoc]; exact h), List.append_assoc]
    rfl
theorem q_dispK {kvs : List (Key × V)} {ps : List (V × V)} (h : H p = some (.dK [])) (e : ps = kvs.map (fun kv => (kV kv.1, kv.2))) (hl : kvs.length ≤ 15) (hn : (kvs.map (·.1)).Nodup) (k : Q (.ref p) (upd H p (.dK kvs))) : dispK Q p ps H :=
  ⟨h, kvs, e, hl, by rw [merge_app kvs [] hn]; exact k⟩
theorem q_slL {lo hi : Option Int} (h : SqL K H a xs) (k : ∀ p, H p = none → Q (.ref p) (upd H p (.lst (cutV xs lo hi)))) : rSlL K (.ref a) lo hi H Q := ⟨a, xs, rfl, h, k⟩
/-! attributes and methods -/
def fldK (K : PySem.W.Frag) (f : Str) (Q : VK) : VK := fun x H1 => ∃ a C dx fs v, x = .ref a ∧ H1 a = some (.ins C dx fs) ∧ Cls K C ∧ NoAttr K C f ∧ fs.lookup f = some v ∧ Q v H1
theorem q_fld {f : Str} (h : te σ H (fldK K f Q)) : tFld K te f σ H Q := h
theorem q_fldK {f : Str} {C dx : Addr} {fs : List (Str × V)} (h : H a = some (.ins C dx fs)) (hc : Cls K C) (hn : NoAttr K C f) (hl : fs.lookup f = some v) (k : Q v H) : fldK K f Q (.ref a) H := ⟨a, C, dx, fs, v, rfl, h, hc, hn, hl, k⟩
def fputK (K : PySem.W.Frag) (f : Str) (D : Ends) (σ : L2.St) (y : V) : VK := fun x H2 => ∃ a C dx fs, x = .ref a ∧ H2 a = some (.ins C dx fs) ∧ Cls K C ∧ NoAttr K C f ∧ fs.length < 1000 ∧ D.nx σ (upd H2 a (.ins C dx (putF f y fs)))
theorem q_sFld {f : Str} (h : tb σ H fun y H1 => te σ H1 (fputK K f D σ y)) : sFld K te tb f D σ H := h
theorem q_fputK {f : Str} {C dx : Addr} {fs : List (Str × V)} (h : H a = some (.ins C dx fs)) (hc : Cls K C) (hn : NoAttr K C f) (hl : fs.length < 1000) (k : D.nx σ (upd H a (.ins C dx (putF f y fs)))) : fputK K f D σ y (.ref a) H := ⟨a, C, dx, fs, rfl, h, hc, hn, hl, k⟩
def methK (m : Str) (C : Addr) (sp : Sp) (dvs : List V) (E : XK) (tr : TA) (σ : L2.St) (Q : VK) : VK := fun x H1 => ∃ a dx fs, x = .ref a ∧ H1 a = some (.ins C dx fs) ∧ fs.lookup m = none ∧ tr σ H1 fun vs H2 => sp (x :: (vs ++ dvs)) H2 Q E
theorem q_meth {m : Str} {C : Addr} {sp : Sp} {dvs : List V} {E : XK} (h : te σ H (methK m C sp dvs E tr σ Q)) : tMeth C m sp dvs E te tr σ H Q := h
def selfK (sp : Sp) (x : V) (E : XK) (Q : VK) : List V → Hp → Prop := fun vs H2 => sp (x :: vs) H2 Q E
theorem q_methK {m : Str} {C dx : Addr} {sp : Sp} {E : XK} {fs : List (Str × V)} (h : H a = some (.ins C dx fs)) (hn : fs.lookup m = none) (k : ∀ (R : List V → Hp → Prop), (∀ vs H2, sp (.ref a :: vs) H2 Q E → R vs H2) → tr σ H R) : methK m C sp [] E tr σ Q (.ref a) H :=
  ⟨a, dx, fs, rfl, h, hn, k _ fun vs H2 q => by rw [List.append_nil]; exact q⟩
theorem q_fldlen {f : Str} {fs : List (Str × V)} {y : V} {n : Nat} (h : fs.length ≤ n) : (putF f y fs).length ≤ n + 1 := by
  induction fs generalizing n with
  | nil => exact Nat.succ_le_succ (Nat.zero_le _)
  | cons p r ih =>
    obtain ⟨g, x⟩ := p
    show (if g = f then (g, y) :: r else (g, x) :: putF f y r).length ≤ n + 1
    by_cases e : g = f
    · rw [if_pos e]; exact Nat.le_succ_of_le h
    · rw [if_neg e]
      cases n with
      | zero => exact absurd h (by simp)
      | succ n => exact Nat.succ_le_succ (ih (Nat.le_of_succ_le_succ h))
theorem q_never {σ : L2.St} (h : False) : tNever D σ H := h
def mkK (C : Addr) (n m : Nat) (sp : Sp) (gV : List V → List V → List V) (E : XK) (vs : List V) (Q : VK) : List V → Hp → Prop := fun zs H2 => vs.length = n ∧ zs.length = m ∧ ∀ x dx, H2 x = none → H2 dx = none → dx ≠ x →
  sp (gV (.ref x :: vs) zs) (upd (upd H2 dx (.own x)) x (.ins C dx [])) (fun v H3 => v = .non ∧ Q (.ref x) H3) E
theorem q_makeK {C : Addr} {n m : Nat} {sp : Sp} {gV : List V → List V → List V} {E : XK} {tk : TA} (h : tr σ H fun vs H1 => tk σ H1 (mkK C n m sp gV E vs Q)) : tMakeK C n m sp gV E tr tk σ H Q := h
/-! comprehensions -/
def lcK (g : TG) (tt : TT) (te : TE) (vs : List Nat) (σ : L2.St) (Q : VK) : It → Hp → Prop := fun J H1 => ∀ D, H1 D = none → ∃ W : Nat → Nat → Hp → Prop, (∃ m, W 0 m (upd H1 D (.lst []))) ∧ ∀ i m H, W i m H →
  (J.stop i H ∧ Q (.ref D) H) ∨ (J.go i H ∧ ∃ Nx : Hp → Prop, (∀ H', Nx H' → ∃ m', m' < m ∧ W (i + 1) m' H') ∧ ∀ x H', J.yld i H x H' → g x (wipe σ vs) H' fun σ2 H2 => wipe σ2 vs = wipe σ vs ∧ tt σ2 H2 fun b H3 =>
    if b = true then te σ2 H3 fun y H4 => ∃ acc, H4 D = some (.lst acc) ∧ acc.length < sizeLine ∧ Nx (upd H4 D (.lst (acc ++ [y]))) else Nx H3)
theorem q_lc {wi : TI} {vs : List Nat} (h : wi σ H (lcK g tt te vs σ Q)) : tLc wi g tt te vs σ H Q := h
def keepK (te : TE) (σ : L2.St) (D : Addr) (Nx : Hp → Prop) : Bool → Hp → Prop := fun b H3 => if b = true then te σ H3 fun y H4 => ∃ acc, H4 D = some (.lst acc) ∧ acc.length < sizeLine ∧ Nx (upd H4 D (.lst (acc ++ [y]))) else Nx H3
def accK (D : Addr) (Nx : Hp → Prop) : VK := fun y H4 => ∃ acc, H4 D = some (.lst acc) ∧ acc.length < sizeLine ∧ Nx (upd H4 D (.lst (acc ++ [y])))
theorem q_keepT {Nx : Hp → Prop} (h : te σ H (accK l Nx)) : keepK te σ l Nx true H := iteT h
theorem q_keepF {Nx : Hp → Prop} (h : Nx H) : keepK te σ l Nx false H := iteF h
theorem q_keep2 {Nx : Hp → Prop} {c : Bool} (h : c = true → te σ H (accK l Nx)) (h2 : c = false → Nx H) : keepK te σ l Nx c H := by
  cases c with
  | true => exact iteT (h rfl)
  | false => exact iteF (h2 rfl)
theorem q_accK {Nx : Hp → Prop} (h : H l = some (.lst xs)) (hl : xs.length < sizeLine) (k : Nx (upd H l (.lst (xs ++ [y])))) : accK l Nx y H := ⟨xs, h, hl, k⟩
theorem q_lcL {S : List V} {vs : List Nat} (h : SqL K H a S) (k : ∀ D, H D = none → ∃ Pv : Nat → Hp → Prop, Pv 0 (upd H D (.lst [])) ∧ (∀ i H, i ≤ S.length → Pv i H → SqL K H a S) ∧
      (∀ i x H, S[i]? = some x → Pv i H → g x (wipe σ vs) H fun σ2 H2 => wipe σ2 vs = wipe σ vs ∧ tt σ2 H2 (keepK te σ2 D (Pv (i + 1)))) ∧ ∀ H, Pv S.length H → Q (.ref D) H) :
    ∃ b, V.ref a = .ref b ∧ (∃ xs, SqL K H b xs) ∧ lcK g tt te vs σ Q (Itl K b) H := ⟨a, rfl, ⟨S, h⟩, fun D hD => by
      obtain ⟨Pv, h0, hl, hs, hd⟩ := k D hD
      exact lc_list Pv h0 hl hs hd⟩
theorem q_lcT {S : List V} {vs : List Nat} (h : SqT K H a S) (k : ∀ D, H D = none → ∃ Pv : Nat → Hp → Prop, Pv 0 (upd H D (.lst [])) ∧ (∀ i H, i ≤ S.length → Pv i H → SqT K H a S) ∧
      (∀ i x H, S[i]? = some x → Pv i H → g x (wipe σ vs) H fun σ2 H2 => wipe σ2 vs = wipe σ vs ∧ tt σ2 H2 (keepK te σ2 D (Pv (i + 1)))) ∧ ∀ H, Pv S.length H → Q (.ref D) H) :
    ∃ b, V.ref a = .ref b ∧ (∃ xs, SqT K H b xs) ∧ lcK g tt te vs σ Q (Itt K b) H := ⟨a, rfl, ⟨S, h⟩, fun D hD => by
      obtain ⟨Pv, h0, hl, hs, hd⟩ := k D hD
      exact lc_tup Pv h0 hl hs hd⟩
theorem q_lcR {vs : List Nat} (hj : 0 ≤ j ∧ j < 1000000000000000) (k : ∀ D, H D = none → ∃ Pv : Nat → Hp → Prop, Pv 0 (upd H D (.lst [])) ∧
      (∀ (i : Nat) H, (i : Int) < j → Pv i H → g (.int i) (wipe σ vs) H fun σ2 H2 => wipe σ2 vs = wipe σ vs ∧ tt σ2 H2 (keepK te σ2 D (Pv (i + 1)))) ∧ ∀ H, Pv j.toNat H → Q (.ref D) H) :
    rg1K (lcK g tt te vs σ Q) [.int j] H := ⟨j, rfl, by omega, by omega, fun D hD => by
      obtain ⟨Pv, h0, hs, hd⟩ := k D hD
      refine lc_range Pv h0 (fun i H hi hp => ?_) hd
      have e : (0 : Int) + (i : Int) = (i : Int) := Int.zero_add _
      rw [e]
      exact hs i H (by omega) hp⟩
end

/-! get and setdefault of a dict -/
section
variable {H : Hp} {σ : L2.St} {Q : VK} {td ty tx : TE} {a : Addr} {z v : V}
def dG2K (Q : VK) (a : Addr) (y : V) : VK := fun z H3 => ∃ o, DGet H3 a y o ∧ Q (o.getD z) H3
def dG2a (ty tx : TE) (σ : L2.St) (Q : VK) : VK := fun x H1 => ∃ a, x = .ref a ∧ IsD H1 a ∧ ty σ H1 fun y H2 => tx σ H2 (dG2K Q a y)
theorem q_tDGet2 (h : td σ H (dG2a ty tx σ Q)) : tDGet2 td ty tx σ H Q := h
theorem q_dG2a {kvs : List (Key × V)} (h : H a = some (.dK kvs)) (k : ty σ H fun y H2 => tx σ H2 (dG2K Q a y)) : dG2a ty tx σ Q (.ref a) H := ⟨a, rfl, .inl ⟨kvs, .inl h⟩, k⟩
theorem q_dG2S {kvs : List (Key × V)} {s : Str} (h : H a = some (.dK kvs)) (k : Q ((valV kvs (.inr s)).getD z) H) : dG2K Q a (.str s) z H := ⟨_, DGet.k (k := Sum.inr s) h, k⟩
theorem q_dG2I {kvs : List (Key × V)} {i : Int} (h : H a = some (.dK kvs)) (k : Q ((valV kvs (.inl i)).getD z) H) : dG2K Q a (.int i) z H := ⟨_, DGet.k (k := Sum.inl i) h, k⟩
def dSdK (Q : VK) (a : Addr) (y : V) : VK := fun z H3 => ∃ (kvs : List (Key × V)) (k : Key), H3 a = some (.dK kvs) ∧ y = kV k ∧ kvs.length < sizeLine ∧ (∀ v, valV kvs k = some v → Q v H3) ∧ (valV kvs k = none → Q z (upd H3 a (.dK (putK kvs k z))))
def dSda (ty tx : TE) (σ : L2.St) (Q : VK) : VK := fun x H1 => ∃ a, x = .ref a ∧ IsD H1 a ∧ ty σ H1 fun y H2 => tx σ H2 (dSdK Q a y)
theorem q_tDSetd (h : td σ H (dSda ty tx σ Q)) : tDSetd td ty tx σ H Q := h
theorem q_dSda {kvs : List (Key × V)} (h : H a = some (.dK kvs)) (k : ty σ H fun y H2 => tx σ H2 (dSdK Q a y)) : dSda ty tx σ Q (.ref a) H := ⟨a, rfl, .inl ⟨kvs, .inl h⟩, k⟩
theorem q_dSdS {kvs : List (Key × V)} {s : Str} (h : H a = some (.dK kvs)) (hl : kvs.length < sizeLine) (k1 : ∀ v, valV kvs (.inr s) = some v → Q v H) (k2 : valV kvs (.inr s) = none → Q z (upd H a (.dK (putK kvs (.inr s) z)))) : dSdK Q a (.str s) z H := ⟨kvs, .inr s, h, rfl, hl, k1, k2⟩
end

/-! methods that may raise within a try; the suite of one class; del of an item; a text times 1 -/
section
variable {K : PySem.W.Frag} {σ : L2.St} {H : Hp} {Q : VK} {D : Ends} {l : Addr} {xs : List V} {i : Int} {to ti : TE}
def delK (D : Ends) (σ : L2.St) (x : V) : VK := fun y H2 => ∃ (l : Addr) (xs : List V) (i : Int) (k : Nat), x = .ref l ∧ y = .int i ∧ H2 l = some (.lst xs) ∧ -(2 ^ 63) ≤ i ∧ i < 2 ^ 63 ∧ seqIndex? i xs.length = some k ∧ D.nx σ (upd H2 l (.lst (xs.eraseIdx k)))
theorem q_delL (h : to σ H fun x H1 => ti σ H1 (delK D σ x)) : tDelL to ti D σ H := h
theorem seqIx {n m : Nat} (h : n < m) : seqIndex? (n : Int) m = some n := by
  unfold seqIndex?
  have h1 : ¬ ((n : Int) < 0) := by omega
  have h2 : (n : Int) < (m : Int) := by omega
  have h3 : (0 : Int) ≤ (n : Int) := by omega
  simp [h1, h2, h3]
theorem q_delK {n : Nat} (h : H l = some (.lst xs)) (e : i = (n : Int)) (hn : n < xs.length) (hb : i < 2 ^ 63) (k : D.nx σ (upd H l (.lst (xs.eraseIdx n)))) : delK D σ (.ref l) (.int i) H :=
  ⟨l, xs, i, n, rfl, rfl, h, by omega, hb, by rw [e]; exact seqIx hn, k⟩
def rMulStr1 : R2 := fun x y H Q => ∃ s, x = .str s ∧ y = .int 1 ∧ Q (.str s) H
theorem oq_mulStr1 {X : Cx} : OpR X (binaryOp .Mult) rMulStr1 := by
  intro pins s σ H x y v u Q I rx ry h
  obtain ⟨z, rfl, rfl, q⟩ := h
  obtain ⟨t, rfl⟩ := rx
  obtain ⟨t', rfl⟩ := ry
  refine PySem.P.mul_str (by decide) (fun _ h => by cases h) (fun _ h => by cases h) ?_
  rw [if_neg (show ¬ (1 : Int) < 1 by omega), if_pos (by rfl)]
  exact ⟨.str z, H, I, ⟨_, rfl⟩, q⟩
theorem q_mulStr1 {s : Str} (k : Q (.str s) H) : rMulStr1 (.str s) (.int 1) H Q := ⟨s, rfl, rfl, k⟩
theorem q_int1b {c : Bool} (k : Q (.int (if c then 1 else 0)) H) : rInt1 [.bl c] H Q := .inr ⟨c, rfl, k⟩
theorem q_int1t (k : Q (.int 1) H) : rInt1 [.bl true] H Q := .inr ⟨true, rfl, k⟩
theorem q_neB {c d : Bool} (k : Q (.bl (c != d)) H) : rNe (.bl c) (.bl d) H Q := ⟨rfl, by
  have e : (!decide (V.bl c = V.bl d)) = (c != d) := by cases c <;> cases d <;> rfl
  rw [e]; exact k⟩
theorem q_neBs {c : Bool} (k : Q (.bl false) H) : rNe (.bl c) (.bl c) H Q := q_neB (by rw [bne_self_eq_false]; exact k)
def tMethA (C : Addr) (m : Str) (sp : Sp) (E : L2.St → XK) (ta : TE) (t : TA) : TE := fun σ H Q => ta σ H fun x H1 => ∃ a dx fs, x = .ref a ∧ H1 a = some (.ins C dx fs) ∧ fs.lookup m = none ∧ t σ H1 fun vs H2 => sp (x :: vs) H2 Q (E σ)
def methAK (C : Addr) (m : Str) (sp : Sp) (E : L2.St → XK) (t : TA) (σ : L2.St) (Q : VK) : VK := fun x H1 => ∃ a dx fs, x = .ref a ∧ H1 a = some (.ins C dx fs) ∧ fs.lookup m = none ∧ t σ H1 fun vs H2 => sp (x :: vs) H2 Q (E σ)
theorem q_methA {C : Addr} {m : Str} {sp : Sp} {E : L2.St → XK} {ta : TE} {t : TA} (h : ta σ H (methAK C m sp E t σ Q)) : tMethA C m sp E ta t σ H Q := h
theorem q_methAK {C dx a : Addr} {m : Str} {sp : Sp} {E : L2.St → XK} {t : TA} {fs : List (Str × V)} (h : H a = some (.ins C dx fs)) (hn : fs.lookup m = none) (k : t σ H fun vs H2 => sp (.ref a :: vs) H2 Q (E σ)) : methAK C m sp E t σ Q (.ref a) H := ⟨a, dx, fs, rfl, h, hn, k⟩
theorem q_callS {sp : Sp} {E : L2.St → XK} {t : TA} (h : t σ H fun vs H1 => sp vs H1 Q (E σ)) : tCallS sp E t σ H Q := h
theorem q_isE {D a C : Addr} {b : Bool} (e : PySem.W.kitOne K (.ref D) (.ref C) = some b) (k : Q (.bl b) H) : rIsE K D a [.ref a, .ref C] H Q := ⟨.ref C, .ref C, b, rfl, fun _ r => r, e, k⟩
end
section
variable {X : Cx} {CX : CXT} {k : Nat} {f C : Addr} {fd : FuncData} {ps : List Str} {sp : Sp} {E : L2.St → XK} {m : Str} {pos apos : Pos} {e o : Expr} {es : List Expr} {ta : TE} {t : TA}
theorem pe_methA {pl : Sem Bool} (he : PE X o ta) (c : Cls X.K C) (hm : Meth X.K C m f) (F : FnOk X.prog X.w X.K X.mg X.base CX k f fd ps sp) (hr : Room k X.A) (hb : Binds X.K fd ps []) (hx : ∀ σ, PassesAt CX X σ (E σ)) (ha : PA X (e :: es) t)
    (hst : starEach (e :: es) X.env = (false, eval e X.env) :: starEach es X.env := by rfl) (hpl : (backTo pos (starEach es X.env)).any (·.1) = false := by rfl)
    (ht : eval (.Call (.Attribute o m apos) (e :: es) [] pos) X.env = (do
      let ov ← eval o X.env
      standAt apos.atName
      let (f, first) ← holding [ov] (getMethod ov m pl)
      callWith pos f first (backTo pos (starEach (e :: es) X.env)) (backToKw pos (keywordEach [] X.env))) := by rfl) :
    PE X (.Call (.Attribute o m apos) (e :: es) [] pos) (tMethA C m sp E ta t) := by
  refine ⟨fun pins s σ H Q I h => ?_⟩
  refine PySem.W.methodCall_KW (pl := pl) (thn (he.run pins s σ H _ I h) fun u s1 ⟨x, H1, I1, rx, a, dx, fs, ex, ea, l, q⟩ => ?_) ht
  subst ex
  obtain rfl : u = Value.ref a := rx
  refine getmeth_ok I1 ea c hm l ?_
  refine PySem.W.callWith_K (first := [.ref a]) (h₀ := X.base) I.ok.mod.kin hm.kp (thn (ha.run pos pins s1 σ H1 _ I1 q) fun us s2 ⟨vs, H2, I2, r, q2⟩ => ⟨I2.kIn, ?_⟩) hst hpl
  exact run_fnS (us := .ref a :: us) (vs := .ref a :: vs) F hr hb (hx σ) I2 (.cons rfl r) q2
theorem pss_cls {oe : Obj} {cls : Value} {d : Option Addr} {b : List Stmt} {t : TS} (hz : Zc cls d oe) (h : Zc (.ref C) none oe → PSs X b t) : PSs X b (fun D σ H => (cls = .ref C ∧ d = none) ∧ t D σ H) :=
  ⟨fun pins s σ H D I q => (h (by obtain ⟨⟨e1, e2⟩, _⟩ := q; rw [e1, e2] at hz; exact hz)).run pins s σ H D I q.2⟩
end

/-! the sum of a dict's values; dicts keyed by tuples -/
section
variable {X : Cx} {o : Expr} {p pos apos mpos : Pos} {td : TE}
def tSumVals (td : TE) : TE := fun σ H Q => td σ H fun x H1 => ∃ (a : Addr) (kvs : List (Key × V)) (is : List Int), x = V.ref a ∧ H1 a = some (.dK kvs) ∧ kvs.map (·.2) = is.map V.int ∧ Q (.int is.sum) H1
theorem pre_sum (is : List Int) : ∀ n, n ≤ is.length → preSum (fun i => is.getD i 0) n = (is.take n).sum
  | 0, _ => by simp [preSum]
  | n + 1, h => by
    rw [preSum, pre_sum is n (by omega), List.take_add_one, List.sum_append, List.getElem?_eq_getElem (by omega), List.getD_eq_getElem?_getD, List.getElem?_eq_getElem (by omega)]
    simp
theorem pe_sumVals (hc : X.calm = true) (hg : Gl X "sum") (hm : X.mg "sum" = none) (hd : PE X o td) (hbase : attributeBase o "values" X.env (eval o X.env) = eval o X.env := by rfl) (hline : (apos.endLine == mpos.line) = true := by rfl)
    (hse : starEach [Expr.Call (.Attribute o "values" apos) [] [] mpos] X.env = [(false, eval (Expr.Call (.Attribute o "values" apos) [] [] mpos) X.env)] := by rfl) :
    PE X (.Call (.Name "sum" p) [.Call (.Attribute o "values" apos) [] [] mpos] [] pos) (tSumVals td) := by
  refine ⟨fun pins s σ H Q I h => ?_⟩
  refine wpAny_Call_Name_kw (ld_blt I hg hm (u := .builtin "sum") (by first | rfl | decide +kernel) ?_ (by first | decide +kernel | decide) (by first | decide +kernel | decide))
  rw [hse]
  refine PySem.callWith_builtin1 (wpAny_Call_method0_late hbase hline (thn (hd.run pins s σ H _ I h) fun v s1 ⟨x, H1, I1, r1, a, kvs, is, ex, ha, hv, q⟩ => ?_))
  subst ex
  obtain rfl : v = Value.ref a := r1
  obtain ⟨_, hsys, vs, rel, dof⟩ := dk_of I1.hok ha
  obtain ⟨ep, dat⟩ := dof.dictAt
  have dat' := dat
  obtain ⟨ob, es, ho, ex, hdat, hko, hpr, hnd⟩ := dat'
  refine ⟨"dict", "dict.values", PySem.F.plainAttrs_dict, PySem.F.slot_dict_values, PySem.F.type_dict_values, ⟨ob, ho, ex.1⟩, fun b e => ?_, Calls.callWith_builtin rfl (PySem.evalArgs_none ?_)⟩
  · cases e
    exact ⟨ob, ho, ex.2.1⟩
  refine call_meetsIn PySem.F.slot_dict_values ⟨ob, ho, ex.1⟩ PySem.F.entry_dict_values (PySem.F.args_dict_values_1 _) (meets_dict_values (mixKind X.prog X.w) a hsys) ⟨⟨vs, dof⟩, ?_⟩
  have k1 : ∀ b u, s1.heap.get? b = some u → (s1.heap.push { cls := .type "dict_values", data := .fields #[.ref a] }).get? b = some u := fun b u e => Heap.get?_push_of_some _ e
  have dat1 : (s1.heap.push { cls := .type "dict_values", data := .fields #[.ref a] }).DictAt (mixKind X.prog X.w) a vs ep := dat.keep k1
  have hlv : vs.length = is.length := by
    have e1 := congrArg List.length hv
    rw [List.length_map, List.length_map] at e1
    rw [← e1]
    exact (KV.length rel).symm
  have hval : ∀ (i : Nat) (v : Value), (∃ k, vs[i]? = some (k, v)) → ∃ t, v = Value.int (is.getD i 0) t := fun i v ⟨k, hk⟩ => by
    obtain ⟨x, h1, h2⟩ := KV.at' rel hk
    have e1 : (kvs.map (·.2))[i]? = some x := by rw [List.getElem?_map, h1] <;> rfl
    rw [hv, List.getElem?_map] at e1
    obtain ⟨j, hj, e2⟩ := Option.map_eq_some_iff.mp e1
    subst e2
    obtain ⟨t, e3⟩ := h2
    refine ⟨t, ?_⟩
    rw [e3, List.getD_eq_getElem?_getD, hj] <;> rfl
  refine call_sum_walkG (wpAny_pyIter_values (v := s1.heap.objs.size) (d := a) ⟨_, Heap.get?_push_size _ rfl, rfl, rfl⟩ dat1 ?_)
  have hlt : a < s1.heap.objs.size := Heap.lt_size ho
  have hsz : (s1.heap.push { cls := .type "dict_values", data := .fields #[.ref a] }).objs.size = s1.heap.objs.size + 1 := Heap.size_push _ _
  refine ⟨_, _, _, _, _, _, fun i => is.getD i 0, rfl, Walks.dictValues (knd := mixKind X.prog X.w) (A := X.A.in1) (I.ok.hd hc) (s1.heap.push { cls := .type "dict_values", data := .fields #[.ref a] }).objs.size a (by rw [hsz]; exact Nat.ne_of_lt (Nat.lt_succ_of_lt hlt)) vs ep,
    ⟨⟨_, Heap.get?_push_size _ rfl, rfl, rfl⟩, dat1.keep fun b u e => Heap.get?_push_of_some _ e⟩, fun b hb => ?_, hval, fun h' tk t' hk => ?_⟩
  · show b < ((s1.heap.push _).push _).objs.size
    rw [Heap.size_push, Heap.size_push]
    rw [hsz] at hb
    rcases List.mem_cons.mp hb with e | hb
    · rw [e]
      exact Nat.lt_succ_self _
    · have e : b = a := List.mem_singleton.mp hb
      rw [e]
      exact Nat.lt_succ_of_lt (Nat.lt_succ_of_lt hlt)
  · refine ⟨.int is.sum, H1, I1.kept (t' := tk) fun b u e => hk b u (fun hmem => ?_) (Heap.get?_push_of_some _ (k1 b u e)), ⟨t', ?_⟩, q⟩
    · have e1 : b = (s1.heap.push { cls := .type "dict_values", data := .fields #[.ref a] }).objs.size := List.mem_singleton.mp hmem
      have e2 := Heap.lt_size e
      rw [hsz] at e1
      rw [e1] at e2
      exact absurd e2 (Nat.not_lt.mpr (Nat.le_succ _))
    · rw [pre_sum is _ (by omega), hlv, List.take_length]
end
section
variable {K : PySem.W.Frag} {σ : L2.St} {H : Hp} {Q : VK} {D : Ends} {a b : Addr} {z v : V} {ty tx td : TE} {kvs : List (List Key × V)} {k : List Key}
def sumK (Q : VK) : VK := fun x H1 => ∃ (a : Addr) (kvs : List (Key × V)) (is : List Int), x = V.ref a ∧ H1 a = some (.dK kvs) ∧ kvs.map (·.2) = is.map V.int ∧ Q (.int is.sum) H1
theorem q_sumVals (h : td σ H (sumK Q)) : tSumVals td σ H Q := h
theorem q_sumK {kvs : List (Key × V)} {is : List Int} (h : H a = some (.dK kvs)) (e : kvs.map (·.2) = is.map V.int) (q : Q (.int is.sum) H) : sumK Q (.ref a) H := ⟨a, kvs, is, rfl, h, e, q⟩
theorem q_dG2aT (h : H a = some (.dT kvs)) (q : ty σ H fun y H2 => tx σ H2 (dG2K Q a y)) : dG2a ty tx σ Q (.ref a) H := ⟨a, rfl, .inr ⟨kvs, .inl h⟩, q⟩
theorem q_dG2T (h : H a = some (.dT kvs)) (hb : H b = some (.tup (k.map kV))) (q : Q ((valV kvs k).getD z) H) : dG2K Q a (.ref b) z H := ⟨_, DGet.t h hb, q⟩
theorem q_dPutT (h : H a = some (.dT kvs)) (hb : H b = some (.tup (k.map kV))) (hl : kvs.length < sizeLine) (q : D.nx σ (upd H a (.dT (putK kvs k v)))) : dPutK D σ v (.ref a) (.ref b) H := ⟨a, _, rfl, DPut.t h hb hl, q⟩
theorem q_dNewT (q : ∀ p, H p = none → Q (.ref p) (upd H p (.dT []))) : tDNewT σ H Q := q
end

/-! dicts keyed by nested tuples -/
mutual
inductive NV (H : Hp) : NestedKey → V → Prop
  | non : NV H .none .non
  | int (i : Int) : NV H (.num i) (.int i)
  | str (x : Str) : NV H (.text x) (.str x)
  | tup {b : Addr} {vs : List V} {ks : List NestedKey} : H b = some (.tup vs) → NVs H ks vs → NV H (.tup ks) (.ref b)
inductive NVs (H : Hp) : List NestedKey → List V → Prop
  | nil : NVs H [] []
  | cons {k : NestedKey} {v : V} {ks : List NestedKey} {vs : List V} : NV H k v → NVs H ks vs → NVs H (k :: ks) (v :: vs)
end
mutual
theorem NV.is {P : Program} {w : World} {H : Hp} {h : Heap} (ok : HOk P w H h) : ∀ {k : NestedKey} {v : V} {u : Value}, NV H k v → RelV v u → NestedIs h k u
  | _, _, _, .non, r => by cases (show _ = Value.none from r); exact .none
  | _, _, _, .int i, r => by obtain ⟨t, rfl⟩ := (show ∃ t, _ = Value.int i t from r); exact .int i t
  | _, _, _, .str x, r => by obtain ⟨t, rfl⟩ := (show ∃ t, _ = Value.str x t from r); exact .text x t
  | _, _, _, .tup (b := b) (vs := vs) hb hs, r => by
    cases (show _ = Value.ref b from r)
    obtain ⟨_, its, rv, o, o1, o2, n, o3⟩ := (show ObjOk P w H h b (.tup vs) from ok b _ hb)
    exact .tup o1 o2 o3 (by simpa using NVs.are ok hs rv)
theorem NVs.are {P : Program} {w : World} {H : Hp} {h : Heap} (ok : HOk P w H h) : ∀ {ks : List NestedKey} {vs : List V} {us : List Value}, NVs H ks vs → Vals vs us → NestedAll h ks us
  | _, _, _, .nil, r => by cases r; exact .nil
  | _, _, _, .cons a b, r => by
    cases r with
    | cons r1 r2 => exact .cons (NV.is ok a r1) (NVs.are ok b r2)
end
mutual
theorem NV.mono {H H' : Hp} (e : ∀ b ys, H b = some (.tup ys) → H' b = some (.tup ys)) : ∀ {k : NestedKey} {v : V}, NV H k v → NV H' k v
  | _, _, .non => .non
  | _, _, .int i => .int i
  | _, _, .str x => .str x
  | _, _, .tup h hs => .tup (e _ _ h) (NVs.mono e hs)
theorem NVs.mono {H H' : Hp} (e : ∀ b ys, H b = some (.tup ys) → H' b = some (.tup ys)) : ∀ {ks : List NestedKey} {vs : List V}, NVs H ks vs → NVs H' ks vs
  | _, _, .nil => .nil
  | _, _, .cons a b => .cons (NV.mono e a) (NVs.mono e b)
end
abbrev NKvs := List (NestedKey × Addr × V)
def nRel (p : NestedKey × Addr × V) (q : NestedKey × Addr × Value) : Prop := p.1 = q.1 ∧ p.2.1 = q.2.1 ∧ RelV p.2.2 q.2.2
def valN (kvs : NKvs) (k : NestedKey) : Option V := (kvs.find? fun p => decide (p.1 = k)).map (·.2.2)
/-- what is true of the object of such a dict -/
def dnP (P : Program) (w : World) (a : Addr) (kvs : NKvs) (h : Heap) : Prop := kvs.length ≤ sizeLine ∧ (a == sysModules) = false ∧ ∃ xs : List (NestedKey × Addr × Value), Paired nRel kvs xs ∧
  ∃ o es ep, h.get? a = some o ∧ o.ExactDict ∧ o.data = .dict es ep ∧ es.toList = xs.map (entryOfKey (nestedKind P w)) ∧ (xs.map (·.1)).Nodup
def DN (P : Program) (w : World) (a : Addr) (kvs : NKvs) : HO := .ext (dnP P w a kvs)
/-- its keys stand as tuples, to depth 8 -/
def NKeys (H : Hp) (kvs : NKvs) : Prop := ∀ p ∈ kvs, NV H p.1 (.ref p.2.1) ∧ p.1.depth ≤ 8
theorem NKeys.mono {H H' : Hp} {kvs : NKvs} (h : NKeys H kvs) (e : ∀ b ys, H b = some (.tup ys) → H' b = some (.tup ys)) : NKeys H' kvs := fun p hp => ⟨(h p hp).1.mono e, (h p hp).2⟩
theorem NKeys.snoc {H : Hp} {kvs : NKvs} {k : NestedKey} {b : Addr} {v : V} (h : NKeys H kvs) (hk : NV H k (.ref b)) (hd : k.depth ≤ 8) : NKeys H (kvs ++ [(k, b, v)]) := fun p hp => by
  rcases List.mem_append.mp hp with m | m
  · exact h p m
  · rw [List.mem_singleton.mp m]; exact ⟨hk, hd⟩
theorem n_val {kvs : NKvs} {xs : List (NestedKey × Addr × Value)} (r : Paired nRel kvs xs) (k : NestedKey) : RelO (valN kvs k) ((atKey xs k).map (·.2)) := by
  induction r with
  | nil => exact True.intro
  | @cons p q ps qs hpq t ih =>
    obtain ⟨e1, _, e3⟩ := hpq
    unfold valN atKey at ih ⊢
    rw [List.find?_cons, List.find?_cons, ← e1]
    by_cases e : p.1 = k
    · rw [decide_eq_true e]; exact e3
    · rw [decide_eq_false e]; exact ih
theorem dn_ok {P : Program} {w : World} {H : Hp} {h : Heap} {a : Addr} {kvs : NKvs} (d : dnP P w a kvs h) : ObjOk P w H h a (DN P w a kvs) := by
  refine ⟨d, ?_, fun g1 g2 q st => ?_⟩
  · obtain ⟨_, _, _, _, o, _, _, e, _⟩ := d
    exact ⟨o, e⟩
  · obtain ⟨z, y, xs, r, o, es, ep, e, c⟩ := q
    exact ⟨z, y, xs, r, o, es, ep, st _ e, c⟩
theorem n_keys {P : Program} {w : World} {H : Hp} {h : Heap} (ok : HOk P w H h) {kvs : NKvs} {xs : List (NestedKey × Addr × Value)} (r : Paired nRel kvs xs) : NKeys H kvs → ∀ x ∈ xs, (nestedKind P w).is h x.1 x.2.1 := by
  induction r with
  | nil => intro _ x hx; cases hx
  | @cons p q ps qs hpq t ih =>
    intro hk x hx
    rcases List.mem_cons.mp hx with m | m
    · obtain ⟨n1, n2⟩ := hk p List.mem_cons_self
      rw [m, ← hpq.1, ← hpq.2.1]
      exact ⟨NV.is ok n1 rfl, n2⟩
    · exact ih (fun p' hp' => hk p' (List.mem_cons_of_mem _ hp')) x m
section
variable {X : Cx} {pins : List (Addr × Obj)} {σ : L2.St} {H : Hp} {s : Shared} {a b : Addr} {kvs : NKvs} {k : NestedKey} {A : Around} {E : Value → Shared → Prop}
theorem dn_at (I : Inv X pins σ H s) (e : H a = some (DN X.prog X.w a kvs)) (hk : NKeys H kvs) : kvs.length ≤ sizeLine ∧ (a == sysModules) = false ∧ ∃ xs, Paired nRel kvs xs ∧ s.heap.DictOfH (nestedKind X.prog X.w) a xs := by
  obtain ⟨⟨z, y, xs, r, o, es, ep, e1, e2, e3, e4, e5⟩, _⟩ := (show ObjOk X.prog X.w H s.heap a (DN X.prog X.w a kvs) from I.hok a _ e)
  exact ⟨z, y, xs, r, o, es, ep, e1, e2, e3, e4, n_keys I.hok r hk, e5⟩
theorem dn_getItem {v : V} {Q : Value → Shared → Prop} (ha : A.units + 9 < cLine) (I : Inv X pins σ H s) (e : H a = some (DN X.prog X.w a kvs)) (hk : NKeys H kvs) (nk : NV H k (.ref b)) (dk : k.depth ≤ 8) (l : valN kvs k = some v)
    (q : ∀ u s', Inv X pins σ H s' → RelV v u → Q u s') : wpAny (model X.prog X.w) A (getItem (.ref a) (.ref b)) Q E s := by
  obtain ⟨z, hd, xs, rel, dd⟩ := dn_at I e hk
  obtain ⟨u, hu, ru⟩ := RelO.some_of (v := v) (o := (atKey xs k).map (·.2)) (by rw [← l]; exact n_val rel k)
  obtain ⟨p, hp, hp2⟩ := Option.map_eq_some_iff.mp hu
  refine wpAny_getItem_heap (knd := nestedKind X.prog X.w) (by show A.in1.units + 8 < cLine; exact ha) ⟨NV.is I.hok nk rfl, dk⟩ dd hp ?_
  rw [hp2]
  exact q u _ (I.tok _) ru
theorem dn_in {Q : Value → Shared → Prop} (ha : A.units + 9 < cLine) (I : Inv X pins σ H s) (e : H a = some (DN X.prog X.w a kvs)) (hk : NKeys H kvs) (nk : NV H k (.ref b)) (dk : k.depth ≤ 8)
    (q : ∀ s', Inv X pins σ H s' → Q (.bool (valN kvs k).isSome) s') : wpAny (model X.prog X.w) A (compareOp .In (.ref b) (.ref a)) Q E s := by
  obtain ⟨z, hd, xs, rel, dd⟩ := dn_at I e hk
  refine wpAny_in_heap (knd := nestedKind X.prog X.w) (by show A.in1.units + 8 < cLine; exact ha) ⟨NV.is I.hok nk rfl, dk⟩ hd dd ?_
  have t := (n_val rel k).isSome_eq
  rw [Option.isSome_map] at t
  rw [← t]
  exact q _ (I.tok _)
theorem dn_notIn {Q : Value → Shared → Prop} (ha : A.units + 9 < cLine) (I : Inv X pins σ H s) (e : H a = some (DN X.prog X.w a kvs)) (hk : NKeys H kvs) (nk : NV H k (.ref b)) (dk : k.depth ≤ 8)
    (q : ∀ s', Inv X pins σ H s' → Q (.bool (!(valN kvs k).isSome)) s') : wpAny (model X.prog X.w) A (compareOp .NotIn (.ref b) (.ref a)) Q E s := by
  obtain ⟨z, hd, xs, rel, dd⟩ := dn_at I e hk
  refine wpAny_notIn_heap (knd := nestedKind X.prog X.w) (by show A.in1.units + 8 < cLine; exact ha) ⟨NV.is I.hok nk rfl, dk⟩ hd dd ?_
  have t := (n_val rel k).isSome_eq
  rw [Option.isSome_map] at t
  rw [← t]
  exact q _ (I.tok _)
/-- a new key is stored -/
theorem dn_setItem {v : V} {u : Value} {Q : Unit → Shared → Prop} (ha : A.units + 9 < cLine) (I : Inv X pins σ H s) (e : H a = some (DN X.prog X.w a kvs)) (hk : NKeys H kvs) (nk : NV H k (.ref b)) (dk : k.depth ≤ 8) (l : valN kvs k = none) (hl : kvs.length < sizeLine) (ru : RelV v u)
    (q : ∀ s', Inv X pins σ (upd H a (DN X.prog X.w a (kvs ++ [(k, b, v)]))) s' → Q () s') : wpAny (model X.prog X.w) A (setItem (.ref a) (.ref b) u) Q E s := by
  obtain ⟨z, hd, xs, rel, dd⟩ := dn_at I e hk
  have hz : xs.length ≤ sizeLine := by rw [← Paired.length rel]; exact z
  have hn : atKey xs k = none := by
    have t := (n_val rel k).isSome_eq
    rw [l, Option.isSome_map] at t
    cases m : atKey xs k with
    | none => rfl
    | some _ => rw [m] at t; cases t
  refine wpAny_setItem_heap (knd := nestedKind X.prog X.w) (hsz := hz) (by show A.in1.units + 8 < cLine; exact ha) ⟨NV.is I.hok nk rfl, dk⟩ dd fun h' dd' hs => q _ ?_
  rw [storedH_new hn] at dd'
  obtain ⟨o, es, ep, e1, e2, e3, e4, _, e5⟩ := dd'
  exact d_write I (by rw [e]; exact True.intro) hs ⟨o, e1⟩ (dn_ok ⟨by rw [List.length_append]; exact hl, hd, _, Paired.snoc rel ⟨rfl, rfl, ru⟩, o, es, ep, e1, e2, e3, e4, e5⟩)
end
theorem hn_of {A : Around} {k : Nat} (hr : Room k A) : A.units + 9 < cLine := by have := hr65 hr; omega
def nGetK (P : Program) (w : World) (Q : VK) (x : V) : VK := fun y J => ∃ (a b : Addr) (kvs : NKvs) (k : NestedKey) (v : V), x = .ref a ∧ y = .ref b ∧ J a = some (DN P w a kvs) ∧ NKeys J kvs ∧ NV J k (.ref b) ∧ k.depth ≤ 8 ∧ valN kvs k = some v ∧ Q v J
def tNGet (P : Program) (w : World) (td ty : TE) : TE := fun σ H Q => td σ H fun x J => ty σ J (nGetK P w Q x)
def nInK (P : Program) (w : World) (n : Bool) (Q : VK) (y : V) : VK := fun x J => ∃ (a b : Addr) (kvs : NKvs) (k : NestedKey), x = .ref a ∧ y = .ref b ∧ J a = some (DN P w a kvs) ∧ NKeys J kvs ∧ NV J k (.ref b) ∧ k.depth ≤ 8 ∧ Q (.bl (xor n (valN kvs k).isSome)) J
def tNIn (P : Program) (w : World) (n : Bool) (ty td : TE) : TE := fun σ H Q => ty σ H fun y J => td σ J (nInK P w n Q y)
def nPutK (P : Program) (w : World) (D : Ends) (σ : L2.St) (v x : V) : VK := fun y J => ∃ (a b : Addr) (kvs : NKvs) (k : NestedKey), x = .ref a ∧ y = .ref b ∧ J a = some (DN P w a kvs) ∧ NKeys J kvs ∧ NV J k (.ref b) ∧ k.depth ≤ 8 ∧ valN kvs k = none ∧ kvs.length < sizeLine ∧ D.nx σ (upd J a (DN P w a (kvs ++ [(k, b, v)])))
def sNPut (P : Program) (w : World) (td ty tv : TE) : TS := fun D σ H => tv σ H fun v H1 => td σ H1 fun x H2 => ty σ H2 (nPutK P w D σ v x)
def tNNew (P : Program) (w : World) : TE := fun _ H Q => ∀ p, H p = none → Q (.ref p) (upd H p (DN P w p []))
section
variable {X : Cx} {o i value : Expr} {pos pos' : Pos} {td ty tv : TE}
theorem pe_nget (ha : X.A.units + 9 < cLine) (po : PE X o td) (pi : PE X i ty) (ns : NoSl i) : PE X (.Subscript o i pos) (tNGet X.prog X.w td ty) := ⟨fun pins s σ H Q I q => by
  refine subD_of PySem.F.slot_dict_getitem.lookup ns (thn (po.run pins s σ H _ I q) fun u s1 ⟨x, J, IJ, rx, q1⟩ => thn (pi.run pins s1 σ J _ IJ q1) fun iv s2 ⟨y, L, IL, ry, a, b, kvs, k, v, ex, ey, e, hk, nk, dk, l, q2⟩ => ?_)
  subst ex ey
  obtain rfl : u = Value.ref a := rx
  obtain rfl : iv = Value.ref b := ry
  obtain ⟨_, _, xs, _, dd⟩ := dn_at IL e hk
  exact ⟨dd.typeIs, dn_getItem ha IL e hk nk dk l fun z s3 I3 rz => ⟨v, L, I3, rz, q2⟩⟩⟩
theorem pc_nin (ha : X.A.units + 9 < cLine) (pi : PE X i ty) (po : PE X o td) : PC X .In i o (tNIn X.prog X.w false ty td) := ⟨fun pins s σ H Q I q => by
  refine thn (pi.run pins s σ H _ I q) fun iv s1 ⟨y, J, IJ, ry, q1⟩ => thn (po.run pins s1 σ J _ IJ q1) fun u s2 ⟨x, L, IL, rx, a, b, kvs, k, ex, ey, e, hk, nk, dk, q2⟩ => ?_
  subst ex ey
  obtain rfl : u = Value.ref a := rx
  obtain rfl : iv = Value.ref b := ry
  exact dn_in ha IL e hk nk dk fun s3 I3 => ⟨.bl (valN kvs k).isSome, L, I3, rfl, by rw [Bool.false_xor] at q2; exact q2⟩⟩
theorem pc_nnotin (ha : X.A.units + 9 < cLine) (pi : PE X i ty) (po : PE X o td) : PC X .NotIn i o (tNIn X.prog X.w true ty td) := ⟨fun pins s σ H Q I q => by
  refine thn (pi.run pins s σ H _ I q) fun iv s1 ⟨y, J, IJ, ry, q1⟩ => thn (po.run pins s1 σ J _ IJ q1) fun u s2 ⟨x, L, IL, rx, a, b, kvs, k, ex, ey, e, hk, nk, dk, q2⟩ => ?_
  subst ex ey
  obtain rfl : u = Value.ref a := rx
  obtain rfl : iv = Value.ref b := ry
  exact dn_notIn ha IL e hk nk dk fun s3 I3 => ⟨.bl (!(valN kvs k).isSome), L, I3, rfl, by rw [Bool.true_xor] at q2; exact q2⟩⟩
theorem ps_nput (ha : X.A.units + 9 < cLine) (po : PE X o td) (pi : PE X i ty) (pv' : PE X value tv) (sw : swapsWith value (some (.Subscript o i pos')) pos.line X.env = pure false) : PS X (.Assign [.Subscript o i pos'] value pos) (sNPut X.prog X.w td ty tv) := ⟨fun pins s σ H D I q => by
  refine wpAny_Assign_Subscript (thn (pv'.run pins s σ H _ I q) fun r s1 ⟨v, J1, I1, rv, q1⟩ => thn (po.run pins s1 σ J1 _ I1 q1) fun u s2 ⟨x, J2, I2, rx, q2⟩ => thn (pi.run pins s2 σ J2 _ I2 q2) fun iv s3 ⟨y, J3, I3, ry, a, b, kvs, k, ex, ey, e, hk, nk, dk, l, hl, q3⟩ => ?_) sw
  subst ex ey
  obtain rfl : u = Value.ref a := rx
  obtain rfl : iv = Value.ref b := ry
  exact dn_setItem ha I3 e hk nk dk l hl rv fun s4 I4 => ⟨σ, _, I4, q3⟩⟩
theorem pe_nnew : PE X (.Dict [] [] pos) (tNNew X.prog X.w) := ⟨fun pins s σ H Q I q =>
  wpAny_Dict_empty ⟨.ref s.heap.objs.size, _, I.laid (a := s.heap.objs.size) (o := DN X.prog X.w s.heap.objs.size []) (t' := s.toks) (fun _ _ z => Heap.get?_push_of_some _ z) (Nat.le_refl _)
    (dn_ok ⟨Nat.zero_le _, beq_eq_false_iff_ne.mpr (Ne.symm (Nat.ne_of_lt I.big)), [], .nil, _, #[], 0, Heap.get?_push_size _ rfl, ⟨rfl, rfl, rfl⟩, rfl, rfl, List.nodup_nil⟩), rfl, q _ (I.hok.fresh (Nat.le_refl _))⟩⟩
end
section
variable {P : Program} {w : World} {σ : L2.St} {H : Hp} {Q : VK} {D : Ends} {td ty tv : TE} {a b : Addr} {kvs : NKvs} {k : NestedKey} {v : V} {n : Bool}
theorem q_tNGet (q : td σ H fun x J => ty σ J (nGetK P w Q x)) : tNGet P w td ty σ H Q := q
theorem q_nGetK (e : H a = some (DN P w a kvs)) (hk : NKeys H kvs) (nk : NV H k (.ref b)) (dk : k.depth ≤ 8) (l : valN kvs k = some v) (q : Q v H) : nGetK P w Q (.ref a) (.ref b) H := ⟨a, b, kvs, k, v, rfl, rfl, e, hk, nk, dk, l, q⟩
theorem q_tNIn (q : ty σ H fun y J => td σ J (nInK P w n Q y)) : tNIn P w n ty td σ H Q := q
theorem q_nInK (e : H a = some (DN P w a kvs)) (hk : NKeys H kvs) (nk : NV H k (.ref b)) (dk : k.depth ≤ 8) (q : Q (.bl (xor n (valN kvs k).isSome)) H) : nInK P w n Q (.ref b) (.ref a) H := ⟨a, b, kvs, k, rfl, rfl, e, hk, nk, dk, q⟩
theorem q_sNPut (q : tv σ H fun v H1 => td σ H1 fun x H2 => ty σ H2 (nPutK P w D σ v x)) : sNPut P w td ty tv D σ H := q
theorem q_nPutK (e : H a = some (DN P w a kvs)) (hk : NKeys H kvs) (nk : NV H k (.ref b)) (dk : k.depth ≤ 8) (l : valN kvs k = none) (hl : kvs.length < sizeLine) (q : D.nx σ (upd H a (DN P w a (kvs ++ [(k, b, v)])))) : nPutK P w D σ v (.ref a) (.ref b) H := ⟨a, b, kvs, k, rfl, rfl, e, hk, nk, dk, l, hl, q⟩
theorem q_tNNew (q : ∀ p, H p = none → Q (.ref p) (upd H p (DN P w p []))) : tNNew P w σ H Q := q
end
theorem pss_cls2 {X : Cx} {oe : Obj} {cls : Value} {d : Option Addr} {b : List Stmt} {C C2 : Addr} {t t2 : TS} (hz : Zc cls d oe) (h : Zc (.ref C) none oe → PSs X b t) (h2 : Zc (.ref C2) none oe → PSs X b t2) :
    PSs X b (fun D σ H => ((cls = .ref C ∧ d = none) ∧ t D σ H) ∨ ((cls = .ref C2 ∧ d = none) ∧ t2 D σ H)) := ⟨fun pins s σ H D I q => by
  rcases q with ⟨⟨e1, e2⟩, q⟩ | ⟨⟨e1, e2⟩, q⟩
  · rw [e1, e2] at hz; exact (h hz).run pins s σ H D I q
  · rw [e1, e2] at hz; exact (h2 hz).run pins s σ H D I q⟩
theorem passF {P : Program} {w : World} {X : Cx} : Passes (L2.CX P w) X E0 := fun _ _ _ _ _ _ _ h => by
  obtain ⟨_, _, _, _, _, _, _, _, _, _, _, _, h⟩ := h
  exact h.elim

/-! an attribute or an item changed by an operator; a list unpacked; the sum over a dict's keys -/
section
variable {K : PySem.W.Frag} {σ : L2.St} {H : Hp} {Q : VK} {D : Ends} {a C dx : Addr} {v : V} {i j : Int} {ta tv td ty : TE} {rd : V → V → Hp → VK → Prop} {f s : Str} {fs : List (Str × V)} {kvs : List (Key × V)}
def faug2 (rd : V → V → Hp → VK → Prop) (v : V) (f : Str) (a C : Addr) (D : Ends) (σ : L2.St) : VK := fun y H2 => rd v y H2 fun z H3 => ∃ dx' fs', H3 a = some (.ins C dx' fs') ∧ fs'.length < 1000 ∧ D.nx σ (upd H3 a (.ins C dx' (putF f z fs')))
def faugK (K : PySem.W.Frag) (tv : TE) (rd : V → V → Hp → VK → Prop) (f : Str) (D : Ends) (σ : L2.St) : VK := fun x H1 => ∃ a C dx fs v, x = .ref a ∧ H1 a = some (.ins C dx fs) ∧ Cls K C ∧ NoAttr K C f ∧ fs.lookup f = some v ∧ tv σ H1 (faug2 rd v f a C D σ)
theorem q_sFldAug (h : ta σ H (faugK K tv rd f D σ)) : sFldAug K ta tv rd f D σ H := h
theorem q_faugK (h : H a = some (.ins C dx fs)) (hc : Cls K C) (hn : NoAttr K C f) (hl : fs.lookup f = some v) (k : tv σ H (faug2 rd v f a C D σ)) : faugK K tv rd f D σ (.ref a) H := ⟨a, C, dx, fs, v, rfl, h, hc, hn, hl, k⟩
theorem q_faugA (h : H a = some (.ins C dx fs)) (hl : fs.length < 1000) (k : D.nx σ (upd H a (.ins C dx (putF f (.int (i + j)) fs)))) : faug2 rAdd (.int i) f a C D σ (.int j) H := ⟨i, j, rfl, rfl, dx, fs, h, hl, k⟩
theorem q_faugS (h : H a = some (.ins C dx fs)) (hl : fs.length < 1000) (k : D.nx σ (upd H a (.ins C dx (putF f (.int (i - j)) fs)))) : faug2 rSub (.int i) f a C D σ (.int j) H := ⟨i, j, rfl, rfl, dx, fs, h, hl, k⟩
def daug2 (rd : V → V → Hp → VK → Prop) (D : Ends) (σ : L2.St) (v : V) (a : Addr) (y : V) : VK := fun y2 H3 => rd v y2 H3 fun z H4 => ∃ H5, DPut H4 a y z H5 ∧ D.nx σ H5
def daugK (tv : TE) (rd : V → V → Hp → VK → Prop) (D : Ends) (σ : L2.St) (x : V) : VK := fun y H2 => ∃ a v, x = .ref a ∧ DGet H2 a y (some v) ∧ tv σ H2 (daug2 rd D σ v a y)
theorem q_sDAug (h : td σ H fun x H1 => ty σ H1 (daugK tv rd D σ x)) : sDAug td ty tv rd D σ H := h
theorem q_daugK (h : H a = some (.dK kvs)) (hv : valV kvs (.inr s) = some v) (k : tv σ H (daug2 rd D σ v a (.str s))) : daugK tv rd D σ (.ref a) (.str s) H := ⟨a, v, rfl, by rw [← hv]; exact DGet.k (k := Sum.inr s) h, k⟩
theorem q_daugS (h : H a = some (.dK kvs)) (hl : kvs.length < sizeLine) (k : D.nx σ (upd H a (.dK (putK kvs (.inr s) (.int (i - j)))))) : daug2 rSub D σ (.int i) a (.str s) (.int j) H := ⟨i, j, rfl, rfl, _, DPut.k (k := Sum.inr s) h hl, k⟩
theorem q_daugA (h : H a = some (.dK kvs)) (hl : kvs.length < sizeLine) (k : D.nx σ (upd H a (.dK (putK kvs (.inr s) (.int (i + j)))))) : daug2 rAdd D σ (.int i) a (.str s) (.int j) H := ⟨i, j, rfl, rfl, _, DPut.k (k := Sum.inr s) h hl, k⟩
end
def rMulStr01 : R2 := fun x y H Q => ∃ s, x = .str s ∧ ((y = .int 1 ∧ Q (.str s) H) ∨ (y = .int 0 ∧ Q (.str Str.empty) H))
theorem oq_mulStr01 {X : Cx} : OpR X (binaryOp .Mult) rMulStr01 := by
  intro pins s σ H x y v u Q I rx ry h
  obtain ⟨z, rfl, h⟩ := h
  obtain ⟨t, rfl⟩ := rx
  rcases h with ⟨rfl, q⟩ | ⟨rfl, q⟩
  · obtain ⟨t', rfl⟩ := ry
    refine PySem.P.mul_str (by decide) (fun _ h => by cases h) (fun _ h => by cases h) ?_
    rw [if_neg (show ¬ (1 : Int) < 1 by omega), if_pos (by rfl)]
    exact ⟨.str z, H, I, ⟨_, rfl⟩, q⟩
  · obtain ⟨t', rfl⟩ := ry
    exact PySem.P.mul_str_none (by decide) (by decide) ⟨.str Str.empty, H, I.tok _, ⟨_, rfl⟩, q⟩
theorem q_mul1 {H : Hp} {Q : VK} {s : Str} (k : Q (.str s) H) : rMulStr01 (.str s) (.int 1) H Q := ⟨s, rfl, .inl ⟨rfl, k⟩⟩
theorem q_mul0 {H : Hp} {Q : VK} {s : Str} (k : Q (.str Str.empty) H) : rMulStr01 (.str s) (.int 0) H Q := ⟨s, rfl, .inr ⟨rfl, k⟩⟩
theorem q_int1f {H : Hp} {Q : VK} (k : Q (.int 0) H) : rInt1 [.bl false] H Q := .inr ⟨false, rfl, k⟩
/-! a walk over a dict's own keys, reading it -/
theorem q_unl {K : PySem.W.Frag} {σ : L2.St} {H : Hp} {a : Addr} {xs : List V} {n : Nat} {tg : TGs} {R : L2.St → Hp → Prop} (h : SqL K H a xs) (hn : xs.length = n) (k : tg xs σ H R) : gUnl K n tg (.ref a) σ H R := ⟨a, xs, rfl, h, hn, k⟩
/-! while -/
section
variable {σ : L2.St} {H : Hp} {D : Ends} {c : TT} {tb : TS}
def whK (tb : TS) (D : Ends) (Pv : Nat → L2.St → Hp → Prop) (m : Nat) (σ : L2.St) : Bool → Hp → Prop := fun b H1 => if b = true then ∃ N : L2.St → Hp → Prop, (∀ σ' H', N σ' H' → ∃ m', m' < m ∧ Pv m' σ' H') ∧ tb { D with nx := N, ct := N, bk := D.nx } σ H1 else D.nx σ H1
theorem q_while (Pv : Nat → L2.St → Hp → Prop) {m0 : Nat} (h0 : Pv m0 σ H) (hs : ∀ m σ H, Pv m σ H → c σ H (whK tb D Pv m σ)) : tWhile c tb D σ H := ⟨Pv, ⟨m0, h0⟩, hs⟩
theorem q_whT {Pv : Nat → L2.St → Hp → Prop} {m : Nat} (h : tb { D with nx := fun σ' H' => ∃ m', m' < m ∧ Pv m' σ' H', ct := fun σ' H' => ∃ m', m' < m ∧ Pv m' σ' H', bk := D.nx } σ H) : whK tb D Pv m σ true H := iteT ⟨_, fun _ _ h => h, h⟩
theorem q_whF {Pv : Nat → L2.St → Hp → Prop} {m : Nat} (h : D.nx σ H) : whK tb D Pv m σ false H := iteF h
theorem q_wh2 {Pv : Nat → L2.St → Hp → Prop} {m : Nat} {b : Bool} (h : b = true → tb { D with nx := fun σ' H' => ∃ m', m' < m ∧ Pv m' σ' H', ct := fun σ' H' => ∃ m', m' < m ∧ Pv m' σ' H', bk := D.nx } σ H) (h2 : b = false → D.nx σ H) : whK tb D Pv m σ b H := by
  cases b with
  | true => exact q_whT (h rfl)
  | false => exact q_whF (h2 rfl)
end
/-! one suite for several classes; get of one argument; del of an item of a dict; index; dict of pairs -/
theorem pss_clsC {X : Cx} {oe : Obj} {cls : Value} {d : Option Addr} {b : List Stmt} {C : Addr} {t t2 : TS} (hz : Zc cls d oe) (h : Zc (.ref C) none oe → PSs X b t) (h2 : PSs X b t2) :
    PSs X b (fun D σ H => ((cls = .ref C ∧ d = none) ∧ t D σ H) ∨ t2 D σ H) := ⟨fun pins s σ H D I q => by
  rcases q with ⟨⟨e1, e2⟩, q⟩ | q
  · rw [e1, e2] at hz; exact (h hz).run pins s σ H D I q
  · exact h2.run pins s σ H D I q⟩
section
variable {K : PySem.W.Frag} {σ : L2.St} {H : Hp} {Q : VK} {D : Ends} {a l : Addr} {v : V} {i : Int} {td ty : TE} {kvs : List (Key × V)} {s : Str}
def dG1K (Q : VK) (a : Addr) : VK := fun y H2 => ∃ o, DGet H2 a y o ∧ Q (o.getD .non) H2
def dG1a (ty : TE) (σ : L2.St) (Q : VK) : VK := fun x H1 => ∃ a, x = .ref a ∧ IsD H1 a ∧ ty σ H1 (dG1K Q a)
theorem q_tDGet1 (h : td σ H (dG1a ty σ Q)) : tDGet1 td ty σ H Q := h
theorem q_dG1a (h : H a = some (.dK kvs)) (k : ty σ H (dG1K Q a)) : dG1a ty σ Q (.ref a) H := ⟨a, rfl, .inl ⟨kvs, .inl h⟩, k⟩
theorem q_dG1S (h : H a = some (.dK kvs)) (k : Q ((valV kvs (.inr s)).getD .non) H) : dG1K Q a (.str s) H := ⟨_, DGet.k (k := Sum.inr s) h, k⟩
theorem q_dG1I (h : H a = some (.dK kvs)) (k : Q ((valV kvs (.inl i)).getD .non) H) : dG1K Q a (.int i) H := ⟨_, DGet.k (k := Sum.inl i) h, k⟩
def ddelK (D : Ends) (σ : L2.St) (x : V) : VK := fun y H2 => ∃ a kvs k, x = .ref a ∧ H2 a = some (.dK kvs) ∧ y = kV k ∧ (valV kvs k).isSome = true ∧ D.nx σ (upd H2 a (.dK (dropK kvs k)))
theorem q_sDDel (h : td σ H fun x H1 => ty σ H1 (ddelK D σ x)) : sDDel td ty D σ H := h
theorem q_ddelI (h : H a = some (.dK kvs)) (hs : (valV kvs (.inl i)).isSome = true) (k : D.nx σ (upd H a (.dK (dropK kvs (.inl i))))) : ddelK D σ (.ref a) (.int i) H := ⟨a, kvs, .inl i, rfl, h, rfl, hs, k⟩
theorem q_index {ys : List V} {y z : V} {j : Nat} (h : SqL K H a ys) (hy : flatV y = true) (ha : ys.all flatV = true) (hz : ys[j]? = some z) (he : eqV z y = true) (hf : ∀ (m : Nat) (z' : V), m < j → ys[m]? = some z' → eqV z' y = false) (k : Q (.int (j : Nat)) H) : rIndex K (.ref a) [y] H Q := ⟨a, ys, y, j, z, rfl, rfl, h, hy, ha, hz, he, hf, k⟩
theorem q_dSdS' {z : V} (h : H a = some (.dK kvs)) (hl : kvs.length < sizeLine) (k1 : ∀ v, valV kvs (.inr s) = some v → Q v H) (k2 : valV kvs (.inr s) = none → Q z (upd H a (.dK (putK kvs (.inr s) z)))) : dSdK Q a (.str s) z H := ⟨kvs, .inr s, h, rfl, hl, k1, k2⟩
def rDictP (K : PySem.W.Frag) : List V → Hp → VK → Prop := fun xs H Q => ∃ (a : Addr) (ps : List Addr) (kvs : List (Key × V)), xs = [.ref a] ∧ SqL K H a (ps.map V.ref) ∧ Paired (fun p kv => SqT K H p [kV kv.1, kv.2]) ps kvs ∧ ∀ p, H p = none → Q (.ref p) (upd H p (.dK (mergeK [] kvs)))
theorem cq_dictP {X : Cx} (hc : X.calm = true) : CallR X (.type "dict") (rDictP X.K) := call_dictP hc
def rLenD' : List V → Hp → VK → Prop := rLenD
theorem q_lenD (h : H a = some (.dK kvs)) (k : Q (.int kvs.length) H) : rLenD [.ref a] H Q := ⟨a, kvs, rfl, h, k⟩
theorem q_inL' {xs : List V} {x : V} (h : SqL K H l xs) (hx : flatV x = true) (ha : xs.all flatV = true) (k : Q (.bl (!inV x xs)) H) : rIn K true x (.ref l) H Q := ⟨l, xs, rfl, .inl h, hx, ha, k⟩
theorem q_eqB {c d : Bool} (k : Q (.bl (c == d)) H) : rEq (.bl c) (.bl d) H Q := ⟨rfl, by
  have e : decide (V.bl c = V.bl d) = (c == d) := by cases c <;> cases d <;> rfl
  rw [e]; exact k⟩
end
/-! a walk over a list that its body leaves ahead of the list's end: also within an except suite -/
def tForX (K : PySem.W.Frag) (te : TE) (g : TG) (tb : TS) : TS := fun D τ L => te τ L fun v M => ∃ (a : Addr) (ys : List V) (Pv : Nat → L2.St → Hp → Prop), v = .ref a ∧ SqL K M a ys ∧ Pv 0 τ M ∧
  ∀ n τ1 L1, Pv n τ1 L1 → SqL K L1 a ys ∧ ∃ y, ys[n]? = some y ∧ g y τ1 L1 fun τ2 L2 => tb { D with nx := Pv (n + 1), ct := Pv (n + 1), bk := D.nx } τ2 L2
theorem ps_forX {X : Cx} {tg l : Expr} {bd : List Stmt} {te : TE} {g : TG} {tb : TS} {ps : Pos} (own : PassesOwn (model X.prog X.w) X.A X.env X.xe) (hl : PE X l te) (hg : PG X tg g) (hb : PSs X bd tb)
    (fs : ∀ x, foldedSetIterable l X.env x = pure x := by intro _; rfl) : PS X (.For tg l bd [] ps) (tForX X.K te g tb) := by
  refine ⟨fun pn s0 τ0 L0 D J0 q0 => ?_⟩
  refine wpAny_For (thn (hl.run pn s0 τ0 L0 _ J0 q0) fun v0 sA ⟨x0, LA, JA, rA, a, ys, Pv, e0, hys, p0, turn⟩ => ?_) fs
  subst e0
  cases rA
  obtain ⟨_, _, isl, _⟩ := JA.list hys
  refine wpAny_pyIter_list isl.isList ?_
  have fok0 : FpOk X pn LA sA.heap.objs.size := JA.fpOk (Nat.le_refl _) (JA.hok.fresh (Nat.le_refl _))
  generalize hwalk : sA.heap.objs.size = wk at *
  have JB : Inv X pn τ0 LA { sA with heap := sA.heap.push { cls := .type "list_iterator", data := .fields #[.ref a, rawInt 0] } } := JA.kept (t' := sA.toks) fun b o e => Heap.get?_push_of_some _ e
  refine codeAny_forLoop_any (fun m s => ∃ n τ L, Inv X pn τ L s ∧ s.heap.IsListIter wk a n ∧ L wk = none ∧ Pv n τ L ∧ m + n = ys.length) ?_ ys.length ⟨0, τ0, LA, JB, ⟨_, by rw [← hwalk]; exact Heap.get?_push_size _ rfl, rfl, rfl⟩, fok0.1, p0, rfl⟩
  rintro m sB ⟨n, τ1, L1, J1, it1, none1, p1, hmn⟩
  obtain ⟨hys1, y, hy, st1⟩ := turn n τ1 L1 p1
  have hlt : n < ys.length := (List.getElem?_eq_some_iff.mp hy).1
  obtain ⟨_, rv1, isl1, _⟩ := J1.list hys1
  obtain ⟨u, hu, ru⟩ := rv1.get hy
  obtain ⟨_, z1, z2, z3, z4, z5⟩ := fok0
  refine wpAny_passesOwn own (wpAny_pyNext_list_item it1 isl1.isList (x := u) (by simpa using hu) fun h' it2 sb => ?_)
  have J2 : Inv X pn τ1 L1 { sB with heap := h' } := J1.turned (t' := sB.toks) (fun b o ne e => (sb.2 b ne).trans e) none1 z1 z3 z4 z5
  obtain ⟨oi, ei, ci, di⟩ := id it2
  refine wpAny_passesOwn own (go_of (s := { sB with heap := h' }) ei ci di (by decide) ?_)
  have hnc : ∀ v, oi.data ≠ .cell v := fun v z => by rw [di] at z; cases z
  have J3 : Inv X (pn ++ pinsAt [wk] h') τ1 L1 { sB with heap := h' } := J2.pinned (fun b hb => by rw [List.mem_singleton.mp hb]; exact ⟨none1, z1, z2, z3, z4, z5⟩) fun b hb => by rw [List.mem_singleton.mp hb]; exact ⟨oi, ei, hnc⟩
  have back : ∀ {τ L s}, Inv X (pn ++ pinsAt [wk] h') τ L s → Pv (n + 1) τ L → ∃ k, k < m ∧ ∃ n τ L, Inv X pn τ L s ∧ s.heap.IsListIter wk a n ∧ L wk = none ∧ Pv n τ L ∧ k + n = ys.length := fun {τ L s} J p => by
    obtain ⟨r1, r2, _⟩ := J.pin (wk, oi) (List.mem_append_right _ (List.mem_append_right _ (mem_pinsAt (List.mem_singleton.mpr rfl) ei)))
    exact ⟨m - 1, by omega, n + 1, τ, L, J.unpinned, ⟨oi, r1, ci, di⟩, r2, p, by omega⟩
  refine wpAny_passesOwn own (thn (hg.run _ _ τ1 L1 y u _ J3 ru st1) fun _ sC ⟨τ2, L2, J4, q4⟩ => ?_)
  refine wpAny_passesOwn own (thn (hb.run _ sC τ2 L2 _ J4 q4) fun fl sD q5 => ?_)
  cases fl with
  | next => obtain ⟨τ5, L5, J5, p5⟩ := q5; exact back J5 p5
  | cont => obtain ⟨τ5, L5, J5, p5⟩ := q5; exact back J5 p5
  | brk => obtain ⟨τ5, L5, J5, p5⟩ := q5; exact ⟨τ5, L5, J5.unpinned, p5⟩
  | ret v => obtain ⟨x5, τ5, L5, J5, r5, p5⟩ := q5; exact ⟨x5, τ5, L5, J5.unpinned, r5, p5⟩
theorem q_forX {K : PySem.W.Frag} {τ : L2.St} {M : Hp} {te : TE} {g : TG} {tb : TS} {D : Ends} (h : te τ M fun v M => ∃ (a : Addr) (ys : List V) (Pv : Nat → L2.St → Hp → Prop), v = .ref a ∧ SqL K M a ys ∧ Pv 0 τ M ∧
  ∀ n τ1 L1, Pv n τ1 L1 → SqL K L1 a ys ∧ ∃ y, ys[n]? = some y ∧ g y τ1 L1 fun τ2 L2 => tb { D with nx := Pv (n + 1), ct := Pv (n + 1), bk := D.nx } τ2 L2) : tForX K te g tb D τ M := h
theorem ps_forXK {K : PySem.W.Frag} {X : Cx} {tg l : Expr} {bd : List Stmt} {te : TE} {g : TG} {tb : TS} {ps : Pos} (hK : X.K = K) (own : PassesOwn (model X.prog X.w) X.A X.env X.xe) (hl : PE X l te) (hg : PG X tg g) (hb : PSs X bd tb)
    (fs : ∀ x, foldedSetIterable l X.env x = pure x := by intro _; rfl) : PS X (.For tg l bd [] ps) (tForX K te g tb) := hK ▸ ps_forX own hl hg hb fs
theorem ix_tupK {K : PySem.W.Frag} {X : Cx} (hK : X.K = K) : IxR X (rIxT K) := hK ▸ ix_tup
theorem ix_listK {K : PySem.W.Frag} {X : Cx} (hK : X.K = K) : IxR X (rIxL K) := hK ▸ ix_list
def mkA (C : Addr) (sp : Sp) (E : XK) (Q : VK) : List V → Hp → Prop := fun vs J => ∀ x dx, J x = none → J dx = none → dx ≠ x → sp (.ref x :: vs) (upd (upd J dx (.own x)) x (.ins C dx [])) (fun v L => v = .non ∧ Q (.ref x) L) E
theorem q_tMake {C : Addr} {sp : Sp} {E : XK} {t : TA} {σ : L2.St} {H : Hp} {Q : VK} (h : t σ H (mkA C sp E Q)) : tMake C sp [] E t σ H Q := by
  unfold tMake
  have e : mkA C sp E Q = fun vs J => ∀ x dx, J x = none → J dx = none → dx ≠ x → sp (.ref x :: (vs ++ [])) (upd (upd J dx (.own x)) x (.ins C dx [])) (fun v L => v = .non ∧ Q (.ref x) L) E := by
    funext vs J
    unfold mkA
    rw [List.append_nil]
  rw [← e]
  exact h

local macro_rules | `(tactic| walk_at "my_rd") => `(tactic| (repeat first
  | with_reducible refine q_tCons ?_
  | ((with_reducible apply q_var); (focus (exact rfl)))
  | with_reducible refine q_c ?_
  | with_reducible refine q_nx ?_
  | with_reducible refine q_bK ?_
  | with_reducible refine q_call ?_
  | with_reducible refine q_callK ?_
  | with_reducible refine q_tNil ?_
  | with_reducible refine q_cb ?_
  | with_reducible refine q_seq ?_
  | with_reducible refine q_asg ?_
  | with_reducible refine q_gName ?_
  | with_reducible refine q_op ?_
  | with_reducible refine q_test ?_
  | with_reducible refine q_tB ?_
  | with_reducible refine q_ifS ?_
  | with_reducible refine q_ret ?_
  | with_reducible refine q_rt ?_
  | with_reducible refine q_next ?_
  | with_reducible refine q_ifF ?_
  | with_reducible refine q_ifT ?_
  | with_reducible refine q_drop ?_
  | with_reducible refine q_and ?_
  | with_reducible refine q_or ?_
  | with_reducible refine q_andT ?_
  | with_reducible refine q_andF ?_
  | with_reducible refine q_orF ?_
  | with_reducible refine q_orT ?_
  | with_reducible refine q_andV ?_
  | with_reducible refine q_andVT ?_
  | with_reducible refine q_andVF ?_
  | with_reducible refine q_orV ?_
  | with_reducible refine q_gCons ?_
  | with_reducible refine q_gNil ?_
  | with_reducible refine q_tup ?_
  | with_reducible refine q_lst ?_
  | with_reducible refine q_not ?_
  | with_reducible refine q_notKT ?_
  | with_reducible refine q_notKF ?_
  | with_reducible refine q_I0 ?_
  | with_reducible refine q_eqI ?_
  | with_reducible refine q_neI ?_
  | ((with_reducible refine q_I ?_ ?_); first | decide | omega | exact ⟨by omega, by omega⟩ | exact ⟨by decide, by decide⟩ | exact .inl ⟨by omega, by omega⟩ | exact .inr ⟨by omega, by omega⟩ | exact .inr ⟨by decide, by decide⟩)
  | with_reducible refine q_eqS ?_
  | with_reducible refine q_neS ?_
  | with_reducible refine q_brk ?_
  | with_reducible refine q_ct ?_
  | with_reducible refine q_bk ?_
  | with_reducible refine q_cn ?_
  | with_reducible refine q_retN ?_
  | with_reducible refine q_gSub ?_
  | with_reducible refine q_for ?_
  | with_reducible refine q_iList ?_
  | with_reducible refine q_iTup ?_
  | with_reducible refine q_iRng1 ?_
  | with_reducible refine q_notK ?_
  | with_reducible refine q_orVT ?_
  | with_reducible refine q_orVF ?_
  | with_reducible refine q_notV ?_
  | with_reducible refine q_notVK ?_
  | with_reducible refine q_ifE ?_
  | with_reducible refine q_ifET ?_
  | with_reducible refine q_ifEF ?_
  | with_reducible refine q_yes ?_
  | with_reducible refine q_un ?_
  | with_reducible refine q_rU ?_
  | with_reducible refine q_abs ?_
  | with_reducible refine q_int1 ?_
  | with_reducible refine q_bm ?_
  | with_reducible refine q_bm0 ?_
  | with_reducible refine q_lc ?_
  | with_reducible refine q_keepT ?_
  | with_reducible refine q_keepF ?_
  | ((with_reducible apply q_aug); (focus (exact rfl)))
  | with_reducible refine q_ipI ?_
  | with_reducible refine q_chain ?_
  | with_reducible refine q_pairC ?_
  | with_reducible refine q_pairsK ?_
  | with_reducible refine q_pairN ?_
  | with_reducible refine q_fld ?_
  | with_reducible refine q_sFld ?_
  | with_reducible refine q_meth ?_
  | with_reducible refine q_makeK ?_
  | with_reducible refine q_isBl ?_
  | with_reducible refine q_notBl ?_
  | with_reducible refine q_sl ?_
  | with_reducible refine q_noPart ?_
  | with_reducible refine q_part ?_
  | with_reducible refine q_partK ?_
  | ((with_reducible apply q_mulStr); (focus (decide +kernel)))
  | with_reducible refine q_chT ?_
  | with_reducible refine q_chF ?_
  | with_reducible refine q_ord ?_
  | with_reducible refine q_iStr0 ?_
  | with_reducible refine q_iStr ?_
  | with_reducible refine q_tDIn ?_
  | with_reducible refine q_tDNotIn ?_
  | with_reducible refine q_tDGet ?_
  | with_reducible refine q_tDGet2 ?_
  | with_reducible refine q_tDGet1 ?_
  | with_reducible refine q_tDSetd ?_
  | ((with_reducible apply q_dG2a); (focus ((repeat first | (with_reducible exact upd_same) | (with_reducible assumption) | (with_reducible apply upd_new (by assumption)) | (with_reducible apply upd_other (by first | assumption | exact Ne.symm (by assumption))) | (with_reducible refine' Kp.get (by assumption) ?_ (by first | assumption | exact Ne.symm (by assumption))) | (with_reducible apply Same.get (by assumption))); done)))
  | ((with_reducible apply q_dSda); (focus ((repeat first | (with_reducible exact upd_same) | (with_reducible assumption) | (with_reducible apply upd_new (by assumption)) | (with_reducible apply upd_other (by first | assumption | exact Ne.symm (by assumption))) | (with_reducible refine' Kp.get (by assumption) ?_ (by first | assumption | exact Ne.symm (by assumption))) | (with_reducible apply Same.get (by assumption))); done)))
  | with_reducible refine q_sDPut ?_
  | ((with_reducible apply q_dInS); (focus ((repeat first | (with_reducible exact upd_same) | (with_reducible assumption) | (with_reducible apply upd_new (by assumption)) | (with_reducible apply upd_other (by first | assumption | exact Ne.symm (by assumption))) | (with_reducible refine' Kp.get (by assumption) ?_ (by first | assumption | exact Ne.symm (by assumption))) | (with_reducible apply Same.get (by assumption))); done)))
  | ((with_reducible apply q_dNInS); (focus ((repeat first | (with_reducible exact upd_same) | (with_reducible assumption) | (with_reducible apply upd_new (by assumption)) | (with_reducible apply upd_other (by first | assumption | exact Ne.symm (by assumption))) | (with_reducible refine' Kp.get (by assumption) ?_ (by first | assumption | exact Ne.symm (by assumption))) | (with_reducible apply Same.get (by assumption))); done)))
  | ((with_reducible apply q_dInI); (focus ((repeat first | (with_reducible exact upd_same) | (with_reducible assumption) | (with_reducible apply upd_new (by assumption)) | (with_reducible apply upd_other (by first | assumption | exact Ne.symm (by assumption))) | (with_reducible refine' Kp.get (by assumption) ?_ (by first | assumption | exact Ne.symm (by assumption))) | (with_reducible apply Same.get (by assumption))); done)))
  | ((with_reducible apply q_dNInI); (focus ((repeat first | (with_reducible exact upd_same) | (with_reducible assumption) | (with_reducible apply upd_new (by assumption)) | (with_reducible apply upd_other (by first | assumption | exact Ne.symm (by assumption))) | (with_reducible refine' Kp.get (by assumption) ?_ (by first | assumption | exact Ne.symm (by assumption))) | (with_reducible apply Same.get (by assumption))); done)))
  | ((with_reducible apply q_bmL); (focus ((repeat first | (with_reducible exact upd_same) | (with_reducible assumption) | (with_reducible apply upd_new (by assumption)) | (with_reducible apply upd_other (by first | assumption | exact Ne.symm (by assumption))) | (with_reducible refine' Kp.get (by assumption) ?_ (by first | assumption | exact Ne.symm (by assumption))) | (with_reducible apply Same.get (by assumption))); done)))
  | ((with_reducible apply q_bmL0); (focus ((repeat first | (with_reducible exact upd_same) | (with_reducible assumption) | (with_reducible apply upd_new (by assumption)) | (with_reducible apply upd_other (by first | assumption | exact Ne.symm (by assumption))) | (with_reducible refine' Kp.get (by assumption) ?_ (by first | assumption | exact Ne.symm (by assumption))) | (with_reducible apply Same.get (by assumption))); done)))
  | ((with_reducible apply q_ixLt); (focus ((repeat first | (with_reducible exact upd_same) | (with_reducible assumption) | (with_reducible apply upd_new (by assumption)) | (with_reducible apply upd_other (by first | assumption | exact Ne.symm (by assumption))) | (with_reducible refine' Kp.get (by assumption) ?_ (by first | assumption | exact Ne.symm (by assumption))) | (with_reducible apply Same.get (by assumption))); done)); (focus (exact rfl)))
  | ((with_reducible apply q_ixTt); (focus ((repeat first | (with_reducible exact upd_same) | (with_reducible assumption) | (with_reducible apply upd_new (by assumption)) | (with_reducible apply upd_other (by first | assumption | exact Ne.symm (by assumption))) | (with_reducible refine' Kp.get (by assumption) ?_ (by first | assumption | exact Ne.symm (by assumption))) | (with_reducible apply Same.get (by assumption))); done)); (focus (exact rfl)))
  | ((with_reducible apply q_lenLt); (focus ((repeat first | (with_reducible exact upd_same) | (with_reducible assumption) | (with_reducible apply upd_new (by assumption)) | (with_reducible apply upd_other (by first | assumption | exact Ne.symm (by assumption))) | (with_reducible refine' Kp.get (by assumption) ?_ (by first | assumption | exact Ne.symm (by assumption))) | (with_reducible apply Same.get (by assumption))); done)))
  | ((with_reducible apply q_lenTt); (focus ((repeat first | (with_reducible exact upd_same) | (with_reducible assumption) | (with_reducible apply upd_new (by assumption)) | (with_reducible apply upd_other (by first | assumption | exact Ne.symm (by assumption))) | (with_reducible refine' Kp.get (by assumption) ?_ (by first | assumption | exact Ne.symm (by assumption))) | (with_reducible apply Same.get (by assumption))); done)))
  | ((with_reducible apply q_append); (focus ((repeat first | (with_reducible exact upd_same) | (with_reducible assumption) | (with_reducible apply upd_new (by assumption)) | (with_reducible apply upd_other (by first | assumption | exact Ne.symm (by assumption))) | (with_reducible refine' Kp.get (by assumption) ?_ (by first | assumption | exact Ne.symm (by assumption))) | (with_reducible apply Same.get (by assumption))); done)); (focus ((first | (exact Nat.lt_of_ble_eq_true rfl) | (simp only [List.length_append, List.length_cons, List.length_nil, List.length_map]; exact small1000 (by omega))))))
  | ((with_reducible apply q_setL); (focus ((repeat first | (with_reducible exact upd_same) | (with_reducible assumption) | (with_reducible apply upd_new (by assumption)) | (with_reducible apply upd_other (by first | assumption | exact Ne.symm (by assumption))) | (with_reducible refine' Kp.get (by assumption) ?_ (by first | assumption | exact Ne.symm (by assumption))) | (with_reducible apply Same.get (by assumption))); done)); (focus (exact rfl)))
  | with_reducible refine q_ifNT ?_
  | with_reducible refine q_ifNF ?_
  | with_reducible refine q_andNT ?_
  | with_reducible refine q_andNF ?_
  | with_reducible refine q_orNT ?_
  | with_reducible refine q_orNF ?_
  | with_reducible refine q_bKNT ?_
  | with_reducible refine q_bKNF ?_
  | with_reducible refine q_tNGet ?_
  | with_reducible refine q_tNIn ?_
  | with_reducible refine q_sNPut ?_
  | with_reducible refine q_sFldAug ?_
  | with_reducible refine q_sDAug ?_
  | with_reducible refine q_sDDel ?_
  | with_reducible refine q_forX ?_
  | with_reducible refine q_tMake ?_
  | ((with_reducible apply q_dG1a); (focus ((repeat first | (with_reducible exact upd_same) | (with_reducible assumption) | (with_reducible apply upd_new (by assumption)) | (with_reducible apply upd_other (by first | assumption | exact Ne.symm (by assumption))) | (with_reducible refine' Kp.get (by assumption) ?_ (by first | assumption | exact Ne.symm (by assumption))) | (with_reducible apply Same.get (by assumption))); done)))))
open TL
def top (i : Nat) : Stmt := PySem.Challenge.pw_vaultbridge_k35_growth_papers.main.body.getD i (.Pass ⟨0, 0, 0, 0⟩)
abbrev s__wall : Stmt := top 0
theorem sc__wall : FnScope ["k"] ["k"] (defScope s__wall) := ⟨rfl, rfl, rfl, by decide +kernel, rfl, by decide +kernel, by decide +kernel⟩
abbrev s_left_size : Stmt := top 6
theorem sc_left_size : FnScope ["size"] ["size"] (defScope s_left_size) := ⟨rfl, rfl, rfl, by decide +kernel, rfl, by decide +kernel, by decide +kernel⟩
abbrev s_root : Stmt := top 7
theorem sc_root : FnScope ["digests", "leaves", "middle", "left", "right"] ["digests", "leaves"] (defScope s_root) := ⟨rfl, rfl, rfl, by decide +kernel, rfl, by decide +kernel, by decide +kernel⟩
abbrev s_widest_parts : Stmt := top 8
theorem sc_widest_parts : FnScope ["start", "end", "found", "size"] ["start", "end"] (defScope s_widest_parts) := ⟨rfl, rfl, rfl, by decide +kernel, rfl, by decide +kernel, by decide +kernel⟩
abbrev s_growth_parts : Stmt := top 9
theorem sc_growth_parts : FnScope ["old_size", "new_size"] ["old_size", "new_size"] (defScope s_growth_parts) := ⟨rfl, rfl, rfl, by decide +kernel, rfl, by decide +kernel, by decide +kernel⟩
abbrev s_growth_paper : Stmt := top 10
theorem sc_growth_paper : FnScope ["digests", "leaves", "size", "parts", "start", "many"] ["digests", "leaves", "size"] (defScope s_growth_paper) := ⟨rfl, rfl, rfl, by decide +kernel, rfl, by decide +kernel, by decide +kernel⟩
abbrev s_joined : Stmt := top 11
theorem sc_joined : FnScope ["digests", "rows", "parts", "_", "size", "found", "left"] ["digests", "rows"] (defScope s_joined) := ⟨rfl, rfl, rfl, by decide +kernel, rfl, by decide +kernel, by decide +kernel⟩
abbrev s_check_growth : Stmt := top 12
theorem sc_check_growth : FnScope ["digests", "old_root", "old_size", "new_root", "new_size", "paper", "parts", "old_rows", "row"] ["digests", "old_root", "old_size", "new_root", "new_size", "paper"] (defScope s_check_growth) := ⟨rfl, rfl, rfl, by decide +kernel, rfl, by decide +kernel, by decide +kernel⟩
abbrev s_write : Stmt := top 16
theorem sc_write : FnScope ["value", "written", "left", "part", "is_sign"] ["value"] (defScope s_write) := ⟨rfl, rfl, rfl, by decide +kernel, rfl, by decide +kernel, by decide +kernel⟩
abbrev s_written_integer : Stmt := top 17
theorem sc_written_integer : FnScope ["number", "sign"] ["number"] (defScope s_written_integer) := ⟨rfl, rfl, rfl, by decide +kernel, rfl, by decide +kernel, by decide +kernel⟩
abbrev s_digits_of : Stmt := top 18
theorem sc_digits_of : FnScope ["number", "powers", "power", "pieces", "middle", "digits", "piece", "half"] ["number"] (defScope s_digits_of) := ⟨rfl, rfl, rfl, by decide +kernel, rfl, by decide +kernel, by decide +kernel⟩
abbrev s_parted : Stmt := top 19
theorem sc_parted : FnScope ["parts", "found", "part"] ["parts"] (defScope s_parted) := ⟨rfl, rfl, rfl, by decide +kernel, rfl, by decide +kernel, by decide +kernel⟩
abbrev s_Digests_init : Stmt := inClass (top 21) 0
theorem sc_Digests_init : FnScope ["self"] ["self"] (defScope s_Digests_init) := ⟨rfl, rfl, rfl, by decide +kernel, rfl, by decide +kernel, by decide +kernel⟩
abbrev s_Digests_number : Stmt := inClass (top 21) 1
theorem sc_Digests_number : FnScope ["self", "value", "form"] ["self", "value"] (defScope s_Digests_number) := ⟨rfl, rfl, rfl, by decide +kernel, rfl, by decide +kernel, by decide +kernel⟩
abbrev s_Digests_value : Stmt := inClass (top 21) 2
theorem sc_Digests_value : FnScope ["self", "number"] ["self", "number"] (defScope s_Digests_value) := ⟨rfl, rfl, rfl, by decide +kernel, rfl, by decide +kernel, by decide +kernel⟩
abbrev s_Digests_count : Stmt := inClass (top 21) 3
theorem sc_Digests_count : FnScope ["self"] ["self"] (defScope s_Digests_count) := ⟨rfl, rfl, rfl, by decide +kernel, rfl, by decide +kernel, by decide +kernel⟩
abbrev s_L_pot : Stmt := top 23
theorem sc_L_pot : FnScope ["script", "seed", "cell"] ["script"] (defScope s_L_pot) := ⟨rfl, rfl, rfl, by decide +kernel, rfl, by decide +kernel, by decide +kernel⟩
abbrev s_L_next : Stmt := top 24
theorem sc_L_next : FnScope ["pot", "limit", "mixed", "cell", "found"] ["pot", "limit"] (defScope s_L_next) := ⟨rfl, rfl, rfl, by decide +kernel, rfl, by decide +kernel, by decide +kernel⟩
abbrev s_L_root : Stmt := top 25
theorem sc_L_root : FnScope ["digests", "leaves", "middle", "k"] ["digests", "leaves"] (defScope s_L_root) := ⟨rfl, rfl, rfl, by decide +kernel, rfl, by decide +kernel, by decide +kernel⟩
abbrev s_L_refused : Stmt := top 26
theorem sc_L_refused : FnScope ["digests", "leaves", "size", "e"] ["digests", "leaves", "size"] (defScope s_L_refused) := ⟨rfl, rfl, rfl, by decide +kernel, rfl, by decide +kernel, by decide +kernel⟩
abbrev s_L_spans : Stmt := top 27
theorem sc_L_spans : FnScope ["low", "high", "found", "k", "size", "j"] ["low", "high"] (defScope s_L_spans) := ⟨rfl, rfl, rfl, by decide +kernel, rfl, by decide +kernel, by decide +kernel⟩
abbrev s_law : Stmt := top 28
theorem sc_law : FnScope ["script", "pot", "digests", "leaves", "size", "part", "old", "new", "paper", "due", "span", "other", "at", "row", "changed", "k"] ["script"] (defScope s_law) := ⟨rfl, rfl, rfl, by decide +kernel, rfl, by decide +kernel, by decide +kernel⟩
structure Txt (K : PySem.W.Frag) (mg : Str → Option Value) where
  f__wall : Addr
  d__wall : FuncData
  F__wall : Fun K "_wall" "_wall" s__wall f__wall d__wall
  b__wall : Binds K d__wall ["k"] []
  g__wall : mg "_wall" = some (.ref f__wall)
  f_left_size : Addr
  d_left_size : FuncData
  F_left_size : Fun K "left_size" "left_size" s_left_size f_left_size d_left_size
  b_left_size : Binds K d_left_size ["size"] []
  g_left_size : mg "left_size" = some (.ref f_left_size)
  f_root : Addr
  d_root : FuncData
  F_root : Fun K "root" "root" s_root f_root d_root
  b_root : Binds K d_root ["digests", "leaves"] []
  g_root : mg "root" = some (.ref f_root)
  f_widest_parts : Addr
  d_widest_parts : FuncData
  F_widest_parts : Fun K "widest_parts" "widest_parts" s_widest_parts f_widest_parts d_widest_parts
  b_widest_parts : Binds K d_widest_parts ["start", "end"] []
  g_widest_parts : mg "widest_parts" = some (.ref f_widest_parts)
  f_growth_parts : Addr
  d_growth_parts : FuncData
  F_growth_parts : Fun K "growth_parts" "growth_parts" s_growth_parts f_growth_parts d_growth_parts
  b_growth_parts : Binds K d_growth_parts ["old_size", "new_size"] []
  g_growth_parts : mg "growth_parts" = some (.ref f_growth_parts)
  f_growth_paper : Addr
  d_growth_paper : FuncData
  F_growth_paper : Fun K "growth_paper" "growth_paper" s_growth_paper f_growth_paper d_growth_paper
  b_growth_paper : Binds K d_growth_paper ["digests", "leaves", "size"] []
  g_growth_paper : mg "growth_paper" = some (.ref f_growth_paper)
  f_joined : Addr
  d_joined : FuncData
  F_joined : Fun K "joined" "joined" s_joined f_joined d_joined
  b_joined : Binds K d_joined ["digests", "rows"] []
  g_joined : mg "joined" = some (.ref f_joined)
  f_check_growth : Addr
  d_check_growth : FuncData
  F_check_growth : Fun K "check_growth" "check_growth" s_check_growth f_check_growth d_check_growth
  b_check_growth : Binds K d_check_growth ["digests", "old_root", "old_size", "new_root", "new_size", "paper"] []
  g_check_growth : mg "check_growth" = some (.ref f_check_growth)
  f_write : Addr
  d_write : FuncData
  F_write : Fun K "write" "write" s_write f_write d_write
  b_write : Binds K d_write ["value"] []
  g_write : mg "write" = some (.ref f_write)
  f_written_integer : Addr
  d_written_integer : FuncData
  F_written_integer : Fun K "written_integer" "written_integer" s_written_integer f_written_integer d_written_integer
  b_written_integer : Binds K d_written_integer ["number"] []
  g_written_integer : mg "written_integer" = some (.ref f_written_integer)
  f_digits_of : Addr
  d_digits_of : FuncData
  F_digits_of : Fun K "digits_of" "digits_of" s_digits_of f_digits_of d_digits_of
  b_digits_of : Binds K d_digits_of ["number"] []
  g_digits_of : mg "digits_of" = some (.ref f_digits_of)
  f_parted : Addr
  d_parted : FuncData
  F_parted : Fun K "parted" "parted" s_parted f_parted d_parted
  b_parted : Binds K d_parted ["parts"] []
  g_parted : mg "parted" = some (.ref f_parted)
  f_Digests_init : Addr
  d_Digests_init : FuncData
  F_Digests_init : Fun K "__init__" "Digests.__init__" s_Digests_init f_Digests_init d_Digests_init
  b_Digests_init : Binds K d_Digests_init ["self"] []
  f_Digests_number : Addr
  d_Digests_number : FuncData
  F_Digests_number : Fun K "number" "Digests.number" s_Digests_number f_Digests_number d_Digests_number
  b_Digests_number : Binds K d_Digests_number ["self", "value"] []
  f_Digests_value : Addr
  d_Digests_value : FuncData
  F_Digests_value : Fun K "value" "Digests.value" s_Digests_value f_Digests_value d_Digests_value
  b_Digests_value : Binds K d_Digests_value ["self", "number"] []
  f_Digests_count : Addr
  d_Digests_count : FuncData
  F_Digests_count : Fun K "count" "Digests.count" s_Digests_count f_Digests_count d_Digests_count
  b_Digests_count : Binds K d_Digests_count ["self"] []
  f_L_pot : Addr
  d_L_pot : FuncData
  F_L_pot : Fun K "_law_pot" "_law_pot" s_L_pot f_L_pot d_L_pot
  b_L_pot : Binds K d_L_pot ["script"] []
  g_L_pot : mg "_law_pot" = some (.ref f_L_pot)
  f_L_next : Addr
  d_L_next : FuncData
  F_L_next : Fun K "_law_next" "_law_next" s_L_next f_L_next d_L_next
  b_L_next : Binds K d_L_next ["pot", "limit"] []
  g_L_next : mg "_law_next" = some (.ref f_L_next)
  f_L_root : Addr
  d_L_root : FuncData
  F_L_root : Fun K "_law_root" "_law_root" s_L_root f_L_root d_L_root
  b_L_root : Binds K d_L_root ["digests", "leaves"] []
  g_L_root : mg "_law_root" = some (.ref f_L_root)
  f_L_refused : Addr
  d_L_refused : FuncData
  F_L_refused : Fun K "_law_refused" "_law_refused" s_L_refused f_L_refused d_L_refused
  b_L_refused : Binds K d_L_refused ["digests", "leaves", "size"] []
  g_L_refused : mg "_law_refused" = some (.ref f_L_refused)
  f_L_spans : Addr
  d_L_spans : FuncData
  F_L_spans : Fun K "_law_spans" "_law_spans" s_L_spans f_L_spans d_L_spans
  b_L_spans : Binds K d_L_spans ["low", "high"] []
  g_L_spans : mg "_law_spans" = some (.ref f_L_spans)
  f_law : Addr
  d_law : FuncData
  F_law : Fun K "law" "law" s_law f_law d_law
  b_law : Binds K d_law ["script"] []
  g_law : mg "law" = some (.ref f_law)
  C_BridgeError : Addr
  g_BridgeError : mg "BridgeError" = some (.ref C_BridgeError)
  xe_BridgeError : PySem.W.excIn K C_BridgeError [.type "ValueError", .type "Exception", .type "BaseException", .type "object"] "ValueError.__new__" = true
  ke_BridgeError : PySem.W.keepIn K (.ref C_BridgeError) = true
  be_BridgeError : PySem.W.subIn K (.ref C_BridgeError) (.type "BaseException") = some true
  te_BridgeError : PySem.W.typeIn K (.ref C_BridgeError) = some (.type "type")
  ie_BridgeError : PySem.W.isClsIn K C_BridgeError = true
  se_BridgeError : PySem.W.subIn K (.ref C_BridgeError) (.ref C_BridgeError) = some true
  hd_BridgeError : PySem.W.hasDictIn K C_BridgeError = true
  C_InvalidArgument : Addr
  g_InvalidArgument : mg "InvalidArgument" = some (.ref C_InvalidArgument)
  xe_InvalidArgument : PySem.W.excIn K C_InvalidArgument [.type "ValueError", .type "Exception", .type "BaseException", .type "object"] "ValueError.__new__" = true
  ke_InvalidArgument : PySem.W.keepIn K (.ref C_InvalidArgument) = true
  be_InvalidArgument : PySem.W.subIn K (.ref C_InvalidArgument) (.type "BaseException") = some true
  te_InvalidArgument : PySem.W.typeIn K (.ref C_InvalidArgument) = some (.type "type")
  ie_InvalidArgument : PySem.W.isClsIn K C_InvalidArgument = true
  se_InvalidArgument : PySem.W.subIn K (.ref C_InvalidArgument) (.ref C_InvalidArgument) = some true
  hg_InvalidArgument : PySem.W.findIn K (.ref C_InvalidArgument) "__getattribute__" = some (some (.builtin "BaseException.__getattribute__"))
  hk_InvalidArgument : PySem.W.findIn K (.ref C_InvalidArgument) "__getattr__" = some none
  hd_InvalidArgument : PySem.W.hasDictIn K C_InvalidArgument = true
  ha_InvalidArgument : PySem.W.findIn K (.ref C_InvalidArgument) "__class__" = some (some (.builtin "object.__class__"))
  hm_InvalidArgument : PySem.W.mroIn K C_InvalidArgument (.type "object") = some true
  hn_InvalidArgument : PySem.W.specialIn K (.builtin "object.__class__") "__get__" = some (some (.builtin "getset_descriptor.__get__"))
  ht_InvalidArgument : PySem.W.takesIn K (.builtin "object.__class__") = some true
  ue_InvalidArgument : PySem.W.subIn K (.ref C_InvalidArgument) (.ref C_BridgeError) = some true
  C_UnknownDigest : Addr
  g_UnknownDigest : mg "UnknownDigest" = some (.ref C_UnknownDigest)
  xe_UnknownDigest : PySem.W.excIn K C_UnknownDigest [.type "ValueError", .type "Exception", .type "BaseException", .type "object"] "ValueError.__new__" = true
  ke_UnknownDigest : PySem.W.keepIn K (.ref C_UnknownDigest) = true
  be_UnknownDigest : PySem.W.subIn K (.ref C_UnknownDigest) (.type "BaseException") = some true
  te_UnknownDigest : PySem.W.typeIn K (.ref C_UnknownDigest) = some (.type "type")
  ie_UnknownDigest : PySem.W.isClsIn K C_UnknownDigest = true
  se_UnknownDigest : PySem.W.subIn K (.ref C_UnknownDigest) (.ref C_UnknownDigest) = some true
  ue_UnknownDigest : PySem.W.subIn K (.ref C_UnknownDigest) (.ref C_BridgeError) = some true
  C_Digests : Addr
  cl_Digests : Cls K C_Digests
  g_Digests : mg "Digests" = some (.ref C_Digests)
  mk_Digests : Mk K C_Digests f_Digests_init
  m_Digests_number : Meth K C_Digests "number" f_Digests_number
  m_Digests_value : Meth K C_Digests "value" f_Digests_value
  m_Digests_count : Meth K C_Digests "count" f_Digests_count
  n_Digests_values : NoAttr K C_Digests "_values"
  n_Digests_numbers : NoAttr K C_Digests "_numbers"
  t_PIECE : Tok
  c_PIECE : mg "PIECE" = some (.int 10000000000000000000000000000000000000000000000000000000000000000 t_PIECE)
  z_abs : mg "abs" = none
  z_all : mg "all" = none
  z_int : mg "int" = none
  z_isinstance : mg "isinstance" = none
  z_len : mg "len" = none
  z_list : mg "list" = none
  z_range : mg "range" = none
  z_reversed : mg "reversed" = none
  z_str : mg "str" = none
  z_tuple : mg "tuple" = none
theorem Txt.ec_InvalidArgument {K : PySem.W.Frag} {mg : Str → Option Value} (T : Txt K mg) : ExcC K T.C_InvalidArgument := ⟨T.hg_InvalidArgument, T.hk_InvalidArgument, T.be_InvalidArgument, T.hd_InvalidArgument, T.ha_InvalidArgument, T.hn_InvalidArgument, T.ht_InvalidArgument, T.hm_InvalidArgument⟩
theorem Txt.hi_InvalidArgument {K : PySem.W.Frag} {mg : Str → Option Value} (T : Txt K mg) : PySem.W.kitOne K (.ref T.C_InvalidArgument) (.ref T.C_InvalidArgument) = some true := by
  unfold PySem.W.kitOne
  rw [if_pos (beq_self_eq_true _)]
theorem Txt.ex_InvalidArgument {K : PySem.W.Frag} {mg : Str → Option Value} (T : Txt K mg) : PySem.W.exmOne K (.ref T.C_InvalidArgument) (.ref T.C_BridgeError) = some true := PySem.W.exm_ref T.be_BridgeError T.hd_BridgeError T.te_BridgeError T.ue_InvalidArgument
/-! the law's own numbers -/
def PotAt (H : Hp) (p l : Addr) : Prop := ∃ (ns : List Int) (i c s : Int), H p = some (.lst [.ref l, .int i, .int c, .int s]) ∧ H l = some (.lst (ns.map V.int)) ∧ 0 ≤ i ∧ 0 ≤ c ∧ 0 ≤ s ∧ s < 2147483647 ∧ ns.length ≤ 1000 ∧ p ≠ l
theorem PotAt.at {H : Hp} {p l : Addr} (h : PotAt H p l) : ∃ o, H p = some o := by
  obtain ⟨ns, i, c, s, h1, _⟩ := h; exact ⟨_, h1⟩
theorem PotAt.atl {H : Hp} {p l : Addr} (h : PotAt H p l) : ∃ o, H l = some o := by
  obtain ⟨ns, i, c, s, _, h1, _⟩ := h; exact ⟨_, h1⟩
theorem PotAt.same {H H' : Hp} {p l : Addr} (h : PotAt H p l) (e : Same H H') : PotAt H' p l := by
  obtain ⟨ns, i, c, s, h1, h2, r⟩ := h; exact ⟨ns, i, c, s, e _ _ h1, e _ _ h2, r⟩
theorem PotAt.upd {H : Hp} {p l a : Addr} {o : HO} (h : PotAt H p l) (n1 : a ≠ p) (n2 : a ≠ l) : PotAt (L2.upd H a o) p l := by
  obtain ⟨ns, i, c, s, h1, h2, r⟩ := h; exact ⟨ns, i, c, s, upd_other n1.symm h1, upd_other n2.symm h2, r⟩
theorem PotAt.new {H : Hp} {p l a : Addr} {o : HO} (h : PotAt H p l) (n : H a = none) : PotAt (L2.upd H a o) p l := by
  obtain ⟨ns, i, c, s, h1, h2, r⟩ := h; exact ⟨ns, i, c, s, upd_new n h1, upd_new n h2, r⟩
theorem PotAt.nep {H : Hp} {p l a : Addr} (h : PotAt H p l) (n : H a = none) : a ≠ p := by
  obtain ⟨o, h1⟩ := h.at; exact (ne_of_none h1 n).symm
theorem PotAt.nel {H : Hp} {p l a : Addr} (h : PotAt H p l) (n : H a = none) : a ≠ l := by
  obtain ⟨o, h1⟩ := h.atl; exact (ne_of_none h1 n).symm
def sp_pot (K : PySem.W.Frag) : Sp := fun vs H Q _ => ∃ (a : Addr) (ns : List Int), vs = [.ref a] ∧ SqL K H a (ns.map V.int) ∧ ns.length ≤ 63 ∧ ∀ (p l : Addr) (H' : Hp), H p = none → H l = none → PotAt H' p l → Same H H' → Q (.ref p) H'
def sp_next : Sp := fun vs H Q _ => ∃ (p l : Addr) (n : Int), vs = [.ref p, .int n] ∧ PotAt H p l ∧ 0 < n ∧ n < 1000000000 ∧ ∀ (r : Int) (H' : Hp), 0 ≤ r → r < n → PotAt H' p l → Kp p H H' → Q (.int r) H'
section
variable {P : Program} {w : World} {K : PySem.W.Frag} {mg : Str → Option Value} {base : Heap}
theorem map_at {ns : List Int} {i : Nat} {x : V} (h : (ns.map V.int)[i]? = some x) : ∃ z, x = .int z := by
  rw [List.getElem?_map] at h
  cases e : ns[i]? with
  | none => rw [e] at h; cases h
  | some z => rw [e] at h; exact ⟨z, (Option.some.inj h).symm⟩
theorem ok_L_pot (T : Txt K mg) : FnOk P w K mg base CX0 1 T.f_L_pot T.d_L_pot ["script"] (sp_pot K) := by
  refine T.F_L_pot.ok sc_L_pot (fun vs H Q E h => ?_) (fun cdv A outer s H vs Q E hr h => ?_)
  · obtain ⟨a, ns, rfl, _⟩ := h; rfl
  · obtain ⟨a, ns, rfl, hS, hlen, k⟩ := h
    refine ⟨_, (pss_cons (ps_set (i := 1) sc_L_pot.nd rfl (Or.inl rfl) pe_int)
      (pss_cons (ps_for PassesOwn.never rfl (pi_list (pv 0)) (pg_name (i := 2) sc_L_pot.nd rfl (Or.inl rfl))
        (pss_one (ps_set (i := 1) sc_L_pot.nd rfl (Or.inl rfl) (pe_op op_mod (pe_callTy cq_int1 (by rfl) T.z_int boot_int (pa_cons (pe_op op_add (pe_op op_mul (pv 1) pe_int) (pv 2)) pa_nil)) pe_int))))
      (pss_one (ps_ret (pe_lst (pa_cons (pe_callTy cq_listOf (by rfl) T.z_list boot_list (pa_cons (pv 0) pa_nil)) (pa_cons pe_int (pa_cons pe_int (pa_cons (pv 1) pa_nil))))))))), ?_⟩
    (dsimp only [cxOf, Cx.nox, Cx.wish, L2.start, List.map, List.length, List.replicate, List.cons_append, List.nil_append, List.append_eq, Nat.reduceSub, Nat.reduceAdd])
    walk_at "my_rd"
    refine q_forL hS (fun i σ H2 => ∃ (z : Int) (v : Option V), σ = [some (.ref a), some (.int z), v] ∧ H2 = H ∧ 0 ≤ z ∧ z < 2147483647) ⟨1, none, rfl, rfl, by omega, by omega⟩ (fun i σ H2 _ ⟨_, _, _, e, _⟩ => e ▸ hS) ?_ ?_
    · rintro i x σ H2 hx ⟨z, v, rfl, rfl, h0, h1⟩
      obtain ⟨y, rfl⟩ := map_at hx
      walk_at "my_rd"
      exact ⟨_, _, rfl, rfl, Int.emod_nonneg _ (by decide), Int.emod_lt_of_pos _ (by decide)⟩
    · rintro σ H2 ⟨z, v, rfl, rfl, h0, h1⟩
      walk_at "my_rd"
      refine q_listL hS fun l nl => ?_
      walk_at "my_rd"
      refine q_lstK (Nat.le_of_ble_eq_true rfl) fun p np => ?_
      walk_at "my_rd"
      refine k p l _ (upd_none_back np) nl ⟨ns, 0, 0, z, upd_same, upd_new np upd_same, by omega, by omega, h0, h1, by omega, ?_⟩ (Same.new (Same.new (Same.refl _) nl) (upd_none_back np))
      exact upd_none_ne np
theorem ok_L_next (T : Txt K mg) : FnOk P w K mg base CX0 1 T.f_L_next T.d_L_next ["pot", "limit"] sp_next := by
  refine T.F_L_next.ok sc_L_next (fun vs H Q E h => ?_) (fun cdv A outer s H vs Q E hr h => ?_)
  · obtain ⟨p, l, n, rfl, _⟩ := h; rfl
  · obtain ⟨p, l, n, rfl, ⟨ns, i, c, z, hp, hl, hi, hc, hz0, hz1, hns, hpl⟩, hn, hn2, k⟩ := h
    refine ⟨_, (Evl.pss_cut (ps_if (PW.pt (pw_and (pt_cmpR op_eq (pe_ix ix_list (pv 0) pe_int (fun _ _ => rfl)) pe_int (nomark _)) (pw_and1 (pt_cmpR op_lt (pe_ix ix_list (pv 0) pe_int (fun _ _ => rfl)) (pe_callB cq_len (by rfl) T.z_len boot_len (pa_cons (pe_ix ix_list (pv 0) pe_int (fun _ _ => rfl)) pa_nil)) (nomark _))))) (pss_cons (ps_set (i := 3) sc_L_next.nd rfl (Or.inl rfl) (pe_callB cq_abs (by rfl) T.z_abs boot_abs (pa_cons (pe_callTy cq_int1 (by rfl) T.z_int boot_int (pa_cons (pe_ix ix_list (pe_ix ix_list (pv 0) pe_int (fun _ _ => rfl)) (pe_ix ix_list (pv 0) pe_int (fun _ _ => rfl)) (fun _ _ => rfl)) pa_nil)) pa_nil)))
      (pss_cons (ps_asg (pe_op op_add (pe_ix ix_list (pv 0) pe_int (fun _ _ => rfl)) pe_int) (pg_sub (pv 0) pe_int set_list))
      (pss_cons (ps_if (pt_cmpR op_lt (pv 3) (pe_op op_pow pe_int pe_int) (nomark _)) (pss_one (ps_ret (pe_op op_mod (pe_callTy cq_int1 (by rfl) T.z_int boot_int (pa_cons (pv 3) pa_nil)) (pv 1)))) pss_nil)
      (pss_one (ps_asg (pv 3) (pg_sub (pv 0) pe_int set_list)))))) pss_nil)
      (pss_cons (ps_if (pt_cmpR op_gt (pe_ix ix_list (pv 0) pe_int (fun _ _ => rfl)) pe_int (nomark _)) (pss_cons (ps_set (i := 4) sc_L_next.nd rfl (Or.inl rfl) (pe_op op_mod (pe_callTy cq_int1 (by rfl) T.z_int boot_int (pa_cons (pe_ix ix_list (pv 0) pe_int (fun _ _ => rfl)) pa_nil)) (pv 1)))
      (pss_cons (ps_asg (pe_op op_fdiv (pe_ix ix_list (pv 0) pe_int (fun _ _ => rfl)) (pv 1)) (pg_sub (pv 0) pe_int set_list))
      (pss_one (ps_ret (pv 4))))) pss_nil)
      (pss_cons (ps_asg (pe_op op_mod (pe_callTy cq_int1 (by rfl) T.z_int boot_int (pa_cons (pe_op op_add (pe_op op_mul (pe_ix ix_list (pv 0) pe_int (fun _ _ => rfl)) pe_int) pe_int) pa_nil)) pe_int) (pg_sub (pv 0) pe_int set_list))
      (pss_cons (ps_set (i := 2) sc_L_next.nd rfl (Or.inl rfl) (pe_op op_mod (pe_callTy cq_int1 (by rfl) T.z_int boot_int (pa_cons (pe_op op_add (pe_op op_mul (pe_ix ix_list (pv 0) pe_int (fun _ _ => rfl)) pe_int) (pe_op op_fdiv (pe_ix ix_list (pv 0) pe_int (fun _ _ => rfl)) pe_int)) pa_nil)) pe_int))
      (pss_one (ps_ret (pe_op op_mod (pe_callTy cq_int1 (by rfl) T.z_int boot_int (pa_cons (pv 2) pa_nil)) (pv 1)))))))), ?_⟩
    (dsimp only [cxOf, Cx.nox, Cx.wish, L2.start, List.map, List.length, List.replicate, List.cons_append, List.nil_append, List.append_eq, Nat.reduceSub, Nat.reduceAdd])
    refine q_cut (Mid := fun σ' H' => ∃ (cell : Option V) (i c : Int), σ' = [some (.ref p), some (.int n), none, cell, none] ∧ H' p = some (.lst [.ref l, .int i, .int c, .int z]) ∧ H' l = some (.lst (ns.map V.int)) ∧ 0 ≤ i ∧ 0 ≤ c ∧ Kp p H H') ?_ ?_
    · walk_at "my_rd"
      refine q_and2 (fun h1 => ?_) (fun _ => ?_)
      · walk_at "my_rd"
        refine q_if2 (fun h2 => ?_) (fun _ => ?_)
        · have h2 := dec_t h2
          rw [List.length_map] at h2
          have hi2 : i.toNat < ns.length := by omega
          have ha : atI (ns.map V.int) i = some (V.int ns[i.toNat]) := at_int (n := i.toNat) (by omega) (by rw [List.getElem?_map, List.getElem?_eq_getElem hi2]; rfl)
          walk_at "my_rd"
          refine q_ixLt hl ha ?_
          walk_at "my_rd"
          refine q_if2 (fun h3 => ?_) (fun h3 => ?_)
          · walk_at "my_rd"
            refine k _ _ (Int.emod_nonneg _ (by omega)) (Int.emod_lt_of_pos _ hn) ⟨ns, i + 1, c, z, upd_same, upd_other hpl.symm hl, by omega, hc, hz0, hz1, hns, hpl⟩ (Kp.upd Kp.refl)
          · walk_at "my_rd"
            refine ⟨_, i + 1, _, rfl, upd_same, upd_other hpl.symm (upd_other hpl.symm hl), by omega, ?_, Kp.upd (Kp.upd Kp.refl)⟩
            split <;> omega
        · walk_at "my_rd"
          exact ⟨none, i, c, rfl, hp, hl, hi, hc, Kp.refl⟩
      · walk_at "my_rd"
        exact ⟨none, i, c, rfl, hp, hl, hi, hc, Kp.refl⟩
    · clear hp hl hi hc i c
      rintro σ' H2 ⟨cell, i, c, rfl, hp, hl, hi, hc, kp⟩
      walk_at "my_rd"
      refine q_if2 (fun h1 => ?_) (fun h1 => ?_)
      · have h1 := dec_t h1
        walk_at "my_rd"
        refine k _ _ (Int.emod_nonneg _ (by omega)) (Int.emod_lt_of_pos _ hn) ⟨ns, i, c / n, z, upd_same, upd_other hpl.symm hl, hi, Int.ediv_nonneg hc (by omega), hz0, hz1, hns, hpl⟩ (Kp.upd kp)
      · walk_at "my_rd"
        refine k _ _ (Int.emod_nonneg _ (by omega)) (Int.emod_lt_of_pos _ hn) ⟨ns, i, c, _, upd_same, upd_other hpl.symm hl, hi, hc, Int.emod_nonneg _ (by decide), Int.emod_lt_of_pos _ (by decide), hns, hpl⟩ (Kp.upd kp)
end

/-- rows that stand as tuples -/
structure RowsAt {α : Type} (f : α → List V) (H : Hp) (xs : List V) (rs : List α) : Prop where
  len : xs.length = rs.length
  at_ : ∀ (i : Nat) (r : α), rs[i]? = some r → ∃ a, xs[i]? = some (.ref a) ∧ H a = some (.tup (f r))
theorem RowsAt.mono {α : Type} {f : α → List V} {H H' : Hp} {xs : List V} {rs : List α} (h : RowsAt f H xs rs) (e : ∀ b ys, H b = some (.tup ys) → H' b = some (.tup ys)) : RowsAt f H' xs rs :=
  ⟨h.len, fun i r hr => by obtain ⟨a, h1, h2⟩ := h.at_ i r hr; exact ⟨a, h1, e _ _ h2⟩⟩
theorem RowsAt.same {α : Type} {f : α → List V} {H H' : Hp} {xs : List V} {rs : List α} (h : RowsAt f H xs rs) (e : Same H H') : RowsAt f H' xs rs := h.mono fun b ys q => e b _ q
theorem RowsAt.item {α : Type} {f : α → List V} {H : Hp} {xs : List V} {rs : List α} (h : RowsAt f H xs rs) {i : Nat} {x : V} (hx : xs[i]? = some x) : ∃ r a, rs[i]? = some r ∧ x = .ref a ∧ H a = some (.tup (f r)) := by
  have hi : i < rs.length := by rw [← h.len]; exact (List.getElem?_eq_some_iff.mp hx).1
  obtain ⟨a, h1, h2⟩ := h.at_ i rs[i] (List.getElem?_eq_getElem hi)
  exact ⟨rs[i], a, List.getElem?_eq_getElem hi, Option.some.inj (hx.symm.trans h1), h2⟩
theorem RowsAt.nil {α : Type} {f : α → List V} {H : Hp} : RowsAt f H [] [] := ⟨rfl, fun i r h => by simp at h⟩
theorem RowsAt.snoc {α : Type} {f : α → List V} {H : Hp} {xs : List V} {rs : List α} {a : Addr} {r : α} (h : RowsAt f H xs rs) (ha : H a = some (.tup (f r))) : RowsAt f H (xs ++ [.ref a]) (rs ++ [r]) := by
  refine ⟨by rw [List.length_append, List.length_append, h.len]; rfl, fun i g' hg => ?_⟩
  by_cases hi : i < rs.length
  · rw [List.getElem?_append_left hi] at hg
    rw [List.getElem?_append_left (by rw [h.len]; exact hi)]
    exact h.at_ i g' hg
  · have hi' : i = rs.length := by
      have := (List.getElem?_eq_some_iff.mp hg).1
      rw [List.length_append] at this
      simp at this
      omega
    subst hi'
    rw [List.getElem?_append_right (Nat.le_refl _)] at hg
    simp at hg
    subst hg
    refine ⟨a, ?_, ha⟩
    rw [List.getElem?_append_right (by rw [h.len]; exact Nat.le_refl _), h.len]
    simp

/-! written forms, as lists of signs -/
def intL (i : Int) : List Nat := (if i < 0 then [45] else []) ++ numL i.natAbs
mutual
def wrL : NestedKey → List Nat
  | .none => []
  | .num i => intL i
  | .text s => numL s.length ++ 58 :: tl s
  | .tup ks => 40 :: (wrsL ks ++ [41])
def wrsL : List NestedKey → List Nat
  | [] => []
  | k :: ks => wrL k ++ wrTail ks
def wrTail : List NestedKey → List Nat
  | [] => []
  | k :: ks => 44 :: (wrL k ++ wrTail ks)
end
mutual
def isV : NestedKey → Bool
  | .none => false
  | .num _ => true
  | .text _ => true
  | .tup ks => isVs ks
def isVs : List NestedKey → Bool
  | [] => true
  | k :: ks => isV k && isVs ks
end
def isDg (c : Nat) : Prop := 48 ≤ c ∧ c ≤ 57
def dl (r : List Nat) : Prop := r = [] ∨ ∃ c t, r = c :: t ∧ (c = 44 ∨ c = 41)
def nd (r : List Nat) : Prop := r = [] ∨ ∃ c t, r = c :: t ∧ ¬ isDg c
theorem dl.nd {r : List Nat} (h : dl r) : nd r := by
  rcases h with e | ⟨c, t, e, h⟩
  · exact .inl e
  · exact .inr ⟨c, t, e, fun q => by unfold isDg at q; omega⟩
theorem span_inj {a b r s : List Nat} (ha : ∀ c ∈ a, isDg c) (hb : ∀ c ∈ b, isDg c) (hr : nd r) (hs : nd s) (h : a ++ r = b ++ s) : a = b ∧ r = s := by
  induction a generalizing b with
  | nil =>
    cases b with
    | nil => exact ⟨rfl, h⟩
    | cons y b =>
      rw [List.nil_append, List.cons_append] at h
      rcases hr with e | ⟨c, t, e, q⟩
      · rw [e] at h; cases h
      · rw [e] at h
        injection h with h1 _
        exact absurd (h1 ▸ hb y List.mem_cons_self) q
  | cons x a ih =>
    cases b with
    | nil =>
      rw [List.nil_append, List.cons_append] at h
      rcases hs with e | ⟨c, t, e, q⟩
      · rw [e] at h; cases h
      · rw [e] at h
        injection h with h1 _
        exact absurd (h1 ▸ ha x List.mem_cons_self) q
    | cons y b =>
      rw [List.cons_append, List.cons_append] at h
      injection h with h1 h2
      obtain ⟨e1, e2⟩ := ih (fun c hc => ha c (List.mem_cons_of_mem _ hc)) (fun c hc => hb c (List.mem_cons_of_mem _ hc)) h2
      exact ⟨by rw [h1, e1], e2⟩
theorem num_dg (n : Nat) : ∀ c ∈ numL n, isDg c := by
  intro c hc
  obtain ⟨ch, hch, e⟩ := List.mem_map.mp hc
  have r := PyProof.Rows.digit_range (Nat.isDigit_of_mem_toDigits (by decide) (by decide) hch)
  rw [← e]
  exact r
theorem num_inj {m n : Nat} (h : numL m = numL n) : m = n := by
  have a := PySem.W.KIN.val_back m
  have b := PySem.W.KIN.val_back n
  have h' : (Nat.toDigits 10 m).map Char.toNat = (Nat.toDigits 10 n).map Char.toNat := h
  rw [h', b] at a
  exact a.symm
theorem num_ne (n : Nat) : ∃ c t, numL n = c :: t ∧ isDg c := by
  cases h : numL n with
  | nil =>
    have h' : (Nat.toDigits 10 n).map Char.toNat = [] := h
    have z := PyProof.Rows.tDigits_len_ge 10 n
    rw [List.map_eq_nil_iff.mp h'] at z
    exact absurd z (by decide)
  | cons c t => exact ⟨c, t, rfl, num_dg n c (by rw [h]; exact List.mem_cons_self)⟩
/-- how a written value begins -/
theorem wr_head : ∀ (k : NestedKey), isV k = true → ∃ c t, wrL k = c :: t ∧ (isDg c ∨ c = 45 ∨ c = 40)
  | .none, h => by cases h
  | .num i, _ => by
    show ∃ c t, intL i = c :: t ∧ _
    unfold intL
    by_cases h : i < 0
    · rw [if_pos h]; exact ⟨45, _, rfl, .inr (.inl rfl)⟩
    · rw [if_neg h]
      obtain ⟨c, t, e, q⟩ := num_ne i.natAbs
      exact ⟨c, t, e, .inl q⟩
  | .text s, _ => by
    obtain ⟨c, t, e, q⟩ := num_ne s.length
    exact ⟨c, t ++ 58 :: tl s, by show numL s.length ++ 58 :: tl s = _; rw [e]; rfl, .inl q⟩
  | .tup ks, _ => ⟨40, _, rfl, .inr (.inr rfl)⟩
theorem tl_inj {s t : Str} (h : tl s = tl t) : s = t := by
  cases s; cases t
  congr 1
  exact Array.toList_inj.mp h
theorem int_inj {i j : Int} {r s : List Nat} (hr : nd r) (hs : nd s) (h : intL i ++ r = intL j ++ s) : i = j ∧ r = s := by
  unfold intL at h
  by_cases hi : i < 0 <;> by_cases hj : j < 0
  · rw [if_pos hi, if_pos hj] at h
    injection h with _ h
    obtain ⟨e1, e2⟩ := span_inj (num_dg _) (num_dg _) hr hs h
    exact ⟨by have := num_inj e1; omega, e2⟩
  · rw [if_pos hi, if_neg hj] at h
    obtain ⟨c, t, e, q⟩ := num_ne j.natAbs
    rw [List.nil_append, e] at h
    injection h with h1 _
    unfold isDg at q
    omega
  · rw [if_neg hi, if_pos hj] at h
    obtain ⟨c, t, e, q⟩ := num_ne i.natAbs
    rw [List.nil_append, e] at h
    injection h with h1 _
    unfold isDg at q
    omega
  · rw [if_neg hi, if_neg hj, List.nil_append, List.nil_append] at h
    obtain ⟨e1, e2⟩ := span_inj (num_dg _) (num_dg _) hr hs h
    exact ⟨by have := num_inj e1; omega, e2⟩
theorem nd58 (t : List Nat) : nd (58 :: t) := .inr ⟨58, t, rfl, fun q => by unfold isDg at q; omega⟩
theorem int_text {i : Int} {s : Str} {r t : List Nat} (hr : dl r) (h : intL i ++ r = (numL s.length ++ 58 :: tl s) ++ t) : False := by
  unfold intL at h
  by_cases hi : i < 0
  · rw [if_pos hi] at h
    obtain ⟨c, u, e, q⟩ := num_ne s.length
    rw [e] at h
    injection h with h1 _
    unfold isDg at q
    omega
  · rw [if_neg hi, List.nil_append, List.append_assoc] at h
    obtain ⟨_, e⟩ := span_inj (num_dg _) (num_dg _) hr.nd (nd58 _) h
    rcases hr with q | ⟨c, u, q, z⟩
    · rw [q] at e; cases e
    · rw [q] at e
      injection e with e1 _
      omega
theorem tail_dl (ks : List NestedKey) (r : List Nat) : dl (wrTail ks ++ 41 :: r) := by
  cases ks with
  | nil => exact .inr ⟨41, r, rfl, .inr rfl⟩
  | cons k ks => exact .inr ⟨44, _, rfl, .inl rfl⟩
mutual
theorem wr_inj : ∀ (k l : NestedKey) {r s : List Nat}, isV k = true → isV l = true → dl r → dl s → wrL k ++ r = wrL l ++ s → k = l ∧ r = s
  | .none, _, _, _, h, _, _, _, _ => by cases h
  | .num _, .none, _, _, _, h, _, _, _ => by cases h
  | .num i, .num j, r, s, _, _, hr, hs, h => by
    obtain ⟨e1, e2⟩ := int_inj hr.nd hs.nd h
    exact ⟨by rw [e1], e2⟩
  | .num i, .text t, r, s, _, _, hr, hs, h => (int_text hr h).elim
  | .num i, .tup ls, r, s, hk, _, hr, hs, h => by
    obtain ⟨c, t, e, q⟩ := wr_head (.num i) hk
    rw [e] at h
    injection h with h1 _
    exfalso
    have e2 : wrL (.num i) = intL i := rfl
    rw [e2] at e
    unfold intL at e
    by_cases hi : i < 0
    · rw [if_pos hi] at e; injection e with e _; omega
    · rw [if_neg hi] at e
      obtain ⟨c2, t2, e3, q2⟩ := num_ne i.natAbs
      rw [List.nil_append, e3] at e
      injection e with e _
      unfold isDg at q2
      omega
  | .text _, .none, _, _, _, h, _, _, _ => by cases h
  | .text t, .num j, r, s, _, _, hr, hs, h => (int_text hs h.symm).elim
  | .text t, .text u, r, s, _, _, hr, hs, h => by
    have h' : (numL t.length ++ 58 :: tl t) ++ r = (numL u.length ++ 58 :: tl u) ++ s := h
    rw [List.append_assoc, List.append_assoc] at h'
    obtain ⟨e1, e2⟩ := span_inj (num_dg _) (num_dg _) (nd58 _) (nd58 _) h'
    have el := num_inj e1
    injection e2 with _ e2
    have e3 : tl t ++ r = tl u ++ s := e2
    obtain ⟨e4, e5⟩ := List.append_inj e3 el
    exact ⟨by rw [tl_inj e4], e5⟩
  | .text t, .tup ls, r, s, _, _, hr, hs, h => by
    obtain ⟨c, u, e, q⟩ := num_ne t.length
    have h' : (numL t.length ++ 58 :: tl t) ++ r = (40 :: (wrsL ls ++ [41])) ++ s := h
    rw [e] at h'
    injection h' with h1 _
    unfold isDg at q
    omega
  | .tup _, .none, _, _, _, h, _, _, _ => by cases h
  | .tup ks, .num j, r, s, _, hl, hr, hs, h => by
    exfalso
    have h' : (40 :: (wrsL ks ++ [41])) ++ r = intL j ++ s := h
    unfold intL at h'
    by_cases hi : j < 0
    · rw [if_pos hi] at h'; injection h' with e _; omega
    · rw [if_neg hi] at h'
      obtain ⟨c2, t2, e3, q2⟩ := num_ne j.natAbs
      rw [List.nil_append, e3] at h'
      injection h' with e _
      unfold isDg at q2
      omega
  | .tup ks, .text u, r, s, _, _, hr, hs, h => by
    obtain ⟨c, v, e, q⟩ := num_ne u.length
    have h' : (40 :: (wrsL ks ++ [41])) ++ r = (numL u.length ++ 58 :: tl u) ++ s := h
    rw [e] at h'
    injection h' with h1 _
    unfold isDg at q
    omega
  | .tup [], .tup [], r, s, _, _, _, _, h => by
    injection h with _ h
    injection h with _ h
    exact ⟨rfl, h⟩
  | .tup [], .tup (l :: ls), r, s, _, hl, _, _, h => by
    exfalso
    have hl' : (isV l && isVs ls) = true := hl
    rw [Bool.and_eq_true] at hl'
    obtain ⟨c, t, e, q⟩ := wr_head l hl'.1
    have h' : 40 :: (41 :: r) = 40 :: ((wrL l ++ wrTail ls ++ [41]) ++ s) := h
    rw [e] at h'
    injection h' with _ h'
    injection h' with h1 _
    unfold isDg at q
    omega
  | .tup (k :: ks), .tup [], r, s, hk, _, _, _, h => by
    exfalso
    have hk' : (isV k && isVs ks) = true := hk
    rw [Bool.and_eq_true] at hk'
    obtain ⟨c, t, e, q⟩ := wr_head k hk'.1
    have h' : 40 :: ((wrL k ++ wrTail ks ++ [41]) ++ r) = 40 :: (41 :: s) := h
    rw [e] at h'
    injection h' with _ h'
    injection h' with h1 _
    unfold isDg at q
    omega
  | .tup (k :: ks), .tup (l :: ls), r, s, hk, hl, _, _, h => by
    have hk' : (isV k && isVs ks) = true := hk
    have hl' : (isV l && isVs ls) = true := hl
    rw [Bool.and_eq_true] at hk' hl'
    have h' : 40 :: ((wrL k ++ wrTail ks ++ [41]) ++ r) = 40 :: ((wrL l ++ wrTail ls ++ [41]) ++ s) := h
    injection h' with _ h'
    rw [List.append_assoc, List.append_assoc, List.append_assoc, List.append_assoc] at h'
    obtain ⟨e1, e2⟩ := wr_inj k l hk'.1 hl'.1 (tail_dl ks r) (tail_dl ls s) h'
    obtain ⟨e3, e4⟩ := wrT_inj ks ls hk'.2 hl'.2 e2
    exact ⟨by rw [e1, e3], e4⟩
theorem wrT_inj : ∀ (ks ls : List NestedKey) {r s : List Nat}, isVs ks = true → isVs ls = true → wrTail ks ++ 41 :: r = wrTail ls ++ 41 :: s → ks = ls ∧ r = s
  | [], [], r, s, _, _, h => by
    injection h with _ h
    exact ⟨rfl, h⟩
  | [], l :: ls, r, s, _, _, h => by
    injection h with h _
    omega
  | k :: ks, [], r, s, _, _, h => by
    injection h with h _
    omega
  | k :: ks, l :: ls, r, s, hk, hl, h => by
    have hk' : (isV k && isVs ks) = true := hk
    have hl' : (isV l && isVs ls) = true := hl
    rw [Bool.and_eq_true] at hk' hl'
    have h' : 44 :: ((wrL k ++ wrTail ks) ++ 41 :: r) = 44 :: ((wrL l ++ wrTail ls) ++ 41 :: s) := h
    injection h' with _ h'
    rw [List.append_assoc, List.append_assoc] at h'
    obtain ⟨e1, e2⟩ := wr_inj k l hk'.1 hl'.1 (tail_dl ks r) (tail_dl ls s) h'
    obtain ⟨e3, e4⟩ := wrT_inj ks ls hk'.2 hl'.2 e2
    exact ⟨by rw [e1, e3], e4⟩
end
theorem wr_inj' {k l : NestedKey} (hk : isV k = true) (hl : isV l = true) (h : wrL k = wrL l) : k = l :=
  (wr_inj k l hk hl (.inl rfl) (.inl rfl) (by rw [h] : wrL k ++ [] = wrL l ++ [])).1

local macro_rules | `(tactic| walk_at "my_rd") => `(tactic| (repeat first
  | with_reducible refine q_tCons ?_
  | ((with_reducible apply q_var); (focus (exact rfl)))
  | with_reducible refine q_c ?_
  | with_reducible refine q_nx ?_
  | with_reducible refine q_bK ?_
  | with_reducible refine q_call ?_
  | with_reducible refine q_callK ?_
  | with_reducible refine q_tNil ?_
  | with_reducible refine q_cb ?_
  | with_reducible refine q_seq ?_
  | with_reducible refine q_asg ?_
  | with_reducible refine q_gName ?_
  | with_reducible refine q_op ?_
  | with_reducible refine q_test ?_
  | with_reducible refine q_tB ?_
  | with_reducible refine q_ifS ?_
  | with_reducible refine q_ret ?_
  | with_reducible refine q_rt ?_
  | with_reducible refine q_next ?_
  | with_reducible refine q_ifF ?_
  | with_reducible refine q_ifT ?_
  | with_reducible refine q_drop ?_
  | with_reducible refine q_and ?_
  | with_reducible refine q_or ?_
  | with_reducible refine q_andT ?_
  | with_reducible refine q_andF ?_
  | with_reducible refine q_orF ?_
  | with_reducible refine q_orT ?_
  | with_reducible refine q_andV ?_
  | with_reducible refine q_andVT ?_
  | with_reducible refine q_andVF ?_
  | with_reducible refine q_orV ?_
  | with_reducible refine q_gCons ?_
  | with_reducible refine q_gNil ?_
  | with_reducible refine q_tup ?_
  | with_reducible refine q_lst ?_
  | with_reducible refine q_not ?_
  | with_reducible refine q_notKT ?_
  | with_reducible refine q_notKF ?_
  | with_reducible refine q_I0 ?_
  | with_reducible refine q_eqI ?_
  | with_reducible refine q_neI ?_
  | ((with_reducible refine q_I ?_ ?_); first | decide | omega | exact ⟨by omega, by omega⟩ | exact ⟨by decide, by decide⟩ | exact .inl ⟨by omega, by omega⟩ | exact .inr ⟨by omega, by omega⟩ | exact .inr ⟨by decide, by decide⟩)
  | with_reducible refine q_eqS ?_
  | with_reducible refine q_neS ?_
  | with_reducible refine q_brk ?_
  | with_reducible refine q_ct ?_
  | with_reducible refine q_bk ?_
  | with_reducible refine q_cn ?_
  | with_reducible refine q_retN ?_
  | with_reducible refine q_gSub ?_
  | with_reducible refine q_for ?_
  | with_reducible refine q_iList ?_
  | with_reducible refine q_iTup ?_
  | with_reducible refine q_iRng1 ?_
  | with_reducible refine q_notK ?_
  | with_reducible refine q_orVT ?_
  | with_reducible refine q_orVF ?_
  | with_reducible refine q_notV ?_
  | with_reducible refine q_notVK ?_
  | with_reducible refine q_ifE ?_
  | with_reducible refine q_ifET ?_
  | with_reducible refine q_ifEF ?_
  | with_reducible refine q_yes ?_
  | with_reducible refine q_un ?_
  | with_reducible refine q_rU ?_
  | with_reducible refine q_abs ?_
  | with_reducible refine q_int1 ?_
  | with_reducible refine q_bm ?_
  | with_reducible refine q_bm0 ?_
  | with_reducible refine q_lc ?_
  | with_reducible refine q_keepT ?_
  | with_reducible refine q_keepF ?_
  | ((with_reducible apply q_aug); (focus (exact rfl)))
  | with_reducible refine q_ipI ?_
  | with_reducible refine q_chain ?_
  | with_reducible refine q_pairC ?_
  | with_reducible refine q_pairsK ?_
  | with_reducible refine q_pairN ?_
  | with_reducible refine q_fld ?_
  | with_reducible refine q_sFld ?_
  | with_reducible refine q_meth ?_
  | with_reducible refine q_makeK ?_
  | with_reducible refine q_isBl ?_
  | with_reducible refine q_notBl ?_
  | with_reducible refine q_sl ?_
  | with_reducible refine q_noPart ?_
  | with_reducible refine q_part ?_
  | with_reducible refine q_partK ?_
  | ((with_reducible apply q_mulStr); (focus (decide +kernel)))
  | with_reducible refine q_chT ?_
  | with_reducible refine q_chF ?_
  | with_reducible refine q_ord ?_
  | with_reducible refine q_iStr0 ?_
  | with_reducible refine q_iStr ?_
  | with_reducible refine q_tDIn ?_
  | with_reducible refine q_tDNotIn ?_
  | with_reducible refine q_tDGet ?_
  | with_reducible refine q_tDGet2 ?_
  | with_reducible refine q_tDGet1 ?_
  | with_reducible refine q_tDSetd ?_
  | ((with_reducible apply q_dG2a); (focus ((repeat first | (with_reducible exact upd_same) | (with_reducible assumption) | (with_reducible apply upd_new (by assumption)) | (with_reducible apply upd_other (by first | assumption | exact Ne.symm (by assumption))) | (with_reducible refine' Kp.get (by assumption) ?_ (by first | assumption | exact Ne.symm (by assumption))) | (with_reducible apply Same.get (by assumption))); done)))
  | ((with_reducible apply q_dSda); (focus ((repeat first | (with_reducible exact upd_same) | (with_reducible assumption) | (with_reducible apply upd_new (by assumption)) | (with_reducible apply upd_other (by first | assumption | exact Ne.symm (by assumption))) | (with_reducible refine' Kp.get (by assumption) ?_ (by first | assumption | exact Ne.symm (by assumption))) | (with_reducible apply Same.get (by assumption))); done)))
  | with_reducible refine q_sDPut ?_
  | ((with_reducible apply q_dInS); (focus ((repeat first | (with_reducible exact upd_same) | (with_reducible assumption) | (with_reducible apply upd_new (by assumption)) | (with_reducible apply upd_other (by first | assumption | exact Ne.symm (by assumption))) | (with_reducible refine' Kp.get (by assumption) ?_ (by first | assumption | exact Ne.symm (by assumption))) | (with_reducible apply Same.get (by assumption))); done)))
  | ((with_reducible apply q_dNInS); (focus ((repeat first | (with_reducible exact upd_same) | (with_reducible assumption) | (with_reducible apply upd_new (by assumption)) | (with_reducible apply upd_other (by first | assumption | exact Ne.symm (by assumption))) | (with_reducible refine' Kp.get (by assumption) ?_ (by first | assumption | exact Ne.symm (by assumption))) | (with_reducible apply Same.get (by assumption))); done)))
  | ((with_reducible apply q_dInI); (focus ((repeat first | (with_reducible exact upd_same) | (with_reducible assumption) | (with_reducible apply upd_new (by assumption)) | (with_reducible apply upd_other (by first | assumption | exact Ne.symm (by assumption))) | (with_reducible refine' Kp.get (by assumption) ?_ (by first | assumption | exact Ne.symm (by assumption))) | (with_reducible apply Same.get (by assumption))); done)))
  | ((with_reducible apply q_dNInI); (focus ((repeat first | (with_reducible exact upd_same) | (with_reducible assumption) | (with_reducible apply upd_new (by assumption)) | (with_reducible apply upd_other (by first | assumption | exact Ne.symm (by assumption))) | (with_reducible refine' Kp.get (by assumption) ?_ (by first | assumption | exact Ne.symm (by assumption))) | (with_reducible apply Same.get (by assumption))); done)))
  | ((with_reducible apply q_bmL); (focus ((repeat first | (with_reducible exact upd_same) | (with_reducible assumption) | (with_reducible apply upd_new (by assumption)) | (with_reducible apply upd_other (by first | assumption | exact Ne.symm (by assumption))) | (with_reducible refine' Kp.get (by assumption) ?_ (by first | assumption | exact Ne.symm (by assumption))) | (with_reducible apply Same.get (by assumption))); done)))
  | ((with_reducible apply q_bmL0); (focus ((repeat first | (with_reducible exact upd_same) | (with_reducible assumption) | (with_reducible apply upd_new (by assumption)) | (with_reducible apply upd_other (by first | assumption | exact Ne.symm (by assumption))) | (with_reducible refine' Kp.get (by assumption) ?_ (by first | assumption | exact Ne.symm (by assumption))) | (with_reducible apply Same.get (by assumption))); done)))
  | ((with_reducible apply q_ixLt); (focus ((repeat first | (with_reducible exact upd_same) | (with_reducible assumption) | (with_reducible apply upd_new (by assumption)) | (with_reducible apply upd_other (by first | assumption | exact Ne.symm (by assumption))) | (with_reducible refine' Kp.get (by assumption) ?_ (by first | assumption | exact Ne.symm (by assumption))) | (with_reducible apply Same.get (by assumption))); done)); (focus (exact rfl)))
  | ((with_reducible apply q_ixTt); (focus ((repeat first | (with_reducible exact upd_same) | (with_reducible assumption) | (with_reducible apply upd_new (by assumption)) | (with_reducible apply upd_other (by first | assumption | exact Ne.symm (by assumption))) | (with_reducible refine' Kp.get (by assumption) ?_ (by first | assumption | exact Ne.symm (by assumption))) | (with_reducible apply Same.get (by assumption))); done)); (focus (exact rfl)))
  | ((with_reducible apply q_lenLt); (focus ((repeat first | (with_reducible exact upd_same) | (with_reducible assumption) | (with_reducible apply upd_new (by assumption)) | (with_reducible apply upd_other (by first | assumption | exact Ne.symm (by assumption))) | (with_reducible refine' Kp.get (by assumption) ?_ (by first | assumption | exact Ne.symm (by assumption))) | (with_reducible apply Same.get (by assumption))); done)))
  | ((with_reducible apply q_lenTt); (focus ((repeat first | (with_reducible exact upd_same) | (with_reducible assumption) | (with_reducible apply upd_new (by assumption)) | (with_reducible apply upd_other (by first | assumption | exact Ne.symm (by assumption))) | (with_reducible refine' Kp.get (by assumption) ?_ (by first | assumption | exact Ne.symm (by assumption))) | (with_reducible apply Same.get (by assumption))); done)))
  | ((with_reducible apply q_append); (focus ((repeat first | (with_reducible exact upd_same) | (with_reducible assumption) | (with_reducible apply upd_new (by assumption)) | (with_reducible apply upd_other (by first | assumption | exact Ne.symm (by assumption))) | (with_reducible refine' Kp.get (by assumption) ?_ (by first | assumption | exact Ne.symm (by assumption))) | (with_reducible apply Same.get (by assumption))); done)); (focus ((first | (exact Nat.lt_of_ble_eq_true rfl) | (simp only [List.length_append, List.length_cons, List.length_nil, List.length_map]; exact small1000 (by omega))))))
  | ((with_reducible apply q_setL); (focus ((repeat first | (with_reducible exact upd_same) | (with_reducible assumption) | (with_reducible apply upd_new (by assumption)) | (with_reducible apply upd_other (by first | assumption | exact Ne.symm (by assumption))) | (with_reducible refine' Kp.get (by assumption) ?_ (by first | assumption | exact Ne.symm (by assumption))) | (with_reducible apply Same.get (by assumption))); done)); (focus (exact rfl)))
  | with_reducible refine q_ifNT ?_
  | with_reducible refine q_ifNF ?_
  | with_reducible refine q_andNT ?_
  | with_reducible refine q_andNF ?_
  | with_reducible refine q_orNT ?_
  | with_reducible refine q_orNF ?_
  | with_reducible refine q_bKNT ?_
  | with_reducible refine q_bKNF ?_
  | with_reducible refine q_tNGet ?_
  | with_reducible refine q_tNIn ?_
  | with_reducible refine q_sNPut ?_
  | with_reducible refine q_sFldAug ?_
  | with_reducible refine q_sDAug ?_
  | with_reducible refine q_sDDel ?_
  | with_reducible refine q_forX ?_
  | with_reducible refine q_tMake ?_
  | ((with_reducible apply q_dG1a); (focus ((repeat first | (with_reducible exact upd_same) | (with_reducible assumption) | (with_reducible apply upd_new (by assumption)) | (with_reducible apply upd_other (by first | assumption | exact Ne.symm (by assumption))) | (with_reducible refine' Kp.get (by assumption) ?_ (by first | assumption | exact Ne.symm (by assumption))) | (with_reducible apply Same.get (by assumption))); done)))))
open TL
/-! written forms: the defs -/
open RT in
theorem walk_revT {K : PySem.W.Frag} {a : Addr} {xs : List V} : Walk (ItvT K a xs.length) xs.length (fun H => SqT K H a xs) (fun i H x H' => H' = H ∧ xs[xs.length - 1 - i]? = some x) :=
  ⟨fun i _ hi q => ⟨hi, xs, xs[xs.length - 1 - i]'(by omega), q, List.getElem?_eq_getElem _⟩, fun _ _ => Nat.le_refl _, fun _ _ _ _ _ q y => ⟨y.1, y.2 _ q⟩⟩
def strL (l : List Nat) : Str := ⟨l.toArray⟩
theorem tl_strL (l : List Nat) : tl (strL l) = l := rfl
theorem strL_tl (s : Str) : strL (tl s) = s := tl_inj (tl_strL _)
theorem tl_len (s : Str) : s.length = (tl s).length := rfl
/-! no number of more than 64 digits -/
mutual
def smallV : NestedKey → Prop
  | .none => True
  | .num i => i.natAbs < 10 ^ 64
  | .text _ => True
  | .tup ks => smallVs ks
def smallVs : List NestedKey → Prop
  | [] => True
  | k :: ks => smallV k ∧ smallVs ks
end
mutual
def siz : NestedKey → Nat
  | .none => 1
  | .num _ => 1
  | .text _ => 1
  | .tup ks => 2 + sizs ks
def sizs : List NestedKey → Nat
  | [] => 0
  | k :: ks => siz k + 1 + sizs ks
end
/-- the parts of a tuple, the next one first -/
def prT : List V → List (V × Bool)
  | [] => []
  | v :: vs => (.str ",", true) :: (v, false) :: prT vs
def pr : List V → List (V × Bool)
  | [] => []
  | v :: vs => (v, false) :: prT vs
theorem prT_eq (vs : List V) : prT vs = if vs = [] then [] else (.str ",", true) :: pr vs := by
  cases vs with
  | nil => rfl
  | cons v vs => rw [if_neg (by intro z; cases z)]; rfl
theorem prT_len (vs : List V) : (prT vs).length = 2 * vs.length := by
  induction vs with
  | nil => rfl
  | cons v vs ih => show (prT vs).length + 1 + 1 = 2 * (vs.length + 1); omega
theorem pr_len (vs : List V) : (pr vs).length ≤ 2 * vs.length := by
  cases vs with
  | nil => exact Nat.le_refl _
  | cons v vs => show (prT vs).length + 1 ≤ 2 * (vs.length + 1); rw [prT_len]; omega
def pB (q : V × Bool) : List V := [q.1, .bl q.2]
/-- what a stack of parts gives, the next one first -/
inductive OutN (H : Hp) : Nat → List (V × Bool) → List Nat → Prop
  | nil : OutN H 0 [] []
  | sign {m : Nat} {M : List (V × Bool)} {o : List Nat} {s : Str} : OutN H m M o → OutN H (m + 1) ((.str s, true) :: M) (tl s ++ o)
  | val {m : Nat} {M : List (V × Bool)} {o : List Nat} {k : NestedKey} {v : V} : OutN H m M o → NV H k v → isV k = true → smallV k → OutN H (m + siz k) ((v, false) :: M) (wrL k ++ o)
theorem OutN.mono {H H' : Hp} {m : Nat} {M : List (V × Bool)} {o : List Nat} (h : OutN H m M o) (e : ∀ b ys, H b = some (.tup ys) → H' b = some (.tup ys)) : OutN H' m M o := by
  induction h with
  | nil => exact .nil
  | sign _ ih => exact .sign ih
  | val _ hn hv hs ih => exact .val ih (NV.mono e hn) hv hs
theorem outT {H : Hp} : ∀ {ks : List NestedKey} {vs : List V} {m : Nat} {M : List (V × Bool)} {o : List Nat}, NVs H ks vs → isVs ks = true → smallVs ks → OutN H m M o → OutN H (m + sizs ks) (prT vs ++ M) (wrTail ks ++ o)
  | _, _, _, _, _, .nil, _, _, h => h
  | _, _, m, M, o, .cons (k := k) (ks := ks) a b, hv, hs, h => by
    have hv' : (isV k && isVs ks) = true := hv
    rw [Bool.and_eq_true] at hv'
    have h2 := OutN.sign (s := ",") (OutN.val (outT b hv'.2 hs.2 h) a hv'.1 hs.1)
    have e : m + sizs (k :: ks) = m + sizs ks + siz k + 1 := by show m + (siz k + 1 + sizs ks) = _; omega
    rw [e]
    have e2 : wrTail (k :: ks) ++ o = tl (Str.ofString ",") ++ (wrL k ++ (wrTail ks ++ o)) := by
      show 44 :: (wrL k ++ wrTail ks) ++ o = [44] ++ (wrL k ++ (wrTail ks ++ o))
      rw [List.cons_append, List.append_assoc]
      rfl
    rw [e2]
    exact h2
theorem outP {H : Hp} {ks : List NestedKey} {vs : List V} {m : Nat} {M : List (V × Bool)} {o : List Nat} (hn : NVs H ks vs) (hv : isVs ks = true) (hs : smallVs ks) (h : OutN H m M o) : ∃ m', m' ≤ m + sizs ks ∧ OutN H m' (pr vs ++ M) (wrsL ks ++ o) := by
  cases hn with
  | nil => exact ⟨m, Nat.le_refl _, h⟩
  | @cons k v ks vs a b =>
    have hv' : (isV k && isVs ks) = true := hv
    rw [Bool.and_eq_true] at hv'
    refine ⟨m + sizs ks + siz k, by show _ ≤ m + (siz k + 1 + sizs ks); omega, ?_⟩
    have e : wrsL (k :: ks) ++ o = wrL k ++ (wrTail ks ++ o) := by show (wrL k ++ wrTail ks) ++ o = _; rw [List.append_assoc]
    rw [e]
    exact OutN.val (outT b hv'.2 hs.2 h) a hv'.1 hs.1
theorem OutN.len {H : Hp} {m : Nat} {M : List (V × Bool)} {o : List Nat} (h : OutN H m M o) : M.length ≤ m := by
  induction h with
  | nil => exact Nat.le_refl _
  | sign _ ih => exact Nat.succ_le_succ ih
  | @val m M o k v _ _ _ _ ih =>
    have : 1 ≤ siz k := by
      cases k <;> first | exact Nat.le_refl _ | (show 1 ≤ 2 + _; omega)
    show M.length + 1 ≤ m + siz k
    omega
def sp_dig : Sp := fun vs H Q _ => ∃ n : Nat, vs = [.int n] ∧ n < 10 ^ 64 ∧ Q (.str (strL (numL n))) H
def sp_wint : Sp := fun vs H Q _ => ∃ i : Int, vs = [.int i] ∧ i.natAbs < 10 ^ 64 ∧ Q (.str (strL (intL i))) H
def sp_parted : Sp := fun vs H Q _ => ∃ (b : Addr) (xs : List V), vs = [.ref b] ∧ H b = some (.tup xs) ∧ xs.length ≤ 1000000 ∧ ∀ (p : Addr) (H' : Hp) (ys : List V), H p = none → Same H H' → H' p = some (.lst ys) → RowsAt pB H' ys (pr xs).reverse → Q (.ref p) H'
def sp_write (K : PySem.W.Frag) : Sp := fun vs H Q _ => ∃ (v : V) (k : NestedKey), vs = [v] ∧ NV H k v ∧ isV k = true ∧ smallV k ∧ (wrL k).length ≤ 1000000 ∧ siz k ≤ 1000000 ∧ ∀ H', Same H H' → Q (.str (strL (wrL k))) H'
theorem log_lt {n : Nat} (h : n < 10 ^ 64) : n.log2 < 1920 := by
  by_cases h0 : n = 0
  · rw [h0]; decide
  · rw [Nat.log2_lt h0]
    exact Nat.lt_of_lt_of_le h (by decide +kernel)
section
variable {P : Program} {w : World} {K : PySem.W.Frag} {mg : Str → Option Value} {base : Heap}
theorem ok_digits_of (T : Txt K mg) : FnOk P w K mg base CX0 1 T.f_digits_of T.d_digits_of ["number"] sp_dig := by
  refine T.F_digits_of.ok sc_digits_of (fun vs H Q E h => ?_) (fun cdv A outer s H vs Q E hr h => ?_)
  · obtain ⟨n, rfl, _⟩ := h; rfl
  · obtain ⟨n, rfl, hn, k⟩ := h
    refine ⟨_, (pss_cons (ps_if (pt_cmpR op_lt (pv 0) (pe_glob (v := .int 10000000000000000000000000000000000000000000000000000000000000000) (by rfl) T.c_PIECE ⟨_, rfl⟩) (nomark _)) (pss_one (ps_ret (pe_callTy cq_strInt (by rfl) T.z_str boot_str (pa_cons (pv 0) pa_nil)))) pss_nil)
      (pss_cons ps_never
      (pss_cons ps_never
      (pss_cons ps_never
      (pss_cons ps_never
      (pss_cons ps_never
      (pss_cons ps_never
      (pss_one ps_never)))))))), ?_⟩
    (dsimp only [cxOf, Cx.nox, Cx.wish, L2.start, List.map, List.length, List.replicate, List.cons_append, List.nil_append, List.append_eq, Nat.reduceSub, Nat.reduceAdd])
    have hP : (n : Int) < 10000000000000000000000000000000000000000000000000000000000000000 := by
      have e : (10 : Nat) ^ 64 = 10000000000000000000000000000000000000000000000000000000000000000 := by decide +kernel
      rw [e] at hn
      omega
    generalize (10000000000000000000000000000000000000000000000000000000000000000 : Int) = PP at hP ⊢
    walk_at "my_rd"
    rw [decide_eq_true hP]
    walk_at "my_rd"
    refine q_strInt (by show n.log2 < 1920; exact log_lt hn) ?_
    walk_at "my_rd"
    have e2 : Str.ofString (toString (n : Int)) = strL (numL n) := tl_inj (tl_num n)
    rw [e2]
    exact k
theorem ok_written_integer (T : Txt K mg) : FnOk P w K mg base CX0 2 T.f_written_integer T.d_written_integer ["number"] sp_wint := by
  refine T.F_written_integer.ok sc_written_integer (fun vs H Q E h => ?_) (fun cdv A outer s H vs Q E hr h => ?_)
  · obtain ⟨n, rfl, _⟩ := h; rfl
  · obtain ⟨i, rfl, hn, k⟩ := h
    refine ⟨_, (pss_cons (ps_set (i := 1) sc_written_integer.nd rfl (Or.inl rfl) (pe_ifExp (pt_cmpR op_lt (pv 0) pe_int (nomark _)) pe_str pe_str))
      (pss_one (ps_ret (pe_op oq_addStr (pv 1) (pe_call (ok_digits_of T) (hr.mono (by decide)) (by rfl) T.g_digits_of T.F_digits_of.kp T.b_digits_of .nil pass0 (pa_cons (pe_callB cq_abs (by rfl) T.z_abs boot_abs (pa_cons (pv 0) pa_nil)) pa_nil)))))), ?_⟩
    (dsimp only [cxOf, Cx.nox, Cx.wish, L2.start, List.map, List.length, List.replicate, List.cons_append, List.nil_append, List.append_eq, Nat.reduceSub, Nat.reduceAdd])
    walk_at "my_rd"
    have hl : (strL (numL i.natAbs)).length ≤ 65 := by
      show (numL i.natAbs).length ≤ 65
      unfold numL
      rw [List.length_map]
      exact Nat.le_trans (PyProof.Rows.digits10_le (k := 64) (by decide) hn) (by decide)
    have hs : sizeLine = 16777216 := sizeLine_eq
    refine q_ifE2 (fun h => ?_) (fun h => ?_)
    · have h := dec_t h
      walk_at "my_rd"
      rw [if_pos h]
      refine ⟨i.natAbs, by rw [show -i = (i.natAbs : Int) by omega], hn, ?_⟩
      refine q_addStr (by show 1 + _ ≤ _; omega) ?_
      walk_at "my_rd"
      have e : Str.ofString "-" ++ strL (numL i.natAbs) = strL (intL i) := tl_inj (by rw [tl_append]; unfold intL; rw [if_pos h]; rfl)
      rw [e]
      exact k
    · have h := dec_f h
      walk_at "my_rd"
      rw [if_neg h]
      refine ⟨i.natAbs, by rw [show i = (i.natAbs : Int) by omega]; rfl, hn, ?_⟩
      refine q_addStr (by show 0 + _ ≤ _; omega) ?_
      walk_at "my_rd"
      have e : Str.ofString "" ++ strL (numL i.natAbs) = strL (intL i) := tl_inj (by rw [tl_append]; unfold intL; rw [if_neg h]; rfl)
      rw [e]
      exact k
end

local macro_rules | `(tactic| walk_at "my_rd") => `(tactic| (repeat first
  | with_reducible refine q_tCons ?_
  | ((with_reducible apply q_var); (focus (exact rfl)))
  | with_reducible refine q_c ?_
  | with_reducible refine q_nx ?_
  | with_reducible refine q_bK ?_
  | with_reducible refine q_call ?_
  | with_reducible refine q_callK ?_
  | with_reducible refine q_tNil ?_
  | with_reducible refine q_cb ?_
  | with_reducible refine q_seq ?_
  | with_reducible refine q_asg ?_
  | with_reducible refine q_gName ?_
  | with_reducible refine q_op ?_
  | with_reducible refine q_test ?_
  | with_reducible refine q_tB ?_
  | with_reducible refine q_ifS ?_
  | with_reducible refine q_ret ?_
  | with_reducible refine q_rt ?_
  | with_reducible refine q_next ?_
  | with_reducible refine q_ifF ?_
  | with_reducible refine q_ifT ?_
  | with_reducible refine q_drop ?_
  | with_reducible refine q_and ?_
  | with_reducible refine q_or ?_
  | with_reducible refine q_andT ?_
  | with_reducible refine q_andF ?_
  | with_reducible refine q_orF ?_
  | with_reducible refine q_orT ?_
  | with_reducible refine q_andV ?_
  | with_reducible refine q_andVT ?_
  | with_reducible refine q_andVF ?_
  | with_reducible refine q_orV ?_
  | with_reducible refine q_gCons ?_
  | with_reducible refine q_gNil ?_
  | with_reducible refine q_tup ?_
  | with_reducible refine q_lst ?_
  | with_reducible refine q_not ?_
  | with_reducible refine q_notKT ?_
  | with_reducible refine q_notKF ?_
  | with_reducible refine q_I0 ?_
  | with_reducible refine q_eqI ?_
  | with_reducible refine q_neI ?_
  | ((with_reducible refine q_I ?_ ?_); first | decide | omega | exact ⟨by omega, by omega⟩ | exact ⟨by decide, by decide⟩ | exact .inl ⟨by omega, by omega⟩ | exact .inr ⟨by omega, by omega⟩ | exact .inr ⟨by decide, by decide⟩)
  | with_reducible refine q_eqS ?_
  | with_reducible refine q_neS ?_
  | with_reducible refine q_brk ?_
  | with_reducible refine q_ct ?_
  | with_reducible refine q_bk ?_
  | with_reducible refine q_cn ?_
  | with_reducible refine q_retN ?_
  | with_reducible refine q_gSub ?_
  | with_reducible refine q_for ?_
  | with_reducible refine q_iList ?_
  | with_reducible refine q_iTup ?_
  | with_reducible refine q_iRng1 ?_
  | with_reducible refine q_notK ?_
  | with_reducible refine q_orVT ?_
  | with_reducible refine q_orVF ?_
  | with_reducible refine q_notV ?_
  | with_reducible refine q_notVK ?_
  | with_reducible refine q_ifE ?_
  | with_reducible refine q_ifET ?_
  | with_reducible refine q_ifEF ?_
  | with_reducible refine q_yes ?_
  | with_reducible refine q_un ?_
  | with_reducible refine q_rU ?_
  | with_reducible refine q_abs ?_
  | with_reducible refine q_int1 ?_
  | with_reducible refine q_bm ?_
  | with_reducible refine q_bm0 ?_
  | with_reducible refine q_lc ?_
  | with_reducible refine q_keepT ?_
  | with_reducible refine q_keepF ?_
  | ((with_reducible apply q_aug); (focus (exact rfl)))
  | with_reducible refine q_ipI ?_
  | with_reducible refine q_chain ?_
  | with_reducible refine q_pairC ?_
  | with_reducible refine q_pairsK ?_
  | with_reducible refine q_pairN ?_
  | with_reducible refine q_fld ?_
  | with_reducible refine q_sFld ?_
  | with_reducible refine q_meth ?_
  | with_reducible refine q_makeK ?_
  | with_reducible refine q_isBl ?_
  | with_reducible refine q_notBl ?_
  | with_reducible refine q_sl ?_
  | with_reducible refine q_noPart ?_
  | with_reducible refine q_part ?_
  | with_reducible refine q_partK ?_
  | ((with_reducible apply q_mulStr); (focus (decide +kernel)))
  | with_reducible refine q_chT ?_
  | with_reducible refine q_chF ?_
  | with_reducible refine q_ord ?_
  | with_reducible refine q_iStr0 ?_
  | with_reducible refine q_iStr ?_
  | with_reducible refine q_tDIn ?_
  | with_reducible refine q_tDNotIn ?_
  | with_reducible refine q_tDGet ?_
  | with_reducible refine q_tDGet2 ?_
  | with_reducible refine q_tDGet1 ?_
  | with_reducible refine q_tDSetd ?_
  | ((with_reducible apply q_dG2a); (focus ((repeat first | (with_reducible exact upd_same) | (with_reducible assumption) | (with_reducible apply upd_new (by assumption)) | (with_reducible apply upd_other (by first | assumption | exact Ne.symm (by assumption))) | (with_reducible refine' Kp.get (by assumption) ?_ (by first | assumption | exact Ne.symm (by assumption))) | (with_reducible apply Same.get (by assumption))); done)))
  | ((with_reducible apply q_dSda); (focus ((repeat first | (with_reducible exact upd_same) | (with_reducible assumption) | (with_reducible apply upd_new (by assumption)) | (with_reducible apply upd_other (by first | assumption | exact Ne.symm (by assumption))) | (with_reducible refine' Kp.get (by assumption) ?_ (by first | assumption | exact Ne.symm (by assumption))) | (with_reducible apply Same.get (by assumption))); done)))
  | with_reducible refine q_sDPut ?_
  | ((with_reducible apply q_dInS); (focus ((repeat first | (with_reducible exact upd_same) | (with_reducible assumption) | (with_reducible apply upd_new (by assumption)) | (with_reducible apply upd_other (by first | assumption | exact Ne.symm (by assumption))) | (with_reducible refine' Kp.get (by assumption) ?_ (by first | assumption | exact Ne.symm (by assumption))) | (with_reducible apply Same.get (by assumption))); done)))
  | ((with_reducible apply q_dNInS); (focus ((repeat first | (with_reducible exact upd_same) | (with_reducible assumption) | (with_reducible apply upd_new (by assumption)) | (with_reducible apply upd_other (by first | assumption | exact Ne.symm (by assumption))) | (with_reducible refine' Kp.get (by assumption) ?_ (by first | assumption | exact Ne.symm (by assumption))) | (with_reducible apply Same.get (by assumption))); done)))
  | ((with_reducible apply q_dInI); (focus ((repeat first | (with_reducible exact upd_same) | (with_reducible assumption) | (with_reducible apply upd_new (by assumption)) | (with_reducible apply upd_other (by first | assumption | exact Ne.symm (by assumption))) | (with_reducible refine' Kp.get (by assumption) ?_ (by first | assumption | exact Ne.symm (by assumption))) | (with_reducible apply Same.get (by assumption))); done)))
  | ((with_reducible apply q_dNInI); (focus ((repeat first | (with_reducible exact upd_same) | (with_reducible assumption) | (with_reducible apply upd_new (by assumption)) | (with_reducible apply upd_other (by first | assumption | exact Ne.symm (by assumption))) | (with_reducible refine' Kp.get (by assumption) ?_ (by first | assumption | exact Ne.symm (by assumption))) | (with_reducible apply Same.get (by assumption))); done)))
  | ((with_reducible apply q_bmL); (focus ((repeat first | (with_reducible exact upd_same) | (with_reducible assumption) | (with_reducible apply upd_new (by assumption)) | (with_reducible apply upd_other (by first | assumption | exact Ne.symm (by assumption))) | (with_reducible refine' Kp.get (by assumption) ?_ (by first | assumption | exact Ne.symm (by assumption))) | (with_reducible apply Same.get (by assumption))); done)))
  | ((with_reducible apply q_bmL0); (focus ((repeat first | (with_reducible exact upd_same) | (with_reducible assumption) | (with_reducible apply upd_new (by assumption)) | (with_reducible apply upd_other (by first | assumption | exact Ne.symm (by assumption))) | (with_reducible refine' Kp.get (by assumption) ?_ (by first | assumption | exact Ne.symm (by assumption))) | (with_reducible apply Same.get (by assumption))); done)))
  | ((with_reducible apply q_ixLt); (focus ((repeat first | (with_reducible exact upd_same) | (with_reducible assumption) | (with_reducible apply upd_new (by assumption)) | (with_reducible apply upd_other (by first | assumption | exact Ne.symm (by assumption))) | (with_reducible refine' Kp.get (by assumption) ?_ (by first | assumption | exact Ne.symm (by assumption))) | (with_reducible apply Same.get (by assumption))); done)); (focus (exact rfl)))
  | ((with_reducible apply q_ixTt); (focus ((repeat first | (with_reducible exact upd_same) | (with_reducible assumption) | (with_reducible apply upd_new (by assumption)) | (with_reducible apply upd_other (by first | assumption | exact Ne.symm (by assumption))) | (with_reducible refine' Kp.get (by assumption) ?_ (by first | assumption | exact Ne.symm (by assumption))) | (with_reducible apply Same.get (by assumption))); done)); (focus (exact rfl)))
  | ((with_reducible apply q_lenLt); (focus ((repeat first | (with_reducible exact upd_same) | (with_reducible assumption) | (with_reducible apply upd_new (by assumption)) | (with_reducible apply upd_other (by first | assumption | exact Ne.symm (by assumption))) | (with_reducible refine' Kp.get (by assumption) ?_ (by first | assumption | exact Ne.symm (by assumption))) | (with_reducible apply Same.get (by assumption))); done)))
  | ((with_reducible apply q_lenTt); (focus ((repeat first | (with_reducible exact upd_same) | (with_reducible assumption) | (with_reducible apply upd_new (by assumption)) | (with_reducible apply upd_other (by first | assumption | exact Ne.symm (by assumption))) | (with_reducible refine' Kp.get (by assumption) ?_ (by first | assumption | exact Ne.symm (by assumption))) | (with_reducible apply Same.get (by assumption))); done)))
  | ((with_reducible apply q_append); (focus ((repeat first | (with_reducible exact upd_same) | (with_reducible assumption) | (with_reducible apply upd_new (by assumption)) | (with_reducible apply upd_other (by first | assumption | exact Ne.symm (by assumption))) | (with_reducible refine' Kp.get (by assumption) ?_ (by first | assumption | exact Ne.symm (by assumption))) | (with_reducible apply Same.get (by assumption))); done)); (focus ((first | (exact Nat.lt_of_ble_eq_true rfl) | (simp only [List.length_append, List.length_cons, List.length_nil, List.length_map]; exact small1000 (by omega))))))
  | ((with_reducible apply q_setL); (focus ((repeat first | (with_reducible exact upd_same) | (with_reducible assumption) | (with_reducible apply upd_new (by assumption)) | (with_reducible apply upd_other (by first | assumption | exact Ne.symm (by assumption))) | (with_reducible refine' Kp.get (by assumption) ?_ (by first | assumption | exact Ne.symm (by assumption))) | (with_reducible apply Same.get (by assumption))); done)); (focus (exact rfl)))
  | with_reducible refine q_ifNT ?_
  | with_reducible refine q_ifNF ?_
  | with_reducible refine q_andNT ?_
  | with_reducible refine q_andNF ?_
  | with_reducible refine q_orNT ?_
  | with_reducible refine q_orNF ?_
  | with_reducible refine q_bKNT ?_
  | with_reducible refine q_bKNF ?_
  | with_reducible refine q_tNGet ?_
  | with_reducible refine q_tNIn ?_
  | with_reducible refine q_sNPut ?_
  | with_reducible refine q_sFldAug ?_
  | with_reducible refine q_sDAug ?_
  | with_reducible refine q_sDDel ?_
  | with_reducible refine q_forX ?_
  | with_reducible refine q_tMake ?_
  | ((with_reducible apply q_dG1a); (focus ((repeat first | (with_reducible exact upd_same) | (with_reducible assumption) | (with_reducible apply upd_new (by assumption)) | (with_reducible apply upd_other (by first | assumption | exact Ne.symm (by assumption))) | (with_reducible refine' Kp.get (by assumption) ?_ (by first | assumption | exact Ne.symm (by assumption))) | (with_reducible apply Same.get (by assumption))); done)))))
open TL
/-! a tuple's parts -/
theorem drop_step {xs : List V} {i : Nat} {x : V} (hi : i < xs.length) (hx : xs[xs.length - 1 - i]? = some x) : xs.drop (xs.length - (i + 1)) = x :: xs.drop (xs.length - i) := by
  have h1 : xs.length - (i + 1) < xs.length := by omega
  rw [List.drop_eq_getElem_cons h1, show xs.length - (i + 1) + 1 = xs.length - i by omega]
  congr 1
  have : xs[xs.length - (i + 1)]? = some x := by rw [← hx]; congr 1; omega
  exact (List.getElem?_eq_some_iff.mp this).2
section
variable {P : Program} {w : World} {K : PySem.W.Frag} {mg : Str → Option Value} {base : Heap}
theorem ok_parted (T : Txt K mg) : FnOk P w K mg base CX0 1 T.f_parted T.d_parted ["parts"] sp_parted := by
  refine T.F_parted.ok sc_parted (fun vs H Q E h => ?_) (fun cdv A outer s H vs Q E hr h => ?_)
  · obtain ⟨b, xs, rfl, _⟩ := h; rfl
  · obtain ⟨b, xs, rfl, hb, hl, k⟩ := h
    refine ⟨_, (pss_cons (ps_set (i := 1) sc_parted.nd rfl (Or.inl rfl) (pe_lst pa_nil))
      (pss_cons (ps_for PassesOwn.never rfl (RT.pi_revA (by rfl) T.z_reversed (pv 0)) (pg_name (i := 2) sc_parted.nd rfl (Or.inl rfl))
        (pss_cons (ps_if (pt_truth (pv 1) (by intro _; rfl)) (pss_one (ps_expr (pe_bm PySem.F.plainAttrs_list PySem.F.slot_list_append PySem.F.type_list_append mt_append (pv 1) (pa_cons (pe_tup (pa_cons pe_str (pa_cons pe_bl pa_nil))) pa_nil)))) pss_nil)
      (pss_one (ps_expr (pe_bm PySem.F.plainAttrs_list PySem.F.slot_list_append PySem.F.type_list_append mt_append (pv 1) (pa_cons (pe_tup (pa_cons (pv 2) (pa_cons pe_bl pa_nil))) pa_nil))))))
      (pss_one (ps_ret (pv 1))))), ?_⟩
    (dsimp only [cxOf, Cx.nox, Cx.wish, L2.start, List.map, List.length, List.replicate, List.cons_append, List.nil_append, List.append_eq, Nat.reduceSub, Nat.reduceAdd])
    walk_at "my_rd"
    refine q_lstK (Nat.le_of_ble_eq_true rfl) fun p np => ?_
    walk_at "my_rd"
    have np' := np
    have hb0 := upd_new (w := .lst []) np hb
    have sm0 : Same H (upd H p (.lst [])) := Same.up (Same.refl _) np
    have hp0 : upd H p (.lst []) p = some (.lst []) := upd_same
    generalize upd H p (.lst []) = H0 at hb0 sm0 hp0
    unfold RT.iRevA
    refine q_var (v := .ref b) rfl ⟨b, xs, rfl, .inr ⟨sqT hb0, ?_⟩⟩
    refine for_it walk_revT (fun i σ H' => ∃ (ys : List V) (v : Option V), σ = [some (.ref b), some (.ref p), v] ∧ Same H H' ∧ H' p = some (.lst ys) ∧ RowsAt pB H' ys (pr (xs.drop (xs.length - i))).reverse)
      ⟨[], _, rfl, sm0, hp0, by rw [Nat.sub_zero, List.drop_length]; exact .nil⟩ (fun i σ H' _ ⟨_, _, _, sm, _⟩ => sqT (sm _ _ hb)) ?_ ?_
    · rintro i x σ H' H2 hi ⟨ys, v, rfl, sm, hp, hR⟩ ⟨rfl, hx⟩
      have hd := drop_step hi hx
      have hlen : ys.length ≤ 2 * i := by
        have h1 := hR.len
        have h2 := pr_len (xs.drop (xs.length - i))
        rw [List.length_reverse] at h1
        rw [List.length_drop] at h2
        omega
      have hsl : sizeLine = 16777216 := sizeLine_eq
      walk_at "my_rd"
      refine ⟨_, .inl ⟨_, sqL hp, rfl⟩, ?_⟩
      rw [hd]
      generalize xs.drop (xs.length - i) = rest at hR hd
      cases hys : ys with
      | nil =>
        subst hys
        have hrest : rest = [] := by
          have h1 := hR.len
          cases rest with
          | nil => rfl
          | cons a r => simp [pr] at h1
        subst hrest
        refine q_ifF ?_
        walk_at "my_rd"
        refine q_tupK (Nat.le_of_ble_eq_true rfl) fun t nt => ?_
        walk_at "my_rd"
        have tp : t ≠ p := (ne_of_none hp nt).symm
        exact ⟨_, _, rfl, Same.new (Same.up sm nt) np', upd_same, RowsAt.snoc (rs := []) .nil (upd_other tp upd_same)⟩
      | cons y0 yr =>
        have hne : rest ≠ [] := by
          intro e
          subst e
          have h1 := hR.len
          rw [hys] at h1
          simp [pr] at h1
        have eP : (pr (x :: rest)).reverse = ((pr rest).reverse ++ [(.str ",", true)]) ++ [(x, false)] := by
          show ((x, false) :: prT rest).reverse = _
          rw [prT_eq, if_neg hne, List.reverse_cons, List.reverse_cons]
        rw [eP]
        rw [← hys]
        rw [← hys] at hys
        have e1 : (!ys.isEmpty) = true := by
          have h1 := hR.len
          cases ys with
          | nil =>
            rw [List.length_reverse] at h1
            cases rest with
            | nil => exact absurd rfl hne
            | cons a r => simp [pr] at h1
          | cons _ _ => rfl
        rw [e1]
        refine q_ifT ?_
        walk_at "my_rd"
        refine q_tupK (Nat.le_of_ble_eq_true rfl) fun t nt => ?_
        walk_at "my_rd"
        have tp : t ≠ p := (ne_of_none hp nt).symm
        refine q_append (upd_new nt hp) (by omega) ?_
        have sm1 : Same H (upd (upd H2 t (.tup [.str ",", .bl true])) p (.lst (ys ++ [.ref t]))) := Same.new (Same.up sm nt) np'
        have hp1 : upd (upd H2 t (.tup [.str ",", .bl true])) p (.lst (ys ++ [.ref t])) p = some (.lst (ys ++ [.ref t])) := upd_same
        have hR1 : RowsAt pB (upd (upd H2 t (.tup [.str ",", .bl true])) p (.lst (ys ++ [.ref t]))) (ys ++ [.ref t]) ((pr rest).reverse ++ [(.str ",", true)]) :=
          RowsAt.snoc (hR.mono fun b ys q => upd_other (ne_of q hp (by intro z; cases z)) (upd_new nt q)) (upd_other tp upd_same)
        generalize upd (upd H2 t (.tup [.str ",", .bl true])) p (.lst (ys ++ [.ref t])) = H3 at sm1 hp1 hR1
        walk_at "my_rd"
        refine q_tupK (Nat.le_of_ble_eq_true rfl) fun u nu => ?_
        walk_at "my_rd"
        have up : u ≠ p := (ne_of_none hp1 nu).symm
        refine q_append (upd_new nu hp1) (by rw [List.length_append]; show ys.length + 1 < _; omega) ?_
        walk_at "my_rd"
        exact ⟨_, _, rfl, Same.new (Same.up sm1 nu) np', upd_same, RowsAt.snoc (hR1.mono fun b ys q => upd_other (ne_of q hp1 (by intro z; cases z)) (upd_new nu q)) (upd_other up upd_same)⟩
    · rintro σ H' ⟨ys, v, rfl, sm, hp, hR⟩
      rw [Nat.sub_self, List.drop_zero] at hR
      walk_at "my_rd"
      exact k p H' ys np' sm hp hR
end

local macro_rules | `(tactic| walk_at "my_rd") => `(tactic| (repeat first
  | with_reducible refine q_tCons ?_
  | ((with_reducible apply q_var); (focus (exact rfl)))
  | with_reducible refine q_c ?_
  | with_reducible refine q_nx ?_
  | with_reducible refine q_bK ?_
  | with_reducible refine q_call ?_
  | with_reducible refine q_callK ?_
  | with_reducible refine q_tNil ?_
  | with_reducible refine q_cb ?_
  | with_reducible refine q_seq ?_
  | with_reducible refine q_asg ?_
  | with_reducible refine q_gName ?_
  | with_reducible refine q_op ?_
  | with_reducible refine q_test ?_
  | with_reducible refine q_tB ?_
  | with_reducible refine q_ifS ?_
  | with_reducible refine q_ret ?_
  | with_reducible refine q_rt ?_
  | with_reducible refine q_next ?_
  | with_reducible refine q_ifF ?_
  | with_reducible refine q_ifT ?_
  | with_reducible refine q_drop ?_
  | with_reducible refine q_and ?_
  | with_reducible refine q_or ?_
  | with_reducible refine q_andT ?_
  | with_reducible refine q_andF ?_
  | with_reducible refine q_orF ?_
  | with_reducible refine q_orT ?_
  | with_reducible refine q_andV ?_
  | with_reducible refine q_andVT ?_
  | with_reducible refine q_andVF ?_
  | with_reducible refine q_orV ?_
  | with_reducible refine q_gCons ?_
  | with_reducible refine q_gNil ?_
  | with_reducible refine q_tup ?_
  | with_reducible refine q_lst ?_
  | with_reducible refine q_not ?_
  | with_reducible refine q_notKT ?_
  | with_reducible refine q_notKF ?_
  | with_reducible refine q_I0 ?_
  | with_reducible refine q_eqI ?_
  | with_reducible refine q_neI ?_
  | ((with_reducible refine q_I ?_ ?_); first | decide | omega | exact ⟨by omega, by omega⟩ | exact ⟨by decide, by decide⟩ | exact .inl ⟨by omega, by omega⟩ | exact .inr ⟨by omega, by omega⟩ | exact .inr ⟨by decide, by decide⟩)
  | with_reducible refine q_eqS ?_
  | with_reducible refine q_neS ?_
  | with_reducible refine q_brk ?_
  | with_reducible refine q_ct ?_
  | with_reducible refine q_bk ?_
  | with_reducible refine q_cn ?_
  | with_reducible refine q_retN ?_
  | with_reducible refine q_gSub ?_
  | with_reducible refine q_for ?_
  | with_reducible refine q_iList ?_
  | with_reducible refine q_iTup ?_
  | with_reducible refine q_iRng1 ?_
  | with_reducible refine q_notK ?_
  | with_reducible refine q_orVT ?_
  | with_reducible refine q_orVF ?_
  | with_reducible refine q_notV ?_
  | with_reducible refine q_notVK ?_
  | with_reducible refine q_ifE ?_
  | with_reducible refine q_ifET ?_
  | with_reducible refine q_ifEF ?_
  | with_reducible refine q_yes ?_
  | with_reducible refine q_un ?_
  | with_reducible refine q_rU ?_
  | with_reducible refine q_abs ?_
  | with_reducible refine q_int1 ?_
  | with_reducible refine q_bm ?_
  | with_reducible refine q_bm0 ?_
  | with_reducible refine q_lc ?_
  | with_reducible refine q_keepT ?_
  | with_reducible refine q_keepF ?_
  | ((with_reducible apply q_aug); (focus (exact rfl)))
  | with_reducible refine q_ipI ?_
  | with_reducible refine q_chain ?_
  | with_reducible refine q_pairC ?_
  | with_reducible refine q_pairsK ?_
  | with_reducible refine q_pairN ?_
  | with_reducible refine q_fld ?_
  | with_reducible refine q_sFld ?_
  | with_reducible refine q_meth ?_
  | with_reducible refine q_makeK ?_
  | with_reducible refine q_isBl ?_
  | with_reducible refine q_notBl ?_
  | with_reducible refine q_sl ?_
  | with_reducible refine q_noPart ?_
  | with_reducible refine q_part ?_
  | with_reducible refine q_partK ?_
  | ((with_reducible apply q_mulStr); (focus (decide +kernel)))
  | with_reducible refine q_chT ?_
  | with_reducible refine q_chF ?_
  | with_reducible refine q_ord ?_
  | with_reducible refine q_iStr0 ?_
  | with_reducible refine q_iStr ?_
  | with_reducible refine q_tDIn ?_
  | with_reducible refine q_tDNotIn ?_
  | with_reducible refine q_tDGet ?_
  | with_reducible refine q_tDGet2 ?_
  | with_reducible refine q_tDGet1 ?_
  | with_reducible refine q_tDSetd ?_
  | ((with_reducible apply q_dG2a); (focus ((repeat first | (with_reducible exact upd_same) | (with_reducible assumption) | (with_reducible apply upd_new (by assumption)) | (with_reducible apply upd_other (by first | assumption | exact Ne.symm (by assumption))) | (with_reducible refine' Kp.get (by assumption) ?_ (by first | assumption | exact Ne.symm (by assumption))) | (with_reducible apply Same.get (by assumption))); done)))
  | ((with_reducible apply q_dSda); (focus ((repeat first | (with_reducible exact upd_same) | (with_reducible assumption) | (with_reducible apply upd_new (by assumption)) | (with_reducible apply upd_other (by first | assumption | exact Ne.symm (by assumption))) | (with_reducible refine' Kp.get (by assumption) ?_ (by first | assumption | exact Ne.symm (by assumption))) | (with_reducible apply Same.get (by assumption))); done)))
  | with_reducible refine q_sDPut ?_
  | ((with_reducible apply q_dInS); (focus ((repeat first | (with_reducible exact upd_same) | (with_reducible assumption) | (with_reducible apply upd_new (by assumption)) | (with_reducible apply upd_other (by first | assumption | exact Ne.symm (by assumption))) | (with_reducible refine' Kp.get (by assumption) ?_ (by first | assumption | exact Ne.symm (by assumption))) | (with_reducible apply Same.get (by assumption))); done)))
  | ((with_reducible apply q_dNInS); (focus ((repeat first | (with_reducible exact upd_same) | (with_reducible assumption) | (with_reducible apply upd_new (by assumption)) | (with_reducible apply upd_other (by first | assumption | exact Ne.symm (by assumption))) | (with_reducible refine' Kp.get (by assumption) ?_ (by first | assumption | exact Ne.symm (by assumption))) | (with_reducible apply Same.get (by assumption))); done)))
  | ((with_reducible apply q_dInI); (focus ((repeat first | (with_reducible exact upd_same) | (with_reducible assumption) | (with_reducible apply upd_new (by assumption)) | (with_reducible apply upd_other (by first | assumption | exact Ne.symm (by assumption))) | (with_reducible refine' Kp.get (by assumption) ?_ (by first | assumption | exact Ne.symm (by assumption))) | (with_reducible apply Same.get (by assumption))); done)))
  | ((with_reducible apply q_dNInI); (focus ((repeat first | (with_reducible exact upd_same) | (with_reducible assumption) | (with_reducible apply upd_new (by assumption)) | (with_reducible apply upd_other (by first | assumption | exact Ne.symm (by assumption))) | (with_reducible refine' Kp.get (by assumption) ?_ (by first | assumption | exact Ne.symm (by assumption))) | (with_reducible apply Same.get (by assumption))); done)))
  | ((with_reducible apply q_bmL); (focus ((repeat first | (with_reducible exact upd_same) | (with_reducible assumption) | (with_reducible apply upd_new (by assumption)) | (with_reducible apply upd_other (by first | assumption | exact Ne.symm (by assumption))) | (with_reducible refine' Kp.get (by assumption) ?_ (by first | assumption | exact Ne.symm (by assumption))) | (with_reducible apply Same.get (by assumption))); done)))
  | ((with_reducible apply q_bmL0); (focus ((repeat first | (with_reducible exact upd_same) | (with_reducible assumption) | (with_reducible apply upd_new (by assumption)) | (with_reducible apply upd_other (by first | assumption | exact Ne.symm (by assumption))) | (with_reducible refine' Kp.get (by assumption) ?_ (by first | assumption | exact Ne.symm (by assumption))) | (with_reducible apply Same.get (by assumption))); done)))
  | ((with_reducible apply q_ixLt); (focus ((repeat first | (with_reducible exact upd_same) | (with_reducible assumption) | (with_reducible apply upd_new (by assumption)) | (with_reducible apply upd_other (by first | assumption | exact Ne.symm (by assumption))) | (with_reducible refine' Kp.get (by assumption) ?_ (by first | assumption | exact Ne.symm (by assumption))) | (with_reducible apply Same.get (by assumption))); done)); (focus (exact rfl)))
  | ((with_reducible apply q_ixTt); (focus ((repeat first | (with_reducible exact upd_same) | (with_reducible assumption) | (with_reducible apply upd_new (by assumption)) | (with_reducible apply upd_other (by first | assumption | exact Ne.symm (by assumption))) | (with_reducible refine' Kp.get (by assumption) ?_ (by first | assumption | exact Ne.symm (by assumption))) | (with_reducible apply Same.get (by assumption))); done)); (focus (exact rfl)))
  | ((with_reducible apply q_lenLt); (focus ((repeat first | (with_reducible exact upd_same) | (with_reducible assumption) | (with_reducible apply upd_new (by assumption)) | (with_reducible apply upd_other (by first | assumption | exact Ne.symm (by assumption))) | (with_reducible refine' Kp.get (by assumption) ?_ (by first | assumption | exact Ne.symm (by assumption))) | (with_reducible apply Same.get (by assumption))); done)))
  | ((with_reducible apply q_lenTt); (focus ((repeat first | (with_reducible exact upd_same) | (with_reducible assumption) | (with_reducible apply upd_new (by assumption)) | (with_reducible apply upd_other (by first | assumption | exact Ne.symm (by assumption))) | (with_reducible refine' Kp.get (by assumption) ?_ (by first | assumption | exact Ne.symm (by assumption))) | (with_reducible apply Same.get (by assumption))); done)))
  | ((with_reducible apply q_append); (focus ((repeat first | (with_reducible exact upd_same) | (with_reducible assumption) | (with_reducible apply upd_new (by assumption)) | (with_reducible apply upd_other (by first | assumption | exact Ne.symm (by assumption))) | (with_reducible refine' Kp.get (by assumption) ?_ (by first | assumption | exact Ne.symm (by assumption))) | (with_reducible apply Same.get (by assumption))); done)); (focus ((first | (exact Nat.lt_of_ble_eq_true rfl) | (simp only [List.length_append, List.length_cons, List.length_nil, List.length_map]; exact small1000 (by omega))))))
  | ((with_reducible apply q_setL); (focus ((repeat first | (with_reducible exact upd_same) | (with_reducible assumption) | (with_reducible apply upd_new (by assumption)) | (with_reducible apply upd_other (by first | assumption | exact Ne.symm (by assumption))) | (with_reducible refine' Kp.get (by assumption) ?_ (by first | assumption | exact Ne.symm (by assumption))) | (with_reducible apply Same.get (by assumption))); done)); (focus (exact rfl)))
  | with_reducible refine q_ifNT ?_
  | with_reducible refine q_ifNF ?_
  | with_reducible refine q_andNT ?_
  | with_reducible refine q_andNF ?_
  | with_reducible refine q_orNT ?_
  | with_reducible refine q_orNF ?_
  | with_reducible refine q_bKNT ?_
  | with_reducible refine q_bKNF ?_
  | with_reducible refine q_tNGet ?_
  | with_reducible refine q_tNIn ?_
  | with_reducible refine q_sNPut ?_
  | with_reducible refine q_sFldAug ?_
  | with_reducible refine q_sDAug ?_
  | with_reducible refine q_sDDel ?_
  | with_reducible refine q_forX ?_
  | with_reducible refine q_tMake ?_
  | ((with_reducible apply q_dG1a); (focus ((repeat first | (with_reducible exact upd_same) | (with_reducible assumption) | (with_reducible apply upd_new (by assumption)) | (with_reducible apply upd_other (by first | assumption | exact Ne.symm (by assumption))) | (with_reducible refine' Kp.get (by assumption) ?_ (by first | assumption | exact Ne.symm (by assumption))) | (with_reducible apply Same.get (by assumption))); done)))))
/-! the law's own comparison: plain values, and lists of them -/
def scV : V → Bool
  | .non => true
  | .bl _ => true
  | .int _ => true
  | .str _ => true
  | _ => false
theorem scV_ty {K : PySem.W.Frag} {H : Hp} {x : V} (h : scV x = true) : (x = .non ∧ TyX K H x (.type "NoneType")) ∨ (∃ b, x = .bl b ∧ TyX K H x (.type "bool")) ∨ (∃ i, x = .int i ∧ TyX K H x (.type "int")) ∨ (∃ s, x = .str s ∧ TyX K H x (.type "str")) := by
  cases x with
  | non => exact .inl ⟨rfl, .base .non⟩
  | bl b => exact .inr (.inl ⟨b, rfl, .base (.bl b)⟩)
  | int i => exact .inr (.inr (.inl ⟨i, rfl, .base (.int i)⟩))
  | str s => exact .inr (.inr (.inr ⟨s, rfl, .base (.str s)⟩))
  | byt => cases h
  | flt => cases h
  | ref => cases h
  | ty => cases h
theorem q_is {K : PySem.W.Frag} {H : Hp} {Q : VK} {x : V} {t : String} {n : String} {b : Bool} (ht : TyX K H x (.type t)) (hk : kitB t n = some b) (k : Q (.bl b) H) : rIsi K [x, .ty n] H Q := q_isi ht (kit_ty hk) k

open TL
/-! write -/
theorem joinL_nil (ps : List (List Nat)) : joinL [] ps = ps.flatten := by
  induction ps with
  | nil => rfl
  | cons p r ih =>
    cases r with
    | nil => show p = [p].flatten; simp
    | cons q r =>
      show p ++ ([] ++ joinL [] (q :: r)) = (p :: q :: r).flatten
      rw [List.nil_append, ih]
      rfl
theorem sum_len (ws : List Str) : (ws.map (·.length)).sum = ((ws.map tl).flatten).length := by
  induction ws with
  | nil => rfl
  | cons w r ih => rw [List.map_cons, List.sum_cons, List.map_cons, List.flatten_cons, List.length_append, ih]; rfl
theorem RowsAt.unsnoc {α : Type} {f : α → List V} {H : Hp} {xs : List V} {rs : List α} {r : α} (h : RowsAt f H xs (rs ++ [r])) : ∃ ys c, xs = ys ++ [.ref c] ∧ H c = some (.tup (f r)) ∧ RowsAt f H ys rs := by
  have hl := h.len
  rw [List.length_append] at hl
  obtain ⟨c, h1, h2⟩ := h.at_ rs.length r (by rw [List.getElem?_append_right (Nat.le_refl _), Nat.sub_self]; rfl)
  have hn : rs.length < xs.length := by simp at hl; omega
  refine ⟨xs.take rs.length, c, ?_, h2, ⟨by rw [List.length_take]; omega, fun i r' hr => ?_⟩⟩
  · have e : xs.drop rs.length = [.ref c] := by
      rw [List.drop_eq_getElem_cons hn, List.drop_eq_nil_of_le (by simp at hl; omega)]
      rw [List.getElem?_eq_getElem hn] at h1
      rw [Option.some.inj h1]
    rw [← e, List.take_append_drop]
  · have hi : i < rs.length := (List.getElem?_eq_some_iff.mp hr).1
    obtain ⟨a, h3, h4⟩ := h.at_ i r' (by rw [List.getElem?_append_left hi]; exact hr)
    exact ⟨a, by rw [List.getElem?_take, if_pos hi]; exact h3, h4⟩
theorem RowsAt.app {α : Type} {f : α → List V} {H : Hp} {xs ys : List V} {rs ss : List α} (h : RowsAt f H xs rs) (g : RowsAt f H ys ss) : RowsAt f H (xs ++ ys) (rs ++ ss) := by
  refine ⟨by rw [List.length_append, List.length_append, h.len, g.len], fun i r hr => ?_⟩
  by_cases hi : i < rs.length
  · rw [List.getElem?_append_left hi] at hr
    rw [List.getElem?_append_left (by rw [h.len]; exact hi)]
    exact h.at_ i r hr
  · rw [List.getElem?_append_right (by omega)] at hr
    rw [List.getElem?_append_right (by rw [h.len]; omega), h.len]
    exact g.at_ _ r hr
theorem NVs.len {H : Hp} : ∀ {ks : List NestedKey} {vs : List V}, NVs H ks vs → vs.length ≤ sizs ks
  | _, _, .nil => Nat.le_refl _
  | _, _, .cons (k := k) (ks := ks) (vs := vs) a b => by
    have := NVs.len b
    show vs.length + 1 ≤ siz k + 1 + sizs ks
    omega
section
variable {P : Program} {w : World} {K : PySem.W.Frag} {mg : Str → Option Value} {base : Heap}
theorem NV.tupOf {H : Hp} {k : NestedKey} {b : Addr} (h : NV H k (.ref b)) : ∃ ks vs, k = .tup ks ∧ H b = some (.tup vs) ∧ NVs H ks vs := by
  cases h with
  | tup h1 h2 => exact ⟨_, _, rfl, h1, h2⟩
set_option maxHeartbeats 0 in
theorem ok_write (T : Txt K mg) : FnOk P w K mg base CX0 3 T.f_write T.d_write ["value"] (sp_write K) := by
  refine T.F_write.ok sc_write (fun vs H Q E h => ?_) (fun cdv A outer s H vs Q E hr h => ?_)
  · obtain ⟨v, k, rfl, _⟩ := h; rfl
  · obtain ⟨v, kk, rfl, hV, hiv, hsm, hlen, hsz, k⟩ := h
    have hsl : sizeLine = 16777216 := sizeLine_eq
    refine ⟨_, (pss_cons (ps_set (i := 1) sc_write.nd rfl (Or.inl rfl) (pe_lst pa_nil))
      (pss_cons (ps_set (i := 2) sc_write.nd rfl (Or.inl rfl) (pe_lst (pa_cons (pe_tup (pa_cons (pv 0) (pa_cons pe_bl pa_nil))) pa_nil)))
      (pss_cons (ps_while PassesOwn.never (pt_truth (pv 2) (by intro _; rfl)) (pss_cons (ps_asg (pe_bm0 PySem.F.plainAttrs_list PySem.F.slot_list_pop PySem.F.type_list_pop mt_pop (pv 2)) (pg_tup rfl (pgs_cons (pg_name (i := 3) sc_write.nd rfl (Or.inl rfl)) (pgs_cons (pg_name (i := 4) sc_write.nd rfl (Or.inl rfl)) pgs_nil))))
      (pss_one (ps_if (pt_val (pv 4)) (pss_one (ps_expr (pe_bm PySem.F.plainAttrs_list PySem.F.slot_list_append PySem.F.type_list_append mt_append (pv 1) (pa_cons (pv 3) pa_nil)))) (pss_one (ps_if (pt_val (pe_callB call_isi (by rfl) T.z_isinstance boot_isinstance (pa_cons (pv 3) (pa_cons (pe_bltn (v := .ty "tuple") (by rfl) T.z_tuple boot_tuple rfl) pa_nil)))) (pss_cons (ps_expr (pe_bm PySem.F.plainAttrs_list PySem.F.slot_list_append PySem.F.type_list_append mt_append (pv 1) (pa_cons pe_str pa_nil)))
      (pss_cons (ps_expr (pe_bm PySem.F.plainAttrs_list PySem.F.slot_list_append PySem.F.type_list_append mt_append (pv 2) (pa_cons (pe_tup (pa_cons pe_str (pa_cons pe_bl pa_nil))) pa_nil)))
      (pss_one (ps_expr (pe_bm PySem.F.plainAttrs_list PySem.F.slot_list_extend PySem.F.type_list_extend mt_extend (pv 2) (pa_cons (pe_call (ok_parted T) (hr.mono (by decide)) (by rfl) T.g_parted T.F_parted.kp T.b_parted .nil pass0 (pa_cons (pv 3) pa_nil)) pa_nil)))))) (pss_one (ps_if (pt_val (pe_callB call_isi (by rfl) T.z_isinstance boot_isinstance (pa_cons (pv 3) (pa_cons (pe_bltn (v := .ty "str") (by rfl) T.z_str boot_str rfl) pa_nil)))) (pss_one (ps_expr (pe_bm PySem.F.plainAttrs_list PySem.F.slot_list_append PySem.F.type_list_append mt_append (pv 1) (pa_cons (pe_joined (.cons (pe_fmt (pe_callB cq_lenS (by rfl) T.z_len boot_len (pa_cons (pv 3) pa_nil))) (.cons pe_str (.cons (pe_fmt (pv 3)) .nil)))) pa_nil)))) (pss_one (ps_expr (pe_bm PySem.F.plainAttrs_list PySem.F.slot_list_append PySem.F.type_list_append mt_append (pv 1) (pa_cons (pe_call (ok_written_integer T) (hr.mono (by decide)) (by rfl) T.g_written_integer T.F_written_integer.kp T.b_written_integer .nil pass0 (pa_cons (pv 3) pa_nil)) pa_nil))))))))))))
      (pss_one (ps_ret (pe_join pe_str (pv 1))))))), ?_⟩
    (dsimp only [cxOf, Cx.nox, Cx.wish, L2.start, List.map, List.length, List.replicate, List.cons_append, List.nil_append, List.append_eq, Nat.reduceSub, Nat.reduceAdd])
    walk_at "my_rd"
    refine q_lstK (Nat.le_of_ble_eq_true rfl) fun wr nwr => ?_
    walk_at "my_rd"
    refine q_tupK (Nat.le_of_ble_eq_true rfl) fun t nt => ?_
    walk_at "my_rd"
    refine q_lstK (Nat.le_of_ble_eq_true rfl) fun l nl => ?_
    have nwr0 := nwr
    have nl0 : H l = none := upd_none_back (upd_none_back nl)
    have lw : l ≠ wr := by
      intro e
      rw [e, upd_new nt upd_same] at nl
      cases nl
    have smA : Same H (upd (upd (upd H wr (.lst [])) t (.tup [v, .bl false])) l (.lst [.ref t])) := Same.new (Same.up (Same.new (Same.refl _) nwr) nt) nl0
    have hw0 : upd (upd (upd H wr (.lst [])) t (.tup [v, .bl false])) l (.lst [.ref t]) wr = some (.lst (([] : List Str).map V.str)) := upd_other lw.symm (upd_new nt upd_same)
    have hl0 : upd (upd (upd H wr (.lst [])) t (.tup [v, .bl false])) l (.lst [.ref t]) l = some (.lst [.ref t]) := upd_same
    have htl : t ≠ l := by
      intro e
      rw [← e, upd_same] at nl
      cases nl
    have hR0 : RowsAt pB (upd (upd (upd H wr (.lst [])) t (.tup [v, .bl false])) l (.lst [.ref t])) [.ref t] [(v, false)] := RowsAt.snoc (xs := []) (rs := []) .nil (upd_other htl upd_same)
    generalize upd (upd (upd H wr (.lst [])) t (.tup [v, .bl false])) l (.lst [.ref t]) = H0 at smA hw0 hl0 hR0
    walk_at "my_rd"
    have hO0 : OutN H0 (0 + siz kk) [(v, false)] (wrL kk ++ []) := .val .nil (NV.mono (fun b ys q => smA _ _ q) hV) hiv hsm
    refine q_while (fun m σ H' => ∃ (ws : List Str) (xs : List V) (M : List (V × Bool)) (o : List Nat) (v3 v4 : Option V), σ = [some v, some (.ref wr), some (.ref l), v3, v4] ∧ Same H H' ∧ H' wr = some (.lst (ws.map V.str)) ∧ H' l = some (.lst xs) ∧
      RowsAt pB H' xs M.reverse ∧ OutN H' m M o ∧ (ws.map tl).flatten ++ o = wrL kk ∧ m ≤ 1000000 ∧ ws.length + m ≤ 1000000) (m0 := siz kk)
      ⟨[], _, [(v, false)], wrL kk, _, _, rfl, smA, hw0, hl0, hR0, by rw [Nat.zero_add, List.append_nil] at hO0; exact hO0, rfl, hsz, by show 0 + _ ≤ _; omega⟩ ?_
    clear hO0 hR0 hl0 hw0 smA
    rintro m σ H' ⟨ws, xs, M, o, v3, v4, rfl, sm, hw, hl, hR, hO, ho, hm, hws⟩
    walk_at "my_rd"
    refine ⟨_, .inl ⟨_, sqL hl, rfl⟩, ?_⟩
    have hxl := hR.len
    rw [List.length_reverse] at hxl
    have hMl := hO.len
    cases M with
    | nil =>
      have hx : xs = [] := by
        cases xs with
        | nil => rfl
        | cons _ _ => simp at hxl
      subst hx
      cases hO
      refine q_whF ?_
      walk_at "my_rd"
      unfold tM1
      refine q_c ⟨⟨_, rfl⟩, ?_⟩
      walk_at "my_rd"
      rw [List.append_nil] at ho
      refine ⟨_, wr, ws, rfl, rfl, .inl (sqL hw), ?_, ?_⟩
      · rw [sum_len, ho]
        show _ + ws.length * 0 ≤ _
        omega
      · have e : Txt.join (Str.ofString "") ws = strL (wrL kk) := tl_inj (by rw [tl_strL, ← ho]; rw [join_eq, tl_join]; exact joinL_nil _)
        rw [e]
        exact k _ sm
    | cons q M =>
      have hx : (!xs.isEmpty) = true := by
        cases xs with
        | nil => simp at hxl
        | cons _ _ => rfl
      rw [hx]
      rw [List.reverse_cons] at hR
      obtain ⟨ys, c, rfl, hc, hRy⟩ := hR.unsnoc
      refine q_whT ?_
      walk_at "my_rd"
      refine ⟨l, _, .ref c, rfl, rfl, hl, by rw [List.length_append]; show (ys ++ [V.ref c])[ys.length + 1 - 1]? = _; rw [Nat.add_sub_cancel, List.getElem?_append_right (Nat.le_refl _), Nat.sub_self]; rfl, ?_⟩
      rw [List.dropLast_concat]
      have ncl : c ≠ l := ne_of hc hl (by intro z; cases z)
      have nwl : wr ≠ l := lw.symm
      have tpl : ∀ b zs, H' b = some (.tup zs) → upd H' l (.lst ys) b = some (.tup zs) := fun b zs q => upd_other (ne_of q hl (by intro z; cases z)) q
      have sm1 : Same H (upd H' l (.lst ys)) := Same.new sm nl0
      have hw1 : upd H' l (.lst ys) wr = some (.lst (ws.map V.str)) := upd_other nwl hw
      have hl1 : upd H' l (.lst ys) l = some (.lst ys) := upd_same
      have hc1 := tpl _ _ hc
      have hR1 := hRy.mono tpl
      have hO1 := hO.mono tpl
      have hyl : ys.length ≤ 1000000 := by rw [List.length_append] at hxl; have : (q :: M).length ≤ m := hMl; simp at hxl this; omega
      generalize upd H' l (.lst ys) = H1 at sm1 hw1 hl1 hc1 hR1 hO1
      clear hR hRy hl hw sm hO hc tpl hx hxl
      obtain ⟨qv, qb⟩ := q
      have hc1 : H1 c = some (.tup [qv, .bl qb]) := hc1
      refine q_gTup (sqT hc1) rfl ?_
      walk_at "my_rd"
      cases hO1 with
      | @sign m' M o' s hO2 =>
        refine q_ifT ?_
        walk_at "my_rd"
        have eM : ws.map V.str ++ [V.str s] = (ws ++ [s]).map V.str := by rw [List.map_append]; rfl
        refine q_append hw1 (by rw [List.length_map]; omega) ?_
        walk_at "my_rd"
        rw [eM]
        refine ⟨m', by omega, ws ++ [s], ys, M, o', _, _, rfl, Same.new sm1 nwr0, upd_same, upd_other lw hl1, hR1.mono fun b zs q => upd_other (ne_of q hw1 (by intro z; cases z)) q, hO2.mono fun b zs q => upd_other (ne_of q hw1 (by intro z; cases z)) q, ?_, by omega, by rw [List.length_append]; show ws.length + 1 + _ ≤ _; omega⟩
        rw [List.map_append, List.flatten_append, ← ho]
        show _ ++ [tl s].flatten ++ o' = _
        rw [List.flatten_cons, List.flatten_nil, List.append_nil, List.append_assoc]
      | @val m' M o' k1 v1 hO2 hn hv hs =>
        refine q_ifF ?_
        have hlk : (wrL k1).length ≤ 1000000 := by
          have := congrArg List.length ho
          rw [List.length_append, List.length_append] at this
          omega
        have fin : ∀ (s : Str), tl s = wrL k1 → 1 ≤ siz k1 → True := fun _ _ _ => trivial
        cases k1 with
        | none => cases hv
        | num i =>
          cases hn
          walk_at "my_rd"
          refine q_is (.base (.int i)) (b := false) (by decide +kernel) ?_
          walk_at "my_rd"
          refine q_is (.base (.int i)) (b := false) (by decide +kernel) ?_
          walk_at "my_rd"
          refine ⟨i, rfl, hs, ?_⟩
          walk_at "my_rd"
          have eM : ws.map V.str ++ [V.str (strL (intL i))] = (ws ++ [strL (intL i)]).map V.str := by rw [List.map_append]; rfl
          refine q_append hw1 (by rw [List.length_map]; omega) ?_
          walk_at "my_rd"
          rw [eM]
          have e1 : siz (.num i) = 1 := rfl
          refine ⟨m', by omega, ws ++ [strL (intL i)], ys, M, o', _, _, rfl, Same.new sm1 nwr0, upd_same, upd_other lw hl1, hR1.mono fun b zs q => upd_other (ne_of q hw1 (by intro z; cases z)) q, hO2.mono fun b zs q => upd_other (ne_of q hw1 (by intro z; cases z)) q, ?_, by omega, by rw [List.length_append]; show ws.length + 1 + _ ≤ _; omega⟩
          rw [List.map_append, List.flatten_append, ← ho]
          show _ ++ [tl (strL (intL i))].flatten ++ o' = _ ++ (intL i ++ o')
          rw [List.flatten_cons, List.flatten_nil, List.append_nil, List.append_assoc, tl_strL]
        | text s =>
          cases hn
          walk_at "my_rd"
          refine q_is (.base (.str s)) (b := false) (by decide +kernel) ?_
          walk_at "my_rd"
          refine q_is (.base (.str s)) (b := true) (by decide +kernel) ?_
          walk_at "my_rd"
          have hsl2 : s.length ≤ 1000000 := by
            have e : (wrL (.text s)).length = (numL s.length).length + (1 + s.length) := by
              show (numL s.length ++ 58 :: tl s).length = _
              rw [List.length_append, List.length_cons, tl_len]
              omega
            omega
          have hnl : (numL s.length).length ≤ 1000000 := by
            have e : (wrL (.text s)).length = (numL s.length).length + (1 + s.length) := by
              show (numL s.length ++ 58 :: tl s).length = _
              rw [List.length_append, List.length_cons, tl_len]
              omega
            omega
          have eN : Str.ofString (toString (s.length : Int)) = strL (numL s.length) := tl_inj (tl_num _)
          have eW : ((Str.empty ++ strL (numL s.length)) ++ Str.ofString ":") ++ s = strL (wrL (.text s)) := tl_inj (by
            rw [tl_append, tl_append, tl_append, tl_strL, tl_strL]
            show (([] ++ numL s.length) ++ [58]) ++ tl s = numL s.length ++ 58 :: tl s
            rw [List.nil_append, List.append_assoc]
            rfl)
          have l1 : (Str.empty ++ strL (numL s.length)).length = (numL s.length).length := by
            rw [tl_len, tl_append]
            rfl
          have l2 : ((Str.empty ++ strL (numL s.length)) ++ Str.ofString ":").length = (numL s.length).length + 1 := by
            rw [tl_len, tl_append, List.length_append, ← tl_len, l1]
            rfl
          unfold tJs tFmt
          walk_at "my_rd"
          refine q_lenS (by omega) ?_
          refine .inr ⟨_, rfl, log_lt (Nat.lt_of_le_of_lt (show _ ≤ 1000000 from hsl2) (by decide +kernel)), ?_⟩
          rw [eN]
          refine ⟨_, rfl, by rw [l1]; omega, ?_⟩
          unfold tJs
          refine q_c ⟨_, rfl, by rw [l2]; omega, ?_⟩
          unfold tJs
          refine q_var rfl (.inl ⟨_, rfl, by omega, ?_⟩)
          refine ⟨_, rfl, by rw [eW]; show (wrL _).length ≤ _; omega, ?_⟩
          unfold tJs
          rw [eW]
          walk_at "my_rd"
          have eM : ws.map V.str ++ [V.str (strL (wrL (.text s)))] = (ws ++ [strL (wrL (.text s))]).map V.str := by rw [List.map_append]; rfl
          refine q_append hw1 (by rw [List.length_map]; omega) ?_
          walk_at "my_rd"
          rw [eM]
          have e1 : siz (.text s) = 1 := rfl
          refine ⟨m', by omega, ws ++ [strL (wrL (.text s))], ys, M, o', _, _, rfl, Same.new sm1 nwr0, upd_same, upd_other lw hl1, hR1.mono fun b zs q => upd_other (ne_of q hw1 (by intro z; cases z)) q, hO2.mono fun b zs q => upd_other (ne_of q hw1 (by intro z; cases z)) q, ?_, by omega, by rw [List.length_append]; show ws.length + 1 + _ ≤ _; omega⟩
          rw [List.map_append, List.flatten_append, ← ho]
          show _ ++ [tl (strL (wrL (.text s)))].flatten ++ o' = _
          rw [List.flatten_cons, List.flatten_nil, List.append_nil, List.append_assoc, tl_strL]
        | tup ks =>
          obtain ⟨ks', vs, e, hb, hns⟩ : ∃ ks' vs, NestedKey.tup ks = .tup ks' ∧ (∃ b, qv = .ref b ∧ H1 b = some (.tup vs)) ∧ NVs H1 ks' vs := by
            cases hn with
            | tup h1 h2 => exact ⟨_, _, rfl, ⟨_, rfl, h1⟩, h2⟩
          injection e with e
          subst e
          obtain ⟨b, rfl, hb⟩ := hb
          walk_at "my_rd"
          refine q_is (.base (.tup hb)) (b := true) (by decide +kernel) ?_
          walk_at "my_rd"
          refine q_append hw1 (by rw [List.length_map]; omega) ?_
          walk_at "my_rd"
          have eM : ws.map V.str ++ [V.str (Str.ofString "(")] = (ws ++ [Str.ofString "("]).map V.str := by rw [List.map_append]; rfl
          rw [eM]
          have tpw : ∀ b zs, H1 b = some (.tup zs) → upd H1 wr (.lst ((ws ++ [Str.ofString "("]).map V.str)) b = some (.tup zs) := fun b zs q => upd_other (ne_of q hw1 (by intro z; cases z)) q
          have sm2 : Same H (upd H1 wr (.lst ((ws ++ [Str.ofString "("]).map V.str))) := Same.new sm1 nwr0
          have hw2 : upd H1 wr (.lst ((ws ++ [Str.ofString "("]).map V.str)) wr = some (.lst ((ws ++ [Str.ofString "("]).map V.str)) := upd_same
          have hl2 : upd H1 wr (.lst ((ws ++ [Str.ofString "("]).map V.str)) l = some (.lst ys) := upd_other lw hl1
          have hb2 := tpw _ _ hb
          have hR2 := hR1.mono tpw
          have hO3 := hO2.mono tpw
          have hn2 := NVs.mono tpw hns
          generalize upd H1 wr (.lst ((ws ++ [Str.ofString "("]).map V.str)) = H2 at sm2 hw2 hl2 hb2 hR2 hO3 hn2
          clear sm1 hw1 hl1 hb hR1 hO2 hns tpw hn hc1
          refine q_tupK (Nat.le_of_ble_eq_true rfl) fun t2 nt2 => ?_
          walk_at "my_rd"
          have t2l : t2 ≠ l := (ne_of_none hl2 nt2).symm
          refine q_append (upd_new nt2 hl2) (by omega) ?_
          walk_at "my_rd"
          have tp2 : ∀ b zs, H2 b = some (.tup zs) → upd (upd H2 t2 (.tup [.str ")", .bl true])) l (.lst (ys ++ [.ref t2])) b = some (.tup zs) := fun b zs q => upd_other (ne_of q hl2 (by intro z; cases z)) (upd_new nt2 q)
          have sm3 : Same H (upd (upd H2 t2 (.tup [.str ")", .bl true])) l (.lst (ys ++ [.ref t2]))) := Same.new (Same.up sm2 nt2) nl0
          have hw3 : upd (upd H2 t2 (.tup [.str ")", .bl true])) l (.lst (ys ++ [.ref t2])) wr = some (.lst ((ws ++ [Str.ofString "("]).map V.str)) := upd_other nwl (upd_new nt2 hw2)
          have hl3 : upd (upd H2 t2 (.tup [.str ")", .bl true])) l (.lst (ys ++ [.ref t2])) l = some (.lst (ys ++ [.ref t2])) := upd_same
          have hb3 := tp2 _ _ hb2
          have hR3 : RowsAt pB (upd (upd H2 t2 (.tup [.str ")", .bl true])) l (.lst (ys ++ [.ref t2]))) (ys ++ [.ref t2]) (M.reverse ++ [(.str ")", true)]) := RowsAt.snoc (hR2.mono tp2) (upd_other t2l upd_same)
          have hO4 := hO3.mono tp2
          have hn3 := NVs.mono tp2 hn2
          generalize upd (upd H2 t2 (.tup [.str ")", .bl true])) l (.lst (ys ++ [.ref t2])) = H3 at sm3 hw3 hl3 hb3 hR3 hO4 hn3
          clear sm2 hw2 hl2 hb2 hR2 hO3 hn2 tp2 nt2
          have hvl := NVs.len hn3
          have e1 : siz (.tup ks) = 2 + sizs ks := rfl
          walk_at "my_rd"
          refine ⟨b, vs, rfl, hb3, by omega, fun p2 H4 zs np2 sm4 hp2 hRz => ?_⟩
          have hl4 := sm4 _ _ hl3
          have hzl : zs.length ≤ 2 * vs.length := by
            have h1 := hRz.len
            rw [List.length_reverse] at h1
            have := pr_len vs
            omega
          walk_at "my_rd"
          refine ⟨l, p2, _, zs, rfl, rfl, hl4, hp2, by rw [List.length_append]; show ys.length + 1 + _ ≤ _; omega, ?_⟩
          walk_at "my_rd"
          have tp4 : ∀ b zs', H4 b = some (.tup zs') → upd H4 l (.lst (ys ++ [.ref t2] ++ zs)) b = some (.tup zs') := fun b zs' q => upd_other (ne_of q hl4 (by intro z; cases z)) q
          have hO5 := OutN.sign (s := Str.ofString ")") (hO4.mono fun b zs' q => tp4 _ _ (sm4 _ _ q))
          have hn5 := NVs.mono (fun b zs' q => tp4 _ _ (sm4 _ _ q)) hn3
          obtain ⟨m2, hm2, hO6⟩ := outP hn5 hv hs hO5
          have hR5 := (hR3.mono fun b zs' q => tp4 _ _ (sm4 _ _ q)).app (hRz.mono tp4)
          have eR : M.reverse ++ [(V.str ")", true)] ++ (pr vs).reverse = (pr vs ++ ((.str (Str.ofString ")"), true) :: M)).reverse := by
            rw [List.reverse_append, List.reverse_cons]
          rw [eR] at hR5
          refine ⟨m2, by omega, ws ++ [Str.ofString "("], _, _, _, _, _, rfl, Same.new (Same.trans sm3 sm4) nl0, upd_other nwl (sm4 _ _ hw3), upd_same, hR5, hO6, ?_, by omega, by rw [List.length_append]; show ws.length + 1 + _ ≤ _; omega⟩
          rw [List.map_append, List.flatten_append, ← ho]
          show (ws.map tl).flatten ++ [[40]].flatten ++ (wrsL ks ++ ([41] ++ o')) = (ws.map tl).flatten ++ (40 :: (wrsL ks ++ [41]) ++ o')
          simp [List.append_assoc]
end

local macro_rules | `(tactic| walk_at "my_rd") => `(tactic| (repeat first
  | with_reducible refine q_tCons ?_
  | ((with_reducible apply q_var); (focus (exact rfl)))
  | with_reducible refine q_c ?_
  | with_reducible refine q_nx ?_
  | with_reducible refine q_bK ?_
  | with_reducible refine q_call ?_
  | with_reducible refine q_callK ?_
  | with_reducible refine q_tNil ?_
  | with_reducible refine q_cb ?_
  | with_reducible refine q_seq ?_
  | with_reducible refine q_asg ?_
  | with_reducible refine q_gName ?_
  | with_reducible refine q_op ?_
  | with_reducible refine q_test ?_
  | with_reducible refine q_tB ?_
  | with_reducible refine q_ifS ?_
  | with_reducible refine q_ret ?_
  | with_reducible refine q_rt ?_
  | with_reducible refine q_next ?_
  | with_reducible refine q_ifF ?_
  | with_reducible refine q_ifT ?_
  | with_reducible refine q_drop ?_
  | with_reducible refine q_and ?_
  | with_reducible refine q_or ?_
  | with_reducible refine q_andT ?_
  | with_reducible refine q_andF ?_
  | with_reducible refine q_orF ?_
  | with_reducible refine q_orT ?_
  | with_reducible refine q_andV ?_
  | with_reducible refine q_andVT ?_
  | with_reducible refine q_andVF ?_
  | with_reducible refine q_orV ?_
  | with_reducible refine q_gCons ?_
  | with_reducible refine q_gNil ?_
  | with_reducible refine q_tup ?_
  | with_reducible refine q_lst ?_
  | with_reducible refine q_not ?_
  | with_reducible refine q_notKT ?_
  | with_reducible refine q_notKF ?_
  | with_reducible refine q_I0 ?_
  | with_reducible refine q_eqI ?_
  | with_reducible refine q_neI ?_
  | ((with_reducible refine q_I ?_ ?_); first | decide | omega | exact ⟨by omega, by omega⟩ | exact ⟨by decide, by decide⟩ | exact .inl ⟨by omega, by omega⟩ | exact .inr ⟨by omega, by omega⟩ | exact .inr ⟨by decide, by decide⟩)
  | with_reducible refine q_eqS ?_
  | with_reducible refine q_neS ?_
  | with_reducible refine q_brk ?_
  | with_reducible refine q_ct ?_
  | with_reducible refine q_bk ?_
  | with_reducible refine q_cn ?_
  | with_reducible refine q_retN ?_
  | with_reducible refine q_gSub ?_
  | with_reducible refine q_for ?_
  | with_reducible refine q_iList ?_
  | with_reducible refine q_iTup ?_
  | with_reducible refine q_iRng1 ?_
  | with_reducible refine q_notK ?_
  | with_reducible refine q_orVT ?_
  | with_reducible refine q_orVF ?_
  | with_reducible refine q_notV ?_
  | with_reducible refine q_notVK ?_
  | with_reducible refine q_ifE ?_
  | with_reducible refine q_ifET ?_
  | with_reducible refine q_ifEF ?_
  | with_reducible refine q_yes ?_
  | with_reducible refine q_un ?_
  | with_reducible refine q_rU ?_
  | with_reducible refine q_abs ?_
  | with_reducible refine q_int1 ?_
  | with_reducible refine q_bm ?_
  | with_reducible refine q_bm0 ?_
  | with_reducible refine q_lc ?_
  | with_reducible refine q_keepT ?_
  | with_reducible refine q_keepF ?_
  | ((with_reducible apply q_aug); (focus (exact rfl)))
  | with_reducible refine q_ipI ?_
  | with_reducible refine q_chain ?_
  | with_reducible refine q_pairC ?_
  | with_reducible refine q_pairsK ?_
  | with_reducible refine q_pairN ?_
  | with_reducible refine q_fld ?_
  | with_reducible refine q_sFld ?_
  | with_reducible refine q_meth ?_
  | with_reducible refine q_makeK ?_
  | with_reducible refine q_isBl ?_
  | with_reducible refine q_notBl ?_
  | with_reducible refine q_sl ?_
  | with_reducible refine q_noPart ?_
  | with_reducible refine q_part ?_
  | with_reducible refine q_partK ?_
  | ((with_reducible apply q_mulStr); (focus (decide +kernel)))
  | with_reducible refine q_chT ?_
  | with_reducible refine q_chF ?_
  | with_reducible refine q_ord ?_
  | with_reducible refine q_iStr0 ?_
  | with_reducible refine q_iStr ?_
  | with_reducible refine q_tDIn ?_
  | with_reducible refine q_tDNotIn ?_
  | with_reducible refine q_tDGet ?_
  | with_reducible refine q_tDGet2 ?_
  | with_reducible refine q_tDGet1 ?_
  | with_reducible refine q_tDSetd ?_
  | ((with_reducible apply q_dG2a); (focus ((repeat first | (with_reducible exact upd_same) | (with_reducible assumption) | (with_reducible apply upd_new (by assumption)) | (with_reducible apply upd_other (by first | assumption | exact Ne.symm (by assumption))) | (with_reducible refine' Kp.get (by assumption) ?_ (by first | assumption | exact Ne.symm (by assumption))) | (with_reducible apply Same.get (by assumption))); done)))
  | ((with_reducible apply q_dSda); (focus ((repeat first | (with_reducible exact upd_same) | (with_reducible assumption) | (with_reducible apply upd_new (by assumption)) | (with_reducible apply upd_other (by first | assumption | exact Ne.symm (by assumption))) | (with_reducible refine' Kp.get (by assumption) ?_ (by first | assumption | exact Ne.symm (by assumption))) | (with_reducible apply Same.get (by assumption))); done)))
  | with_reducible refine q_sDPut ?_
  | ((with_reducible apply q_dInS); (focus ((repeat first | (with_reducible exact upd_same) | (with_reducible assumption) | (with_reducible apply upd_new (by assumption)) | (with_reducible apply upd_other (by first | assumption | exact Ne.symm (by assumption))) | (with_reducible refine' Kp.get (by assumption) ?_ (by first | assumption | exact Ne.symm (by assumption))) | (with_reducible apply Same.get (by assumption))); done)))
  | ((with_reducible apply q_dNInS); (focus ((repeat first | (with_reducible exact upd_same) | (with_reducible assumption) | (with_reducible apply upd_new (by assumption)) | (with_reducible apply upd_other (by first | assumption | exact Ne.symm (by assumption))) | (with_reducible refine' Kp.get (by assumption) ?_ (by first | assumption | exact Ne.symm (by assumption))) | (with_reducible apply Same.get (by assumption))); done)))
  | ((with_reducible apply q_dInI); (focus ((repeat first | (with_reducible exact upd_same) | (with_reducible assumption) | (with_reducible apply upd_new (by assumption)) | (with_reducible apply upd_other (by first | assumption | exact Ne.symm (by assumption))) | (with_reducible refine' Kp.get (by assumption) ?_ (by first | assumption | exact Ne.symm (by assumption))) | (with_reducible apply Same.get (by assumption))); done)))
  | ((with_reducible apply q_dNInI); (focus ((repeat first | (with_reducible exact upd_same) | (with_reducible assumption) | (with_reducible apply upd_new (by assumption)) | (with_reducible apply upd_other (by first | assumption | exact Ne.symm (by assumption))) | (with_reducible refine' Kp.get (by assumption) ?_ (by first | assumption | exact Ne.symm (by assumption))) | (with_reducible apply Same.get (by assumption))); done)))
  | ((with_reducible apply q_bmL); (focus ((repeat first | (with_reducible exact upd_same) | (with_reducible assumption) | (with_reducible apply upd_new (by assumption)) | (with_reducible apply upd_other (by first | assumption | exact Ne.symm (by assumption))) | (with_reducible refine' Kp.get (by assumption) ?_ (by first | assumption | exact Ne.symm (by assumption))) | (with_reducible apply Same.get (by assumption))); done)))
  | ((with_reducible apply q_bmL0); (focus ((repeat first | (with_reducible exact upd_same) | (with_reducible assumption) | (with_reducible apply upd_new (by assumption)) | (with_reducible apply upd_other (by first | assumption | exact Ne.symm (by assumption))) | (with_reducible refine' Kp.get (by assumption) ?_ (by first | assumption | exact Ne.symm (by assumption))) | (with_reducible apply Same.get (by assumption))); done)))
  | ((with_reducible apply q_ixLt); (focus ((repeat first | (with_reducible exact upd_same) | (with_reducible assumption) | (with_reducible apply upd_new (by assumption)) | (with_reducible apply upd_other (by first | assumption | exact Ne.symm (by assumption))) | (with_reducible refine' Kp.get (by assumption) ?_ (by first | assumption | exact Ne.symm (by assumption))) | (with_reducible apply Same.get (by assumption))); done)); (focus (exact rfl)))
  | ((with_reducible apply q_ixTt); (focus ((repeat first | (with_reducible exact upd_same) | (with_reducible assumption) | (with_reducible apply upd_new (by assumption)) | (with_reducible apply upd_other (by first | assumption | exact Ne.symm (by assumption))) | (with_reducible refine' Kp.get (by assumption) ?_ (by first | assumption | exact Ne.symm (by assumption))) | (with_reducible apply Same.get (by assumption))); done)); (focus (exact rfl)))
  | ((with_reducible apply q_lenLt); (focus ((repeat first | (with_reducible exact upd_same) | (with_reducible assumption) | (with_reducible apply upd_new (by assumption)) | (with_reducible apply upd_other (by first | assumption | exact Ne.symm (by assumption))) | (with_reducible refine' Kp.get (by assumption) ?_ (by first | assumption | exact Ne.symm (by assumption))) | (with_reducible apply Same.get (by assumption))); done)))
  | ((with_reducible apply q_lenTt); (focus ((repeat first | (with_reducible exact upd_same) | (with_reducible assumption) | (with_reducible apply upd_new (by assumption)) | (with_reducible apply upd_other (by first | assumption | exact Ne.symm (by assumption))) | (with_reducible refine' Kp.get (by assumption) ?_ (by first | assumption | exact Ne.symm (by assumption))) | (with_reducible apply Same.get (by assumption))); done)))
  | ((with_reducible apply q_append); (focus ((repeat first | (with_reducible exact upd_same) | (with_reducible assumption) | (with_reducible apply upd_new (by assumption)) | (with_reducible apply upd_other (by first | assumption | exact Ne.symm (by assumption))) | (with_reducible refine' Kp.get (by assumption) ?_ (by first | assumption | exact Ne.symm (by assumption))) | (with_reducible apply Same.get (by assumption))); done)); (focus ((first | (exact Nat.lt_of_ble_eq_true rfl) | (simp only [List.length_append, List.length_cons, List.length_nil, List.length_map]; exact small1000 (by omega))))))
  | ((with_reducible apply q_setL); (focus ((repeat first | (with_reducible exact upd_same) | (with_reducible assumption) | (with_reducible apply upd_new (by assumption)) | (with_reducible apply upd_other (by first | assumption | exact Ne.symm (by assumption))) | (with_reducible refine' Kp.get (by assumption) ?_ (by first | assumption | exact Ne.symm (by assumption))) | (with_reducible apply Same.get (by assumption))); done)); (focus (exact rfl)))
  | with_reducible refine q_ifNT ?_
  | with_reducible refine q_ifNF ?_
  | with_reducible refine q_andNT ?_
  | with_reducible refine q_andNF ?_
  | with_reducible refine q_orNT ?_
  | with_reducible refine q_orNF ?_
  | with_reducible refine q_bKNT ?_
  | with_reducible refine q_bKNF ?_
  | with_reducible refine q_tNGet ?_
  | with_reducible refine q_tNIn ?_
  | with_reducible refine q_sNPut ?_
  | with_reducible refine q_sFldAug ?_
  | with_reducible refine q_sDAug ?_
  | with_reducible refine q_sDDel ?_
  | with_reducible refine q_forX ?_
  | with_reducible refine q_tMake ?_
  | ((with_reducible apply q_dG1a); (focus ((repeat first | (with_reducible exact upd_same) | (with_reducible assumption) | (with_reducible apply upd_new (by assumption)) | (with_reducible apply upd_other (by first | assumption | exact Ne.symm (by assumption))) | (with_reducible refine' Kp.get (by assumption) ?_ (by first | assumption | exact Ne.symm (by assumption))) | (with_reducible apply Same.get (by assumption))); done)))))
open TL
/-! texts with numbers -/
def posOf : List Str → Str → Option Nat
  | [], _ => none
  | x :: S, s => if x = s then some 0 else (posOf S s).map (· + 1)
theorem posOf_some {S : List Str} {s : Str} {j : Nat} (h : posOf S s = some j) : S[j]? = some s ∧ ∀ m, m < j → S[m]? ≠ some s := by
  induction S generalizing j with
  | nil => cases h
  | cons x S ih =>
    unfold posOf at h
    by_cases e : x = s
    · rw [if_pos e] at h
      cases h
      exact ⟨by rw [e]; rfl, fun m hm => absurd hm (Nat.not_lt_zero _)⟩
    · rw [if_neg e] at h
      obtain ⟨i, hi, rfl⟩ := Option.map_eq_some_iff.mp h
      obtain ⟨h1, h2⟩ := ih hi
      refine ⟨h1, fun m hm => ?_⟩
      cases m with
      | zero => exact fun z => e (Option.some.inj z)
      | succ m => exact h2 m (by omega)
theorem posOf_none {S : List Str} {s : Str} : posOf S s = none ↔ s ∉ S := by
  induction S with
  | nil => simp [posOf]
  | cons x S ih =>
    unfold posOf
    by_cases e : x = s
    · rw [if_pos e]; simp [e]
    · rw [if_neg e, Option.map_eq_none_iff, ih, List.mem_cons, not_or]
      exact ⟨fun h => ⟨fun z => e z.symm, h⟩, fun h => h.2⟩
theorem posOf_lt {S : List Str} {s : Str} {j : Nat} (h : posOf S s = some j) : j < S.length := (List.getElem?_eq_some_iff.mp (posOf_some h).1).1
theorem posOf_snoc {S : List Str} {s : Str} (h : posOf S s = none) : posOf (S ++ [s]) s = some S.length := by
  induction S with
  | nil => show (if s = s then some 0 else _) = _; rw [if_pos rfl]; rfl
  | cons x S ih =>
    unfold posOf at h
    by_cases e : x = s
    · rw [if_pos e] at h; cases h
    · rw [if_neg e, Option.map_eq_none_iff] at h
      show (if x = s then some 0 else (posOf (S ++ [s]) s).map (· + 1)) = _
      rw [if_neg e, ih h]
      rfl
def numK : Nat → List Str → List (Key × V)
  | _, [] => []
  | n, s :: S => (.inr s, .int (n : Int)) :: numK (n + 1) S
theorem numK_len (n : Nat) (S : List Str) : (numK n S).length = S.length := by
  induction S generalizing n with
  | nil => rfl
  | cons s S ih => show (numK (n + 1) S).length + 1 = S.length + 1; rw [ih]
theorem numK_val (n : Nat) (S : List Str) (s : Str) : valV (numK n S) (.inr s) = (posOf S s).map fun j => V.int ((n + j : Nat) : Int) := by
  induction S generalizing n with
  | nil => rfl
  | cons x S ih =>
    show valV ((Sum.inr x, V.int (n : Int)) :: numK (n + 1) S) (.inr s) = (if x = s then some 0 else (posOf S s).map (· + 1)).map _
    rw [valV_cons]
    by_cases e : x = s
    · rw [if_pos (by rw [e]), if_pos e]; rfl
    · rw [if_neg (fun z => e (Sum.inr.inj z)), if_neg e, ih]
      cases posOf S s with
      | none => rfl
      | some j =>
        show some (V.int ((n + 1 + j : Nat) : Int)) = some (V.int ((n + (j + 1) : Nat) : Int))
        rw [show n + 1 + j = n + (j + 1) by omega]
theorem numK_snoc (n : Nat) (S : List Str) (s : Str) : numK n (S ++ [s]) = numK n S ++ [(.inr s, .int ((n + S.length : Nat) : Int))] := by
  induction S generalizing n with
  | nil => rfl
  | cons x S ih =>
    show (Sum.inr x, V.int (n : Int)) :: numK (n + 1) (S ++ [s]) = (Sum.inr x, V.int (n : Int)) :: numK (n + 1) S ++ _
    rw [ih]
    show _ = (Sum.inr x, V.int (n : Int)) :: (numK (n + 1) S ++ [(.inr s, .int ((n + (S.length + 1) : Nat) : Int))])
    rw [show n + 1 + S.length = n + (S.length + 1) by omega]

/-! a table of digests -/
def frm (k : NestedKey) : Str := strL (wrL k)
structure OkK (k : NestedKey) : Prop where
  iv : isV k = true
  sm : smallV k
  wl : (wrL k).length ≤ 1000000
  sz : siz k ≤ 1000000
theorem frm_inj {k l : NestedKey} (hk : OkK k) (hl : OkK l) (h : frm k = frm l) : k = l := wr_inj' hk.iv hl.iv (by
  have := congrArg tl h
  exact this)
theorem pos_at {T : List NestedKey} {k : NestedKey} {j : Nat} (hT : ∀ x ∈ T, OkK x) (hk : OkK k) (h : posOf (T.map frm) (frm k) = some j) : T[j]? = some k := by
  have h1 := (posOf_some h).1
  rw [List.getElem?_map] at h1
  obtain ⟨x, hx, e⟩ := Option.map_eq_some_iff.mp h1
  rw [hx, frm_inj (hT x (List.mem_of_getElem? hx)) hk e]
theorem pos_no {T : List NestedKey} {k : NestedKey} (hT : ∀ x ∈ T, OkK x) (hk : OkK k) : posOf (T.map frm) (frm k) = none ↔ k ∉ T := by
  rw [posOf_none, List.mem_map]
  constructor
  · exact fun h m => h ⟨k, m, rfl⟩
  · rintro h ⟨x, hx, e⟩
    rw [frm_inj (hT x hx) hk e] at hx
    exact h hx
structure DigAt (C : Addr) (H : Hp) (d vl nd : Addr) (T : List NestedKey) : Prop where
  o : ∃ dx, H d = some (.ins C dx [("_values", .ref vl), ("_numbers", .ref nd)])
  v : ∃ vs, H vl = some (.lst vs) ∧ NVs H T vs
  n : H nd = some (.dK (numK 0 (T.map frm)))
  ok : ∀ k ∈ T, OkK k
  un : T.Nodup
def Kq (p q : Addr) (H H' : Hp) : Prop := ∀ b o, H b = some o → b ≠ p → b ≠ q → H' b = some o
theorem Kq.same {p q : Addr} {H H' : Hp} (e : Same H H') : Kq p q H H' := fun b o h _ _ => e b o h
theorem Kq.up1 {p q : Addr} {H H' : Hp} {o : HO} (e : Kq p q H H') : Kq p q H (upd H' p o) := fun b o h n1 n2 => upd_other n1 (e b o h n1 n2)
theorem Kq.up2 {p q : Addr} {H H' : Hp} {o : HO} (e : Kq p q H H') : Kq p q H (upd H' q o) := fun b o h n1 n2 => upd_other n2 (e b o h n1 n2)
theorem NVs.snoc {H : Hp} {k : NestedKey} {v : V} (h : NV H k v) : ∀ {ks : List NestedKey} {vs : List V}, NVs H ks vs → NVs H (ks ++ [k]) (vs ++ [v])
  | _, _, .nil => .cons h .nil
  | _, _, .cons a b => .cons a (NVs.snoc h b)
theorem NVs.length {H : Hp} : ∀ {ks : List NestedKey} {vs : List V}, NVs H ks vs → vs.length = ks.length
  | _, _, .nil => rfl
  | _, _, .cons _ b => congrArg (· + 1) (NVs.length b)
theorem NVs.at' {H : Hp} : ∀ {ks : List NestedKey} {vs : List V} {j : Nat} {k : NestedKey}, NVs H ks vs → ks[j]? = some k → ∃ v, vs[j]? = some v ∧ NV H k v
  | _, _, _, _, .nil, h => by simp at h
  | _, _, 0, _, .cons a _, h => by
    have e := Option.some.inj h
    subst e
    exact ⟨_, rfl, a⟩
  | _, _, j + 1, _, .cons _ b, h => by
    obtain ⟨v, h1, h2⟩ := NVs.at' (j := j) b h
    exact ⟨v, h1, h2⟩
theorem DigAt.same {C : Addr} {H H' : Hp} {d vl nd : Addr} {T : List NestedKey} (h : DigAt C H d vl nd T) (s : Same H H') : DigAt C H' d vl nd T := by
  obtain ⟨dx, z⟩ := h.o
  obtain ⟨vs, h1, h2⟩ := h.v
  exact ⟨⟨dx, s _ _ z⟩, ⟨vs, s _ _ h1, NVs.mono (fun b ys q => s _ _ q) h2⟩, s _ _ h.n, h.ok, h.un⟩
theorem DigAt.ne {C : Addr} {H : Hp} {d vl nd : Addr} {T : List NestedKey} (h : DigAt C H d vl nd T) : vl ≠ nd := by
  obtain ⟨vs, h1, _⟩ := h.v
  exact ne_of h1 h.n (by intro z; cases z)
def sp_dgI (C : Addr) : Sp := fun vs H Q _ => ∃ (b dx : Addr), vs = [.ref b] ∧ H b = some (.ins C dx []) ∧ ∀ (vl nd : Addr) (H' : Hp), H vl = none → H nd = none → DigAt C H' b vl nd [] → Kp b H H' → Q .non H'
def sp_dgN (K : PySem.W.Frag) (C : Addr) : Sp := fun vs H Q _ => ∃ (d vl nd : Addr) (T : List NestedKey) (k : NestedKey) (v : V), vs = [.ref d, v] ∧ DigAt C H d vl nd T ∧ NV H k v ∧ OkK k ∧ T.length ≤ 90000 ∧
  (∀ j, T[j]? = some k → ∀ H', Same H H' → Q (.int (j : Nat)) H') ∧ (k ∉ T → ∀ H', DigAt C H' d vl nd (T ++ [k]) → Kq vl nd H H' → Q (.int (T.length : Nat)) H')
def sp_dgV (C CU : Addr) : Sp := fun vs H Q E => ∃ (d vl nd : Addr) (T : List NestedKey) (i : Int), vs = [.ref d, .int i] ∧ DigAt C H d vl nd T ∧
  (¬ (0 ≤ i ∧ i < T.length) → E (.ref CU) none H) ∧ (∀ (n : Nat) (k : NestedKey) (v : V), i = n → T[n]? = some k → NV H k v → Q v H)
def sp_dgC (C : Addr) : Sp := fun vs H Q _ => ∃ (d vl nd : Addr) (T : List NestedKey), vs = [.ref d] ∧ DigAt C H d vl nd T ∧ Q (.int (T.length : Nat)) H
theorem lkd {m f g : Str} {x y : V} (h : (m == f) = false) (h2 : (m == g) = false) : List.lookup m [(f, x), (g, y)] = none := by
  show (match m == f with | true => some x | false => List.lookup m [(g, y)]) = none
  rw [h]
  show (match m == g with | true => some y | false => List.lookup m []) = none
  rw [h2]; rfl
section
variable {P : Program} {w : World} {K : PySem.W.Frag} {mg : Str → Option Value} {base : Heap}
theorem ok_Digests_init (T : Txt K mg) : FnOk P w K mg base CX0 1 T.f_Digests_init T.d_Digests_init ["self"] (sp_dgI T.C_Digests) := by
  refine T.F_Digests_init.ok sc_Digests_init (fun vs H Q E h => ?_) (fun cdv A outer s H vs Q E hr h => ?_)
  · obtain ⟨b, dx, rfl, _⟩ := h; rfl
  · obtain ⟨b, dx, rfl, hb, k⟩ := h
    refine ⟨_, (pss_cons (ps_fld (pv 0) (pe_lst pa_nil) rfl)
      (pss_one (ps_fld (pv 0) pe_dnewK rfl))), ?_⟩
    (dsimp only [cxOf, Cx.nox, Cx.wish, L2.start, List.map, List.length, List.replicate, List.cons_append, List.nil_append, List.append_eq, Nat.reduceSub, Nat.reduceAdd])
    walk_at "my_rd"
    refine q_lstK (Nat.le_of_ble_eq_true rfl) fun vl nvl => ?_
    have nb : vl ≠ b := (ne_of_none hb nvl).symm
    walk_at "my_rd"
    refine q_fputK (upd_new nvl hb) T.cl_Digests T.n_Digests_values (by show 0 < 1000; decide) ?_
    walk_at "my_rd"
    refine q_dNew fun nd nnd => ?_
    have nb2 : nd ≠ b := fun e => by rw [e, upd_same] at nnd; cases nnd
    have nv2 : nd ≠ vl := fun e => by rw [e, upd_other nb upd_same] at nnd; cases nnd
    have nnd0 := upd_none_back (upd_none_back nnd)
    walk_at "my_rd"
    refine q_fputK (upd_new nnd upd_same) T.cl_Digests T.n_Digests_numbers (by show 1 < 1000; decide) ?_
    walk_at "my_rd"
    exact k vl nd _ nvl nnd0 ⟨⟨dx, upd_same⟩, ⟨[], upd_other nb (upd_other nv2.symm (upd_other nb upd_same)), .nil⟩, upd_other nb2 upd_same, by simp, List.nodup_nil⟩ (Kp.upd (Kp.new (Kp.upd (Kp.new Kp.refl nvl)) nnd0))
theorem ok_Digests_number (T : Txt K mg) : FnOk P w K mg base CX0 4 T.f_Digests_number T.d_Digests_number ["self", "value"] (sp_dgN K T.C_Digests) := by
  refine T.F_Digests_number.ok sc_Digests_number (fun vs H Q E h => ?_) (fun cdv A outer s H vs Q E hr h => ?_)
  · obtain ⟨d, vl, nd, T, k, v, rfl, _⟩ := h; rfl
  · obtain ⟨d, vl, nd, TT, kk, v, rfl, hD, hV, hk, hl, k1, k2⟩ := h
    have hu := hu_of hr
    have hsl : sizeLine = 16777216 := sizeLine_eq
    refine ⟨_, (pss_cons (ps_set (i := 2) sc_Digests_number.nd rfl (Or.inl rfl) (pe_call (ok_write T) (hr.mono (by decide)) (by rfl) T.g_write T.F_write.kp T.b_write .nil pass0 (pa_cons (pv 1) pa_nil)))
      (pss_cons (ps_if (pt_cmp (pc_dnotin hu (pv 2) (pe_fld (pv 0) rfl))) (pss_cons (ps_dput hu (pe_fld (pv 0) rfl) (pv 2) (pe_callB cq_len (by rfl) T.z_len boot_len (pa_cons (pe_fld (pv 0) rfl) pa_nil)) rfl)
      (pss_one (ps_expr (pe_bm PySem.F.plainAttrs_list PySem.F.slot_list_append PySem.F.type_list_append mt_append (pe_fld (pv 0) rfl) (pa_cons (pv 1) pa_nil))))) pss_nil)
      (pss_one (ps_ret (pe_dget hu (pe_fld (pv 0) rfl) (pv 2) (fun _ _ => rfl)))))), ?_⟩
    (dsimp only [cxOf, Cx.nox, Cx.wish, L2.start, List.map, List.length, List.replicate, List.cons_append, List.nil_append, List.append_eq, Nat.reduceSub, Nat.reduceAdd])
    walk_at "my_rd"
    refine ⟨v, kk, rfl, hV, hk.iv, hk.sm, hk.wl, hk.sz, fun H1 sm1 => ?_⟩
    have hD1 := hD.same sm1
    obtain ⟨dx, ho⟩ := hD1.o
    obtain ⟨vs, hvl, hvs⟩ := hD1.v
    have hn := hD1.n
    have hne := hD1.ne
    have hlen := hvs.length
    have hval := numK_val 0 (TT.map frm) (frm kk)
    walk_at "my_rd"
    refine q_fldK ho T.cl_Digests T.n_Digests_numbers rfl ?_
    refine q_dNInS hn ?_
    have eF : strL (wrL kk) = frm kk := rfl
    rw [eF, hval]
    cases hp : posOf (TT.map frm) (frm kk) with
    | some j =>
      rw [hp] at hval
      have hat := pos_at hD.ok hk hp
      rw [show ((some j).map fun j => V.int ((0 + j : Nat) : Int)).isSome = true from rfl]
      walk_at "my_rd"
      refine q_fldK ho T.cl_Digests T.n_Digests_numbers rfl ?_
      walk_at "my_rd"
      refine q_dGetS hn hval ?_
      walk_at "my_rd"
      show Q (.int ((0 + j : Nat) : Int)) H1
      rw [Nat.zero_add]
      exact k1 j hat H1 sm1
    | none =>
      rw [hp] at hval
      have hno := (pos_no hD.ok hk).mp hp
      rw [show ((none : Option Nat).map fun j => V.int ((0 + j : Nat) : Int)).isSome = false from rfl]
      walk_at "my_rd"
      refine q_fldK ho T.cl_Digests T.n_Digests_values rfl ?_
      walk_at "my_rd"
      rw [hlen]
      refine q_fldK ho T.cl_Digests T.n_Digests_numbers rfl ?_
      walk_at "my_rd"
      refine q_dPutS hn (by rw [numK_len, List.length_map]; omega) ?_
      walk_at "my_rd"
      have eP : putK (numK 0 (TT.map frm)) (Sum.inr (frm kk)) (.int (TT.length : Int)) = numK 0 ((TT ++ [kk]).map frm) := by
        rw [putK_new _ hval, List.map_append]
        show _ = numK 0 (TT.map frm ++ [frm kk])
        rw [numK_snoc, List.length_map, Nat.zero_add]
      rw [eP]
      have nvd : d ≠ nd := ne_of ho hn (by intro z; cases z)
      have nvl : d ≠ vl := ne_of ho hvl (by intro z; cases z)
      refine q_fldK (upd_other nvd ho) T.cl_Digests T.n_Digests_values rfl ?_
      walk_at "my_rd"
      refine q_append (upd_other hne hvl) (by omega) ?_
      walk_at "my_rd"
      refine q_fldK (upd_other nvl (upd_other nvd ho)) T.cl_Digests T.n_Digests_numbers rfl ?_
      walk_at "my_rd"
      refine q_dGetS (upd_other hne.symm upd_same) (v := .int (TT.length : Nat)) ?_ ?_
      · rw [numK_val, List.map_append]
        show (posOf (TT.map frm ++ [frm kk]) (frm kk)).map _ = _
        rw [posOf_snoc hp, List.length_map]
        show some (V.int ((0 + TT.length : Nat) : Int)) = _
        rw [Nat.zero_add]
      · walk_at "my_rd"
        have tp : ∀ b ys, H1 b = some (.tup ys) → upd (upd H1 nd (.dK (numK 0 ((TT ++ [kk]).map frm)))) vl (.lst (vs ++ [v])) b = some (.tup ys) := fun b ys q => upd_other (ne_of q hvl (by intro z; cases z)) (upd_other (ne_of q hn (by intro z; cases z)) q)
        refine k2 hno _ ⟨⟨dx, upd_other nvl (upd_other nvd ho)⟩, ⟨_, upd_same, NVs.snoc (NV.mono (fun b ys q => tp _ _ (sm1 _ _ q)) hV) (NVs.mono tp hvs)⟩, upd_other hne.symm upd_same, fun x hx => ?_, ?_⟩ (Kq.up1 (Kq.up2 (Kq.same sm1)))
        · rcases List.mem_append.mp hx with q | q
          · exact hD.ok x q
          · rw [List.mem_singleton.mp q]; exact hk
        · rw [List.nodup_append]
          exact ⟨hD.un, by simp, fun a ha b hb e => hno (by rw [List.mem_singleton.mp hb] at e; exact e ▸ ha)⟩
end

local macro_rules | `(tactic| walk_at "my_rd") => `(tactic| (repeat first
  | with_reducible refine q_tCons ?_
  | ((with_reducible apply q_var); (focus (exact rfl)))
  | with_reducible refine q_c ?_
  | with_reducible refine q_nx ?_
  | with_reducible refine q_bK ?_
  | with_reducible refine q_call ?_
  | with_reducible refine q_callK ?_
  | with_reducible refine q_tNil ?_
  | with_reducible refine q_cb ?_
  | with_reducible refine q_seq ?_
  | with_reducible refine q_asg ?_
  | with_reducible refine q_gName ?_
  | with_reducible refine q_op ?_
  | with_reducible refine q_test ?_
  | with_reducible refine q_tB ?_
  | with_reducible refine q_ifS ?_
  | with_reducible refine q_ret ?_
  | with_reducible refine q_rt ?_
  | with_reducible refine q_next ?_
  | with_reducible refine q_ifF ?_
  | with_reducible refine q_ifT ?_
  | with_reducible refine q_drop ?_
  | with_reducible refine q_and ?_
  | with_reducible refine q_or ?_
  | with_reducible refine q_andT ?_
  | with_reducible refine q_andF ?_
  | with_reducible refine q_orF ?_
  | with_reducible refine q_orT ?_
  | with_reducible refine q_andV ?_
  | with_reducible refine q_andVT ?_
  | with_reducible refine q_andVF ?_
  | with_reducible refine q_orV ?_
  | with_reducible refine q_gCons ?_
  | with_reducible refine q_gNil ?_
  | with_reducible refine q_tup ?_
  | with_reducible refine q_lst ?_
  | with_reducible refine q_not ?_
  | with_reducible refine q_notKT ?_
  | with_reducible refine q_notKF ?_
  | with_reducible refine q_I0 ?_
  | with_reducible refine q_eqI ?_
  | with_reducible refine q_neI ?_
  | ((with_reducible refine q_I ?_ ?_); first | decide | omega | exact ⟨by omega, by omega⟩ | exact ⟨by decide, by decide⟩ | exact .inl ⟨by omega, by omega⟩ | exact .inr ⟨by omega, by omega⟩ | exact .inr ⟨by decide, by decide⟩)
  | with_reducible refine q_eqS ?_
  | with_reducible refine q_neS ?_
  | with_reducible refine q_brk ?_
  | with_reducible refine q_ct ?_
  | with_reducible refine q_bk ?_
  | with_reducible refine q_cn ?_
  | with_reducible refine q_retN ?_
  | with_reducible refine q_gSub ?_
  | with_reducible refine q_for ?_
  | with_reducible refine q_iList ?_
  | with_reducible refine q_iTup ?_
  | with_reducible refine q_iRng1 ?_
  | with_reducible refine q_notK ?_
  | with_reducible refine q_orVT ?_
  | with_reducible refine q_orVF ?_
  | with_reducible refine q_notV ?_
  | with_reducible refine q_notVK ?_
  | with_reducible refine q_ifE ?_
  | with_reducible refine q_ifET ?_
  | with_reducible refine q_ifEF ?_
  | with_reducible refine q_yes ?_
  | with_reducible refine q_un ?_
  | with_reducible refine q_rU ?_
  | with_reducible refine q_abs ?_
  | with_reducible refine q_int1 ?_
  | with_reducible refine q_bm ?_
  | with_reducible refine q_bm0 ?_
  | with_reducible refine q_lc ?_
  | with_reducible refine q_keepT ?_
  | with_reducible refine q_keepF ?_
  | ((with_reducible apply q_aug); (focus (exact rfl)))
  | with_reducible refine q_ipI ?_
  | with_reducible refine q_chain ?_
  | with_reducible refine q_pairC ?_
  | with_reducible refine q_pairsK ?_
  | with_reducible refine q_pairN ?_
  | with_reducible refine q_fld ?_
  | with_reducible refine q_sFld ?_
  | with_reducible refine q_meth ?_
  | with_reducible refine q_makeK ?_
  | with_reducible refine q_isBl ?_
  | with_reducible refine q_notBl ?_
  | with_reducible refine q_sl ?_
  | with_reducible refine q_noPart ?_
  | with_reducible refine q_part ?_
  | with_reducible refine q_partK ?_
  | ((with_reducible apply q_mulStr); (focus (decide +kernel)))
  | with_reducible refine q_chT ?_
  | with_reducible refine q_chF ?_
  | with_reducible refine q_ord ?_
  | with_reducible refine q_iStr0 ?_
  | with_reducible refine q_iStr ?_
  | with_reducible refine q_tDIn ?_
  | with_reducible refine q_tDNotIn ?_
  | with_reducible refine q_tDGet ?_
  | with_reducible refine q_tDGet2 ?_
  | with_reducible refine q_tDGet1 ?_
  | with_reducible refine q_tDSetd ?_
  | ((with_reducible apply q_dG2a); (focus ((repeat first | (with_reducible exact upd_same) | (with_reducible assumption) | (with_reducible apply upd_new (by assumption)) | (with_reducible apply upd_other (by first | assumption | exact Ne.symm (by assumption))) | (with_reducible refine' Kp.get (by assumption) ?_ (by first | assumption | exact Ne.symm (by assumption))) | (with_reducible apply Same.get (by assumption))); done)))
  | ((with_reducible apply q_dSda); (focus ((repeat first | (with_reducible exact upd_same) | (with_reducible assumption) | (with_reducible apply upd_new (by assumption)) | (with_reducible apply upd_other (by first | assumption | exact Ne.symm (by assumption))) | (with_reducible refine' Kp.get (by assumption) ?_ (by first | assumption | exact Ne.symm (by assumption))) | (with_reducible apply Same.get (by assumption))); done)))
  | with_reducible refine q_sDPut ?_
  | ((with_reducible apply q_dInS); (focus ((repeat first | (with_reducible exact upd_same) | (with_reducible assumption) | (with_reducible apply upd_new (by assumption)) | (with_reducible apply upd_other (by first | assumption | exact Ne.symm (by assumption))) | (with_reducible refine' Kp.get (by assumption) ?_ (by first | assumption | exact Ne.symm (by assumption))) | (with_reducible apply Same.get (by assumption))); done)))
  | ((with_reducible apply q_dNInS); (focus ((repeat first | (with_reducible exact upd_same) | (with_reducible assumption) | (with_reducible apply upd_new (by assumption)) | (with_reducible apply upd_other (by first | assumption | exact Ne.symm (by assumption))) | (with_reducible refine' Kp.get (by assumption) ?_ (by first | assumption | exact Ne.symm (by assumption))) | (with_reducible apply Same.get (by assumption))); done)))
  | ((with_reducible apply q_dInI); (focus ((repeat first | (with_reducible exact upd_same) | (with_reducible assumption) | (with_reducible apply upd_new (by assumption)) | (with_reducible apply upd_other (by first | assumption | exact Ne.symm (by assumption))) | (with_reducible refine' Kp.get (by assumption) ?_ (by first | assumption | exact Ne.symm (by assumption))) | (with_reducible apply Same.get (by assumption))); done)))
  | ((with_reducible apply q_dNInI); (focus ((repeat first | (with_reducible exact upd_same) | (with_reducible assumption) | (with_reducible apply upd_new (by assumption)) | (with_reducible apply upd_other (by first | assumption | exact Ne.symm (by assumption))) | (with_reducible refine' Kp.get (by assumption) ?_ (by first | assumption | exact Ne.symm (by assumption))) | (with_reducible apply Same.get (by assumption))); done)))
  | ((with_reducible apply q_bmL); (focus ((repeat first | (with_reducible exact upd_same) | (with_reducible assumption) | (with_reducible apply upd_new (by assumption)) | (with_reducible apply upd_other (by first | assumption | exact Ne.symm (by assumption))) | (with_reducible refine' Kp.get (by assumption) ?_ (by first | assumption | exact Ne.symm (by assumption))) | (with_reducible apply Same.get (by assumption))); done)))
  | ((with_reducible apply q_bmL0); (focus ((repeat first | (with_reducible exact upd_same) | (with_reducible assumption) | (with_reducible apply upd_new (by assumption)) | (with_reducible apply upd_other (by first | assumption | exact Ne.symm (by assumption))) | (with_reducible refine' Kp.get (by assumption) ?_ (by first | assumption | exact Ne.symm (by assumption))) | (with_reducible apply Same.get (by assumption))); done)))
  | ((with_reducible apply q_ixLt); (focus ((repeat first | (with_reducible exact upd_same) | (with_reducible assumption) | (with_reducible apply upd_new (by assumption)) | (with_reducible apply upd_other (by first | assumption | exact Ne.symm (by assumption))) | (with_reducible refine' Kp.get (by assumption) ?_ (by first | assumption | exact Ne.symm (by assumption))) | (with_reducible apply Same.get (by assumption))); done)); (focus (exact rfl)))
  | ((with_reducible apply q_ixTt); (focus ((repeat first | (with_reducible exact upd_same) | (with_reducible assumption) | (with_reducible apply upd_new (by assumption)) | (with_reducible apply upd_other (by first | assumption | exact Ne.symm (by assumption))) | (with_reducible refine' Kp.get (by assumption) ?_ (by first | assumption | exact Ne.symm (by assumption))) | (with_reducible apply Same.get (by assumption))); done)); (focus (exact rfl)))
  | ((with_reducible apply q_lenLt); (focus ((repeat first | (with_reducible exact upd_same) | (with_reducible assumption) | (with_reducible apply upd_new (by assumption)) | (with_reducible apply upd_other (by first | assumption | exact Ne.symm (by assumption))) | (with_reducible refine' Kp.get (by assumption) ?_ (by first | assumption | exact Ne.symm (by assumption))) | (with_reducible apply Same.get (by assumption))); done)))
  | ((with_reducible apply q_lenTt); (focus ((repeat first | (with_reducible exact upd_same) | (with_reducible assumption) | (with_reducible apply upd_new (by assumption)) | (with_reducible apply upd_other (by first | assumption | exact Ne.symm (by assumption))) | (with_reducible refine' Kp.get (by assumption) ?_ (by first | assumption | exact Ne.symm (by assumption))) | (with_reducible apply Same.get (by assumption))); done)))
  | ((with_reducible apply q_append); (focus ((repeat first | (with_reducible exact upd_same) | (with_reducible assumption) | (with_reducible apply upd_new (by assumption)) | (with_reducible apply upd_other (by first | assumption | exact Ne.symm (by assumption))) | (with_reducible refine' Kp.get (by assumption) ?_ (by first | assumption | exact Ne.symm (by assumption))) | (with_reducible apply Same.get (by assumption))); done)); (focus ((first | (exact Nat.lt_of_ble_eq_true rfl) | (simp only [List.length_append, List.length_cons, List.length_nil, List.length_map]; exact small1000 (by omega))))))
  | ((with_reducible apply q_setL); (focus ((repeat first | (with_reducible exact upd_same) | (with_reducible assumption) | (with_reducible apply upd_new (by assumption)) | (with_reducible apply upd_other (by first | assumption | exact Ne.symm (by assumption))) | (with_reducible refine' Kp.get (by assumption) ?_ (by first | assumption | exact Ne.symm (by assumption))) | (with_reducible apply Same.get (by assumption))); done)); (focus (exact rfl)))
  | with_reducible refine q_ifNT ?_
  | with_reducible refine q_ifNF ?_
  | with_reducible refine q_andNT ?_
  | with_reducible refine q_andNF ?_
  | with_reducible refine q_orNT ?_
  | with_reducible refine q_orNF ?_
  | with_reducible refine q_bKNT ?_
  | with_reducible refine q_bKNF ?_
  | with_reducible refine q_tNGet ?_
  | with_reducible refine q_tNIn ?_
  | with_reducible refine q_sNPut ?_
  | with_reducible refine q_sFldAug ?_
  | with_reducible refine q_sDAug ?_
  | with_reducible refine q_sDDel ?_
  | with_reducible refine q_forX ?_
  | with_reducible refine q_tMake ?_
  | ((with_reducible apply q_dG1a); (focus ((repeat first | (with_reducible exact upd_same) | (with_reducible assumption) | (with_reducible apply upd_new (by assumption)) | (with_reducible apply upd_other (by first | assumption | exact Ne.symm (by assumption))) | (with_reducible refine' Kp.get (by assumption) ?_ (by first | assumption | exact Ne.symm (by assumption))) | (with_reducible apply Same.get (by assumption))); done)))))
open TL
theorem nodup_at {α : Type} {T : List α} (h : T.Nodup) {i j : Nat} {k : α} (hi : T[i]? = some k) (hj : T[j]? = some k) : i = j := by
  obtain ⟨h1, e1⟩ := List.getElem?_eq_some_iff.mp hi
  obtain ⟨h2, e2⟩ := List.getElem?_eq_some_iff.mp hj
  rcases Nat.lt_trichotomy i j with l | l | l
  · exact absurd (e1.trans e2.symm) (List.pairwise_iff_getElem.mp h i j h1 h2 l)
  · exact l
  · exact absurd (e2.trans e1.symm) (List.pairwise_iff_getElem.mp h j i h2 h1 l)

/-! roots -/
def mid (n : Nat) : Nat := if 32 < n then 32 else if 16 < n then 16 else if 8 < n then 8 else if 4 < n then 4 else if 2 < n then 2 else 1
theorem mid_ok {n : Nat} (h : 2 ≤ n) (h2 : n ≤ 64) : 1 ≤ mid n ∧ mid n < n ∧ n - mid n ≤ mid n := by
  unfold mid
  repeat' split
  all_goals omega
theorem mid_pow {n m : Nat} (h : 2 ≤ n) (h2 : n ≤ 2 ^ (m + 1)) (h3 : n ≤ 64) (hm : m ≤ 5) : mid n ≤ 2 ^ m := by
  have : m = 0 ∨ m = 1 ∨ m = 2 ∨ m = 3 ∨ m = 4 ∨ m = 5 := by omega
  unfold mid
  rcases this with rfl | rfl | rfl | rfl | rfl | rfl <;> simp at h2 ⊢ <;> (repeat' split) <;> omega
def kE : NestedKey := .tup [.text "empty"]
def kL (x : Int) : NestedKey := .tup [.text "leaf", .num x]
def kN (l r : Nat) : NestedKey := .tup [.text "node", .num l, .num r]
inductive Rt (T : List NestedKey) : List Int → Nat → Prop
  | empty {i : Nat} : T[i]? = some kE → Rt T [] i
  | leaf {x : Int} {i : Nat} : T[i]? = some (kL x) → Rt T [x] i
  | node {xs : List Int} {l r i : Nat} : 2 ≤ xs.length → Rt T (xs.take (mid xs.length)) l → Rt T (xs.drop (mid xs.length)) r → T[i]? = some (kN l r) → Rt T xs i
theorem pre_at {α : Type} {T T' : List α} (h : T <+: T') {i : Nat} {k : α} (hi : T[i]? = some k) : T'[i]? = some k := by
  obtain ⟨E, rfl⟩ := h
  rw [List.getElem?_append_left (List.getElem?_eq_some_iff.mp hi).1]
  exact hi
theorem Rt.mono {T T' : List NestedKey} (h : T <+: T') {xs : List Int} {i : Nat} (r : Rt T xs i) : Rt T' xs i := by
  induction r with
  | empty e => exact .empty (pre_at h e)
  | leaf e => exact .leaf (pre_at h e)
  | node hl _ _ e i1 i2 => exact .node hl i1 i2 (pre_at h e)
theorem Rt.at_ {T : List NestedKey} {xs : List Int} {i : Nat} (r : Rt T xs i) : i < T.length := by
  cases r with
  | empty e => exact (List.getElem?_eq_some_iff.mp e).1
  | leaf e => exact (List.getElem?_eq_some_iff.mp e).1
  | node _ _ _ e => exact (List.getElem?_eq_some_iff.mp e).1
theorem kL_kE {x : Int} : kL x ≠ kE := by intro h; injection h with h; injection h with _ h; cases h
theorem kN_kE {l r : Nat} : kN l r ≠ kE := by intro h; injection h with h; injection h with _ h; cases h
theorem kN_kL {l r : Nat} {x : Int} : kN l r ≠ kL x := by intro h; injection h with h; injection h with _ h; injection h with _ h; cases h
theorem kL_inj {x y : Int} (h : kL x = kL y) : x = y := by injection h with h; injection h with _ h; injection h with h _; injection h
theorem kN_inj {a b c d : Nat} (h : kN a b = kN c d) : a = c ∧ b = d := by
  injection h with h
  injection h with _ h
  injection h with h1 h
  injection h with h2 _
  injection h1 with h1
  injection h2 with h2
  exact ⟨Int.ofNat.inj h1, Int.ofNat.inj h2⟩
theorem at_inj {α : Type} {T : List α} {i : Nat} {a b : α} (h1 : T[i]? = some a) (h2 : T[i]? = some b) : a = b := Option.some.inj (h1.symm.trans h2)
theorem Rt.inj {T : List NestedKey} {xs : List Int} {i : Nat} (r : Rt T xs i) : ∀ {ys : List Int}, Rt T ys i → xs = ys := by
  induction r with
  | empty e =>
    intro ys s
    cases s with
    | empty _ => rfl
    | leaf e2 => exact absurd (at_inj e2 e) kL_kE
    | node _ _ _ e2 => exact absurd (at_inj e2 e) kN_kE
  | leaf e =>
    intro ys s
    cases s with
    | empty e2 => exact absurd (at_inj e e2) kL_kE
    | leaf e2 => rw [kL_inj (at_inj e e2)]
    | node _ _ _ e2 => exact absurd (at_inj e2 e) kN_kL
  | @node xs l r i hl _ _ e i1 i2 =>
    intro ys s
    cases s with
    | empty e2 => exact absurd (at_inj e e2) kN_kE
    | leaf e2 => exact absurd (at_inj e e2) kN_kL
    | node hl2 s1 s2 e2 =>
      obtain ⟨rfl, rfl⟩ := kN_inj (at_inj e e2)
      have a := i1 s1
      have b := i2 s2
      rw [← List.take_append_drop (mid xs.length) xs, a, b, List.take_append_drop]
theorem Rt.fn {T : List NestedKey} (hu : T.Nodup) {xs : List Int} {i : Nat} (r : Rt T xs i) : ∀ {j : Nat}, Rt T xs j → i = j := by
  induction r with
  | empty e =>
    intro j s
    cases s with
    | empty e2 => exact nodup_at hu e e2
    | node h _ _ _ => simp at h
  | leaf e =>
    intro j s
    cases s with
    | leaf e2 => exact nodup_at hu e e2
    | node h _ _ _ => simp at h
  | @node xs l r i hl _ _ e i1 i2 =>
    intro j s
    cases s with
    | empty e2 => simp at hl
    | leaf e2 => simp at hl
    | node hl2 s1 s2 e2 =>
      obtain rfl := i1 s1
      obtain rfl := i2 s2
      exact nodup_at hu e e2
theorem numL_small {n : Nat} (h : n < 10 ^ 64) : (numL n).length ≤ 64 := by
  unfold numL
  rw [List.length_map]
  exact PyProof.Rows.digits10_le (k := 64) (by decide) h
theorem big64 {n : Nat} (h : n < 1000000) : n < 10 ^ 64 := Nat.lt_of_lt_of_le h (by decide +kernel)
theorem okE : OkK kE := ⟨rfl, ⟨trivial, trivial⟩, by decide +kernel, by decide +kernel⟩
theorem okL {x : Int} (h : x.natAbs < 1000000) : OkK (kL x) := by
  refine ⟨rfl, ⟨trivial, big64 h, trivial⟩, ?_, by show 2 + (1 + 1 + (1 + 1 + 0)) ≤ _; decide⟩
  have e : (intL x).length ≤ 65 := by
    unfold intL
    rw [List.length_append]
    have := numL_small (big64 h)
    split <;> simp <;> omega
  show (((numL 4 ++ 58 :: tl (Str.ofString "leaf")) ++ 44 :: (intL x ++ [])) ++ [41]).length + 1 ≤ _
  rw [List.append_nil, List.length_append, List.length_append, List.length_cons]
  have e2 : (numL 4 ++ 58 :: tl (Str.ofString "leaf")).length = 6 := by decide +kernel
  rw [e2]
  show 6 + ((intL x).length + 1) + 1 + 1 ≤ _
  omega
theorem okN {l r : Nat} (h1 : l < 1000000) (h2 : r < 1000000) : OkK (kN l r) := by
  refine ⟨rfl, ⟨trivial, big64 h1, big64 h2, trivial⟩, ?_, by show 2 + (1 + 1 + (1 + 1 + (1 + 1 + 0))) ≤ _; decide⟩
  have e : ∀ n : Nat, n < 1000000 → (intL (n : Int)).length ≤ 65 := fun n h => by
    unfold intL
    rw [List.length_append]
    have := numL_small (big64 h)
    show _ + (numL n).length ≤ 65
    split <;> simp <;> omega
  have a := e l h1
  have b := e r h2
  show (((numL 4 ++ 58 :: tl (Str.ofString "node")) ++ 44 :: (intL (l : Int) ++ 44 :: (intL (r : Int) ++ []))) ++ [41]).length + 1 ≤ _
  rw [List.append_nil, List.length_append, List.length_append, List.length_cons]
  have e2 : (numL 4 ++ 58 :: tl (Str.ofString "node")).length = 6 := by decide +kernel
  rw [e2, List.length_append, List.length_cons]
  show 6 + ((intL (l : Int)).length + ((intL (r : Int)).length + 1) + 1) + 1 + 1 ≤ _
  omega

/-! roots: the defs -/
theorem Kq.refl {p q : Addr} {H : Hp} : Kq p q H H := fun b o h _ _ => h
theorem Kq.trans {p q : Addr} {H H1 H2 : Hp} (a : Kq p q H H1) (b : Kq p q H1 H2) : Kq p q H H2 := fun c o h n1 n2 => b c o (a c o h n1 n2) n1 n2
theorem Kq.new {p q c : Addr} {H H' : Hp} {o : HO} (e : Kq p q H H') (h : H c = none) : Kq p q H (upd H' c o) := fun b o hb n1 n2 => upd_other (ne_of_none hb h) (e b o hb n1 n2)
def sp_left : Sp := fun vs H Q _ => ∃ n : Nat, vs = [.int (n : Int)] ∧ 2 ≤ n ∧ n ≤ 64 ∧ Q (.int (mid n : Nat)) H
def sp_root (K : PySem.W.Frag) (C : Addr) (m : Nat) : Sp := fun vs H Q _ => ∃ (d vl nd a : Addr) (T : List NestedKey) (xs : List Int), vs = [.ref d, .ref a] ∧ DigAt C H d vl nd T ∧ H a = some (.lst (xs.map V.int)) ∧ a ≠ vl ∧ xs.length ≤ 2 ^ m ∧ xs.length ≤ 64 ∧
  (∀ x ∈ xs, x.natAbs < 1000000) ∧ T.length + 2 * xs.length + 2 ≤ 90000 ∧
  ∀ (H' : Hp) (T' : List NestedKey) (i : Nat), T <+: T' → DigAt C H' d vl nd T' → Rt T' xs i → T'.length + 1 ≤ T.length + max 2 (2 * xs.length) → Kq vl nd H H' → Q (.int (i : Nat)) H'
theorem num_use {K : PySem.W.Frag} {C : Addr} {H : Hp} {d vl nd : Addr} {T : List NestedKey} {k : NestedKey} {v : V} {Q : VK} {E : XK} (hD : DigAt C H d vl nd T) (hV : NV H k v) (hk : OkK k) (hl : T.length ≤ 90000)
    (kk : ∀ (H' : Hp) (T' : List NestedKey) (i : Nat), T <+: T' → T'.length ≤ T.length + 1 → DigAt C H' d vl nd T' → T'[i]? = some k → Kq vl nd H H' → Q (.int (i : Nat)) H') : sp_dgN K C [.ref d, v] H Q E :=
  ⟨d, vl, nd, T, k, v, rfl, hD, hV, hk, hl, fun j hj H' sm => kk H' T j (List.prefix_refl _) (Nat.le_succ _) (hD.same sm) hj (Kq.same sm),
    fun _ H' dg kq => kk H' (T ++ [k]) T.length (List.prefix_append _ _) (by rw [List.length_append]; exact Nat.le_refl _) dg (by rw [List.getElem?_append_right (Nat.le_refl _), Nat.sub_self]; rfl) kq⟩
theorem bits_mid : ∀ n : Nat, n < 65 → 2 ≤ n → (1 : Int) * 2 ^ ((Builtin.Int.intBits ((n : Int) - 1) : Nat) - 1 : Int).toNat = (mid n : Nat) ∧ 0 ≤ ((Builtin.Int.intBits ((n : Int) - 1) : Nat) - 1 : Int) ∧ ((Builtin.Int.intBits ((n : Int) - 1) : Nat) - 1 : Int) ≤ 1000000 := by decide +kernel
theorem pre_len {α : Type} {T T' : List α} (h : T <+: T') : T.length ≤ T'.length := h.length_le
section
variable {P : Program} {w : World} {K : PySem.W.Frag} {mg : Str → Option Value} {base : Heap}
theorem ok_left_size (T : Txt K mg) : FnOk P w K mg base CX0 1 T.f_left_size T.d_left_size ["size"] sp_left := by
  refine T.F_left_size.ok sc_left_size (fun vs H Q E h => ?_) (fun cdv A outer s H vs Q E hr h => ?_)
  · obtain ⟨n, rfl, _⟩ := h; rfl
  · obtain ⟨n, rfl, h2, h64, k⟩ := h
    obtain ⟨b1, b2, b3⟩ := bits_mid n (by omega) h2
    refine ⟨_, (pss_one (ps_ret (pe_op op_shl pe_int (pe_op op_sub (pe_bits (pe_op op_sub (pv 0) pe_int)) pe_int)))), ?_⟩
    (dsimp only [cxOf, Cx.nox, Cx.wish, L2.start, List.map, List.length, List.replicate, List.cons_append, List.nil_append, List.append_eq, Nat.reduceSub, Nat.reduceAdd])
    walk_at "my_rd"
    unfold tBits
    walk_at "my_rd"
    refine ⟨_, rfl, ?_⟩
    walk_at "my_rd"
    rw [b1]
    exact k
theorem ok_root0 (T : Txt K mg) : FnOk P w K mg base CX0 5 T.f_root T.d_root ["digests", "leaves"] (sp_root K T.C_Digests 0) := by
  refine T.F_root.ok sc_root (fun vs H Q E h => ?_) (fun cdv A outer s H vs Q E hr h => ?_)
  · obtain ⟨d, vl, nd, a, T, xs, rfl, _⟩ := h; rfl
  · obtain ⟨d, vl, nd, a, TT, xs, rfl, hD, ha, hav, hm, h64, hx, hT, k⟩ := h
    obtain ⟨dx, ho⟩ := hD.o
    refine ⟨_, (pss_cons (ps_if (pt_not (pt_truth (pv 1) (by intro _; rfl))) (pss_one (ps_ret (pe_meth (pv 0) T.cl_Digests T.m_Digests_number (ok_Digests_number T) (hr.mono (by decide)) T.b_Digests_number .nil pass0 (pa_cons (pe_tup (pa_cons pe_str pa_nil)) pa_nil)))) pss_nil)
      (pss_cons (ps_if (pt_cmpR op_eq (pe_callB cq_len (by rfl) T.z_len boot_len (pa_cons (pv 1) pa_nil)) pe_int (nomark _)) (pss_one (ps_ret (pe_meth (pv 0) T.cl_Digests T.m_Digests_number (ok_Digests_number T) (hr.mono (by decide)) T.b_Digests_number .nil pass0 (pa_cons (pe_tup (pa_cons pe_str (pa_cons (pe_ix ix_list (pv 1) pe_int (fun _ _ => rfl)) pa_nil))) pa_nil)))) pss_nil)
      (pss_cons ps_never
      (pss_cons ps_never
      (pss_cons ps_never
      (pss_one ps_never)))))), ?_⟩
    (dsimp only [cxOf, Cx.nox, Cx.wish, L2.start, List.map, List.length, List.replicate, List.cons_append, List.nil_append, List.append_eq, Nat.reduceSub, Nat.reduceAdd])
    walk_at "my_rd"
    refine ⟨_, .inl ⟨_, sqL ha, rfl⟩, ?_⟩
    cases xs with
    | nil =>
      rw [show (!(List.map V.int ([] : List Int)).isEmpty) = false from rfl]
      walk_at "my_rd"
      refine q_methK ho (lkd (by decide +kernel) (by decide +kernel)) fun R hR => ?_
      walk_at "my_rd"
      refine q_tupK (Nat.le_of_ble_eq_true rfl) fun t nt => ?_
      refine hR _ _ (num_use (k := kE) (hD.same (Same.new (Same.refl _) nt)) (.tup upd_same (.cons (.str _) .nil)) okE (by simp at hT; omega) fun H' T' i pre hl dg hat kq => ?_)
      walk_at "my_rd"
      exact k H' T' i pre dg (.empty hat) (by simp; omega) (Kq.trans (Kq.new Kq.refl nt) kq)
    | cons x ys =>
      cases ys with
      | nil =>
        rw [show (!(List.map V.int [x]).isEmpty) = true from rfl]
        walk_at "my_rd"
        rw [decide_eq_true (by simp)]
        walk_at "my_rd"
        refine q_methK ho (lkd (by decide +kernel) (by decide +kernel)) fun R hR => ?_
        walk_at "my_rd"
        refine q_tupK (Nat.le_of_ble_eq_true rfl) fun t nt => ?_
        refine hR _ _ (num_use (k := kL x) (hD.same (Same.new (Same.refl _) nt)) (.tup upd_same (.cons (.str _) (.cons (.int x) .nil))) (okL (hx x List.mem_cons_self)) (by simp at hT; omega) fun H' T' i pre hl dg hat kq => ?_)
        walk_at "my_rd"
        exact k H' T' i pre dg (.leaf hat) (by simp; omega) (Kq.trans (Kq.new Kq.refl nt) kq)
      | cons y zs =>
        exact absurd hm (by simp)
theorem ok_root1 (T : Txt K mg) : FnOk P w K mg base CX0 6 T.f_root T.d_root ["digests", "leaves"] (sp_root K T.C_Digests 1) := by
  obtain ⟨mIH, hmIH⟩ : ∃ n : Nat, n = 0 := ⟨_, rfl⟩
  have ok_rootIH : ∀ T : Txt K mg, FnOk P w K mg base CX0 5 T.f_root T.d_root ["digests", "leaves"] (sp_root K T.C_Digests mIH) := by subst hmIH; exact fun T => ok_root0 T
  refine T.F_root.ok sc_root (fun vs H Q E h => ?_) (fun cdv A outer s H vs Q E hr h => ?_)
  · obtain ⟨d, vl, nd, a, T, xs, rfl, _⟩ := h; rfl
  · obtain ⟨d, vl, nd, a, TT, xs, rfl, hD, ha, hav, hm, h64, hx, hT, k⟩ := h
    obtain ⟨dx, ho⟩ := hD.o
    refine ⟨_, (pss_cons (ps_if (pt_not (pt_truth (pv 1) (by intro _; rfl))) (pss_one (ps_ret (pe_meth (pv 0) T.cl_Digests T.m_Digests_number (ok_Digests_number T) (hr.mono (by decide)) T.b_Digests_number .nil pass0 (pa_cons (pe_tup (pa_cons pe_str pa_nil)) pa_nil)))) pss_nil)
      (pss_cons (ps_if (pt_cmpR op_eq (pe_callB cq_len (by rfl) T.z_len boot_len (pa_cons (pv 1) pa_nil)) pe_int (nomark _)) (pss_one (ps_ret (pe_meth (pv 0) T.cl_Digests T.m_Digests_number (ok_Digests_number T) (hr.mono (by decide)) T.b_Digests_number .nil pass0 (pa_cons (pe_tup (pa_cons pe_str (pa_cons (pe_ix ix_list (pv 1) pe_int (fun _ _ => rfl)) pa_nil))) pa_nil)))) pss_nil)
      (pss_cons (ps_set (i := 2) sc_root.nd rfl (Or.inl rfl) (pe_call (ok_left_size T) (hr.mono (by decide)) (by rfl) T.g_left_size T.F_left_size.kp T.b_left_size .nil pass0 (pa_cons (pe_callB cq_len (by rfl) T.z_len boot_len (pa_cons (pv 1) pa_nil)) pa_nil)))
      (pss_cons (ps_set (i := 3) sc_root.nd rfl (Or.inl rfl) (pe_call (ok_rootIH T) (hr.mono (by decide)) (by rfl) T.g_root T.F_root.kp T.b_root .nil pass0 (pa_cons (pv 0) (pa_cons (pe_slice sl_list (pv 1) po_none (po_some (pv 2))) pa_nil))))
      (pss_cons (ps_set (i := 4) sc_root.nd rfl (Or.inl rfl) (pe_call (ok_rootIH T) (hr.mono (by decide)) (by rfl) T.g_root T.F_root.kp T.b_root .nil pass0 (pa_cons (pv 0) (pa_cons (pe_slice sl_list (pv 1) (po_some (pv 2)) po_none) pa_nil))))
      (pss_one (ps_ret (pe_meth (pv 0) T.cl_Digests T.m_Digests_number (ok_Digests_number T) (hr.mono (by decide)) T.b_Digests_number .nil pass0 (pa_cons (pe_tup (pa_cons pe_str (pa_cons (pv 3) (pa_cons (pv 4) pa_nil)))) pa_nil))))))))), ?_⟩
    (dsimp only [cxOf, Cx.nox, Cx.wish, L2.start, List.map, List.length, List.replicate, List.cons_append, List.nil_append, List.append_eq, Nat.reduceSub, Nat.reduceAdd])
    walk_at "my_rd"
    refine ⟨_, .inl ⟨_, sqL ha, rfl⟩, ?_⟩
    cases xs with
    | nil =>
      rw [show (!(List.map V.int ([] : List Int)).isEmpty) = false from rfl]
      walk_at "my_rd"
      refine q_methK ho (lkd (by decide +kernel) (by decide +kernel)) fun R hR => ?_
      walk_at "my_rd"
      refine q_tupK (Nat.le_of_ble_eq_true rfl) fun t nt => ?_
      refine hR _ _ (num_use (k := kE) (hD.same (Same.new (Same.refl _) nt)) (.tup upd_same (.cons (.str _) .nil)) okE (by simp at hT; omega) fun H' T' i pre hl dg hat kq => ?_)
      walk_at "my_rd"
      exact k H' T' i pre dg (.empty hat) (by simp; omega) (Kq.trans (Kq.new Kq.refl nt) kq)
    | cons x ys =>
      cases ys with
      | nil =>
        rw [show (!(List.map V.int [x]).isEmpty) = true from rfl]
        walk_at "my_rd"
        rw [decide_eq_true (by simp)]
        walk_at "my_rd"
        refine q_methK ho (lkd (by decide +kernel) (by decide +kernel)) fun R hR => ?_
        walk_at "my_rd"
        refine q_tupK (Nat.le_of_ble_eq_true rfl) fun t nt => ?_
        refine hR _ _ (num_use (k := kL x) (hD.same (Same.new (Same.refl _) nt)) (.tup upd_same (.cons (.str _) (.cons (.int x) .nil))) (okL (hx x List.mem_cons_self)) (by simp at hT; omega) fun H' T' i pre hl dg hat kq => ?_)
        walk_at "my_rd"
        exact k H' T' i pre dg (.leaf hat) (by simp; omega) (Kq.trans (Kq.new Kq.refl nt) kq)
      | cons y zs =>
        rw [show (!(List.map V.int (x :: y :: zs)).isEmpty) = true from rfl]
        walk_at "my_rd"
        rw [decide_eq_false (by simp; omega)]
        walk_at "my_rd"
        have hlen : 2 ≤ (x :: y :: zs).length := by simp
        generalize hxs : x :: y :: zs = xs at *
        clear hxs x y zs
        obtain ⟨mo1, mo2, mo3⟩ := mid_ok hlen h64
        have mo4 := mid_pow hlen hm h64 (by decide)
        refine ⟨xs.length, by rw [List.length_map], hlen, h64, ?_⟩
        walk_at "my_rd"
        have lx : (xs.map V.int).length = xs.length := List.length_map ..
        obtain ⟨vs0, hvl0, _⟩ := hD.v
        refine q_slL (sqL ha) fun p1 np1 => ?_
        rw [cut_take (by rw [lx]; omega), ← List.map_take]
        have sm1 : Same H (upd H p1 (.lst ((xs.take (mid xs.length)).map V.int))) := Same.new (Same.refl _) np1
        have lt : (xs.take (mid xs.length)).length = mid xs.length := by rw [List.length_take]; omega
        have ld : (xs.drop (mid xs.length)).length = xs.length - mid xs.length := List.length_drop ..
        walk_at "my_rd"
        refine ⟨d, vl, nd, p1, TT, _, rfl, hD.same sm1, upd_same, (ne_of_none hvl0 np1).symm, by rw [hmIH, lt]; exact mo4, by omega, fun z hz => hx z (List.mem_of_mem_take hz), by omega, fun H1 T1 l pre1 dg1 rt1 hl1 kq1 => ?_⟩
        have kqA : Kq vl nd H H1 := Kq.trans (Kq.same sm1) kq1
        have ha1 : H1 a = some (.lst (xs.map V.int)) := kqA _ _ ha hav (ne_of ha hD.n (by intro z; cases z))
        obtain ⟨vs1, hvl1, _⟩ := dg1.v
        walk_at "my_rd"
        refine q_slL (sqL ha1) fun p2 np2 => ?_
        rw [cut_drop (by rw [lx]; omega), ← List.map_drop]
        have sm2 : Same H1 (upd H1 p2 (.lst ((xs.drop (mid xs.length)).map V.int))) := Same.new (Same.refl _) np2
        walk_at "my_rd"
        rw [lt] at hl1
        refine ⟨d, vl, nd, p2, T1, _, rfl, dg1.same sm2, upd_same, (ne_of_none hvl1 np2).symm, by rw [hmIH, ld]; omega, by omega, fun z hz => hx z (List.mem_of_mem_drop hz), by omega, fun H2 T2 r pre2 dg2 rt2 hl2 kq2 => ?_⟩
        rw [ld] at hl2
        have kqB : Kq vl nd H H2 := Kq.trans kqA (Kq.trans (Kq.same sm2) kq2)
        have hl' := (rt1.mono pre2).at_
        have hr' := rt2.at_
        walk_at "my_rd"
        obtain ⟨dx2, ho2⟩ := dg2.o
        refine q_methK ho2 (lkd (by decide +kernel) (by decide +kernel)) fun R hR => ?_
        walk_at "my_rd"
        refine q_tupK (Nat.le_of_ble_eq_true rfl) fun t nt => ?_
        refine hR _ _ (num_use (k := kN l r) (dg2.same (Same.new (Same.refl _) nt)) (.tup upd_same (.cons (.str _) (.cons (.int _) (.cons (.int _) .nil)))) (okN (by omega) (by omega)) (by omega) fun H3 T3 i pre3 hl3 dg3 hat kq3 => ?_)
        walk_at "my_rd"
        exact k H3 T3 i (pre1.trans (pre2.trans pre3)) dg3 (.node hlen (rt1.mono (pre2.trans pre3)) (rt2.mono pre3) hat) (by omega) (Kq.trans kqB (Kq.trans (Kq.new Kq.refl nt) kq3))
theorem ok_root2 (T : Txt K mg) : FnOk P w K mg base CX0 7 T.f_root T.d_root ["digests", "leaves"] (sp_root K T.C_Digests 2) := by
  obtain ⟨mIH, hmIH⟩ : ∃ n : Nat, n = 1 := ⟨_, rfl⟩
  have ok_rootIH : ∀ T : Txt K mg, FnOk P w K mg base CX0 6 T.f_root T.d_root ["digests", "leaves"] (sp_root K T.C_Digests mIH) := by subst hmIH; exact fun T => ok_root1 T
  refine T.F_root.ok sc_root (fun vs H Q E h => ?_) (fun cdv A outer s H vs Q E hr h => ?_)
  · obtain ⟨d, vl, nd, a, T, xs, rfl, _⟩ := h; rfl
  · obtain ⟨d, vl, nd, a, TT, xs, rfl, hD, ha, hav, hm, h64, hx, hT, k⟩ := h
    obtain ⟨dx, ho⟩ := hD.o
    refine ⟨_, (pss_cons (ps_if (pt_not (pt_truth (pv 1) (by intro _; rfl))) (pss_one (ps_ret (pe_meth (pv 0) T.cl_Digests T.m_Digests_number (ok_Digests_number T) (hr.mono (by decide)) T.b_Digests_number .nil pass0 (pa_cons (pe_tup (pa_cons pe_str pa_nil)) pa_nil)))) pss_nil)
      (pss_cons (ps_if (pt_cmpR op_eq (pe_callB cq_len (by rfl) T.z_len boot_len (pa_cons (pv 1) pa_nil)) pe_int (nomark _)) (pss_one (ps_ret (pe_meth (pv 0) T.cl_Digests T.m_Digests_number (ok_Digests_number T) (hr.mono (by decide)) T.b_Digests_number .nil pass0 (pa_cons (pe_tup (pa_cons pe_str (pa_cons (pe_ix ix_list (pv 1) pe_int (fun _ _ => rfl)) pa_nil))) pa_nil)))) pss_nil)
      (pss_cons (ps_set (i := 2) sc_root.nd rfl (Or.inl rfl) (pe_call (ok_left_size T) (hr.mono (by decide)) (by rfl) T.g_left_size T.F_left_size.kp T.b_left_size .nil pass0 (pa_cons (pe_callB cq_len (by rfl) T.z_len boot_len (pa_cons (pv 1) pa_nil)) pa_nil)))
      (pss_cons (ps_set (i := 3) sc_root.nd rfl (Or.inl rfl) (pe_call (ok_rootIH T) (hr.mono (by decide)) (by rfl) T.g_root T.F_root.kp T.b_root .nil pass0 (pa_cons (pv 0) (pa_cons (pe_slice sl_list (pv 1) po_none (po_some (pv 2))) pa_nil))))
      (pss_cons (ps_set (i := 4) sc_root.nd rfl (Or.inl rfl) (pe_call (ok_rootIH T) (hr.mono (by decide)) (by rfl) T.g_root T.F_root.kp T.b_root .nil pass0 (pa_cons (pv 0) (pa_cons (pe_slice sl_list (pv 1) (po_some (pv 2)) po_none) pa_nil))))
      (pss_one (ps_ret (pe_meth (pv 0) T.cl_Digests T.m_Digests_number (ok_Digests_number T) (hr.mono (by decide)) T.b_Digests_number .nil pass0 (pa_cons (pe_tup (pa_cons pe_str (pa_cons (pv 3) (pa_cons (pv 4) pa_nil)))) pa_nil))))))))), ?_⟩
    (dsimp only [cxOf, Cx.nox, Cx.wish, L2.start, List.map, List.length, List.replicate, List.cons_append, List.nil_append, List.append_eq, Nat.reduceSub, Nat.reduceAdd])
    walk_at "my_rd"
    refine ⟨_, .inl ⟨_, sqL ha, rfl⟩, ?_⟩
    cases xs with
    | nil =>
      rw [show (!(List.map V.int ([] : List Int)).isEmpty) = false from rfl]
      walk_at "my_rd"
      refine q_methK ho (lkd (by decide +kernel) (by decide +kernel)) fun R hR => ?_
      walk_at "my_rd"
      refine q_tupK (Nat.le_of_ble_eq_true rfl) fun t nt => ?_
      refine hR _ _ (num_use (k := kE) (hD.same (Same.new (Same.refl _) nt)) (.tup upd_same (.cons (.str _) .nil)) okE (by simp at hT; omega) fun H' T' i pre hl dg hat kq => ?_)
      walk_at "my_rd"
      exact k H' T' i pre dg (.empty hat) (by simp; omega) (Kq.trans (Kq.new Kq.refl nt) kq)
    | cons x ys =>
      cases ys with
      | nil =>
        rw [show (!(List.map V.int [x]).isEmpty) = true from rfl]
        walk_at "my_rd"
        rw [decide_eq_true (by simp)]
        walk_at "my_rd"
        refine q_methK ho (lkd (by decide +kernel) (by decide +kernel)) fun R hR => ?_
        walk_at "my_rd"
        refine q_tupK (Nat.le_of_ble_eq_true rfl) fun t nt => ?_
        refine hR _ _ (num_use (k := kL x) (hD.same (Same.new (Same.refl _) nt)) (.tup upd_same (.cons (.str _) (.cons (.int x) .nil))) (okL (hx x List.mem_cons_self)) (by simp at hT; omega) fun H' T' i pre hl dg hat kq => ?_)
        walk_at "my_rd"
        exact k H' T' i pre dg (.leaf hat) (by simp; omega) (Kq.trans (Kq.new Kq.refl nt) kq)
      | cons y zs =>
        rw [show (!(List.map V.int (x :: y :: zs)).isEmpty) = true from rfl]
        walk_at "my_rd"
        rw [decide_eq_false (by simp; omega)]
        walk_at "my_rd"
        have hlen : 2 ≤ (x :: y :: zs).length := by simp
        generalize hxs : x :: y :: zs = xs at *
        clear hxs x y zs
        obtain ⟨mo1, mo2, mo3⟩ := mid_ok hlen h64
        have mo4 := mid_pow hlen hm h64 (by decide)
        refine ⟨xs.length, by rw [List.length_map], hlen, h64, ?_⟩
        walk_at "my_rd"
        have lx : (xs.map V.int).length = xs.length := List.length_map ..
        obtain ⟨vs0, hvl0, _⟩ := hD.v
        refine q_slL (sqL ha) fun p1 np1 => ?_
        rw [cut_take (by rw [lx]; omega), ← List.map_take]
        have sm1 : Same H (upd H p1 (.lst ((xs.take (mid xs.length)).map V.int))) := Same.new (Same.refl _) np1
        have lt : (xs.take (mid xs.length)).length = mid xs.length := by rw [List.length_take]; omega
        have ld : (xs.drop (mid xs.length)).length = xs.length - mid xs.length := List.length_drop ..
        walk_at "my_rd"
        refine ⟨d, vl, nd, p1, TT, _, rfl, hD.same sm1, upd_same, (ne_of_none hvl0 np1).symm, by rw [hmIH, lt]; exact mo4, by omega, fun z hz => hx z (List.mem_of_mem_take hz), by omega, fun H1 T1 l pre1 dg1 rt1 hl1 kq1 => ?_⟩
        have kqA : Kq vl nd H H1 := Kq.trans (Kq.same sm1) kq1
        have ha1 : H1 a = some (.lst (xs.map V.int)) := kqA _ _ ha hav (ne_of ha hD.n (by intro z; cases z))
        obtain ⟨vs1, hvl1, _⟩ := dg1.v
        walk_at "my_rd"
        refine q_slL (sqL ha1) fun p2 np2 => ?_
        rw [cut_drop (by rw [lx]; omega), ← List.map_drop]
        have sm2 : Same H1 (upd H1 p2 (.lst ((xs.drop (mid xs.length)).map V.int))) := Same.new (Same.refl _) np2
        walk_at "my_rd"
        rw [lt] at hl1
        refine ⟨d, vl, nd, p2, T1, _, rfl, dg1.same sm2, upd_same, (ne_of_none hvl1 np2).symm, by rw [hmIH, ld]; omega, by omega, fun z hz => hx z (List.mem_of_mem_drop hz), by omega, fun H2 T2 r pre2 dg2 rt2 hl2 kq2 => ?_⟩
        rw [ld] at hl2
        have kqB : Kq vl nd H H2 := Kq.trans kqA (Kq.trans (Kq.same sm2) kq2)
        have hl' := (rt1.mono pre2).at_
        have hr' := rt2.at_
        walk_at "my_rd"
        obtain ⟨dx2, ho2⟩ := dg2.o
        refine q_methK ho2 (lkd (by decide +kernel) (by decide +kernel)) fun R hR => ?_
        walk_at "my_rd"
        refine q_tupK (Nat.le_of_ble_eq_true rfl) fun t nt => ?_
        refine hR _ _ (num_use (k := kN l r) (dg2.same (Same.new (Same.refl _) nt)) (.tup upd_same (.cons (.str _) (.cons (.int _) (.cons (.int _) .nil)))) (okN (by omega) (by omega)) (by omega) fun H3 T3 i pre3 hl3 dg3 hat kq3 => ?_)
        walk_at "my_rd"
        exact k H3 T3 i (pre1.trans (pre2.trans pre3)) dg3 (.node hlen (rt1.mono (pre2.trans pre3)) (rt2.mono pre3) hat) (by omega) (Kq.trans kqB (Kq.trans (Kq.new Kq.refl nt) kq3))
theorem ok_root3 (T : Txt K mg) : FnOk P w K mg base CX0 8 T.f_root T.d_root ["digests", "leaves"] (sp_root K T.C_Digests 3) := by
  obtain ⟨mIH, hmIH⟩ : ∃ n : Nat, n = 2 := ⟨_, rfl⟩
  have ok_rootIH : ∀ T : Txt K mg, FnOk P w K mg base CX0 7 T.f_root T.d_root ["digests", "leaves"] (sp_root K T.C_Digests mIH) := by subst hmIH; exact fun T => ok_root2 T
  refine T.F_root.ok sc_root (fun vs H Q E h => ?_) (fun cdv A outer s H vs Q E hr h => ?_)
  · obtain ⟨d, vl, nd, a, T, xs, rfl, _⟩ := h; rfl
  · obtain ⟨d, vl, nd, a, TT, xs, rfl, hD, ha, hav, hm, h64, hx, hT, k⟩ := h
    obtain ⟨dx, ho⟩ := hD.o
    refine ⟨_, (pss_cons (ps_if (pt_not (pt_truth (pv 1) (by intro _; rfl))) (pss_one (ps_ret (pe_meth (pv 0) T.cl_Digests T.m_Digests_number (ok_Digests_number T) (hr.mono (by decide)) T.b_Digests_number .nil pass0 (pa_cons (pe_tup (pa_cons pe_str pa_nil)) pa_nil)))) pss_nil)
      (pss_cons (ps_if (pt_cmpR op_eq (pe_callB cq_len (by rfl) T.z_len boot_len (pa_cons (pv 1) pa_nil)) pe_int (nomark _)) (pss_one (ps_ret (pe_meth (pv 0) T.cl_Digests T.m_Digests_number (ok_Digests_number T) (hr.mono (by decide)) T.b_Digests_number .nil pass0 (pa_cons (pe_tup (pa_cons pe_str (pa_cons (pe_ix ix_list (pv 1) pe_int (fun _ _ => rfl)) pa_nil))) pa_nil)))) pss_nil)
      (pss_cons (ps_set (i := 2) sc_root.nd rfl (Or.inl rfl) (pe_call (ok_left_size T) (hr.mono (by decide)) (by rfl) T.g_left_size T.F_left_size.kp T.b_left_size .nil pass0 (pa_cons (pe_callB cq_len (by rfl) T.z_len boot_len (pa_cons (pv 1) pa_nil)) pa_nil)))
      (pss_cons (ps_set (i := 3) sc_root.nd rfl (Or.inl rfl) (pe_call (ok_rootIH T) (hr.mono (by decide)) (by rfl) T.g_root T.F_root.kp T.b_root .nil pass0 (pa_cons (pv 0) (pa_cons (pe_slice sl_list (pv 1) po_none (po_some (pv 2))) pa_nil))))
      (pss_cons (ps_set (i := 4) sc_root.nd rfl (Or.inl rfl) (pe_call (ok_rootIH T) (hr.mono (by decide)) (by rfl) T.g_root T.F_root.kp T.b_root .nil pass0 (pa_cons (pv 0) (pa_cons (pe_slice sl_list (pv 1) (po_some (pv 2)) po_none) pa_nil))))
      (pss_one (ps_ret (pe_meth (pv 0) T.cl_Digests T.m_Digests_number (ok_Digests_number T) (hr.mono (by decide)) T.b_Digests_number .nil pass0 (pa_cons (pe_tup (pa_cons pe_str (pa_cons (pv 3) (pa_cons (pv 4) pa_nil)))) pa_nil))))))))), ?_⟩
    (dsimp only [cxOf, Cx.nox, Cx.wish, L2.start, List.map, List.length, List.replicate, List.cons_append, List.nil_append, List.append_eq, Nat.reduceSub, Nat.reduceAdd])
    walk_at "my_rd"
    refine ⟨_, .inl ⟨_, sqL ha, rfl⟩, ?_⟩
    cases xs with
    | nil =>
      rw [show (!(List.map V.int ([] : List Int)).isEmpty) = false from rfl]
      walk_at "my_rd"
      refine q_methK ho (lkd (by decide +kernel) (by decide +kernel)) fun R hR => ?_
      walk_at "my_rd"
      refine q_tupK (Nat.le_of_ble_eq_true rfl) fun t nt => ?_
      refine hR _ _ (num_use (k := kE) (hD.same (Same.new (Same.refl _) nt)) (.tup upd_same (.cons (.str _) .nil)) okE (by simp at hT; omega) fun H' T' i pre hl dg hat kq => ?_)
      walk_at "my_rd"
      exact k H' T' i pre dg (.empty hat) (by simp; omega) (Kq.trans (Kq.new Kq.refl nt) kq)
    | cons x ys =>
      cases ys with
      | nil =>
        rw [show (!(List.map V.int [x]).isEmpty) = true from rfl]
        walk_at "my_rd"
        rw [decide_eq_true (by simp)]
        walk_at "my_rd"
        refine q_methK ho (lkd (by decide +kernel) (by decide +kernel)) fun R hR => ?_
        walk_at "my_rd"
        refine q_tupK (Nat.le_of_ble_eq_true rfl) fun t nt => ?_
        refine hR _ _ (num_use (k := kL x) (hD.same (Same.new (Same.refl _) nt)) (.tup upd_same (.cons (.str _) (.cons (.int x) .nil))) (okL (hx x List.mem_cons_self)) (by simp at hT; omega) fun H' T' i pre hl dg hat kq => ?_)
        walk_at "my_rd"
        exact k H' T' i pre dg (.leaf hat) (by simp; omega) (Kq.trans (Kq.new Kq.refl nt) kq)
      | cons y zs =>
        rw [show (!(List.map V.int (x :: y :: zs)).isEmpty) = true from rfl]
        walk_at "my_rd"
        rw [decide_eq_false (by simp; omega)]
        walk_at "my_rd"
        have hlen : 2 ≤ (x :: y :: zs).length := by simp
        generalize hxs : x :: y :: zs = xs at *
        clear hxs x y zs
        obtain ⟨mo1, mo2, mo3⟩ := mid_ok hlen h64
        have mo4 := mid_pow hlen hm h64 (by decide)
        refine ⟨xs.length, by rw [List.length_map], hlen, h64, ?_⟩
        walk_at "my_rd"
        have lx : (xs.map V.int).length = xs.length := List.length_map ..
        obtain ⟨vs0, hvl0, _⟩ := hD.v
        refine q_slL (sqL ha) fun p1 np1 => ?_
        rw [cut_take (by rw [lx]; omega), ← List.map_take]
        have sm1 : Same H (upd H p1 (.lst ((xs.take (mid xs.length)).map V.int))) := Same.new (Same.refl _) np1
        have lt : (xs.take (mid xs.length)).length = mid xs.length := by rw [List.length_take]; omega
        have ld : (xs.drop (mid xs.length)).length = xs.length - mid xs.length := List.length_drop ..
        walk_at "my_rd"
        refine ⟨d, vl, nd, p1, TT, _, rfl, hD.same sm1, upd_same, (ne_of_none hvl0 np1).symm, by rw [hmIH, lt]; exact mo4, by omega, fun z hz => hx z (List.mem_of_mem_take hz), by omega, fun H1 T1 l pre1 dg1 rt1 hl1 kq1 => ?_⟩
        have kqA : Kq vl nd H H1 := Kq.trans (Kq.same sm1) kq1
        have ha1 : H1 a = some (.lst (xs.map V.int)) := kqA _ _ ha hav (ne_of ha hD.n (by intro z; cases z))
        obtain ⟨vs1, hvl1, _⟩ := dg1.v
        walk_at "my_rd"
        refine q_slL (sqL ha1) fun p2 np2 => ?_
        rw [cut_drop (by rw [lx]; omega), ← List.map_drop]
        have sm2 : Same H1 (upd H1 p2 (.lst ((xs.drop (mid xs.length)).map V.int))) := Same.new (Same.refl _) np2
        walk_at "my_rd"
        rw [lt] at hl1
        refine ⟨d, vl, nd, p2, T1, _, rfl, dg1.same sm2, upd_same, (ne_of_none hvl1 np2).symm, by rw [hmIH, ld]; omega, by omega, fun z hz => hx z (List.mem_of_mem_drop hz), by omega, fun H2 T2 r pre2 dg2 rt2 hl2 kq2 => ?_⟩
        rw [ld] at hl2
        have kqB : Kq vl nd H H2 := Kq.trans kqA (Kq.trans (Kq.same sm2) kq2)
        have hl' := (rt1.mono pre2).at_
        have hr' := rt2.at_
        walk_at "my_rd"
        obtain ⟨dx2, ho2⟩ := dg2.o
        refine q_methK ho2 (lkd (by decide +kernel) (by decide +kernel)) fun R hR => ?_
        walk_at "my_rd"
        refine q_tupK (Nat.le_of_ble_eq_true rfl) fun t nt => ?_
        refine hR _ _ (num_use (k := kN l r) (dg2.same (Same.new (Same.refl _) nt)) (.tup upd_same (.cons (.str _) (.cons (.int _) (.cons (.int _) .nil)))) (okN (by omega) (by omega)) (by omega) fun H3 T3 i pre3 hl3 dg3 hat kq3 => ?_)
        walk_at "my_rd"
        exact k H3 T3 i (pre1.trans (pre2.trans pre3)) dg3 (.node hlen (rt1.mono (pre2.trans pre3)) (rt2.mono pre3) hat) (by omega) (Kq.trans kqB (Kq.trans (Kq.new Kq.refl nt) kq3))
theorem ok_root4 (T : Txt K mg) : FnOk P w K mg base CX0 9 T.f_root T.d_root ["digests", "leaves"] (sp_root K T.C_Digests 4) := by
  obtain ⟨mIH, hmIH⟩ : ∃ n : Nat, n = 3 := ⟨_, rfl⟩
  have ok_rootIH : ∀ T : Txt K mg, FnOk P w K mg base CX0 8 T.f_root T.d_root ["digests", "leaves"] (sp_root K T.C_Digests mIH) := by subst hmIH; exact fun T => ok_root3 T
  refine T.F_root.ok sc_root (fun vs H Q E h => ?_) (fun cdv A outer s H vs Q E hr h => ?_)
  · obtain ⟨d, vl, nd, a, T, xs, rfl, _⟩ := h; rfl
  · obtain ⟨d, vl, nd, a, TT, xs, rfl, hD, ha, hav, hm, h64, hx, hT, k⟩ := h
    obtain ⟨dx, ho⟩ := hD.o
    refine ⟨_, (pss_cons (ps_if (pt_not (pt_truth (pv 1) (by intro _; rfl))) (pss_one (ps_ret (pe_meth (pv 0) T.cl_Digests T.m_Digests_number (ok_Digests_number T) (hr.mono (by decide)) T.b_Digests_number .nil pass0 (pa_cons (pe_tup (pa_cons pe_str pa_nil)) pa_nil)))) pss_nil)
      (pss_cons (ps_if (pt_cmpR op_eq (pe_callB cq_len (by rfl) T.z_len boot_len (pa_cons (pv 1) pa_nil)) pe_int (nomark _)) (pss_one (ps_ret (pe_meth (pv 0) T.cl_Digests T.m_Digests_number (ok_Digests_number T) (hr.mono (by decide)) T.b_Digests_number .nil pass0 (pa_cons (pe_tup (pa_cons pe_str (pa_cons (pe_ix ix_list (pv 1) pe_int (fun _ _ => rfl)) pa_nil))) pa_nil)))) pss_nil)
      (pss_cons (ps_set (i := 2) sc_root.nd rfl (Or.inl rfl) (pe_call (ok_left_size T) (hr.mono (by decide)) (by rfl) T.g_left_size T.F_left_size.kp T.b_left_size .nil pass0 (pa_cons (pe_callB cq_len (by rfl) T.z_len boot_len (pa_cons (pv 1) pa_nil)) pa_nil)))
      (pss_cons (ps_set (i := 3) sc_root.nd rfl (Or.inl rfl) (pe_call (ok_rootIH T) (hr.mono (by decide)) (by rfl) T.g_root T.F_root.kp T.b_root .nil pass0 (pa_cons (pv 0) (pa_cons (pe_slice sl_list (pv 1) po_none (po_some (pv 2))) pa_nil))))
      (pss_cons (ps_set (i := 4) sc_root.nd rfl (Or.inl rfl) (pe_call (ok_rootIH T) (hr.mono (by decide)) (by rfl) T.g_root T.F_root.kp T.b_root .nil pass0 (pa_cons (pv 0) (pa_cons (pe_slice sl_list (pv 1) (po_some (pv 2)) po_none) pa_nil))))
      (pss_one (ps_ret (pe_meth (pv 0) T.cl_Digests T.m_Digests_number (ok_Digests_number T) (hr.mono (by decide)) T.b_Digests_number .nil pass0 (pa_cons (pe_tup (pa_cons pe_str (pa_cons (pv 3) (pa_cons (pv 4) pa_nil)))) pa_nil))))))))), ?_⟩
    (dsimp only [cxOf, Cx.nox, Cx.wish, L2.start, List.map, List.length, List.replicate, List.cons_append, List.nil_append, List.append_eq, Nat.reduceSub, Nat.reduceAdd])
    walk_at "my_rd"
    refine ⟨_, .inl ⟨_, sqL ha, rfl⟩, ?_⟩
    cases xs with
    | nil =>
      rw [show (!(List.map V.int ([] : List Int)).isEmpty) = false from rfl]
      walk_at "my_rd"
      refine q_methK ho (lkd (by decide +kernel) (by decide +kernel)) fun R hR => ?_
      walk_at "my_rd"
      refine q_tupK (Nat.le_of_ble_eq_true rfl) fun t nt => ?_
      refine hR _ _ (num_use (k := kE) (hD.same (Same.new (Same.refl _) nt)) (.tup upd_same (.cons (.str _) .nil)) okE (by simp at hT; omega) fun H' T' i pre hl dg hat kq => ?_)
      walk_at "my_rd"
      exact k H' T' i pre dg (.empty hat) (by simp; omega) (Kq.trans (Kq.new Kq.refl nt) kq)
    | cons x ys =>
      cases ys with
      | nil =>
        rw [show (!(List.map V.int [x]).isEmpty) = true from rfl]
        walk_at "my_rd"
        rw [decide_eq_true (by simp)]
        walk_at "my_rd"
        refine q_methK ho (lkd (by decide +kernel) (by decide +kernel)) fun R hR => ?_
        walk_at "my_rd"
        refine q_tupK (Nat.le_of_ble_eq_true rfl) fun t nt => ?_
        refine hR _ _ (num_use (k := kL x) (hD.same (Same.new (Same.refl _) nt)) (.tup upd_same (.cons (.str _) (.cons (.int x) .nil))) (okL (hx x List.mem_cons_self)) (by simp at hT; omega) fun H' T' i pre hl dg hat kq => ?_)
        walk_at "my_rd"
        exact k H' T' i pre dg (.leaf hat) (by simp; omega) (Kq.trans (Kq.new Kq.refl nt) kq)
      | cons y zs =>
        rw [show (!(List.map V.int (x :: y :: zs)).isEmpty) = true from rfl]
        walk_at "my_rd"
        rw [decide_eq_false (by simp; omega)]
        walk_at "my_rd"
        have hlen : 2 ≤ (x :: y :: zs).length := by simp
        generalize hxs : x :: y :: zs = xs at *
        clear hxs x y zs
        obtain ⟨mo1, mo2, mo3⟩ := mid_ok hlen h64
        have mo4 := mid_pow hlen hm h64 (by decide)
        refine ⟨xs.length, by rw [List.length_map], hlen, h64, ?_⟩
        walk_at "my_rd"
        have lx : (xs.map V.int).length = xs.length := List.length_map ..
        obtain ⟨vs0, hvl0, _⟩ := hD.v
        refine q_slL (sqL ha) fun p1 np1 => ?_
        rw [cut_take (by rw [lx]; omega), ← List.map_take]
        have sm1 : Same H (upd H p1 (.lst ((xs.take (mid xs.length)).map V.int))) := Same.new (Same.refl _) np1
        have lt : (xs.take (mid xs.length)).length = mid xs.length := by rw [List.length_take]; omega
        have ld : (xs.drop (mid xs.length)).length = xs.length - mid xs.length := List.length_drop ..
        walk_at "my_rd"
        refine ⟨d, vl, nd, p1, TT, _, rfl, hD.same sm1, upd_same, (ne_of_none hvl0 np1).symm, by rw [hmIH, lt]; exact mo4, by omega, fun z hz => hx z (List.mem_of_mem_take hz), by omega, fun H1 T1 l pre1 dg1 rt1 hl1 kq1 => ?_⟩
        have kqA : Kq vl nd H H1 := Kq.trans (Kq.same sm1) kq1
        have ha1 : H1 a = some (.lst (xs.map V.int)) := kqA _ _ ha hav (ne_of ha hD.n (by intro z; cases z))
        obtain ⟨vs1, hvl1, _⟩ := dg1.v
        walk_at "my_rd"
        refine q_slL (sqL ha1) fun p2 np2 => ?_
        rw [cut_drop (by rw [lx]; omega), ← List.map_drop]
        have sm2 : Same H1 (upd H1 p2 (.lst ((xs.drop (mid xs.length)).map V.int))) := Same.new (Same.refl _) np2
        walk_at "my_rd"
        rw [lt] at hl1
        refine ⟨d, vl, nd, p2, T1, _, rfl, dg1.same sm2, upd_same, (ne_of_none hvl1 np2).symm, by rw [hmIH, ld]; omega, by omega, fun z hz => hx z (List.mem_of_mem_drop hz), by omega, fun H2 T2 r pre2 dg2 rt2 hl2 kq2 => ?_⟩
        rw [ld] at hl2
        have kqB : Kq vl nd H H2 := Kq.trans kqA (Kq.trans (Kq.same sm2) kq2)
        have hl' := (rt1.mono pre2).at_
        have hr' := rt2.at_
        walk_at "my_rd"
        obtain ⟨dx2, ho2⟩ := dg2.o
        refine q_methK ho2 (lkd (by decide +kernel) (by decide +kernel)) fun R hR => ?_
        walk_at "my_rd"
        refine q_tupK (Nat.le_of_ble_eq_true rfl) fun t nt => ?_
        refine hR _ _ (num_use (k := kN l r) (dg2.same (Same.new (Same.refl _) nt)) (.tup upd_same (.cons (.str _) (.cons (.int _) (.cons (.int _) .nil)))) (okN (by omega) (by omega)) (by omega) fun H3 T3 i pre3 hl3 dg3 hat kq3 => ?_)
        walk_at "my_rd"
        exact k H3 T3 i (pre1.trans (pre2.trans pre3)) dg3 (.node hlen (rt1.mono (pre2.trans pre3)) (rt2.mono pre3) hat) (by omega) (Kq.trans kqB (Kq.trans (Kq.new Kq.refl nt) kq3))
theorem ok_root5 (T : Txt K mg) : FnOk P w K mg base CX0 10 T.f_root T.d_root ["digests", "leaves"] (sp_root K T.C_Digests 5) := by
  obtain ⟨mIH, hmIH⟩ : ∃ n : Nat, n = 4 := ⟨_, rfl⟩
  have ok_rootIH : ∀ T : Txt K mg, FnOk P w K mg base CX0 9 T.f_root T.d_root ["digests", "leaves"] (sp_root K T.C_Digests mIH) := by subst hmIH; exact fun T => ok_root4 T
  refine T.F_root.ok sc_root (fun vs H Q E h => ?_) (fun cdv A outer s H vs Q E hr h => ?_)
  · obtain ⟨d, vl, nd, a, T, xs, rfl, _⟩ := h; rfl
  · obtain ⟨d, vl, nd, a, TT, xs, rfl, hD, ha, hav, hm, h64, hx, hT, k⟩ := h
    obtain ⟨dx, ho⟩ := hD.o
    refine ⟨_, (pss_cons (ps_if (pt_not (pt_truth (pv 1) (by intro _; rfl))) (pss_one (ps_ret (pe_meth (pv 0) T.cl_Digests T.m_Digests_number (ok_Digests_number T) (hr.mono (by decide)) T.b_Digests_number .nil pass0 (pa_cons (pe_tup (pa_cons pe_str pa_nil)) pa_nil)))) pss_nil)
      (pss_cons (ps_if (pt_cmpR op_eq (pe_callB cq_len (by rfl) T.z_len boot_len (pa_cons (pv 1) pa_nil)) pe_int (nomark _)) (pss_one (ps_ret (pe_meth (pv 0) T.cl_Digests T.m_Digests_number (ok_Digests_number T) (hr.mono (by decide)) T.b_Digests_number .nil pass0 (pa_cons (pe_tup (pa_cons pe_str (pa_cons (pe_ix ix_list (pv 1) pe_int (fun _ _ => rfl)) pa_nil))) pa_nil)))) pss_nil)
      (pss_cons (ps_set (i := 2) sc_root.nd rfl (Or.inl rfl) (pe_call (ok_left_size T) (hr.mono (by decide)) (by rfl) T.g_left_size T.F_left_size.kp T.b_left_size .nil pass0 (pa_cons (pe_callB cq_len (by rfl) T.z_len boot_len (pa_cons (pv 1) pa_nil)) pa_nil)))
      (pss_cons (ps_set (i := 3) sc_root.nd rfl (Or.inl rfl) (pe_call (ok_rootIH T) (hr.mono (by decide)) (by rfl) T.g_root T.F_root.kp T.b_root .nil pass0 (pa_cons (pv 0) (pa_cons (pe_slice sl_list (pv 1) po_none (po_some (pv 2))) pa_nil))))
      (pss_cons (ps_set (i := 4) sc_root.nd rfl (Or.inl rfl) (pe_call (ok_rootIH T) (hr.mono (by decide)) (by rfl) T.g_root T.F_root.kp T.b_root .nil pass0 (pa_cons (pv 0) (pa_cons (pe_slice sl_list (pv 1) (po_some (pv 2)) po_none) pa_nil))))
      (pss_one (ps_ret (pe_meth (pv 0) T.cl_Digests T.m_Digests_number (ok_Digests_number T) (hr.mono (by decide)) T.b_Digests_number .nil pass0 (pa_cons (pe_tup (pa_cons pe_str (pa_cons (pv 3) (pa_cons (pv 4) pa_nil)))) pa_nil))))))))), ?_⟩
    (dsimp only [cxOf, Cx.nox, Cx.wish, L2.start, List.map, List.length, List.replicate, List.cons_append, List.nil_append, List.append_eq, Nat.reduceSub, Nat.reduceAdd])
    walk_at "my_rd"
    refine ⟨_, .inl ⟨_, sqL ha, rfl⟩, ?_⟩
    cases xs with
    | nil =>
      rw [show (!(List.map V.int ([] : List Int)).isEmpty) = false from rfl]
      walk_at "my_rd"
      refine q_methK ho (lkd (by decide +kernel) (by decide +kernel)) fun R hR => ?_
      walk_at "my_rd"
      refine q_tupK (Nat.le_of_ble_eq_true rfl) fun t nt => ?_
      refine hR _ _ (num_use (k := kE) (hD.same (Same.new (Same.refl _) nt)) (.tup upd_same (.cons (.str _) .nil)) okE (by simp at hT; omega) fun H' T' i pre hl dg hat kq => ?_)
      walk_at "my_rd"
      exact k H' T' i pre dg (.empty hat) (by simp; omega) (Kq.trans (Kq.new Kq.refl nt) kq)
    | cons x ys =>
      cases ys with
      | nil =>
        rw [show (!(List.map V.int [x]).isEmpty) = true from rfl]
        walk_at "my_rd"
        rw [decide_eq_true (by simp)]
        walk_at "my_rd"
        refine q_methK ho (lkd (by decide +kernel) (by decide +kernel)) fun R hR => ?_
        walk_at "my_rd"
        refine q_tupK (Nat.le_of_ble_eq_true rfl) fun t nt => ?_
        refine hR _ _ (num_use (k := kL x) (hD.same (Same.new (Same.refl _) nt)) (.tup upd_same (.cons (.str _) (.cons (.int x) .nil))) (okL (hx x List.mem_cons_self)) (by simp at hT; omega) fun H' T' i pre hl dg hat kq => ?_)
        walk_at "my_rd"
        exact k H' T' i pre dg (.leaf hat) (by simp; omega) (Kq.trans (Kq.new Kq.refl nt) kq)
      | cons y zs =>
        rw [show (!(List.map V.int (x :: y :: zs)).isEmpty) = true from rfl]
        walk_at "my_rd"
        rw [decide_eq_false (by simp; omega)]
        walk_at "my_rd"
        have hlen : 2 ≤ (x :: y :: zs).length := by simp
        generalize hxs : x :: y :: zs = xs at *
        clear hxs x y zs
        obtain ⟨mo1, mo2, mo3⟩ := mid_ok hlen h64
        have mo4 := mid_pow hlen hm h64 (by decide)
        refine ⟨xs.length, by rw [List.length_map], hlen, h64, ?_⟩
        walk_at "my_rd"
        have lx : (xs.map V.int).length = xs.length := List.length_map ..
        obtain ⟨vs0, hvl0, _⟩ := hD.v
        refine q_slL (sqL ha) fun p1 np1 => ?_
        rw [cut_take (by rw [lx]; omega), ← List.map_take]
        have sm1 : Same H (upd H p1 (.lst ((xs.take (mid xs.length)).map V.int))) := Same.new (Same.refl _) np1
        have lt : (xs.take (mid xs.length)).length = mid xs.length := by rw [List.length_take]; omega
        have ld : (xs.drop (mid xs.length)).length = xs.length - mid xs.length := List.length_drop ..
        walk_at "my_rd"
        refine ⟨d, vl, nd, p1, TT, _, rfl, hD.same sm1, upd_same, (ne_of_none hvl0 np1).symm, by rw [hmIH, lt]; exact mo4, by omega, fun z hz => hx z (List.mem_of_mem_take hz), by omega, fun H1 T1 l pre1 dg1 rt1 hl1 kq1 => ?_⟩
        have kqA : Kq vl nd H H1 := Kq.trans (Kq.same sm1) kq1
        have ha1 : H1 a = some (.lst (xs.map V.int)) := kqA _ _ ha hav (ne_of ha hD.n (by intro z; cases z))
        obtain ⟨vs1, hvl1, _⟩ := dg1.v
        walk_at "my_rd"
        refine q_slL (sqL ha1) fun p2 np2 => ?_
        rw [cut_drop (by rw [lx]; omega), ← List.map_drop]
        have sm2 : Same H1 (upd H1 p2 (.lst ((xs.drop (mid xs.length)).map V.int))) := Same.new (Same.refl _) np2
        walk_at "my_rd"
        rw [lt] at hl1
        refine ⟨d, vl, nd, p2, T1, _, rfl, dg1.same sm2, upd_same, (ne_of_none hvl1 np2).symm, by rw [hmIH, ld]; omega, by omega, fun z hz => hx z (List.mem_of_mem_drop hz), by omega, fun H2 T2 r pre2 dg2 rt2 hl2 kq2 => ?_⟩
        rw [ld] at hl2
        have kqB : Kq vl nd H H2 := Kq.trans kqA (Kq.trans (Kq.same sm2) kq2)
        have hl' := (rt1.mono pre2).at_
        have hr' := rt2.at_
        walk_at "my_rd"
        obtain ⟨dx2, ho2⟩ := dg2.o
        refine q_methK ho2 (lkd (by decide +kernel) (by decide +kernel)) fun R hR => ?_
        walk_at "my_rd"
        refine q_tupK (Nat.le_of_ble_eq_true rfl) fun t nt => ?_
        refine hR _ _ (num_use (k := kN l r) (dg2.same (Same.new (Same.refl _) nt)) (.tup upd_same (.cons (.str _) (.cons (.int _) (.cons (.int _) .nil)))) (okN (by omega) (by omega)) (by omega) fun H3 T3 i pre3 hl3 dg3 hat kq3 => ?_)
        walk_at "my_rd"
        exact k H3 T3 i (pre1.trans (pre2.trans pre3)) dg3 (.node hlen (rt1.mono (pre2.trans pre3)) (rt2.mono pre3) hat) (by omega) (Kq.trans kqB (Kq.trans (Kq.new Kq.refl nt) kq3))
end

local macro_rules | `(tactic| walk_at "my_rd") => `(tactic| (repeat first
  | with_reducible refine q_tCons ?_
  | ((with_reducible apply q_var); (focus (exact rfl)))
  | with_reducible refine q_c ?_
  | with_reducible refine q_nx ?_
  | with_reducible refine q_bK ?_
  | with_reducible refine q_call ?_
  | with_reducible refine q_callK ?_
  | with_reducible refine q_tNil ?_
  | with_reducible refine q_cb ?_
  | with_reducible refine q_seq ?_
  | with_reducible refine q_asg ?_
  | with_reducible refine q_gName ?_
  | with_reducible refine q_op ?_
  | with_reducible refine q_test ?_
  | with_reducible refine q_tB ?_
  | with_reducible refine q_ifS ?_
  | with_reducible refine q_ret ?_
  | with_reducible refine q_rt ?_
  | with_reducible refine q_next ?_
  | with_reducible refine q_ifF ?_
  | with_reducible refine q_ifT ?_
  | with_reducible refine q_drop ?_
  | with_reducible refine q_and ?_
  | with_reducible refine q_or ?_
  | with_reducible refine q_andT ?_
  | with_reducible refine q_andF ?_
  | with_reducible refine q_orF ?_
  | with_reducible refine q_orT ?_
  | with_reducible refine q_andV ?_
  | with_reducible refine q_andVT ?_
  | with_reducible refine q_andVF ?_
  | with_reducible refine q_orV ?_
  | with_reducible refine q_gCons ?_
  | with_reducible refine q_gNil ?_
  | with_reducible refine q_tup ?_
  | with_reducible refine q_lst ?_
  | with_reducible refine q_not ?_
  | with_reducible refine q_notKT ?_
  | with_reducible refine q_notKF ?_
  | with_reducible refine q_I0 ?_
  | with_reducible refine q_eqI ?_
  | with_reducible refine q_neI ?_
  | ((with_reducible refine q_I ?_ ?_); first | decide | omega | exact ⟨by omega, by omega⟩ | exact ⟨by decide, by decide⟩ | exact .inl ⟨by omega, by omega⟩ | exact .inr ⟨by omega, by omega⟩ | exact .inr ⟨by decide, by decide⟩)
  | with_reducible refine q_eqS ?_
  | with_reducible refine q_neS ?_
  | with_reducible refine q_brk ?_
  | with_reducible refine q_ct ?_
  | with_reducible refine q_bk ?_
  | with_reducible refine q_cn ?_
  | with_reducible refine q_retN ?_
  | with_reducible refine q_gSub ?_
  | with_reducible refine q_for ?_
  | with_reducible refine q_iList ?_
  | with_reducible refine q_iTup ?_
  | with_reducible refine q_iRng1 ?_
  | with_reducible refine q_notK ?_
  | with_reducible refine q_orVT ?_
  | with_reducible refine q_orVF ?_
  | with_reducible refine q_notV ?_
  | with_reducible refine q_notVK ?_
  | with_reducible refine q_ifE ?_
  | with_reducible refine q_ifET ?_
  | with_reducible refine q_ifEF ?_
  | with_reducible refine q_yes ?_
  | with_reducible refine q_un ?_
  | with_reducible refine q_rU ?_
  | with_reducible refine q_abs ?_
  | with_reducible refine q_int1 ?_
  | with_reducible refine q_bm ?_
  | with_reducible refine q_bm0 ?_
  | with_reducible refine q_lc ?_
  | with_reducible refine q_keepT ?_
  | with_reducible refine q_keepF ?_
  | ((with_reducible apply q_aug); (focus (exact rfl)))
  | with_reducible refine q_ipI ?_
  | with_reducible refine q_chain ?_
  | with_reducible refine q_pairC ?_
  | with_reducible refine q_pairsK ?_
  | with_reducible refine q_pairN ?_
  | with_reducible refine q_fld ?_
  | with_reducible refine q_sFld ?_
  | with_reducible refine q_meth ?_
  | with_reducible refine q_makeK ?_
  | with_reducible refine q_isBl ?_
  | with_reducible refine q_notBl ?_
  | with_reducible refine q_sl ?_
  | with_reducible refine q_noPart ?_
  | with_reducible refine q_part ?_
  | with_reducible refine q_partK ?_
  | ((with_reducible apply q_mulStr); (focus (decide +kernel)))
  | with_reducible refine q_chT ?_
  | with_reducible refine q_chF ?_
  | with_reducible refine q_ord ?_
  | with_reducible refine q_iStr0 ?_
  | with_reducible refine q_iStr ?_
  | with_reducible refine q_tDIn ?_
  | with_reducible refine q_tDNotIn ?_
  | with_reducible refine q_tDGet ?_
  | with_reducible refine q_tDGet2 ?_
  | with_reducible refine q_tDGet1 ?_
  | with_reducible refine q_tDSetd ?_
  | ((with_reducible apply q_dG2a); (focus ((repeat first | (with_reducible exact upd_same) | (with_reducible assumption) | (with_reducible apply upd_new (by assumption)) | (with_reducible apply upd_other (by first | assumption | exact Ne.symm (by assumption))) | (with_reducible refine' Kp.get (by assumption) ?_ (by first | assumption | exact Ne.symm (by assumption))) | (with_reducible apply Same.get (by assumption))); done)))
  | ((with_reducible apply q_dSda); (focus ((repeat first | (with_reducible exact upd_same) | (with_reducible assumption) | (with_reducible apply upd_new (by assumption)) | (with_reducible apply upd_other (by first | assumption | exact Ne.symm (by assumption))) | (with_reducible refine' Kp.get (by assumption) ?_ (by first | assumption | exact Ne.symm (by assumption))) | (with_reducible apply Same.get (by assumption))); done)))
  | with_reducible refine q_sDPut ?_
  | ((with_reducible apply q_dInS); (focus ((repeat first | (with_reducible exact upd_same) | (with_reducible assumption) | (with_reducible apply upd_new (by assumption)) | (with_reducible apply upd_other (by first | assumption | exact Ne.symm (by assumption))) | (with_reducible refine' Kp.get (by assumption) ?_ (by first | assumption | exact Ne.symm (by assumption))) | (with_reducible apply Same.get (by assumption))); done)))
  | ((with_reducible apply q_dNInS); (focus ((repeat first | (with_reducible exact upd_same) | (with_reducible assumption) | (with_reducible apply upd_new (by assumption)) | (with_reducible apply upd_other (by first | assumption | exact Ne.symm (by assumption))) | (with_reducible refine' Kp.get (by assumption) ?_ (by first | assumption | exact Ne.symm (by assumption))) | (with_reducible apply Same.get (by assumption))); done)))
  | ((with_reducible apply q_dInI); (focus ((repeat first | (with_reducible exact upd_same) | (with_reducible assumption) | (with_reducible apply upd_new (by assumption)) | (with_reducible apply upd_other (by first | assumption | exact Ne.symm (by assumption))) | (with_reducible refine' Kp.get (by assumption) ?_ (by first | assumption | exact Ne.symm (by assumption))) | (with_reducible apply Same.get (by assumption))); done)))
  | ((with_reducible apply q_dNInI); (focus ((repeat first | (with_reducible exact upd_same) | (with_reducible assumption) | (with_reducible apply upd_new (by assumption)) | (with_reducible apply upd_other (by first | assumption | exact Ne.symm (by assumption))) | (with_reducible refine' Kp.get (by assumption) ?_ (by first | assumption | exact Ne.symm (by assumption))) | (with_reducible apply Same.get (by assumption))); done)))
  | ((with_reducible apply q_bmL); (focus ((repeat first | (with_reducible exact upd_same) | (with_reducible assumption) | (with_reducible apply upd_new (by assumption)) | (with_reducible apply upd_other (by first | assumption | exact Ne.symm (by assumption))) | (with_reducible refine' Kp.get (by assumption) ?_ (by first | assumption | exact Ne.symm (by assumption))) | (with_reducible apply Same.get (by assumption))); done)))
  | ((with_reducible apply q_bmL0); (focus ((repeat first | (with_reducible exact upd_same) | (with_reducible assumption) | (with_reducible apply upd_new (by assumption)) | (with_reducible apply upd_other (by first | assumption | exact Ne.symm (by assumption))) | (with_reducible refine' Kp.get (by assumption) ?_ (by first | assumption | exact Ne.symm (by assumption))) | (with_reducible apply Same.get (by assumption))); done)))
  | ((with_reducible apply q_ixLt); (focus ((repeat first | (with_reducible exact upd_same) | (with_reducible assumption) | (with_reducible apply upd_new (by assumption)) | (with_reducible apply upd_other (by first | assumption | exact Ne.symm (by assumption))) | (with_reducible refine' Kp.get (by assumption) ?_ (by first | assumption | exact Ne.symm (by assumption))) | (with_reducible apply Same.get (by assumption))); done)); (focus (exact rfl)))
  | ((with_reducible apply q_ixTt); (focus ((repeat first | (with_reducible exact upd_same) | (with_reducible assumption) | (with_reducible apply upd_new (by assumption)) | (with_reducible apply upd_other (by first | assumption | exact Ne.symm (by assumption))) | (with_reducible refine' Kp.get (by assumption) ?_ (by first | assumption | exact Ne.symm (by assumption))) | (with_reducible apply Same.get (by assumption))); done)); (focus (exact rfl)))
  | ((with_reducible apply q_lenLt); (focus ((repeat first | (with_reducible exact upd_same) | (with_reducible assumption) | (with_reducible apply upd_new (by assumption)) | (with_reducible apply upd_other (by first | assumption | exact Ne.symm (by assumption))) | (with_reducible refine' Kp.get (by assumption) ?_ (by first | assumption | exact Ne.symm (by assumption))) | (with_reducible apply Same.get (by assumption))); done)))
  | ((with_reducible apply q_lenTt); (focus ((repeat first | (with_reducible exact upd_same) | (with_reducible assumption) | (with_reducible apply upd_new (by assumption)) | (with_reducible apply upd_other (by first | assumption | exact Ne.symm (by assumption))) | (with_reducible refine' Kp.get (by assumption) ?_ (by first | assumption | exact Ne.symm (by assumption))) | (with_reducible apply Same.get (by assumption))); done)))
  | ((with_reducible apply q_append); (focus ((repeat first | (with_reducible exact upd_same) | (with_reducible assumption) | (with_reducible apply upd_new (by assumption)) | (with_reducible apply upd_other (by first | assumption | exact Ne.symm (by assumption))) | (with_reducible refine' Kp.get (by assumption) ?_ (by first | assumption | exact Ne.symm (by assumption))) | (with_reducible apply Same.get (by assumption))); done)); (focus ((first | (exact Nat.lt_of_ble_eq_true rfl) | (simp only [List.length_append, List.length_cons, List.length_nil, List.length_map]; exact small1000 (by omega))))))
  | ((with_reducible apply q_setL); (focus ((repeat first | (with_reducible exact upd_same) | (with_reducible assumption) | (with_reducible apply upd_new (by assumption)) | (with_reducible apply upd_other (by first | assumption | exact Ne.symm (by assumption))) | (with_reducible refine' Kp.get (by assumption) ?_ (by first | assumption | exact Ne.symm (by assumption))) | (with_reducible apply Same.get (by assumption))); done)); (focus (exact rfl)))
  | with_reducible refine q_ifNT ?_
  | with_reducible refine q_ifNF ?_
  | with_reducible refine q_andNT ?_
  | with_reducible refine q_andNF ?_
  | with_reducible refine q_orNT ?_
  | with_reducible refine q_orNF ?_
  | with_reducible refine q_bKNT ?_
  | with_reducible refine q_bKNF ?_
  | with_reducible refine q_tNGet ?_
  | with_reducible refine q_tNIn ?_
  | with_reducible refine q_sNPut ?_
  | with_reducible refine q_sFldAug ?_
  | with_reducible refine q_sDAug ?_
  | with_reducible refine q_sDDel ?_
  | with_reducible refine q_forX ?_
  | with_reducible refine q_tMake ?_
  | ((with_reducible apply q_dG1a); (focus ((repeat first | (with_reducible exact upd_same) | (with_reducible assumption) | (with_reducible apply upd_new (by assumption)) | (with_reducible apply upd_other (by first | assumption | exact Ne.symm (by assumption))) | (with_reducible refine' Kp.get (by assumption) ?_ (by first | assumption | exact Ne.symm (by assumption))) | (with_reducible apply Same.get (by assumption))); done)))))
open TL
/-! the law's own root -/
def lpw (n : Nat) : Nat → Nat
  | 0 => 1
  | i + 1 => if 2 * lpw n i < n then 2 * lpw n i else lpw n i
theorem lpw_t {n i : Nat} (h : 2 * lpw n i < n) : lpw n (i + 1) = 2 * lpw n i := if_pos h
theorem lpw_f {n i : Nat} (h : ¬ 2 * lpw n i < n) : lpw n (i + 1) = lpw n i := if_neg h
theorem lpw_mid : ∀ n : Nat, n < 65 → 2 ≤ n → lpw n 8 = mid n := by decide +kernel
section
variable {P : Program} {w : World} {K : PySem.W.Frag} {mg : Str → Option Value} {base : Heap}
theorem ok_L_root0 (T : Txt K mg) : FnOk P w K mg base CX0 5 T.f_L_root T.d_L_root ["digests", "leaves"] (sp_root K T.C_Digests 0) := by
  refine T.F_L_root.ok sc_L_root (fun vs H Q E h => ?_) (fun cdv A outer s H vs Q E hr h => ?_)
  · obtain ⟨d, vl, nd, a, T, xs, rfl, _⟩ := h; rfl
  · obtain ⟨d, vl, nd, a, TT, xs, rfl, hD, ha, hav, hm, h64, hx, hT, k⟩ := h
    obtain ⟨dx, ho⟩ := hD.o
    refine ⟨_, (pss_cons (ps_if (pt_cmpR op_eq (pe_callB cq_len (by rfl) T.z_len boot_len (pa_cons (pv 1) pa_nil)) pe_int (nomark _)) (pss_one (ps_ret (pe_meth (pv 0) T.cl_Digests T.m_Digests_number (ok_Digests_number T) (hr.mono (by decide)) T.b_Digests_number .nil pass0 (pa_cons (pe_tup (pa_cons pe_str pa_nil)) pa_nil)))) pss_nil)
      (pss_cons (ps_if (pt_cmpR op_eq (pe_callB cq_len (by rfl) T.z_len boot_len (pa_cons (pv 1) pa_nil)) pe_int (nomark _)) (pss_one (ps_ret (pe_meth (pv 0) T.cl_Digests T.m_Digests_number (ok_Digests_number T) (hr.mono (by decide)) T.b_Digests_number .nil pass0 (pa_cons (pe_tup (pa_cons pe_str (pa_cons (pe_ix ix_list (pv 1) pe_int (fun _ _ => rfl)) pa_nil))) pa_nil)))) pss_nil)
      (pss_cons ps_never
      (pss_cons ps_never
      (pss_one ps_never))))), ?_⟩
    (dsimp only [cxOf, Cx.nox, Cx.wish, L2.start, List.map, List.length, List.replicate, List.cons_append, List.nil_append, List.append_eq, Nat.reduceSub, Nat.reduceAdd])
    walk_at "my_rd"
    cases xs with
    | nil =>
      rw [decide_eq_true (by simp)]
      walk_at "my_rd"
      refine q_methK ho (lkd (by decide +kernel) (by decide +kernel)) fun R hR => ?_
      walk_at "my_rd"
      refine q_tupK (Nat.le_of_ble_eq_true rfl) fun t nt => ?_
      refine hR _ _ (num_use (k := kE) (hD.same (Same.new (Same.refl _) nt)) (.tup upd_same (.cons (.str _) .nil)) okE (by simp at hT; omega) fun H' T' i pre hl dg hat kq => ?_)
      walk_at "my_rd"
      exact k H' T' i pre dg (.empty hat) (by simp; omega) (Kq.trans (Kq.new Kq.refl nt) kq)
    | cons x ys =>
      cases ys with
      | nil =>
        rw [decide_eq_false (by simp)]
        walk_at "my_rd"
        rw [decide_eq_true (by simp)]
        walk_at "my_rd"
        refine q_methK ho (lkd (by decide +kernel) (by decide +kernel)) fun R hR => ?_
        walk_at "my_rd"
        refine q_tupK (Nat.le_of_ble_eq_true rfl) fun t nt => ?_
        refine hR _ _ (num_use (k := kL x) (hD.same (Same.new (Same.refl _) nt)) (.tup upd_same (.cons (.str _) (.cons (.int x) .nil))) (okL (hx x List.mem_cons_self)) (by simp at hT; omega) fun H' T' i pre hl dg hat kq => ?_)
        walk_at "my_rd"
        exact k H' T' i pre dg (.leaf hat) (by simp; omega) (Kq.trans (Kq.new Kq.refl nt) kq)
      | cons y zs =>
        exact absurd hm (by simp)
theorem ok_L_root1 (T : Txt K mg) : FnOk P w K mg base CX0 6 T.f_L_root T.d_L_root ["digests", "leaves"] (sp_root K T.C_Digests 1) := by
  obtain ⟨mIH, hmIH⟩ : ∃ n : Nat, n = 0 := ⟨_, rfl⟩
  have ok_L_rootIH : ∀ T : Txt K mg, FnOk P w K mg base CX0 5 T.f_L_root T.d_L_root ["digests", "leaves"] (sp_root K T.C_Digests mIH) := by subst hmIH; exact fun T => ok_L_root0 T
  refine T.F_L_root.ok sc_L_root (fun vs H Q E h => ?_) (fun cdv A outer s H vs Q E hr h => ?_)
  · obtain ⟨d, vl, nd, a, T, xs, rfl, _⟩ := h; rfl
  · obtain ⟨d, vl, nd, a, TT, xs, rfl, hD, ha, hav, hm, h64, hx, hT, k⟩ := h
    obtain ⟨dx, ho⟩ := hD.o
    refine ⟨_, (pss_cons (ps_if (pt_cmpR op_eq (pe_callB cq_len (by rfl) T.z_len boot_len (pa_cons (pv 1) pa_nil)) pe_int (nomark _)) (pss_one (ps_ret (pe_meth (pv 0) T.cl_Digests T.m_Digests_number (ok_Digests_number T) (hr.mono (by decide)) T.b_Digests_number .nil pass0 (pa_cons (pe_tup (pa_cons pe_str pa_nil)) pa_nil)))) pss_nil)
      (pss_cons (ps_if (pt_cmpR op_eq (pe_callB cq_len (by rfl) T.z_len boot_len (pa_cons (pv 1) pa_nil)) pe_int (nomark _)) (pss_one (ps_ret (pe_meth (pv 0) T.cl_Digests T.m_Digests_number (ok_Digests_number T) (hr.mono (by decide)) T.b_Digests_number .nil pass0 (pa_cons (pe_tup (pa_cons pe_str (pa_cons (pe_ix ix_list (pv 1) pe_int (fun _ _ => rfl)) pa_nil))) pa_nil)))) pss_nil)
      (pss_cons (ps_set (i := 2) sc_L_root.nd rfl (Or.inl rfl) pe_int)
      (pss_cons (ps_for PassesOwn.never rfl (pi_range1 (by rfl) T.z_range (pa_cons pe_int pa_nil)) (pg_name (i := 3) sc_L_root.nd rfl (Or.inl rfl))
        (pss_one (ps_if (pt_cmpR op_lt (pe_op op_mul pe_int (pv 2)) (pe_callB cq_len (by rfl) T.z_len boot_len (pa_cons (pv 1) pa_nil)) (nomark _)) (pss_one (ps_set (i := 2) sc_L_root.nd rfl (Or.inl rfl) (pe_op op_mul pe_int (pv 2)))) pss_nil)))
      (pss_one (ps_ret (pe_meth (pv 0) T.cl_Digests T.m_Digests_number (ok_Digests_number T) (hr.mono (by decide)) T.b_Digests_number .nil pass0 (pa_cons (pe_tup (pa_cons pe_str (pa_cons (pe_call (ok_L_rootIH T) (hr.mono (by decide)) (by rfl) T.g_L_root T.F_L_root.kp T.b_L_root .nil pass0 (pa_cons (pv 0) (pa_cons (pe_slice sl_list (pv 1) po_none (po_some (pv 2))) pa_nil))) (pa_cons (pe_call (ok_L_rootIH T) (hr.mono (by decide)) (by rfl) T.g_L_root T.F_L_root.kp T.b_L_root .nil pass0 (pa_cons (pv 0) (pa_cons (pe_slice sl_list (pv 1) (po_some (pv 2)) po_none) pa_nil))) pa_nil)))) pa_nil)))))))), ?_⟩
    (dsimp only [cxOf, Cx.nox, Cx.wish, L2.start, List.map, List.length, List.replicate, List.cons_append, List.nil_append, List.append_eq, Nat.reduceSub, Nat.reduceAdd])
    walk_at "my_rd"
    cases xs with
    | nil =>
      rw [decide_eq_true (by simp)]
      walk_at "my_rd"
      refine q_methK ho (lkd (by decide +kernel) (by decide +kernel)) fun R hR => ?_
      walk_at "my_rd"
      refine q_tupK (Nat.le_of_ble_eq_true rfl) fun t nt => ?_
      refine hR _ _ (num_use (k := kE) (hD.same (Same.new (Same.refl _) nt)) (.tup upd_same (.cons (.str _) .nil)) okE (by simp at hT; omega) fun H' T' i pre hl dg hat kq => ?_)
      walk_at "my_rd"
      exact k H' T' i pre dg (.empty hat) (by simp; omega) (Kq.trans (Kq.new Kq.refl nt) kq)
    | cons x ys =>
      cases ys with
      | nil =>
        rw [decide_eq_false (by simp)]
        walk_at "my_rd"
        rw [decide_eq_true (by simp)]
        walk_at "my_rd"
        refine q_methK ho (lkd (by decide +kernel) (by decide +kernel)) fun R hR => ?_
        walk_at "my_rd"
        refine q_tupK (Nat.le_of_ble_eq_true rfl) fun t nt => ?_
        refine hR _ _ (num_use (k := kL x) (hD.same (Same.new (Same.refl _) nt)) (.tup upd_same (.cons (.str _) (.cons (.int x) .nil))) (okL (hx x List.mem_cons_self)) (by simp at hT; omega) fun H' T' i pre hl dg hat kq => ?_)
        walk_at "my_rd"
        exact k H' T' i pre dg (.leaf hat) (by simp; omega) (Kq.trans (Kq.new Kq.refl nt) kq)
      | cons y zs =>
        rw [decide_eq_false (by simp; omega)]
        walk_at "my_rd"
        rw [decide_eq_false (by simp; omega)]
        walk_at "my_rd"
        have hlen : 2 ≤ (x :: y :: zs).length := by simp
        generalize hxs : x :: y :: zs = xs at *
        clear hxs x y zs
        obtain ⟨mo1, mo2, mo3⟩ := mid_ok hlen h64
        have mo4 := mid_pow hlen hm h64 (by decide)
        refine q_forR ⟨by decide, by decide⟩ (fun i σ H' => H = H' ∧ ∃ v3 : Option V, σ = [some (.ref d), some (.ref a), some (.int (lpw xs.length i : Nat)), v3]) ⟨rfl, _, rfl⟩ ?_ ?_
        · rintro i σ H' hi ⟨rfl, v3, rfl⟩
          walk_at "my_rd"
          rw [List.length_map]
          refine q_if2 (fun h => ?_) (fun h => ?_)
          · have h := dec_t h
            walk_at "my_rd"
            refine ⟨rfl, ?_⟩
            rw [lpw_t (show 2 * lpw xs.length i < xs.length by omega)]
            exact ⟨_, rfl⟩
          · have h := dec_f h
            walk_at "my_rd"
            refine ⟨rfl, ?_⟩
            rw [lpw_f (show ¬ 2 * lpw xs.length i < xs.length by omega)]
            exact ⟨_, rfl⟩
        rintro σ H' ⟨rfl, v3, rfl⟩
        rw [show (8 : Int).toNat = 8 from rfl, lpw_mid _ (by omega) hlen]
        walk_at "my_rd"
        refine q_methK ho (lkd (by decide +kernel) (by decide +kernel)) fun R hR => ?_
        walk_at "my_rd"
        have lx : (xs.map V.int).length = xs.length := List.length_map ..
        obtain ⟨vs0, hvl0, _⟩ := hD.v
        refine q_slL (sqL ha) fun p1 np1 => ?_
        rw [cut_take (by rw [lx]; omega), ← List.map_take]
        have sm1 : Same H (upd H p1 (.lst ((xs.take (mid xs.length)).map V.int))) := Same.new (Same.refl _) np1
        have lt : (xs.take (mid xs.length)).length = mid xs.length := by rw [List.length_take]; omega
        have ld : (xs.drop (mid xs.length)).length = xs.length - mid xs.length := List.length_drop ..
        walk_at "my_rd"
        refine ⟨d, vl, nd, p1, TT, _, rfl, hD.same sm1, upd_same, (ne_of_none hvl0 np1).symm, by rw [hmIH, lt]; exact mo4, by omega, fun z hz => hx z (List.mem_of_mem_take hz), by omega, fun H1 T1 l pre1 dg1 rt1 hl1 kq1 => ?_⟩
        have kqA : Kq vl nd H H1 := Kq.trans (Kq.same sm1) kq1
        have ha1 : H1 a = some (.lst (xs.map V.int)) := kqA _ _ ha hav (ne_of ha hD.n (by intro z; cases z))
        obtain ⟨vs1, hvl1, _⟩ := dg1.v
        walk_at "my_rd"
        refine q_slL (sqL ha1) fun p2 np2 => ?_
        rw [cut_drop (by rw [lx]; omega), ← List.map_drop]
        have sm2 : Same H1 (upd H1 p2 (.lst ((xs.drop (mid xs.length)).map V.int))) := Same.new (Same.refl _) np2
        walk_at "my_rd"
        rw [lt] at hl1
        refine ⟨d, vl, nd, p2, T1, _, rfl, dg1.same sm2, upd_same, (ne_of_none hvl1 np2).symm, by rw [hmIH, ld]; omega, by omega, fun z hz => hx z (List.mem_of_mem_drop hz), by omega, fun H2 T2 r pre2 dg2 rt2 hl2 kq2 => ?_⟩
        rw [ld] at hl2
        have kqB : Kq vl nd H H2 := Kq.trans kqA (Kq.trans (Kq.same sm2) kq2)
        have hl' := (rt1.mono pre2).at_
        have hr' := rt2.at_
        walk_at "my_rd"
        refine q_tupK (Nat.le_of_ble_eq_true rfl) fun t nt => ?_
        refine hR _ _ (num_use (k := kN l r) (dg2.same (Same.new (Same.refl _) nt)) (.tup upd_same (.cons (.str _) (.cons (.int _) (.cons (.int _) .nil)))) (okN (by omega) (by omega)) (by omega) fun H3 T3 i pre3 hl3 dg3 hat kq3 => ?_)
        walk_at "my_rd"
        exact k H3 T3 i (pre1.trans (pre2.trans pre3)) dg3 (.node hlen (rt1.mono (pre2.trans pre3)) (rt2.mono pre3) hat) (by omega) (Kq.trans kqB (Kq.trans (Kq.new Kq.refl nt) kq3))
theorem ok_L_root2 (T : Txt K mg) : FnOk P w K mg base CX0 7 T.f_L_root T.d_L_root ["digests", "leaves"] (sp_root K T.C_Digests 2) := by
  obtain ⟨mIH, hmIH⟩ : ∃ n : Nat, n = 1 := ⟨_, rfl⟩
  have ok_L_rootIH : ∀ T : Txt K mg, FnOk P w K mg base CX0 6 T.f_L_root T.d_L_root ["digests", "leaves"] (sp_root K T.C_Digests mIH) := by subst hmIH; exact fun T => ok_L_root1 T
  refine T.F_L_root.ok sc_L_root (fun vs H Q E h => ?_) (fun cdv A outer s H vs Q E hr h => ?_)
  · obtain ⟨d, vl, nd, a, T, xs, rfl, _⟩ := h; rfl
  · obtain ⟨d, vl, nd, a, TT, xs, rfl, hD, ha, hav, hm, h64, hx, hT, k⟩ := h
    obtain ⟨dx, ho⟩ := hD.o
    refine ⟨_, (pss_cons (ps_if (pt_cmpR op_eq (pe_callB cq_len (by rfl) T.z_len boot_len (pa_cons (pv 1) pa_nil)) pe_int (nomark _)) (pss_one (ps_ret (pe_meth (pv 0) T.cl_Digests T.m_Digests_number (ok_Digests_number T) (hr.mono (by decide)) T.b_Digests_number .nil pass0 (pa_cons (pe_tup (pa_cons pe_str pa_nil)) pa_nil)))) pss_nil)
      (pss_cons (ps_if (pt_cmpR op_eq (pe_callB cq_len (by rfl) T.z_len boot_len (pa_cons (pv 1) pa_nil)) pe_int (nomark _)) (pss_one (ps_ret (pe_meth (pv 0) T.cl_Digests T.m_Digests_number (ok_Digests_number T) (hr.mono (by decide)) T.b_Digests_number .nil pass0 (pa_cons (pe_tup (pa_cons pe_str (pa_cons (pe_ix ix_list (pv 1) pe_int (fun _ _ => rfl)) pa_nil))) pa_nil)))) pss_nil)
      (pss_cons (ps_set (i := 2) sc_L_root.nd rfl (Or.inl rfl) pe_int)
      (pss_cons (ps_for PassesOwn.never rfl (pi_range1 (by rfl) T.z_range (pa_cons pe_int pa_nil)) (pg_name (i := 3) sc_L_root.nd rfl (Or.inl rfl))
        (pss_one (ps_if (pt_cmpR op_lt (pe_op op_mul pe_int (pv 2)) (pe_callB cq_len (by rfl) T.z_len boot_len (pa_cons (pv 1) pa_nil)) (nomark _)) (pss_one (ps_set (i := 2) sc_L_root.nd rfl (Or.inl rfl) (pe_op op_mul pe_int (pv 2)))) pss_nil)))
      (pss_one (ps_ret (pe_meth (pv 0) T.cl_Digests T.m_Digests_number (ok_Digests_number T) (hr.mono (by decide)) T.b_Digests_number .nil pass0 (pa_cons (pe_tup (pa_cons pe_str (pa_cons (pe_call (ok_L_rootIH T) (hr.mono (by decide)) (by rfl) T.g_L_root T.F_L_root.kp T.b_L_root .nil pass0 (pa_cons (pv 0) (pa_cons (pe_slice sl_list (pv 1) po_none (po_some (pv 2))) pa_nil))) (pa_cons (pe_call (ok_L_rootIH T) (hr.mono (by decide)) (by rfl) T.g_L_root T.F_L_root.kp T.b_L_root .nil pass0 (pa_cons (pv 0) (pa_cons (pe_slice sl_list (pv 1) (po_some (pv 2)) po_none) pa_nil))) pa_nil)))) pa_nil)))))))), ?_⟩
    (dsimp only [cxOf, Cx.nox, Cx.wish, L2.start, List.map, List.length, List.replicate, List.cons_append, List.nil_append, List.append_eq, Nat.reduceSub, Nat.reduceAdd])
    walk_at "my_rd"
    cases xs with
    | nil =>
      rw [decide_eq_true (by simp)]
      walk_at "my_rd"
      refine q_methK ho (lkd (by decide +kernel) (by decide +kernel)) fun R hR => ?_
      walk_at "my_rd"
      refine q_tupK (Nat.le_of_ble_eq_true rfl) fun t nt => ?_
      refine hR _ _ (num_use (k := kE) (hD.same (Same.new (Same.refl _) nt)) (.tup upd_same (.cons (.str _) .nil)) okE (by simp at hT; omega) fun H' T' i pre hl dg hat kq => ?_)
      walk_at "my_rd"
      exact k H' T' i pre dg (.empty hat) (by simp; omega) (Kq.trans (Kq.new Kq.refl nt) kq)
    | cons x ys =>
      cases ys with
      | nil =>
        rw [decide_eq_false (by simp)]
        walk_at "my_rd"
        rw [decide_eq_true (by simp)]
        walk_at "my_rd"
        refine q_methK ho (lkd (by decide +kernel) (by decide +kernel)) fun R hR => ?_
        walk_at "my_rd"
        refine q_tupK (Nat.le_of_ble_eq_true rfl) fun t nt => ?_
        refine hR _ _ (num_use (k := kL x) (hD.same (Same.new (Same.refl _) nt)) (.tup upd_same (.cons (.str _) (.cons (.int x) .nil))) (okL (hx x List.mem_cons_self)) (by simp at hT; omega) fun H' T' i pre hl dg hat kq => ?_)
        walk_at "my_rd"
        exact k H' T' i pre dg (.leaf hat) (by simp; omega) (Kq.trans (Kq.new Kq.refl nt) kq)
      | cons y zs =>
        rw [decide_eq_false (by simp; omega)]
        walk_at "my_rd"
        rw [decide_eq_false (by simp; omega)]
        walk_at "my_rd"
        have hlen : 2 ≤ (x :: y :: zs).length := by simp
        generalize hxs : x :: y :: zs = xs at *
        clear hxs x y zs
        obtain ⟨mo1, mo2, mo3⟩ := mid_ok hlen h64
        have mo4 := mid_pow hlen hm h64 (by decide)
        refine q_forR ⟨by decide, by decide⟩ (fun i σ H' => H = H' ∧ ∃ v3 : Option V, σ = [some (.ref d), some (.ref a), some (.int (lpw xs.length i : Nat)), v3]) ⟨rfl, _, rfl⟩ ?_ ?_
        · rintro i σ H' hi ⟨rfl, v3, rfl⟩
          walk_at "my_rd"
          rw [List.length_map]
          refine q_if2 (fun h => ?_) (fun h => ?_)
          · have h := dec_t h
            walk_at "my_rd"
            refine ⟨rfl, ?_⟩
            rw [lpw_t (show 2 * lpw xs.length i < xs.length by omega)]
            exact ⟨_, rfl⟩
          · have h := dec_f h
            walk_at "my_rd"
            refine ⟨rfl, ?_⟩
            rw [lpw_f (show ¬ 2 * lpw xs.length i < xs.length by omega)]
            exact ⟨_, rfl⟩
        rintro σ H' ⟨rfl, v3, rfl⟩
        rw [show (8 : Int).toNat = 8 from rfl, lpw_mid _ (by omega) hlen]
        walk_at "my_rd"
        refine q_methK ho (lkd (by decide +kernel) (by decide +kernel)) fun R hR => ?_
        walk_at "my_rd"
        have lx : (xs.map V.int).length = xs.length := List.length_map ..
        obtain ⟨vs0, hvl0, _⟩ := hD.v
        refine q_slL (sqL ha) fun p1 np1 => ?_
        rw [cut_take (by rw [lx]; omega), ← List.map_take]
        have sm1 : Same H (upd H p1 (.lst ((xs.take (mid xs.length)).map V.int))) := Same.new (Same.refl _) np1
        have lt : (xs.take (mid xs.length)).length = mid xs.length := by rw [List.length_take]; omega
        have ld : (xs.drop (mid xs.length)).length = xs.length - mid xs.length := List.length_drop ..
        walk_at "my_rd"
        refine ⟨d, vl, nd, p1, TT, _, rfl, hD.same sm1, upd_same, (ne_of_none hvl0 np1).symm, by rw [hmIH, lt]; exact mo4, by omega, fun z hz => hx z (List.mem_of_mem_take hz), by omega, fun H1 T1 l pre1 dg1 rt1 hl1 kq1 => ?_⟩
        have kqA : Kq vl nd H H1 := Kq.trans (Kq.same sm1) kq1
        have ha1 : H1 a = some (.lst (xs.map V.int)) := kqA _ _ ha hav (ne_of ha hD.n (by intro z; cases z))
        obtain ⟨vs1, hvl1, _⟩ := dg1.v
        walk_at "my_rd"
        refine q_slL (sqL ha1) fun p2 np2 => ?_
        rw [cut_drop (by rw [lx]; omega), ← List.map_drop]
        have sm2 : Same H1 (upd H1 p2 (.lst ((xs.drop (mid xs.length)).map V.int))) := Same.new (Same.refl _) np2
        walk_at "my_rd"
        rw [lt] at hl1
        refine ⟨d, vl, nd, p2, T1, _, rfl, dg1.same sm2, upd_same, (ne_of_none hvl1 np2).symm, by rw [hmIH, ld]; omega, by omega, fun z hz => hx z (List.mem_of_mem_drop hz), by omega, fun H2 T2 r pre2 dg2 rt2 hl2 kq2 => ?_⟩
        rw [ld] at hl2
        have kqB : Kq vl nd H H2 := Kq.trans kqA (Kq.trans (Kq.same sm2) kq2)
        have hl' := (rt1.mono pre2).at_
        have hr' := rt2.at_
        walk_at "my_rd"
        refine q_tupK (Nat.le_of_ble_eq_true rfl) fun t nt => ?_
        refine hR _ _ (num_use (k := kN l r) (dg2.same (Same.new (Same.refl _) nt)) (.tup upd_same (.cons (.str _) (.cons (.int _) (.cons (.int _) .nil)))) (okN (by omega) (by omega)) (by omega) fun H3 T3 i pre3 hl3 dg3 hat kq3 => ?_)
        walk_at "my_rd"
        exact k H3 T3 i (pre1.trans (pre2.trans pre3)) dg3 (.node hlen (rt1.mono (pre2.trans pre3)) (rt2.mono pre3) hat) (by omega) (Kq.trans kqB (Kq.trans (Kq.new Kq.refl nt) kq3))
theorem ok_L_root3 (T : Txt K mg) : FnOk P w K mg base CX0 8 T.f_L_root T.d_L_root ["digests", "leaves"] (sp_root K T.C_Digests 3) := by
  obtain ⟨mIH, hmIH⟩ : ∃ n : Nat, n = 2 := ⟨_, rfl⟩
  have ok_L_rootIH : ∀ T : Txt K mg, FnOk P w K mg base CX0 7 T.f_L_root T.d_L_root ["digests", "leaves"] (sp_root K T.C_Digests mIH) := by subst hmIH; exact fun T => ok_L_root2 T
  refine T.F_L_root.ok sc_L_root (fun vs H Q E h => ?_) (fun cdv A outer s H vs Q E hr h => ?_)
  · obtain ⟨d, vl, nd, a, T, xs, rfl, _⟩ := h; rfl
  · obtain ⟨d, vl, nd, a, TT, xs, rfl, hD, ha, hav, hm, h64, hx, hT, k⟩ := h
    obtain ⟨dx, ho⟩ := hD.o
    refine ⟨_, (pss_cons (ps_if (pt_cmpR op_eq (pe_callB cq_len (by rfl) T.z_len boot_len (pa_cons (pv 1) pa_nil)) pe_int (nomark _)) (pss_one (ps_ret (pe_meth (pv 0) T.cl_Digests T.m_Digests_number (ok_Digests_number T) (hr.mono (by decide)) T.b_Digests_number .nil pass0 (pa_cons (pe_tup (pa_cons pe_str pa_nil)) pa_nil)))) pss_nil)
      (pss_cons (ps_if (pt_cmpR op_eq (pe_callB cq_len (by rfl) T.z_len boot_len (pa_cons (pv 1) pa_nil)) pe_int (nomark _)) (pss_one (ps_ret (pe_meth (pv 0) T.cl_Digests T.m_Digests_number (ok_Digests_number T) (hr.mono (by decide)) T.b_Digests_number .nil pass0 (pa_cons (pe_tup (pa_cons pe_str (pa_cons (pe_ix ix_list (pv 1) pe_int (fun _ _ => rfl)) pa_nil))) pa_nil)))) pss_nil)
      (pss_cons (ps_set (i := 2) sc_L_root.nd rfl (Or.inl rfl) pe_int)
      (pss_cons (ps_for PassesOwn.never rfl (pi_range1 (by rfl) T.z_range (pa_cons pe_int pa_nil)) (pg_name (i := 3) sc_L_root.nd rfl (Or.inl rfl))
        (pss_one (ps_if (pt_cmpR op_lt (pe_op op_mul pe_int (pv 2)) (pe_callB cq_len (by rfl) T.z_len boot_len (pa_cons (pv 1) pa_nil)) (nomark _)) (pss_one (ps_set (i := 2) sc_L_root.nd rfl (Or.inl rfl) (pe_op op_mul pe_int (pv 2)))) pss_nil)))
      (pss_one (ps_ret (pe_meth (pv 0) T.cl_Digests T.m_Digests_number (ok_Digests_number T) (hr.mono (by decide)) T.b_Digests_number .nil pass0 (pa_cons (pe_tup (pa_cons pe_str (pa_cons (pe_call (ok_L_rootIH T) (hr.mono (by decide)) (by rfl) T.g_L_root T.F_L_root.kp T.b_L_root .nil pass0 (pa_cons (pv 0) (pa_cons (pe_slice sl_list (pv 1) po_none (po_some (pv 2))) pa_nil))) (pa_cons (pe_call (ok_L_rootIH T) (hr.mono (by decide)) (by rfl) T.g_L_root T.F_L_root.kp T.b_L_root .nil pass0 (pa_cons (pv 0) (pa_cons (pe_slice sl_list (pv 1) (po_some (pv 2)) po_none) pa_nil))) pa_nil)))) pa_nil)))))))), ?_⟩
    (dsimp only [cxOf, Cx.nox, Cx.wish, L2.start, List.map, List.length, List.replicate, List.cons_append, List.nil_append, List.append_eq, Nat.reduceSub, Nat.reduceAdd])
    walk_at "my_rd"
    cases xs with
    | nil =>
      rw [decide_eq_true (by simp)]
      walk_at "my_rd"
      refine q_methK ho (lkd (by decide +kernel) (by decide +kernel)) fun R hR => ?_
      walk_at "my_rd"
      refine q_tupK (Nat.le_of_ble_eq_true rfl) fun t nt => ?_
      refine hR _ _ (num_use (k := kE) (hD.same (Same.new (Same.refl _) nt)) (.tup upd_same (.cons (.str _) .nil)) okE (by simp at hT; omega) fun H' T' i pre hl dg hat kq => ?_)
      walk_at "my_rd"
      exact k H' T' i pre dg (.empty hat) (by simp; omega) (Kq.trans (Kq.new Kq.refl nt) kq)
    | cons x ys =>
      cases ys with
      | nil =>
        rw [decide_eq_false (by simp)]
        walk_at "my_rd"
        rw [decide_eq_true (by simp)]
        walk_at "my_rd"
        refine q_methK ho (lkd (by decide +kernel) (by decide +kernel)) fun R hR => ?_
        walk_at "my_rd"
        refine q_tupK (Nat.le_of_ble_eq_true rfl) fun t nt => ?_
        refine hR _ _ (num_use (k := kL x) (hD.same (Same.new (Same.refl _) nt)) (.tup upd_same (.cons (.str _) (.cons (.int x) .nil))) (okL (hx x List.mem_cons_self)) (by simp at hT; omega) fun H' T' i pre hl dg hat kq => ?_)
        walk_at "my_rd"
        exact k H' T' i pre dg (.leaf hat) (by simp; omega) (Kq.trans (Kq.new Kq.refl nt) kq)
      | cons y zs =>
        rw [decide_eq_false (by simp; omega)]
        walk_at "my_rd"
        rw [decide_eq_false (by simp; omega)]
        walk_at "my_rd"
        have hlen : 2 ≤ (x :: y :: zs).length := by simp
        generalize hxs : x :: y :: zs = xs at *
        clear hxs x y zs
        obtain ⟨mo1, mo2, mo3⟩ := mid_ok hlen h64
        have mo4 := mid_pow hlen hm h64 (by decide)
        refine q_forR ⟨by decide, by decide⟩ (fun i σ H' => H = H' ∧ ∃ v3 : Option V, σ = [some (.ref d), some (.ref a), some (.int (lpw xs.length i : Nat)), v3]) ⟨rfl, _, rfl⟩ ?_ ?_
        · rintro i σ H' hi ⟨rfl, v3, rfl⟩
          walk_at "my_rd"
          rw [List.length_map]
          refine q_if2 (fun h => ?_) (fun h => ?_)
          · have h := dec_t h
            walk_at "my_rd"
            refine ⟨rfl, ?_⟩
            rw [lpw_t (show 2 * lpw xs.length i < xs.length by omega)]
            exact ⟨_, rfl⟩
          · have h := dec_f h
            walk_at "my_rd"
            refine ⟨rfl, ?_⟩
            rw [lpw_f (show ¬ 2 * lpw xs.length i < xs.length by omega)]
            exact ⟨_, rfl⟩
        rintro σ H' ⟨rfl, v3, rfl⟩
        rw [show (8 : Int).toNat = 8 from rfl, lpw_mid _ (by omega) hlen]
        walk_at "my_rd"
        refine q_methK ho (lkd (by decide +kernel) (by decide +kernel)) fun R hR => ?_
        walk_at "my_rd"
        have lx : (xs.map V.int).length = xs.length := List.length_map ..
        obtain ⟨vs0, hvl0, _⟩ := hD.v
        refine q_slL (sqL ha) fun p1 np1 => ?_
        rw [cut_take (by rw [lx]; omega), ← List.map_take]
        have sm1 : Same H (upd H p1 (.lst ((xs.take (mid xs.length)).map V.int))) := Same.new (Same.refl _) np1
        have lt : (xs.take (mid xs.length)).length = mid xs.length := by rw [List.length_take]; omega
        have ld : (xs.drop (mid xs.length)).length = xs.length - mid xs.length := List.length_drop ..
        walk_at "my_rd"
        refine ⟨d, vl, nd, p1, TT, _, rfl, hD.same sm1, upd_same, (ne_of_none hvl0 np1).symm, by rw [hmIH, lt]; exact mo4, by omega, fun z hz => hx z (List.mem_of_mem_take hz), by omega, fun H1 T1 l pre1 dg1 rt1 hl1 kq1 => ?_⟩
        have kqA : Kq vl nd H H1 := Kq.trans (Kq.same sm1) kq1
        have ha1 : H1 a = some (.lst (xs.map V.int)) := kqA _ _ ha hav (ne_of ha hD.n (by intro z; cases z))
        obtain ⟨vs1, hvl1, _⟩ := dg1.v
        walk_at "my_rd"
        refine q_slL (sqL ha1) fun p2 np2 => ?_
        rw [cut_drop (by rw [lx]; omega), ← List.map_drop]
        have sm2 : Same H1 (upd H1 p2 (.lst ((xs.drop (mid xs.length)).map V.int))) := Same.new (Same.refl _) np2
        walk_at "my_rd"
        rw [lt] at hl1
        refine ⟨d, vl, nd, p2, T1, _, rfl, dg1.same sm2, upd_same, (ne_of_none hvl1 np2).symm, by rw [hmIH, ld]; omega, by omega, fun z hz => hx z (List.mem_of_mem_drop hz), by omega, fun H2 T2 r pre2 dg2 rt2 hl2 kq2 => ?_⟩
        rw [ld] at hl2
        have kqB : Kq vl nd H H2 := Kq.trans kqA (Kq.trans (Kq.same sm2) kq2)
        have hl' := (rt1.mono pre2).at_
        have hr' := rt2.at_
        walk_at "my_rd"
        refine q_tupK (Nat.le_of_ble_eq_true rfl) fun t nt => ?_
        refine hR _ _ (num_use (k := kN l r) (dg2.same (Same.new (Same.refl _) nt)) (.tup upd_same (.cons (.str _) (.cons (.int _) (.cons (.int _) .nil)))) (okN (by omega) (by omega)) (by omega) fun H3 T3 i pre3 hl3 dg3 hat kq3 => ?_)
        walk_at "my_rd"
        exact k H3 T3 i (pre1.trans (pre2.trans pre3)) dg3 (.node hlen (rt1.mono (pre2.trans pre3)) (rt2.mono pre3) hat) (by omega) (Kq.trans kqB (Kq.trans (Kq.new Kq.refl nt) kq3))
theorem ok_L_root4 (T : Txt K mg) : FnOk P w K mg base CX0 9 T.f_L_root T.d_L_root ["digests", "leaves"] (sp_root K T.C_Digests 4) := by
  obtain ⟨mIH, hmIH⟩ : ∃ n : Nat, n = 3 := ⟨_, rfl⟩
  have ok_L_rootIH : ∀ T : Txt K mg, FnOk P w K mg base CX0 8 T.f_L_root T.d_L_root ["digests", "leaves"] (sp_root K T.C_Digests mIH) := by subst hmIH; exact fun T => ok_L_root3 T
  refine T.F_L_root.ok sc_L_root (fun vs H Q E h => ?_) (fun cdv A outer s H vs Q E hr h => ?_)
  · obtain ⟨d, vl, nd, a, T, xs, rfl, _⟩ := h; rfl
  · obtain ⟨d, vl, nd, a, TT, xs, rfl, hD, ha, hav, hm, h64, hx, hT, k⟩ := h
    obtain ⟨dx, ho⟩ := hD.o
    refine ⟨_, (pss_cons (ps_if (pt_cmpR op_eq (pe_callB cq_len (by rfl) T.z_len boot_len (pa_cons (pv 1) pa_nil)) pe_int (nomark _)) (pss_one (ps_ret (pe_meth (pv 0) T.cl_Digests T.m_Digests_number (ok_Digests_number T) (hr.mono (by decide)) T.b_Digests_number .nil pass0 (pa_cons (pe_tup (pa_cons pe_str pa_nil)) pa_nil)))) pss_nil)
      (pss_cons (ps_if (pt_cmpR op_eq (pe_callB cq_len (by rfl) T.z_len boot_len (pa_cons (pv 1) pa_nil)) pe_int (nomark _)) (pss_one (ps_ret (pe_meth (pv 0) T.cl_Digests T.m_Digests_number (ok_Digests_number T) (hr.mono (by decide)) T.b_Digests_number .nil pass0 (pa_cons (pe_tup (pa_cons pe_str (pa_cons (pe_ix ix_list (pv 1) pe_int (fun _ _ => rfl)) pa_nil))) pa_nil)))) pss_nil)
      (pss_cons (ps_set (i := 2) sc_L_root.nd rfl (Or.inl rfl) pe_int)
      (pss_cons (ps_for PassesOwn.never rfl (pi_range1 (by rfl) T.z_range (pa_cons pe_int pa_nil)) (pg_name (i := 3) sc_L_root.nd rfl (Or.inl rfl))
        (pss_one (ps_if (pt_cmpR op_lt (pe_op op_mul pe_int (pv 2)) (pe_callB cq_len (by rfl) T.z_len boot_len (pa_cons (pv 1) pa_nil)) (nomark _)) (pss_one (ps_set (i := 2) sc_L_root.nd rfl (Or.inl rfl) (pe_op op_mul pe_int (pv 2)))) pss_nil)))
      (pss_one (ps_ret (pe_meth (pv 0) T.cl_Digests T.m_Digests_number (ok_Digests_number T) (hr.mono (by decide)) T.b_Digests_number .nil pass0 (pa_cons (pe_tup (pa_cons pe_str (pa_cons (pe_call (ok_L_rootIH T) (hr.mono (by decide)) (by rfl) T.g_L_root T.F_L_root.kp T.b_L_root .nil pass0 (pa_cons (pv 0) (pa_cons (pe_slice sl_list (pv 1) po_none (po_some (pv 2))) pa_nil))) (pa_cons (pe_call (ok_L_rootIH T) (hr.mono (by decide)) (by rfl) T.g_L_root T.F_L_root.kp T.b_L_root .nil pass0 (pa_cons (pv 0) (pa_cons (pe_slice sl_list (pv 1) (po_some (pv 2)) po_none) pa_nil))) pa_nil)))) pa_nil)))))))), ?_⟩
    (dsimp only [cxOf, Cx.nox, Cx.wish, L2.start, List.map, List.length, List.replicate, List.cons_append, List.nil_append, List.append_eq, Nat.reduceSub, Nat.reduceAdd])
    walk_at "my_rd"
    cases xs with
    | nil =>
      rw [decide_eq_true (by simp)]
      walk_at "my_rd"
      refine q_methK ho (lkd (by decide +kernel) (by decide +kernel)) fun R hR => ?_
      walk_at "my_rd"
      refine q_tupK (Nat.le_of_ble_eq_true rfl) fun t nt => ?_
      refine hR _ _ (num_use (k := kE) (hD.same (Same.new (Same.refl _) nt)) (.tup upd_same (.cons (.str _) .nil)) okE (by simp at hT; omega) fun H' T' i pre hl dg hat kq => ?_)
      walk_at "my_rd"
      exact k H' T' i pre dg (.empty hat) (by simp; omega) (Kq.trans (Kq.new Kq.refl nt) kq)
    | cons x ys =>
      cases ys with
      | nil =>
        rw [decide_eq_false (by simp)]
        walk_at "my_rd"
        rw [decide_eq_true (by simp)]
        walk_at "my_rd"
        refine q_methK ho (lkd (by decide +kernel) (by decide +kernel)) fun R hR => ?_
        walk_at "my_rd"
        refine q_tupK (Nat.le_of_ble_eq_true rfl) fun t nt => ?_
        refine hR _ _ (num_use (k := kL x) (hD.same (Same.new (Same.refl _) nt)) (.tup upd_same (.cons (.str _) (.cons (.int x) .nil))) (okL (hx x List.mem_cons_self)) (by simp at hT; omega) fun H' T' i pre hl dg hat kq => ?_)
        walk_at "my_rd"
        exact k H' T' i pre dg (.leaf hat) (by simp; omega) (Kq.trans (Kq.new Kq.refl nt) kq)
      | cons y zs =>
        rw [decide_eq_false (by simp; omega)]
        walk_at "my_rd"
        rw [decide_eq_false (by simp; omega)]
        walk_at "my_rd"
        have hlen : 2 ≤ (x :: y :: zs).length := by simp
        generalize hxs : x :: y :: zs = xs at *
        clear hxs x y zs
        obtain ⟨mo1, mo2, mo3⟩ := mid_ok hlen h64
        have mo4 := mid_pow hlen hm h64 (by decide)
        refine q_forR ⟨by decide, by decide⟩ (fun i σ H' => H = H' ∧ ∃ v3 : Option V, σ = [some (.ref d), some (.ref a), some (.int (lpw xs.length i : Nat)), v3]) ⟨rfl, _, rfl⟩ ?_ ?_
        · rintro i σ H' hi ⟨rfl, v3, rfl⟩
          walk_at "my_rd"
          rw [List.length_map]
          refine q_if2 (fun h => ?_) (fun h => ?_)
          · have h := dec_t h
            walk_at "my_rd"
            refine ⟨rfl, ?_⟩
            rw [lpw_t (show 2 * lpw xs.length i < xs.length by omega)]
            exact ⟨_, rfl⟩
          · have h := dec_f h
            walk_at "my_rd"
            refine ⟨rfl, ?_⟩
            rw [lpw_f (show ¬ 2 * lpw xs.length i < xs.length by omega)]
            exact ⟨_, rfl⟩
        rintro σ H' ⟨rfl, v3, rfl⟩
        rw [show (8 : Int).toNat = 8 from rfl, lpw_mid _ (by omega) hlen]
        walk_at "my_rd"
        refine q_methK ho (lkd (by decide +kernel) (by decide +kernel)) fun R hR => ?_
        walk_at "my_rd"
        have lx : (xs.map V.int).length = xs.length := List.length_map ..
        obtain ⟨vs0, hvl0, _⟩ := hD.v
        refine q_slL (sqL ha) fun p1 np1 => ?_
        rw [cut_take (by rw [lx]; omega), ← List.map_take]
        have sm1 : Same H (upd H p1 (.lst ((xs.take (mid xs.length)).map V.int))) := Same.new (Same.refl _) np1
        have lt : (xs.take (mid xs.length)).length = mid xs.length := by rw [List.length_take]; omega
        have ld : (xs.drop (mid xs.length)).length = xs.length - mid xs.length := List.length_drop ..
        walk_at "my_rd"
        refine ⟨d, vl, nd, p1, TT, _, rfl, hD.same sm1, upd_same, (ne_of_none hvl0 np1).symm, by rw [hmIH, lt]; exact mo4, by omega, fun z hz => hx z (List.mem_of_mem_take hz), by omega, fun H1 T1 l pre1 dg1 rt1 hl1 kq1 => ?_⟩
        have kqA : Kq vl nd H H1 := Kq.trans (Kq.same sm1) kq1
        have ha1 : H1 a = some (.lst (xs.map V.int)) := kqA _ _ ha hav (ne_of ha hD.n (by intro z; cases z))
        obtain ⟨vs1, hvl1, _⟩ := dg1.v
        walk_at "my_rd"
        refine q_slL (sqL ha1) fun p2 np2 => ?_
        rw [cut_drop (by rw [lx]; omega), ← List.map_drop]
        have sm2 : Same H1 (upd H1 p2 (.lst ((xs.drop (mid xs.length)).map V.int))) := Same.new (Same.refl _) np2
        walk_at "my_rd"
        rw [lt] at hl1
        refine ⟨d, vl, nd, p2, T1, _, rfl, dg1.same sm2, upd_same, (ne_of_none hvl1 np2).symm, by rw [hmIH, ld]; omega, by omega, fun z hz => hx z (List.mem_of_mem_drop hz), by omega, fun H2 T2 r pre2 dg2 rt2 hl2 kq2 => ?_⟩
        rw [ld] at hl2
        have kqB : Kq vl nd H H2 := Kq.trans kqA (Kq.trans (Kq.same sm2) kq2)
        have hl' := (rt1.mono pre2).at_
        have hr' := rt2.at_
        walk_at "my_rd"
        refine q_tupK (Nat.le_of_ble_eq_true rfl) fun t nt => ?_
        refine hR _ _ (num_use (k := kN l r) (dg2.same (Same.new (Same.refl _) nt)) (.tup upd_same (.cons (.str _) (.cons (.int _) (.cons (.int _) .nil)))) (okN (by omega) (by omega)) (by omega) fun H3 T3 i pre3 hl3 dg3 hat kq3 => ?_)
        walk_at "my_rd"
        exact k H3 T3 i (pre1.trans (pre2.trans pre3)) dg3 (.node hlen (rt1.mono (pre2.trans pre3)) (rt2.mono pre3) hat) (by omega) (Kq.trans kqB (Kq.trans (Kq.new Kq.refl nt) kq3))
theorem ok_L_root5 (T : Txt K mg) : FnOk P w K mg base CX0 10 T.f_L_root T.d_L_root ["digests", "leaves"] (sp_root K T.C_Digests 5) := by
  obtain ⟨mIH, hmIH⟩ : ∃ n : Nat, n = 4 := ⟨_, rfl⟩
  have ok_L_rootIH : ∀ T : Txt K mg, FnOk P w K mg base CX0 9 T.f_L_root T.d_L_root ["digests", "leaves"] (sp_root K T.C_Digests mIH) := by subst hmIH; exact fun T => ok_L_root4 T
  refine T.F_L_root.ok sc_L_root (fun vs H Q E h => ?_) (fun cdv A outer s H vs Q E hr h => ?_)
  · obtain ⟨d, vl, nd, a, T, xs, rfl, _⟩ := h; rfl
  · obtain ⟨d, vl, nd, a, TT, xs, rfl, hD, ha, hav, hm, h64, hx, hT, k⟩ := h
    obtain ⟨dx, ho⟩ := hD.o
    refine ⟨_, (pss_cons (ps_if (pt_cmpR op_eq (pe_callB cq_len (by rfl) T.z_len boot_len (pa_cons (pv 1) pa_nil)) pe_int (nomark _)) (pss_one (ps_ret (pe_meth (pv 0) T.cl_Digests T.m_Digests_number (ok_Digests_number T) (hr.mono (by decide)) T.b_Digests_number .nil pass0 (pa_cons (pe_tup (pa_cons pe_str pa_nil)) pa_nil)))) pss_nil)
      (pss_cons (ps_if (pt_cmpR op_eq (pe_callB cq_len (by rfl) T.z_len boot_len (pa_cons (pv 1) pa_nil)) pe_int (nomark _)) (pss_one (ps_ret (pe_meth (pv 0) T.cl_Digests T.m_Digests_number (ok_Digests_number T) (hr.mono (by decide)) T.b_Digests_number .nil pass0 (pa_cons (pe_tup (pa_cons pe_str (pa_cons (pe_ix ix_list (pv 1) pe_int (fun _ _ => rfl)) pa_nil))) pa_nil)))) pss_nil)
      (pss_cons (ps_set (i := 2) sc_L_root.nd rfl (Or.inl rfl) pe_int)
      (pss_cons (ps_for PassesOwn.never rfl (pi_range1 (by rfl) T.z_range (pa_cons pe_int pa_nil)) (pg_name (i := 3) sc_L_root.nd rfl (Or.inl rfl))
        (pss_one (ps_if (pt_cmpR op_lt (pe_op op_mul pe_int (pv 2)) (pe_callB cq_len (by rfl) T.z_len boot_len (pa_cons (pv 1) pa_nil)) (nomark _)) (pss_one (ps_set (i := 2) sc_L_root.nd rfl (Or.inl rfl) (pe_op op_mul pe_int (pv 2)))) pss_nil)))
      (pss_one (ps_ret (pe_meth (pv 0) T.cl_Digests T.m_Digests_number (ok_Digests_number T) (hr.mono (by decide)) T.b_Digests_number .nil pass0 (pa_cons (pe_tup (pa_cons pe_str (pa_cons (pe_call (ok_L_rootIH T) (hr.mono (by decide)) (by rfl) T.g_L_root T.F_L_root.kp T.b_L_root .nil pass0 (pa_cons (pv 0) (pa_cons (pe_slice sl_list (pv 1) po_none (po_some (pv 2))) pa_nil))) (pa_cons (pe_call (ok_L_rootIH T) (hr.mono (by decide)) (by rfl) T.g_L_root T.F_L_root.kp T.b_L_root .nil pass0 (pa_cons (pv 0) (pa_cons (pe_slice sl_list (pv 1) (po_some (pv 2)) po_none) pa_nil))) pa_nil)))) pa_nil)))))))), ?_⟩
    (dsimp only [cxOf, Cx.nox, Cx.wish, L2.start, List.map, List.length, List.replicate, List.cons_append, List.nil_append, List.append_eq, Nat.reduceSub, Nat.reduceAdd])
    walk_at "my_rd"
    cases xs with
    | nil =>
      rw [decide_eq_true (by simp)]
      walk_at "my_rd"
      refine q_methK ho (lkd (by decide +kernel) (by decide +kernel)) fun R hR => ?_
      walk_at "my_rd"
      refine q_tupK (Nat.le_of_ble_eq_true rfl) fun t nt => ?_
      refine hR _ _ (num_use (k := kE) (hD.same (Same.new (Same.refl _) nt)) (.tup upd_same (.cons (.str _) .nil)) okE (by simp at hT; omega) fun H' T' i pre hl dg hat kq => ?_)
      walk_at "my_rd"
      exact k H' T' i pre dg (.empty hat) (by simp; omega) (Kq.trans (Kq.new Kq.refl nt) kq)
    | cons x ys =>
      cases ys with
      | nil =>
        rw [decide_eq_false (by simp)]
        walk_at "my_rd"
        rw [decide_eq_true (by simp)]
        walk_at "my_rd"
        refine q_methK ho (lkd (by decide +kernel) (by decide +kernel)) fun R hR => ?_
        walk_at "my_rd"
        refine q_tupK (Nat.le_of_ble_eq_true rfl) fun t nt => ?_
        refine hR _ _ (num_use (k := kL x) (hD.same (Same.new (Same.refl _) nt)) (.tup upd_same (.cons (.str _) (.cons (.int x) .nil))) (okL (hx x List.mem_cons_self)) (by simp at hT; omega) fun H' T' i pre hl dg hat kq => ?_)
        walk_at "my_rd"
        exact k H' T' i pre dg (.leaf hat) (by simp; omega) (Kq.trans (Kq.new Kq.refl nt) kq)
      | cons y zs =>
        rw [decide_eq_false (by simp; omega)]
        walk_at "my_rd"
        rw [decide_eq_false (by simp; omega)]
        walk_at "my_rd"
        have hlen : 2 ≤ (x :: y :: zs).length := by simp
        generalize hxs : x :: y :: zs = xs at *
        clear hxs x y zs
        obtain ⟨mo1, mo2, mo3⟩ := mid_ok hlen h64
        have mo4 := mid_pow hlen hm h64 (by decide)
        refine q_forR ⟨by decide, by decide⟩ (fun i σ H' => H = H' ∧ ∃ v3 : Option V, σ = [some (.ref d), some (.ref a), some (.int (lpw xs.length i : Nat)), v3]) ⟨rfl, _, rfl⟩ ?_ ?_
        · rintro i σ H' hi ⟨rfl, v3, rfl⟩
          walk_at "my_rd"
          rw [List.length_map]
          refine q_if2 (fun h => ?_) (fun h => ?_)
          · have h := dec_t h
            walk_at "my_rd"
            refine ⟨rfl, ?_⟩
            rw [lpw_t (show 2 * lpw xs.length i < xs.length by omega)]
            exact ⟨_, rfl⟩
          · have h := dec_f h
            walk_at "my_rd"
            refine ⟨rfl, ?_⟩
            rw [lpw_f (show ¬ 2 * lpw xs.length i < xs.length by omega)]
            exact ⟨_, rfl⟩
        rintro σ H' ⟨rfl, v3, rfl⟩
        rw [show (8 : Int).toNat = 8 from rfl, lpw_mid _ (by omega) hlen]
        walk_at "my_rd"
        refine q_methK ho (lkd (by decide +kernel) (by decide +kernel)) fun R hR => ?_
        walk_at "my_rd"
        have lx : (xs.map V.int).length = xs.length := List.length_map ..
        obtain ⟨vs0, hvl0, _⟩ := hD.v
        refine q_slL (sqL ha) fun p1 np1 => ?_
        rw [cut_take (by rw [lx]; omega), ← List.map_take]
        have sm1 : Same H (upd H p1 (.lst ((xs.take (mid xs.length)).map V.int))) := Same.new (Same.refl _) np1
        have lt : (xs.take (mid xs.length)).length = mid xs.length := by rw [List.length_take]; omega
        have ld : (xs.drop (mid xs.length)).length = xs.length - mid xs.length := List.length_drop ..
        walk_at "my_rd"
        refine ⟨d, vl, nd, p1, TT, _, rfl, hD.same sm1, upd_same, (ne_of_none hvl0 np1).symm, by rw [hmIH, lt]; exact mo4, by omega, fun z hz => hx z (List.mem_of_mem_take hz), by omega, fun H1 T1 l pre1 dg1 rt1 hl1 kq1 => ?_⟩
        have kqA : Kq vl nd H H1 := Kq.trans (Kq.same sm1) kq1
        have ha1 : H1 a = some (.lst (xs.map V.int)) := kqA _ _ ha hav (ne_of ha hD.n (by intro z; cases z))
        obtain ⟨vs1, hvl1, _⟩ := dg1.v
        walk_at "my_rd"
        refine q_slL (sqL ha1) fun p2 np2 => ?_
        rw [cut_drop (by rw [lx]; omega), ← List.map_drop]
        have sm2 : Same H1 (upd H1 p2 (.lst ((xs.drop (mid xs.length)).map V.int))) := Same.new (Same.refl _) np2
        walk_at "my_rd"
        rw [lt] at hl1
        refine ⟨d, vl, nd, p2, T1, _, rfl, dg1.same sm2, upd_same, (ne_of_none hvl1 np2).symm, by rw [hmIH, ld]; omega, by omega, fun z hz => hx z (List.mem_of_mem_drop hz), by omega, fun H2 T2 r pre2 dg2 rt2 hl2 kq2 => ?_⟩
        rw [ld] at hl2
        have kqB : Kq vl nd H H2 := Kq.trans kqA (Kq.trans (Kq.same sm2) kq2)
        have hl' := (rt1.mono pre2).at_
        have hr' := rt2.at_
        walk_at "my_rd"
        refine q_tupK (Nat.le_of_ble_eq_true rfl) fun t nt => ?_
        refine hR _ _ (num_use (k := kN l r) (dg2.same (Same.new (Same.refl _) nt)) (.tup upd_same (.cons (.str _) (.cons (.int _) (.cons (.int _) .nil)))) (okN (by omega) (by omega)) (by omega) fun H3 T3 i pre3 hl3 dg3 hat kq3 => ?_)
        walk_at "my_rd"
        exact k H3 T3 i (pre1.trans (pre2.trans pre3)) dg3 (.node hlen (rt1.mono (pre2.trans pre3)) (rt2.mono pre3) hat) (by omega) (Kq.trans kqB (Kq.trans (Kq.new Kq.refl nt) kq3))
end

local macro_rules | `(tactic| walk_at "my_rd") => `(tactic| (repeat first
  | with_reducible refine q_tCons ?_
  | ((with_reducible apply q_var); (focus (exact rfl)))
  | with_reducible refine q_c ?_
  | with_reducible refine q_nx ?_
  | with_reducible refine q_bK ?_
  | with_reducible refine q_call ?_
  | with_reducible refine q_callK ?_
  | with_reducible refine q_tNil ?_
  | with_reducible refine q_cb ?_
  | with_reducible refine q_seq ?_
  | with_reducible refine q_asg ?_
  | with_reducible refine q_gName ?_
  | with_reducible refine q_op ?_
  | with_reducible refine q_test ?_
  | with_reducible refine q_tB ?_
  | with_reducible refine q_ifS ?_
  | with_reducible refine q_ret ?_
  | with_reducible refine q_rt ?_
  | with_reducible refine q_next ?_
  | with_reducible refine q_ifF ?_
  | with_reducible refine q_ifT ?_
  | with_reducible refine q_drop ?_
  | with_reducible refine q_and ?_
  | with_reducible refine q_or ?_
  | with_reducible refine q_andT ?_
  | with_reducible refine q_andF ?_
  | with_reducible refine q_orF ?_
  | with_reducible refine q_orT ?_
  | with_reducible refine q_andV ?_
  | with_reducible refine q_andVT ?_
  | with_reducible refine q_andVF ?_
  | with_reducible refine q_orV ?_
  | with_reducible refine q_gCons ?_
  | with_reducible refine q_gNil ?_
  | with_reducible refine q_tup ?_
  | with_reducible refine q_lst ?_
  | with_reducible refine q_not ?_
  | with_reducible refine q_notKT ?_
  | with_reducible refine q_notKF ?_
  | with_reducible refine q_I0 ?_
  | with_reducible refine q_eqI ?_
  | with_reducible refine q_neI ?_
  | ((with_reducible refine q_I ?_ ?_); first | decide | omega | exact ⟨by omega, by omega⟩ | exact ⟨by decide, by decide⟩ | exact .inl ⟨by omega, by omega⟩ | exact .inr ⟨by omega, by omega⟩ | exact .inr ⟨by decide, by decide⟩)
  | with_reducible refine q_eqS ?_
  | with_reducible refine q_neS ?_
  | with_reducible refine q_brk ?_
  | with_reducible refine q_ct ?_
  | with_reducible refine q_bk ?_
  | with_reducible refine q_cn ?_
  | with_reducible refine q_retN ?_
  | with_reducible refine q_gSub ?_
  | with_reducible refine q_for ?_
  | with_reducible refine q_iList ?_
  | with_reducible refine q_iTup ?_
  | with_reducible refine q_iRng1 ?_
  | with_reducible refine q_notK ?_
  | with_reducible refine q_orVT ?_
  | with_reducible refine q_orVF ?_
  | with_reducible refine q_notV ?_
  | with_reducible refine q_notVK ?_
  | with_reducible refine q_ifE ?_
  | with_reducible refine q_ifET ?_
  | with_reducible refine q_ifEF ?_
  | with_reducible refine q_yes ?_
  | with_reducible refine q_un ?_
  | with_reducible refine q_rU ?_
  | with_reducible refine q_abs ?_
  | with_reducible refine q_int1 ?_
  | with_reducible refine q_bm ?_
  | with_reducible refine q_bm0 ?_
  | with_reducible refine q_lc ?_
  | with_reducible refine q_keepT ?_
  | with_reducible refine q_keepF ?_
  | ((with_reducible apply q_aug); (focus (exact rfl)))
  | with_reducible refine q_ipI ?_
  | with_reducible refine q_chain ?_
  | with_reducible refine q_pairC ?_
  | with_reducible refine q_pairsK ?_
  | with_reducible refine q_pairN ?_
  | with_reducible refine q_fld ?_
  | with_reducible refine q_sFld ?_
  | with_reducible refine q_meth ?_
  | with_reducible refine q_makeK ?_
  | with_reducible refine q_isBl ?_
  | with_reducible refine q_notBl ?_
  | with_reducible refine q_sl ?_
  | with_reducible refine q_noPart ?_
  | with_reducible refine q_part ?_
  | with_reducible refine q_partK ?_
  | ((with_reducible apply q_mulStr); (focus (decide +kernel)))
  | with_reducible refine q_chT ?_
  | with_reducible refine q_chF ?_
  | with_reducible refine q_ord ?_
  | with_reducible refine q_iStr0 ?_
  | with_reducible refine q_iStr ?_
  | with_reducible refine q_tDIn ?_
  | with_reducible refine q_tDNotIn ?_
  | with_reducible refine q_tDGet ?_
  | with_reducible refine q_tDGet2 ?_
  | with_reducible refine q_tDGet1 ?_
  | with_reducible refine q_tDSetd ?_
  | ((with_reducible apply q_dG2a); (focus ((repeat first | (with_reducible exact upd_same) | (with_reducible assumption) | (with_reducible apply upd_new (by assumption)) | (with_reducible apply upd_other (by first | assumption | exact Ne.symm (by assumption))) | (with_reducible refine' Kp.get (by assumption) ?_ (by first | assumption | exact Ne.symm (by assumption))) | (with_reducible apply Same.get (by assumption))); done)))
  | ((with_reducible apply q_dSda); (focus ((repeat first | (with_reducible exact upd_same) | (with_reducible assumption) | (with_reducible apply upd_new (by assumption)) | (with_reducible apply upd_other (by first | assumption | exact Ne.symm (by assumption))) | (with_reducible refine' Kp.get (by assumption) ?_ (by first | assumption | exact Ne.symm (by assumption))) | (with_reducible apply Same.get (by assumption))); done)))
  | with_reducible refine q_sDPut ?_
  | ((with_reducible apply q_dInS); (focus ((repeat first | (with_reducible exact upd_same) | (with_reducible assumption) | (with_reducible apply upd_new (by assumption)) | (with_reducible apply upd_other (by first | assumption | exact Ne.symm (by assumption))) | (with_reducible refine' Kp.get (by assumption) ?_ (by first | assumption | exact Ne.symm (by assumption))) | (with_reducible apply Same.get (by assumption))); done)))
  | ((with_reducible apply q_dNInS); (focus ((repeat first | (with_reducible exact upd_same) | (with_reducible assumption) | (with_reducible apply upd_new (by assumption)) | (with_reducible apply upd_other (by first | assumption | exact Ne.symm (by assumption))) | (with_reducible refine' Kp.get (by assumption) ?_ (by first | assumption | exact Ne.symm (by assumption))) | (with_reducible apply Same.get (by assumption))); done)))
  | ((with_reducible apply q_dInI); (focus ((repeat first | (with_reducible exact upd_same) | (with_reducible assumption) | (with_reducible apply upd_new (by assumption)) | (with_reducible apply upd_other (by first | assumption | exact Ne.symm (by assumption))) | (with_reducible refine' Kp.get (by assumption) ?_ (by first | assumption | exact Ne.symm (by assumption))) | (with_reducible apply Same.get (by assumption))); done)))
  | ((with_reducible apply q_dNInI); (focus ((repeat first | (with_reducible exact upd_same) | (with_reducible assumption) | (with_reducible apply upd_new (by assumption)) | (with_reducible apply upd_other (by first | assumption | exact Ne.symm (by assumption))) | (with_reducible refine' Kp.get (by assumption) ?_ (by first | assumption | exact Ne.symm (by assumption))) | (with_reducible apply Same.get (by assumption))); done)))
  | ((with_reducible apply q_bmL); (focus ((repeat first | (with_reducible exact upd_same) | (with_reducible assumption) | (with_reducible apply upd_new (by assumption)) | (with_reducible apply upd_other (by first | assumption | exact Ne.symm (by assumption))) | (with_reducible refine' Kp.get (by assumption) ?_ (by first | assumption | exact Ne.symm (by assumption))) | (with_reducible apply Same.get (by assumption))); done)))
  | ((with_reducible apply q_bmL0); (focus ((repeat first | (with_reducible exact upd_same) | (with_reducible assumption) | (with_reducible apply upd_new (by assumption)) | (with_reducible apply upd_other (by first | assumption | exact Ne.symm (by assumption))) | (with_reducible refine' Kp.get (by assumption) ?_ (by first | assumption | exact Ne.symm (by assumption))) | (with_reducible apply Same.get (by assumption))); done)))
  | ((with_reducible apply q_ixLt); (focus ((repeat first | (with_reducible exact upd_same) | (with_reducible assumption) | (with_reducible apply upd_new (by assumption)) | (with_reducible apply upd_other (by first | assumption | exact Ne.symm (by assumption))) | (with_reducible refine' Kp.get (by assumption) ?_ (by first | assumption | exact Ne.symm (by assumption))) | (with_reducible apply Same.get (by assumption))); done)); (focus (exact rfl)))
  | ((with_reducible apply q_ixTt); (focus ((repeat first | (with_reducible exact upd_same) | (with_reducible assumption) | (with_reducible apply upd_new (by assumption)) | (with_reducible apply upd_other (by first | assumption | exact Ne.symm (by assumption))) | (with_reducible refine' Kp.get (by assumption) ?_ (by first | assumption | exact Ne.symm (by assumption))) | (with_reducible apply Same.get (by assumption))); done)); (focus (exact rfl)))
  | ((with_reducible apply q_lenLt); (focus ((repeat first | (with_reducible exact upd_same) | (with_reducible assumption) | (with_reducible apply upd_new (by assumption)) | (with_reducible apply upd_other (by first | assumption | exact Ne.symm (by assumption))) | (with_reducible refine' Kp.get (by assumption) ?_ (by first | assumption | exact Ne.symm (by assumption))) | (with_reducible apply Same.get (by assumption))); done)))
  | ((with_reducible apply q_lenTt); (focus ((repeat first | (with_reducible exact upd_same) | (with_reducible assumption) | (with_reducible apply upd_new (by assumption)) | (with_reducible apply upd_other (by first | assumption | exact Ne.symm (by assumption))) | (with_reducible refine' Kp.get (by assumption) ?_ (by first | assumption | exact Ne.symm (by assumption))) | (with_reducible apply Same.get (by assumption))); done)))
  | ((with_reducible apply q_append); (focus ((repeat first | (with_reducible exact upd_same) | (with_reducible assumption) | (with_reducible apply upd_new (by assumption)) | (with_reducible apply upd_other (by first | assumption | exact Ne.symm (by assumption))) | (with_reducible refine' Kp.get (by assumption) ?_ (by first | assumption | exact Ne.symm (by assumption))) | (with_reducible apply Same.get (by assumption))); done)); (focus ((first | (exact Nat.lt_of_ble_eq_true rfl) | (simp only [List.length_append, List.length_cons, List.length_nil, List.length_map]; exact small1000 (by omega))))))
  | ((with_reducible apply q_setL); (focus ((repeat first | (with_reducible exact upd_same) | (with_reducible assumption) | (with_reducible apply upd_new (by assumption)) | (with_reducible apply upd_other (by first | assumption | exact Ne.symm (by assumption))) | (with_reducible refine' Kp.get (by assumption) ?_ (by first | assumption | exact Ne.symm (by assumption))) | (with_reducible apply Same.get (by assumption))); done)); (focus (exact rfl)))
  | with_reducible refine q_ifNT ?_
  | with_reducible refine q_ifNF ?_
  | with_reducible refine q_andNT ?_
  | with_reducible refine q_andNF ?_
  | with_reducible refine q_orNT ?_
  | with_reducible refine q_orNF ?_
  | with_reducible refine q_bKNT ?_
  | with_reducible refine q_bKNF ?_
  | with_reducible refine q_tNGet ?_
  | with_reducible refine q_tNIn ?_
  | with_reducible refine q_sNPut ?_
  | with_reducible refine q_sFldAug ?_
  | with_reducible refine q_sDAug ?_
  | with_reducible refine q_sDDel ?_
  | with_reducible refine q_forX ?_
  | with_reducible refine q_tMake ?_
  | ((with_reducible apply q_dG1a); (focus ((repeat first | (with_reducible exact upd_same) | (with_reducible assumption) | (with_reducible apply upd_new (by assumption)) | (with_reducible apply upd_other (by first | assumption | exact Ne.symm (by assumption))) | (with_reducible refine' Kp.get (by assumption) ?_ (by first | assumption | exact Ne.symm (by assumption))) | (with_reducible apply Same.get (by assumption))); done)))))
open TL
/-! spans -/
def gsz (s e : Nat) : Nat → Nat → Nat
  | 0, z => z
  | f + 1, z => if s % (2 * z) = 0 ∧ s + 2 * z ≤ e then gsz s e f (2 * z) else z
theorem gsz_f {s e z : Nat} (h : ¬ (s % (2 * z) = 0 ∧ s + 2 * z ≤ e)) : ∀ f, gsz s e f z = z
  | 0 => rfl
  | f + 1 => if_neg h
theorem gsz_t {s e z f : Nat} (h : s % (2 * z) = 0 ∧ s + 2 * z ≤ e) : gsz s e (f + 1) z = gsz s e f (2 * z) := if_pos h
theorem gsz_le {s e : Nat} : ∀ {f z : Nat}, 1 ≤ z → s + z ≤ e → 1 ≤ gsz s e f z ∧ s + gsz s e f z ≤ e
  | 0, _, h1, h2 => ⟨h1, h2⟩
  | f + 1, z, h1, h2 => by
    unfold gsz
    split
    · exact gsz_le (by omega) (by omega)
    · exact ⟨h1, h2⟩
def wid (e : Nat) : Nat → Nat → List (Nat × Nat)
  | 0, _ => []
  | f + 1, s => if s < e then (s, gsz s e 6 1) :: wid e f (s + gsz s e 6 1) else []
theorem wid_f {e s : Nat} (h : ¬ s < e) : ∀ f, wid e f s = []
  | 0 => rfl
  | f + 1 => if_neg h
theorem wid_t {e s f : Nat} (h : s < e) : wid e (f + 1) s = (s, gsz s e 6 1) :: wid e f (s + gsz s e 6 1) := if_pos h
theorem wid_mem {e : Nat} : ∀ {f s : Nat} {p : Nat × Nat}, p ∈ wid e f s → s ≤ p.1 ∧ 1 ≤ p.2 ∧ p.1 + p.2 ≤ e
  | 0, _, _, h => by cases h
  | f + 1, s, p, h => by
    by_cases hs : s < e
    · rw [wid_t hs] at h
      have g := gsz_le (s := s) (e := e) (f := 6) (z := 1) (by omega) (by omega)
      rcases List.mem_cons.mp h with rfl | h
      · exact ⟨Nat.le_refl _, g.1, g.2⟩
      · have := wid_mem h
        omega
    · rw [wid_f hs] at h
      cases h
theorem wid_len {e : Nat} : ∀ {f s : Nat}, (wid e f s).length ≤ e - s
  | 0, _ => Nat.zero_le _
  | f + 1, s => by
    by_cases hs : s < e
    · rw [wid_t hs, List.length_cons]
      have g := gsz_le (s := s) (e := e) (f := 6) (z := 1) (by omega) (by omega)
      have := wid_len (e := e) (f := f) (s := s + gsz s e 6 1)
      omega
    · rw [wid_f hs]
      exact Nat.zero_le _
def spans (o n : Nat) : List (Nat × Nat) := wid o 30 0 ++ wid n 30 o
theorem spans_len {o n : Nat} (h : o ≤ n) : (spans o n).length ≤ n := by
  unfold spans
  have h1 := wid_len (e := o) (f := 30) (s := 0)
  have h2 := wid_len (e := n) (f := 30) (s := o)
  rw [List.length_append]
  omega
theorem spans_mem {o n : Nat} (h : o ≤ n) {p : Nat × Nat} (hp : p ∈ spans o n) : 1 ≤ p.2 ∧ p.1 + p.2 ≤ n := by
  rcases List.mem_append.mp hp with q | q
  · have := wid_mem q; omega
  · have := wid_mem q; omega
def f2 (p : Nat × Nat) : List V := [.int (p.1 : Nat), .int (p.2 : Nat)]
theorem mod_nat (s z : Nat) : (s : Int) % (2 * (z : Int)) = ((s % (2 * z) : Nat) : Int) := by
  rw [show 2 * (z : Int) = ((2 * z : Nat) : Int) by omega]
  exact (Int.natCast_emod s (2 * z)).symm

/-! the widest parts -/
def sp_wid : Sp := fun vs H Q _ => ∃ s e : Nat, vs = [.int (s : Nat), .int (e : Nat)] ∧ e ≤ 30 ∧ ∀ (f : Addr) (H' : Hp) (xs : List V), H f = none → Same H H' → H' f = some (.lst xs) → RowsAt f2 H' xs (wid e 30 s) → Q (.ref f) H'
def sp_gro : Sp := fun vs H Q _ => ∃ o n : Nat, vs = [.int (o : Nat), .int (n : Nat)] ∧ o ≤ 30 ∧ n ≤ 30 ∧ ∀ (f : Addr) (H' : Hp) (xs : List V), H f = none → Same H H' → H' f = some (.lst xs) → RowsAt f2 H' xs (spans o n) → Q (.ref f) H'
section
variable {P : Program} {w : World} {K : PySem.W.Frag} {mg : Str → Option Value} {base : Heap}
theorem ok_widest_parts (T : Txt K mg) : FnOk P w K mg base CX0 1 T.f_widest_parts T.d_widest_parts ["start", "end"] sp_wid := by
  refine T.F_widest_parts.ok sc_widest_parts (fun vs H Q E h => ?_) (fun cdv A outer s H vs Q E hr h => ?_)
  · obtain ⟨n, i, rfl, _⟩ := h; rfl
  · obtain ⟨s0, e, rfl, h30, k⟩ := h
    refine ⟨_, (pss_cons (ps_set (i := 2) sc_widest_parts.nd rfl (Or.inl rfl) (pe_lst pa_nil))
      (pss_cons (ps_while PassesOwn.never (pt_cmpR op_lt (pv 0) (pv 1) (nomark _)) (pss_cons (ps_set (i := 3) sc_widest_parts.nd rfl (Or.inl rfl) pe_int)
      (Evl.pss_cut (ps_while PassesOwn.never (PW.pt (pw_and (pt_cmpR op_eq (pe_op op_mod (pv 0) (pe_op op_mul pe_int (pv 3))) pe_int (nomark _)) (pw_and1 (pt_cmpR op_le (pe_op op_add (pv 0) (pe_op op_mul pe_int (pv 3))) (pv 1) (nomark _))))) (pss_one (ps_set (i := 3) sc_widest_parts.nd rfl (Or.inl rfl) (pe_op op_mul pe_int (pv 3)))))
      (pss_cons (ps_expr (pe_bm PySem.F.plainAttrs_list PySem.F.slot_list_append PySem.F.type_list_append mt_append (pv 2) (pa_cons (pe_tup (pa_cons (pv 0) (pa_cons (pv 3) pa_nil))) pa_nil)))
      (pss_one (ps_aug (i := 0) sc_widest_parts.nd rfl (Or.inl rfl) (pv 3) ip_add))))))
      (pss_one (ps_ret (pv 2))))), ?_⟩
    (dsimp only [cxOf, Cx.nox, Cx.wish, L2.start, List.map, List.length, List.replicate, List.cons_append, List.nil_append, List.append_eq, Nat.reduceSub, Nat.reduceAdd])
    walk_at "my_rd"
    refine q_lstK (Nat.le_of_ble_eq_true rfl) fun f nf => ?_
    have sm0 : Same H (upd H f (.lst [])) := Same.new (Same.refl _) nf
    have hf0 : upd H f (.lst []) f = some (.lst []) := upd_same
    generalize upd H f (.lst []) = H0 at sm0 hf0
    walk_at "my_rd"
    refine q_while (fun m σ H' => ∃ (s g : Nat) (xs : List V) (acc : List (Nat × Nat)) (v3 : Option V), σ = [some (.int (s : Nat)), some (.int (e : Nat)), some (.ref f), v3] ∧ Same H H' ∧ H' f = some (.lst xs) ∧ RowsAt f2 H' xs acc ∧ m = e - s ∧ e - s ≤ g ∧ acc.length + (e - s) ≤ 30 ∧ acc ++ wid e g s = wid e 30 s0) (m0 := e - s0)
      ⟨s0, 30, [], [], _, rfl, sm0, hf0, .nil, rfl, by omega, by show 0 + _ ≤ 30; omega, rfl⟩ ?_
    rintro m σ H' ⟨s, g, xs, acc, v3, rfl, sm, hf, hR, rfl, hg, hal, hw⟩
    walk_at "my_rd"
    refine q_wh2 (fun h => ?_) (fun h => ?_)
    · have h := dec_t h
      obtain ⟨g, rfl⟩ : ∃ g', g = g' + 1 := ⟨g - 1, by omega⟩
      rw [wid_t (by omega)] at hw
      walk_at "my_rd"
      refine q_cut (Mid := fun σ H2 => H2 = H' ∧ σ = [some (.int (s : Nat)), some (.int (e : Nat)), some (.ref f), some (.int (gsz s e 6 1 : Nat))]) ?_ ?_
      · refine q_while (fun m2 σ H2 => H2 = H' ∧ ∃ z j : Nat, σ = [some (.int (s : Nat)), some (.int (e : Nat)), some (.ref f), some (.int (z : Nat))] ∧ m2 = j ∧ z * 2 ^ j = 64 ∧ 1 ≤ z ∧ z ≤ 64 ∧ s + z ≤ e ∧ gsz s e j z = gsz s e 6 1) (m0 := 6)
          ⟨rfl, 1, 6, rfl, rfl, rfl, by omega, by omega, by omega, rfl⟩ ?_
        rintro m2 σ H2 ⟨rfl, z, j, rfl, hm2, hz, hz1, hz64, hsz, hG⟩
        walk_at "my_rd"
        rw [mod_nat]
        refine q_and2 (fun h1 => ?_) (fun h1 => ?_)
        · have h1 := dec_t h1
          walk_at "my_rd"
          refine q_wh2 (fun h2 => ?_) (fun h2 => ?_)
          · have h2 := dec_t h2
            subst hm2
            obtain ⟨j, rfl⟩ : ∃ j', m2 = j' + 1 := ⟨m2 - 1, by
              cases m2 with
              | zero => omega
              | succ m2 => omega⟩
            rw [gsz_t (by omega)] at hG
            walk_at "my_rd"
            refine ⟨j, by omega, rfl, 2 * z, j, rfl, rfl, ?_, by omega, by omega, by omega, hG⟩
            rw [← hz, Nat.pow_succ]
            rw [Nat.mul_comm 2 z, Nat.mul_assoc, Nat.mul_comm 2]
          · have h2 := dec_f h2
            rw [gsz_f (by omega)] at hG
            walk_at "my_rd"
            exact ⟨rfl, by rw [hG]⟩
        · have h1 := dec_f h1
          rw [gsz_f (by omega)] at hG
          walk_at "my_rd"
          refine q_whF ?_
          walk_at "my_rd"
          exact ⟨rfl, by rw [hG]⟩
      · rintro σ H2 ⟨rfl, rfl⟩
        have hz := gsz_le (s := s) (e := e) (f := 6) (z := 1) (by omega) (by omega)
        generalize gsz s e 6 1 = z at hw hz
        walk_at "my_rd"
        refine q_tupK (Nat.le_of_ble_eq_true rfl) fun t nt => ?_
        have smt : Same H2 (upd H2 t (.tup [.int (s : Nat), .int (z : Nat)])) := Same.new (Same.refl _) nt
        have ht : upd H2 t (.tup [.int (s : Nat), .int (z : Nat)]) t = some (.tup (f2 (s, z))) := upd_same
        generalize upd H2 t (.tup [.int (s : Nat), .int (z : Nat)]) = G at smt ht
        have hfG := smt _ _ hf
        have hRG := hR.same smt
        have lx := hR.len
        have hlg := small1000 (n := xs.length) (by omega)
        walk_at "my_rd"
        refine q_append hfG hlg ?_
        walk_at "my_rd"
        refine ⟨e - (s + z), by omega, s + z, g, xs ++ [.ref t], acc ++ [(s, z)], _, rfl, fun b o q => upd_other (ne_of_none q nf) ((sm.trans smt) _ _ q), upd_same, ?_, rfl, by omega, ?_, ?_⟩
        · have hfo : ∀ b ys, G b = some (.tup ys) → upd G f (.lst (xs ++ [.ref t])) b = some (.tup ys) := fun b ys q => upd_other (ne_of q hfG (by intro z; cases z)) q
          exact (hRG.mono hfo).snoc (hfo _ _ ht)
        · rw [List.length_append]; show acc.length + 1 + _ ≤ 30; omega
        · rw [List.append_assoc]; exact hw
    · have h := dec_f h
      rw [wid_f (by omega), List.append_nil] at hw
      subst hw
      walk_at "my_rd"
      exact k f _ _ nf sm hf hR
theorem q_cat {H : Hp} {Q : VK} {l b : Addr} {xs zs : List V} (h1 : H l = some (.lst xs)) (h2 : H b = some (.lst zs)) (hl : xs.length + zs.length ≤ sizeLine) (k : ∀ p, H p = none → Q (.ref p) (upd H p (.lst (xs ++ zs)))) : rCat (.ref l) (.ref b) H Q := ⟨l, b, xs, zs, rfl, rfl, h1, h2, hl, k⟩
theorem ok_growth_parts (T : Txt K mg) : FnOk P w K mg base CX0 2 T.f_growth_parts T.d_growth_parts ["old_size", "new_size"] sp_gro := by
  refine T.F_growth_parts.ok sc_growth_parts (fun vs H Q E h => ?_) (fun cdv A outer s H vs Q E hr h => ?_)
  · obtain ⟨n, i, rfl, _⟩ := h; rfl
  · obtain ⟨o, n, rfl, h1, h2, k⟩ := h
    refine ⟨_, (pss_one (ps_ret (pe_op op_cat (pe_call (ok_widest_parts T) (hr.mono (by decide)) (by rfl) T.g_widest_parts T.F_widest_parts.kp T.b_widest_parts .nil pass0 (pa_cons pe_int (pa_cons (pv 0) pa_nil))) (pe_call (ok_widest_parts T) (hr.mono (by decide)) (by rfl) T.g_widest_parts T.F_widest_parts.kp T.b_widest_parts .nil pass0 (pa_cons (pv 0) (pa_cons (pv 1) pa_nil)))))), ?_⟩
    (dsimp only [cxOf, Cx.nox, Cx.wish, L2.start, List.map, List.length, List.replicate, List.cons_append, List.nil_append, List.append_eq, Nat.reduceSub, Nat.reduceAdd])
    walk_at "my_rd"
    refine ⟨0, o, rfl, h1, fun f1 H1 xs nf1 sm1 hf1 r1 => ?_⟩
    walk_at "my_rd"
    refine ⟨o, n, rfl, h2, fun f2' H2 ys nf2 sm2 hf2 r2 => ?_⟩
    have l1 := r1.len
    have l2 := r2.len
    have l3 := wid_len (e := o) (f := 30) (s := 0)
    have l4 := wid_len (e := n) (f := 30) (s := o)
    walk_at "my_rd"
    refine q_cat (sm2 _ _ hf1) hf2 (Nat.le_of_lt (small1000 (by omega))) fun f nf => ?_
    have sm3 : Same H2 (upd H2 f (.lst (xs ++ ys))) := Same.new (Same.refl _) nf
    refine k f _ (xs ++ ys) (Same.free (sm1.trans sm2) nf) (sm1.trans (sm2.trans sm3)) upd_same ?_
    exact RowsAt.app (r1.same (sm2.trans sm3)) (r2.same sm3)
end

local macro_rules | `(tactic| walk_at "my_rd") => `(tactic| (repeat first
  | with_reducible refine q_tCons ?_
  | ((with_reducible apply q_var); (focus (exact rfl)))
  | with_reducible refine q_c ?_
  | with_reducible refine q_nx ?_
  | with_reducible refine q_bK ?_
  | with_reducible refine q_call ?_
  | with_reducible refine q_callK ?_
  | with_reducible refine q_tNil ?_
  | with_reducible refine q_cb ?_
  | with_reducible refine q_seq ?_
  | with_reducible refine q_asg ?_
  | with_reducible refine q_gName ?_
  | with_reducible refine q_op ?_
  | with_reducible refine q_test ?_
  | with_reducible refine q_tB ?_
  | with_reducible refine q_ifS ?_
  | with_reducible refine q_ret ?_
  | with_reducible refine q_rt ?_
  | with_reducible refine q_next ?_
  | with_reducible refine q_ifF ?_
  | with_reducible refine q_ifT ?_
  | with_reducible refine q_drop ?_
  | with_reducible refine q_and ?_
  | with_reducible refine q_or ?_
  | with_reducible refine q_andT ?_
  | with_reducible refine q_andF ?_
  | with_reducible refine q_orF ?_
  | with_reducible refine q_orT ?_
  | with_reducible refine q_andV ?_
  | with_reducible refine q_andVT ?_
  | with_reducible refine q_andVF ?_
  | with_reducible refine q_orV ?_
  | with_reducible refine q_gCons ?_
  | with_reducible refine q_gNil ?_
  | with_reducible refine q_tup ?_
  | with_reducible refine q_lst ?_
  | with_reducible refine q_not ?_
  | with_reducible refine q_notKT ?_
  | with_reducible refine q_notKF ?_
  | with_reducible refine q_I0 ?_
  | with_reducible refine q_eqI ?_
  | with_reducible refine q_neI ?_
  | ((with_reducible refine q_I ?_ ?_); first | decide | omega | exact ⟨by omega, by omega⟩ | exact ⟨by decide, by decide⟩ | exact .inl ⟨by omega, by omega⟩ | exact .inr ⟨by omega, by omega⟩ | exact .inr ⟨by decide, by decide⟩)
  | with_reducible refine q_eqS ?_
  | with_reducible refine q_neS ?_
  | with_reducible refine q_brk ?_
  | with_reducible refine q_ct ?_
  | with_reducible refine q_bk ?_
  | with_reducible refine q_cn ?_
  | with_reducible refine q_retN ?_
  | with_reducible refine q_gSub ?_
  | with_reducible refine q_for ?_
  | with_reducible refine q_iList ?_
  | with_reducible refine q_iTup ?_
  | with_reducible refine q_iRng1 ?_
  | with_reducible refine q_notK ?_
  | with_reducible refine q_orVT ?_
  | with_reducible refine q_orVF ?_
  | with_reducible refine q_notV ?_
  | with_reducible refine q_notVK ?_
  | with_reducible refine q_ifE ?_
  | with_reducible refine q_ifET ?_
  | with_reducible refine q_ifEF ?_
  | with_reducible refine q_yes ?_
  | with_reducible refine q_un ?_
  | with_reducible refine q_rU ?_
  | with_reducible refine q_abs ?_
  | with_reducible refine q_int1 ?_
  | with_reducible refine q_bm ?_
  | with_reducible refine q_bm0 ?_
  | with_reducible refine q_lc ?_
  | with_reducible refine q_keepT ?_
  | with_reducible refine q_keepF ?_
  | ((with_reducible apply q_aug); (focus (exact rfl)))
  | with_reducible refine q_ipI ?_
  | with_reducible refine q_chain ?_
  | with_reducible refine q_pairC ?_
  | with_reducible refine q_pairsK ?_
  | with_reducible refine q_pairN ?_
  | with_reducible refine q_fld ?_
  | with_reducible refine q_sFld ?_
  | with_reducible refine q_meth ?_
  | with_reducible refine q_makeK ?_
  | with_reducible refine q_isBl ?_
  | with_reducible refine q_notBl ?_
  | with_reducible refine q_sl ?_
  | with_reducible refine q_noPart ?_
  | with_reducible refine q_part ?_
  | with_reducible refine q_partK ?_
  | ((with_reducible apply q_mulStr); (focus (decide +kernel)))
  | with_reducible refine q_chT ?_
  | with_reducible refine q_chF ?_
  | with_reducible refine q_ord ?_
  | with_reducible refine q_iStr0 ?_
  | with_reducible refine q_iStr ?_
  | with_reducible refine q_tDIn ?_
  | with_reducible refine q_tDNotIn ?_
  | with_reducible refine q_tDGet ?_
  | with_reducible refine q_tDGet2 ?_
  | with_reducible refine q_tDGet1 ?_
  | with_reducible refine q_tDSetd ?_
  | ((with_reducible apply q_dG2a); (focus ((repeat first | (with_reducible exact upd_same) | (with_reducible assumption) | (with_reducible apply upd_new (by assumption)) | (with_reducible apply upd_other (by first | assumption | exact Ne.symm (by assumption))) | (with_reducible refine' Kp.get (by assumption) ?_ (by first | assumption | exact Ne.symm (by assumption))) | (with_reducible apply Same.get (by assumption))); done)))
  | ((with_reducible apply q_dSda); (focus ((repeat first | (with_reducible exact upd_same) | (with_reducible assumption) | (with_reducible apply upd_new (by assumption)) | (with_reducible apply upd_other (by first | assumption | exact Ne.symm (by assumption))) | (with_reducible refine' Kp.get (by assumption) ?_ (by first | assumption | exact Ne.symm (by assumption))) | (with_reducible apply Same.get (by assumption))); done)))
  | with_reducible refine q_sDPut ?_
  | ((with_reducible apply q_dInS); (focus ((repeat first | (with_reducible exact upd_same) | (with_reducible assumption) | (with_reducible apply upd_new (by assumption)) | (with_reducible apply upd_other (by first | assumption | exact Ne.symm (by assumption))) | (with_reducible refine' Kp.get (by assumption) ?_ (by first | assumption | exact Ne.symm (by assumption))) | (with_reducible apply Same.get (by assumption))); done)))
  | ((with_reducible apply q_dNInS); (focus ((repeat first | (with_reducible exact upd_same) | (with_reducible assumption) | (with_reducible apply upd_new (by assumption)) | (with_reducible apply upd_other (by first | assumption | exact Ne.symm (by assumption))) | (with_reducible refine' Kp.get (by assumption) ?_ (by first | assumption | exact Ne.symm (by assumption))) | (with_reducible apply Same.get (by assumption))); done)))
  | ((with_reducible apply q_dInI); (focus ((repeat first | (with_reducible exact upd_same) | (with_reducible assumption) | (with_reducible apply upd_new (by assumption)) | (with_reducible apply upd_other (by first | assumption | exact Ne.symm (by assumption))) | (with_reducible refine' Kp.get (by assumption) ?_ (by first | assumption | exact Ne.symm (by assumption))) | (with_reducible apply Same.get (by assumption))); done)))
  | ((with_reducible apply q_dNInI); (focus ((repeat first | (with_reducible exact upd_same) | (with_reducible assumption) | (with_reducible apply upd_new (by assumption)) | (with_reducible apply upd_other (by first | assumption | exact Ne.symm (by assumption))) | (with_reducible refine' Kp.get (by assumption) ?_ (by first | assumption | exact Ne.symm (by assumption))) | (with_reducible apply Same.get (by assumption))); done)))
  | ((with_reducible apply q_bmL); (focus ((repeat first | (with_reducible exact upd_same) | (with_reducible assumption) | (with_reducible apply upd_new (by assumption)) | (with_reducible apply upd_other (by first | assumption | exact Ne.symm (by assumption))) | (with_reducible refine' Kp.get (by assumption) ?_ (by first | assumption | exact Ne.symm (by assumption))) | (with_reducible apply Same.get (by assumption))); done)))
  | ((with_reducible apply q_bmL0); (focus ((repeat first | (with_reducible exact upd_same) | (with_reducible assumption) | (with_reducible apply upd_new (by assumption)) | (with_reducible apply upd_other (by first | assumption | exact Ne.symm (by assumption))) | (with_reducible refine' Kp.get (by assumption) ?_ (by first | assumption | exact Ne.symm (by assumption))) | (with_reducible apply Same.get (by assumption))); done)))
  | ((with_reducible apply q_ixLt); (focus ((repeat first | (with_reducible exact upd_same) | (with_reducible assumption) | (with_reducible apply upd_new (by assumption)) | (with_reducible apply upd_other (by first | assumption | exact Ne.symm (by assumption))) | (with_reducible refine' Kp.get (by assumption) ?_ (by first | assumption | exact Ne.symm (by assumption))) | (with_reducible apply Same.get (by assumption))); done)); (focus (exact rfl)))
  | ((with_reducible apply q_ixTt); (focus ((repeat first | (with_reducible exact upd_same) | (with_reducible assumption) | (with_reducible apply upd_new (by assumption)) | (with_reducible apply upd_other (by first | assumption | exact Ne.symm (by assumption))) | (with_reducible refine' Kp.get (by assumption) ?_ (by first | assumption | exact Ne.symm (by assumption))) | (with_reducible apply Same.get (by assumption))); done)); (focus (exact rfl)))
  | ((with_reducible apply q_lenLt); (focus ((repeat first | (with_reducible exact upd_same) | (with_reducible assumption) | (with_reducible apply upd_new (by assumption)) | (with_reducible apply upd_other (by first | assumption | exact Ne.symm (by assumption))) | (with_reducible refine' Kp.get (by assumption) ?_ (by first | assumption | exact Ne.symm (by assumption))) | (with_reducible apply Same.get (by assumption))); done)))
  | ((with_reducible apply q_lenTt); (focus ((repeat first | (with_reducible exact upd_same) | (with_reducible assumption) | (with_reducible apply upd_new (by assumption)) | (with_reducible apply upd_other (by first | assumption | exact Ne.symm (by assumption))) | (with_reducible refine' Kp.get (by assumption) ?_ (by first | assumption | exact Ne.symm (by assumption))) | (with_reducible apply Same.get (by assumption))); done)))
  | ((with_reducible apply q_append); (focus ((repeat first | (with_reducible exact upd_same) | (with_reducible assumption) | (with_reducible apply upd_new (by assumption)) | (with_reducible apply upd_other (by first | assumption | exact Ne.symm (by assumption))) | (with_reducible refine' Kp.get (by assumption) ?_ (by first | assumption | exact Ne.symm (by assumption))) | (with_reducible apply Same.get (by assumption))); done)); (focus ((first | (exact Nat.lt_of_ble_eq_true rfl) | (simp only [List.length_append, List.length_cons, List.length_nil, List.length_map]; exact small1000 (by omega))))))
  | ((with_reducible apply q_setL); (focus ((repeat first | (with_reducible exact upd_same) | (with_reducible assumption) | (with_reducible apply upd_new (by assumption)) | (with_reducible apply upd_other (by first | assumption | exact Ne.symm (by assumption))) | (with_reducible refine' Kp.get (by assumption) ?_ (by first | assumption | exact Ne.symm (by assumption))) | (with_reducible apply Same.get (by assumption))); done)); (focus (exact rfl)))
  | with_reducible refine q_ifNT ?_
  | with_reducible refine q_ifNF ?_
  | with_reducible refine q_andNT ?_
  | with_reducible refine q_andNF ?_
  | with_reducible refine q_orNT ?_
  | with_reducible refine q_orNF ?_
  | with_reducible refine q_bKNT ?_
  | with_reducible refine q_bKNF ?_
  | with_reducible refine q_tNGet ?_
  | with_reducible refine q_tNIn ?_
  | with_reducible refine q_sNPut ?_
  | with_reducible refine q_sFldAug ?_
  | with_reducible refine q_sDAug ?_
  | with_reducible refine q_sDDel ?_
  | with_reducible refine q_forX ?_
  | with_reducible refine q_tMake ?_
  | ((with_reducible apply q_dG1a); (focus ((repeat first | (with_reducible exact upd_same) | (with_reducible assumption) | (with_reducible apply upd_new (by assumption)) | (with_reducible apply upd_other (by first | assumption | exact Ne.symm (by assumption))) | (with_reducible refine' Kp.get (by assumption) ?_ (by first | assumption | exact Ne.symm (by assumption))) | (with_reducible apply Same.get (by assumption))); done)))))
open TL
/-! parts of a list, and their roots -/
def kM (l r : Int) : NestedKey := .tup [.text "node", .num l, .num r]
theorem kM_inj {a b c d : Int} (h : kM a b = kM c d) : a = c ∧ b = d := by
  injection h with h
  injection h with _ h
  injection h with h1 h
  injection h with h2 _
  injection h1 with h1
  injection h2 with h2
  exact ⟨h1, h2⟩
def seg (xs : List Int) (s e : Nat) : List Int := (xs.drop s).take (e - s)
theorem seg_len {xs : List Int} {s e : Nat} (h : e ≤ xs.length) : (seg xs s e).length = e - s := by
  unfold seg
  rw [List.length_take, List.length_drop]
  omega
theorem seg_take {xs : List Int} {s e m : Nat} (h : m ≤ e - s) : (seg xs s e).take m = seg xs s (s + m) := by
  unfold seg
  rw [List.take_take, show min m (e - s) = s + m - s by omega]
theorem seg_drop {xs : List Int} {s e m : Nat} : (seg xs s e).drop m = seg xs (s + m) e := by
  unfold seg
  rw [List.drop_take, List.drop_drop, show e - s - m = e - (s + m) by omega]
theorem root_use2 {K : PySem.W.Frag} {C d vl nd a : Addr} {T : List NestedKey} {xs : List Int} {H : Hp} {Q : VK} {E : XK} (hD : DigAt C H d vl nd T) (ha : H a = some (.lst (xs.map V.int))) (hv : a ≠ vl) (hl : xs.length ≤ 21) (hx : ∀ x ∈ xs, 0 ≤ x ∧ x ≤ 4) (hT : T.length ≤ 80000)
    (k : ∀ (H' : Hp) (T' : List NestedKey) (i : Nat), T <+: T' → T'.length ≤ T.length + 50 → DigAt C H' d vl nd T' → Rt T' xs i → Kq vl nd H H' → Q (.int (i : Nat)) H') : sp_root K C 5 [.ref d, .ref a] H Q E :=
  ⟨d, vl, nd, a, T, xs, rfl, hD, ha, hv, by omega, by omega, fun x h => by have := hx x h; omega, by omega, fun H' T' i p D r l q => k H' T' i p (by omega) D r q⟩
theorem cut_seg {xs : List V} {s e : Nat} (hs : s ≤ e) (he : e ≤ xs.length) : cutV xs (some (s : Int)) (some (e : Int)) = (xs.drop s).take (e - s) := by
  unfold cutV
  rw [show HT.sIx xs.length 0 (some (s : Int)) = min s xs.length from HT.sIx_nat xs.length 0 s, show HT.sIx xs.length xs.length (some (e : Int)) = min e xs.length from HT.sIx_nat xs.length xs.length e]
  have h1 : min e xs.length = e := Nat.min_eq_left he
  have h2 : min s xs.length = s := Nat.min_eq_left (by omega)
  simp only [h1, h2]
theorem seg_map {xs : List Int} {s e : Nat} : ((xs.map V.int).drop s).take (e - s) = (seg xs s e).map V.int := by
  unfold seg
  rw [List.map_take, List.map_drop]
theorem seg_mem {xs : List Int} {s e : Nat} {x : Int} (h : x ∈ seg xs s e) : x ∈ xs := List.mem_of_mem_drop (List.mem_of_mem_take h)
theorem DigAt.off {C : Addr} {H : Hp} {d vl nd q : Addr} {T : List NestedKey} {zs : List V} {o : HO} (h : DigAt C H d vl nd T) (hq : H q = some (.lst zs)) (n : q ≠ vl) : DigAt C (upd H q o) d vl nd T := by
  obtain ⟨dx, z⟩ := h.o
  obtain ⟨vs, v1, v2⟩ := h.v
  have tp : ∀ b ys, H b = some (.tup ys) → upd H q o b = some (.tup ys) := fun b ys h => upd_other (ne_of h hq (by intro z; cases z)) h
  exact ⟨⟨dx, upd_other (ne_of z hq (by intro z; cases z)) z⟩, ⟨vs, upd_other n.symm v1, NVs.mono tp v2⟩, upd_other (ne_of h.n hq (by intro z; cases z)) h.n, h.ok, h.un⟩
theorem okM {l r : Int} (h1 : l.natAbs < 1000000) (h2 : r.natAbs < 1000000) : OkK (kM l r) := by
  refine ⟨rfl, ⟨trivial, big64 h1, big64 h2, trivial⟩, ?_, by show 2 + (1 + 1 + (1 + 1 + (1 + 1 + 0))) ≤ _; decide⟩
  have e : ∀ n : Int, n.natAbs < 1000000 → (intL n).length ≤ 65 := fun n h => by
    unfold intL
    rw [List.length_append]
    have := numL_small (big64 h)
    split <;> simp <;> omega
  have a := e l h1
  have b := e r h2
  show (((numL 4 ++ 58 :: tl (Str.ofString "node")) ++ 44 :: (intL l ++ 44 :: (intL r ++ []))) ++ [41]).length + 1 ≤ _
  rw [List.append_nil, List.length_append, List.length_append, List.length_cons]
  have e2 : (numL 4 ++ 58 :: tl (Str.ofString "node")).length = 6 := by decide +kernel
  rw [e2, List.length_append, List.length_cons]
  show 6 + ((intL l).length + ((intL r).length + 1) + 1) + 1 + 1 ≤ _
  omega

/-! the growth paper -/
abbrev Row := Int × Int × Int
def f3 (r : Row) : List V := [.int r.1, .int r.2.1, .int r.2.2]
def rowOf (p : Nat × Nat) (i : Nat) : Row := ((p.1 : Int), (p.2 : Int), (i : Int))
inductive GR (T : List NestedKey) (xs : List Int) : List (Nat × Nat) → List Row → Prop
  | nil : GR T xs [] []
  | cons {p : Nat × Nat} {i : Nat} {sp : List (Nat × Nat)} {rs : List Row} : Rt T (seg xs p.1 (p.1 + p.2)) i → GR T xs sp rs → GR T xs (p :: sp) (rowOf p i :: rs)
theorem GR.mono {T T' : List NestedKey} (h : T <+: T') {xs : List Int} {sp : List (Nat × Nat)} {rs : List Row} (g : GR T xs sp rs) : GR T' xs sp rs := by
  induction g with
  | nil => exact .nil
  | cons r _ ih => exact .cons (r.mono h) ih
theorem GR.fn {T : List NestedKey} (hu : T.Nodup) {xs : List Int} {sp : List (Nat × Nat)} {rs : List Row} (g : GR T xs sp rs) : ∀ {rs' : List Row}, GR T xs sp rs' → rs = rs' := by
  induction g with
  | nil => intro rs' q; cases q; rfl
  | cons r _ ih =>
    intro rs' q
    cases q with
    | cons r2 q =>
      obtain rfl := r.fn hu r2
      rw [ih q]
theorem GR.snoc {T : List NestedKey} {xs : List Int} {sp : List (Nat × Nat)} {rs : List Row} : GR T xs sp rs → ∀ {p : Nat × Nat} {i : Nat}, Rt T (seg xs p.1 (p.1 + p.2)) i → GR T xs (sp ++ [p]) (rs ++ [rowOf p i])
  | .nil, _, _, r => .cons r .nil
  | .cons a h, _, _, r => .cons a (h.snoc r)
theorem GR.len {T : List NestedKey} {xs : List Int} {sp : List (Nat × Nat)} {rs : List Row} (g : GR T xs sp rs) : rs.length = sp.length := by
  induction g with
  | nil => rfl
  | cons _ _ ih => simp [ih]
def sp_gpap (K : PySem.W.Frag) (C CI : Addr) : Sp := fun vs H Q E => ∃ (d vl nd a : Addr) (T : List NestedKey) (xs : List Int) (i : Int), vs = [.ref d, .ref a, .int i] ∧ DigAt C H d vl nd T ∧ H a = some (.lst (xs.map V.int)) ∧ a ≠ vl ∧ xs.length ≤ 20 ∧
  (∀ x ∈ xs, 0 ≤ x ∧ x ≤ 4) ∧ T.length ≤ 50000 ∧
  (¬ (0 ≤ i ∧ i ≤ xs.length) → E (.ref CI) none H) ∧
  ∀ (n : Nat) (H' : Hp) (T' : List NestedKey) (t : Addr) (vs : List V) (rs : List Row), i = n → n ≤ xs.length → T <+: T' → T'.length ≤ T.length + 2000 → DigAt C H' d vl nd T' → Kq vl nd H H' → H' t = some (.tup vs) → RowsAt f3 H' vs rs → GR T' xs (spans n xs.length) rs → Q (.ref t) H'
section
variable {P : Program} {w : World} {K : PySem.W.Frag} {mg : Str → Option Value} {base : Heap}
theorem ok_growth_paper (T : Txt K mg) : FnOk P w K mg base (L2.CX P w) 11 T.f_growth_paper T.d_growth_paper ["digests", "leaves", "size"] (sp_gpap K T.C_Digests T.C_InvalidArgument) := by
  have ok_root := fun T : Txt K mg => ok_root5 (P := P) (w := w) (base := base) T
  refine T.F_growth_paper.okX sc_growth_paper (fun vs H Q E h => ?_) (fun cdv A outer s H vs Q E hr h => ?_)
  · obtain ⟨d, vl, nd, a, T, xs, i, rfl, _⟩ := h; rfl
  · obtain ⟨d, vl, nd, a, TT, xs, i, rfl, hD, ha, hav, hl, hx, hT, kE, kQ⟩ := h
    refine ⟨_, (pss_cons (ps_if (pt_not (pt_chain op_le op_le pe_int (pv 2) (pe_callB cq_len (by rfl) T.z_len boot_len (pa_cons (pv 1) pa_nil)))) (pss_one (ps_raise rfl (takes_of rfl rfl rfl rfl) (pmk_own PySem.F.excBase_ValueError T.xe_InvalidArgument T.g_InvalidArgument T.ke_InvalidArgument (raises_own T.be_InvalidArgument T.te_InvalidArgument) (by exact rfl)))) pss_nil)
      (pss_cons (ps_set (i := 3) sc_growth_paper.nd rfl (Or.inl rfl) (pe_call (ok_growth_parts T) (hr.mono (by decide)) (by rfl) T.g_growth_parts T.F_growth_parts.kp T.b_growth_parts .nil pass0 (pa_cons (pv 2) (pa_cons (pe_callB cq_len (by rfl) T.z_len boot_len (pa_cons (pv 1) pa_nil)) pa_nil))))
      (pss_one (ps_ret (pe_callTy cq_tupOf (by rfl) T.z_tuple boot_tuple (pa_cons (pe_lc (own := [("start", 4), ("many", 5)]) (g := (gTup K 2 (gCons (gName 4) (gCons (gName 5) gNil)))) (tt := tYes) (te := (tTup (tCons (tVar 4) (tCons (tVar 5) (tCons (tCall (sp_root K T.C_Digests 5) [] E0 (tCons (tVar 0) (tCons (tSl (rSlL K) (tVar 1) (tPart (tVar 4)) (tPart (tOp (rI0 fun i j => .int (i + j)) (tVar 4) (tVar 5)))) tNil))) tNil))))) rfl sc_growth_paper.nd (pi_list (pv 3)) (blkOk_by (own := [("start", 4), ("many", 5)]) (N := ["digests", "leaves", "size", "parts", "start", "many"]) (sc := defScope s_growth_paper) (by decide +kernel)) (fun _ _ _ _ _ => (pg_tup rfl (pgs_cons (pg_name (i := 4) sc_growth_paper.nd rfl (Or.inl rfl)) (pgs_cons (pg_name (i := 5) sc_growth_paper.nd rfl (Or.inl rfl)) pgs_nil)))) (fun _ _ _ _ _ => pts_nil) (fun _ _ _ _ _ => (pe_tup (pa_cons (pv 4) (pa_cons (pv 5) (pa_cons (pe_call (ok_root T) (hr.mono (by decide)) (by rfl) T.g_root T.F_root.kp T.b_root .nil pass0 (pa_cons (pv 0) (pa_cons (pe_slice sl_list (pv 1) (po_some (pv 4)) (po_some (pe_op op_add (pv 4) (pv 5)))) pa_nil))) pa_nil)))))) pa_nil)))))), ?_⟩
    (dsimp only [cxOf, Cx.nox, Cx.wish, L2.start, List.map, List.length, List.replicate, List.cons_append, List.nil_append, List.append_eq, Nat.reduceSub, Nat.reduceAdd])
    walk_at "my_rd"
    refine q_ch2 (fun h1 => ?_) (fun h1 => ?_)
    · have h1 := dec_t h1
      walk_at "my_rd"
      rw [List.length_map]
      refine q_if2 (fun h2 => ?_) (fun h2 => ?_)
      · have h2 : ¬ (i ≤ (xs.length : Int)) := fun q => by rw [decide_eq_true q] at h2; cases h2
        walk_at "my_rd"
        exact kE fun q => h2 q.2
      · have h2 : i ≤ (xs.length : Int) := by
          by_cases q : i ≤ (xs.length : Int)
          · exact q
          · rw [decide_eq_false q] at h2; cases h2
        obtain ⟨n, rfl⟩ := Int.eq_ofNat_of_zero_le h1
        have hn : n ≤ xs.length := by omega
        walk_at "my_rd"
        rw [List.length_map]
        refine ⟨n, xs.length, rfl, by omega, by omega, fun f H1 vs nf sm hf hP => ?_⟩
        have hD1 := hD.same sm
        have ha1 := sm _ _ ha
        obtain ⟨_, hvl, _⟩ := hD1.v
        have nfv : f ≠ vl := by obtain ⟨_, h, _⟩ := hD.v; exact (ne_of_none h nf).symm
        have lsp := spans_len (o := n) hn
        have lvs := hP.len
        walk_at "my_rd"
        refine q_lcL (sqL hf) (fun D nD => ⟨fun j H2 => ∃ (T2 : List NestedKey) (ws : List V) (rs : List Row), TT <+: T2 ∧ T2.length ≤ TT.length + 50 * j ∧ DigAt T.C_Digests H2 d vl nd T2 ∧ Kq vl nd H1 H2 ∧ H2 D = some (.lst ws) ∧ RowsAt f3 H2 ws rs ∧ rs.length = j ∧ GR T2 xs ((spans n xs.length).take j) rs, ⟨TT, [], [], List.prefix_refl _, by omega, hD1.same (Same.new (Same.refl _) nD), Kq.new Kq.refl nD, upd_same, .nil, rfl, by rw [List.take_zero]; exact .nil⟩, ?_, ?_, ?_⟩)
        · rintro j H2 _ ⟨T2, ws, rs, _, _, _, kq, _⟩
          exact sqL (kq _ _ hf nfv (ne_of hf hD1.n (by intro z; cases z)))
        · rintro j v H2 hv ⟨T2, ws, rs, pre, hl2, hD2, kq, hDl, hR, hol, hG⟩
          obtain ⟨p, t, hp, rfl, ht⟩ := hP.item hv
          have hjl : j < (spans n xs.length).length := (List.getElem?_eq_some_iff.mp hp).1
          have hpm := spans_mem hn (List.mem_of_getElem? hp)
          have ht2 := kq _ _ ht (ne_of ht hvl (by intro z; cases z)) (ne_of ht hD1.n (by intro z; cases z))
          have ha2 := kq _ _ ha1 hav (ne_of ha1 hD1.n (by intro z; cases z))
          have nDv : D ≠ vl := by obtain ⟨_, h, _⟩ := hD1.v; exact (ne_of_none h nD).symm
          have lws := hR.len
          walk_at "my_rd"
          refine q_gTup (sqT ht2) rfl ?_
          unfold f2
          walk_at "my_rd"
          refine ⟨rfl, ?_⟩
          walk_at "my_rd"
          rw [show ((p.1 : Nat) : Int) + ((p.2 : Nat) : Int) = ((p.1 + p.2 : Nat) : Int) from rfl]
          refine q_slL (sqL ha2) fun q nq => ?_
          rw [cut_seg (by omega) (by rw [List.length_map]; omega), seg_map]
          have smq : Same H2 (upd H2 q (.lst ((seg xs p.1 (p.1 + p.2)).map V.int))) := Same.new (Same.refl _) nq
          have hq : upd H2 q (.lst ((seg xs p.1 (p.1 + p.2)).map V.int)) q = some (.lst ((seg xs p.1 (p.1 + p.2)).map V.int)) := upd_same
          have nqv : q ≠ vl := by obtain ⟨_, h, _⟩ := hD2.v; exact (ne_of_none h nq).symm
          have hDl2 := smq _ _ hDl
          have hR2 := hR.same smq
          have hD3 := hD2.same smq
          generalize upd H2 q (.lst ((seg xs p.1 (p.1 + p.2)).map V.int)) = H3 at smq hq hDl2 hD3 hR2
          walk_at "my_rd"
          have hsl := seg_len (xs := xs) (s := p.1) (e := p.1 + p.2) (by omega)
          refine root_use2 hD3 hq nqv (by omega) (fun x h => hx x (seg_mem h)) (by omega) fun H4 T4 r pre4 hl4 hD4 r4 kq4 => ?_
          have hDl4 := kq4 _ _ hDl2 nDv (ne_of hDl2 hD3.n (by intro z; cases z))
          obtain ⟨_, hvl3, _⟩ := hD3.v
          have hR4 : RowsAt f3 H4 ws rs := hR2.mono fun b ys q => kq4 _ _ q (ne_of q hvl3 (by intro z; cases z)) (ne_of q hD3.n (by intro z; cases z))
          walk_at "my_rd"
          refine q_tupK (Nat.le_of_ble_eq_true rfl) fun t5 nt5 => ?_
          have sm5 : Same H4 (upd H4 t5 (.tup [.int (p.1 : Nat), .int (p.2 : Nat), .int (r : Nat)])) := Same.new (Same.refl _) nt5
          have ht5 : upd H4 t5 (.tup [.int (p.1 : Nat), .int (p.2 : Nat), .int (r : Nat)]) t5 = some (.tup (f3 (rowOf p r))) := upd_same
          generalize upd H4 t5 (.tup [.int (p.1 : Nat), .int (p.2 : Nat), .int (r : Nat)]) = H5 at sm5 ht5
          have hDl5 := sm5 _ _ hDl4
          have hD5 := hD4.same sm5
          have hR5 := hR4.same sm5
          have tp : ∀ b ys, H5 b = some (.tup ys) → upd H5 D (.lst (ws ++ [.ref t5])) b = some (.tup ys) := fun b ys q => upd_other (ne_of q hDl5 (by intro z; cases z)) q
          refine q_accK hDl5 (small1000 (by omega)) ⟨T4, ws ++ [.ref t5], rs ++ [(rowOf p r)], pre.trans pre4, by omega, hD5.off hDl5 nDv, fun b o hb n1 n2 => upd_other (fun e => by rw [e] at hb; rw [nD] at hb; cases hb) (sm5 _ _ (kq4 _ _ (smq _ _ (kq _ _ hb n1 n2)) n1 n2)), upd_same, (hR5.mono tp).snoc (tp _ _ ht5), by rw [List.length_append]; show rs.length + 1 = j + 1; omega, ?_⟩
          rw [List.take_add_one, hp]
          exact (hG.mono pre4).snoc r4
        · rintro H2 ⟨T2, ws, rs, pre, hl2, hD2, kq, hDl, hR, hol, hG⟩
          walk_at "my_rd"
          refine q_tupL (sqL hDl) fun l nl => ?_
          have smL : Same H2 (upd H2 l (.tup ws)) := Same.new (Same.refl _) nl
          rw [List.take_of_length_le (by omega)] at hG
          exact kQ n _ T2 l ws rs rfl hn pre (by omega) (hD2.same smL) (Kq.trans (Kq.same sm) (Kq.trans kq (Kq.same smL))) upd_same (hR.same smL) hG
    · have h1 := dec_f h1
      walk_at "my_rd"
      exact kE fun q => h1 q.1
end

local macro_rules | `(tactic| walk_at "my_rd") => `(tactic| (repeat first
  | with_reducible refine q_tCons ?_
  | ((with_reducible apply q_var); (focus (exact rfl)))
  | with_reducible refine q_c ?_
  | with_reducible refine q_nx ?_
  | with_reducible refine q_bK ?_
  | with_reducible refine q_call ?_
  | with_reducible refine q_callK ?_
  | with_reducible refine q_tNil ?_
  | with_reducible refine q_cb ?_
  | with_reducible refine q_seq ?_
  | with_reducible refine q_asg ?_
  | with_reducible refine q_gName ?_
  | with_reducible refine q_op ?_
  | with_reducible refine q_test ?_
  | with_reducible refine q_tB ?_
  | with_reducible refine q_ifS ?_
  | with_reducible refine q_ret ?_
  | with_reducible refine q_rt ?_
  | with_reducible refine q_next ?_
  | with_reducible refine q_ifF ?_
  | with_reducible refine q_ifT ?_
  | with_reducible refine q_drop ?_
  | with_reducible refine q_and ?_
  | with_reducible refine q_or ?_
  | with_reducible refine q_andT ?_
  | with_reducible refine q_andF ?_
  | with_reducible refine q_orF ?_
  | with_reducible refine q_orT ?_
  | with_reducible refine q_andV ?_
  | with_reducible refine q_andVT ?_
  | with_reducible refine q_andVF ?_
  | with_reducible refine q_orV ?_
  | with_reducible refine q_gCons ?_
  | with_reducible refine q_gNil ?_
  | with_reducible refine q_tup ?_
  | with_reducible refine q_lst ?_
  | with_reducible refine q_not ?_
  | with_reducible refine q_notKT ?_
  | with_reducible refine q_notKF ?_
  | with_reducible refine q_I0 ?_
  | with_reducible refine q_eqI ?_
  | with_reducible refine q_neI ?_
  | ((with_reducible refine q_I ?_ ?_); first | decide | omega | exact ⟨by omega, by omega⟩ | exact ⟨by decide, by decide⟩ | exact .inl ⟨by omega, by omega⟩ | exact .inr ⟨by omega, by omega⟩ | exact .inr ⟨by decide, by decide⟩)
  | with_reducible refine q_eqS ?_
  | with_reducible refine q_neS ?_
  | with_reducible refine q_brk ?_
  | with_reducible refine q_ct ?_
  | with_reducible refine q_bk ?_
  | with_reducible refine q_cn ?_
  | with_reducible refine q_retN ?_
  | with_reducible refine q_gSub ?_
  | with_reducible refine q_for ?_
  | with_reducible refine q_iList ?_
  | with_reducible refine q_iTup ?_
  | with_reducible refine q_iRng1 ?_
  | with_reducible refine q_notK ?_
  | with_reducible refine q_orVT ?_
  | with_reducible refine q_orVF ?_
  | with_reducible refine q_notV ?_
  | with_reducible refine q_notVK ?_
  | with_reducible refine q_ifE ?_
  | with_reducible refine q_ifET ?_
  | with_reducible refine q_ifEF ?_
  | with_reducible refine q_yes ?_
  | with_reducible refine q_un ?_
  | with_reducible refine q_rU ?_
  | with_reducible refine q_abs ?_
  | with_reducible refine q_int1 ?_
  | with_reducible refine q_bm ?_
  | with_reducible refine q_bm0 ?_
  | with_reducible refine q_lc ?_
  | with_reducible refine q_keepT ?_
  | with_reducible refine q_keepF ?_
  | ((with_reducible apply q_aug); (focus (exact rfl)))
  | with_reducible refine q_ipI ?_
  | with_reducible refine q_chain ?_
  | with_reducible refine q_pairC ?_
  | with_reducible refine q_pairsK ?_
  | with_reducible refine q_pairN ?_
  | with_reducible refine q_fld ?_
  | with_reducible refine q_sFld ?_
  | with_reducible refine q_meth ?_
  | with_reducible refine q_makeK ?_
  | with_reducible refine q_isBl ?_
  | with_reducible refine q_notBl ?_
  | with_reducible refine q_sl ?_
  | with_reducible refine q_noPart ?_
  | with_reducible refine q_part ?_
  | with_reducible refine q_partK ?_
  | ((with_reducible apply q_mulStr); (focus (decide +kernel)))
  | with_reducible refine q_chT ?_
  | with_reducible refine q_chF ?_
  | with_reducible refine q_ord ?_
  | with_reducible refine q_iStr0 ?_
  | with_reducible refine q_iStr ?_
  | with_reducible refine q_tDIn ?_
  | with_reducible refine q_tDNotIn ?_
  | with_reducible refine q_tDGet ?_
  | with_reducible refine q_tDGet2 ?_
  | with_reducible refine q_tDGet1 ?_
  | with_reducible refine q_tDSetd ?_
  | ((with_reducible apply q_dG2a); (focus ((repeat first | (with_reducible exact upd_same) | (with_reducible assumption) | (with_reducible apply upd_new (by assumption)) | (with_reducible apply upd_other (by first | assumption | exact Ne.symm (by assumption))) | (with_reducible refine' Kp.get (by assumption) ?_ (by first | assumption | exact Ne.symm (by assumption))) | (with_reducible apply Same.get (by assumption))); done)))
  | ((with_reducible apply q_dSda); (focus ((repeat first | (with_reducible exact upd_same) | (with_reducible assumption) | (with_reducible apply upd_new (by assumption)) | (with_reducible apply upd_other (by first | assumption | exact Ne.symm (by assumption))) | (with_reducible refine' Kp.get (by assumption) ?_ (by first | assumption | exact Ne.symm (by assumption))) | (with_reducible apply Same.get (by assumption))); done)))
  | with_reducible refine q_sDPut ?_
  | ((with_reducible apply q_dInS); (focus ((repeat first | (with_reducible exact upd_same) | (with_reducible assumption) | (with_reducible apply upd_new (by assumption)) | (with_reducible apply upd_other (by first | assumption | exact Ne.symm (by assumption))) | (with_reducible refine' Kp.get (by assumption) ?_ (by first | assumption | exact Ne.symm (by assumption))) | (with_reducible apply Same.get (by assumption))); done)))
  | ((with_reducible apply q_dNInS); (focus ((repeat first | (with_reducible exact upd_same) | (with_reducible assumption) | (with_reducible apply upd_new (by assumption)) | (with_reducible apply upd_other (by first | assumption | exact Ne.symm (by assumption))) | (with_reducible refine' Kp.get (by assumption) ?_ (by first | assumption | exact Ne.symm (by assumption))) | (with_reducible apply Same.get (by assumption))); done)))
  | ((with_reducible apply q_dInI); (focus ((repeat first | (with_reducible exact upd_same) | (with_reducible assumption) | (with_reducible apply upd_new (by assumption)) | (with_reducible apply upd_other (by first | assumption | exact Ne.symm (by assumption))) | (with_reducible refine' Kp.get (by assumption) ?_ (by first | assumption | exact Ne.symm (by assumption))) | (with_reducible apply Same.get (by assumption))); done)))
  | ((with_reducible apply q_dNInI); (focus ((repeat first | (with_reducible exact upd_same) | (with_reducible assumption) | (with_reducible apply upd_new (by assumption)) | (with_reducible apply upd_other (by first | assumption | exact Ne.symm (by assumption))) | (with_reducible refine' Kp.get (by assumption) ?_ (by first | assumption | exact Ne.symm (by assumption))) | (with_reducible apply Same.get (by assumption))); done)))
  | ((with_reducible apply q_bmL); (focus ((repeat first | (with_reducible exact upd_same) | (with_reducible assumption) | (with_reducible apply upd_new (by assumption)) | (with_reducible apply upd_other (by first | assumption | exact Ne.symm (by assumption))) | (with_reducible refine' Kp.get (by assumption) ?_ (by first | assumption | exact Ne.symm (by assumption))) | (with_reducible apply Same.get (by assumption))); done)))
  | ((with_reducible apply q_bmL0); (focus ((repeat first | (with_reducible exact upd_same) | (with_reducible assumption) | (with_reducible apply upd_new (by assumption)) | (with_reducible apply upd_other (by first | assumption | exact Ne.symm (by assumption))) | (with_reducible refine' Kp.get (by assumption) ?_ (by first | assumption | exact Ne.symm (by assumption))) | (with_reducible apply Same.get (by assumption))); done)))
  | ((with_reducible apply q_ixLt); (focus ((repeat first | (with_reducible exact upd_same) | (with_reducible assumption) | (with_reducible apply upd_new (by assumption)) | (with_reducible apply upd_other (by first | assumption | exact Ne.symm (by assumption))) | (with_reducible refine' Kp.get (by assumption) ?_ (by first | assumption | exact Ne.symm (by assumption))) | (with_reducible apply Same.get (by assumption))); done)); (focus (exact rfl)))
  | ((with_reducible apply q_ixTt); (focus ((repeat first | (with_reducible exact upd_same) | (with_reducible assumption) | (with_reducible apply upd_new (by assumption)) | (with_reducible apply upd_other (by first | assumption | exact Ne.symm (by assumption))) | (with_reducible refine' Kp.get (by assumption) ?_ (by first | assumption | exact Ne.symm (by assumption))) | (with_reducible apply Same.get (by assumption))); done)); (focus (exact rfl)))
  | ((with_reducible apply q_lenLt); (focus ((repeat first | (with_reducible exact upd_same) | (with_reducible assumption) | (with_reducible apply upd_new (by assumption)) | (with_reducible apply upd_other (by first | assumption | exact Ne.symm (by assumption))) | (with_reducible refine' Kp.get (by assumption) ?_ (by first | assumption | exact Ne.symm (by assumption))) | (with_reducible apply Same.get (by assumption))); done)))
  | ((with_reducible apply q_lenTt); (focus ((repeat first | (with_reducible exact upd_same) | (with_reducible assumption) | (with_reducible apply upd_new (by assumption)) | (with_reducible apply upd_other (by first | assumption | exact Ne.symm (by assumption))) | (with_reducible refine' Kp.get (by assumption) ?_ (by first | assumption | exact Ne.symm (by assumption))) | (with_reducible apply Same.get (by assumption))); done)))
  | ((with_reducible apply q_append); (focus ((repeat first | (with_reducible exact upd_same) | (with_reducible assumption) | (with_reducible apply upd_new (by assumption)) | (with_reducible apply upd_other (by first | assumption | exact Ne.symm (by assumption))) | (with_reducible refine' Kp.get (by assumption) ?_ (by first | assumption | exact Ne.symm (by assumption))) | (with_reducible apply Same.get (by assumption))); done)); (focus ((first | (exact Nat.lt_of_ble_eq_true rfl) | (simp only [List.length_append, List.length_cons, List.length_nil, List.length_map]; exact small1000 (by omega))))))
  | ((with_reducible apply q_setL); (focus ((repeat first | (with_reducible exact upd_same) | (with_reducible assumption) | (with_reducible apply upd_new (by assumption)) | (with_reducible apply upd_other (by first | assumption | exact Ne.symm (by assumption))) | (with_reducible refine' Kp.get (by assumption) ?_ (by first | assumption | exact Ne.symm (by assumption))) | (with_reducible apply Same.get (by assumption))); done)); (focus (exact rfl)))
  | with_reducible refine q_ifNT ?_
  | with_reducible refine q_ifNF ?_
  | with_reducible refine q_andNT ?_
  | with_reducible refine q_andNF ?_
  | with_reducible refine q_orNT ?_
  | with_reducible refine q_orNF ?_
  | with_reducible refine q_bKNT ?_
  | with_reducible refine q_bKNF ?_
  | with_reducible refine q_tNGet ?_
  | with_reducible refine q_tNIn ?_
  | with_reducible refine q_sNPut ?_
  | with_reducible refine q_sFldAug ?_
  | with_reducible refine q_sDAug ?_
  | with_reducible refine q_sDDel ?_
  | with_reducible refine q_forX ?_
  | with_reducible refine q_tMake ?_
  | ((with_reducible apply q_dG1a); (focus ((repeat first | (with_reducible exact upd_same) | (with_reducible assumption) | (with_reducible apply upd_new (by assumption)) | (with_reducible apply upd_other (by first | assumption | exact Ne.symm (by assumption))) | (with_reducible refine' Kp.get (by assumption) ?_ (by first | assumption | exact Ne.symm (by assumption))) | (with_reducible apply Same.get (by assumption))); done)))))
open TL
/-! rows joined -/
inductive Tm where
  | lf (i : Nat)
  | nd (a b : Tm)
deriving DecidableEq
def Ev (T : List NestedKey) (env : List Int) : Tm → Int → Prop
  | .lf i, r => env[i]? = some r
  | .nd a b, r => ∃ x y : Int, Ev T env a x ∧ Ev T env b y ∧ ∃ n : Nat, r = (n : Int) ∧ T[n]? = some (kM x y)
theorem Ev.mono {T T' : List NestedKey} (h : T <+: T') {env : List Int} : ∀ {t : Tm} {r : Int}, Ev T env t r → Ev T' env t r
  | .lf _, _, e => e
  | .nd _ _, _, ⟨x, y, a, b, n, e, g⟩ => ⟨x, y, Ev.mono h a, Ev.mono h b, n, e, pre_at h g⟩
theorem Ev.fn {T : List NestedKey} (hu : T.Nodup) {env : List Int} : ∀ {t : Tm} {r s : Int}, Ev T env t r → Ev T env t s → r = s
  | .lf _, _, _, e, f => Option.some.inj (e.symm.trans f)
  | .nd _ _, _, _, ⟨x, y, a, b, n, e, g⟩, ⟨x', y', a', b', n', e', g'⟩ => by
    obtain rfl := Ev.fn hu a a'
    obtain rfl := Ev.fn hu b b'
    obtain rfl := nodup_at hu g g'
    rw [e, e']
def lvs : Tm → List Nat
  | .lf i => [i]
  | .nd a b => lvs a ++ lvs b
theorem Ev.inj {T : List NestedKey} {env env' : List Int} : ∀ {t : Tm} {r : Int}, Ev T env t r → Ev T env' t r → ∀ i ∈ lvs t, env[i]? = env'[i]?
  | .lf _, _, e, f, i, hi => by
    rw [List.mem_singleton.mp hi, e, f]
  | .nd _ _, _, ⟨x, y, a, b, n, e, g⟩, ⟨x', y', a', b', n', e', g'⟩, i, hi => by
    obtain rfl := Int.ofNat.inj (e.symm.trans e')
    obtain ⟨rfl, rfl⟩ := kM_inj (at_inj g g')
    rcases List.mem_append.mp hi with q | q
    · exact Ev.inj a a' i q
    · exact Ev.inj b b' i q
def jpush : List (Nat × Tm) → Nat → Tm → List (Nat × Tm)
  | [], z, t => [(z, t)]
  | (y, u) :: r, z, t => if y = z then jpush r (2 * z) (.nd u t) else (z, t) :: (y, u) :: r
def jall : List Nat → Nat → List (Nat × Tm) → List (Nat × Tm)
  | [], _, st => st
  | z :: zs, i, st => jall zs (i + 1) (jpush st z (.lf i))
def jfold : List (Nat × Tm) → Tm → Tm
  | [], t => t
  | (_, u) :: r, t => jfold r (.nd u t)
def jend : List (Nat × Tm) → Option Tm
  | [] => none
  | (_, t) :: r => some (jfold r t)
def JE (T : List NestedKey) (env : List Int) : Option Tm → Int → Prop
  | none, r => ∃ n : Nat, r = (n : Int) ∧ T[n]? = some kE
  | some t, r => Ev T env t r
theorem JE.mono {T T' : List NestedKey} (h : T <+: T') {env : List Int} : ∀ {o : Option Tm} {r : Int}, JE T env o r → JE T' env o r
  | none, _, ⟨n, e, g⟩ => ⟨n, e, pre_at h g⟩
  | some _, _, e => Ev.mono h e
theorem JE.fn {T : List NestedKey} (hu : T.Nodup) {env : List Int} : ∀ {o : Option Tm} {r s : Int}, JE T env o r → JE T env o s → r = s
  | none, _, _, ⟨n, e, g⟩, ⟨n', e', g'⟩ => by
    obtain rfl := nodup_at hu g g'
    rw [e, e']
  | some _, _, _, a, b => Ev.fn hu a b
inductive PS (T : List NestedKey) (env : List Int) (H : Hp) : List V → List (Nat × Tm) → Prop
  | nil : PS T env H [] []
  | cons {a : Addr} {y : Nat} {u : Tm} {r : Int} {vs : List V} {st : List (Nat × Tm)} : H a = some (.tup [.int (y : Nat), .int r]) → Ev T env u r → r.natAbs < 1000000 → PS T env H vs st → PS T env H (.ref a :: vs) ((y, u) :: st)
theorem PS.mono {T T' : List NestedKey} (h : T <+: T') {env : List Int} {H H' : Hp} (e : ∀ b ys, H b = some (.tup ys) → H' b = some (.tup ys)) {vs : List V} {st : List (Nat × Tm)} (p : PS T env H vs st) : PS T' env H' vs st := by
  induction p with
  | nil => exact .nil
  | cons a b c _ ih => exact .cons (e _ _ a) (b.mono h) c ih
theorem PS.len {T : List NestedKey} {env : List Int} {H : Hp} {vs : List V} {st : List (Nat × Tm)} (p : PS T env H vs st) : vs.length = st.length := by
  induction p with
  | nil => rfl
  | cons _ _ _ _ ih => simp [ih]
theorem PS.at' {T : List NestedKey} {env : List Int} {H : Hp} {v : V} : ∀ {vs : List V} {st : List (Nat × Tm)} {i : Nat}, PS T env H vs st → vs[i]? = some v → ∃ (a : Addr) (y : Nat) (u : Tm) (r : Int), v = .ref a ∧ st[i]? = some (y, u) ∧ H a = some (.tup [.int (y : Nat), .int r]) ∧ Ev T env u r ∧ r.natAbs < 1000000
  | _, _, _, .nil, h => by cases h
  | _, _, 0, .cons a b c _, h => ⟨_, _, _, _, (Option.some.inj h).symm, rfl, a, b, c⟩
  | _, _, i + 1, .cons _ _ _ p, h => PS.at' (i := i) p h
theorem at_last (ys : List V) (v : V) : atI (ys ++ [v]) (-1) = some v := by
  unfold atI ixN
  rw [if_neg (by omega), if_pos (by rw [List.length_append]; show -((ys.length + 1 : Nat) : Int) ≤ -1; omega)]
  rw [show (-1 + ((ys ++ [v]).length : Int)).toNat = ys.length by rw [List.length_append]; show (-1 + ((ys.length + 1 : Nat) : Int)).toNat = _; omega]
  show (ys ++ [v])[ys.length]? = some v
  rw [List.getElem?_append_right (Nat.le_refl _), Nat.sub_self]
  rfl
theorem q_forQ {K : PySem.W.Frag} {g : TG} {t : TS} {D : Ends} {σ : L2.St} {H : Hp} {n : Nat} {a : Addr} {S : List V} (hv : σ[n]? = some (some (.ref a))) (h : H a = some (.lst S) ∨ H a = some (.tup S)) (Pv : Nat → L2.St → Hp → Prop) (h0 : Pv 0 σ H) (hl : ∀ i σ H', Pv i σ H' → H' a = H a)
    (hs : ∀ i x σ H, S[i]? = some x → Pv i σ H → g x σ H fun σ2 H2 => t { D with nx := Pv (i + 1), ct := Pv (i + 1), bk := D.nx } σ2 H2) (hd : ∀ σ H, Pv S.length σ H → D.nx σ H) : iSeq K (tVar n) σ H (forK g t D σ) := by
  rcases h with h | h
  · exact q_iSeqL (q_var hv (q_forL (sqL h) Pv h0 (fun i σ H' _ p => sqL ((hl i σ H' p).trans h)) hs hd))
  · exact q_iSeqT (q_var hv (q_forT (sqT h) Pv h0 (fun i σ H' _ p => sqT ((hl i σ H' p).trans h)) hs hd))
def sp_joi (K : PySem.W.Frag) (C : Addr) : Sp := fun vs H Q _ => ∃ (d vl nd b : Addr) (T : List NestedKey) (ws : List V) (rs : List Row) (zs : List Nat), vs = [.ref d, .ref b] ∧ DigAt C H d vl nd T ∧ (H b = some (.lst ws) ∨ H b = some (.tup ws)) ∧ b ≠ vl ∧ RowsAt f3 H ws rs ∧
  rs.map (fun r => r.2.1) = zs.map Int.ofNat ∧ (∀ r ∈ rs, r.2.2.natAbs < 1000000) ∧ zs.sum ≤ 1000 ∧ zs.length ≤ 100 ∧ T.length ≤ 60000 ∧
  ∀ (H' : Hp) (T' : List NestedKey) (r : Int), T <+: T' → T'.length ≤ T.length + zs.length + 1 → DigAt C H' d vl nd T' → Kq vl nd H H' → JE T' (rs.map fun r => r.2.2) (jend (jall zs 0 [])) r → Q (.int r) H'
section
variable {P : Program} {w : World} {K : PySem.W.Frag} {mg : Str → Option Value} {base : Heap}
theorem ok_joined (T : Txt K mg) : FnOk P w K mg base CX0 5 T.f_joined T.d_joined ["digests", "rows"] (sp_joi K T.C_Digests) := by
  refine T.F_joined.ok sc_joined (fun vs H Q E h => ?_) (fun cdv A outer s H vs Q E hr h => ?_)
  · obtain ⟨d, vl, nd, b, TT, ws, rs, zs, rfl, _⟩ := h; rfl
  · obtain ⟨d, vl, nd, b, TT, ws, rs, zs, rfl, hD, hb, hbv, hR, hz, hrb, hzs, hzl, hT, k⟩ := h
    obtain ⟨env, henvd⟩ : ∃ env, env = rs.map (fun r : Row => r.2.2) := ⟨_, rfl⟩
    rw [← henvd] at k
    refine ⟨_, (pss_cons (ps_set (i := 2) sc_joined.nd rfl (Or.inl rfl) (pe_lst pa_nil))
      (pss_cons (ps_for PassesOwn.never rfl (pi_seq (pv 1)) (pg_tup rfl (pgs_cons (pg_name (i := 3) sc_joined.nd rfl (Or.inl rfl)) (pgs_cons (pg_name (i := 4) sc_joined.nd rfl (Or.inl rfl)) (pgs_cons (pg_name (i := 5) sc_joined.nd rfl (Or.inl rfl)) pgs_nil))))
        (Evl.pss_cut (ps_while PassesOwn.never (PW.pt (pw_and (pt_truth (pv 2) (by intro _; rfl)) (pw_and1 (pt_cmpR op_eq (pe_ix ix_tup (pe_ix ix_list (pv 2) (pe_un un_neg pe_int) (fun _ _ => rfl)) pe_int (fun _ _ => rfl)) (pv 4) (nomark _))))) (pss_cons (ps_asg (pe_bm0 PySem.F.plainAttrs_list PySem.F.slot_list_pop PySem.F.type_list_pop mt_pop (pv 2)) (pg_tup rfl (pgs_cons (pg_name (i := 3) sc_joined.nd rfl (Or.inl rfl)) (pgs_cons (pg_name (i := 6) sc_joined.nd rfl (Or.inl rfl)) pgs_nil))))
      (pss_cons (ps_set (i := 5) sc_joined.nd rfl (Or.inl rfl) (pe_meth (pv 0) T.cl_Digests T.m_Digests_number (ok_Digests_number T) (hr.mono (by decide)) T.b_Digests_number .nil pass0 (pa_cons (pe_tup (pa_cons pe_str (pa_cons (pv 6) (pa_cons (pv 5) pa_nil)))) pa_nil)))
      (pss_one (ps_set (i := 4) sc_joined.nd rfl (Or.inl rfl) (pe_op op_mul pe_int (pv 4)))))))
      (pss_one (ps_expr (pe_bm PySem.F.plainAttrs_list PySem.F.slot_list_append PySem.F.type_list_append mt_append (pv 2) (pa_cons (pe_tup (pa_cons (pv 4) (pa_cons (pv 5) pa_nil))) pa_nil))))))
      (pss_cons (ps_if (pt_not (pt_truth (pv 2) (by intro _; rfl))) (pss_one (ps_ret (pe_meth (pv 0) T.cl_Digests T.m_Digests_number (ok_Digests_number T) (hr.mono (by decide)) T.b_Digests_number .nil pass0 (pa_cons (pe_tup (pa_cons pe_str pa_nil)) pa_nil)))) pss_nil)
      (pss_cons (ps_asg (pe_bm0 PySem.F.plainAttrs_list PySem.F.slot_list_pop PySem.F.type_list_pop mt_pop (pv 2)) (pg_tup rfl (pgs_cons (pg_name (i := 3) sc_joined.nd rfl (Or.inl rfl)) (pgs_cons (pg_name (i := 5) sc_joined.nd rfl (Or.inl rfl)) pgs_nil))))
      (pss_cons (ps_for PassesOwn.never rfl (RT.pi_revA (by rfl) T.z_reversed (pv 2)) (pg_tup rfl (pgs_cons (pg_name (i := 3) sc_joined.nd rfl (Or.inl rfl)) (pgs_cons (pg_name (i := 6) sc_joined.nd rfl (Or.inl rfl)) pgs_nil)))
        (pss_one (ps_set (i := 5) sc_joined.nd rfl (Or.inl rfl) (pe_meth (pv 0) T.cl_Digests T.m_Digests_number (ok_Digests_number T) (hr.mono (by decide)) T.b_Digests_number .nil pass0 (pa_cons (pe_tup (pa_cons pe_str (pa_cons (pv 6) (pa_cons (pv 5) pa_nil)))) pa_nil)))))
      (pss_one (ps_ret (pv 5)))))))), ?_⟩
    (dsimp only [cxOf, Cx.nox, Cx.wish, L2.start, List.map, List.length, List.replicate, List.cons_append, List.nil_append, List.append_eq, Nat.reduceSub, Nat.reduceAdd])
    walk_at "my_rd"
    refine q_lstK (Nat.le_of_ble_eq_true rfl) fun f nf => ?_
    have smf : Same H (upd H f (.lst [])) := Same.new (Same.refl _) nf
    have hf0 : upd H f (.lst []) f = some (.lst []) := upd_same
    have kq0 : Kq vl nd H (upd H f (.lst [])) := Kq.same smf
    have hD0 := hD.same smf
    obtain ⟨_, hvl, _⟩ := hD.v
    have nfv : f ≠ vl := (ne_of_none hvl nf).symm
    have nbf : b ≠ f := by rcases hb with h | h <;> exact ne_of_none h nf
    have hb0 : upd H f (.lst []) b = H b := by rcases hb with h | h <;> rw [h] <;> exact smf _ _ h
    have hbn : b ≠ nd := by rcases hb with h | h <;> exact ne_of h hD.n (by intro z; cases z)
    have hlr : rs.length = zs.length := by
      have := congrArg List.length hz
      simpa using this
    have hlw := hR.len
    generalize upd H f (.lst []) = H0 at smf hf0 kq0 hD0 hb0
    walk_at "my_rd"
    refine q_forQ (a := b) (S := ws) rfl (by rw [hb0]; exact hb) (fun j σ H' => ∃ (T3 : List NestedKey) (xs : List V) (st : List (Nat × Tm)) (v3 v4 v5 v6 : Option V), σ = [some (.ref d), some (.ref b), some (.ref f), v3, v4, v5, v6] ∧ TT <+: T3 ∧ st.length ≤ j ∧ T3.length + st.length ≤ TT.length + j ∧ DigAt T.C_Digests H' d vl nd T3 ∧
        (∀ c o, H c = some o → c ≠ vl → c ≠ nd → H' c = some o) ∧ H' f = some (.lst xs) ∧ PS T3 env H' xs.reverse st ∧ (st.map Prod.fst).sum + (zs.drop j).sum ≤ 1000 ∧ jall (zs.drop j) j st = jall zs 0 [])
      ⟨TT, [], [], _, _, _, _, rfl, List.prefix_refl _, by simp, by simp, hD0, kq0, hf0, .nil, by simpa using hzs, rfl⟩ ?_ ?_ ?_
    · rintro j σ H' ⟨T3, xs, st, v3, v4, v5, v6, rfl, pre, hsl, hl3, hD3, kq, hf, hP, hsum, hj⟩
      rcases hb with h | h
      · rw [kq _ _ h hbv hbn, hb0, h]
      · rw [kq _ _ h hbv hbn, hb0, h]
    · rintro j x σ H' hx ⟨T3, xs, st, v3, v4, v5, v6, rfl, pre, hsl, hl3, hD3, kq, hf, hP, hsum, hj⟩
      obtain ⟨r, t, hr, rfl, ht⟩ := hR.item hx
      have hjl : j < rs.length := (List.getElem?_eq_some_iff.mp hr).1
      have hjz : j < zs.length := by omega
      have hrm := hrb r (List.mem_of_getElem? hr)
      have ht2 := kq _ _ ht (ne_of ht hvl (by intro z; cases z)) (ne_of ht hD.n (by intro z; cases z))
      have hzr : r.2.1 = ((zs[j] : Nat) : Int) := by
        have := congrArg (fun l => l[j]?) hz
        simp only [List.getElem?_map, hr, List.getElem?_eq_getElem hjz] at this
        exact Option.some.inj this
      have henv : env[j]? = some r.2.2 := by rw [henvd, List.getElem?_map, hr]; rfl
      rw [List.drop_eq_getElem_cons hjz] at hsum hj
      rw [List.sum_cons] at hsum
      refine q_gTup (sqT ht2) rfl ?_
      unfold f3
      rw [hzr]
      generalize zs[j] = z0 at hsum hj
      walk_at "my_rd"
      refine q_cut (Mid := fun σ H2 => ∃ (T4 : List NestedKey) (ys : List V) (st2 : List (Nat × Tm)) (z : Nat) (u : Tm) (fd : Int) (v3 v6 : Option V), σ = [some (.ref d), some (.ref b), some (.ref f), v3, some (.int (z : Nat)), some (.int fd), v6] ∧ TT <+: T4 ∧ st2.length ≤ j ∧ T4.length + st2.length ≤ TT.length + j ∧ DigAt T.C_Digests H2 d vl nd T4 ∧
        (∀ c o, H c = some o → c ≠ vl → c ≠ nd → H2 c = some o) ∧ H2 f = some (.lst ys) ∧ PS T4 env H2 ys.reverse st2 ∧ (st2.map Prod.fst).sum + z + (zs.drop (j + 1)).sum ≤ 1000 ∧ Ev T4 env u fd ∧ fd.natAbs < 1000000 ∧ jall (zs.drop (j + 1)) (j + 1) ((z, u) :: st2) = jall zs 0 []) ?_ ?_
      · refine q_while (fun m σ H2 => ∃ (T4 : List NestedKey) (ys : List V) (st2 : List (Nat × Tm)) (z : Nat) (u : Tm) (fd : Int) (v3 v6 : Option V), m = st2.length ∧ σ = [some (.ref d), some (.ref b), some (.ref f), v3, some (.int (z : Nat)), some (.int fd), v6] ∧ TT <+: T4 ∧ st2.length ≤ j ∧ T4.length + st2.length ≤ TT.length + j ∧ DigAt T.C_Digests H2 d vl nd T4 ∧
          (∀ c o, H c = some o → c ≠ vl → c ≠ nd → H2 c = some o) ∧ H2 f = some (.lst ys) ∧ PS T4 env H2 ys.reverse st2 ∧ (st2.map Prod.fst).sum + z + (zs.drop (j + 1)).sum ≤ 1000 ∧ Ev T4 env u fd ∧ fd.natAbs < 1000000 ∧ jall (zs.drop (j + 1)) (j + 1) (jpush st2 z u) = jall zs 0 []) (m0 := st.length)
          ⟨T3, xs, st, z0, .lf j, r.2.2, _, _, rfl, rfl, pre, hsl, hl3, hD3, kq, hf, hP, by omega, henv, hrm, hj⟩ ?_
        rintro m σ H2 ⟨T4, ys, st2, z, u, fd, v3, v6, rfl, rfl, pre4, hsl4, hl4, hD4, kq4, hf4, hP4, hsum4, hEv, hfd, hj4⟩
        walk_at "my_rd"
        refine ⟨_, .inl ⟨_, sqL hf4, rfl⟩, ?_⟩
        generalize hyr : ys.reverse = yr at hP4
        cases hP4 with
        | nil =>
          obtain rfl := List.reverse_eq_nil_iff.mp hyr
          rw [show (!([] : List V).isEmpty) = false from rfl]
          walk_at "my_rd"
          refine q_whF ?_
          walk_at "my_rd"
          exact ⟨T4, [], [], z, u, fd, _, _, rfl, pre4, hsl4, hl4, hD4, kq4, hf4, .nil, hsum4, hEv, hfd, hj4⟩
        | @cons a y u2 lf vs st2 ha hEv2 hlf hP4 =>
          obtain rfl : ys = vs.reverse ++ [.ref a] := by
            rw [← List.reverse_reverse (as := ys), hyr, List.reverse_cons]
          rw [show (!(vs.reverse ++ [V.ref a]).isEmpty) = true by simp]
          have hsl4 : st2.length + 1 ≤ j := hsl4
          have hl4 : T4.length + (st2.length + 1) ≤ TT.length + j := hl4
          have hsum4 : y + (st2.map Prod.fst).sum + z + (zs.drop (j + 1)).sum ≤ 1000 := by
            rw [List.map_cons, List.sum_cons] at hsum4
            exact hsum4
          walk_at "my_rd"
          refine q_ixL (sqL hf4) (at_last _ _) ?_
          walk_at "my_rd"
          refine q_wh2 (fun h => ?_) (fun h => ?_)
          · have h : y = z := by have := dec_t h; omega
            subst h
            walk_at "my_rd"
            refine ⟨f, _, .ref a, rfl, rfl, hf4, by rw [List.length_append, List.getElem?_append_right (by simp)]; simp, ?_⟩
            rw [List.dropLast_concat]
            have hD5 := hD4.off (o := .lst vs.reverse) hf4 nfv
            have tp : ∀ b zs, H2 b = some (.tup zs) → upd H2 f (.lst vs.reverse) b = some (.tup zs) := fun b zs q => upd_other (ne_of q hf4 (by intro z; cases z)) q
            have ha5 := tp _ _ ha
            have hP5 := hP4.mono (List.prefix_refl _) tp
            have kq5 : ∀ c o, H c = some o → c ≠ vl → c ≠ nd → upd H2 f (.lst vs.reverse) c = some o := fun c o hc n1 n2 => upd_other (ne_of_none hc nf) (kq4 _ _ hc n1 n2)
            have hf5 : upd H2 f (.lst vs.reverse) f = some (.lst vs.reverse) := upd_same
            generalize upd H2 f (.lst vs.reverse) = H5 at hD5 ha5 hP5 kq5 hf5
            refine q_gTup (sqT ha5) rfl ?_
            walk_at "my_rd"
            obtain ⟨dx5, ho5⟩ := hD5.o
            refine q_methK ho5 (lkd (by decide +kernel) (by decide +kernel)) fun R2 hR2 => ?_
            walk_at "my_rd"
            refine q_tupK (Nat.le_of_ble_eq_true rfl) fun t3 nt3 => ?_
            refine hR2 _ _ (num_use (k := kM lf fd) (hD5.same (Same.new (Same.refl _) nt3)) (.tup upd_same (.cons (.str _) (.cons (.int lf) (.cons (.int fd) .nil)))) (okM hlf hfd) (by omega) fun H6 T6 r6 pre6 hl6 hD6 hat6 kq6 => ?_)
            have kqN : Kq vl nd H5 H6 := Kq.trans (Kq.new Kq.refl nt3) kq6
            obtain ⟨_, hvl5, _⟩ := hD5.v
            have tp6 : ∀ b zs, H5 b = some (.tup zs) → H6 b = some (.tup zs) := fun b zs q => kqN _ _ q (ne_of q hvl5 (by intro z; cases z)) (ne_of q hD5.n (by intro z; cases z))
            have hr6 := (List.getElem?_eq_some_iff.mp hat6).1
            walk_at "my_rd"
            refine ⟨st2.length, by show st2.length < st2.length + 1; omega, T6, vs.reverse, st2, 2 * y, .nd u2 u, _, _, _, rfl, rfl, pre4.trans pre6, by omega, by omega, hD6, fun c o hc n1 n2 => kqN _ _ (kq5 _ _ hc n1 n2) n1 n2, kqN _ _ hf5 nfv (ne_of hf5 hD5.n (by intro z; cases z)), by rw [List.reverse_reverse]; exact hP5.mono pre6 tp6, by omega, ⟨_, _, hEv2.mono pre6, hEv.mono pre6, _, rfl, hat6⟩, by omega, ?_⟩
            rw [← hj4]
            show _ = jall (zs.drop (j + 1)) (j + 1) (if y = y then jpush st2 (2 * y) (.nd u2 u) else _)
            rw [if_pos rfl]
          · have h : y ≠ z := by have := dec_f h; omega
            walk_at "my_rd"
            refine ⟨T4, _, (y, u2) :: st2, z, u, fd, _, _, rfl, pre4, hsl4, hl4, hD4, kq4, hf4, by rw [List.reverse_append, List.reverse_reverse]; exact .cons ha hEv2 hlf hP4, by rw [List.map_cons, List.sum_cons]; exact hsum4, hEv, hfd, ?_⟩
            rw [← hj4]
            show _ = jall (zs.drop (j + 1)) (j + 1) (if y = z then jpush st2 (2 * z) (.nd u2 u) else _)
            rw [if_neg h]
      · rintro σ H2 ⟨T4, ys, st2, z, u, fd, v3, v6, rfl, pre4, hsl4, hl4, hD4, kq4, hf4, hP4, hsum4, hEv, hfd, hj4⟩
        walk_at "my_rd"
        refine q_tupK (Nat.le_of_ble_eq_true rfl) fun t2 nt2 => ?_
        have sm5 : Same H2 (upd H2 t2 (.tup [.int (z : Nat), .int fd])) := Same.new (Same.refl _) nt2
        have ht5 : upd H2 t2 (.tup [.int (z : Nat), .int fd]) t2 = some (.tup [.int (z : Nat), .int fd]) := upd_same
        generalize upd H2 t2 (.tup [.int (z : Nat), .int fd]) = H5 at sm5 ht5
        have hf5 := sm5 _ _ hf4
        have hD5 := hD4.same sm5
        have hP5 := hP4.mono (List.prefix_refl _) (H' := H5) fun b ys q => sm5 _ _ q
        have ly := hP4.len
        rw [List.length_reverse] at ly
        walk_at "my_rd"
        refine q_append hf5 (small1000 (by omega)) ?_
        walk_at "my_rd"
        have tp : ∀ b zs, H5 b = some (.tup zs) → upd H5 f (.lst (ys ++ [.ref t2])) b = some (.tup zs) := fun b zs q => upd_other (ne_of q hf5 (by intro z; cases z)) q
        refine ⟨T4, ys ++ [.ref t2], (z, u) :: st2, _, _, _, _, rfl, pre4, by show st2.length + 1 ≤ j + 1; omega, by show _ + (st2.length + 1) ≤ _; omega, hD5.off hf5 nfv, fun c o hc n1 n2 => upd_other (ne_of_none hc nf) (sm5 _ _ (kq4 _ _ hc n1 n2)), upd_same, ?_, by simpa [Nat.add_assoc, Nat.add_comm, Nat.add_left_comm] using hsum4, hj4⟩
        rw [List.reverse_append]
        exact .cons (tp _ _ ht5) hEv hfd (hP5.mono (List.prefix_refl _) tp)
    · rintro σ H' ⟨T3, xs, st, v3, v4, v5, v6, rfl, pre, hsl, hl3, hD3, kq, hf, hP, hsum, hj⟩
      rw [hlw, hlr] at hj hl3
      rw [List.drop_length] at hj
      have hj : st = jall zs 0 [] := hj
      walk_at "my_rd"
      refine ⟨_, .inl ⟨_, sqL hf, rfl⟩, ?_⟩
      generalize hyr : xs.reverse = yr at hP
      cases hP with
      | nil =>
        obtain rfl := List.reverse_eq_nil_iff.mp hyr
        rw [show (!([] : List V).isEmpty) = false from rfl]
        walk_at "my_rd"
        obtain ⟨dx3, ho3⟩ := hD3.o
        refine q_methK ho3 (lkd (by decide +kernel) (by decide +kernel)) fun R2 hR2 => ?_
        walk_at "my_rd"
        refine q_tupK (Nat.le_of_ble_eq_true rfl) fun t3 nt3 => ?_
        refine hR2 _ _ (num_use (k := kE) (hD3.same (Same.new (Same.refl _) nt3)) (.tup upd_same (.cons (.str _) .nil)) okE (by omega) fun H6 T6 r6 pre6 hl6 hD6 hat6 kq6 => ?_)
        have kqN : Kq vl nd H' H6 := Kq.trans (Kq.new Kq.refl nt3) kq6
        walk_at "my_rd"
        refine k H6 T6 _ (pre.trans pre6) (by omega) hD6 (fun c o hc n1 n2 => kqN _ _ (kq _ _ hc n1 n2) n1 n2) ?_
        rw [← hj]
        exact ⟨r6, rfl, hat6⟩
      | @cons a y u0 fd vs st ha hEv0 hfd hP =>
        obtain rfl : xs = vs.reverse ++ [.ref a] := by
          rw [← List.reverse_reverse (as := xs), hyr, List.reverse_cons]
        rw [show (!(vs.reverse ++ [V.ref a]).isEmpty) = true by simp]
        have hl3 : T3.length + (st.length + 1) ≤ TT.length + zs.length := hl3
        walk_at "my_rd"
        refine ⟨f, _, .ref a, rfl, rfl, hf, by rw [List.length_append, List.getElem?_append_right (by simp)]; simp, ?_⟩
        rw [List.dropLast_concat]
        have hD5 := hD3.off (o := .lst vs.reverse) hf nfv
        have tp : ∀ b zs, H' b = some (.tup zs) → upd H' f (.lst vs.reverse) b = some (.tup zs) := fun b zs q => upd_other (ne_of q hf (by intro z; cases z)) q
        have ha5 := tp _ _ ha
        have hP5 := hP.mono (List.prefix_refl _) tp
        have kq5 : ∀ c o, H c = some o → c ≠ vl → c ≠ nd → upd H' f (.lst vs.reverse) c = some o := fun c o hc n1 n2 => upd_other (ne_of_none hc nf) (kq _ _ hc n1 n2)
        have hf5 : upd H' f (.lst vs.reverse) f = some (.lst vs.reverse) := upd_same
        generalize upd H' f (.lst vs.reverse) = H5 at hD5 ha5 hP5 kq5 hf5
        refine q_gTup (sqT ha5) rfl ?_
        walk_at "my_rd"
        have lv := hP.len
        unfold RT.iRevA
        refine q_var (v := .ref f) rfl ⟨f, vs.reverse, rfl, .inl ⟨sqL hf5, ?_⟩⟩
        refine RT.for_Itv (fun i σ H6 => ∃ (T6 : List NestedKey) (u : Tm) (g : Int) (v3 v4 v6 : Option V), σ = [some (.ref d), some (.ref b), some (.ref f), v3, v4, some (.int g), v6] ∧ T3 <+: T6 ∧ T6.length ≤ T3.length + i ∧ DigAt T.C_Digests H6 d vl nd T6 ∧ Kq vl nd H5 H6 ∧
          Ev T6 env u g ∧ g.natAbs < 1000000 ∧ jfold (st.drop i) u = jfold st u0) ⟨T3, u0, fd, _, _, _, rfl, List.prefix_refl _, by omega, hD5, Kq.refl, hEv0, hfd, rfl⟩ ?_ ?_ ?_
        · rintro i σ H6 ⟨T6, u, g, v3, v4, v6, rfl, pre6, hl6, hD6, kq6, hEv, hg, hjf⟩
          exact sqL (kq6 _ _ hf5 nfv (ne_of hf5 hD5.n (by intro z; cases z)))
        · rintro i x σ H6 hi hx ⟨T6, u, g, v3, v4, v6, rfl, pre6, hl6, hD6, kq6, hEv, hg, hjf⟩
          rw [List.length_reverse] at hi hx
          rw [List.getElem?_reverse (by omega), show vs.length - 1 - (vs.length - 1 - i) = i by omega] at hx
          obtain ⟨a2, y2, u2, lf, rfl, hst, ha2, hEv2, hlf⟩ := hP5.at' hx
          obtain ⟨_, hvl5, _⟩ := hD5.v
          have ha6 := kq6 _ _ ha2 (ne_of ha2 hvl5 (by intro z; cases z)) (ne_of ha2 hD5.n (by intro z; cases z))
          have hil : i < st.length := by omega
          refine q_gTup (sqT ha6) rfl ?_
          walk_at "my_rd"
          obtain ⟨dx6, ho6⟩ := hD6.o
          refine q_methK ho6 (lkd (by decide +kernel) (by decide +kernel)) fun R2 hR2 => ?_
          walk_at "my_rd"
          refine q_tupK (Nat.le_of_ble_eq_true rfl) fun t3 nt3 => ?_
          refine hR2 _ _ (num_use (k := kM lf g) (hD6.same (Same.new (Same.refl _) nt3)) (.tup upd_same (.cons (.str _) (.cons (.int lf) (.cons (.int g) .nil)))) (okM hlf hg) (by omega) fun H7 T7 r7 pre7 hl7 hD7 hat7 kq7 => ?_)
          have kqN : Kq vl nd H6 H7 := Kq.trans (Kq.new Kq.refl nt3) kq7
          have hr7 := (List.getElem?_eq_some_iff.mp hat7).1
          walk_at "my_rd"
          refine ⟨T7, .nd u2 u, _, _, _, _, rfl, pre6.trans pre7, by omega, hD7, Kq.trans kq6 kqN, ⟨_, _, hEv2.mono (pre6.trans pre7), hEv.mono pre7, _, rfl, hat7⟩, by omega, ?_⟩
          rw [← hjf]
          have e : st.drop i = (y2, u2) :: st.drop (i + 1) := by
            rw [List.drop_eq_getElem_cons hil]
            rw [List.getElem?_eq_getElem hil] at hst
            rw [Option.some.inj hst]
          rw [e]
          rfl
        · rintro σ H6 ⟨T6, u, g, v3, v4, v6, rfl, pre6, hl6, hD6, kq6, hEv, hg, hjf⟩
          rw [List.length_reverse, lv] at hjf hl6
          rw [List.drop_length] at hjf
          walk_at "my_rd"
          refine k H6 T6 _ (pre.trans pre6) (by omega) hD6 (fun c o hc n1 n2 => kq6 _ _ (kq5 _ _ hc n1 n2) n1 n2) ?_
          rw [← hj]
          show Ev T6 _ (jfold st u0) g
          rw [← hjf]
          exact hEv
end

local macro_rules | `(tactic| walk_at "my_rd") => `(tactic| (repeat first
  | with_reducible refine q_tCons ?_
  | ((with_reducible apply q_var); (focus (exact rfl)))
  | with_reducible refine q_c ?_
  | with_reducible refine q_nx ?_
  | with_reducible refine q_bK ?_
  | with_reducible refine q_call ?_
  | with_reducible refine q_callK ?_
  | with_reducible refine q_tNil ?_
  | with_reducible refine q_cb ?_
  | with_reducible refine q_seq ?_
  | with_reducible refine q_asg ?_
  | with_reducible refine q_gName ?_
  | with_reducible refine q_op ?_
  | with_reducible refine q_test ?_
  | with_reducible refine q_tB ?_
  | with_reducible refine q_ifS ?_
  | with_reducible refine q_ret ?_
  | with_reducible refine q_rt ?_
  | with_reducible refine q_next ?_
  | with_reducible refine q_ifF ?_
  | with_reducible refine q_ifT ?_
  | with_reducible refine q_drop ?_
  | with_reducible refine q_and ?_
  | with_reducible refine q_or ?_
  | with_reducible refine q_andT ?_
  | with_reducible refine q_andF ?_
  | with_reducible refine q_orF ?_
  | with_reducible refine q_orT ?_
  | with_reducible refine q_andV ?_
  | with_reducible refine q_andVT ?_
  | with_reducible refine q_andVF ?_
  | with_reducible refine q_orV ?_
  | with_reducible refine q_gCons ?_
  | with_reducible refine q_gNil ?_
  | with_reducible refine q_tup ?_
  | with_reducible refine q_lst ?_
  | with_reducible refine q_not ?_
  | with_reducible refine q_notKT ?_
  | with_reducible refine q_notKF ?_
  | with_reducible refine q_I0 ?_
  | with_reducible refine q_eqI ?_
  | with_reducible refine q_neI ?_
  | ((with_reducible refine q_I ?_ ?_); first | decide | omega | exact ⟨by omega, by omega⟩ | exact ⟨by decide, by decide⟩ | exact .inl ⟨by omega, by omega⟩ | exact .inr ⟨by omega, by omega⟩ | exact .inr ⟨by decide, by decide⟩)
  | with_reducible refine q_eqS ?_
  | with_reducible refine q_neS ?_
  | with_reducible refine q_brk ?_
  | with_reducible refine q_ct ?_
  | with_reducible refine q_bk ?_
  | with_reducible refine q_cn ?_
  | with_reducible refine q_retN ?_
  | with_reducible refine q_gSub ?_
  | with_reducible refine q_for ?_
  | with_reducible refine q_iList ?_
  | with_reducible refine q_iTup ?_
  | with_reducible refine q_iRng1 ?_
  | with_reducible refine q_notK ?_
  | with_reducible refine q_orVT ?_
  | with_reducible refine q_orVF ?_
  | with_reducible refine q_notV ?_
  | with_reducible refine q_notVK ?_
  | with_reducible refine q_ifE ?_
  | with_reducible refine q_ifET ?_
  | with_reducible refine q_ifEF ?_
  | with_reducible refine q_yes ?_
  | with_reducible refine q_un ?_
  | with_reducible refine q_rU ?_
  | with_reducible refine q_abs ?_
  | with_reducible refine q_int1 ?_
  | with_reducible refine q_bm ?_
  | with_reducible refine q_bm0 ?_
  | with_reducible refine q_lc ?_
  | with_reducible refine q_keepT ?_
  | with_reducible refine q_keepF ?_
  | ((with_reducible apply q_aug); (focus (exact rfl)))
  | with_reducible refine q_ipI ?_
  | with_reducible refine q_chain ?_
  | with_reducible refine q_pairC ?_
  | with_reducible refine q_pairsK ?_
  | with_reducible refine q_pairN ?_
  | with_reducible refine q_fld ?_
  | with_reducible refine q_sFld ?_
  | with_reducible refine q_meth ?_
  | with_reducible refine q_makeK ?_
  | with_reducible refine q_isBl ?_
  | with_reducible refine q_notBl ?_
  | with_reducible refine q_sl ?_
  | with_reducible refine q_noPart ?_
  | with_reducible refine q_part ?_
  | with_reducible refine q_partK ?_
  | ((with_reducible apply q_mulStr); (focus (decide +kernel)))
  | with_reducible refine q_chT ?_
  | with_reducible refine q_chF ?_
  | with_reducible refine q_ord ?_
  | with_reducible refine q_iStr0 ?_
  | with_reducible refine q_iStr ?_
  | with_reducible refine q_tDIn ?_
  | with_reducible refine q_tDNotIn ?_
  | with_reducible refine q_tDGet ?_
  | with_reducible refine q_tDGet2 ?_
  | with_reducible refine q_tDGet1 ?_
  | with_reducible refine q_tDSetd ?_
  | ((with_reducible apply q_dG2a); (focus ((repeat first | (with_reducible exact upd_same) | (with_reducible assumption) | (with_reducible apply upd_new (by assumption)) | (with_reducible apply upd_other (by first | assumption | exact Ne.symm (by assumption))) | (with_reducible refine' Kp.get (by assumption) ?_ (by first | assumption | exact Ne.symm (by assumption))) | (with_reducible apply Same.get (by assumption))); done)))
  | ((with_reducible apply q_dSda); (focus ((repeat first | (with_reducible exact upd_same) | (with_reducible assumption) | (with_reducible apply upd_new (by assumption)) | (with_reducible apply upd_other (by first | assumption | exact Ne.symm (by assumption))) | (with_reducible refine' Kp.get (by assumption) ?_ (by first | assumption | exact Ne.symm (by assumption))) | (with_reducible apply Same.get (by assumption))); done)))
  | with_reducible refine q_sDPut ?_
  | ((with_reducible apply q_dInS); (focus ((repeat first | (with_reducible exact upd_same) | (with_reducible assumption) | (with_reducible apply upd_new (by assumption)) | (with_reducible apply upd_other (by first | assumption | exact Ne.symm (by assumption))) | (with_reducible refine' Kp.get (by assumption) ?_ (by first | assumption | exact Ne.symm (by assumption))) | (with_reducible apply Same.get (by assumption))); done)))
  | ((with_reducible apply q_dNInS); (focus ((repeat first | (with_reducible exact upd_same) | (with_reducible assumption) | (with_reducible apply upd_new (by assumption)) | (with_reducible apply upd_other (by first | assumption | exact Ne.symm (by assumption))) | (with_reducible refine' Kp.get (by assumption) ?_ (by first | assumption | exact Ne.symm (by assumption))) | (with_reducible apply Same.get (by assumption))); done)))
  | ((with_reducible apply q_dInI); (focus ((repeat first | (with_reducible exact upd_same) | (with_reducible assumption) | (with_reducible apply upd_new (by assumption)) | (with_reducible apply upd_other (by first | assumption | exact Ne.symm (by assumption))) | (with_reducible refine' Kp.get (by assumption) ?_ (by first | assumption | exact Ne.symm (by assumption))) | (with_reducible apply Same.get (by assumption))); done)))
  | ((with_reducible apply q_dNInI); (focus ((repeat first | (with_reducible exact upd_same) | (with_reducible assumption) | (with_reducible apply upd_new (by assumption)) | (with_reducible apply upd_other (by first | assumption | exact Ne.symm (by assumption))) | (with_reducible refine' Kp.get (by assumption) ?_ (by first | assumption | exact Ne.symm (by assumption))) | (with_reducible apply Same.get (by assumption))); done)))
  | ((with_reducible apply q_bmL); (focus ((repeat first | (with_reducible exact upd_same) | (with_reducible assumption) | (with_reducible apply upd_new (by assumption)) | (with_reducible apply upd_other (by first | assumption | exact Ne.symm (by assumption))) | (with_reducible refine' Kp.get (by assumption) ?_ (by first | assumption | exact Ne.symm (by assumption))) | (with_reducible apply Same.get (by assumption))); done)))
  | ((with_reducible apply q_bmL0); (focus ((repeat first | (with_reducible exact upd_same) | (with_reducible assumption) | (with_reducible apply upd_new (by assumption)) | (with_reducible apply upd_other (by first | assumption | exact Ne.symm (by assumption))) | (with_reducible refine' Kp.get (by assumption) ?_ (by first | assumption | exact Ne.symm (by assumption))) | (with_reducible apply Same.get (by assumption))); done)))
  | ((with_reducible apply q_ixLt); (focus ((repeat first | (with_reducible exact upd_same) | (with_reducible assumption) | (with_reducible apply upd_new (by assumption)) | (with_reducible apply upd_other (by first | assumption | exact Ne.symm (by assumption))) | (with_reducible refine' Kp.get (by assumption) ?_ (by first | assumption | exact Ne.symm (by assumption))) | (with_reducible apply Same.get (by assumption))); done)); (focus (exact rfl)))
  | ((with_reducible apply q_ixTt); (focus ((repeat first | (with_reducible exact upd_same) | (with_reducible assumption) | (with_reducible apply upd_new (by assumption)) | (with_reducible apply upd_other (by first | assumption | exact Ne.symm (by assumption))) | (with_reducible refine' Kp.get (by assumption) ?_ (by first | assumption | exact Ne.symm (by assumption))) | (with_reducible apply Same.get (by assumption))); done)); (focus (exact rfl)))
  | ((with_reducible apply q_lenLt); (focus ((repeat first | (with_reducible exact upd_same) | (with_reducible assumption) | (with_reducible apply upd_new (by assumption)) | (with_reducible apply upd_other (by first | assumption | exact Ne.symm (by assumption))) | (with_reducible refine' Kp.get (by assumption) ?_ (by first | assumption | exact Ne.symm (by assumption))) | (with_reducible apply Same.get (by assumption))); done)))
  | ((with_reducible apply q_lenTt); (focus ((repeat first | (with_reducible exact upd_same) | (with_reducible assumption) | (with_reducible apply upd_new (by assumption)) | (with_reducible apply upd_other (by first | assumption | exact Ne.symm (by assumption))) | (with_reducible refine' Kp.get (by assumption) ?_ (by first | assumption | exact Ne.symm (by assumption))) | (with_reducible apply Same.get (by assumption))); done)))
  | ((with_reducible apply q_append); (focus ((repeat first | (with_reducible exact upd_same) | (with_reducible assumption) | (with_reducible apply upd_new (by assumption)) | (with_reducible apply upd_other (by first | assumption | exact Ne.symm (by assumption))) | (with_reducible refine' Kp.get (by assumption) ?_ (by first | assumption | exact Ne.symm (by assumption))) | (with_reducible apply Same.get (by assumption))); done)); (focus ((first | (exact Nat.lt_of_ble_eq_true rfl) | (simp only [List.length_append, List.length_cons, List.length_nil, List.length_map]; exact small1000 (by omega))))))
  | ((with_reducible apply q_setL); (focus ((repeat first | (with_reducible exact upd_same) | (with_reducible assumption) | (with_reducible apply upd_new (by assumption)) | (with_reducible apply upd_other (by first | assumption | exact Ne.symm (by assumption))) | (with_reducible refine' Kp.get (by assumption) ?_ (by first | assumption | exact Ne.symm (by assumption))) | (with_reducible apply Same.get (by assumption))); done)); (focus (exact rfl)))
  | with_reducible refine q_ifNT ?_
  | with_reducible refine q_ifNF ?_
  | with_reducible refine q_andNT ?_
  | with_reducible refine q_andNF ?_
  | with_reducible refine q_orNT ?_
  | with_reducible refine q_orNF ?_
  | with_reducible refine q_bKNT ?_
  | with_reducible refine q_bKNF ?_
  | with_reducible refine q_tNGet ?_
  | with_reducible refine q_tNIn ?_
  | with_reducible refine q_sNPut ?_
  | with_reducible refine q_sFldAug ?_
  | with_reducible refine q_sDAug ?_
  | with_reducible refine q_sDDel ?_
  | with_reducible refine q_forX ?_
  | with_reducible refine q_tMake ?_
  | ((with_reducible apply q_dG1a); (focus ((repeat first | (with_reducible exact upd_same) | (with_reducible assumption) | (with_reducible apply upd_new (by assumption)) | (with_reducible apply upd_other (by first | assumption | exact Ne.symm (by assumption))) | (with_reducible refine' Kp.get (by assumption) ?_ (by first | assumption | exact Ne.symm (by assumption))) | (with_reducible apply Same.get (by assumption))); done)))))
open TL
/-! the check of a growth paper -/
def sp_chg (K : PySem.W.Frag) (C : Addr) : Sp := fun vs H Q _ => ∃ (d vl nd p : Addr) (T : List NestedKey) (r0 s0 r1 s1 : Int) (ws : List V) (rs : List Row), vs = [.ref d, .int r0, .int s0, .int r1, .int s1, .ref p] ∧ DigAt C H d vl nd T ∧ H p = some (.tup ws) ∧ RowsAt f3 H ws rs ∧ s1 ≤ 20 ∧ rs.length ≤ 30 ∧
  (∀ r ∈ rs, r.2.2.natAbs < 1000000) ∧ T.length ≤ 50000 ∧
  (¬ (0 ≤ s0 ∧ s0 ≤ s1) → Q (.bl false) H) ∧
  ∀ (o n : Nat), s0 = o → s1 = n → o ≤ n →
    (rs.map (fun r => (r.1, r.2.1)) ≠ (spans o n).map (fun q => ((q.1 : Int), (q.2 : Int))) → ∀ H', DigAt C H' d vl nd T → Kq vl nd H H' → Q (.bl false) H') ∧
    (rs.map (fun r => (r.1, r.2.1)) = (spans o n).map (fun q => ((q.1 : Int), (q.2 : Int))) → ∀ (H' : Hp) (T' : List NestedKey) (a : Int), T <+: T' → T'.length ≤ T.length + 70 → DigAt C H' d vl nd T' → Kq vl nd H H' → JE T' ((rs.take (wid o 30 0).length).map fun r => r.2.2) (jend (jall ((wid o 30 0).map Prod.snd) 0 [])) a →
      (a ≠ r0 → Q (.bl false) H') ∧ ∀ b : Int, JE T' (rs.map fun r => r.2.2) (jend (jall ((spans o n).map Prod.snd) 0 [])) b → a = r0 → Q (.bl (decide (b = r1))) H')
theorem filter_wid {o n : Nat} (h : o ≤ n) {rs : List Row} (e : rs.map (fun r => (r.1, r.2.1)) = (spans o n).map (fun q => ((q.1 : Int), (q.2 : Int)))) : rs.filter (fun r => decide (r.1 < (o : Int))) = rs.take (wid o 30 0).length := by
  have hl : rs.length = (spans o n).length := by
    have := congrArg List.length e
    simpa using this
  have hat : ∀ (i : Nat) (r : Row), rs[i]? = some r → ∃ q, (spans o n)[i]? = some q ∧ r.1 = (q.1 : Int) := by
    intro i r hr
    have := congrArg (fun l => l[i]?) e
    simp only [List.getElem?_map, hr] at this
    cases hq : (spans o n)[i]? with
    | none => rw [hq] at this; cases this
    | some q =>
      rw [hq] at this
      have := Option.some.inj this
      exact ⟨q, rfl, congrArg Prod.fst this⟩
  rw [← List.take_append_drop (wid o 30 0).length rs, List.filter_append]
  have h1 : (rs.take (wid o 30 0).length).filter (fun r => decide (r.1 < (o : Int))) = rs.take (wid o 30 0).length := by
    rw [List.filter_eq_self]
    intro r hr
    obtain ⟨i, hi⟩ := List.mem_iff_getElem?.mp hr
    rw [List.getElem?_take] at hi
    split at hi
    · rename_i hlt
      obtain ⟨q, hq, e1⟩ := hat i r hi
      unfold spans at hq
      rw [List.getElem?_append_left hlt] at hq
      have := wid_mem (List.mem_of_getElem? hq)
      exact decide_eq_true (by omega)
    · cases hi
  have h2 : (rs.drop (wid o 30 0).length).filter (fun r => decide (r.1 < (o : Int))) = [] := by
    rw [List.filter_eq_nil_iff]
    intro r hr
    obtain ⟨i, hi⟩ := List.mem_iff_getElem?.mp hr
    rw [List.getElem?_drop] at hi
    obtain ⟨q, hq, e1⟩ := hat _ r hi
    unfold spans at hq
    rw [List.getElem?_append_right (by omega)] at hq
    have := wid_mem (List.mem_of_getElem? hq)
    rw [decide_eq_true_eq]
    omega
  rw [h1, h2, List.append_nil, List.take_append_drop]
def g2 (p : Int × Int) : List V := [.int p.1, .int p.2]
def dp2 (p : Int × Int) : PyData := .tuple [.int p.1, .int p.2]
def dp3 (p : Row) : PyData := .tuple [.int p.1, .int p.2.1, .int p.2.2]
theorem RowsAt.dp {α : Type} {K : PySem.W.Frag} {H : Hp} {f : α → List V} {D : α → PyData} (hD : ∀ r a, H a = some (.tup (f r)) → Dp K H (.ref a) (D r)) : ∀ {xs : List V} {rs : List α}, RowsAt f H xs rs → DpAll K H xs (rs.map D)
  | [], [], _ => .nil
  | [], _ :: _, h => by have := h.len; simp at this
  | _ :: _, [], h => by have := h.len; simp at this
  | x :: xs, r :: rs, h => by
    obtain ⟨a, h1, h2⟩ := h.at_ 0 r rfl
    obtain rfl := Option.some.inj h1
    exact .cons (hD r a h2) (RowsAt.dp hD ⟨by have := h.len; simpa using this, fun i q hq => by have := h.at_ (i + 1) q (by simpa using hq); simpa using this⟩)
theorem RowsAt.mapR {α β : Type} {H : Hp} {f : α → List V} {g : β → List V} {h : α → β} (e : ∀ a, f a = g (h a)) {xs : List V} {rs : List α} (r : RowsAt f H xs rs) : RowsAt g H xs (rs.map h) := by
  refine ⟨by rw [List.length_map]; exact r.len, fun i q hq => ?_⟩
  rw [List.getElem?_map] at hq
  cases hr : rs[i]? with
  | none => rw [hr] at hq; cases hq
  | some x =>
    rw [hr] at hq
    obtain rfl := Option.some.inj hq
    obtain ⟨a, h1, h2⟩ := r.at_ i x hr
    exact ⟨a, h1, by rw [← e]; exact h2⟩
theorem dp2_ok {K : PySem.W.Frag} {H : Hp} (r : Int × Int) (a : Addr) (h : H a = some (.tup (g2 r))) : Dp K H (.ref a) (dp2 r) := .tup (sqT h) (.cons (.int _) (.cons (.int _) .nil))
theorem dp3_ok {K : PySem.W.Frag} {H : Hp} (r : Row) (a : Addr) (h : H a = some (.tup (f3 r))) : Dp K H (.ref a) (dp3 r) := .tup (sqT h) (.cons (.int _) (.cons (.int _) (.cons (.int _) .nil)))
theorem pd_all {α : Type} {D : α → PyData} (n : Nat) (h : ∀ r, (D r).canLay0 = true ∧ (D r).depth ≤ n) (rs : List α) : PyData.canLayAll0 (rs.map D) = true ∧ PyData.depthAll (rs.map D) ≤ n := by
  induction rs with
  | nil => exact ⟨by simp [PyData.canLayAll0], by simp [PyData.depthAll]⟩
  | cons x r ih =>
    refine ⟨by simp [PyData.canLayAll0, (h x).1, ih.1], ?_⟩
    have h1 := (h x).2
    have h2 := ih.2
    simp only [List.map_cons, PyData.depthAll]
    omega
theorem dp2_fine (r : Int × Int) : (dp2 r).canLay0 = true ∧ (dp2 r).depth ≤ 5 := by
  refine ⟨by simp [dp2, PyData.canLay0, PyData.canLayAll0], ?_⟩
  simp [dp2, PyData.depth, PyData.depthAll]
theorem dp3_fine (r : Row) : (dp3 r).canLay0 = true ∧ (dp3 r).depth ≤ 5 := by
  refine ⟨by simp [dp3, PyData.canLay0, PyData.canLayAll0], ?_⟩
  simp [dp3, PyData.depth, PyData.depthAll]
theorem pd_shapedL {α : Type} {D : α → PyData} (h : ∀ r, (D r).canLay0 = true ∧ (D r).depth ≤ 5) (rs : List α) : SeqAt.shaped (.list (rs.map D)) = true ∧ (PyData.list (rs.map D)).canLay0 = true := by
  have a := pd_all 5 h rs
  have e : (PyData.list (rs.map D)).canLay0 = true := by simp only [PyData.canLay0]; exact a.1
  refine ⟨?_, e⟩
  show ((PyData.list (rs.map D)).canLay0 && decide ((PyData.list (rs.map D)).depth ≤ 64)) = true
  rw [e, decide_eq_true]
  · rfl
  · have := a.2
    rw [PyData.depth]
    omega
theorem pd_shapedT {α : Type} {D : α → PyData} (h : ∀ r, (D r).canLay0 = true ∧ (D r).depth ≤ 5) (rs : List α) : SeqAt.shaped (.tuple (rs.map D)) = true ∧ (PyData.tuple (rs.map D)).canLay0 = true := by
  have a := pd_all 5 h rs
  have e : (PyData.tuple (rs.map D)).canLay0 = true := by simp only [PyData.canLay0]; exact a.1
  refine ⟨?_, e⟩
  show ((PyData.tuple (rs.map D)).canLay0 && decide ((PyData.tuple (rs.map D)).depth ≤ 64)) = true
  rw [e, decide_eq_true]
  · rfl
  · have := a.2
    rw [PyData.depth]
    omega
theorem dp2_eqv (a b : Int × Int) : PyData.eqv (dp2 a) (dp2 b) = decide (a = b) := by
  obtain ⟨a1, a2⟩ := a
  obtain ⟨b1, b2⟩ := b
  simp only [dp2, PyData.eqv, PyData.eqvAll]
  by_cases h : a1 = b1 <;> by_cases h2 : a2 = b2 <;> simp [h, h2]
theorem dp2s_eqvA : ∀ a b : List (Int × Int), PyData.eqvAll (a.map dp2) (b.map dp2) = decide (a = b)
  | [], [] => by simp [PyData.eqvAll]
  | [], _ :: _ => by simp [PyData.eqvAll]
  | _ :: _, [] => by simp [PyData.eqvAll]
  | x :: xs, y :: ys => by
    simp only [List.map_cons, PyData.eqvAll]
    rw [dp2_eqv, dp2s_eqvA xs ys]
    by_cases h : x = y <;> by_cases h2 : xs = ys <;> simp [h, h2]
theorem dp2s_eqv (a b : List (Int × Int)) : PyData.eqv (.list (a.map dp2)) (.list (b.map dp2)) = decide (a = b) := by
  simp only [PyData.eqv]
  exact dp2s_eqvA a b
theorem sum_le20 : ∀ zs : List Nat, (∀ z ∈ zs, z ≤ 20) → zs.sum ≤ 20 * zs.length
  | [], _ => by simp
  | z :: zs, h => by
    have := sum_le20 zs fun x hx => h x (List.mem_cons_of_mem _ hx)
    have := h z (List.mem_cons_self ..)
    rw [List.sum_cons, List.length_cons]
    omega

local macro_rules | `(tactic| walk_at "my_rd") => `(tactic| (repeat first
  | with_reducible refine q_tCons ?_
  | ((with_reducible apply q_var); (focus (exact rfl)))
  | with_reducible refine q_c ?_
  | with_reducible refine q_nx ?_
  | with_reducible refine q_bK ?_
  | with_reducible refine q_call ?_
  | with_reducible refine q_callK ?_
  | with_reducible refine q_tNil ?_
  | with_reducible refine q_cb ?_
  | with_reducible refine q_seq ?_
  | with_reducible refine q_asg ?_
  | with_reducible refine q_gName ?_
  | with_reducible refine q_op ?_
  | with_reducible refine q_test ?_
  | with_reducible refine q_tB ?_
  | with_reducible refine q_ifS ?_
  | with_reducible refine q_ret ?_
  | with_reducible refine q_rt ?_
  | with_reducible refine q_next ?_
  | with_reducible refine q_ifF ?_
  | with_reducible refine q_ifT ?_
  | with_reducible refine q_drop ?_
  | with_reducible refine q_and ?_
  | with_reducible refine q_or ?_
  | with_reducible refine q_andT ?_
  | with_reducible refine q_andF ?_
  | with_reducible refine q_orF ?_
  | with_reducible refine q_orT ?_
  | with_reducible refine q_andV ?_
  | with_reducible refine q_andVT ?_
  | with_reducible refine q_andVF ?_
  | with_reducible refine q_orV ?_
  | with_reducible refine q_gCons ?_
  | with_reducible refine q_gNil ?_
  | with_reducible refine q_tup ?_
  | with_reducible refine q_lst ?_
  | with_reducible refine q_not ?_
  | with_reducible refine q_notKT ?_
  | with_reducible refine q_notKF ?_
  | with_reducible refine q_I0 ?_
  | with_reducible refine q_eqI ?_
  | with_reducible refine q_neI ?_
  | ((with_reducible refine q_I ?_ ?_); first | decide | omega | exact ⟨by omega, by omega⟩ | exact ⟨by decide, by decide⟩ | exact .inl ⟨by omega, by omega⟩ | exact .inr ⟨by omega, by omega⟩ | exact .inr ⟨by decide, by decide⟩)
  | with_reducible refine q_eqS ?_
  | with_reducible refine q_neS ?_
  | with_reducible refine q_brk ?_
  | with_reducible refine q_ct ?_
  | with_reducible refine q_bk ?_
  | with_reducible refine q_cn ?_
  | with_reducible refine q_retN ?_
  | with_reducible refine q_gSub ?_
  | with_reducible refine q_for ?_
  | with_reducible refine q_iList ?_
  | with_reducible refine q_iTup ?_
  | with_reducible refine q_iRng1 ?_
  | with_reducible refine q_notK ?_
  | with_reducible refine q_orVT ?_
  | with_reducible refine q_orVF ?_
  | with_reducible refine q_notV ?_
  | with_reducible refine q_notVK ?_
  | with_reducible refine q_ifE ?_
  | with_reducible refine q_ifET ?_
  | with_reducible refine q_ifEF ?_
  | with_reducible refine q_yes ?_
  | with_reducible refine q_un ?_
  | with_reducible refine q_rU ?_
  | with_reducible refine q_abs ?_
  | with_reducible refine q_int1 ?_
  | with_reducible refine q_bm ?_
  | with_reducible refine q_bm0 ?_
  | with_reducible refine q_lc ?_
  | with_reducible refine q_keepT ?_
  | with_reducible refine q_keepF ?_
  | ((with_reducible apply q_aug); (focus (exact rfl)))
  | with_reducible refine q_ipI ?_
  | with_reducible refine q_chain ?_
  | with_reducible refine q_pairC ?_
  | with_reducible refine q_pairsK ?_
  | with_reducible refine q_pairN ?_
  | with_reducible refine q_fld ?_
  | with_reducible refine q_sFld ?_
  | with_reducible refine q_meth ?_
  | with_reducible refine q_makeK ?_
  | with_reducible refine q_isBl ?_
  | with_reducible refine q_notBl ?_
  | with_reducible refine q_sl ?_
  | with_reducible refine q_noPart ?_
  | with_reducible refine q_part ?_
  | with_reducible refine q_partK ?_
  | ((with_reducible apply q_mulStr); (focus (decide +kernel)))
  | with_reducible refine q_chT ?_
  | with_reducible refine q_chF ?_
  | with_reducible refine q_ord ?_
  | with_reducible refine q_iStr0 ?_
  | with_reducible refine q_iStr ?_
  | with_reducible refine q_tDIn ?_
  | with_reducible refine q_tDNotIn ?_
  | with_reducible refine q_tDGet ?_
  | with_reducible refine q_tDGet2 ?_
  | with_reducible refine q_tDGet1 ?_
  | with_reducible refine q_tDSetd ?_
  | ((with_reducible apply q_dG2a); (focus ((repeat first | (with_reducible exact upd_same) | (with_reducible assumption) | (with_reducible apply upd_new (by assumption)) | (with_reducible apply upd_other (by first | assumption | exact Ne.symm (by assumption))) | (with_reducible refine' Kp.get (by assumption) ?_ (by first | assumption | exact Ne.symm (by assumption))) | (with_reducible apply Same.get (by assumption))); done)))
  | ((with_reducible apply q_dSda); (focus ((repeat first | (with_reducible exact upd_same) | (with_reducible assumption) | (with_reducible apply upd_new (by assumption)) | (with_reducible apply upd_other (by first | assumption | exact Ne.symm (by assumption))) | (with_reducible refine' Kp.get (by assumption) ?_ (by first | assumption | exact Ne.symm (by assumption))) | (with_reducible apply Same.get (by assumption))); done)))
  | with_reducible refine q_sDPut ?_
  | ((with_reducible apply q_dInS); (focus ((repeat first | (with_reducible exact upd_same) | (with_reducible assumption) | (with_reducible apply upd_new (by assumption)) | (with_reducible apply upd_other (by first | assumption | exact Ne.symm (by assumption))) | (with_reducible refine' Kp.get (by assumption) ?_ (by first | assumption | exact Ne.symm (by assumption))) | (with_reducible apply Same.get (by assumption))); done)))
  | ((with_reducible apply q_dNInS); (focus ((repeat first | (with_reducible exact upd_same) | (with_reducible assumption) | (with_reducible apply upd_new (by assumption)) | (with_reducible apply upd_other (by first | assumption | exact Ne.symm (by assumption))) | (with_reducible refine' Kp.get (by assumption) ?_ (by first | assumption | exact Ne.symm (by assumption))) | (with_reducible apply Same.get (by assumption))); done)))
  | ((with_reducible apply q_dInI); (focus ((repeat first | (with_reducible exact upd_same) | (with_reducible assumption) | (with_reducible apply upd_new (by assumption)) | (with_reducible apply upd_other (by first | assumption | exact Ne.symm (by assumption))) | (with_reducible refine' Kp.get (by assumption) ?_ (by first | assumption | exact Ne.symm (by assumption))) | (with_reducible apply Same.get (by assumption))); done)))
  | ((with_reducible apply q_dNInI); (focus ((repeat first | (with_reducible exact upd_same) | (with_reducible assumption) | (with_reducible apply upd_new (by assumption)) | (with_reducible apply upd_other (by first | assumption | exact Ne.symm (by assumption))) | (with_reducible refine' Kp.get (by assumption) ?_ (by first | assumption | exact Ne.symm (by assumption))) | (with_reducible apply Same.get (by assumption))); done)))
  | ((with_reducible apply q_bmL); (focus ((repeat first | (with_reducible exact upd_same) | (with_reducible assumption) | (with_reducible apply upd_new (by assumption)) | (with_reducible apply upd_other (by first | assumption | exact Ne.symm (by assumption))) | (with_reducible refine' Kp.get (by assumption) ?_ (by first | assumption | exact Ne.symm (by assumption))) | (with_reducible apply Same.get (by assumption))); done)))
  | ((with_reducible apply q_bmL0); (focus ((repeat first | (with_reducible exact upd_same) | (with_reducible assumption) | (with_reducible apply upd_new (by assumption)) | (with_reducible apply upd_other (by first | assumption | exact Ne.symm (by assumption))) | (with_reducible refine' Kp.get (by assumption) ?_ (by first | assumption | exact Ne.symm (by assumption))) | (with_reducible apply Same.get (by assumption))); done)))
  | ((with_reducible apply q_ixLt); (focus ((repeat first | (with_reducible exact upd_same) | (with_reducible assumption) | (with_reducible apply upd_new (by assumption)) | (with_reducible apply upd_other (by first | assumption | exact Ne.symm (by assumption))) | (with_reducible refine' Kp.get (by assumption) ?_ (by first | assumption | exact Ne.symm (by assumption))) | (with_reducible apply Same.get (by assumption))); done)); (focus (exact rfl)))
  | ((with_reducible apply q_ixTt); (focus ((repeat first | (with_reducible exact upd_same) | (with_reducible assumption) | (with_reducible apply upd_new (by assumption)) | (with_reducible apply upd_other (by first | assumption | exact Ne.symm (by assumption))) | (with_reducible refine' Kp.get (by assumption) ?_ (by first | assumption | exact Ne.symm (by assumption))) | (with_reducible apply Same.get (by assumption))); done)); (focus (exact rfl)))
  | ((with_reducible apply q_lenLt); (focus ((repeat first | (with_reducible exact upd_same) | (with_reducible assumption) | (with_reducible apply upd_new (by assumption)) | (with_reducible apply upd_other (by first | assumption | exact Ne.symm (by assumption))) | (with_reducible refine' Kp.get (by assumption) ?_ (by first | assumption | exact Ne.symm (by assumption))) | (with_reducible apply Same.get (by assumption))); done)))
  | ((with_reducible apply q_lenTt); (focus ((repeat first | (with_reducible exact upd_same) | (with_reducible assumption) | (with_reducible apply upd_new (by assumption)) | (with_reducible apply upd_other (by first | assumption | exact Ne.symm (by assumption))) | (with_reducible refine' Kp.get (by assumption) ?_ (by first | assumption | exact Ne.symm (by assumption))) | (with_reducible apply Same.get (by assumption))); done)))
  | ((with_reducible apply q_append); (focus ((repeat first | (with_reducible exact upd_same) | (with_reducible assumption) | (with_reducible apply upd_new (by assumption)) | (with_reducible apply upd_other (by first | assumption | exact Ne.symm (by assumption))) | (with_reducible refine' Kp.get (by assumption) ?_ (by first | assumption | exact Ne.symm (by assumption))) | (with_reducible apply Same.get (by assumption))); done)); (focus ((first | (exact Nat.lt_of_ble_eq_true rfl) | (simp only [List.length_append, List.length_cons, List.length_nil, List.length_map]; exact small1000 (by omega))))))
  | ((with_reducible apply q_setL); (focus ((repeat first | (with_reducible exact upd_same) | (with_reducible assumption) | (with_reducible apply upd_new (by assumption)) | (with_reducible apply upd_other (by first | assumption | exact Ne.symm (by assumption))) | (with_reducible refine' Kp.get (by assumption) ?_ (by first | assumption | exact Ne.symm (by assumption))) | (with_reducible apply Same.get (by assumption))); done)); (focus (exact rfl)))
  | with_reducible refine q_ifNT ?_
  | with_reducible refine q_ifNF ?_
  | with_reducible refine q_andNT ?_
  | with_reducible refine q_andNF ?_
  | with_reducible refine q_orNT ?_
  | with_reducible refine q_orNF ?_
  | with_reducible refine q_bKNT ?_
  | with_reducible refine q_bKNF ?_
  | with_reducible refine q_tNGet ?_
  | with_reducible refine q_tNIn ?_
  | with_reducible refine q_sNPut ?_
  | with_reducible refine q_sFldAug ?_
  | with_reducible refine q_sDAug ?_
  | with_reducible refine q_sDDel ?_
  | with_reducible refine q_forX ?_
  | with_reducible refine q_tMake ?_
  | ((with_reducible apply q_dG1a); (focus ((repeat first | (with_reducible exact upd_same) | (with_reducible assumption) | (with_reducible apply upd_new (by assumption)) | (with_reducible apply upd_other (by first | assumption | exact Ne.symm (by assumption))) | (with_reducible refine' Kp.get (by assumption) ?_ (by first | assumption | exact Ne.symm (by assumption))) | (with_reducible apply Same.get (by assumption))); done)))))
open TL
theorem all_rep : ∀ n : Nat, (List.replicate n true).all id = true
  | 0 => rfl
  | n + 1 => by rw [List.replicate_succ, List.all_cons, all_rep n]; rfl
section
variable {P : Program} {w : World} {K : PySem.W.Frag} {mg : Str → Option Value} {base : Heap}
theorem ok_check_growth (T : Txt K mg) : FnOk P w K mg base CX0 6 T.f_check_growth T.d_check_growth ["digests", "old_root", "old_size", "new_root", "new_size", "paper"] (sp_chg K T.C_Digests) := by
  refine T.F_check_growth.ok sc_check_growth (fun vs H Q E h => ?_) (fun cdv A outer s H vs Q E hr h => ?_)
  · obtain ⟨d, vl, nd, p, T, r0, s0, r1, s1, ws, rs, rfl, _⟩ := h; rfl
  · obtain ⟨d, vl, nd, p, TT, r0, s0, r1, s1, ws, rs, rfl, hD, hp, hR, hs1, hrl, hrb, hT, kF, k⟩ := h
    refine ⟨_, (pss_cons (ps_if (pt_not (pt_chain op_le op_le pe_int (pv 2) (pv 4))) (pss_one (ps_ret pe_bl)) pss_nil)
      (pss_cons (ps_set (i := 6) sc_check_growth.nd rfl (Or.inl rfl) (pe_call (ok_growth_parts T) (hr.mono (by decide)) (by rfl) T.g_growth_parts T.F_growth_parts.kp T.b_growth_parts .nil pass0 (pa_cons (pv 2) (pa_cons (pv 4) pa_nil))))
      (pss_cons (ps_if (PW.pt (pw_or (pt_cmpR (op_neD hr.units) (pe_lc (own := [("row", 8)]) (g := (gName 8)) (tt := tYes) (te := (tSl (rSlA K) (tVar 8) tNoPart (tPart (tC (.int 2))))) rfl sc_check_growth.nd (pi_tup (pv 5)) (blkOk_by (own := [("row", 8)]) (N := ["digests", "old_root", "old_size", "new_root", "new_size", "paper", "parts", "old_rows", "row"]) (sc := defScope s_check_growth) (by decide +kernel)) (fun _ _ _ _ _ => (pg_name (i := 8) sc_check_growth.nd rfl (Or.inl rfl))) (fun _ _ _ _ _ => pts_nil) (fun _ _ _ _ _ => (pe_slice sl_tupA (pv 8) po_none (po_some pe_int)))) (pv 6) (nomark _)) (pw_or1 (pt_not (pt_val (pe_callB (cr_all rfl) (by rfl) T.z_all boot_all (pa_cons (pe_lc (own := [("row", 8)]) (g := (gName 8)) (tt := tYes) (te := (tOp rEq (tCB (rLenQ K) (tCons (tVar 8) tNil)) (tC (.int 3)))) rfl sc_check_growth.nd (pi_tup (pv 5)) (blkOk_by (own := [("row", 8)]) (N := ["digests", "old_root", "old_size", "new_root", "new_size", "paper", "parts", "old_rows", "row"]) (sc := defScope s_check_growth) (by decide +kernel)) (fun _ _ _ _ _ => (pg_name (i := 8) sc_check_growth.nd rfl (Or.inl rfl))) (fun _ _ _ _ _ => pts_nil) (fun _ _ _ _ _ => (pe_cmpR op_eq (pe_callB cq_len (by rfl) T.z_len boot_len (pa_cons (pv 8) pa_nil)) pe_int (nomark _)))) pa_nil))))))) (pss_one (ps_ret pe_bl)) pss_nil)
      (pss_cons (ps_setLc (i := 7) (own := [("row", 8)]) (g := (gName 8)) (tt := (tTest (tOp (rI0 fun i j => .bl (decide (i < j))) (tOp (rIxT K) (tVar 8) (tC (.int 0))) (tVar 2)))) (te := (tVar 8)) rfl sc_check_growth.nd rfl rfl (sw_true rfl rfl rfl (by decide +kernel)) (pi_tup (pv 5)) (blkOk_by (own := [("row", 8)]) (N := ["digests", "old_root", "old_size", "new_root", "new_size", "paper", "parts", "old_rows", "row"]) (sc := defScope s_check_growth) (by decide +kernel)) (fun _ _ _ _ _ => (pg_name (i := 8) sc_check_growth.nd rfl (Or.inl rfl))) (fun _ _ _ _ _ => (pts_one (pt_cmpR op_lt (pe_ix ix_tup (pv 8) pe_int (fun _ _ => rfl)) (pv 2) (nomark _)))) (fun _ _ _ _ _ => (pv 8)))
      (pss_one (ps_ret (pe_and (pe_cmpR op_eq (pe_call (ok_joined T) (hr.mono (by decide)) (by rfl) T.g_joined T.F_joined.kp T.b_joined .nil pass0 (pa_cons (pv 0) (pa_cons (pv 7) pa_nil))) (pv 1) (nomark _)) (pe_one (pe_cmpR op_eq (pe_call (ok_joined T) (hr.mono (by decide)) (by rfl) T.g_joined T.F_joined.kp T.b_joined .nil pass0 (pa_cons (pv 0) (pa_cons (pv 5) pa_nil))) (pv 3) (nomark _)))))))))), ?_⟩
    (dsimp only [cxOf, Cx.nox, Cx.wish, L2.start, List.map, List.length, List.replicate, List.cons_append, List.nil_append, List.append_eq, Nat.reduceSub, Nat.reduceAdd])
    walk_at "my_rd"
    refine q_ch2 (fun h1 => ?_) (fun h1 => ?_)
    · have h1 := dec_t h1
      walk_at "my_rd"
      refine q_if2 (fun h2 => ?_) (fun h2 => ?_)
      · walk_at "my_rd"
        refine kF fun q => ?_
        rw [decide_eq_true q.2] at h2
        cases h2
      · have h2 : s0 ≤ s1 := by
          by_cases q : s0 ≤ s1
          · exact q
          · rw [decide_eq_false q] at h2; cases h2
        obtain ⟨o, rfl⟩ := Int.eq_ofNat_of_zero_le h1
        obtain ⟨n, rfl⟩ := Int.eq_ofNat_of_zero_le (show 0 ≤ s1 by omega)
        have hon : o ≤ n := by omega
        have hn20 : n ≤ 20 := by omega
        obtain ⟨kN, kY⟩ := k o n rfl rfl hon
        clear k kF
        have lsp := spans_len hon
        walk_at "my_rd"
        refine ⟨o, n, rfl, by omega, by omega, fun f H1 xs nf sm hf hP => ?_⟩
        have hD1 := hD.same sm
        have hp1 := sm _ _ hp
        have hR1 := hR.same sm
        have hlw := hR.len
        have lvs := hP.len
        walk_at "my_rd"
        refine q_lcT (sqT hp1) (fun D nD => ⟨fun j H2 => ∃ us : List V, Same H1 H2 ∧ H2 D = some (.lst us) ∧ RowsAt g2 H2 us ((rs.take j).map fun r => (r.1, r.2.1)), ⟨[], Same.new (Same.refl _) nD, upd_same, by rw [List.take_zero]; exact .nil⟩, fun j H2 _ ⟨_, s2, _⟩ => sqT (s2 _ _ hp1), ?_, ?_⟩)
        · rintro j v H2 hv ⟨us, s2, hDl, hU⟩
          obtain ⟨r, t, hr, rfl, ht⟩ := hR1.item hv
          have hjl : j < rs.length := (List.getElem?_eq_some_iff.mp hr).1
          have lus := hU.len
          rw [List.length_map, List.length_take] at lus
          walk_at "my_rd"
          refine ⟨rfl, ?_⟩
          walk_at "my_rd"
          refine q_slA (s2 _ _ ht) fun q H3 s3 g3 => ?_
          rw [show (2 : Int) = ((2 : Nat) : Int) from rfl, cut_take (by show 2 ≤ 3; decide)] at g3
          have g3 : H3 q = some (.tup (g2 (r.1, r.2.1))) := g3
          have hDl3 := s3 _ _ hDl
          have tp : ∀ b ys, H3 b = some (.tup ys) → upd H3 D (.lst (us ++ [.ref q])) b = some (.tup ys) := fun b ys q => upd_other (ne_of q hDl3 (by intro z; cases z)) q
          refine q_accK hDl3 (small1000 (by omega)) ⟨us ++ [.ref q], fun c o hc => upd_other (ne_of_none hc nD) (s3 _ _ (s2 _ _ hc)), upd_same, ?_⟩
          rw [List.take_add_one, hr, List.map_append]
          exact ((hU.same s3).mono tp).snoc (tp _ _ g3)
        · rintro H2 ⟨us, s2, hDl, hU⟩
          rw [List.take_of_length_le (by omega)] at hU
          walk_at "my_rd"
          refine q_neD (d := .list ((rs.map fun r => (r.1, r.2.1)).map dp2)) (e := .list (((spans o n).map fun q => ((q.1 : Int), (q.2 : Int))).map dp2)) (.lst (sqL hDl) (RowsAt.dp dp2_ok hU)) (.lst (sqL (s2 _ _ hf)) (RowsAt.dp dp2_ok ((hP.same s2).mapR (g := g2) (h := fun q : Nat × Nat => ((q.1 : Int), (q.2 : Int))) fun _ => rfl))) (pd_shapedL dp2_fine _).1 (pd_shapedL dp2_fine _).1 ?_
          rw [dp2s_eqv]
          have sA : Same H H2 := Same.trans sm s2
          clear hU hDl
          by_cases heq : rs.map (fun r => (r.1, r.2.1)) = (spans o n).map (fun q => ((q.1 : Int), (q.2 : Int)))
          · have kY := kY heq
            clear kN
            rw [decide_eq_true heq]
            walk_at "my_rd"
            refine q_lcT (sqT (s2 _ _ hp1)) (fun D3 nD3 => ⟨fun j H3 => Same H2 H3 ∧ H3 D3 = some (.lst ((List.replicate j true).map V.bl)), ⟨Same.new (Same.refl _) nD3, upd_same⟩, fun j H3 _ ⟨s3, _⟩ => sqT (s3 _ _ (s2 _ _ hp1)), ?_, ?_⟩)
            · rintro j v H3 hv ⟨s3, hDl⟩
              obtain ⟨r, t, hr, rfl, ht⟩ := hR1.item hv
              have hjl : j < rs.length := (List.getElem?_eq_some_iff.mp hr).1
              have ht3 := s3 _ _ (s2 _ _ ht)
              walk_at "my_rd"
              refine ⟨rfl, ?_⟩
              walk_at "my_rd"
              rw [show decide (((f3 r).length : Int) = 3) = true from rfl]
              refine q_accK hDl (small1000 (by simp; omega)) ⟨fun c o hc => upd_other (ne_of_none hc nD3) (s3 _ _ hc), ?_⟩
              rw [upd_same, List.replicate_succ', List.map_append]
              rfl
            · rintro H3 ⟨s3, hDl⟩
              walk_at "my_rd"
              refine q_all (sqL hDl) ?_
              rw [all_rep]
              walk_at "my_rd"
              have sB : Same H H3 := Same.trans sA s3
              have hp3 := s3 _ _ (s2 _ _ hp1)
              have hR3 := hR.same sB
              have hD3 := hD.same sB
              clear hDl s3 s2 hP hf hp1 hR1 hD1 sm sA
              refine q_lcT (sqT hp3) (fun D4 nD4 => ⟨fun j H4 => ∃ us : List V, Same H3 H4 ∧ H4 D4 = some (.lst us) ∧ RowsAt f3 H4 us ((rs.take j).filter fun r => decide (r.1 < (o : Int))), ⟨[], Same.new (Same.refl _) nD4, upd_same, by rw [List.take_zero]; exact .nil⟩, fun j H4 _ ⟨_, s4, _⟩ => sqT (s4 _ _ hp3), ?_, ?_⟩)
              · rintro j v H4 hv ⟨us, s4, hDl, hU⟩
                obtain ⟨r, t, hr, rfl, ht⟩ := hR3.item hv
                have hjl : j < rs.length := (List.getElem?_eq_some_iff.mp hr).1
                have ht4 := s4 _ _ ht
                have ht4' : H4 t = some (.tup [.int r.1, .int r.2.1, .int r.2.2]) := ht4
                have lus := hU.len
                have lf := List.length_filter_le (fun r : Row => decide (r.1 < (o : Int))) (rs.take j)
                rw [List.length_take] at lf
                walk_at "my_rd"
                refine ⟨rfl, ?_⟩
                walk_at "my_rd"
                have eF : (rs.take (j + 1)).filter (fun r => decide (r.1 < (o : Int))) = (rs.take j).filter (fun r => decide (r.1 < (o : Int))) ++ [r].filter (fun r => decide (r.1 < (o : Int))) := by
                  rw [List.take_add_one, hr, Option.toList, List.filter_append]
                refine q_keep2 (fun h => ?_) (fun h => ?_)
                · have tp : ∀ b ys, H4 b = some (.tup ys) → upd H4 D4 (.lst (us ++ [.ref t])) b = some (.tup ys) := fun b ys q => upd_other (ne_of q hDl (by intro z; cases z)) q
                  walk_at "my_rd"
                  refine q_accK hDl (small1000 (by omega)) ⟨us ++ [.ref t], fun c o hc => upd_other (ne_of_none hc nD4) (s4 _ _ hc), upd_same, ?_⟩
                  rw [eF, show [r].filter (fun r => decide (r.1 < (o : Int))) = [r] by simp [dec_t h]]
                  exact (hU.mono tp).snoc (tp _ _ ht4)
                · refine ⟨us, s4, hDl, ?_⟩
                  rw [eF, show [r].filter (fun r => decide (r.1 < (o : Int))) = [] by simpa using dec_f h, List.append_nil]
                  exact hU
              · rintro H4 ⟨us, s4, hDl, hU⟩
                rw [List.take_of_length_le (by omega), filter_wid hon heq] at hU
                have hD4 := hD3.same s4
                have hp4 := s4 _ _ hp3
                have hR4 := hR3.same s4
                have nDv : D4 ≠ vl := by obtain ⟨_, h, _⟩ := hD3.v; exact (ne_of_none h nD4).symm
                have kq4 : Kq vl nd H H4 := Kq.same (Same.trans sB s4)
                have szs : rs.map (fun r => r.2.1) = ((spans o n).map Prod.snd).map Int.ofNat := by
                  have := congrArg (List.map Prod.snd) heq
                  rw [List.map_map, List.map_map] at this
                  rw [List.map_map]
                  exact this
                have szo : (rs.take (wid o 30 0).length).map (fun r => r.2.1) = ((wid o 30 0).map Prod.snd).map Int.ofNat := by
                  rw [List.map_take, szs]
                  unfold spans
                  rw [List.map_append, List.map_append, List.take_left' (by simp)]
                have bd : ∀ z ∈ (spans o n).map Prod.snd, z ≤ 20 := by
                  intro z hz
                  obtain ⟨q, hq, rfl⟩ := List.mem_map.mp hz
                  have := spans_mem hon hq
                  omega
                have bdo : ∀ z ∈ (wid o 30 0).map Prod.snd, z ≤ 20 := fun z hz => bd z (by unfold spans; rw [List.map_append]; exact List.mem_append_left _ hz)
                have u1 := sum_le20 _ bd
                have u2 := sum_le20 _ bdo
                have l2 := wid_len (e := o) (f := 30) (s := 0)
                rw [List.length_map] at u1 u2
                walk_at "my_rd"
                refine ⟨d, vl, nd, D4, TT, us, _, (wid o 30 0).map Prod.snd, rfl, hD4, .inl hDl, nDv, hU, szo, fun r hr => hrb r (List.mem_of_mem_take hr), by omega, by rw [List.length_map]; omega, by omega, fun H5 T5 a pre5 le5 hD5 kq5 je5 => ?_⟩
                rw [List.length_map] at le5
                obtain ⟨_, hvl4, _⟩ := hD4.v
                have tp5 : ∀ b ys, H4 b = some (.tup ys) → H5 b = some (.tup ys) := fun b ys q => kq5 _ _ q (ne_of q hvl4 (by intro z; cases z)) (ne_of q hD4.n (by intro z; cases z))
                have hp5 := tp5 _ _ hp4
                have hR5 := hR4.mono tp5
                have npv : p ≠ vl := ne_of hp4 hvl4 (by intro z; cases z)
                walk_at "my_rd"
                refine q_andV2 (fun h => ?_) (fun h => ?_)
                · have h := dec_t h
                  walk_at "my_rd"
                  refine ⟨d, vl, nd, p, T5, ws, rs, (spans o n).map Prod.snd, rfl, hD5, .inr hp5, npv, hR5, szs, hrb, by omega, by rw [List.length_map]; omega, by omega, fun H6 T6 b pre6 le6 hD6 kq6 je6 => ?_⟩
                  rw [List.length_map] at le6
                  walk_at "my_rd"
                  exact (kY H6 T6 a (pre5.trans pre6) (by omega) hD6 (Kq.trans kq4 (Kq.trans kq5 kq6)) (je5.mono pre6)).2 b je6 h
                · have h := dec_f h
                  exact (kY H5 T5 a pre5 (by omega) hD5 (Kq.trans kq4 kq5) je5).1 h
          · rw [decide_eq_false heq]
            walk_at "my_rd"
            exact kN heq H2 (hD.same sA) (Kq.same sA)
    · have h1 := dec_f h1
      walk_at "my_rd"
      exact kF fun q => h1 q.1
end

local macro_rules | `(tactic| walk_at "my_rd") => `(tactic| (repeat first
  | with_reducible refine q_tCons ?_
  | ((with_reducible apply q_var); (focus (exact rfl)))
  | with_reducible refine q_c ?_
  | with_reducible refine q_nx ?_
  | with_reducible refine q_bK ?_
  | with_reducible refine q_call ?_
  | with_reducible refine q_callK ?_
  | with_reducible refine q_tNil ?_
  | with_reducible refine q_cb ?_
  | with_reducible refine q_seq ?_
  | with_reducible refine q_asg ?_
  | with_reducible refine q_gName ?_
  | with_reducible refine q_op ?_
  | with_reducible refine q_test ?_
  | with_reducible refine q_tB ?_
  | with_reducible refine q_ifS ?_
  | with_reducible refine q_ret ?_
  | with_reducible refine q_rt ?_
  | with_reducible refine q_next ?_
  | with_reducible refine q_ifF ?_
  | with_reducible refine q_ifT ?_
  | with_reducible refine q_drop ?_
  | with_reducible refine q_and ?_
  | with_reducible refine q_or ?_
  | with_reducible refine q_andT ?_
  | with_reducible refine q_andF ?_
  | with_reducible refine q_orF ?_
  | with_reducible refine q_orT ?_
  | with_reducible refine q_andV ?_
  | with_reducible refine q_andVT ?_
  | with_reducible refine q_andVF ?_
  | with_reducible refine q_orV ?_
  | with_reducible refine q_gCons ?_
  | with_reducible refine q_gNil ?_
  | with_reducible refine q_tup ?_
  | with_reducible refine q_lst ?_
  | with_reducible refine q_not ?_
  | with_reducible refine q_notKT ?_
  | with_reducible refine q_notKF ?_
  | with_reducible refine q_I0 ?_
  | with_reducible refine q_eqI ?_
  | with_reducible refine q_neI ?_
  | ((with_reducible refine q_I ?_ ?_); first | decide | omega | exact ⟨by omega, by omega⟩ | exact ⟨by decide, by decide⟩ | exact .inl ⟨by omega, by omega⟩ | exact .inr ⟨by omega, by omega⟩ | exact .inr ⟨by decide, by decide⟩)
  | with_reducible refine q_eqS ?_
  | with_reducible refine q_neS ?_
  | with_reducible refine q_brk ?_
  | with_reducible refine q_ct ?_
  | with_reducible refine q_bk ?_
  | with_reducible refine q_cn ?_
  | with_reducible refine q_retN ?_
  | with_reducible refine q_gSub ?_
  | with_reducible refine q_for ?_
  | with_reducible refine q_iList ?_
  | with_reducible refine q_iTup ?_
  | with_reducible refine q_iRng1 ?_
  | with_reducible refine q_notK ?_
  | with_reducible refine q_orVT ?_
  | with_reducible refine q_orVF ?_
  | with_reducible refine q_notV ?_
  | with_reducible refine q_notVK ?_
  | with_reducible refine q_ifE ?_
  | with_reducible refine q_ifET ?_
  | with_reducible refine q_ifEF ?_
  | with_reducible refine q_yes ?_
  | with_reducible refine q_un ?_
  | with_reducible refine q_rU ?_
  | with_reducible refine q_abs ?_
  | with_reducible refine q_int1 ?_
  | with_reducible refine q_bm ?_
  | with_reducible refine q_bm0 ?_
  | with_reducible refine q_lc ?_
  | with_reducible refine q_keepT ?_
  | with_reducible refine q_keepF ?_
  | ((with_reducible apply q_aug); (focus (exact rfl)))
  | with_reducible refine q_ipI ?_
  | with_reducible refine q_chain ?_
  | with_reducible refine q_pairC ?_
  | with_reducible refine q_pairsK ?_
  | with_reducible refine q_pairN ?_
  | with_reducible refine q_fld ?_
  | with_reducible refine q_sFld ?_
  | with_reducible refine q_meth ?_
  | with_reducible refine q_makeK ?_
  | with_reducible refine q_isBl ?_
  | with_reducible refine q_notBl ?_
  | with_reducible refine q_sl ?_
  | with_reducible refine q_noPart ?_
  | with_reducible refine q_part ?_
  | with_reducible refine q_partK ?_
  | ((with_reducible apply q_mulStr); (focus (decide +kernel)))
  | with_reducible refine q_chT ?_
  | with_reducible refine q_chF ?_
  | with_reducible refine q_ord ?_
  | with_reducible refine q_iStr0 ?_
  | with_reducible refine q_iStr ?_
  | with_reducible refine q_tDIn ?_
  | with_reducible refine q_tDNotIn ?_
  | with_reducible refine q_tDGet ?_
  | with_reducible refine q_tDGet2 ?_
  | with_reducible refine q_tDGet1 ?_
  | with_reducible refine q_tDSetd ?_
  | ((with_reducible apply q_dG2a); (focus ((repeat first | (with_reducible exact upd_same) | (with_reducible assumption) | (with_reducible apply upd_new (by assumption)) | (with_reducible apply upd_other (by first | assumption | exact Ne.symm (by assumption))) | (with_reducible refine' Kp.get (by assumption) ?_ (by first | assumption | exact Ne.symm (by assumption))) | (with_reducible apply Same.get (by assumption))); done)))
  | ((with_reducible apply q_dSda); (focus ((repeat first | (with_reducible exact upd_same) | (with_reducible assumption) | (with_reducible apply upd_new (by assumption)) | (with_reducible apply upd_other (by first | assumption | exact Ne.symm (by assumption))) | (with_reducible refine' Kp.get (by assumption) ?_ (by first | assumption | exact Ne.symm (by assumption))) | (with_reducible apply Same.get (by assumption))); done)))
  | with_reducible refine q_sDPut ?_
  | ((with_reducible apply q_dInS); (focus ((repeat first | (with_reducible exact upd_same) | (with_reducible assumption) | (with_reducible apply upd_new (by assumption)) | (with_reducible apply upd_other (by first | assumption | exact Ne.symm (by assumption))) | (with_reducible refine' Kp.get (by assumption) ?_ (by first | assumption | exact Ne.symm (by assumption))) | (with_reducible apply Same.get (by assumption))); done)))
  | ((with_reducible apply q_dNInS); (focus ((repeat first | (with_reducible exact upd_same) | (with_reducible assumption) | (with_reducible apply upd_new (by assumption)) | (with_reducible apply upd_other (by first | assumption | exact Ne.symm (by assumption))) | (with_reducible refine' Kp.get (by assumption) ?_ (by first | assumption | exact Ne.symm (by assumption))) | (with_reducible apply Same.get (by assumption))); done)))
  | ((with_reducible apply q_dInI); (focus ((repeat first | (with_reducible exact upd_same) | (with_reducible assumption) | (with_reducible apply upd_new (by assumption)) | (with_reducible apply upd_other (by first | assumption | exact Ne.symm (by assumption))) | (with_reducible refine' Kp.get (by assumption) ?_ (by first | assumption | exact Ne.symm (by assumption))) | (with_reducible apply Same.get (by assumption))); done)))
  | ((with_reducible apply q_dNInI); (focus ((repeat first | (with_reducible exact upd_same) | (with_reducible assumption) | (with_reducible apply upd_new (by assumption)) | (with_reducible apply upd_other (by first | assumption | exact Ne.symm (by assumption))) | (with_reducible refine' Kp.get (by assumption) ?_ (by first | assumption | exact Ne.symm (by assumption))) | (with_reducible apply Same.get (by assumption))); done)))
  | ((with_reducible apply q_bmL); (focus ((repeat first | (with_reducible exact upd_same) | (with_reducible assumption) | (with_reducible apply upd_new (by assumption)) | (with_reducible apply upd_other (by first | assumption | exact Ne.symm (by assumption))) | (with_reducible refine' Kp.get (by assumption) ?_ (by first | assumption | exact Ne.symm (by assumption))) | (with_reducible apply Same.get (by assumption))); done)))
  | ((with_reducible apply q_bmL0); (focus ((repeat first | (with_reducible exact upd_same) | (with_reducible assumption) | (with_reducible apply upd_new (by assumption)) | (with_reducible apply upd_other (by first | assumption | exact Ne.symm (by assumption))) | (with_reducible refine' Kp.get (by assumption) ?_ (by first | assumption | exact Ne.symm (by assumption))) | (with_reducible apply Same.get (by assumption))); done)))
  | ((with_reducible apply q_ixLt); (focus ((repeat first | (with_reducible exact upd_same) | (with_reducible assumption) | (with_reducible apply upd_new (by assumption)) | (with_reducible apply upd_other (by first | assumption | exact Ne.symm (by assumption))) | (with_reducible refine' Kp.get (by assumption) ?_ (by first | assumption | exact Ne.symm (by assumption))) | (with_reducible apply Same.get (by assumption))); done)); (focus (exact rfl)))
  | ((with_reducible apply q_ixTt); (focus ((repeat first | (with_reducible exact upd_same) | (with_reducible assumption) | (with_reducible apply upd_new (by assumption)) | (with_reducible apply upd_other (by first | assumption | exact Ne.symm (by assumption))) | (with_reducible refine' Kp.get (by assumption) ?_ (by first | assumption | exact Ne.symm (by assumption))) | (with_reducible apply Same.get (by assumption))); done)); (focus (exact rfl)))
  | ((with_reducible apply q_lenLt); (focus ((repeat first | (with_reducible exact upd_same) | (with_reducible assumption) | (with_reducible apply upd_new (by assumption)) | (with_reducible apply upd_other (by first | assumption | exact Ne.symm (by assumption))) | (with_reducible refine' Kp.get (by assumption) ?_ (by first | assumption | exact Ne.symm (by assumption))) | (with_reducible apply Same.get (by assumption))); done)))
  | ((with_reducible apply q_lenTt); (focus ((repeat first | (with_reducible exact upd_same) | (with_reducible assumption) | (with_reducible apply upd_new (by assumption)) | (with_reducible apply upd_other (by first | assumption | exact Ne.symm (by assumption))) | (with_reducible refine' Kp.get (by assumption) ?_ (by first | assumption | exact Ne.symm (by assumption))) | (with_reducible apply Same.get (by assumption))); done)))
  | ((with_reducible apply q_append); (focus ((repeat first | (with_reducible exact upd_same) | (with_reducible assumption) | (with_reducible apply upd_new (by assumption)) | (with_reducible apply upd_other (by first | assumption | exact Ne.symm (by assumption))) | (with_reducible refine' Kp.get (by assumption) ?_ (by first | assumption | exact Ne.symm (by assumption))) | (with_reducible apply Same.get (by assumption))); done)); (focus ((first | (exact Nat.lt_of_ble_eq_true rfl) | (simp only [List.length_append, List.length_cons, List.length_nil, List.length_map]; exact small1000 (by omega))))))
  | ((with_reducible apply q_setL); (focus ((repeat first | (with_reducible exact upd_same) | (with_reducible assumption) | (with_reducible apply upd_new (by assumption)) | (with_reducible apply upd_other (by first | assumption | exact Ne.symm (by assumption))) | (with_reducible refine' Kp.get (by assumption) ?_ (by first | assumption | exact Ne.symm (by assumption))) | (with_reducible apply Same.get (by assumption))); done)); (focus (exact rfl)))
  | with_reducible refine q_ifNT ?_
  | with_reducible refine q_ifNF ?_
  | with_reducible refine q_andNT ?_
  | with_reducible refine q_andNF ?_
  | with_reducible refine q_orNT ?_
  | with_reducible refine q_orNF ?_
  | with_reducible refine q_bKNT ?_
  | with_reducible refine q_bKNF ?_
  | with_reducible refine q_tNGet ?_
  | with_reducible refine q_tNIn ?_
  | with_reducible refine q_sNPut ?_
  | with_reducible refine q_sFldAug ?_
  | with_reducible refine q_sDAug ?_
  | with_reducible refine q_sDDel ?_
  | with_reducible refine q_forX ?_
  | with_reducible refine q_tMake ?_
  | ((with_reducible apply q_dG1a); (focus ((repeat first | (with_reducible exact upd_same) | (with_reducible assumption) | (with_reducible apply upd_new (by assumption)) | (with_reducible apply upd_other (by first | assumption | exact Ne.symm (by assumption))) | (with_reducible refine' Kp.get (by assumption) ?_ (by first | assumption | exact Ne.symm (by assumption))) | (with_reducible apply Same.get (by assumption))); done)))))
open TL
theorem ints_all (ns : List Int) : PyData.canLayAll0 (ns.map PyData.int) = true ∧ PyData.depthAll (ns.map PyData.int) = 0 := by
  induction ns with
  | nil => exact ⟨by simp [PyData.canLayAll0], by simp [PyData.depthAll]⟩
  | cons x r ih => exact ⟨by simp [PyData.canLayAll0, PyData.canLay0, ih.1], by simp [PyData.depthAll, PyData.depth, ih.2]⟩
theorem ints_lay (ns : List Int) : (PyData.list (ns.map PyData.int)).canLay0 = true := by
  simp only [PyData.canLay0]
  exact (ints_all ns).1
theorem ints_shaped (ns : List Int) : SeqAt.shaped (.list (ns.map PyData.int)) = true := by
  show ((PyData.list (ns.map PyData.int)).canLay0 && decide ((PyData.list (ns.map PyData.int)).depth ≤ 64)) = true
  rw [ints_lay]
  simp [PyData.depth, (ints_all ns).2]
theorem ints_dp {K : PySem.W.Frag} {H : Hp} : ∀ ns : List Int, DpAll K H (ns.map V.int) (ns.map PyData.int)
  | [] => .nil
  | x :: r => .cons (.int x) (ints_dp r)

/-! for the laws of trees -/
theorem q_join {D : Ends} {t u : TS} {σ : L2.St} {c : Bool} {H : Hp} (J : L2.St → Hp → Prop) (hJ : ∀ σ H, J σ H → D.nx σ H) (h : ∀ N : L2.St → Hp → Prop, (∀ σ H, J σ H → N σ H) → ifK { D with nx := N } t u σ c H) : ifK D t u σ c H := h D.nx hJ
theorem DigAt.next {C : Addr} {H H' : Hp} {d vl nd p l : Addr} {T : List NestedKey} (h : DigAt C H d vl nd T) (kp : Kp p H H') (pot : PotAt H p l) (n : vl ≠ p) : DigAt C H' d vl nd T := by
  obtain ⟨_, _, _, _, hp, _⟩ := pot
  obtain ⟨dx, z⟩ := h.o
  obtain ⟨vs, v1, v2⟩ := h.v
  have tp : ∀ b ys, H b = some (.tup ys) → H' b = some (.tup ys) := fun b ys q => kp.get q (ne_of q hp (by intro z; cases z))
  exact ⟨⟨dx, kp.get z (ne_of z hp (by intro z; cases z))⟩, ⟨vs, kp.get v1 n, NVs.mono tp v2⟩, kp.get h.n (ne_of h.n hp (by intro z; cases z)), h.ok, h.un⟩
theorem ints_eqvA : ∀ a b : List Int, PyData.eqvAll (a.map PyData.int) (b.map PyData.int) = decide (a = b)
  | [], [] => by simp [PyData.eqvAll]
  | [], _ :: _ => by simp [PyData.eqvAll]
  | _ :: _, [] => by simp [PyData.eqvAll]
  | x :: xs, y :: ys => by
    simp only [List.map_cons, PyData.eqvAll, PyData.eqv]
    rw [ints_eqvA xs ys]
    by_cases h : x = y <;> by_cases h2 : xs = ys <;> simp [h, h2]
theorem ints_eqv (a b : List Int) : PyData.eqv (.list (a.map PyData.int)) (.list (b.map PyData.int)) = decide (a = b) := by
  simp only [PyData.eqv]
  exact ints_eqvA a b
def spLaw (K : PySem.W.Frag) : Sp := fun vs H Q _ => ∃ (a : Addr) (ns : List Int), vs = [.ref a] ∧ SqL K H a (ns.map V.int) ∧ ns.length ≤ 63 ∧ ∀ H', Q (.bl true) H'
structure LRt (C p l d vl nd : Addr) (H : Hp) : Prop where
  pot : PotAt H p l
  dg : DigAt C H d vl nd []
theorem LRt.new {C p l d vl nd a : Addr} {H : Hp} {o : HO} (h : LRt C p l d vl nd H) (n : H a = none) : LRt C p l d vl nd (upd H a o) := ⟨h.pot.new n, h.dg.same (Same.new (Same.refl _) n)⟩
theorem LRt.next {C p l d vl nd : Addr} {H H' : Hp} (h : LRt C p l d vl nd H) (n : vl ≠ p) (pot : PotAt H' p l) (kp : Kp p H H') : LRt C p l d vl nd H' := ⟨pot, h.dg.next kp h.pot n⟩

/-! what the law keeps -/
structure LP (C p l d vl nd oa : Addr) (us : List Int) (r0 : Nat) (T : List NestedKey) (H : Hp) : Prop where
  pot : PotAt H p l
  dg : DigAt C H d vl nd T
  rt : Rt T us r0
  ha : H oa = some (.lst (us.map V.int))
  n1 : p ≠ vl
  n2 : l ≠ vl
  n3 : oa ≠ vl
  n4 : oa ≠ p
section
variable {C p l d vl nd oa pa : Addr} {us os0 : List Int} {r0 i N : Nat} {T T' : List NestedKey} {H H' : Hp}
theorem PotAt.kq {kvs : List (Key × V)} (h : PotAt H p l) (kq : Kq vl nd H H') (n1 : p ≠ vl) (n2 : l ≠ vl) (hn : H nd = some (.dK kvs)) : PotAt H' p l := by
  obtain ⟨ns, a, c, s, h1, h2, r⟩ := h
  exact ⟨ns, a, c, s, kq _ _ h1 n1 (ne_of h1 hn (by intro z; cases z)), kq _ _ h2 n2 (ne_of h2 hn (by intro z; cases z)), r⟩
theorem LP.kq (h : LP C p l d vl nd oa us r0 T H) (kq : Kq vl nd H H') (dg : DigAt C H' d vl nd T') (pre : T <+: T') : LP C p l d vl nd oa us r0 T' H' := by
  obtain ⟨⟨ns, a, c, s, h1, h2, r⟩, hd, rt, ha, n1, n2, n3, n4⟩ := h
  exact ⟨⟨ns, a, c, s, kq _ _ h1 n1 (ne_of h1 hd.n (by intro z; cases z)), kq _ _ h2 n2 (ne_of h2 hd.n (by intro z; cases z)), r⟩, dg, rt.mono pre, kq _ _ ha n3 (ne_of ha hd.n (by intro z; cases z)), n1, n2, n3, n4⟩
theorem LP.same (h : LP C p l d vl nd oa us r0 T H) (s : Same H H') : LP C p l d vl nd oa us r0 T H' := ⟨h.pot.same s, h.dg.same s, h.rt, s _ _ h.ha, h.n1, h.n2, h.n3, h.n4⟩
theorem LP.next (h : LP C p l d vl nd oa us r0 T H) (pot : PotAt H' p l) (kp : Kp p H H') : LP C p l d vl nd oa us r0 T H' := ⟨pot, h.dg.next kp h.pot h.n1.symm, h.rt, kp.get h.ha h.n4, h.n1, h.n2, h.n3, h.n4⟩
theorem LP.tup (h : LP C p l d vl nd oa us r0 T H) {q : Addr} {ys : List V} (hq : H q = some (.tup ys)) (kq : Kq vl nd H H') : H' q = some (.tup ys) := by
  obtain ⟨_, hv, _⟩ := h.dg.v
  exact kq _ _ hq (ne_of hq hv (by intro z; cases z)) (ne_of hq h.dg.n (by intro z; cases z))
end

/-! rows and roots -/
def Fits (sp : List (Nat × Nat)) : Tm → Nat → Nat → Bool
  | .lf k, s, e => decide (s < e) && decide (sp[k]? = some (s, e - s))
  | .nd a b, s, e => decide (s + 2 ≤ e) && (Fits sp a s (s + mid (e - s)) && Fits sp b (s + mid (e - s)) e)
def fitO (sp : List (Nat × Nat)) (n : Nat) : Option Tm → Bool
  | none => decide (n = 0)
  | some t => Fits sp t 0 n && (List.range sp.length).all fun k => (lvs t).contains k
theorem fits_all : ∀ n < 21, ∀ o < 21, o ≤ n → fitO (spans o n) n (jend (jall ((spans o n).map Prod.snd) 0 [])) = true := by decide +kernel
theorem fits_old : ∀ o < 21, fitO (wid o 30 0) o (jend (jall ((wid o 30 0).map Prod.snd) 0 [])) = true := by decide +kernel
theorem GR.at' {T : List NestedKey} {xs : List Int} {sp : List (Nat × Nat)} {rs : List Row} (g : GR T xs sp rs) : ∀ {k : Nat} {p : Nat × Nat}, sp[k]? = some p → ∃ i : Nat, rs[k]? = some (rowOf p i) ∧ Rt T (seg xs p.1 (p.1 + p.2)) i := by
  induction g with
  | nil => intro k p h; cases h
  | cons r _ ih =>
    intro k p h
    cases k with
    | zero =>
      obtain rfl := Option.some.inj h
      exact ⟨_, rfl, r⟩
    | succ k => exact ih (k := k) h
theorem GR.pre {T : List NestedKey} {xs : List Int} : ∀ {sp tp : List (Nat × Nat)} {rs : List Row}, GR T xs (sp ++ tp) rs → GR T xs sp (rs.take sp.length)
  | [], _, _, _ => by rw [List.length_nil, List.take_zero]; exact .nil
  | _ :: sp, _, _, .cons r g => .cons r (GR.pre g)
theorem GR.two {T : List NestedKey} {xs : List Int} {sp : List (Nat × Nat)} {rs : List Row} (g : GR T xs sp rs) : rs.map (fun r => (r.1, r.2.1)) = sp.map (fun q => ((q.1 : Int), (q.2 : Int))) := by
  induction g with
  | nil => rfl
  | cons _ _ ih => rw [List.map_cons, List.map_cons, ih]; rfl
theorem GR.lt {T : List NestedKey} {xs : List Int} {sp : List (Nat × Nat)} {rs : List Row} (g : GR T xs sp rs) : ∀ r ∈ rs, r.2.2.natAbs < T.length := by
  induction g with
  | nil => simp
  | cons r _ ih =>
    intro q hq
    rcases List.mem_cons.mp hq with rfl | hq
    · exact r.at_
    · exact ih q hq
theorem seg_all (xs : List Int) : seg xs 0 xs.length = xs := by
  unfold seg
  simp
theorem seg_pre (xs : List Int) (o : Nat) : seg xs 0 o = xs.take o := by
  unfold seg
  simp
theorem ev_to {T : List NestedKey} (hu : T.Nodup) {xs : List Int} {sp : List (Nat × Nat)} {rs : List Row} (g : GR T xs sp rs) : ∀ {t : Tm} {s e i : Nat}, Fits sp t s e = true → e ≤ xs.length → Rt T (seg xs s e) i → Ev T (rs.map fun r => r.2.2) t (i : Int)
  | .lf k, s, e, i, h, he, hr => by
    have h : (decide (s < e) && decide (sp[k]? = some (s, e - s))) = true := h
    rw [Bool.and_eq_true, decide_eq_true_eq, decide_eq_true_eq] at h
    obtain ⟨i', hk, r'⟩ := g.at' h.2
    rw [show s + (e - s) = e by omega] at r'
    obtain rfl := hr.fn hu r'
    show (rs.map fun r => r.2.2)[k]? = _
    rw [List.getElem?_map, hk]
    rfl
  | .nd a b, s, e, i, h, he, hr => by
    have h : (decide (s + 2 ≤ e) && (Fits sp a s (s + mid (e - s)) && Fits sp b (s + mid (e - s)) e)) = true := h
    rw [Bool.and_eq_true, Bool.and_eq_true, decide_eq_true_eq] at h
    have lx := seg_len (xs := xs) (s := s) he
    obtain ⟨ys, hys⟩ : ∃ ys, ys = seg xs s e := ⟨_, rfl⟩
    rw [← hys] at hr lx
    cases hr with
    | empty _ => simp at lx; omega
    | leaf _ => simp at lx; omega
    | @node _ l r _ hl r1 r2 hk =>
      rw [lx, hys] at r1 r2
      by_cases h64 : e - s ≤ 64
      · obtain ⟨m1, m2, _⟩ := mid_ok (n := e - s) (by omega) h64
        rw [seg_take (by omega)] at r1
        rw [seg_drop] at r2
        exact ⟨l, r, ev_to hu g h.2.1 (by omega) r1, ev_to hu g h.2.2 he r2, i, rfl, hk⟩
      · have m2 : mid (e - s) = 32 := by unfold mid; rw [if_pos (by omega)]
        rw [seg_take (by omega)] at r1
        rw [seg_drop] at r2
        exact ⟨l, r, ev_to hu g h.2.1 (by omega) r1, ev_to hu g h.2.2 he r2, i, rfl, hk⟩
theorem ev_of {T : List NestedKey} {xs : List Int} {sp : List (Nat × Nat)} {rs : List Row} (g : GR T xs sp rs) : ∀ {t : Tm} {s e : Nat} {r : Int}, Fits sp t s e = true → e ≤ xs.length → e ≤ 64 → Ev T (rs.map fun r => r.2.2) t r → ∃ i : Nat, r = (i : Int) ∧ Rt T (seg xs s e) i
  | .lf k, s, e, r, h, he, h64, hr => by
    have h : (decide (s < e) && decide (sp[k]? = some (s, e - s))) = true := h
    rw [Bool.and_eq_true, decide_eq_true_eq, decide_eq_true_eq] at h
    obtain ⟨i', hk, r'⟩ := g.at' h.2
    rw [show s + (e - s) = e by omega] at r'
    have hr : (rs.map fun r => r.2.2)[k]? = some r := hr
    rw [List.getElem?_map, hk] at hr
    exact ⟨i', (Option.some.inj hr).symm, r'⟩
  | .nd a b, s, e, r, h, he, h64, hr => by
    have h : (decide (s + 2 ≤ e) && (Fits sp a s (s + mid (e - s)) && Fits sp b (s + mid (e - s)) e)) = true := h
    rw [Bool.and_eq_true, Bool.and_eq_true, decide_eq_true_eq] at h
    have lx := seg_len (xs := xs) (s := s) he
    obtain ⟨m1, m2, _⟩ := mid_ok (n := e - s) (by omega) (by omega)
    obtain ⟨x, y, e1, e2, n, rfl, hk⟩ := hr
    obtain ⟨l, rfl, r1⟩ := ev_of g h.2.1 (by omega) (by omega) e1
    obtain ⟨r, rfl, r2⟩ := ev_of g h.2.2 he h64 e2
    refine ⟨n, rfl, .node (l := l) (r := r) (by omega) ?_ ?_ hk⟩
    · rw [lx, seg_take (by omega)]; exact r1
    · rw [lx, seg_drop]; exact r2
theorem je_to {T : List NestedKey} (hu : T.Nodup) {xs : List Int} {sp : List (Nat × Nat)} {rs : List Row} {n i : Nat} {o : Option Tm} (g : GR T xs sp rs) (hf : fitO sp n o = true) (he : n ≤ xs.length) (hr : Rt T (seg xs 0 n) i) : JE T (rs.map fun r => r.2.2) o (i : Int) := by
  cases o with
  | none =>
    obtain rfl := of_decide_eq_true (show decide (n = 0) = true from hf)
    rw [seg_pre, List.take_zero] at hr
    cases hr with
    | empty e => exact ⟨i, rfl, e⟩
    | node h _ _ _ => simp at h
  | some t =>
    have hf : (Fits sp t 0 n && _) = true := hf
    rw [Bool.and_eq_true] at hf
    exact ev_to hu g hf.1 he hr
theorem je_of {T : List NestedKey} {xs : List Int} {sp : List (Nat × Nat)} {rs : List Row} {n : Nat} {r : Int} {o : Option Tm} (g : GR T xs sp rs) (hf : fitO sp n o = true) (he : n ≤ xs.length) (h64 : n ≤ 64) (hr : JE T (rs.map fun r => r.2.2) o r) : ∃ i : Nat, r = (i : Int) ∧ Rt T (seg xs 0 n) i := by
  cases o with
  | none =>
    obtain rfl := of_decide_eq_true (show decide (n = 0) = true from hf)
    obtain ⟨i, rfl, e⟩ := hr
    refine ⟨i, rfl, ?_⟩
    rw [seg_pre, List.take_zero]
    exact .empty e
  | some t =>
    have hf : (Fits sp t 0 n && _) = true := hf
    rw [Bool.and_eq_true] at hf
    exact ev_of g hf.1 he h64 hr
theorem je_inj {T : List NestedKey} {sp : List (Nat × Nat)} {n k : Nat} {o : Option Tm} {env env' : List Int} {r : Int} (hf : fitO sp n o = true) (hk : k < sp.length) (hn : sp.length ≤ n) (h1 : JE T env o r) (h2 : JE T env' o r) : env[k]? = env'[k]? := by
  cases o with
  | none =>
    obtain rfl := of_decide_eq_true (show decide (n = 0) = true from hf)
    omega
  | some t =>
    have hf : (Fits sp t 0 n && (List.range sp.length).all fun k => (lvs t).contains k) = true := hf
    rw [Bool.and_eq_true, List.all_eq_true] at hf
    have := hf.2 k (List.mem_range.mpr hk)
    exact Ev.inj h1 h2 k (by simpa using this)
/-! the law's own spans -/
section
variable {P : Program} {w : World} {K : PySem.W.Frag} {mg : Str → Option Value} {base : Heap}
theorem ok_L_spans (T : Txt K mg) : FnOk P w K mg base CX0 1 T.f_L_spans T.d_L_spans ["low", "high"] sp_wid := by
  refine T.F_L_spans.ok sc_L_spans (fun vs H Q E h => ?_) (fun cdv A outer s H vs Q E hr h => ?_)
  · obtain ⟨n, i, rfl, _⟩ := h; rfl
  · obtain ⟨s0, e, rfl, h30, k⟩ := h
    refine ⟨_, (pss_cons (ps_set (i := 2) sc_L_spans.nd rfl (Or.inl rfl) (pe_lst pa_nil))
      (pss_cons (ps_for PassesOwn.never rfl (pi_range1 (by rfl) T.z_range (pa_cons pe_int pa_nil)) (pg_name (i := 3) sc_L_spans.nd rfl (Or.inl rfl))
        (pss_one (ps_if (pt_cmpR op_lt (pv 0) (pv 1) (nomark _)) (pss_cons (ps_set (i := 4) sc_L_spans.nd rfl (Or.inl rfl) pe_int)
      (pss_cons (ps_for PassesOwn.never rfl (pi_range1 (by rfl) T.z_range (pa_cons pe_int pa_nil)) (pg_name (i := 5) sc_L_spans.nd rfl (Or.inl rfl))
        (pss_one (ps_if (PW.pt (pw_and (pt_cmpR op_eq (pe_op op_mod (pe_callTy cq_int1 (by rfl) T.z_int boot_int (pa_cons (pv 0) pa_nil)) (pe_op op_mul pe_int (pv 4))) pe_int (nomark _)) (pw_and1 (pt_cmpR op_le (pe_op op_add (pv 0) (pe_op op_mul pe_int (pv 4))) (pv 1) (nomark _))))) (pss_one (ps_set (i := 4) sc_L_spans.nd rfl (Or.inl rfl) (pe_op op_mul pe_int (pv 4)))) pss_nil)))
      (pss_cons (ps_expr (pe_bm PySem.F.plainAttrs_list PySem.F.slot_list_append PySem.F.type_list_append mt_append (pv 2) (pa_cons (pe_tup (pa_cons (pv 0) (pa_cons (pv 4) pa_nil))) pa_nil)))
      (pss_one (ps_set (i := 0) sc_L_spans.nd rfl (Or.inl rfl) (pe_op op_add (pv 0) (pv 4))))))) pss_nil)))
      (pss_one (ps_ret (pv 2))))), ?_⟩
    (dsimp only [cxOf, Cx.nox, Cx.wish, L2.start, List.map, List.length, List.replicate, List.cons_append, List.nil_append, List.append_eq, Nat.reduceSub, Nat.reduceAdd])
    walk_at "my_rd"
    refine q_lstK (Nat.le_of_ble_eq_true rfl) fun f nf => ?_
    have sm0 : Same H (upd H f (.lst [])) := Same.new (Same.refl _) nf
    have hf0 : upd H f (.lst []) f = some (.lst []) := upd_same
    generalize upd H f (.lst []) = H0 at sm0 hf0
    walk_at "my_rd"
    refine q_forR ⟨by decide, by decide⟩ (fun i σ H' => ∃ (s : Nat) (xs : List V) (acc : List (Nat × Nat)) (v3 v4 v5 : Option V), σ = [some (.int (s : Nat)), some (.int (e : Nat)), some (.ref f), v3, v4, v5] ∧ Same H H' ∧ H' f = some (.lst xs) ∧ RowsAt f2 H' xs acc ∧ acc.length ≤ i ∧ acc ++ wid e (30 - i) s = wid e 30 s0)
      ⟨s0, [], [], _, _, _, rfl, sm0, hf0, .nil, by simp, rfl⟩ ?_ ?_
    · rintro i σ H' hi ⟨s, xs, acc, v3, v4, v5, rfl, sm, hf, hR, hal, hw⟩
      walk_at "my_rd"
      refine q_if2 (fun h => ?_) (fun h => ?_)
      · have h := dec_t h
        rw [show 30 - i = (29 - i) + 1 by omega, wid_t (by omega)] at hw
        walk_at "my_rd"
        refine q_forR ⟨by decide, by decide⟩ (fun j σ H2 => H2 = H' ∧ ∃ (z : Nat) (v5 : Option V), σ = [some (.int (s : Nat)), some (.int (e : Nat)), some (.ref f), some (.int (i : Nat)), some (.int (z : Nat)), v5] ∧ 1 ≤ z ∧ z ≤ 2 ^ j ∧ s + z ≤ e ∧ gsz s e (6 - j) z = gsz s e 6 1)
          ⟨rfl, 1, _, rfl, by omega, by omega, by omega, rfl⟩ ?_ ?_
        · rintro j σ H2 hj ⟨rfl, z, v5, rfl, hz1, hzj, hsz, hG⟩
          rw [show 6 - j = (5 - j) + 1 by omega] at hG
          have hz64 : z ≤ 64 := Nat.le_trans hzj (Nat.pow_le_pow_right (by omega) (show j ≤ 6 by omega))
          walk_at "my_rd"
          rw [mod_nat]
          refine q_and2 (fun h1 => ?_) (fun h1 => ?_)
          · have h1 := dec_t h1
            walk_at "my_rd"
            refine q_if2 (fun h2 => ?_) (fun h2 => ?_)
            · have h2 := dec_t h2
              rw [gsz_t (by omega)] at hG
              walk_at "my_rd"
              exact ⟨rfl, 2 * z, _, rfl, by omega, by rw [Nat.pow_succ]; omega, by omega, by rw [show 6 - (j + 1) = 5 - j by omega]; exact hG⟩
            · have h2 := dec_f h2
              rw [gsz_f (by omega)] at hG
              walk_at "my_rd"
              exact ⟨rfl, z, _, rfl, by omega, by rw [Nat.pow_succ]; omega, by omega, by rw [gsz_f (by omega)]; exact hG⟩
          · have h1 := dec_f h1
            rw [gsz_f (by omega)] at hG
            walk_at "my_rd"
            exact ⟨rfl, z, _, rfl, by omega, by rw [Nat.pow_succ]; omega, by omega, by rw [gsz_f (by omega)]; exact hG⟩
        · rintro σ H2 ⟨rfl, z, v5, rfl, hz1, hzj, hsz, hG⟩
          have hG : z = gsz s e 6 1 := hG
          rw [← hG] at hw
          walk_at "my_rd"
          refine q_tupK (Nat.le_of_ble_eq_true rfl) fun t nt => ?_
          have smt : Same H2 (upd H2 t (.tup [.int (s : Nat), .int (z : Nat)])) := Same.new (Same.refl _) nt
          have ht : upd H2 t (.tup [.int (s : Nat), .int (z : Nat)]) t = some (.tup (f2 (s, z))) := upd_same
          generalize upd H2 t (.tup [.int (s : Nat), .int (z : Nat)]) = G at smt ht
          have hfG := smt _ _ hf
          have hRG := hR.same smt
          have lx := hR.len
          walk_at "my_rd"
          refine q_append hfG (small1000 (by omega)) ?_
          walk_at "my_rd"
          refine ⟨s + z, xs ++ [.ref t], acc ++ [(s, z)], _, _, _, rfl, fun b o q => upd_other (ne_of_none q nf) ((sm.trans smt) _ _ q), upd_same, ?_, ?_, ?_⟩
          · have hfo : ∀ b ys, G b = some (.tup ys) → upd G f (.lst (xs ++ [.ref t])) b = some (.tup ys) := fun b ys q => upd_other (ne_of q hfG (by intro z; cases z)) q
            exact (hRG.mono hfo).snoc (hfo _ _ ht)
          · rw [List.length_append]; show acc.length + 1 ≤ i + 1; omega
          · rw [List.append_assoc, show 30 - (i + 1) = 29 - i by omega]; exact hw
      · have h := dec_f h
        rw [wid_f (by omega)] at hw
        walk_at "my_rd"
        exact ⟨s, xs, acc, _, _, _, rfl, sm, hf, hR, by omega, by rw [wid_f (by omega)]; exact hw⟩
    · rintro σ H' ⟨s, xs, acc, v3, v4, v5, rfl, sm, hf, hR, hal, hw⟩
      have hw : acc ++ [] = wid e 30 s0 := hw
      rw [List.append_nil] at hw
      subst hw
      walk_at "my_rd"
      exact k f _ _ nf sm hf hR
end
/-! the law's own refusal -/
def sp_lrefg (K : PySem.W.Frag) (C : Addr) : Sp := fun vs H Q _ => ∃ (d vl nd a : Addr) (T : List NestedKey) (xs : List Int) (i : Int), vs = [.ref d, .ref a, .int i] ∧ DigAt C H d vl nd T ∧ H a = some (.lst (xs.map V.int)) ∧ a ≠ vl ∧ xs.length ≤ 20 ∧
  (∀ x ∈ xs, 0 ≤ x ∧ x ≤ 4) ∧ T.length ≤ 50000 ∧ ¬ (0 ≤ i ∧ i ≤ xs.length) ∧ Q (.bl true) H
section
variable {P : Program} {w : World} {K : PySem.W.Frag} {mg : Str → Option Value} {base : Heap}
theorem ok_L_refused (T : Txt K mg) : FnOk P w K mg base CX0 12 T.f_L_refused T.d_L_refused ["digests", "leaves", "size"] (sp_lrefg K T.C_Digests) := by
  refine T.F_L_refused.ok sc_L_refused (fun vs H Q E h => ?_) (fun cdv A outer s H vs Q E hr h => ?_)
  · obtain ⟨d, vl, nd, a, T, xs, i, rfl, _⟩ := h; rfl
  · obtain ⟨d, vl, nd, a, TT, xs, i, rfl, hD, ha, hav, hl, hx, hT, hi, k⟩ := h
    refine ⟨_, (pss_cons (ps_try_as (i := 3) rfl rfl sc_L_refused.nd rfl rfl ⟨rfl, by decide, .inl T.g_BridgeError⟩ takes0 (fun W pn xe tk _ => (pss_one (ps_expr (pe_callS (ok_growth_paper T) (hr.mono (by decide)) (by rfl) T.g_growth_paper T.F_growth_paper.kp T.b_growth_paper (fun σ => passAt tk σ) (pa_cons (pv 0) (pa_cons (pv 1) (pa_cons (pv 2) pa_nil)))))))
      (fun a oe cls d pn hz hf => (pss_cls (C := T.C_InvalidArgument) hz fun hz => (pss_one (ps_ret (pe_callB (call_isE (T.ec_InvalidArgument) hz hf) (by rfl) T.z_isinstance boot_isinstance (pa_cons (pv 3) (pa_cons (pe_glob (v := .ref T.C_InvalidArgument) (by rfl) T.g_InvalidArgument rfl) pa_nil))))))))
      (pss_one (ps_ret pe_bl))), ?_⟩
    (dsimp only [cxOf, Cx.nox, Cx.wish, L2.start, List.map, List.length, List.replicate, List.cons_append, List.nil_append, List.append_eq, Nat.reduceSub, Nat.reduceAdd])
    walk_at "my_rd"
    refine q_callS ?_
    walk_at "my_rd"
    refine ⟨d, vl, nd, a, TT, xs, i, rfl, hD, ha, hav, hl, hx, hT, fun _ => ⟨true, T.ex_InvalidArgument, fun _ b hb => ⟨⟨rfl, rfl⟩, ?_⟩, fun q => nomatch q⟩, fun n H' T' t ws rs e1 e2 => absurd ⟨by omega, by omega⟩ hi⟩
    walk_at "my_rd"
    refine q_isE T.hi_InvalidArgument ?_
    walk_at "my_rd"
    exact k
end

local macro_rules | `(tactic| walk_at "my_rd") => `(tactic| (repeat first
  | with_reducible refine q_tCons ?_
  | ((with_reducible apply q_var); (focus (exact rfl)))
  | with_reducible refine q_c ?_
  | with_reducible refine q_nx ?_
  | with_reducible refine q_bK ?_
  | with_reducible refine q_call ?_
  | with_reducible refine q_callK ?_
  | with_reducible refine q_tNil ?_
  | with_reducible refine q_cb ?_
  | with_reducible refine q_seq ?_
  | with_reducible refine q_asg ?_
  | with_reducible refine q_gName ?_
  | with_reducible refine q_op ?_
  | with_reducible refine q_test ?_
  | with_reducible refine q_tB ?_
  | with_reducible refine q_ifS ?_
  | with_reducible refine q_ret ?_
  | with_reducible refine q_rt ?_
  | with_reducible refine q_next ?_
  | with_reducible refine q_ifF ?_
  | with_reducible refine q_ifT ?_
  | with_reducible refine q_drop ?_
  | with_reducible refine q_and ?_
  | with_reducible refine q_or ?_
  | with_reducible refine q_andT ?_
  | with_reducible refine q_andF ?_
  | with_reducible refine q_orF ?_
  | with_reducible refine q_orT ?_
  | with_reducible refine q_andV ?_
  | with_reducible refine q_andVT ?_
  | with_reducible refine q_andVF ?_
  | with_reducible refine q_orV ?_
  | with_reducible refine q_gCons ?_
  | with_reducible refine q_gNil ?_
  | with_reducible refine q_tup ?_
  | with_reducible refine q_lst ?_
  | with_reducible refine q_not ?_
  | with_reducible refine q_notKT ?_
  | with_reducible refine q_notKF ?_
  | with_reducible refine q_I0 ?_
  | with_reducible refine q_eqI ?_
  | with_reducible refine q_neI ?_
  | ((with_reducible refine q_I ?_ ?_); first | decide | omega | exact ⟨by omega, by omega⟩ | exact ⟨by decide, by decide⟩ | exact .inl ⟨by omega, by omega⟩ | exact .inr ⟨by omega, by omega⟩ | exact .inr ⟨by decide, by decide⟩)
  | with_reducible refine q_eqS ?_
  | with_reducible refine q_neS ?_
  | with_reducible refine q_brk ?_
  | with_reducible refine q_ct ?_
  | with_reducible refine q_bk ?_
  | with_reducible refine q_cn ?_
  | with_reducible refine q_retN ?_
  | with_reducible refine q_gSub ?_
  | with_reducible refine q_for ?_
  | with_reducible refine q_iList ?_
  | with_reducible refine q_iTup ?_
  | with_reducible refine q_iRng1 ?_
  | with_reducible refine q_notK ?_
  | with_reducible refine q_orVT ?_
  | with_reducible refine q_orVF ?_
  | with_reducible refine q_notV ?_
  | with_reducible refine q_notVK ?_
  | with_reducible refine q_ifE ?_
  | with_reducible refine q_ifET ?_
  | with_reducible refine q_ifEF ?_
  | with_reducible refine q_yes ?_
  | with_reducible refine q_un ?_
  | with_reducible refine q_rU ?_
  | with_reducible refine q_abs ?_
  | with_reducible refine q_int1 ?_
  | with_reducible refine q_bm ?_
  | with_reducible refine q_bm0 ?_
  | with_reducible refine q_lc ?_
  | with_reducible refine q_keepT ?_
  | with_reducible refine q_keepF ?_
  | ((with_reducible apply q_aug); (focus (exact rfl)))
  | with_reducible refine q_ipI ?_
  | with_reducible refine q_chain ?_
  | with_reducible refine q_pairC ?_
  | with_reducible refine q_pairsK ?_
  | with_reducible refine q_pairN ?_
  | with_reducible refine q_fld ?_
  | with_reducible refine q_sFld ?_
  | with_reducible refine q_meth ?_
  | with_reducible refine q_makeK ?_
  | with_reducible refine q_isBl ?_
  | with_reducible refine q_notBl ?_
  | with_reducible refine q_sl ?_
  | with_reducible refine q_noPart ?_
  | with_reducible refine q_part ?_
  | with_reducible refine q_partK ?_
  | ((with_reducible apply q_mulStr); (focus (decide +kernel)))
  | with_reducible refine q_chT ?_
  | with_reducible refine q_chF ?_
  | with_reducible refine q_ord ?_
  | with_reducible refine q_iStr0 ?_
  | with_reducible refine q_iStr ?_
  | with_reducible refine q_tDIn ?_
  | with_reducible refine q_tDNotIn ?_
  | with_reducible refine q_tDGet ?_
  | with_reducible refine q_tDGet2 ?_
  | with_reducible refine q_tDGet1 ?_
  | with_reducible refine q_tDSetd ?_
  | ((with_reducible apply q_dG2a); (focus ((repeat first | (with_reducible exact upd_same) | (with_reducible assumption) | (with_reducible apply upd_new (by assumption)) | (with_reducible apply upd_other (by first | assumption | exact Ne.symm (by assumption))) | (with_reducible refine' Kp.get (by assumption) ?_ (by first | assumption | exact Ne.symm (by assumption))) | (with_reducible apply Same.get (by assumption))); done)))
  | ((with_reducible apply q_dSda); (focus ((repeat first | (with_reducible exact upd_same) | (with_reducible assumption) | (with_reducible apply upd_new (by assumption)) | (with_reducible apply upd_other (by first | assumption | exact Ne.symm (by assumption))) | (with_reducible refine' Kp.get (by assumption) ?_ (by first | assumption | exact Ne.symm (by assumption))) | (with_reducible apply Same.get (by assumption))); done)))
  | with_reducible refine q_sDPut ?_
  | ((with_reducible apply q_dInS); (focus ((repeat first | (with_reducible exact upd_same) | (with_reducible assumption) | (with_reducible apply upd_new (by assumption)) | (with_reducible apply upd_other (by first | assumption | exact Ne.symm (by assumption))) | (with_reducible refine' Kp.get (by assumption) ?_ (by first | assumption | exact Ne.symm (by assumption))) | (with_reducible apply Same.get (by assumption))); done)))
  | ((with_reducible apply q_dNInS); (focus ((repeat first | (with_reducible exact upd_same) | (with_reducible assumption) | (with_reducible apply upd_new (by assumption)) | (with_reducible apply upd_other (by first | assumption | exact Ne.symm (by assumption))) | (with_reducible refine' Kp.get (by assumption) ?_ (by first | assumption | exact Ne.symm (by assumption))) | (with_reducible apply Same.get (by assumption))); done)))
  | ((with_reducible apply q_dInI); (focus ((repeat first | (with_reducible exact upd_same) | (with_reducible assumption) | (with_reducible apply upd_new (by assumption)) | (with_reducible apply upd_other (by first | assumption | exact Ne.symm (by assumption))) | (with_reducible refine' Kp.get (by assumption) ?_ (by first | assumption | exact Ne.symm (by assumption))) | (with_reducible apply Same.get (by assumption))); done)))
  | ((with_reducible apply q_dNInI); (focus ((repeat first | (with_reducible exact upd_same) | (with_reducible assumption) | (with_reducible apply upd_new (by assumption)) | (with_reducible apply upd_other (by first | assumption | exact Ne.symm (by assumption))) | (with_reducible refine' Kp.get (by assumption) ?_ (by first | assumption | exact Ne.symm (by assumption))) | (with_reducible apply Same.get (by assumption))); done)))
  | ((with_reducible apply q_bmL); (focus ((repeat first | (with_reducible exact upd_same) | (with_reducible assumption) | (with_reducible apply upd_new (by assumption)) | (with_reducible apply upd_other (by first | assumption | exact Ne.symm (by assumption))) | (with_reducible refine' Kp.get (by assumption) ?_ (by first | assumption | exact Ne.symm (by assumption))) | (with_reducible apply Same.get (by assumption))); done)))
  | ((with_reducible apply q_bmL0); (focus ((repeat first | (with_reducible exact upd_same) | (with_reducible assumption) | (with_reducible apply upd_new (by assumption)) | (with_reducible apply upd_other (by first | assumption | exact Ne.symm (by assumption))) | (with_reducible refine' Kp.get (by assumption) ?_ (by first | assumption | exact Ne.symm (by assumption))) | (with_reducible apply Same.get (by assumption))); done)))
  | ((with_reducible apply q_ixLt); (focus ((repeat first | (with_reducible exact upd_same) | (with_reducible assumption) | (with_reducible apply upd_new (by assumption)) | (with_reducible apply upd_other (by first | assumption | exact Ne.symm (by assumption))) | (with_reducible refine' Kp.get (by assumption) ?_ (by first | assumption | exact Ne.symm (by assumption))) | (with_reducible apply Same.get (by assumption))); done)); (focus (exact rfl)))
  | ((with_reducible apply q_ixTt); (focus ((repeat first | (with_reducible exact upd_same) | (with_reducible assumption) | (with_reducible apply upd_new (by assumption)) | (with_reducible apply upd_other (by first | assumption | exact Ne.symm (by assumption))) | (with_reducible refine' Kp.get (by assumption) ?_ (by first | assumption | exact Ne.symm (by assumption))) | (with_reducible apply Same.get (by assumption))); done)); (focus (exact rfl)))
  | ((with_reducible apply q_lenLt); (focus ((repeat first | (with_reducible exact upd_same) | (with_reducible assumption) | (with_reducible apply upd_new (by assumption)) | (with_reducible apply upd_other (by first | assumption | exact Ne.symm (by assumption))) | (with_reducible refine' Kp.get (by assumption) ?_ (by first | assumption | exact Ne.symm (by assumption))) | (with_reducible apply Same.get (by assumption))); done)))
  | ((with_reducible apply q_lenTt); (focus ((repeat first | (with_reducible exact upd_same) | (with_reducible assumption) | (with_reducible apply upd_new (by assumption)) | (with_reducible apply upd_other (by first | assumption | exact Ne.symm (by assumption))) | (with_reducible refine' Kp.get (by assumption) ?_ (by first | assumption | exact Ne.symm (by assumption))) | (with_reducible apply Same.get (by assumption))); done)))
  | ((with_reducible apply q_append); (focus ((repeat first | (with_reducible exact upd_same) | (with_reducible assumption) | (with_reducible apply upd_new (by assumption)) | (with_reducible apply upd_other (by first | assumption | exact Ne.symm (by assumption))) | (with_reducible refine' Kp.get (by assumption) ?_ (by first | assumption | exact Ne.symm (by assumption))) | (with_reducible apply Same.get (by assumption))); done)); (focus ((first | (exact Nat.lt_of_ble_eq_true rfl) | (simp only [List.length_append, List.length_cons, List.length_nil, List.length_map]; exact small1000 (by omega))))))
  | ((with_reducible apply q_setL); (focus ((repeat first | (with_reducible exact upd_same) | (with_reducible assumption) | (with_reducible apply upd_new (by assumption)) | (with_reducible apply upd_other (by first | assumption | exact Ne.symm (by assumption))) | (with_reducible refine' Kp.get (by assumption) ?_ (by first | assumption | exact Ne.symm (by assumption))) | (with_reducible apply Same.get (by assumption))); done)); (focus (exact rfl)))
  | with_reducible refine q_ifNT ?_
  | with_reducible refine q_ifNF ?_
  | with_reducible refine q_andNT ?_
  | with_reducible refine q_andNF ?_
  | with_reducible refine q_orNT ?_
  | with_reducible refine q_orNF ?_
  | with_reducible refine q_bKNT ?_
  | with_reducible refine q_bKNF ?_
  | with_reducible refine q_tNGet ?_
  | with_reducible refine q_tNIn ?_
  | with_reducible refine q_sNPut ?_
  | with_reducible refine q_sFldAug ?_
  | with_reducible refine q_sDAug ?_
  | with_reducible refine q_sDDel ?_
  | with_reducible refine q_forX ?_
  | with_reducible refine q_tMake ?_
  | ((with_reducible apply q_dG1a); (focus ((repeat first | (with_reducible exact upd_same) | (with_reducible assumption) | (with_reducible apply upd_new (by assumption)) | (with_reducible apply upd_other (by first | assumption | exact Ne.symm (by assumption))) | (with_reducible refine' Kp.get (by assumption) ?_ (by first | assumption | exact Ne.symm (by assumption))) | (with_reducible apply Same.get (by assumption))); done)))))
open TL
/-! what the law of growth keeps -/
theorem RowsAt.take {α : Type} {f : α → List V} {H : Hp} {xs : List V} {rs : List α} (h : RowsAt f H xs rs) (n : Nat) : RowsAt f H (xs.take n) (rs.take n) := by
  refine ⟨by rw [List.length_take, List.length_take, h.len], fun i r hr => ?_⟩
  rw [List.getElem?_take] at hr
  split at hr
  · rename_i hi
    obtain ⟨a, h1, h2⟩ := h.at_ i r hr
    exact ⟨a, by rw [List.getElem?_take, if_pos hi]; exact h1, h2⟩
  · cases hr
theorem RowsAt.drop {α : Type} {f : α → List V} {H : Hp} {xs : List V} {rs : List α} (h : RowsAt f H xs rs) (n : Nat) : RowsAt f H (xs.drop n) (rs.drop n) := by
  refine ⟨by rw [List.length_drop, List.length_drop, h.len], fun i r hr => ?_⟩
  rw [List.getElem?_drop] at hr
  obtain ⟨a, h1, h2⟩ := h.at_ _ r hr
  exact ⟨a, by rw [List.getElem?_drop]; exact h1, h2⟩
theorem RowsAt.one {α : Type} {f : α → List V} {H : Hp} {a : Addr} {r : α} (h : H a = some (.tup (f r))) : RowsAt f H [.ref a] [r] := RowsAt.snoc (xs := []) (rs := []) .nil h
theorem rows_ext : ∀ {rs ts : List Row}, rs.map (fun r => (r.1, r.2.1)) = ts.map (fun r => (r.1, r.2.1)) → rs.map (fun r => r.2.2) = ts.map (fun r => r.2.2) → rs = ts
  | [], [], _, _ => rfl
  | [], _ :: _, h, _ => by cases h
  | _ :: _, [], h, _ => by cases h
  | (a, b, c) :: rs, (x, y, z) :: ts, h, g => by
    rw [List.map_cons, List.map_cons] at h g
    injection h with h1 h2
    injection g with g1 g2
    injection h1 with h3 h4
    have h3 : a = x := h3
    have h4 : b = y := h4
    have g1 : c = z := g1
    rw [h3, h4, g1, rows_ext h2 g2]
section
variable {C p l d vl nd oa pa : Addr} {us : List Int} {r0 i0 o n N : Nat} {T T' : List NestedKey} {H H' : Hp} {ws : List V} {rs : List Row}
theorem LP.off (h : LP C p l d vl nd oa us r0 T H) {q : Addr} {zs : List V} {w : HO} (hq : H q = some (.lst zs)) (m1 : q ≠ vl) (m2 : q ≠ p) (m3 : q ≠ l) (m4 : q ≠ oa) : LP C p l d vl nd oa us r0 T (upd H q w) :=
  ⟨h.pot.upd m2 m3, h.dg.off hq m1, h.rt, upd_other m4.symm h.ha, h.n1, h.n2, h.n3, h.n4⟩
theorem LP.chg {K : PySem.W.Frag} {Q : VK} {E : XK} {a b : Int} {q : Addr} (h : LP C p l d vl nd oa us r0 T H) (hT : T.length ≤ 40000) (hon : o ≤ n) (hn : n ≤ 20) (hq : H q = some (.tup ws)) (hR : RowsAt f3 H ws rs) (hrl : rs.length ≤ 30) (hrb : ∀ r ∈ rs, r.2.2.natAbs < 1000000)
    (k : ∀ (H' : Hp) (T' : List NestedKey) (res : Bool), LP C p l d vl nd oa us r0 T' H' → T <+: T' → T'.length ≤ T.length + 70 → Kq vl nd H H' →
      (res = true → rs.map (fun r => (r.1, r.2.1)) = (spans o n).map (fun q => ((q.1 : Int), (q.2 : Int))) ∧ JE T' ((rs.take (wid o 30 0).length).map fun r => r.2.2) (jend (jall ((wid o 30 0).map Prod.snd) 0 [])) a ∧ JE T' (rs.map fun r => r.2.2) (jend (jall ((spans o n).map Prod.snd) 0 [])) b) →
      (rs.map (fun r => (r.1, r.2.1)) = (spans o n).map (fun q => ((q.1 : Int), (q.2 : Int))) → JE T' ((rs.take (wid o 30 0).length).map fun r => r.2.2) (jend (jall ((wid o 30 0).map Prod.snd) 0 [])) a → JE T' (rs.map fun r => r.2.2) (jend (jall ((spans o n).map Prod.snd) 0 [])) b → res = true) → Q (.bl res) H') :
    sp_chg K C [.ref d, .int a, .int (o : Nat), .int b, .int (n : Nat), .ref q] H Q E := by
  refine ⟨d, vl, nd, q, T, a, (o : Nat), b, (n : Nat), ws, rs, rfl, h.dg, hq, hR, by omega, hrl, hrb, by omega, fun hb => absurd ⟨by omega, by omega⟩ hb, fun o' n' e1 e2 _ => ?_⟩
  obtain rfl : o = o' := by omega
  obtain rfl : n = n' := by omega
  refine ⟨fun ne H' dg kq => ?_, fun eq H' T' x pre le dg kq je => ⟨fun ne => ?_, fun y jy e => ?_⟩⟩
  · exact k H' T false (h.kq kq dg (List.prefix_refl _)) (List.prefix_refl _) (by omega) kq (fun z => by cases z) fun z => absurd z ne
  · exact k H' T' false (h.kq kq dg pre) pre le kq (fun z => by cases z) fun _ z _ => absurd (je.fn dg.un z) ne
  · subst e
    refine k H' T' (decide (y = b)) (h.kq kq dg pre) pre le kq (fun z => ?_) fun _ _ z => ?_
    · obtain rfl := dec_t z
      exact ⟨eq, je, jy⟩
    · exact decide_eq_true (jy.fn dg.un z)
theorem LP.chgF {K : PySem.W.Frag} {Q : VK} {E : XK} {a b s0 s1 : Int} {q : Addr} (h : LP C p l d vl nd oa us r0 T H) (hT : T.length ≤ 40000) (hs : ¬ (0 ≤ s0 ∧ s0 ≤ s1)) (hn : s1 ≤ 20) (hq : H q = some (.tup ws)) (hR : RowsAt f3 H ws rs) (hrl : rs.length ≤ 30) (hrb : ∀ r ∈ rs, r.2.2.natAbs < 1000000) (k : Q (.bl false) H) :
    sp_chg K C [.ref d, .int a, .int s0, .int b, .int s1, .ref q] H Q E :=
  ⟨d, vl, nd, q, T, a, s0, b, s1, ws, rs, rfl, h.dg, hq, hR, hn, hrl, hrb, by omega, fun _ => k, fun _ _ _ _ _ => absurd ⟨by omega, by omega⟩ hs⟩
theorem LP.gpap {K : PySem.W.Frag} {Q : VK} {E : XK} {CI b : Addr} {xs : List Int} (h : LP C p l d vl nd oa us r0 T H) (hT : T.length ≤ 40000) (hb : H b = some (.lst (xs.map V.int))) (hbv : b ≠ vl) (hn : xs.length ≤ 20) (hx : ∀ x ∈ xs, 0 ≤ x ∧ x ≤ 4) (hi : o ≤ xs.length)
    (k : ∀ (H' : Hp) (T' : List NestedKey) (t : Addr) (ws : List V) (rs : List Row), LP C p l d vl nd oa us r0 T' H' → T <+: T' → T'.length ≤ T.length + 2000 → Kq vl nd H H' → H' t = some (.tup ws) → RowsAt f3 H' ws rs → GR T' xs (spans o xs.length) rs → Q (.ref t) H') :
    sp_gpap K C CI [.ref d, .ref b, .int (o : Nat)] H Q E := by
  refine ⟨d, vl, nd, b, T, xs, (o : Nat), rfl, h.dg, hb, hbv, hn, hx, by omega, fun q => absurd ⟨by omega, by omega⟩ q, fun n H' T' t ws rs e1 hlt pre hl dg kq ht hR hG => ?_⟩
  obtain rfl : o = n := by omega
  exact k H' T' t ws rs (h.kq kq dg pre) pre hl kq ht hR hG
theorem LP.rows {ws : List V} {rs : List Row} (h : LP C p l d vl nd oa us r0 T H) (hR : RowsAt f3 H ws rs) (kq : Kq vl nd H H') : RowsAt f3 H' ws rs := hR.mono fun _ _ q => h.tup q kq
structure LG (C p l d vl nd oa pa : Addr) (us : List Int) (ws : List V) (rs : List Row) (o r0 i0 N : Nat) (H : Hp) : Prop where
  lp : ∃ T, T.length ≤ N ∧ LP C p l d vl nd oa us r0 T H ∧ Rt T (us.take o) i0 ∧ GR T us (spans o us.length) rs
  hp : H pa = some (.tup ws)
  hR : RowsAt f3 H ws rs
theorem LG.le {M : Nat} (h : LG C p l d vl nd oa pa us ws rs o r0 i0 N H) (e : N ≤ M) : LG C p l d vl nd oa pa us ws rs o r0 i0 M H := by
  obtain ⟨⟨T, a, b⟩, c, f⟩ := h
  exact ⟨⟨T, Nat.le_trans a e, b⟩, c, f⟩
theorem LG.same (h : LG C p l d vl nd oa pa us ws rs o r0 i0 N H) (s : Same H H') : LG C p l d vl nd oa pa us ws rs o r0 i0 N H' := by
  obtain ⟨⟨T, a, b, p⟩, c, e⟩ := h
  exact ⟨⟨T, a, b.same s, p⟩, s _ _ c, e.same s⟩
theorem LG.ha (h : LG C p l d vl nd oa pa us ws rs o r0 i0 N H) : H oa = some (.lst (us.map V.int)) := by
  obtain ⟨⟨T, a, b, p⟩, c⟩ := h
  exact b.ha
theorem LG.pot (h : LG C p l d vl nd oa pa us ws rs o r0 i0 N H) : PotAt H p l := by
  obtain ⟨⟨T, a, b, p⟩, c⟩ := h
  exact b.pot
theorem LG.next (h : LG C p l d vl nd oa pa us ws rs o r0 i0 N H) (pot : PotAt H' p l) (kp : Kp p H H') : LG C p l d vl nd oa pa us ws rs o r0 i0 N H' := by
  obtain ⟨⟨T, a, b, pp⟩, c, e⟩ := h
  obtain ⟨_, _, _, _, hp, _⟩ := b.pot
  exact ⟨⟨T, a, b.next pot kp, pp⟩, kp.get c (ne_of c hp (by intro z; cases z)), e.mono fun _ _ q => kp.get q (ne_of q hp (by intro z; cases z))⟩
theorem LG.keep {q : Addr} {zs : List V} (h : LG C p l d vl nd oa pa us ws rs o r0 i0 N H) (hq : H q = some (.lst zs)) (kq : Kq vl nd H H') (n : q ≠ vl) : H' q = some (.lst zs) := by
  obtain ⟨⟨T, a, b, pp⟩, c⟩ := h
  exact kq _ _ hq n (ne_of hq b.dg.n (by intro z; cases z))
theorem LG.rows {vs : List V} {ts : List Row} (h : LG C p l d vl nd oa pa us ws rs o r0 i0 N H) (hR : RowsAt f3 H vs ts) (kq : Kq vl nd H H') : RowsAt f3 H' vs ts := by
  obtain ⟨⟨T, a, b, pp⟩, c⟩ := h
  exact b.rows hR kq
theorem LG.tup {q : Addr} {ys : List V} (h : LG C p l d vl nd oa pa us ws rs o r0 i0 N H) (hq : H q = some (.tup ys)) (kq : Kq vl nd H H') : H' q = some (.tup ys) := by
  obtain ⟨⟨T, a, b, pp⟩, c⟩ := h
  exact b.tup hq kq
theorem LG.fresh {q : Addr} (h : LG C p l d vl nd oa pa us ws rs o r0 i0 N H) (n : H q = none) : q ≠ vl := by
  obtain ⟨⟨T, a, b, pp⟩, c⟩ := h
  obtain ⟨_, e, _⟩ := b.dg.v
  exact (ne_of_none e n).symm
theorem LG.lt (h : LG C p l d vl nd oa pa us ws rs o r0 i0 N H) (hN : N ≤ 40000) : ∀ r ∈ rs, r.2.2.natAbs ≤ 40000 := by
  obtain ⟨⟨T, hT, b, _, g⟩, _⟩ := h
  intro r hr
  have := g.lt r hr
  omega
theorem LG.len (h : LG C p l d vl nd oa pa us ws rs o r0 i0 N H) (ho : o ≤ us.length) : rs.length ≤ us.length := by
  obtain ⟨⟨T, hT, b, _, g⟩, _⟩ := h
  rw [g.len]
  exact spans_len ho
theorem LG.chk {K : PySem.W.Frag} {Q : VK} {E : XK} {q : Addr} {vs : List V} {ts : List Row} (h : LG C p l d vl nd oa pa us ws rs o r0 i0 N H) (hN : N ≤ 40000) (ho : o ≤ us.length) (hn : us.length ≤ 20) (hq : H q = some (.tup vs)) (hR : RowsAt f3 H vs ts) (hrl : ts.length ≤ 30) (hrb : ∀ r ∈ ts, r.2.2.natAbs < 1000000)
    (k : ∀ H' : Hp, LG C p l d vl nd oa pa us ws rs o r0 i0 (N + 70) H' → Kq vl nd H H' → Q (.bl (decide (ts = rs))) H') :
    sp_chg K C [.ref d, .int (i0 : Nat), .int (o : Nat), .int (r0 : Nat), .int (us.length : Nat), .ref q] H Q E := by
  obtain ⟨⟨T, hT, b, rt, g⟩, hp, hR0⟩ := h
  refine b.chg (by omega) ho hn hq hR hrl hrb fun H' T' res L' pre le kq e1 e2 => ?_
  have g' := g.mono pre
  have rt' := rt.mono pre
  have e : res = decide (ts = rs) := by
    have fa := fits_all us.length (by omega) o (by omega) ho
    have fo := fits_old o (by omega)
    have j1 : JE T' (rs.map fun r => r.2.2) (jend (jall ((spans o us.length).map Prod.snd) 0 [])) (r0 : Nat) := je_to L'.dg.un g' fa (Nat.le_refl _) (by rw [seg_all]; exact L'.rt)
    have j0 : JE T' ((rs.take (wid o 30 0).length).map fun r => r.2.2) (jend (jall ((wid o 30 0).map Prod.snd) 0 [])) (i0 : Nat) := je_to L'.dg.un (GR.pre g') fo ho (by rw [seg_pre]; exact rt')
    have two := g'.two
    cases res with
    | true =>
      obtain ⟨a1, a2, a3⟩ := e1 rfl
      refine (decide_eq_true (rows_ext (a1.trans two.symm) (List.ext_getElem? fun i => ?_))).symm
      by_cases hi : i < (spans o us.length).length
      · exact je_inj fa hi (spans_len ho) a3 j1
      · have l1 := congrArg List.length a1
        have l2 := congrArg List.length two
        rw [List.length_map, List.length_map] at l1 l2
        rw [List.getElem?_eq_none (by rw [List.length_map]; omega), List.getElem?_eq_none (by rw [List.length_map]; omega)]
    | false =>
      refine (decide_eq_false fun q => ?_).symm
      subst q
      cases e2 two j0 j1
  rw [e]
  exact k H' ⟨⟨T', by omega, L', rt', g'⟩, b.tup hp kq, b.rows hR0 kq⟩ kq
theorem LG.chkR {K : PySem.W.Frag} {Q : VK} {E : XK} {x y : Int} (h : LG C p l d vl nd oa pa us ws rs o r0 i0 N H) (hN : N ≤ 40000) (ho : o ≤ us.length) (hn : us.length ≤ 20) (hne : ¬ (x = (i0 : Nat) ∧ y = (r0 : Nat)))
    (k : ∀ H' : Hp, LG C p l d vl nd oa pa us ws rs o r0 i0 (N + 70) H' → Kq vl nd H H' → Q (.bl false) H') :
    sp_chg K C [.ref d, .int x, .int (o : Nat), .int y, .int (us.length : Nat), .ref pa] H Q E := by
  have hl := h.len ho
  have hlt := h.lt hN
  obtain ⟨⟨T, hT, b, rt, g⟩, hp, hR0⟩ := h
  refine b.chg (by omega) ho hn hp hR0 (by omega) (fun r hr => by have := hlt r hr; omega) fun H' T' res L' pre le kq e1 e2 => ?_
  have g' := g.mono pre
  have rt' := rt.mono pre
  have e : res = false := by
    have fa := fits_all us.length (by omega) o (by omega) ho
    have fo := fits_old o (by omega)
    have j1 : JE T' (rs.map fun r => r.2.2) (jend (jall ((spans o us.length).map Prod.snd) 0 [])) (r0 : Nat) := je_to L'.dg.un g' fa (Nat.le_refl _) (by rw [seg_all]; exact L'.rt)
    have j0 : JE T' ((rs.take (wid o 30 0).length).map fun r => r.2.2) (jend (jall ((wid o 30 0).map Prod.snd) 0 [])) (i0 : Nat) := je_to L'.dg.un (GR.pre g') fo ho (by rw [seg_pre]; exact rt')
    cases res with
    | true =>
      obtain ⟨a1, a2, a3⟩ := e1 rfl
      exact absurd ⟨a2.fn L'.dg.un j0, a3.fn L'.dg.un j1⟩ hne
    | false => rfl
  rw [e]
  exact k H' ⟨⟨T', by omega, L', rt', g'⟩, b.tup hp kq, b.rows hR0 kq⟩ kq
theorem LG.chkF {K : PySem.W.Frag} {Q : VK} {E : XK} {a b s0 s1 : Int} (h : LG C p l d vl nd oa pa us ws rs o r0 i0 N H) (hN : N ≤ 40000) (ho : o ≤ us.length) (hn : us.length ≤ 20) (hs : ¬ (0 ≤ s0 ∧ s0 ≤ s1)) (hs1 : s1 ≤ 20) (k : Q (.bl false) H) :
    sp_chg K C [.ref d, .int a, .int s0, .int b, .int s1, .ref pa] H Q E := by
  have hl := h.len ho
  have hlt := h.lt hN
  obtain ⟨⟨T, hT, b, rt, g⟩, hp, hR0⟩ := h
  exact b.chgF (by omega) hs hs1 hp hR0 (by omega) (fun r hr => by have := hlt r hr; omega) k
theorem LG.ref' {K : PySem.W.Frag} {Q : VK} {E : XK} {ix : Int} (h : LG C p l d vl nd oa pa us ws rs o r0 i0 N H) (hN : N ≤ 40000) (hn : us.length ≤ 20) (hx : ∀ x ∈ us, 0 ≤ x ∧ x ≤ 4) (hi : ¬ (0 ≤ ix ∧ ix ≤ us.length)) (k : Q (.bl true) H) :
    sp_lrefg K C [.ref d, .ref oa, .int ix] H Q E := by
  obtain ⟨⟨T, hT, b, rt, g⟩, hp, hR0⟩ := h
  exact ⟨d, vl, nd, oa, T, us, ix, rfl, b.dg, b.ha, b.n3, hn, hx, by omega, hi, k⟩
end

local macro_rules | `(tactic| walk_at "my_rd") => `(tactic| (repeat first
  | with_reducible refine q_tCons ?_
  | ((with_reducible apply q_var); (focus (exact rfl)))
  | with_reducible refine q_c ?_
  | with_reducible refine q_nx ?_
  | with_reducible refine q_bK ?_
  | with_reducible refine q_call ?_
  | with_reducible refine q_callK ?_
  | with_reducible refine q_tNil ?_
  | with_reducible refine q_cb ?_
  | with_reducible refine q_seq ?_
  | with_reducible refine q_asg ?_
  | with_reducible refine q_gName ?_
  | with_reducible refine q_op ?_
  | with_reducible refine q_test ?_
  | with_reducible refine q_tB ?_
  | with_reducible refine q_ifS ?_
  | with_reducible refine q_ret ?_
  | with_reducible refine q_rt ?_
  | with_reducible refine q_next ?_
  | with_reducible refine q_ifF ?_
  | with_reducible refine q_ifT ?_
  | with_reducible refine q_drop ?_
  | with_reducible refine q_and ?_
  | with_reducible refine q_or ?_
  | with_reducible refine q_andT ?_
  | with_reducible refine q_andF ?_
  | with_reducible refine q_orF ?_
  | with_reducible refine q_orT ?_
  | with_reducible refine q_andV ?_
  | with_reducible refine q_andVT ?_
  | with_reducible refine q_andVF ?_
  | with_reducible refine q_orV ?_
  | with_reducible refine q_gCons ?_
  | with_reducible refine q_gNil ?_
  | with_reducible refine q_tup ?_
  | with_reducible refine q_lst ?_
  | with_reducible refine q_not ?_
  | with_reducible refine q_notKT ?_
  | with_reducible refine q_notKF ?_
  | with_reducible refine q_I0 ?_
  | with_reducible refine q_eqI ?_
  | with_reducible refine q_neI ?_
  | ((with_reducible refine q_I ?_ ?_); first | decide | omega | exact ⟨by omega, by omega⟩ | exact ⟨by decide, by decide⟩ | exact .inl ⟨by omega, by omega⟩ | exact .inr ⟨by omega, by omega⟩ | exact .inr ⟨by decide, by decide⟩)
  | with_reducible refine q_eqS ?_
  | with_reducible refine q_neS ?_
  | with_reducible refine q_brk ?_
  | with_reducible refine q_ct ?_
  | with_reducible refine q_bk ?_
  | with_reducible refine q_cn ?_
  | with_reducible refine q_retN ?_
  | with_reducible refine q_gSub ?_
  | with_reducible refine q_for ?_
  | with_reducible refine q_iList ?_
  | with_reducible refine q_iTup ?_
  | with_reducible refine q_iRng1 ?_
  | with_reducible refine q_notK ?_
  | with_reducible refine q_orVT ?_
  | with_reducible refine q_orVF ?_
  | with_reducible refine q_notV ?_
  | with_reducible refine q_notVK ?_
  | with_reducible refine q_ifE ?_
  | with_reducible refine q_ifET ?_
  | with_reducible refine q_ifEF ?_
  | with_reducible refine q_yes ?_
  | with_reducible refine q_un ?_
  | with_reducible refine q_rU ?_
  | with_reducible refine q_abs ?_
  | with_reducible refine q_int1 ?_
  | with_reducible refine q_bm ?_
  | with_reducible refine q_bm0 ?_
  | with_reducible refine q_lc ?_
  | with_reducible refine q_keepT ?_
  | with_reducible refine q_keepF ?_
  | ((with_reducible apply q_aug); (focus (exact rfl)))
  | with_reducible refine q_ipI ?_
  | with_reducible refine q_chain ?_
  | with_reducible refine q_pairC ?_
  | with_reducible refine q_pairsK ?_
  | with_reducible refine q_pairN ?_
  | with_reducible refine q_fld ?_
  | with_reducible refine q_sFld ?_
  | with_reducible refine q_meth ?_
  | with_reducible refine q_makeK ?_
  | with_reducible refine q_isBl ?_
  | with_reducible refine q_notBl ?_
  | with_reducible refine q_sl ?_
  | with_reducible refine q_noPart ?_
  | with_reducible refine q_part ?_
  | with_reducible refine q_partK ?_
  | ((with_reducible apply q_mulStr); (focus (decide +kernel)))
  | with_reducible refine q_chT ?_
  | with_reducible refine q_chF ?_
  | with_reducible refine q_ord ?_
  | with_reducible refine q_iStr0 ?_
  | with_reducible refine q_iStr ?_
  | with_reducible refine q_tDIn ?_
  | with_reducible refine q_tDNotIn ?_
  | with_reducible refine q_tDGet ?_
  | with_reducible refine q_tDGet2 ?_
  | with_reducible refine q_tDGet1 ?_
  | with_reducible refine q_tDSetd ?_
  | ((with_reducible apply q_dG2a); (focus ((repeat first | (with_reducible exact upd_same) | (with_reducible assumption) | (with_reducible apply upd_new (by assumption)) | (with_reducible apply upd_other (by first | assumption | exact Ne.symm (by assumption))) | (with_reducible refine' Kp.get (by assumption) ?_ (by first | assumption | exact Ne.symm (by assumption))) | (with_reducible apply Same.get (by assumption))); done)))
  | ((with_reducible apply q_dSda); (focus ((repeat first | (with_reducible exact upd_same) | (with_reducible assumption) | (with_reducible apply upd_new (by assumption)) | (with_reducible apply upd_other (by first | assumption | exact Ne.symm (by assumption))) | (with_reducible refine' Kp.get (by assumption) ?_ (by first | assumption | exact Ne.symm (by assumption))) | (with_reducible apply Same.get (by assumption))); done)))
  | with_reducible refine q_sDPut ?_
  | ((with_reducible apply q_dInS); (focus ((repeat first | (with_reducible exact upd_same) | (with_reducible assumption) | (with_reducible apply upd_new (by assumption)) | (with_reducible apply upd_other (by first | assumption | exact Ne.symm (by assumption))) | (with_reducible refine' Kp.get (by assumption) ?_ (by first | assumption | exact Ne.symm (by assumption))) | (with_reducible apply Same.get (by assumption))); done)))
  | ((with_reducible apply q_dNInS); (focus ((repeat first | (with_reducible exact upd_same) | (with_reducible assumption) | (with_reducible apply upd_new (by assumption)) | (with_reducible apply upd_other (by first | assumption | exact Ne.symm (by assumption))) | (with_reducible refine' Kp.get (by assumption) ?_ (by first | assumption | exact Ne.symm (by assumption))) | (with_reducible apply Same.get (by assumption))); done)))
  | ((with_reducible apply q_dInI); (focus ((repeat first | (with_reducible exact upd_same) | (with_reducible assumption) | (with_reducible apply upd_new (by assumption)) | (with_reducible apply upd_other (by first | assumption | exact Ne.symm (by assumption))) | (with_reducible refine' Kp.get (by assumption) ?_ (by first | assumption | exact Ne.symm (by assumption))) | (with_reducible apply Same.get (by assumption))); done)))
  | ((with_reducible apply q_dNInI); (focus ((repeat first | (with_reducible exact upd_same) | (with_reducible assumption) | (with_reducible apply upd_new (by assumption)) | (with_reducible apply upd_other (by first | assumption | exact Ne.symm (by assumption))) | (with_reducible refine' Kp.get (by assumption) ?_ (by first | assumption | exact Ne.symm (by assumption))) | (with_reducible apply Same.get (by assumption))); done)))
  | ((with_reducible apply q_bmL); (focus ((repeat first | (with_reducible exact upd_same) | (with_reducible assumption) | (with_reducible apply upd_new (by assumption)) | (with_reducible apply upd_other (by first | assumption | exact Ne.symm (by assumption))) | (with_reducible refine' Kp.get (by assumption) ?_ (by first | assumption | exact Ne.symm (by assumption))) | (with_reducible apply Same.get (by assumption))); done)))
  | ((with_reducible apply q_bmL0); (focus ((repeat first | (with_reducible exact upd_same) | (with_reducible assumption) | (with_reducible apply upd_new (by assumption)) | (with_reducible apply upd_other (by first | assumption | exact Ne.symm (by assumption))) | (with_reducible refine' Kp.get (by assumption) ?_ (by first | assumption | exact Ne.symm (by assumption))) | (with_reducible apply Same.get (by assumption))); done)))
  | ((with_reducible apply q_ixLt); (focus ((repeat first | (with_reducible exact upd_same) | (with_reducible assumption) | (with_reducible apply upd_new (by assumption)) | (with_reducible apply upd_other (by first | assumption | exact Ne.symm (by assumption))) | (with_reducible refine' Kp.get (by assumption) ?_ (by first | assumption | exact Ne.symm (by assumption))) | (with_reducible apply Same.get (by assumption))); done)); (focus (exact rfl)))
  | ((with_reducible apply q_ixTt); (focus ((repeat first | (with_reducible exact upd_same) | (with_reducible assumption) | (with_reducible apply upd_new (by assumption)) | (with_reducible apply upd_other (by first | assumption | exact Ne.symm (by assumption))) | (with_reducible refine' Kp.get (by assumption) ?_ (by first | assumption | exact Ne.symm (by assumption))) | (with_reducible apply Same.get (by assumption))); done)); (focus (exact rfl)))
  | ((with_reducible apply q_lenLt); (focus ((repeat first | (with_reducible exact upd_same) | (with_reducible assumption) | (with_reducible apply upd_new (by assumption)) | (with_reducible apply upd_other (by first | assumption | exact Ne.symm (by assumption))) | (with_reducible refine' Kp.get (by assumption) ?_ (by first | assumption | exact Ne.symm (by assumption))) | (with_reducible apply Same.get (by assumption))); done)))
  | ((with_reducible apply q_lenTt); (focus ((repeat first | (with_reducible exact upd_same) | (with_reducible assumption) | (with_reducible apply upd_new (by assumption)) | (with_reducible apply upd_other (by first | assumption | exact Ne.symm (by assumption))) | (with_reducible refine' Kp.get (by assumption) ?_ (by first | assumption | exact Ne.symm (by assumption))) | (with_reducible apply Same.get (by assumption))); done)))
  | ((with_reducible apply q_append); (focus ((repeat first | (with_reducible exact upd_same) | (with_reducible assumption) | (with_reducible apply upd_new (by assumption)) | (with_reducible apply upd_other (by first | assumption | exact Ne.symm (by assumption))) | (with_reducible refine' Kp.get (by assumption) ?_ (by first | assumption | exact Ne.symm (by assumption))) | (with_reducible apply Same.get (by assumption))); done)); (focus ((first | (exact Nat.lt_of_ble_eq_true rfl) | (simp only [List.length_append, List.length_cons, List.length_nil, List.length_map]; exact small1000 (by omega))))))
  | ((with_reducible apply q_setL); (focus ((repeat first | (with_reducible exact upd_same) | (with_reducible assumption) | (with_reducible apply upd_new (by assumption)) | (with_reducible apply upd_other (by first | assumption | exact Ne.symm (by assumption))) | (with_reducible refine' Kp.get (by assumption) ?_ (by first | assumption | exact Ne.symm (by assumption))) | (with_reducible apply Same.get (by assumption))); done)); (focus (exact rfl)))
  | with_reducible refine q_ifNT ?_
  | with_reducible refine q_ifNF ?_
  | with_reducible refine q_andNT ?_
  | with_reducible refine q_andNF ?_
  | with_reducible refine q_orNT ?_
  | with_reducible refine q_orNF ?_
  | with_reducible refine q_bKNT ?_
  | with_reducible refine q_bKNF ?_
  | with_reducible refine q_tNGet ?_
  | with_reducible refine q_tNIn ?_
  | with_reducible refine q_sNPut ?_
  | with_reducible refine q_sFldAug ?_
  | with_reducible refine q_sDAug ?_
  | with_reducible refine q_sDDel ?_
  | with_reducible refine q_forX ?_
  | with_reducible refine q_tMake ?_
  | ((with_reducible apply q_dG1a); (focus ((repeat first | (with_reducible exact upd_same) | (with_reducible assumption) | (with_reducible apply upd_new (by assumption)) | (with_reducible apply upd_other (by first | assumption | exact Ne.symm (by assumption))) | (with_reducible refine' Kp.get (by assumption) ?_ (by first | assumption | exact Ne.symm (by assumption))) | (with_reducible apply Same.get (by assumption))); done)))))
open TL
theorem mid_at {α : Type} {xs : List α} {n : Nat} {y : α} (h : n < xs.length) : ((xs.take n ++ [y]) ++ xs.drop (n + 1))[n]? = some y := by
  rw [List.append_assoc, List.getElem?_append_right (by rw [List.length_take]; omega), List.length_take, Nat.min_eq_left (by omega), Nat.sub_self]
  rfl
section
variable {P : Program} {w : World} {K : PySem.W.Frag} {mg : Str → Option Value} {base : Heap}
structure LRp (C p l d vl nd : Addr) (H : Hp) : Prop where
  pot : PotAt H p l
  dg : DigAt C H d vl nd []
theorem LRp.new {C p l d vl nd a : Addr} {H : Hp} {o : HO} (h : LRp C p l d vl nd H) (n : H a = none) : LRp C p l d vl nd (upd H a o) := ⟨h.pot.new n, h.dg.same (Same.new (Same.refl _) n)⟩
theorem LRp.next {C p l d vl nd : Addr} {H H' : Hp} (h : LRp C p l d vl nd H) (n : vl ≠ p) (pot : PotAt H' p l) (kp : Kp p H H') : LRp C p l d vl nd H' := ⟨pot, h.dg.next kp h.pot n⟩
set_option maxHeartbeats 0 in
theorem ok_law (T : Txt K mg) : FnOk P w K mg base CX0 13 T.f_law T.d_law ["script"] (spLaw K) := by
  refine T.F_law.ok sc_law (fun vs H Q E h => ?_) (fun cdv A outer s H vs Q E hr h => ?_)
  · obtain ⟨a, ns, rfl, _⟩ := h; rfl
  · obtain ⟨a0, ns0, rfl, hS, hlen, k⟩ := h
    have ok_L_root := fun T : Txt K mg => ok_L_root5 (P := P) (w := w) (base := base) T
    refine ⟨_, (pss_cons (ps_set (i := 1) sc_law.nd rfl (Or.inr rfl) (pe_call (ok_L_pot T) (hr.mono (by decide)) (by rfl) T.g_L_pot T.F_L_pot.kp T.b_L_pot .nil pass0 (pa_cons (pv 0) pa_nil)))
      (pss_cons (ps_set (i := 2) sc_law.nd rfl (Or.inl rfl) (pe_make0 T.mk_Digests (ok_Digests_init T) (hr.mono (by decide)) (by rfl) T.g_Digests T.b_Digests_init .nil pass0))
      (pss_cons (ps_setLc (i := 3) (own := [("k", 15)]) (g := (gName 15)) (tt := tYes) (te := (tCall sp_next [] E0 (tCons (tVar 1) (tCons (tC (.int 3)) tNil)))) rfl sc_law.nd rfl rfl (sw_true rfl rfl rfl (by decide +kernel)) (pi_range1 (by rfl) T.z_range (pa_cons (pe_call (ok_L_next T) (hr.mono (by decide)) (by rfl) T.g_L_next T.F_L_next.kp T.b_L_next .nil pass0 (pa_cons (pv 1) (pa_cons pe_int pa_nil))) pa_nil)) (blkOk_by (own := [("k", 15)]) (N := ["script", "pot", "digests", "leaves", "size", "part", "old", "new", "paper", "due", "span", "other", "at", "row", "changed", "k"]) (sc := defScope s_law) (by decide +kernel)) (fun _ _ _ _ _ => (pg_name (i := 15) sc_law.nd rfl (Or.inl rfl))) (fun _ _ _ _ _ => pts_nil) (fun _ _ _ _ _ => (pe_call (ok_L_next T) (hr.mono (by decide)) (by rfl) T.g_L_next T.F_L_next.kp T.b_L_next .nil pass0 (pa_cons (pv 1) (pa_cons pe_int pa_nil)))))
      (pss_cons (ps_set (i := 4) sc_law.nd rfl (Or.inl rfl) (pe_callB cq_len (by rfl) T.z_len boot_len (pa_cons (pv 3) pa_nil)))
      (pss_cons (ps_set (i := 5) sc_law.nd rfl (Or.inl rfl) (pe_call (ok_L_next T) (hr.mono (by decide)) (by rfl) T.g_L_next T.F_L_next.kp T.b_L_next .nil pass0 (pa_cons (pv 1) (pa_cons (pe_op op_add (pv 4) pe_int) pa_nil))))
      (pss_cons (ps_set (i := 6) sc_law.nd rfl (Or.inl rfl) (pe_call (ok_L_root T) (hr.mono (by decide)) (by rfl) T.g_L_root T.F_L_root.kp T.b_L_root .nil pass0 (pa_cons (pv 2) (pa_cons (pe_slice sl_list (pv 3) po_none (po_some (pv 5))) pa_nil))))
      (pss_cons (ps_set (i := 7) sc_law.nd rfl (Or.inl rfl) (pe_call (ok_L_root T) (hr.mono (by decide)) (by rfl) T.g_L_root T.F_L_root.kp T.b_L_root .nil pass0 (pa_cons (pv 2) (pa_cons (pv 3) pa_nil))))
      (pss_cons (ps_set (i := 8) sc_law.nd rfl (Or.inl rfl) (pe_call (ok_growth_paper T) (hr.mono (by decide)) (by rfl) T.g_growth_paper T.F_growth_paper.kp T.b_growth_paper .nil passF (pa_cons (pv 2) (pa_cons (pe_callTy cq_listOf (by rfl) T.z_list boot_list (pa_cons (pv 3) pa_nil)) (pa_cons (pv 5) pa_nil)))))
      (pss_cons (ps_set (i := 9) sc_law.nd rfl (Or.inl rfl) (pe_lst pa_nil))
      (pss_cons (ps_for PassesOwn.never rfl (pi_list (pe_op op_cat (pe_call (ok_L_spans T) (hr.mono (by decide)) (by rfl) T.g_L_spans T.F_L_spans.kp T.b_L_spans .nil pass0 (pa_cons pe_int (pa_cons (pv 5) pa_nil))) (pe_call (ok_L_spans T) (hr.mono (by decide)) (by rfl) T.g_L_spans T.F_L_spans.kp T.b_L_spans .nil pass0 (pa_cons (pv 5) (pa_cons (pv 4) pa_nil))))) (pg_name (i := 10) sc_law.nd rfl (Or.inl rfl))
        (pss_one (ps_expr (pe_bm PySem.F.plainAttrs_list PySem.F.slot_list_append PySem.F.type_list_append mt_append (pv 9) (pa_cons (pe_tup (pa_cons (pe_ix ix_tup (pv 10) pe_int (fun _ _ => rfl)) (pa_cons (pe_ix ix_tup (pv 10) pe_int (fun _ _ => rfl)) (pa_cons (pe_call (ok_L_root T) (hr.mono (by decide)) (by rfl) T.g_L_root T.F_L_root.kp T.b_L_root .nil pass0 (pa_cons (pv 2) (pa_cons (pe_slice sl_list (pv 3) (po_some (pe_ix ix_tup (pv 10) pe_int (fun _ _ => rfl))) (po_some (pe_op op_add (pe_ix ix_tup (pv 10) pe_int (fun _ _ => rfl)) (pe_ix ix_tup (pv 10) pe_int (fun _ _ => rfl))))) pa_nil))) pa_nil)))) pa_nil)))))
      (pss_cons (ps_if (PW.pt (pw_or (pt_cmpR (op_neD hr.units) (pv 8) (pe_callTy cq_tupOf (by rfl) T.z_tuple boot_tuple (pa_cons (pv 9) pa_nil)) (nomark _)) (pw_or1 (pt_cmpR op_notBl (pe_call (ok_check_growth T) (hr.mono (by decide)) (by rfl) T.g_check_growth T.F_check_growth.kp T.b_check_growth .nil pass0 (pa_cons (pv 2) (pa_cons (pv 6) (pa_cons (pv 5) (pa_cons (pv 7) (pa_cons (pv 4) (pa_cons (pv 8) pa_nil))))))) pe_bl (nomark _))))) (pss_one (ps_ret pe_bl)) pss_nil)
      (pss_cons (ps_if (pt_cmpR op_gt (pe_callB cq_len (by rfl) T.z_len boot_len (pa_cons (pv 8) pa_nil)) pe_int (nomark _)) (pss_cons (ps_set (i := 12) sc_law.nd rfl (Or.inl rfl) (pe_call (ok_L_next T) (hr.mono (by decide)) (by rfl) T.g_L_next T.F_L_next.kp T.b_L_next .nil pass0 (pa_cons (pv 1) (pa_cons (pe_callB cq_len (by rfl) T.z_len boot_len (pa_cons (pv 8) pa_nil)) pa_nil))))
      (pss_cons (ps_set (i := 13) sc_law.nd rfl (Or.inl rfl) (pe_ix ix_tup (pv 8) (pv 12) (fun _ _ => rfl)))
      (pss_one (ps_for PassesOwn.never rfl (pi_list (pe_lst (pa_cons (pe_op op_catA (pe_slice sl_tupA (pv 8) po_none (po_some (pv 12))) (pe_slice sl_tupA (pv 8) (po_some (pe_op op_add (pv 12) pe_int)) po_none)) (pa_cons (pe_op op_catA (pe_op op_catA (pe_slice sl_tupA (pv 8) po_none (po_some (pv 12))) (pe_tup (pa_cons (pe_tup (pa_cons (pe_ix ix_tup (pv 13) pe_int (fun _ _ => rfl)) (pa_cons (pe_ix ix_tup (pv 13) pe_int (fun _ _ => rfl)) (pa_cons (pe_op op_add (pe_ix ix_tup (pv 13) pe_int (fun _ _ => rfl)) pe_int) pa_nil)))) pa_nil))) (pe_slice sl_tupA (pv 8) (po_some (pe_op op_add (pv 12) pe_int)) po_none)) (pa_cons (pe_op op_catA (pe_op op_catA (pe_slice sl_tupA (pv 8) po_none (po_some (pv 12))) (pe_tup (pa_cons (pe_tup (pa_cons (pe_op op_add (pe_ix ix_tup (pv 13) pe_int (fun _ _ => rfl)) pe_int) (pa_cons (pe_ix ix_tup (pv 13) pe_int (fun _ _ => rfl)) (pa_cons (pe_ix ix_tup (pv 13) pe_int (fun _ _ => rfl)) pa_nil)))) pa_nil))) (pe_slice sl_tupA (pv 8) (po_some (pe_op op_add (pv 12) pe_int)) po_none)) (pa_cons (pe_op op_catA (pv 8) (pe_tup (pa_cons (pv 13) pa_nil))) pa_nil)))))) (pg_name (i := 14) sc_law.nd rfl (Or.inl rfl))
        (pss_one (ps_if (pt_cmpR op_notBl (pe_call (ok_check_growth T) (hr.mono (by decide)) (by rfl) T.g_check_growth T.F_check_growth.kp T.b_check_growth .nil pass0 (pa_cons (pv 2) (pa_cons (pv 6) (pa_cons (pv 5) (pa_cons (pv 7) (pa_cons (pv 4) (pa_cons (pv 14) pa_nil))))))) pe_bl (nomark _)) (pss_one (ps_ret pe_bl)) pss_nil)))))) pss_nil)
      (pss_cons (ps_if (PW.pt (pw_or (pt_val (pe_call (ok_check_growth T) (hr.mono (by decide)) (by rfl) T.g_check_growth T.F_check_growth.kp T.b_check_growth .nil pass0 (pa_cons (pv 2) (pa_cons (pv 6) (pa_cons (pv 5) (pa_cons (pe_op op_add (pv 7) pe_int) (pa_cons (pv 4) (pa_cons (pv 8) pa_nil)))))))) (pw_or1 (pt_val (pe_call (ok_check_growth T) (hr.mono (by decide)) (by rfl) T.g_check_growth T.F_check_growth.kp T.b_check_growth .nil pass0 (pa_cons (pv 2) (pa_cons (pe_op op_add (pv 6) pe_int) (pa_cons (pv 5) (pa_cons (pv 7) (pa_cons (pv 4) (pa_cons (pv 8) pa_nil))))))))))) (pss_one (ps_ret pe_bl)) pss_nil)
      (pss_cons (ps_set (i := 11) sc_law.nd rfl (Or.inl rfl) (pe_callTy cq_listOf (by rfl) T.z_list boot_list (pa_cons (pv 3) pa_nil)))
      (pss_cons (ps_if (pt_cmpR op_gt (pv 5) pe_int (nomark _)) (pss_cons (ps_set (i := 12) sc_law.nd rfl (Or.inl rfl) (pe_call (ok_L_next T) (hr.mono (by decide)) (by rfl) T.g_L_next T.F_L_next.kp T.b_L_next .nil pass0 (pa_cons (pv 1) (pa_cons (pv 5) pa_nil))))
      (pss_cons (ps_asg (pe_op op_add (pe_ix ix_list (pv 11) (pv 12) (fun _ _ => rfl)) pe_int) (pg_sub (pv 11) (pv 12) set_list))
      (pss_one (ps_if (pt_cmpR op_notBl (pe_call (ok_check_growth T) (hr.mono (by decide)) (by rfl) T.g_check_growth T.F_check_growth.kp T.b_check_growth .nil pass0 (pa_cons (pv 2) (pa_cons (pv 6) (pa_cons (pv 5) (pa_cons (pe_call (ok_L_root T) (hr.mono (by decide)) (by rfl) T.g_L_root T.F_L_root.kp T.b_L_root .nil pass0 (pa_cons (pv 2) (pa_cons (pv 11) pa_nil))) (pa_cons (pv 4) (pa_cons (pe_call (ok_growth_paper T) (hr.mono (by decide)) (by rfl) T.g_growth_paper T.F_growth_paper.kp T.b_growth_paper .nil passF (pa_cons (pv 2) (pa_cons (pv 11) (pa_cons (pv 5) pa_nil)))) pa_nil))))))) pe_bl (nomark _)) (pss_one (ps_ret pe_bl)) pss_nil)))) pss_nil)
      (pss_cons (ps_if (pt_cmpR op_notBl (pe_call (ok_check_growth T) (hr.mono (by decide)) (by rfl) T.g_check_growth T.F_check_growth.kp T.b_check_growth .nil pass0 (pa_cons (pv 2) (pa_cons (pv 6) (pa_cons (pe_op op_add (pv 4) pe_int) (pa_cons (pv 7) (pa_cons (pv 4) (pa_cons (pv 8) pa_nil))))))) pe_bl (nomark _)) (pss_one (ps_ret pe_bl)) pss_nil)
      (pss_one (ps_ret (pe_and (pe_call (ok_L_refused T) (hr.mono (by decide)) (by rfl) T.g_L_refused T.F_L_refused.kp T.b_L_refused .nil pass0 (pa_cons (pv 2) (pa_cons (pv 3) (pa_cons (pe_op op_add (pv 4) pe_int) pa_nil)))) (pe_one (pe_call (ok_L_refused T) (hr.mono (by decide)) (by rfl) T.g_L_refused T.F_L_refused.kp T.b_L_refused .nil pass0 (pa_cons (pv 2) (pa_cons (pv 3) (pa_cons (pe_un un_neg pe_int) pa_nil)))))))))))))))))))))))), ?_⟩
    (dsimp only [cxOf, Cx.nox, Cx.wish, L2.start, List.map, List.length, List.replicate, List.cons_append, List.nil_append, List.append_eq, Nat.reduceSub, Nat.reduceAdd])
    walk_at "my_rd"
    refine ⟨a0, ns0, rfl, hS, hlen, fun p l0 H1 np nl0 pot1 sm1 => ?_⟩
    walk_at "my_rd"
    intro d dx nb ndx ndb
    refine ⟨d, dx, rfl, upd_same, fun vl nd H2 nvl nnd hD kp2 => ⟨rfl, ?_⟩⟩
    have sm2 : Same H1 H2 := fun q o hq => kp2 q o (upd_other (ne_of_none hq nb) (upd_other (ne_of_none hq ndx) hq)) (ne_of_none hq nb)
    have pot2 := pot1.same sm2
    have nvl1 : H1 vl = none := upd_none_back (upd_none_back nvl)
    have nv1 : vl ≠ p := pot1.nep nvl1
    have nv2 : vl ≠ l0 := pot1.nel nvl1
    have I2 : LRp T.C_Digests p l0 d vl nd H2 := ⟨pot2, hD⟩
    clear hS pot1 pot2 hD sm1 sm2 kp2 nvl1
    walk_at "my_rd"
    refine ⟨p, l0, 21, rfl, I2.pot, by omega, by omega, fun m H4 m0 m1 pot4 kp4 => ?_⟩
    have I4 := I2.next nv1 pot4 kp4
    walk_at "my_rd"
    refine q_lcR ⟨m0, by omega⟩ (fun oa noa => ⟨fun i H' => ∃ us : List Int, LRp T.C_Digests p l0 d vl nd H' ∧ H' oa = some (.lst (us.map V.int)) ∧ us.length = i ∧ ∀ u ∈ us, 0 ≤ u ∧ u < 3, ⟨[], I4.new noa, upd_same, rfl, by simp⟩, ?_, ?_⟩)
    · rintro i H' hi ⟨us, I, hoa, hl, hu⟩
      have nup : oa ≠ p := I4.pot.nep noa
      have nuv : oa ≠ vl := by obtain ⟨_, h, _⟩ := I4.dg.v; exact (ne_of_none h noa).symm
      walk_at "my_rd"
      refine ⟨rfl, ?_⟩
      walk_at "my_rd"
      refine ⟨p, l0, 3, rfl, I.pot, by omega, by omega, fun b H6 b0 b1 pot6 kp6 => ?_⟩
      have I6 := I.next nv1 pot6 kp6
      have hoa6 := kp6.get hoa nup
      walk_at "my_rd"
      refine q_accK (kp6.get hoa nup) (by rw [List.length_map]; exact small1000 (by omega)) ⟨us ++ [b], ⟨I6.pot.upd nup (I4.pot.nel noa), I6.dg.off hoa6 nuv⟩, by rw [upd_same, List.map_append]; rfl, by rw [List.length_append]; show us.length + 1 = i + 1; omega, fun u hu2 => ?_⟩
      rcases List.mem_append.mp hu2 with q | q
      · exact hu u q
      · rw [List.mem_singleton.mp q]; omega
    · rintro H5 ⟨us, I5, hoa, hl, hu⟩
      have hus : us.length ≤ 20 := by omega
      have hx4 : ∀ u ∈ us, 0 ≤ u ∧ u ≤ 4 := fun u h => ⟨(hu u h).1, by have := (hu u h).2; omega⟩
      have oup : oa ≠ p := I4.pot.nep noa
      have oul : oa ≠ l0 := I4.pot.nel noa
      have ouv : oa ≠ vl := by obtain ⟨_, h, _⟩ := I4.dg.v; exact (ne_of_none h noa).symm
      clear I2 I4 pot4 kp4 noa
      walk_at "my_rd"
      rw [List.length_map]
      walk_at "my_rd"
      refine ⟨p, l0, (us.length : Nat) + 1, rfl, I5.pot, by omega, by omega, fun ix H6 q0 q1 pot6 kp6 => ?_⟩
      obtain ⟨o, rfl⟩ := Int.eq_ofNat_of_zero_le q0
      have ho : o ≤ us.length := by omega
      have I6 := I5.next nv1 pot6 kp6
      have hoa6 := kp6.get hoa oup
      clear I5 hoa pot6 kp6
      walk_at "my_rd"
      refine q_slL (sqL hoa6) fun sa nsa => ?_
      rw [cut_take (by rw [List.length_map]; omega), ← List.map_take]
      have smS : Same H6 (upd H6 sa (.lst ((us.take o).map V.int))) := Same.new (Same.refl _) nsa
      have hsa : upd H6 sa (.lst ((us.take o).map V.int)) sa = some (.lst ((us.take o).map V.int)) := upd_same
      have sav : sa ≠ vl := by obtain ⟨_, h, _⟩ := I6.dg.v; exact (ne_of_none h nsa).symm
      generalize upd H6 sa (.lst ((us.take o).map V.int)) = H7 at smS hsa
      have I7 : LRp T.C_Digests p l0 d vl nd H7 := ⟨I6.pot.same smS, I6.dg.same smS⟩
      have hoa7 := smS _ _ hoa6
      clear I6 hoa6 smS nsa
      walk_at "my_rd"
      refine root_use2 I7.dg hsa sav (by rw [List.length_take]; omega) (fun x h => hx4 x (List.mem_of_mem_take h)) (by simp) fun H8 T8 i0 pre8 le8 D8 rt8 kq8 => ?_
      have pot8 := I7.pot.kq kq8 nv1.symm nv2.symm I7.dg.n
      have hoa8 := kq8 _ _ hoa7 ouv (ne_of hoa7 I7.dg.n (by intro z; cases z))
      have le8 : T8.length ≤ 50 := by simpa using le8
      clear I7 hoa7 hsa sav kq8 pre8
      walk_at "my_rd"
      refine root_use2 D8 hoa8 ouv (by omega) hx4 (by omega) fun H9 T9 r0 pre9 le9 D9 rt9 kq9 => ?_
      have L9 : LP T.C_Digests p l0 d vl nd oa us r0 T9 H9 := ⟨pot8.kq kq9 nv1.symm nv2.symm D8.n, D9, rt9, kq9 _ _ hoa8 ouv (ne_of hoa8 D8.n (by intro z; cases z)), nv1.symm, nv2.symm, ouv, oup⟩
      have ro9 := rt8.mono pre9
      clear pot8 hoa8 D8 rt8 D9 rt9 kq9 pre9
      walk_at "my_rd"
      refine q_listL (sqL L9.ha) fun ob nob => ?_
      have smB : Same H9 (upd H9 ob (.lst (us.map V.int))) := Same.new (Same.refl _) nob
      have hob : upd H9 ob (.lst (us.map V.int)) ob = some (.lst (us.map V.int)) := upd_same
      have bv : ob ≠ vl := by obtain ⟨_, h, _⟩ := L9.dg.v; exact (ne_of_none h nob).symm
      have LA := L9.same smB
      generalize upd H9 ob (.lst (us.map V.int)) = HA at hob LA
      clear L9 smB nob
      walk_at "my_rd"
      refine LA.gpap (by omega) hob bv hus hx4 ho fun HB TB pa ws rs LB preB leB kqB hpa hR hG => ?_
      have roB := ro9.mono preB
      clear LA hob bv ro9 preB kqB
      walk_at "my_rd"
      refine q_lstK (Nat.le_of_ble_eq_true rfl) fun fd nfd => ?_
      have smD : Same HB (upd HB fd (.lst [])) := Same.new (Same.refl _) nfd
      have hfd : upd HB fd (.lst []) fd = some (.lst []) := upd_same
      have fdv : fd ≠ vl := by obtain ⟨_, h, _⟩ := LB.dg.v; exact (ne_of_none h nfd).symm
      have fdp : fd ≠ p := LB.pot.nep nfd
      have fdl : fd ≠ l0 := LB.pot.nel nfd
      have fda : fd ≠ oa := (ne_of_none LB.ha nfd).symm
      have LD := LB.same smD
      have hpaD := smD _ _ hpa
      have hRD := hR.same smD
      generalize upd HB fd (.lst []) = HD at smD hfd LD hpaD hRD
      clear LB hpa hR smD nfd
      walk_at "my_rd"
      refine ⟨0, o, rfl, by omega, fun s1 HE v1 ns1 smE hs1 rE => ?_⟩
      walk_at "my_rd"
      refine ⟨o, us.length, rfl, by omega, fun s2 HF v2 ns2 smF hs2 rF => ?_⟩
      have l1 := rE.len
      have l2 := rF.len
      have l3 := wid_len (e := o) (f := 30) (s := 0)
      have l4 := wid_len (e := us.length) (f := 30) (s := o)
      walk_at "my_rd"
      refine q_cat (smF _ _ hs1) hs2 (Nat.le_of_lt (small1000 (by omega))) fun s3 ns3 => ?_
      have rG : RowsAt f2 (upd HF s3 (.lst (v1 ++ v2))) (v1 ++ v2) (spans o us.length) := ((rE.same smF).app rF).same (Same.new (Same.refl _) ns3)
      have smG : Same HD (upd HF s3 (.lst (v1 ++ v2))) := Same.new (smE.trans smF) (Same.free (smE.trans smF) ns3)
      have hs3 : upd HF s3 (.lst (v1 ++ v2)) s3 = some (.lst (v1 ++ v2)) := upd_same
      have s3d : s3 ≠ fd := (ne_of_none (smF _ _ (smE _ _ hfd)) ns3).symm
      generalize upd HF s3 (.lst (v1 ++ v2)) = HG at rG smG hs3
      have s3v : s3 ≠ vl := by obtain ⟨_, h, _⟩ := LD.dg.v; exact (ne_of_none (smF _ _ (smE _ _ h)) ns3).symm
      generalize v1 ++ v2 = vv at rG hs3
      have LG0 := LD.same smG
      have hpG := smG _ _ hpaD
      have hRG := hRD.same smG
      have hfG := smG _ _ hfd
      have lsp := spans_len ho
      have lvv := rG.len
      clear LD hpaD hRD hfd smE smF hs1 hs2 rE rF l1 l2 l3 l4 smG ns1 ns2 ns3
      obtain ⟨_, hvG, _⟩ := LG0.dg.v
      walk_at "my_rd"
      refine q_forL (sqL hs3) (fun j σ H' => ∃ (T3 : List NestedKey) (w2 : List V) (rs2 : List Row) (v10 : Option V), σ = [some (.ref a0), some (.ref p), some (.ref d), some (.ref oa), some (.int (us.length : Nat)), some (.int (o : Nat)), some (.int (i0 : Nat)), some (.int (r0 : Nat)), some (.ref pa), some (.ref fd), v10, none, none, none, none, none] ∧ TB <+: T3 ∧ T3.length ≤ TB.length + 50 * j ∧ LP T.C_Digests p l0 d vl nd oa us r0 T3 H' ∧
          (∀ b c, HG b = some c → b ≠ vl → b ≠ nd → b ≠ fd → H' b = some c) ∧ H' fd = some (.lst w2) ∧ RowsAt f3 H' w2 rs2 ∧ rs2.length = j ∧ GR T3 us ((spans o us.length).take j) rs2)
        ⟨TB, [], [], _, rfl, List.prefix_refl _, by omega, LG0, fun _ _ h _ _ _ => h, hfG, .nil, rfl, by rw [List.take_zero]; exact .nil⟩ ?_ ?_ ?_
      · rintro j σ H' _ ⟨T3, w2, rs2, v10, rfl, pre, le, L, kk, hf, hR2, hjl, hG2⟩
        exact sqL (kk _ _ hs3 s3v (ne_of hs3 LG0.dg.n (by intro z; cases z)) s3d)
      · rintro j x σ H' hx ⟨T3, w2, rs2, v10, rfl, pre, le, L, kk, hf, hR2, hjl, hG2⟩
        obtain ⟨q, t, hq, rfl, ht⟩ := rG.item hx
        have hjs : j < (spans o us.length).length := (List.getElem?_eq_some_iff.mp hq).1
        have hqm := spans_mem ho (List.mem_of_getElem? hq)
        have ht : HG t = some (.tup [.int (q.1 : Nat), .int (q.2 : Nat)]) := ht
        have ht2 := kk _ _ ht (ne_of ht hvG (by intro z; cases z)) (ne_of ht LG0.dg.n (by intro z; cases z)) (ne_of ht hfG (by intro z; cases z))
        have lw2 := hR2.len
        walk_at "my_rd"
        rw [show ((q.1 : Nat) : Int) + ((q.2 : Nat) : Int) = ((q.1 + q.2 : Nat) : Int) from rfl]
        refine q_slL (sqL L.ha) fun y ny => ?_
        rw [cut_seg (by omega) (by rw [List.length_map]; omega), seg_map]
        have smy : Same H' (upd H' y (.lst ((seg us q.1 (q.1 + q.2)).map V.int))) := Same.new (Same.refl _) ny
        have hy : upd H' y (.lst ((seg us q.1 (q.1 + q.2)).map V.int)) y = some (.lst ((seg us q.1 (q.1 + q.2)).map V.int)) := upd_same
        have yv : y ≠ vl := by obtain ⟨_, h, _⟩ := L.dg.v; exact (ne_of_none h ny).symm
        generalize upd H' y (.lst ((seg us q.1 (q.1 + q.2)).map V.int)) = H2 at smy hy
        have L2' := L.same smy
        have hf2 := smy _ _ hf
        have hRb := hR2.same smy
        have hsl := seg_len (xs := us) (s := q.1) (e := q.1 + q.2) (by omega)
        walk_at "my_rd"
        refine root_use2 L2'.dg hy yv (by omega) (fun x h => hx4 x (seg_mem h)) (by omega) fun H3 T4 r pre4 hl4 hD4 r4 kq4 => ?_
        have L3 := L2'.kq kq4 hD4 pre4
        have hf3' := kq4 _ _ hf2 fdv (ne_of hf2 L2'.dg.n (by intro z; cases z))
        have hRc := L2'.rows hRb kq4
        walk_at "my_rd"
        refine q_tupK (Nat.le_of_ble_eq_true rfl) fun t5 nt5 => ?_
        have sm5 : Same H3 (upd H3 t5 (.tup [.int (q.1 : Nat), .int (q.2 : Nat), .int (r : Nat)])) := Same.new (Same.refl _) nt5
        have ht5 : upd H3 t5 (.tup [.int (q.1 : Nat), .int (q.2 : Nat), .int (r : Nat)]) t5 = some (.tup (f3 (rowOf q r))) := upd_same
        generalize upd H3 t5 (.tup [.int (q.1 : Nat), .int (q.2 : Nat), .int (r : Nat)]) = H5 at sm5 ht5
        have L5 := L3.same sm5
        have hf5 := sm5 _ _ hf3'
        have hRd := hRc.same sm5
        walk_at "my_rd"
        refine q_append hf5 (small1000 (by omega)) ?_
        walk_at "my_rd"
        have tp : ∀ b ys, H5 b = some (.tup ys) → upd H5 fd (.lst (w2 ++ [.ref t5])) b = some (.tup ys) := fun b ys q => upd_other (ne_of q hf5 (by intro z; cases z)) q
        refine ⟨T4, w2 ++ [.ref t5], rs2 ++ [rowOf q r], _, rfl, pre.trans pre4, by omega, L5.off hf5 fdv fdp fdl fda, fun b c hb n1 n2 n3 => upd_other n3 (sm5 _ _ (kq4 _ _ (smy _ _ (kk _ _ hb n1 n2 n3)) n1 n2)), upd_same, (hRd.mono tp).snoc (tp _ _ ht5), by rw [List.length_append]; show rs2.length + 1 = j + 1; omega, ?_⟩
        rw [List.take_add_one, hq]
        exact (hG2.mono pre4).snoc r4
      · rintro σ H' ⟨T3, w2, rs2, v10, rfl, pre, le, L, kk, hf, hR2, hjl, hG2⟩
        rw [List.take_of_length_le (by omega)] at hG2
        have hG3 := hG.mono pre
        obtain rfl := hG2.fn L.dg.un hG3
        have tp : ∀ b ys, HG b = some (.tup ys) → H' b = some (.tup ys) := fun b ys q => kk _ _ q (ne_of q hvG (by intro z; cases z)) (ne_of q LG0.dg.n (by intro z; cases z)) (ne_of q hfG (by intro z; cases z))
        have G1 : LG T.C_Digests p l0 d vl nd oa pa us ws rs2 o r0 i0 4000 H' := ⟨⟨T3, by omega, L, roB.mono pre, hG3⟩, tp _ _ hpG, hRG.mono tp⟩
        clear L kk hG3 hG2 hG roB tp hpG hRG LG0 hfG rG hs3 hvG pre le leB
        have hp1 := G1.hp
        walk_at "my_rd"
        refine q_tupL (sqL hf) fun tq ntq => ?_
        have smq : Same H' (upd H' tq (.tup w2)) := Same.new (Same.refl _) ntq
        have htq : upd H' tq (.tup w2) tq = some (.tup w2) := upd_same
        generalize upd H' tq (.tup w2) = H2 at smq htq
        refine q_neD (d := .tuple (rs2.map dp3)) (e := .tuple (rs2.map dp3)) (.tup (sqT (smq _ _ hp1)) (RowsAt.dp dp3_ok (G1.hR.same smq))) (.tup (sqT htq) (RowsAt.dp dp3_ok (hR2.same smq))) (pd_shapedT dp3_fine _).1 (pd_shapedT dp3_fine _).1 ?_
        rw [SeqAt.eqv_refl _ (pd_shapedT dp3_fine _).2]
        have G2 := G1.same smq
        have hrl := G2.len ho
        have hrb := G2.lt (by omega)
        have hlw := G2.hR.len
        clear G1 hp1 hf hR2 smq htq ntq
        walk_at "my_rd"
        refine G2.chk (by omega) ho hus G2.hp G2.hR (by omega) (fun r hr => by have := hrb r hr; omega) fun H3 G3 kq3 => ?_
        rw [show decide (rs2 = rs2) = true by simp]
        walk_at "my_rd"
        rw [show (!decide (true = true)) = false from rfl]
        clear G2 kq3
        have hp3 := G3.hp
        walk_at "my_rd"
        refine q_join (fun σ H' => ∃ v10 v12 v13 v14 : Option V, σ = [some (.ref a0), some (.ref p), some (.ref d), some (.ref oa), some (.int (us.length : Nat)), some (.int (o : Nat)), some (.int (i0 : Nat)), some (.int (r0 : Nat)), some (.ref pa), some (.ref fd), v10, none, v12, v13, v14, none] ∧ LG T.C_Digests p l0 d vl nd oa pa us ws rs2 o r0 i0 6000 H') ?_ ?_
        · rintro σ H4 ⟨v10, v12, v13, v14, rfl, G4⟩
          clear G3 hp3
          walk_at "my_rd"
          refine G4.chkR (by omega) ho hus (by omega) fun H5 G5 _ => ?_
          walk_at "my_rd"
          refine G5.chkR (by omega) ho hus (by omega) fun H6 G6 _ => ?_
          clear G4 G5
          walk_at "my_rd"
          refine q_listL (sqL G6.ha) fun ob nob => ?_
          have smo : Same H6 (upd H6 ob (.lst (us.map V.int))) := Same.new (Same.refl _) nob
          have hob : upd H6 ob (.lst (us.map V.int)) ob = some (.lst (us.map V.int)) := upd_same
          have obv := G6.fresh nob
          have obp : ob ≠ p := G6.pot.nep nob
          have obl : ob ≠ l0 := G6.pot.nel nob
          have oba : ob ≠ oa := (ne_of_none G6.ha nob).symm
          have G7 := G6.same smo
          generalize upd H6 ob (.lst (us.map V.int)) = H7 at hob G7
          clear G6 smo nob
          walk_at "my_rd"
          refine q_join (fun σ H' => ∃ v10 v12 v13 v14 : Option V, σ = [some (.ref a0), some (.ref p), some (.ref d), some (.ref oa), some (.int (us.length : Nat)), some (.int (o : Nat)), some (.int (i0 : Nat)), some (.int (r0 : Nat)), some (.ref pa), some (.ref fd), v10, some (.ref ob), v12, v13, v14, none] ∧ LG T.C_Digests p l0 d vl nd oa pa us ws rs2 o r0 i0 16000 H') ?_ ?_
          · rintro σ H8 ⟨v10, v12, v13, v14, rfl, G8⟩
            clear G7 hob
            walk_at "my_rd"
            refine G8.chkF (by omega) ho hus (by omega) (by omega) ?_
            walk_at "my_rd"
            rw [show (!decide (false = false)) = false from rfl]
            walk_at "my_rd"
            refine G8.ref' (by omega) hus hx4 (by omega) ?_
            walk_at "my_rd"
            refine G8.ref' (by omega) hus hx4 (by omega) ?_
            exact k _
          · intro N hN
            refine q_if2 (fun h => ?_) (fun h => ?_)
            · have h := dec_t h
              walk_at "my_rd"
              refine ⟨p, l0, (o : Nat), rfl, G7.pot, by omega, by omega, fun ax H8 a1 a2 pot8 kp8 => ?_⟩
              obtain ⟨k', rfl⟩ := Int.eq_ofNat_of_zero_le a1
              have hk : k' < o := by omega
              have G8 := G7.next pot8 kp8
              have hob8 := kp8.get hob obp
              clear G7 hob pot8 kp8
              walk_at "my_rd"
              refine q_ixLt hob8 (at_int (x := .int us[k']) rfl (by rw [List.getElem?_map, List.getElem?_eq_getElem (by omega)]; rfl)) ?_
              walk_at "my_rd"
              refine q_setL (n := k') hob8 (by unfold ixN; rw [if_pos (by omega), if_pos (by rw [List.length_map]; omega)]; rfl) ?_
              rw [← List.map_set]
              obtain ⟨ys, hys⟩ : ∃ ys, ys = us.set k' (us[k'] + 1) := ⟨_, rfl⟩
              rw [← hys]
              have hyl : ys.length = us.length := by rw [hys, List.length_set]
              have hy4 : ∀ y ∈ ys, 0 ≤ y ∧ y ≤ 4 := fun y hy => by
                rw [hys] at hy
                rcases List.mem_or_eq_of_mem_set hy with q | q
                · exact hx4 y q
                · have := hu us[k'] (List.getElem_mem _); omega
              have hne : us.take o ≠ ys.take o := fun e => by
                have := congrArg (fun l => l[k']?) e
                simp only [List.getElem?_take, if_pos hk] at this
                rw [hys, List.getElem?_set_self (by omega), List.getElem?_eq_getElem (by omega)] at this
                have := Option.some.inj this
                omega
              obtain ⟨⟨T8, hT8, L8, rt8, g8⟩, hp8, hR8⟩ := G8
              have L9 := L8.off (w := .lst (ys.map V.int)) hob8 obv obp obl oba
              have tp : ∀ b zs, H8 b = some (.tup zs) → upd H8 ob (.lst (ys.map V.int)) b = some (.tup zs) := fun b zs q => upd_other (ne_of q hob8 (by intro z; cases z)) q
              have hp9 := tp _ _ hp8
              have hR9 := hR8.mono tp
              have hob9 : upd H8 ob (.lst (ys.map V.int)) ob = some (.lst (ys.map V.int)) := upd_same
              generalize upd H8 ob (.lst (ys.map V.int)) = H9 at L9 hp9 hR9 hob9
              clear L8 hob8 tp hp8 hR8
              walk_at "my_rd"
              refine root_use2 L9.dg hob9 obv (by omega) hy4 (by omega) fun HA TA r1 preA leA dA rtA kqA => ?_
              have LA := L9.kq kqA dA preA
              have hobA := kqA _ _ hob9 obv (ne_of hob9 L9.dg.n (by intro z; cases z))
              have hpA := L9.tup hp9 kqA
              have hRA := L9.rows hR9 kqA
              walk_at "my_rd"
              refine LA.gpap (by omega) hobA obv (by omega) hy4 (by omega) fun HB TB2 pb ws3 rs3 LB preB leB kqB hpb hR3 g3 => ?_
              have hpB := LA.tup hpA kqB
              have hRB := LA.rows hRA kqB
              rw [hyl] at g3
              walk_at "my_rd"
              refine LB.chg (rs := rs3) (by omega) ho hus hpb hR3 (by rw [g3.len]; have := spans_len ho; omega) (fun r hr => by have := g3.lt r hr; omega) fun HC TC res LC preC leC kqC e1 _ => ?_
              have hpC := LB.tup hpB kqC
              have hRC := LB.rows hRB kqC
              have eF : res = false := by
                cases res with
                | false => rfl
                | true =>
                  obtain ⟨_, j0, _⟩ := e1 rfl
                  have g4 := g3.mono preC
                  obtain ⟨j, ej, rj⟩ := je_of (xs := ys) (GR.pre g4) (fits_old o (by omega)) (by omega) (by omega) j0
                  obtain rfl := Int.ofNat.inj ej
                  rw [seg_pre] at rj
                  exact absurd ((rt8.mono (preA.trans (preB.trans preC))).inj rj) hne
              rw [eF]
              walk_at "my_rd"
              rw [show (!decide (false = false)) = false from rfl]
              walk_at "my_rd"
              exact hN _ _ ⟨_, _, _, _, rfl, ⟨⟨TC, by omega, LC, rt8.mono (preA.trans (preB.trans preC)), g8.mono (preA.trans (preB.trans preC))⟩, hpC, hRC⟩⟩
            · have h := dec_f h
              walk_at "my_rd"
              exact hN _ _ ⟨_, _, _, _, rfl, G7.le (by omega)⟩
        · intro N hN
          refine q_if2 (fun h => ?_) (fun h => ?_)
          · have h := dec_t h
            walk_at "my_rd"
            refine ⟨p, l0, (ws.length : Nat), rfl, G3.pot, by omega, by omega, fun ax H4 a1 a2 pot4 kp4 => ?_⟩
            obtain ⟨k', rfl⟩ := Int.eq_ofNat_of_zero_le a1
            have hk : k' < rs2.length := by omega
            have Ge0 := G3.next pot4 kp4
            clear G3 pot4 kp4 hp3
            have hpe0 := Ge0.hp
            obtain ⟨r, hr⟩ : ∃ r, rs2[k']? = some r := ⟨_, List.getElem?_eq_getElem hk⟩
            obtain ⟨tr, hwk, htr⟩ := Ge0.hR.at_ k' r hr
            have htre0 : H4 tr = some (.tup [.int r.1, .int r.2.1, .int r.2.2]) := htr
            walk_at "my_rd"
            refine q_ixT (sqT hpe0) (at_int rfl hwk) ?_
            walk_at "my_rd"
            refine q_slA hpe0 fun c1 A1 s1 g1 => ?_
            rw [cut_take (by omega)] at g1
            walk_at "my_rd"
            rw [show ((k' : Nat) : Int) + 1 = ((k' + 1 : Nat) : Int) from rfl]
            refine q_slA (s1 _ _ hpe0) fun c2 A2 s2 g2 => ?_
            rw [cut_drop (by omega)] at g2
            walk_at "my_rd"
            refine q_catA (s2 _ _ g1) g2 (Nat.le_of_lt (small1000 (by rw [List.length_take, List.length_drop]; omega))) fun ce1 He1 s3 ge1 => ?_
            have se1 : Same H4 He1 := s1.trans (s2.trans s3)
            have rwe1 : RowsAt f3 He1 (ws.take k' ++ ws.drop (k' + 1)) (rs2.take k' ++ rs2.drop (k' + 1)) := ((Ge0.hR.same se1).take k').app ((Ge0.hR.same se1).drop (k' + 1))
            have Ge1 := Ge0.same se1
            have hpe1 := Ge1.hp
            have htre1 : He1 tr = some (.tup [.int r.1, .int r.2.1, .int r.2.2]) := se1 _ _ htre0
            clear Ge0 hpe0 htre0 htr s1 s2 s3 g1 g2
            walk_at "my_rd"
            refine q_slA hpe1 fun b2 B2 s2 g2 => ?_
            rw [cut_take (by omega)] at g2
            have htr2 : B2 tr = some (.tup [.int r.1, .int r.2.1, .int r.2.2]) := s2 _ _ htre1
            walk_at "my_rd"
            refine q_tupK (Nat.le_of_ble_eq_true rfl) fun x2 nx2 => ?_
            have sx2 : Same B2 (upd B2 x2 (.tup [.int (r.1), .int (r.2.1), .int (r.2.2 + 1)])) := Same.new (Same.refl _) nx2
            have hx2 : upd B2 x2 (.tup [.int (r.1), .int (r.2.1), .int (r.2.2 + 1)]) x2 = some (.tup (f3 (r.1, r.2.1, r.2.2 + 1))) := upd_same
            generalize upd B2 x2 (.tup [.int (r.1), .int (r.2.1), .int (r.2.2 + 1)]) = C2 at sx2 hx2
            walk_at "my_rd"
            refine q_tupK (Nat.le_of_ble_eq_true rfl) fun y2 ny2 => ?_
            have sy2 : Same C2 (upd C2 y2 (.tup [.ref x2])) := Same.new (Same.refl _) ny2
            have hy2 : upd C2 y2 (.tup [.ref x2]) y2 = some (.tup [.ref x2]) := upd_same
            generalize upd C2 y2 (.tup [.ref x2]) = D2 at sy2 hy2
            refine q_catA (sy2 _ _ (sx2 _ _ g2)) hy2 (Nat.le_of_lt (small1000 (by rw [List.length_take]; show _ + 1 ≤ 1000; omega))) fun z2 E2 sz2 gz2 => ?_
            walk_at "my_rd"
            rw [show ((k' : Nat) : Int) + 1 = ((k' + 1 : Nat) : Int) from rfl]
            have sE2 : Same He1 E2 := s2.trans (sx2.trans (sy2.trans sz2))
            refine q_slA (sE2 _ _ hpe1) fun u2 F2 su2 gu2 => ?_
            rw [cut_drop (by omega)] at gu2
            walk_at "my_rd"
            refine q_catA (su2 _ _ gz2) gu2 (Nat.le_of_lt (small1000 (by rw [List.length_append, List.length_take, List.length_drop]; show _ + 1 + _ ≤ 1000; omega))) fun c2 He2 sv2 gv2 => ?_
            have sF2 : Same E2 He2 := su2.trans sv2
            have st2 : Same He1 He2 := sE2.trans sF2
            have rw2 : RowsAt f3 He2 ((ws.take k' ++ [.ref x2]) ++ ws.drop (k' + 1)) ((rs2.take k' ++ [(r.1, r.2.1, r.2.2 + 1)]) ++ rs2.drop (k' + 1)) := (((Ge1.hR.same st2).take k').app (RowsAt.one (sF2 _ _ (sz2 _ _ (sy2 _ _ hx2))))).app ((Ge1.hR.same st2).drop (k' + 1))
            have Ge2 := Ge1.same st2
            have hpe2 := Ge2.hp
            have htre2 : He2 tr = some (.tup [.int r.1, .int r.2.1, .int r.2.2]) := st2 _ _ htre1
            walk_at "my_rd"
            refine q_slA hpe2 fun b3 B3 s3 g3 => ?_
            rw [cut_take (by omega)] at g3
            have htr3 : B3 tr = some (.tup [.int r.1, .int r.2.1, .int r.2.2]) := s3 _ _ htre2
            walk_at "my_rd"
            refine q_tupK (Nat.le_of_ble_eq_true rfl) fun x3 nx3 => ?_
            have sx3 : Same B3 (upd B3 x3 (.tup [.int (r.1 + 1), .int (r.2.1), .int (r.2.2)])) := Same.new (Same.refl _) nx3
            have hx3 : upd B3 x3 (.tup [.int (r.1 + 1), .int (r.2.1), .int (r.2.2)]) x3 = some (.tup (f3 (r.1 + 1, r.2.1, r.2.2))) := upd_same
            generalize upd B3 x3 (.tup [.int (r.1 + 1), .int (r.2.1), .int (r.2.2)]) = C3 at sx3 hx3
            walk_at "my_rd"
            refine q_tupK (Nat.le_of_ble_eq_true rfl) fun y3 ny3 => ?_
            have sy3 : Same C3 (upd C3 y3 (.tup [.ref x3])) := Same.new (Same.refl _) ny3
            have hy3 : upd C3 y3 (.tup [.ref x3]) y3 = some (.tup [.ref x3]) := upd_same
            generalize upd C3 y3 (.tup [.ref x3]) = D3 at sy3 hy3
            refine q_catA (sy3 _ _ (sx3 _ _ g3)) hy3 (Nat.le_of_lt (small1000 (by rw [List.length_take]; show _ + 1 ≤ 1000; omega))) fun z3 E3 sz3 gz3 => ?_
            walk_at "my_rd"
            rw [show ((k' : Nat) : Int) + 1 = ((k' + 1 : Nat) : Int) from rfl]
            have sE3 : Same He2 E3 := s3.trans (sx3.trans (sy3.trans sz3))
            refine q_slA (sE3 _ _ hpe2) fun u3 F3 su3 gu3 => ?_
            rw [cut_drop (by omega)] at gu3
            walk_at "my_rd"
            refine q_catA (su3 _ _ gz3) gu3 (Nat.le_of_lt (small1000 (by rw [List.length_append, List.length_take, List.length_drop]; show _ + 1 + _ ≤ 1000; omega))) fun c3 He3 sv3 gv3 => ?_
            have sF3 : Same E3 He3 := su3.trans sv3
            have st3 : Same He2 He3 := sE3.trans sF3
            have rw3 : RowsAt f3 He3 ((ws.take k' ++ [.ref x3]) ++ ws.drop (k' + 1)) ((rs2.take k' ++ [(r.1 + 1, r.2.1, r.2.2)]) ++ rs2.drop (k' + 1)) := (((Ge2.hR.same st3).take k').app (RowsAt.one (sF3 _ _ (sz3 _ _ (sy3 _ _ hx3))))).app ((Ge2.hR.same st3).drop (k' + 1))
            have Ge3 := Ge2.same st3
            have hpe3 := Ge3.hp
            have htre3 : He3 tr = some (.tup [.int r.1, .int r.2.1, .int r.2.2]) := st3 _ _ htre2
            walk_at "my_rd"
            refine q_tupK (Nat.le_of_ble_eq_true rfl) fun x4 nx4 => ?_
            have s4 : Same He3 (upd He3 x4 (.tup [.ref tr])) := Same.new (Same.refl _) nx4
            refine q_catA (s4 _ _ hpe3) upd_same (Nat.le_of_lt (small1000 (by show _ + 1 ≤ 1000; omega))) fun c4 He4 s5 g4 => ?_
            have s6 : Same He3 He4 := s4.trans s5
            have Ge4 := Ge3.same s6
            have rw4 : RowsAt f3 He4 (ws ++ [.ref tr]) (rs2 ++ [r]) := Ge4.hR.app (RowsAt.one (s6 _ _ htre3))
            have k1 := s6 _ _ (st3 _ _ (st2 _ _ ge1))
            have k2 := s6 _ _ (st3 _ _ gv2)
            have k3 := s6 _ _ gv3
            have m1 := rwe1.same (st2.trans (st3.trans s6))
            have m2 := rw2.same (st3.trans s6)
            have m3 := rw3.same s6
            clear Ge1 Ge2 Ge3 hpe1 hpe2 hpe3 htre1 htre2 htre3 rwe1 rw2 rw3 ge1 gv2 gv3 s6 s5 s4 st2 st3
            walk_at "my_rd"
            refine q_lstK (Nat.le_of_ble_eq_true rfl) fun f1 nf1 => ?_
            have smf : Same He4 (upd He4 f1 (.lst [.ref ce1, .ref c2, .ref c3, .ref c4])) := Same.new (Same.refl _) nf1
            have hf1 : upd He4 f1 (.lst [.ref ce1, .ref c2, .ref c3, .ref c4]) f1 = some (.lst [.ref ce1, .ref c2, .ref c3, .ref c4]) := upd_same
            have f1v := Ge4.fresh nf1
            generalize upd He4 f1 (.lst [.ref ce1, .ref c2, .ref c3, .ref c4]) = HX at smf hf1
            have GX := Ge4.same smf
            have k1 := smf _ _ k1
            have k2 := smf _ _ k2
            have k3 := smf _ _ k3
            have k4 := smf _ _ g4
            have m1 := m1.same smf
            have m2 := m2.same smf
            have m3 := m3.same smf
            have m4 := rw4.same smf
            clear Ge4 smf g4 rw4
            have hrr := hrb r (List.mem_of_getElem? hr)
            walk_at "my_rd"
            refine q_forL (sqL hf1) (fun m σ H' => ∃ v14 : Option V, σ = [some (.ref a0), some (.ref p), some (.ref d), some (.ref oa), some (.int (us.length : Nat)), some (.int (o : Nat)), some (.int (i0 : Nat)), some (.int (r0 : Nat)), some (.ref pa), some (.ref fd), v10, none, some (.int (k' : Nat)), some (.ref tr), v14, none] ∧ LG T.C_Digests p l0 d vl nd oa pa us ws rs2 o r0 i0 (4200 + 100 * m) H' ∧ Kq vl nd HX H') ⟨_, rfl, GX.le (by omega), Kq.refl⟩ (fun _ _ H' _ ⟨_, _, q, e⟩ => sqL (GX.keep hf1 e f1v)) ?_ ?_
            · rintro m z σ H' hz ⟨v14, rfl, QB, kqB⟩
              have hm : m ≤ 3 := by have := (List.getElem?_eq_some_iff.mp hz).1; simp at this; omega
              obtain ⟨c, vs, ts, rfl, hc, hR, hy, hyl, hyb⟩ : ∃ c vs ts, z = .ref c ∧ HX c = some (.tup vs) ∧ RowsAt f3 HX vs ts ∧ ts ≠ rs2 ∧ ts.length ≤ 30 ∧ ∀ y ∈ ts, y.2.2.natAbs < 1000000 := by
                match m, hz with
                | 0, hz =>
                  refine ⟨_, _, _, (Option.some.inj hz).symm, k1, m1, fun e => ?_, by rw [List.length_append, List.length_take, List.length_drop]; omega, fun y hy => ?_⟩
                  · have := congrArg List.length e
                    rw [List.length_append, List.length_take, List.length_drop] at this
                    omega
                  · have := hrb y ((List.mem_append.mp hy).elim List.mem_of_mem_take List.mem_of_mem_drop)
                    omega
                | 1, hz =>
                  refine ⟨_, _, _, (Option.some.inj hz).symm, k2, m2, fun e => ?_, by rw [List.length_append, List.length_append, List.length_take, List.length_drop]; show _ + 1 + _ ≤ 30; omega, fun y hy => ?_⟩
                  · have := congrArg (fun l => l[k']?) e
                    rw [mid_at (by omega), hr] at this
                    have := congrArg (fun q : Row => q.2.2) (Option.some.inj this)
                    have : r.2.2 + 1 = r.2.2 := this
                    omega
                  · rcases List.mem_append.mp hy with hy | hy
                    · rcases List.mem_append.mp hy with hy | hy
                      · have := hrb y (List.mem_of_mem_take hy)
                        omega
                      · rw [List.mem_singleton.mp hy]
                        show (r.2.2 + 1).natAbs < _
                        omega
                    · have := hrb y (List.mem_of_mem_drop hy)
                      omega
                | 2, hz =>
                  refine ⟨_, _, _, (Option.some.inj hz).symm, k3, m3, fun e => ?_, by rw [List.length_append, List.length_append, List.length_take, List.length_drop]; show _ + 1 + _ ≤ 30; omega, fun y hy => ?_⟩
                  · have := congrArg (fun l => l[k']?) e
                    rw [mid_at (by omega), hr] at this
                    have := congrArg (fun q : Row => q.1) (Option.some.inj this)
                    have : r.1 + 1 = r.1 := this
                    omega
                  · rcases List.mem_append.mp hy with hy | hy
                    · rcases List.mem_append.mp hy with hy | hy
                      · have := hrb y (List.mem_of_mem_take hy)
                        omega
                      · rw [List.mem_singleton.mp hy]
                        show r.2.2.natAbs < _
                        omega
                    · have := hrb y (List.mem_of_mem_drop hy)
                      omega
                | 3, hz =>
                  refine ⟨_, _, _, (Option.some.inj hz).symm, k4, m4, fun e => ?_, by rw [List.length_append]; show _ + 1 ≤ 30; omega, fun y hy => ?_⟩
                  · have := congrArg List.length e
                    rw [List.length_append] at this
                    have : rs2.length + 1 = rs2.length := this
                    omega
                  · rcases List.mem_append.mp hy with hy | hy
                    · have := hrb y hy
                      omega
                    · rw [List.mem_singleton.mp hy]
                      omega
                | m + 4, hz => cases hz
              have hcB := GX.tup hc kqB
              have hRB := GX.rows hR kqB
              walk_at "my_rd"
              refine QB.chk (by omega) ho hus hcB hRB hyl hyb fun H2 Q2 kq2 => ?_
              rw [decide_eq_false hy]
              walk_at "my_rd"
              rw [show (!decide (false = false)) = false from rfl]
              walk_at "my_rd"
              exact ⟨_, rfl, Q2.le (by omega), Kq.trans kqB kq2⟩
            · rintro σ H' ⟨v14, rfl, QB, kqB⟩
              walk_at "my_rd"
              exact hN _ _ ⟨_, _, _, _, rfl, QB.le (by show 4200 + 100 * 4 ≤ 6000; decide)⟩
          · have h := dec_f h
            walk_at "my_rd"
            exact hN _ _ ⟨_, _, _, _, rfl, G3.le (by omega)⟩
end

def txt_mk {K : PySem.W.Frag} {h : Heap} {mg : Str → Option Value} (X : K.In h) (G : h.Ns mainGlobals mg)
    {f0 f1 f2 f3 f4 f5 f6 f7 f8 f9 f10 f11 f12 f13 f14 f15 f16 f17 f18 f19 f20 f21 C0 C1 C2 C3 : Addr} {od0 an0 od1 an1 od2 an2 od3 an3 od4 an4 od5 an5 od6 an6 od7 an7 od8 an8 od9 an9 od10 an10 od11 an11 od12 an12 od13 an13 od14 an14 od15 an15 od16 an16 od17 an17 od18 an18 od19 an19 od20 an20 od21 an21 : Option Addr} {sl0 sl1 sl2 sl3 sl4 sl5 sl6 sl7 sl8 sl9 sl10 sl11 sl12 sl13 sl14 sl15 sl16 sl17 sl18 sl19 sl20 sl21 : Array (Option Value)} {oc0 kV0 dc0 pm0 cd0 ct0 oc1 kV1 dc1 pm1 cd1 ct1 oc2 kV2 dc2 pm2 cd2 ct2 oc3 kV3 dc3 pm3 cd3 ct3 oc4 kV4 dc4 pm4 cd4 ct4 oc5 kV5 dc5 pm5 cd5 ct5 oc6 kV6 dc6 pm6 cd6 ct6 oc7 kV7 dc7 pm7 cd7 ct7 oc8 kV8 dc8 pm8 cd8 ct8 oc9 kV9 dc9 pm9 cd9 ct9 oc10 kV10 dc10 pm10 cd10 ct10 oc11 kV11 dc11 pm11 cd11 ct11 oc12 kV12 dc12 pm12 cd12 ct12 oc13 kV13 dc13 pm13 cd13 ct13 oc14 kV14 dc14 pm14 cd14 ct14 oc15 kV15 dc15 pm15 cd15 ct15 oc16 kV16 dc16 pm16 cd16 ct16 oc17 kV17 dc17 pm17 cd17 ct17 oc18 kV18 dc18 pm18 cd18 ct18 oc19 kV19 dc19 pm19 cd19 ct19 oc20 kV20 dc20 pm20 cd20 ct20 oc21 kV21 dc21 pm21 cd21 ct21 : Value} {tk0 : Tok}
    (a0 : PySem.W.nsIn K mainGlobals "_wall" = some (some (.ref f0)))
    (a1 : PySem.W.nsIn K mainGlobals "left_size" = some (some (.ref f1)))
    (a2 : PySem.W.nsIn K mainGlobals "root" = some (some (.ref f2)))
    (a3 : PySem.W.nsIn K mainGlobals "widest_parts" = some (some (.ref f3)))
    (a4 : PySem.W.nsIn K mainGlobals "growth_parts" = some (some (.ref f4)))
    (a5 : PySem.W.nsIn K mainGlobals "growth_paper" = some (some (.ref f5)))
    (a6 : PySem.W.nsIn K mainGlobals "joined" = some (some (.ref f6)))
    (a7 : PySem.W.nsIn K mainGlobals "check_growth" = some (some (.ref f7)))
    (a8 : PySem.W.nsIn K mainGlobals "write" = some (some (.ref f8)))
    (a9 : PySem.W.nsIn K mainGlobals "written_integer" = some (some (.ref f9)))
    (a10 : PySem.W.nsIn K mainGlobals "digits_of" = some (some (.ref f10)))
    (a11 : PySem.W.nsIn K mainGlobals "parted" = some (some (.ref f11)))
    (a16 : PySem.W.nsIn K mainGlobals "_law_pot" = some (some (.ref f16)))
    (a17 : PySem.W.nsIn K mainGlobals "_law_next" = some (some (.ref f17)))
    (a18 : PySem.W.nsIn K mainGlobals "_law_root" = some (some (.ref f18)))
    (a19 : PySem.W.nsIn K mainGlobals "_law_refused" = some (some (.ref f19)))
    (a20 : PySem.W.nsIn K mainGlobals "_law_spans" = some (some (.ref f20)))
    (a21 : PySem.W.nsIn K mainGlobals "law" = some (some (.ref f21)))
    (aC0 : PySem.W.nsIn K mainGlobals "BridgeError" = some (some (.ref C0)))
    (aC1 : PySem.W.nsIn K mainGlobals "InvalidArgument" = some (some (.ref C1)))
    (aC2 : PySem.W.nsIn K mainGlobals "UnknownDigest" = some (some (.ref C2)))
    (aC3 : PySem.W.nsIn K mainGlobals "Digests" = some (some (.ref C3)))
    (m12 : PySem.W.findIn K (.ref C3) "__init__" = some (some (.ref f12)))
    (m13 : PySem.W.findIn K (.ref C3) "number" = some (some (.ref f13)))
    (m14 : PySem.W.findIn K (.ref C3) "value" = some (some (.ref f14)))
    (m15 : PySem.W.findIn K (.ref C3) "count" = some (some (.ref f15)))
    (l0 : K.lookup f0 = some ⟨oc0, od0, .func (PySem.W.fnOf "_wall" "_wall" (defArgs s__wall) (defBody s__wall) (defScope s__wall) .none kV0 dc0 pm0 an0 cd0 ct0), sl0⟩)
    (c0 : PySem.W.codeIn K cd0 "_wall" = true)
    (k0 : PySem.W.keepIn K (.ref f0) = true)
    (l1 : K.lookup f1 = some ⟨oc1, od1, .func (PySem.W.fnOf "left_size" "left_size" (defArgs s_left_size) (defBody s_left_size) (defScope s_left_size) .none kV1 dc1 pm1 an1 cd1 ct1), sl1⟩)
    (c1 : PySem.W.codeIn K cd1 "left_size" = true)
    (k1 : PySem.W.keepIn K (.ref f1) = true)
    (l2 : K.lookup f2 = some ⟨oc2, od2, .func (PySem.W.fnOf "root" "root" (defArgs s_root) (defBody s_root) (defScope s_root) .none kV2 dc2 pm2 an2 cd2 ct2), sl2⟩)
    (c2 : PySem.W.codeIn K cd2 "root" = true)
    (k2 : PySem.W.keepIn K (.ref f2) = true)
    (l3 : K.lookup f3 = some ⟨oc3, od3, .func (PySem.W.fnOf "widest_parts" "widest_parts" (defArgs s_widest_parts) (defBody s_widest_parts) (defScope s_widest_parts) .none kV3 dc3 pm3 an3 cd3 ct3), sl3⟩)
    (c3 : PySem.W.codeIn K cd3 "widest_parts" = true)
    (k3 : PySem.W.keepIn K (.ref f3) = true)
    (l4 : K.lookup f4 = some ⟨oc4, od4, .func (PySem.W.fnOf "growth_parts" "growth_parts" (defArgs s_growth_parts) (defBody s_growth_parts) (defScope s_growth_parts) .none kV4 dc4 pm4 an4 cd4 ct4), sl4⟩)
    (c4 : PySem.W.codeIn K cd4 "growth_parts" = true)
    (k4 : PySem.W.keepIn K (.ref f4) = true)
    (l5 : K.lookup f5 = some ⟨oc5, od5, .func (PySem.W.fnOf "growth_paper" "growth_paper" (defArgs s_growth_paper) (defBody s_growth_paper) (defScope s_growth_paper) .none kV5 dc5 pm5 an5 cd5 ct5), sl5⟩)
    (c5 : PySem.W.codeIn K cd5 "growth_paper" = true)
    (k5 : PySem.W.keepIn K (.ref f5) = true)
    (l6 : K.lookup f6 = some ⟨oc6, od6, .func (PySem.W.fnOf "joined" "joined" (defArgs s_joined) (defBody s_joined) (defScope s_joined) .none kV6 dc6 pm6 an6 cd6 ct6), sl6⟩)
    (c6 : PySem.W.codeIn K cd6 "joined" = true)
    (k6 : PySem.W.keepIn K (.ref f6) = true)
    (l7 : K.lookup f7 = some ⟨oc7, od7, .func (PySem.W.fnOf "check_growth" "check_growth" (defArgs s_check_growth) (defBody s_check_growth) (defScope s_check_growth) .none kV7 dc7 pm7 an7 cd7 ct7), sl7⟩)
    (c7 : PySem.W.codeIn K cd7 "check_growth" = true)
    (k7 : PySem.W.keepIn K (.ref f7) = true)
    (l8 : K.lookup f8 = some ⟨oc8, od8, .func (PySem.W.fnOf "write" "write" (defArgs s_write) (defBody s_write) (defScope s_write) .none kV8 dc8 pm8 an8 cd8 ct8), sl8⟩)
    (c8 : PySem.W.codeIn K cd8 "write" = true)
    (k8 : PySem.W.keepIn K (.ref f8) = true)
    (l9 : K.lookup f9 = some ⟨oc9, od9, .func (PySem.W.fnOf "written_integer" "written_integer" (defArgs s_written_integer) (defBody s_written_integer) (defScope s_written_integer) .none kV9 dc9 pm9 an9 cd9 ct9), sl9⟩)
    (c9 : PySem.W.codeIn K cd9 "written_integer" = true)
    (k9 : PySem.W.keepIn K (.ref f9) = true)
    (l10 : K.lookup f10 = some ⟨oc10, od10, .func (PySem.W.fnOf "digits_of" "digits_of" (defArgs s_digits_of) (defBody s_digits_of) (defScope s_digits_of) .none kV10 dc10 pm10 an10 cd10 ct10), sl10⟩)
    (c10 : PySem.W.codeIn K cd10 "digits_of" = true)
    (k10 : PySem.W.keepIn K (.ref f10) = true)
    (l11 : K.lookup f11 = some ⟨oc11, od11, .func (PySem.W.fnOf "parted" "parted" (defArgs s_parted) (defBody s_parted) (defScope s_parted) .none kV11 dc11 pm11 an11 cd11 ct11), sl11⟩)
    (c11 : PySem.W.codeIn K cd11 "parted" = true)
    (k11 : PySem.W.keepIn K (.ref f11) = true)
    (l12 : K.lookup f12 = some ⟨oc12, od12, .func (PySem.W.fnOf "__init__" "Digests.__init__" (defArgs s_Digests_init) (defBody s_Digests_init) (defScope s_Digests_init) .none kV12 dc12 pm12 an12 cd12 ct12), sl12⟩)
    (c12 : PySem.W.codeIn K cd12 "Digests.__init__" = true)
    (k12 : PySem.W.keepIn K (.ref f12) = true)
    (l13 : K.lookup f13 = some ⟨oc13, od13, .func (PySem.W.fnOf "number" "Digests.number" (defArgs s_Digests_number) (defBody s_Digests_number) (defScope s_Digests_number) .none kV13 dc13 pm13 an13 cd13 ct13), sl13⟩)
    (c13 : PySem.W.codeIn K cd13 "Digests.number" = true)
    (k13 : PySem.W.keepIn K (.ref f13) = true)
    (l14 : K.lookup f14 = some ⟨oc14, od14, .func (PySem.W.fnOf "value" "Digests.value" (defArgs s_Digests_value) (defBody s_Digests_value) (defScope s_Digests_value) .none kV14 dc14 pm14 an14 cd14 ct14), sl14⟩)
    (c14 : PySem.W.codeIn K cd14 "Digests.value" = true)
    (k14 : PySem.W.keepIn K (.ref f14) = true)
    (l15 : K.lookup f15 = some ⟨oc15, od15, .func (PySem.W.fnOf "count" "Digests.count" (defArgs s_Digests_count) (defBody s_Digests_count) (defScope s_Digests_count) .none kV15 dc15 pm15 an15 cd15 ct15), sl15⟩)
    (c15 : PySem.W.codeIn K cd15 "Digests.count" = true)
    (k15 : PySem.W.keepIn K (.ref f15) = true)
    (l16 : K.lookup f16 = some ⟨oc16, od16, .func (PySem.W.fnOf "_law_pot" "_law_pot" (defArgs s_L_pot) (defBody s_L_pot) (defScope s_L_pot) .none kV16 dc16 pm16 an16 cd16 ct16), sl16⟩)
    (c16 : PySem.W.codeIn K cd16 "_law_pot" = true)
    (k16 : PySem.W.keepIn K (.ref f16) = true)
    (l17 : K.lookup f17 = some ⟨oc17, od17, .func (PySem.W.fnOf "_law_next" "_law_next" (defArgs s_L_next) (defBody s_L_next) (defScope s_L_next) .none kV17 dc17 pm17 an17 cd17 ct17), sl17⟩)
    (c17 : PySem.W.codeIn K cd17 "_law_next" = true)
    (k17 : PySem.W.keepIn K (.ref f17) = true)
    (l18 : K.lookup f18 = some ⟨oc18, od18, .func (PySem.W.fnOf "_law_root" "_law_root" (defArgs s_L_root) (defBody s_L_root) (defScope s_L_root) .none kV18 dc18 pm18 an18 cd18 ct18), sl18⟩)
    (c18 : PySem.W.codeIn K cd18 "_law_root" = true)
    (k18 : PySem.W.keepIn K (.ref f18) = true)
    (l19 : K.lookup f19 = some ⟨oc19, od19, .func (PySem.W.fnOf "_law_refused" "_law_refused" (defArgs s_L_refused) (defBody s_L_refused) (defScope s_L_refused) .none kV19 dc19 pm19 an19 cd19 ct19), sl19⟩)
    (c19 : PySem.W.codeIn K cd19 "_law_refused" = true)
    (k19 : PySem.W.keepIn K (.ref f19) = true)
    (l20 : K.lookup f20 = some ⟨oc20, od20, .func (PySem.W.fnOf "_law_spans" "_law_spans" (defArgs s_L_spans) (defBody s_L_spans) (defScope s_L_spans) .none kV20 dc20 pm20 an20 cd20 ct20), sl20⟩)
    (c20 : PySem.W.codeIn K cd20 "_law_spans" = true)
    (k20 : PySem.W.keepIn K (.ref f20) = true)
    (l21 : K.lookup f21 = some ⟨oc21, od21, .func (PySem.W.fnOf "law" "law" (defArgs s_law) (defBody s_law) (defScope s_law) .none kV21 dc21 pm21 an21 cd21 ct21), sl21⟩)
    (c21 : PySem.W.codeIn K cd21 "law" = true)
    (k21 : PySem.W.keepIn K (.ref f21) = true)
    (xe0 : PySem.W.excIn K C0 [.type "ValueError", .type "Exception", .type "BaseException", .type "object"] "ValueError.__new__" = true)
    (ke0 : PySem.W.keepIn K (.ref C0) = true)
    (be0 : PySem.W.subIn K (.ref C0) (.type "BaseException") = some true)
    (te0 : PySem.W.typeIn K (.ref C0) = some (.type "type"))
    (ie0 : PySem.W.isClsIn K C0 = true)
    (se0 : PySem.W.subIn K (.ref C0) (.ref C0) = some true)
    (hd0 : PySem.W.hasDictIn K C0 = true)
    (xe1 : PySem.W.excIn K C1 [.type "ValueError", .type "Exception", .type "BaseException", .type "object"] "ValueError.__new__" = true)
    (ke1 : PySem.W.keepIn K (.ref C1) = true)
    (be1 : PySem.W.subIn K (.ref C1) (.type "BaseException") = some true)
    (te1 : PySem.W.typeIn K (.ref C1) = some (.type "type"))
    (ie1 : PySem.W.isClsIn K C1 = true)
    (se1 : PySem.W.subIn K (.ref C1) (.ref C1) = some true)
    (hg1 : PySem.W.findIn K (.ref C1) "__getattribute__" = some (some (.builtin "BaseException.__getattribute__")))
    (hk1 : PySem.W.findIn K (.ref C1) "__getattr__" = some none)
    (hd1 : PySem.W.hasDictIn K C1 = true)
    (ha1 : PySem.W.findIn K (.ref C1) "__class__" = some (some (.builtin "object.__class__")))
    (hm1 : PySem.W.mroIn K C1 (.type "object") = some true)
    (hn1 : PySem.W.specialIn K (.builtin "object.__class__") "__get__" = some (some (.builtin "getset_descriptor.__get__")))
    (ht1 : PySem.W.takesIn K (.builtin "object.__class__") = some true)
    (ue1 : PySem.W.subIn K (.ref C1) (.ref C0) = some true)
    (xe2 : PySem.W.excIn K C2 [.type "ValueError", .type "Exception", .type "BaseException", .type "object"] "ValueError.__new__" = true)
    (ke2 : PySem.W.keepIn K (.ref C2) = true)
    (be2 : PySem.W.subIn K (.ref C2) (.type "BaseException") = some true)
    (te2 : PySem.W.typeIn K (.ref C2) = some (.type "type"))
    (ie2 : PySem.W.isClsIn K C2 = true)
    (se2 : PySem.W.subIn K (.ref C2) (.ref C2) = some true)
    (ue2 : PySem.W.subIn K (.ref C2) (.ref C0) = some true)
    (pg3 : PySem.W.plainGet K C3 Str.empty = true)
    (hd3 : PySem.W.hasDictIn K C3 = true)
    (po3 : PySem.W.plainOver K C3 = true)
    (sa3 : PySem.W.findIn K (.ref C3) "__setattr__" = some (some (.builtin "object.__setattr__")))
    (mk3 : PySem.W.makesIn K C3 = true)
    (kc3 : PySem.W.keepIn K (.ref C3) = true)
    (i12 : PySem.W.isFn K (.ref f12) = true)
    (i13 : PySem.W.isFn K (.ref f13) = true)
    (i14 : PySem.W.isFn K (.ref f14) = true)
    (i15 : PySem.W.isFn K (.ref f15) = true)
    (n3_0 : PySem.W.findIn K (.ref C3) "_values" = some none)
    (n3_1 : PySem.W.findIn K (.ref C3) "_numbers" = some none)
    (q0 : PySem.W.nsIn K mainGlobals "PIECE" = some (some (.int 10000000000000000000000000000000000000000000000000000000000000000 tk0)))
    (z0 : PySem.W.nsIn K mainGlobals "abs" = some none)
    (z1 : PySem.W.nsIn K mainGlobals "all" = some none)
    (z2 : PySem.W.nsIn K mainGlobals "int" = some none)
    (z3 : PySem.W.nsIn K mainGlobals "isinstance" = some none)
    (z4 : PySem.W.nsIn K mainGlobals "len" = some none)
    (z5 : PySem.W.nsIn K mainGlobals "list" = some none)
    (z6 : PySem.W.nsIn K mainGlobals "range" = some none)
    (z7 : PySem.W.nsIn K mainGlobals "reversed" = some none)
    (z8 : PySem.W.nsIn K mainGlobals "str" = some none)
    (z9 : PySem.W.nsIn K mainGlobals "tuple" = some none) : Txt K mg where
  f__wall := f0
  d__wall := PySem.W.fnOf "_wall" "_wall" (defArgs s__wall) (defBody s__wall) (defScope s__wall) .none kV0 dc0 pm0 an0 cd0 ct0
  F__wall := fun_mk (st := s__wall) l0 c0 k0
  b__wall := Fun.binds (fun_mk (st := s__wall) l0 c0 k0) (ps := ["k"]) fun _ _ _ _ _ _ us hl => match us, hl with | [_], _ => rfl
  g__wall := PySem.W.mg_of X G a0
  f_left_size := f1
  d_left_size := PySem.W.fnOf "left_size" "left_size" (defArgs s_left_size) (defBody s_left_size) (defScope s_left_size) .none kV1 dc1 pm1 an1 cd1 ct1
  F_left_size := fun_mk (st := s_left_size) l1 c1 k1
  b_left_size := Fun.binds (fun_mk (st := s_left_size) l1 c1 k1) (ps := ["size"]) fun _ _ _ _ _ _ us hl => match us, hl with | [_], _ => rfl
  g_left_size := PySem.W.mg_of X G a1
  f_root := f2
  d_root := PySem.W.fnOf "root" "root" (defArgs s_root) (defBody s_root) (defScope s_root) .none kV2 dc2 pm2 an2 cd2 ct2
  F_root := fun_mk (st := s_root) l2 c2 k2
  b_root := Fun.binds (fun_mk (st := s_root) l2 c2 k2) (ps := ["digests", "leaves"]) fun _ _ _ _ _ _ us hl => match us, hl with | [_, _], _ => rfl
  g_root := PySem.W.mg_of X G a2
  f_widest_parts := f3
  d_widest_parts := PySem.W.fnOf "widest_parts" "widest_parts" (defArgs s_widest_parts) (defBody s_widest_parts) (defScope s_widest_parts) .none kV3 dc3 pm3 an3 cd3 ct3
  F_widest_parts := fun_mk (st := s_widest_parts) l3 c3 k3
  b_widest_parts := Fun.binds (fun_mk (st := s_widest_parts) l3 c3 k3) (ps := ["start", "end"]) fun _ _ _ _ _ _ us hl => match us, hl with | [_, _], _ => rfl
  g_widest_parts := PySem.W.mg_of X G a3
  f_growth_parts := f4
  d_growth_parts := PySem.W.fnOf "growth_parts" "growth_parts" (defArgs s_growth_parts) (defBody s_growth_parts) (defScope s_growth_parts) .none kV4 dc4 pm4 an4 cd4 ct4
  F_growth_parts := fun_mk (st := s_growth_parts) l4 c4 k4
  b_growth_parts := Fun.binds (fun_mk (st := s_growth_parts) l4 c4 k4) (ps := ["old_size", "new_size"]) fun _ _ _ _ _ _ us hl => match us, hl with | [_, _], _ => rfl
  g_growth_parts := PySem.W.mg_of X G a4
  f_growth_paper := f5
  d_growth_paper := PySem.W.fnOf "growth_paper" "growth_paper" (defArgs s_growth_paper) (defBody s_growth_paper) (defScope s_growth_paper) .none kV5 dc5 pm5 an5 cd5 ct5
  F_growth_paper := fun_mk (st := s_growth_paper) l5 c5 k5
  b_growth_paper := Fun.binds (fun_mk (st := s_growth_paper) l5 c5 k5) (ps := ["digests", "leaves", "size"]) fun _ _ _ _ _ _ us hl => match us, hl with | [_, _, _], _ => rfl
  g_growth_paper := PySem.W.mg_of X G a5
  f_joined := f6
  d_joined := PySem.W.fnOf "joined" "joined" (defArgs s_joined) (defBody s_joined) (defScope s_joined) .none kV6 dc6 pm6 an6 cd6 ct6
  F_joined := fun_mk (st := s_joined) l6 c6 k6
  b_joined := Fun.binds (fun_mk (st := s_joined) l6 c6 k6) (ps := ["digests", "rows"]) fun _ _ _ _ _ _ us hl => match us, hl with | [_, _], _ => rfl
  g_joined := PySem.W.mg_of X G a6
  f_check_growth := f7
  d_check_growth := PySem.W.fnOf "check_growth" "check_growth" (defArgs s_check_growth) (defBody s_check_growth) (defScope s_check_growth) .none kV7 dc7 pm7 an7 cd7 ct7
  F_check_growth := fun_mk (st := s_check_growth) l7 c7 k7
  b_check_growth := Fun.binds (fun_mk (st := s_check_growth) l7 c7 k7) (ps := ["digests", "old_root", "old_size", "new_root", "new_size", "paper"]) fun _ _ _ _ _ _ us hl => match us, hl with | [_, _, _, _, _, _], _ => rfl
  g_check_growth := PySem.W.mg_of X G a7
  f_write := f8
  d_write := PySem.W.fnOf "write" "write" (defArgs s_write) (defBody s_write) (defScope s_write) .none kV8 dc8 pm8 an8 cd8 ct8
  F_write := fun_mk (st := s_write) l8 c8 k8
  b_write := Fun.binds (fun_mk (st := s_write) l8 c8 k8) (ps := ["value"]) fun _ _ _ _ _ _ us hl => match us, hl with | [_], _ => rfl
  g_write := PySem.W.mg_of X G a8
  f_written_integer := f9
  d_written_integer := PySem.W.fnOf "written_integer" "written_integer" (defArgs s_written_integer) (defBody s_written_integer) (defScope s_written_integer) .none kV9 dc9 pm9 an9 cd9 ct9
  F_written_integer := fun_mk (st := s_written_integer) l9 c9 k9
  b_written_integer := Fun.binds (fun_mk (st := s_written_integer) l9 c9 k9) (ps := ["number"]) fun _ _ _ _ _ _ us hl => match us, hl with | [_], _ => rfl
  g_written_integer := PySem.W.mg_of X G a9
  f_digits_of := f10
  d_digits_of := PySem.W.fnOf "digits_of" "digits_of" (defArgs s_digits_of) (defBody s_digits_of) (defScope s_digits_of) .none kV10 dc10 pm10 an10 cd10 ct10
  F_digits_of := fun_mk (st := s_digits_of) l10 c10 k10
  b_digits_of := Fun.binds (fun_mk (st := s_digits_of) l10 c10 k10) (ps := ["number"]) fun _ _ _ _ _ _ us hl => match us, hl with | [_], _ => rfl
  g_digits_of := PySem.W.mg_of X G a10
  f_parted := f11
  d_parted := PySem.W.fnOf "parted" "parted" (defArgs s_parted) (defBody s_parted) (defScope s_parted) .none kV11 dc11 pm11 an11 cd11 ct11
  F_parted := fun_mk (st := s_parted) l11 c11 k11
  b_parted := Fun.binds (fun_mk (st := s_parted) l11 c11 k11) (ps := ["parts"]) fun _ _ _ _ _ _ us hl => match us, hl with | [_], _ => rfl
  g_parted := PySem.W.mg_of X G a11
  f_Digests_init := f12
  d_Digests_init := PySem.W.fnOf "__init__" "Digests.__init__" (defArgs s_Digests_init) (defBody s_Digests_init) (defScope s_Digests_init) .none kV12 dc12 pm12 an12 cd12 ct12
  F_Digests_init := fun_mk (st := s_Digests_init) l12 c12 k12
  b_Digests_init := Fun.binds (fun_mk (st := s_Digests_init) l12 c12 k12) (ps := ["self"]) fun _ _ _ _ _ _ us hl => match us, hl with | [_], _ => rfl
  f_Digests_number := f13
  d_Digests_number := PySem.W.fnOf "number" "Digests.number" (defArgs s_Digests_number) (defBody s_Digests_number) (defScope s_Digests_number) .none kV13 dc13 pm13 an13 cd13 ct13
  F_Digests_number := fun_mk (st := s_Digests_number) l13 c13 k13
  b_Digests_number := Fun.binds (fun_mk (st := s_Digests_number) l13 c13 k13) (ps := ["self", "value"]) fun _ _ _ _ _ _ us hl => match us, hl with | [_, _], _ => rfl
  f_Digests_value := f14
  d_Digests_value := PySem.W.fnOf "value" "Digests.value" (defArgs s_Digests_value) (defBody s_Digests_value) (defScope s_Digests_value) .none kV14 dc14 pm14 an14 cd14 ct14
  F_Digests_value := fun_mk (st := s_Digests_value) l14 c14 k14
  b_Digests_value := Fun.binds (fun_mk (st := s_Digests_value) l14 c14 k14) (ps := ["self", "number"]) fun _ _ _ _ _ _ us hl => match us, hl with | [_, _], _ => rfl
  f_Digests_count := f15
  d_Digests_count := PySem.W.fnOf "count" "Digests.count" (defArgs s_Digests_count) (defBody s_Digests_count) (defScope s_Digests_count) .none kV15 dc15 pm15 an15 cd15 ct15
  F_Digests_count := fun_mk (st := s_Digests_count) l15 c15 k15
  b_Digests_count := Fun.binds (fun_mk (st := s_Digests_count) l15 c15 k15) (ps := ["self"]) fun _ _ _ _ _ _ us hl => match us, hl with | [_], _ => rfl
  f_L_pot := f16
  d_L_pot := PySem.W.fnOf "_law_pot" "_law_pot" (defArgs s_L_pot) (defBody s_L_pot) (defScope s_L_pot) .none kV16 dc16 pm16 an16 cd16 ct16
  F_L_pot := fun_mk (st := s_L_pot) l16 c16 k16
  b_L_pot := Fun.binds (fun_mk (st := s_L_pot) l16 c16 k16) (ps := ["script"]) fun _ _ _ _ _ _ us hl => match us, hl with | [_], _ => rfl
  g_L_pot := PySem.W.mg_of X G a16
  f_L_next := f17
  d_L_next := PySem.W.fnOf "_law_next" "_law_next" (defArgs s_L_next) (defBody s_L_next) (defScope s_L_next) .none kV17 dc17 pm17 an17 cd17 ct17
  F_L_next := fun_mk (st := s_L_next) l17 c17 k17
  b_L_next := Fun.binds (fun_mk (st := s_L_next) l17 c17 k17) (ps := ["pot", "limit"]) fun _ _ _ _ _ _ us hl => match us, hl with | [_, _], _ => rfl
  g_L_next := PySem.W.mg_of X G a17
  f_L_root := f18
  d_L_root := PySem.W.fnOf "_law_root" "_law_root" (defArgs s_L_root) (defBody s_L_root) (defScope s_L_root) .none kV18 dc18 pm18 an18 cd18 ct18
  F_L_root := fun_mk (st := s_L_root) l18 c18 k18
  b_L_root := Fun.binds (fun_mk (st := s_L_root) l18 c18 k18) (ps := ["digests", "leaves"]) fun _ _ _ _ _ _ us hl => match us, hl with | [_, _], _ => rfl
  g_L_root := PySem.W.mg_of X G a18
  f_L_refused := f19
  d_L_refused := PySem.W.fnOf "_law_refused" "_law_refused" (defArgs s_L_refused) (defBody s_L_refused) (defScope s_L_refused) .none kV19 dc19 pm19 an19 cd19 ct19
  F_L_refused := fun_mk (st := s_L_refused) l19 c19 k19
  b_L_refused := Fun.binds (fun_mk (st := s_L_refused) l19 c19 k19) (ps := ["digests", "leaves", "size"]) fun _ _ _ _ _ _ us hl => match us, hl with | [_, _, _], _ => rfl
  g_L_refused := PySem.W.mg_of X G a19
  f_L_spans := f20
  d_L_spans := PySem.W.fnOf "_law_spans" "_law_spans" (defArgs s_L_spans) (defBody s_L_spans) (defScope s_L_spans) .none kV20 dc20 pm20 an20 cd20 ct20
  F_L_spans := fun_mk (st := s_L_spans) l20 c20 k20
  b_L_spans := Fun.binds (fun_mk (st := s_L_spans) l20 c20 k20) (ps := ["low", "high"]) fun _ _ _ _ _ _ us hl => match us, hl with | [_, _], _ => rfl
  g_L_spans := PySem.W.mg_of X G a20
  f_law := f21
  d_law := PySem.W.fnOf "law" "law" (defArgs s_law) (defBody s_law) (defScope s_law) .none kV21 dc21 pm21 an21 cd21 ct21
  F_law := fun_mk (st := s_law) l21 c21 k21
  b_law := Fun.binds (fun_mk (st := s_law) l21 c21 k21) (ps := ["script"]) fun _ _ _ _ _ _ us hl => match us, hl with | [_], _ => rfl
  g_law := PySem.W.mg_of X G a21
  C_BridgeError := C0
  g_BridgeError := PySem.W.mg_of X G aC0
  xe_BridgeError := xe0
  ke_BridgeError := ke0
  be_BridgeError := be0
  te_BridgeError := te0
  ie_BridgeError := ie0
  se_BridgeError := se0
  hd_BridgeError := hd0
  C_InvalidArgument := C1
  g_InvalidArgument := PySem.W.mg_of X G aC1
  xe_InvalidArgument := xe1
  ke_InvalidArgument := ke1
  be_InvalidArgument := be1
  te_InvalidArgument := te1
  ie_InvalidArgument := ie1
  se_InvalidArgument := se1
  hg_InvalidArgument := hg1
  hk_InvalidArgument := hk1
  hd_InvalidArgument := hd1
  ha_InvalidArgument := ha1
  hm_InvalidArgument := hm1
  hn_InvalidArgument := hn1
  ht_InvalidArgument := ht1
  ue_InvalidArgument := ue1
  C_UnknownDigest := C2
  g_UnknownDigest := PySem.W.mg_of X G aC2
  xe_UnknownDigest := xe2
  ke_UnknownDigest := ke2
  be_UnknownDigest := be2
  te_UnknownDigest := te2
  ie_UnknownDigest := ie2
  se_UnknownDigest := se2
  ue_UnknownDigest := ue2
  C_Digests := C3
  cl_Digests := ⟨pg3, hd3, po3, sa3⟩
  g_Digests := PySem.W.mg_of X G aC3
  mk_Digests := ⟨mk3, m12, i12, kc3⟩
  m_Digests_number := ⟨m13, i13, k13⟩
  m_Digests_value := ⟨m14, i14, k14⟩
  m_Digests_count := ⟨m15, i15, k15⟩
  n_Digests_values := n3_0
  n_Digests_numbers := n3_1
  t_PIECE := tk0
  c_PIECE := PySem.W.mg_of X G q0
  z_abs := PySem.W.mg_none_of X G z0
  z_all := PySem.W.mg_none_of X G z1
  z_int := PySem.W.mg_none_of X G z2
  z_isinstance := PySem.W.mg_none_of X G z3
  z_len := PySem.W.mg_none_of X G z4
  z_list := PySem.W.mg_none_of X G z5
  z_range := PySem.W.mg_none_of X G z6
  z_reversed := PySem.W.mg_none_of X G z7
  z_str := PySem.W.mg_none_of X G z8
  z_tuple := PySem.W.mg_none_of X G z9
theorem all_mk {l : PySem.W.OpenLaw} {w : World} {K : PySem.W.Frag} {h : Heap} {mg : Str → Option Value} {fa : Addr} (X : K.In h) (G : h.Ns mainGlobals mg) (hfa : mg "law" = some (.ref fa))
    {f0 f1 f2 f3 f4 f5 f6 f7 f8 f9 f10 f11 f12 f13 f14 f15 f16 f17 f18 f19 f20 f21 C0 C1 C2 C3 : Addr} {od0 an0 od1 an1 od2 an2 od3 an3 od4 an4 od5 an5 od6 an6 od7 an7 od8 an8 od9 an9 od10 an10 od11 an11 od12 an12 od13 an13 od14 an14 od15 an15 od16 an16 od17 an17 od18 an18 od19 an19 od20 an20 od21 an21 : Option Addr} {sl0 sl1 sl2 sl3 sl4 sl5 sl6 sl7 sl8 sl9 sl10 sl11 sl12 sl13 sl14 sl15 sl16 sl17 sl18 sl19 sl20 sl21 : Array (Option Value)} {oc0 kV0 dc0 pm0 cd0 ct0 oc1 kV1 dc1 pm1 cd1 ct1 oc2 kV2 dc2 pm2 cd2 ct2 oc3 kV3 dc3 pm3 cd3 ct3 oc4 kV4 dc4 pm4 cd4 ct4 oc5 kV5 dc5 pm5 cd5 ct5 oc6 kV6 dc6 pm6 cd6 ct6 oc7 kV7 dc7 pm7 cd7 ct7 oc8 kV8 dc8 pm8 cd8 ct8 oc9 kV9 dc9 pm9 cd9 ct9 oc10 kV10 dc10 pm10 cd10 ct10 oc11 kV11 dc11 pm11 cd11 ct11 oc12 kV12 dc12 pm12 cd12 ct12 oc13 kV13 dc13 pm13 cd13 ct13 oc14 kV14 dc14 pm14 cd14 ct14 oc15 kV15 dc15 pm15 cd15 ct15 oc16 kV16 dc16 pm16 cd16 ct16 oc17 kV17 dc17 pm17 cd17 ct17 oc18 kV18 dc18 pm18 cd18 ct18 oc19 kV19 dc19 pm19 cd19 ct19 oc20 kV20 dc20 pm20 cd20 ct20 oc21 kV21 dc21 pm21 cd21 ct21 : Value} {tk0 : Tok}
    (a0 : PySem.W.nsIn K mainGlobals "_wall" = some (some (.ref f0)))
    (a1 : PySem.W.nsIn K mainGlobals "left_size" = some (some (.ref f1)))
    (a2 : PySem.W.nsIn K mainGlobals "root" = some (some (.ref f2)))
    (a3 : PySem.W.nsIn K mainGlobals "widest_parts" = some (some (.ref f3)))
    (a4 : PySem.W.nsIn K mainGlobals "growth_parts" = some (some (.ref f4)))
    (a5 : PySem.W.nsIn K mainGlobals "growth_paper" = some (some (.ref f5)))
    (a6 : PySem.W.nsIn K mainGlobals "joined" = some (some (.ref f6)))
    (a7 : PySem.W.nsIn K mainGlobals "check_growth" = some (some (.ref f7)))
    (a8 : PySem.W.nsIn K mainGlobals "write" = some (some (.ref f8)))
    (a9 : PySem.W.nsIn K mainGlobals "written_integer" = some (some (.ref f9)))
    (a10 : PySem.W.nsIn K mainGlobals "digits_of" = some (some (.ref f10)))
    (a11 : PySem.W.nsIn K mainGlobals "parted" = some (some (.ref f11)))
    (a16 : PySem.W.nsIn K mainGlobals "_law_pot" = some (some (.ref f16)))
    (a17 : PySem.W.nsIn K mainGlobals "_law_next" = some (some (.ref f17)))
    (a18 : PySem.W.nsIn K mainGlobals "_law_root" = some (some (.ref f18)))
    (a19 : PySem.W.nsIn K mainGlobals "_law_refused" = some (some (.ref f19)))
    (a20 : PySem.W.nsIn K mainGlobals "_law_spans" = some (some (.ref f20)))
    (a21 : PySem.W.nsIn K mainGlobals "law" = some (some (.ref f21)))
    (aC0 : PySem.W.nsIn K mainGlobals "BridgeError" = some (some (.ref C0)))
    (aC1 : PySem.W.nsIn K mainGlobals "InvalidArgument" = some (some (.ref C1)))
    (aC2 : PySem.W.nsIn K mainGlobals "UnknownDigest" = some (some (.ref C2)))
    (aC3 : PySem.W.nsIn K mainGlobals "Digests" = some (some (.ref C3)))
    (m12 : PySem.W.findIn K (.ref C3) "__init__" = some (some (.ref f12)))
    (m13 : PySem.W.findIn K (.ref C3) "number" = some (some (.ref f13)))
    (m14 : PySem.W.findIn K (.ref C3) "value" = some (some (.ref f14)))
    (m15 : PySem.W.findIn K (.ref C3) "count" = some (some (.ref f15)))
    (l0 : K.lookup f0 = some ⟨oc0, od0, .func (PySem.W.fnOf "_wall" "_wall" (defArgs s__wall) (defBody s__wall) (defScope s__wall) .none kV0 dc0 pm0 an0 cd0 ct0), sl0⟩)
    (c0 : PySem.W.codeIn K cd0 "_wall" = true)
    (k0 : PySem.W.keepIn K (.ref f0) = true)
    (l1 : K.lookup f1 = some ⟨oc1, od1, .func (PySem.W.fnOf "left_size" "left_size" (defArgs s_left_size) (defBody s_left_size) (defScope s_left_size) .none kV1 dc1 pm1 an1 cd1 ct1), sl1⟩)
    (c1 : PySem.W.codeIn K cd1 "left_size" = true)
    (k1 : PySem.W.keepIn K (.ref f1) = true)
    (l2 : K.lookup f2 = some ⟨oc2, od2, .func (PySem.W.fnOf "root" "root" (defArgs s_root) (defBody s_root) (defScope s_root) .none kV2 dc2 pm2 an2 cd2 ct2), sl2⟩)
    (c2 : PySem.W.codeIn K cd2 "root" = true)
    (k2 : PySem.W.keepIn K (.ref f2) = true)
    (l3 : K.lookup f3 = some ⟨oc3, od3, .func (PySem.W.fnOf "widest_parts" "widest_parts" (defArgs s_widest_parts) (defBody s_widest_parts) (defScope s_widest_parts) .none kV3 dc3 pm3 an3 cd3 ct3), sl3⟩)
    (c3 : PySem.W.codeIn K cd3 "widest_parts" = true)
    (k3 : PySem.W.keepIn K (.ref f3) = true)
    (l4 : K.lookup f4 = some ⟨oc4, od4, .func (PySem.W.fnOf "growth_parts" "growth_parts" (defArgs s_growth_parts) (defBody s_growth_parts) (defScope s_growth_parts) .none kV4 dc4 pm4 an4 cd4 ct4), sl4⟩)
    (c4 : PySem.W.codeIn K cd4 "growth_parts" = true)
    (k4 : PySem.W.keepIn K (.ref f4) = true)
    (l5 : K.lookup f5 = some ⟨oc5, od5, .func (PySem.W.fnOf "growth_paper" "growth_paper" (defArgs s_growth_paper) (defBody s_growth_paper) (defScope s_growth_paper) .none kV5 dc5 pm5 an5 cd5 ct5), sl5⟩)
    (c5 : PySem.W.codeIn K cd5 "growth_paper" = true)
    (k5 : PySem.W.keepIn K (.ref f5) = true)
    (l6 : K.lookup f6 = some ⟨oc6, od6, .func (PySem.W.fnOf "joined" "joined" (defArgs s_joined) (defBody s_joined) (defScope s_joined) .none kV6 dc6 pm6 an6 cd6 ct6), sl6⟩)
    (c6 : PySem.W.codeIn K cd6 "joined" = true)
    (k6 : PySem.W.keepIn K (.ref f6) = true)
    (l7 : K.lookup f7 = some ⟨oc7, od7, .func (PySem.W.fnOf "check_growth" "check_growth" (defArgs s_check_growth) (defBody s_check_growth) (defScope s_check_growth) .none kV7 dc7 pm7 an7 cd7 ct7), sl7⟩)
    (c7 : PySem.W.codeIn K cd7 "check_growth" = true)
    (k7 : PySem.W.keepIn K (.ref f7) = true)
    (l8 : K.lookup f8 = some ⟨oc8, od8, .func (PySem.W.fnOf "write" "write" (defArgs s_write) (defBody s_write) (defScope s_write) .none kV8 dc8 pm8 an8 cd8 ct8), sl8⟩)
    (c8 : PySem.W.codeIn K cd8 "write" = true)
    (k8 : PySem.W.keepIn K (.ref f8) = true)
    (l9 : K.lookup f9 = some ⟨oc9, od9, .func (PySem.W.fnOf "written_integer" "written_integer" (defArgs s_written_integer) (defBody s_written_integer) (defScope s_written_integer) .none kV9 dc9 pm9 an9 cd9 ct9), sl9⟩)
    (c9 : PySem.W.codeIn K cd9 "written_integer" = true)
    (k9 : PySem.W.keepIn K (.ref f9) = true)
    (l10 : K.lookup f10 = some ⟨oc10, od10, .func (PySem.W.fnOf "digits_of" "digits_of" (defArgs s_digits_of) (defBody s_digits_of) (defScope s_digits_of) .none kV10 dc10 pm10 an10 cd10 ct10), sl10⟩)
    (c10 : PySem.W.codeIn K cd10 "digits_of" = true)
    (k10 : PySem.W.keepIn K (.ref f10) = true)
    (l11 : K.lookup f11 = some ⟨oc11, od11, .func (PySem.W.fnOf "parted" "parted" (defArgs s_parted) (defBody s_parted) (defScope s_parted) .none kV11 dc11 pm11 an11 cd11 ct11), sl11⟩)
    (c11 : PySem.W.codeIn K cd11 "parted" = true)
    (k11 : PySem.W.keepIn K (.ref f11) = true)
    (l12 : K.lookup f12 = some ⟨oc12, od12, .func (PySem.W.fnOf "__init__" "Digests.__init__" (defArgs s_Digests_init) (defBody s_Digests_init) (defScope s_Digests_init) .none kV12 dc12 pm12 an12 cd12 ct12), sl12⟩)
    (c12 : PySem.W.codeIn K cd12 "Digests.__init__" = true)
    (k12 : PySem.W.keepIn K (.ref f12) = true)
    (l13 : K.lookup f13 = some ⟨oc13, od13, .func (PySem.W.fnOf "number" "Digests.number" (defArgs s_Digests_number) (defBody s_Digests_number) (defScope s_Digests_number) .none kV13 dc13 pm13 an13 cd13 ct13), sl13⟩)
    (c13 : PySem.W.codeIn K cd13 "Digests.number" = true)
    (k13 : PySem.W.keepIn K (.ref f13) = true)
    (l14 : K.lookup f14 = some ⟨oc14, od14, .func (PySem.W.fnOf "value" "Digests.value" (defArgs s_Digests_value) (defBody s_Digests_value) (defScope s_Digests_value) .none kV14 dc14 pm14 an14 cd14 ct14), sl14⟩)
    (c14 : PySem.W.codeIn K cd14 "Digests.value" = true)
    (k14 : PySem.W.keepIn K (.ref f14) = true)
    (l15 : K.lookup f15 = some ⟨oc15, od15, .func (PySem.W.fnOf "count" "Digests.count" (defArgs s_Digests_count) (defBody s_Digests_count) (defScope s_Digests_count) .none kV15 dc15 pm15 an15 cd15 ct15), sl15⟩)
    (c15 : PySem.W.codeIn K cd15 "Digests.count" = true)
    (k15 : PySem.W.keepIn K (.ref f15) = true)
    (l16 : K.lookup f16 = some ⟨oc16, od16, .func (PySem.W.fnOf "_law_pot" "_law_pot" (defArgs s_L_pot) (defBody s_L_pot) (defScope s_L_pot) .none kV16 dc16 pm16 an16 cd16 ct16), sl16⟩)
    (c16 : PySem.W.codeIn K cd16 "_law_pot" = true)
    (k16 : PySem.W.keepIn K (.ref f16) = true)
    (l17 : K.lookup f17 = some ⟨oc17, od17, .func (PySem.W.fnOf "_law_next" "_law_next" (defArgs s_L_next) (defBody s_L_next) (defScope s_L_next) .none kV17 dc17 pm17 an17 cd17 ct17), sl17⟩)
    (c17 : PySem.W.codeIn K cd17 "_law_next" = true)
    (k17 : PySem.W.keepIn K (.ref f17) = true)
    (l18 : K.lookup f18 = some ⟨oc18, od18, .func (PySem.W.fnOf "_law_root" "_law_root" (defArgs s_L_root) (defBody s_L_root) (defScope s_L_root) .none kV18 dc18 pm18 an18 cd18 ct18), sl18⟩)
    (c18 : PySem.W.codeIn K cd18 "_law_root" = true)
    (k18 : PySem.W.keepIn K (.ref f18) = true)
    (l19 : K.lookup f19 = some ⟨oc19, od19, .func (PySem.W.fnOf "_law_refused" "_law_refused" (defArgs s_L_refused) (defBody s_L_refused) (defScope s_L_refused) .none kV19 dc19 pm19 an19 cd19 ct19), sl19⟩)
    (c19 : PySem.W.codeIn K cd19 "_law_refused" = true)
    (k19 : PySem.W.keepIn K (.ref f19) = true)
    (l20 : K.lookup f20 = some ⟨oc20, od20, .func (PySem.W.fnOf "_law_spans" "_law_spans" (defArgs s_L_spans) (defBody s_L_spans) (defScope s_L_spans) .none kV20 dc20 pm20 an20 cd20 ct20), sl20⟩)
    (c20 : PySem.W.codeIn K cd20 "_law_spans" = true)
    (k20 : PySem.W.keepIn K (.ref f20) = true)
    (l21 : K.lookup f21 = some ⟨oc21, od21, .func (PySem.W.fnOf "law" "law" (defArgs s_law) (defBody s_law) (defScope s_law) .none kV21 dc21 pm21 an21 cd21 ct21), sl21⟩)
    (c21 : PySem.W.codeIn K cd21 "law" = true)
    (k21 : PySem.W.keepIn K (.ref f21) = true)
    (xe0 : PySem.W.excIn K C0 [.type "ValueError", .type "Exception", .type "BaseException", .type "object"] "ValueError.__new__" = true)
    (ke0 : PySem.W.keepIn K (.ref C0) = true)
    (be0 : PySem.W.subIn K (.ref C0) (.type "BaseException") = some true)
    (te0 : PySem.W.typeIn K (.ref C0) = some (.type "type"))
    (ie0 : PySem.W.isClsIn K C0 = true)
    (se0 : PySem.W.subIn K (.ref C0) (.ref C0) = some true)
    (hd0 : PySem.W.hasDictIn K C0 = true)
    (xe1 : PySem.W.excIn K C1 [.type "ValueError", .type "Exception", .type "BaseException", .type "object"] "ValueError.__new__" = true)
    (ke1 : PySem.W.keepIn K (.ref C1) = true)
    (be1 : PySem.W.subIn K (.ref C1) (.type "BaseException") = some true)
    (te1 : PySem.W.typeIn K (.ref C1) = some (.type "type"))
    (ie1 : PySem.W.isClsIn K C1 = true)
    (se1 : PySem.W.subIn K (.ref C1) (.ref C1) = some true)
    (hg1 : PySem.W.findIn K (.ref C1) "__getattribute__" = some (some (.builtin "BaseException.__getattribute__")))
    (hk1 : PySem.W.findIn K (.ref C1) "__getattr__" = some none)
    (hd1 : PySem.W.hasDictIn K C1 = true)
    (ha1 : PySem.W.findIn K (.ref C1) "__class__" = some (some (.builtin "object.__class__")))
    (hm1 : PySem.W.mroIn K C1 (.type "object") = some true)
    (hn1 : PySem.W.specialIn K (.builtin "object.__class__") "__get__" = some (some (.builtin "getset_descriptor.__get__")))
    (ht1 : PySem.W.takesIn K (.builtin "object.__class__") = some true)
    (ue1 : PySem.W.subIn K (.ref C1) (.ref C0) = some true)
    (xe2 : PySem.W.excIn K C2 [.type "ValueError", .type "Exception", .type "BaseException", .type "object"] "ValueError.__new__" = true)
    (ke2 : PySem.W.keepIn K (.ref C2) = true)
    (be2 : PySem.W.subIn K (.ref C2) (.type "BaseException") = some true)
    (te2 : PySem.W.typeIn K (.ref C2) = some (.type "type"))
    (ie2 : PySem.W.isClsIn K C2 = true)
    (se2 : PySem.W.subIn K (.ref C2) (.ref C2) = some true)
    (ue2 : PySem.W.subIn K (.ref C2) (.ref C0) = some true)
    (pg3 : PySem.W.plainGet K C3 Str.empty = true)
    (hd3 : PySem.W.hasDictIn K C3 = true)
    (po3 : PySem.W.plainOver K C3 = true)
    (sa3 : PySem.W.findIn K (.ref C3) "__setattr__" = some (some (.builtin "object.__setattr__")))
    (mk3 : PySem.W.makesIn K C3 = true)
    (kc3 : PySem.W.keepIn K (.ref C3) = true)
    (i12 : PySem.W.isFn K (.ref f12) = true)
    (i13 : PySem.W.isFn K (.ref f13) = true)
    (i14 : PySem.W.isFn K (.ref f14) = true)
    (i15 : PySem.W.isFn K (.ref f15) = true)
    (n3_0 : PySem.W.findIn K (.ref C3) "_values" = some none)
    (n3_1 : PySem.W.findIn K (.ref C3) "_numbers" = some none)
    (q0 : PySem.W.nsIn K mainGlobals "PIECE" = some (some (.int 10000000000000000000000000000000000000000000000000000000000000000 tk0)))
    (z0 : PySem.W.nsIn K mainGlobals "abs" = some none)
    (z1 : PySem.W.nsIn K mainGlobals "all" = some none)
    (z2 : PySem.W.nsIn K mainGlobals "int" = some none)
    (z3 : PySem.W.nsIn K mainGlobals "isinstance" = some none)
    (z4 : PySem.W.nsIn K mainGlobals "len" = some none)
    (z5 : PySem.W.nsIn K mainGlobals "list" = some none)
    (z6 : PySem.W.nsIn K mainGlobals "range" = some none)
    (z7 : PySem.W.nsIn K mainGlobals "reversed" = some none)
    (z8 : PySem.W.nsIn K mainGlobals "str" = some none)
    (z9 : PySem.W.nsIn K mainGlobals "tuple" = some none) :
    ∃ fd : FuncData, (∀ (s : Shared) (v : Value), BindsTo s fd ⟨[v], []⟩ [("script", v)]) ∧ ∀ base : Heap, K.In base → base.Ns mainGlobals mg → FnOk l.prog w K mg base CX0 13 fa fd ["script"] (spLaw K) := by
  have e := hfa.symm.trans (PySem.W.mg_of X G a21)
  cases e
  exact ⟨PySem.W.fnOf "law" "law" (defArgs s_law) (defBody s_law) (defScope s_law) .none kV21 dc21 pm21 an21 cd21 ct21, fun s v => .of_eq rfl, fun base _ _ => ok_law (txt_mk X G a0 a1 a2 a3 a4 a5 a6 a7 a8 a9 a10 a11 a16 a17 a18 a19 a20 a21 aC0 aC1 aC2 aC3 m12 m13 m14 m15 l0 c0 k0 l1 c1 k1 l2 c2 k2 l3 c3 k3 l4 c4 k4 l5 c5 k5 l6 c6 k6 l7 c7 k7 l8 c8 k8 l9 c9 k9 l10 c10 k10 l11 c11 k11 l12 c12 k12 l13 c13 k13 l14 c14 k14 l15 c15 k15 l16 c16 k16 l17 c17 k17 l18 c18 k18 l19 c19 k19 l20 c20 k20 l21 c21 k21 xe0 ke0 be0 te0 ie0 se0 hd0 xe1 ke1 be1 te1 ie1 se1 hg1 hk1 hd1 ha1 hm1 hn1 ht1 ue1 xe2 ke2 be2 te2 ie2 se2 ue2 pg3 hd3 po3 sa3 mk3 kc3 i12 i13 i14 i15 n3_0 n3_1 q0 z0 z1 z2 z3 z4 z5 z6 z7 z8 z9)⟩
end Pf
open PySem PySem.W PyProof.Rows
set_option maxRecDepth 100000 in
set_option maxHeartbeats 0 in
theorem PySem.Challenge.cw_vaultbridge_k35_growth_papers_holds : PySem.Challenge.rw_vaultbridge_k35_growth_papers.Holds := by
  w_on; o_law; k_head; (case hw => w_witness2)
  k_fill
  refine L2.walk_of (l := PySem.Challenge.rw_vaultbridge_k35_growth_papers) (n := 63) (k := 13) (x := "script") (CX := fun _ => L2.CX0) (sp := fun w => Pf.spLaw _) rfl (by decide) rfl ⟨rfl, by decide, by decide⟩ (fun w h Y => PySem.W.kIn_of Y) ?F (fun _ _ a ns hl _ hS => ⟨a, ns, rfl, hS, hl, fun _ => rfl⟩) (fun _ _ _ _ _ h => h)
  case F =>
    intro w mg fa h KX G hmg
    refine' Pf.all_mk KX G hmg ?a0 ?a1 ?a2 ?a3 ?a4 ?a5 ?a6 ?a7 ?a8 ?a9 ?a10 ?a11 ?a16 ?a17 ?a18 ?a19 ?a20 ?a21 ?aC0 ?aC1 ?aC2 ?aC3 ?m12 ?m13 ?m14 ?m15 ?l0 ?c0 ?k0 ?l1 ?c1 ?k1 ?l2 ?c2 ?k2 ?l3 ?c3 ?k3 ?l4 ?c4 ?k4 ?l5 ?c5 ?k5 ?l6 ?c6 ?k6 ?l7 ?c7 ?k7 ?l8 ?c8 ?k8 ?l9 ?c9 ?k9 ?l10 ?c10 ?k10 ?l11 ?c11 ?k11 ?l12 ?c12 ?k12 ?l13 ?c13 ?k13 ?l14 ?c14 ?k14 ?l15 ?c15 ?k15 ?l16 ?c16 ?k16 ?l17 ?c17 ?k17 ?l18 ?c18 ?k18 ?l19 ?c19 ?k19 ?l20 ?c20 ?k20 ?l21 ?c21 ?k21 ?xe0 ?ke0 ?be0 ?te0 ?ie0 ?se0 ?hd0 ?xe1 ?ke1 ?be1 ?te1 ?ie1 ?se1 ?hg1 ?hk1 ?hd1 ?ha1 ?hm1 ?hn1 ?ht1 ?ue1 ?xe2 ?ke2 ?be2 ?te2 ?ie2 ?se2 ?ue2 ?pg3 ?hd3 ?po3 ?sa3 ?mk3 ?kc3 ?i12 ?i13 ?i14 ?i15 ?n3_0 ?n3_1 ?q0 ?z0 ?z1 ?z2 ?z3 ?z4 ?z5 ?z6 ?z7 ?z8 ?z9
    (case a0 => k_is)
    (case a1 => k_is)
    (case a2 => k_is)
    (case a3 => k_is)
    (case a4 => k_is)
    (case a5 => k_is)
    (case a6 => k_is)
    (case a7 => k_is)
    (case a8 => k_is)
    (case a9 => k_is)
    (case a10 => k_is)
    (case a11 => k_is)
    (case a16 => k_is)
    (case a17 => k_is)
    (case a18 => k_is)
    (case a19 => k_is)
    (case a20 => k_is)
    (case a21 => k_is)
    (case aC0 => k_is)
    (case aC1 => k_is)
    (case aC2 => k_is)
    (case aC3 => k_is)
    (case m12 => k_is)
    (case m13 => k_is)
    (case m14 => k_is)
    (case m15 => k_is)
    (case l0 => k_is)
    (case c0 => k_is)
    (case k0 => k_is)
    (case l1 => k_is)
    (case c1 => k_is)
    (case k1 => k_is)
    (case l2 => k_is)
    (case c2 => k_is)
    (case k2 => k_is)
    (case l3 => k_is)
    (case c3 => k_is)
    (case k3 => k_is)
    (case l4 => k_is)
    (case c4 => k_is)
    (case k4 => k_is)
    (case l5 => k_is)
    (case c5 => k_is)
    (case k5 => k_is)
    (case l6 => k_is)
    (case c6 => k_is)
    (case k6 => k_is)
    (case l7 => k_is)
    (case c7 => k_is)
    (case k7 => k_is)
    (case l8 => k_is)
    (case c8 => k_is)
    (case k8 => k_is)
    (case l9 => k_is)
    (case c9 => k_is)
    (case k9 => k_is)
    (case l10 => k_is)
    (case c10 => k_is)
    (case k10 => k_is)
    (case l11 => k_is)
    (case c11 => k_is)
    (case k11 => k_is)
    (case l12 => k_is)
    (case c12 => k_is)
    (case k12 => k_is)
    (case l13 => k_is)
    (case c13 => k_is)
    (case k13 => k_is)
    (case l14 => k_is)
    (case c14 => k_is)
    (case k14 => k_is)
    (case l15 => k_is)
    (case c15 => k_is)
    (case k15 => k_is)
    (case l16 => k_is)
    (case c16 => k_is)
    (case k16 => k_is)
    (case l17 => k_is)
    (case c17 => k_is)
    (case k17 => k_is)
    (case l18 => k_is)
    (case c18 => k_is)
    (case k18 => k_is)
    (case l19 => k_is)
    (case c19 => k_is)
    (case k19 => k_is)
    (case l20 => k_is)
    (case c20 => k_is)
    (case k20 => k_is)
    (case l21 => k_is)
    (case c21 => k_is)
    (case k21 => k_is)
    (case xe0 => k_exc)
    (case ke0 => k_is)
    (case be0 => k_is)
    (case te0 => k_is)
    (case ie0 => k_is)
    (case se0 => k_is)
    (case hd0 => k_is)
    (case xe1 => k_exc)
    (case ke1 => k_is)
    (case be1 => k_is)
    (case te1 => k_is)
    (case ie1 => k_is)
    (case se1 => k_is)
    (case hg1 => k_is)
    (case hk1 => k_is)
    (case hd1 => k_is)
    (case ha1 => k_is)
    (case hm1 => k_is)
    (case hn1 => k_is)
    (case ht1 => k_is)
    (case ue1 => k_is)
    (case xe2 => k_exc)
    (case ke2 => k_is)
    (case be2 => k_is)
    (case te2 => k_is)
    (case ie2 => k_is)
    (case se2 => k_is)
    (case ue2 => k_is)
    (case pg3 => k_is)
    (case hd3 => k_is)
    (case po3 => k_is)
    (case sa3 => k_is)
    (case mk3 => k_is)
    (case kc3 => k_is)
    (case i12 => k_is)
    (case i13 => k_is)
    (case i14 => k_is)
    (case i15 => k_is)
    (case n3_0 => k_is)
    (case n3_1 => k_is)
    (case q0 => k_is)
    (case z0 => k_is)
    (case z1 => k_is)
    (case z2 => k_is)
    (case z3 => k_is)
    (case z4 => k_is)
    (case z5 => k_is)
    (case z6 => k_is)
    (case z7 => k_is)
    (case z8 => k_is)
    (case z9 => k_is)
