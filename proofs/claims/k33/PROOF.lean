
import PyProof.Rows.All
import HandS.WordsExc
import HandS.SetKeys
import HandS.Flow
import HandS.ExcIs
import HandS.Sort
import HandS.Wide
import HandS.NoneIn
import HandS.Walk
import HandS.Text
import HandS.Rev
import HandS.FStr
import HandS.WideBits
import PyProof.SumWalkG
import KE.KeyNested
import KE.KIntText
import Wide.All
import OpenK.AllK
import Wide.FinOn
import HandS.ForMost
import HandS.TupAny
import HandS.Deep
import HandS.IsInst
import HandS.Style
import HandS.Steps
import HandS.Evl
import HandS.Defaults
import HandS.MakeKwOnly
import PySem.Challenge.RW_vaultbridge_k33_roots_tell_lists_apart
set_option Elab.async false
set_option linter.all false
set_option maxRecDepth 100000
set_option maxHeartbeats 1000000
namespace Pf
open PySem PySem.Spec PyProof.Rows L2


/-! readings, one step a lemma -/
section
open PySem PySem.Spec PyProof.Rows L2
variable {K : PySem.W.Frag} {σ : L2.St} {H H1 H' : Hp} {Q : VK} {D : Ends} {t u : TS} {ta tb tc te : TE} {tt tu : TT} {tr : TA} {g : TG} {v x y : V} {i j : Int} {a b p l : Addr} {xs ys : List V} {o : HO}

/-! heaps -/
theorem upd_new {c : Addr} {w : HO} (hb : H b = none) (h : H c = some o) : upd H b w c = some o := by
  rw [upd_ne (ne_of_none h hb)]; exact h
theorem upd_other {c : Addr} {w : HO} (hb : c ≠ b) (h : H c = some o) : upd H b w c = some o := by
  rw [upd_ne hb]; exact h
theorem upd_free {c : Addr} {w : HO} (hb : c ≠ b) (h : H c = none) : upd H b w c = none := by
  rw [upd_ne hb]; exact h
theorem upd_none_ne {c : Addr} {w : HO} (h : upd H b w c = none) : c ≠ b := fun e => by rw [e, upd_same] at h; cases h
theorem upd_none_back {c : Addr} {w : HO} (h : upd H b w c = none) : H c = none := by rw [upd_ne (upd_none_ne h)] at h; exact h
/-- everything but p stays -/
def Kp (p : Addr) (H H' : Hp) : Prop := ∀ b o, H b = some o → b ≠ p → H' b = some o
theorem Kp.get {c : Addr} (k : Kp p H H') (h : H c = some o) (n : c ≠ p) : H' c = some o := k c o h n
theorem Kp.refl : Kp p H H := fun _ _ h _ => h
theorem Kp.trans (k : Kp p H H1) (k2 : Kp p H1 H') : Kp p H H' := fun b o h n => k2 b o (k b o h n) n
theorem Kp.upd {w : HO} (k : Kp p H H') : Kp p H (upd H' p w) := fun b o h n => upd_other n (k b o h n)
theorem Kp.new {w : HO} (k : Kp p H H') (h : H a = none) : Kp p H (L2.upd H' a w) := fun b o hb n => upd_other (ne_of_none hb h) (k b o hb n)
theorem Kp.fresh (k : Kp p H H') (hp : H p = some o) (h : H' a = none) (n : a ≠ p) : H a = none := by
  cases q : H a with
  | none => rfl
  | some w => rw [k a w q n] at h; cases h
theorem Same.get {c : Addr} (k : Same H H') (h : H c = some o) : H' c = some o := k c o h
theorem Same.new {w : HO} (k : Same H H') (h : H a = none) : Same H (L2.upd H' a w) := fun b o hb => upd_other (ne_of_none hb h) (k b o hb)
theorem Same.up {w : HO} (k : Same H H') (h : H' a = none) : Same H (L2.upd H' a w) := Same.new k (Same.free k h)
theorem Same.kp (k : Same H H') : Kp p H H' := fun b o h _ => k b o h
theorem sqL (h : H a = some (.lst xs)) : SqL K H a xs := .inl (.inl h)
theorem sqT (h : H a = some (.tup xs)) : SqT K H a xs := .inl (.inl h)

/-- a tuple of the written part -/
def SqTK (K : PySem.W.Frag) (a : Addr) (xs : List V) : Prop := ∃ (o : Obj) (its : Array Value) (n : Nat), K.lookup a = some o ∧ o.cls = .type "tuple" ∧ o.data = .seq its n ∧ its.size ≤ sizeLine ∧ Vals xs its.toList
theorem SqTK.sq {xs : List V} (h : SqTK K a xs) : SqT K H a xs := .inr h
def relB : V → Value → Bool
  | .str x, .str z _ => decide (x = z)
  | .int i, .int k _ => decide (i = k)
  | _, _ => false
theorem relB_rel : ∀ {x : V} {u : Value}, relB x u = true → RelV x u := by
  intro x u h
  cases x <;> cases u <;> first | (cases h; done) | skip
  · have e := of_decide_eq_true h
    subst e
    exact ⟨_, rfl⟩
  · have e := of_decide_eq_true h
    subst e
    exact ⟨_, rfl⟩
def ValsB : List V → List Value → Bool
  | [], [] => true
  | x :: xs, u :: us => relB x u && ValsB xs us
  | _, _ => false
theorem ValsB.vals : ∀ {xs : List V} {us : List Value}, ValsB xs us = true → Vals xs us
  | [], [], _ => .nil
  | [], _ :: _, h => by cases h
  | _ :: _, [], h => by cases h
  | x :: xs, u :: us, h => by
    have h : (relB x u && ValsB xs us) = true := h
    rw [Bool.and_eq_true] at h
    exact .cons (relB_rel h.1) (ValsB.vals h.2)
theorem ValsB.size {xs : List V} {its : Array Value} (h : ValsB xs its.toList = true) (hl : xs.length ≤ sizeLine) : its.size ≤ sizeLine := by
  have e := (ValsB.vals h).length
  have : its.toList.length = its.size := rfl
  omega
theorem hr65 {A : Around} {k : Nat} (hr : Room k A) : A.units + 65 < cLine := by have := hr.un; omega
theorem Same.sqT {xs : List V} (e : Same H H') (h : SqT K H a xs) : SqT K H' a xs := by
  rcases h with (h | ⟨o, h⟩) | h
  · exact .inl (.inl (e _ _ h))
  · exact .inl (.inr ⟨o, e _ _ h⟩)
  · exact .inr h
/-! statements -/
theorem q_seq (h : t { D with nx := u D } σ H) : tSeq t u D σ H := h
theorem q_next (h : D.nx σ H) : tNext D σ H := h
theorem q_brk (h : D.bk σ H) : tBreak D σ H := h
theorem q_ct (h : D.ct σ H) : tCont D σ H := h
theorem q_nx {f : L2.St → Hp → Prop} {r : VK} {b c : L2.St → Hp → Prop} (h : f σ H) : Ends.nx ⟨f, r, b, c⟩ σ H := h
theorem q_bk {f : L2.St → Hp → Prop} {r : VK} {b c : L2.St → Hp → Prop} (h : b σ H) : Ends.bk ⟨f, r, b, c⟩ σ H := h
theorem q_cn {f : L2.St → Hp → Prop} {r : VK} {b c : L2.St → Hp → Prop} (h : c σ H) : Ends.ct ⟨f, r, b, c⟩ σ H := h
theorem q_rt {f : L2.St → Hp → Prop} {r : VK} {b c : L2.St → Hp → Prop} (h : r v H) : Ends.rt ⟨f, r, b, c⟩ v H := h
theorem q_drop (h : te σ H fun _ H1 => D.nx σ H1) : tDrop te D σ H := h
theorem q_ret (h : te σ H D.rt) : tRet te D σ H := h
theorem q_retN (h : D.rt .non H) : tRetN D σ H := h
def ifK (D : Ends) (t u : TS) (σ : L2.St) : Bool → Hp → Prop := fun b H => if b = true then t D σ H else u D σ H
theorem q_ifS (h : tt σ H (ifK D t u σ)) : tIfS tt t u D σ H := h
theorem q_ifT (h : t D σ H) : ifK D t u σ true H := iteT h
theorem q_ifF (h : u D σ H) : ifK D t u σ false H := iteF h
theorem q_if2 {c : Bool} (h : c = true → t D σ H) (h2 : c = false → u D σ H) : ifK D t u σ c H := by
  cases c with
  | true => exact iteT (h rfl)
  | false => exact iteF (h2 rfl)
theorem q_asg (h : te σ H fun x H1 => g x σ H1 D.nx) : tAsg te g D σ H := h
theorem q_gName {n : Nat} {R : L2.St → Hp → Prop} (h : R (σ.set n (some v)) H) : gName n v σ H R := h
theorem q_gTup {n : Nat} {tg : TGs} {R : L2.St → Hp → Prop} (h : SqT K H a xs) (hn : xs.length = n) (k : tg xs σ H R) : gTup K n tg (.ref a) σ H R := ⟨a, xs, rfl, h, hn, k⟩
theorem q_gCons {tg : TGs} {R : L2.St → Hp → Prop} (k : g v σ H fun σ' H' => tg xs σ' H' R) : gCons g tg (v :: xs) σ H R := ⟨v, xs, rfl, k⟩
theorem q_gNil {R : L2.St → Hp → Prop} (k : R σ H) : gNil [] σ H R := ⟨rfl, k⟩
theorem q_gSub {to ti : TE} {ts : TSet} {R : L2.St → Hp → Prop} (k : to σ H fun o H1 => ti σ H1 fun i H2 => ts o i v H2 fun H3 => R σ H3) : gSub to ti ts v σ H R := k
theorem q_setL {R : Hp → Prop} {n : Nat} (h : H p = some (.lst xs)) (hi : ixN xs.length i = some n) (k : R (upd H p (.lst (xs.set n v)))) : rSetL (.ref p) (.int i) v H R := ⟨p, xs, i, n, rfl, rfl, h, hi, k⟩
theorem q_aug {n : Nat} {ti : TIp} (hx : σ[n]? = some (some x)) (h : te σ H fun y H1 => ti x y H1 fun z H2 => D.nx (σ.set n (some z)) H2) : tAug n te ti D σ H := ⟨x, hx, h⟩
theorem q_ipI {f : Int → Int → Int} (k : Q (.int (f i j)) H) : ipI f (.int i) (.int j) H Q := ⟨i, j, rfl, rfl, k⟩
theorem q_cut {Mid : L2.St → Hp → Prop} (h : t { D with nx := Mid } σ H) (k : ∀ σ' H', Mid σ' H' → u D σ' H') : Evl.tCut t u D σ H := ⟨Mid, h, k⟩
theorem dec_t {c : Prop} [Decidable c] (h : decide c = true) : c := of_decide_eq_true h
theorem dec_f {c : Prop} [Decidable c] (h : decide c = false) : ¬ c := of_decide_eq_false h
theorem ndec_t {c : Prop} [Decidable c] (h : (!decide c) = true) : ¬ c := fun q => by rw [decide_eq_true q] at h; cases h
theorem ndec_f {c : Prop} [Decidable c] (h : (!decide c) = false) : c := by
  by_cases q : c
  · exact q
  · rw [decide_eq_false q] at h; cases h
def forK (g : TG) (tb : TS) (D : Ends) (σ : L2.St) : It → Hp → Prop := fun J H1 => ∃ W : Nat → Nat → L2.St → Hp → Prop, (∃ m, W 0 m σ H1) ∧ ∀ i m σ H, W i m σ H →
  (J.stop i H ∧ D.nx σ H) ∨ (J.go i H ∧ ∃ N : L2.St → Hp → Prop, (∀ σ' H', N σ' H' → ∃ m', m' < m ∧ W (i + 1) m' σ' H') ∧ ∀ x H', J.yld i H x H' → g x σ H' fun σ2 H2 => tb { D with nx := N, ct := N, bk := D.nx } σ2 H2)
theorem q_for {wi : TI} (h : wi σ H (forK g t D σ)) : tFor wi g t D σ H := h
theorem q_iList {R : It → Hp → Prop} (h : te σ H fun x H1 => ∃ a, x = .ref a ∧ (∃ xs, SqL K H1 a xs) ∧ R (Itl K a) H1) : iList K te σ H R := h
theorem q_iTup {R : It → Hp → Prop} (h : te σ H fun x H1 => ∃ a, x = .ref a ∧ (∃ xs, SqT K H1 a xs) ∧ R (Itt K a) H1) : iTup K te σ H R := h
theorem q_forL {S : List V} (h : SqL K H a S) (Pv : Nat → L2.St → Hp → Prop) (h0 : Pv 0 σ H) (hl : ∀ i σ H, i ≤ S.length → Pv i σ H → SqL K H a S)
    (hs : ∀ i x σ H, S[i]? = some x → Pv i σ H → g x σ H fun σ2 H2 => t { D with nx := Pv (i + 1), ct := Pv (i + 1), bk := D.nx } σ2 H2) (hd : ∀ σ H, Pv S.length σ H → D.nx σ H) :
    ∃ b, V.ref a = .ref b ∧ (∃ xs, SqL K H b xs) ∧ forK g t D σ (Itl K b) H := ⟨a, rfl, ⟨S, h⟩, for_list Pv h0 hl hs hd⟩
theorem q_forT {S : List V} (h : SqT K H a S) (Pv : Nat → L2.St → Hp → Prop) (h0 : Pv 0 σ H) (hl : ∀ i σ H, i ≤ S.length → Pv i σ H → SqT K H a S)
    (hs : ∀ i x σ H, S[i]? = some x → Pv i σ H → g x σ H fun σ2 H2 => t { D with nx := Pv (i + 1), ct := Pv (i + 1), bk := D.nx } σ2 H2) (hd : ∀ σ H, Pv S.length σ H → D.nx σ H) :
    ∃ b, V.ref a = .ref b ∧ (∃ xs, SqT K H b xs) ∧ forK g t D σ (Itt K b) H := ⟨a, rfl, ⟨S, h⟩, for_tup Pv h0 hl hs hd⟩
def rg1K (R : It → Hp → Prop) : List V → Hp → Prop := fun vs H1 => ∃ j : Int, vs = [.int j] ∧ -(2 ^ 62) ≤ j ∧ j < 2 ^ 62 ∧ R (Itr 0 j.toNat) H1
theorem q_iRng1 {R : It → Hp → Prop} (h : tr σ H (rg1K R)) : iRng1 tr σ H R := h
theorem q_forR (hj : 0 ≤ j ∧ j < 1000000000000000) (Pv : Nat → L2.St → Hp → Prop) (h0 : Pv 0 σ H)
    (hs : ∀ (i : Nat) σ H, (i : Int) < j → Pv i σ H → g (.int i) σ H fun σ2 H2 => t { D with nx := Pv (i + 1), ct := Pv (i + 1), bk := D.nx } σ2 H2) (hd : ∀ σ H, Pv j.toNat σ H → D.nx σ H) :
    rg1K (forK g t D σ) [.int j] H := ⟨j, rfl, by omega, by omega, for_range Pv h0 (fun i σ H hi hp => by have e : (0 : Int) + (i : Int) = (i : Int) := Int.zero_add _; rw [e]; exact hs i σ H (by omega) hp) hd⟩

/-! tests and values -/
def bK (Q : Bool → Hp → Prop) : VK := fun x H => ∃ k, x = .bl k ∧ Q k H
theorem q_test {R : Bool → Hp → Prop} (h : te σ H (bK R)) : tTest te σ H R := h
theorem q_tB {R : Bool → Hp → Prop} (h : te σ H (bK R)) : tB te σ H R := h
theorem q_bK {R : Bool → Hp → Prop} {c : Bool} (k : R c H) : bK R (.bl c) H := ⟨c, rfl, k⟩
def andK (u : TT) (σ : L2.St) (R : Bool → Hp → Prop) : Bool → Hp → Prop := fun c H1 => if c = true then u σ H1 R else R false H1
def orK (u : TT) (σ : L2.St) (R : Bool → Hp → Prop) : Bool → Hp → Prop := fun c H1 => if c = true then R true H1 else u σ H1 R
theorem q_and {R : Bool → Hp → Prop} (h : tt σ H (andK tu σ R)) : tAnd tt tu σ H R := h
theorem q_or {R : Bool → Hp → Prop} (h : tt σ H (orK tu σ R)) : tOr tt tu σ H R := h
theorem q_andT {R : Bool → Hp → Prop} (h : tu σ H R) : andK tu σ R true H := iteT h
theorem q_andF {R : Bool → Hp → Prop} (h : R false H) : andK tu σ R false H := iteF h
theorem q_orT {R : Bool → Hp → Prop} (h : R true H) : orK tu σ R true H := iteT h
theorem q_orF {R : Bool → Hp → Prop} (h : tu σ H R) : orK tu σ R false H := iteF h
theorem q_and2 {R : Bool → Hp → Prop} {c : Bool} (h : c = true → tu σ H R) (h2 : c = false → R false H) : andK tu σ R c H := by
  cases c with
  | true => exact iteT (h rfl)
  | false => exact iteF (h2 rfl)
theorem q_or2 {R : Bool → Hp → Prop} {c : Bool} (h : c = true → R true H) (h2 : c = false → tu σ H R) : orK tu σ R c H := by
  cases c with
  | true => exact iteT (h rfl)
  | false => exact iteF (h2 rfl)
def notK (R : Bool → Hp → Prop) : Bool → Hp → Prop := fun c H1 => R (!c) H1
theorem q_not {R : Bool → Hp → Prop} (h : tt σ H (notK R)) : tNot tt σ H R := h
theorem q_notKT {R : Bool → Hp → Prop} (h : R false H) : notK R true H := h
theorem q_notKF {R : Bool → Hp → Prop} (h : R true H) : notK R false H := h
theorem q_notK {R : Bool → Hp → Prop} {c : Bool} (h : R (!c) H) : notK R c H := h
def andVK (tb : TE) (σ : L2.St) (Q : VK) : VK := fun x H1 => ∃ c, x = .bl c ∧ if c = true then tb σ H1 Q else Q (.bl false) H1
def orVK (tb : TE) (σ : L2.St) (Q : VK) : VK := fun x H1 => ∃ c, x = .bl c ∧ if c = true then Q (.bl true) H1 else tb σ H1 Q
theorem q_andV (h : ta σ H (andVK tb σ Q)) : tAndV ta tb σ H Q := h
theorem q_orV (h : ta σ H (orVK tb σ Q)) : tOrV ta tb σ H Q := h
theorem q_andVT (h : tb σ H Q) : andVK tb σ Q (.bl true) H := ⟨true, rfl, iteT h⟩
theorem q_andVF (h : Q (.bl false) H) : andVK tb σ Q (.bl false) H := ⟨false, rfl, iteF h⟩
theorem q_orVT (h : Q (.bl true) H) : orVK tb σ Q (.bl true) H := ⟨true, rfl, iteT h⟩
theorem q_orVF (h : tb σ H Q) : orVK tb σ Q (.bl false) H := ⟨false, rfl, iteF h⟩
theorem q_andV2 {c : Bool} (h : c = true → tb σ H Q) (h2 : c = false → Q (.bl false) H) : andVK tb σ Q (.bl c) H := by
  cases c with
  | true => exact q_andVT (h rfl)
  | false => exact q_andVF (h2 rfl)
theorem q_orV2 {c : Bool} (h : c = true → Q (.bl true) H) (h2 : c = false → tb σ H Q) : orVK tb σ Q (.bl c) H := by
  cases c with
  | true => exact q_orVT (h rfl)
  | false => exact q_orVF (h2 rfl)
def notVK (Q : VK) : VK := fun x H1 => ∃ c, x = .bl c ∧ Q (.bl (!c)) H1
theorem q_notV (h : ta σ H (notVK Q)) : tNotV ta σ H Q := h
theorem q_notVK {c : Bool} (k : Q (.bl (!c)) H) : notVK Q (.bl c) H := ⟨c, rfl, k⟩
def ifEK (ta tb : TE) (σ : L2.St) (Q : VK) : Bool → Hp → Prop := fun c H1 => if c = true then ta σ H1 Q else tb σ H1 Q
theorem q_ifE (h : tt σ H (ifEK ta tb σ Q)) : tIf tt ta tb σ H Q := h
theorem q_ifET (h : ta σ H Q) : ifEK ta tb σ Q true H := iteT h
theorem q_ifEF (h : tb σ H Q) : ifEK ta tb σ Q false H := iteF h
theorem q_ifE2 {c : Bool} (h : c = true → ta σ H Q) (h2 : c = false → tb σ H Q) : ifEK ta tb σ Q c H := by
  cases c with
  | true => exact iteT (h rfl)
  | false => exact iteF (h2 rfl)
theorem q_yes {R : Bool → Hp → Prop} (k : R true H) : tYes σ H R := k
theorem q_var {n : Nat} (h : σ[n]? = some (some v)) (k : Q v H) : tVar n σ H Q := ⟨v, h, k⟩
theorem q_c (k : Q v H) : tC v σ H Q := k
theorem q_op {r : R2} (h : ta σ H fun x H1 => tb σ H1 fun y H2 => r x y H2 Q) : tOp r ta tb σ H Q := h
theorem q_un {r : V → Hp → VK → Prop} (h : ta σ H fun x H1 => r x H1 Q) : tUn r ta σ H Q := h
theorem q_rU {f : Int → V} (k : Q (f i) H) : rU f (.int i) H Q := ⟨i, rfl, k⟩
theorem q_I0 {f : Int → Int → V} (k : Q (f i j) H) : rI0 f (.int i) (.int j) H Q := ⟨i, j, rfl, rfl, k⟩
theorem q_I {C : Int → Int → Prop} {f : Int → Int → V} (hc : C i j) (k : Q (f i j) H) : rI C f (.int i) (.int j) H Q := ⟨i, j, rfl, rfl, hc, k⟩
theorem q_eq (hs : scal x y = true) (k : Q (.bl (decide (x = y))) H) : rEq x y H Q := ⟨hs, k⟩
theorem q_ne (hs : scal x y = true) (k : Q (.bl (!decide (x = y))) H) : rNe x y H Q := ⟨hs, k⟩
theorem dec_int (i j : Int) : decide (V.int i = V.int j) = decide (i = j) := by
  by_cases h : i = j
  · subst h; simp
  · rw [decide_eq_false h, decide_eq_false (fun e => h (V.int.inj e))]
theorem q_eqI (k : Q (.bl (decide (i = j))) H) : rEq (.int i) (.int j) H Q := ⟨rfl, by rw [dec_int]; exact k⟩
theorem q_neI (k : Q (.bl (!decide (i = j))) H) : rNe (.int i) (.int j) H Q := ⟨rfl, by rw [dec_int]; exact k⟩
theorem dec_str (i j : Str) : decide (V.str i = V.str j) = decide (i = j) := by
  by_cases h : i = j
  · subst h; simp
  · rw [decide_eq_false h, decide_eq_false (fun e => h (V.str.inj e))]
theorem q_eqS {s z : Str} (k : Q (.bl (decide (s = z))) H) : rEq (.str s) (.str z) H Q := ⟨rfl, by rw [dec_str]; exact k⟩
theorem q_neS {s z : Str} (k : Q (.bl (!decide (s = z))) H) : rNe (.str s) (.str z) H Q := ⟨rfl, by rw [dec_str]; exact k⟩
theorem q_ixL (h : SqL K H p xs) (ha : atI xs i = some v) (k : Q v H) : rIxL K (.ref p) (.int i) H Q := ⟨p, xs, i, v, rfl, rfl, h, ha, k⟩
theorem q_ixT (h : SqT K H p xs) (ha : atI xs i = some v) (k : Q v H) : rIxT K (.ref p) (.int i) H Q := ⟨p, xs, i, v, rfl, rfl, h, ha, k⟩
theorem q_ixLt (h : H p = some (.lst xs)) (ha : atI xs i = some v) (k : Q v H) : rIxL K (.ref p) (.int i) H Q := q_ixL (sqL h) ha k
theorem q_ixTt (h : H p = some (.tup xs)) (ha : atI xs i = some v) (k : Q v H) : rIxT K (.ref p) (.int i) H Q := q_ixT (sqT h) ha k
theorem q_ixSL (h : SqL K H p xs) (ha : atI xs i = some v) (k : Q v H) : rIx K (.ref p) (.int i) H Q := .inl ⟨p, xs, i, v, rfl, rfl, h, ha, k⟩
theorem q_ixST (h : SqT K H p xs) (ha : atI xs i = some v) (k : Q v H) : rIx K (.ref p) (.int i) H Q := .inr (.inl ⟨p, xs, i, v, rfl, rfl, h, ha, k⟩)
theorem at_int {α : Type} {xs : List α} {i : Int} {x : α} {n : Nat} (e : i = (n : Int)) (h : xs[n]? = some x) : atI xs i = some x := by rw [e]; exact atI_nat h
theorem q_tNil {R : List V → Hp → Prop} (k : R [] H) : tNil σ H R := k
theorem q_tCons {R : List V → Hp → Prop} (h : ta σ H fun x H1 => tr σ H1 fun xs H2 => R (x :: xs) H2) : tCons ta tr σ H R := h
def tupK (Q : VK) : List V → Hp → Prop := fun xs H1 => xs.length ≤ sizeLine ∧ ∀ p, H1 p = none → Q (.ref p) (upd H1 p (.tup xs))
def lstK (Q : VK) : List V → Hp → Prop := fun xs H1 => xs.length ≤ sizeLine ∧ ∀ p, H1 p = none → Q (.ref p) (upd H1 p (.lst xs))
theorem q_tup (h : tr σ H (tupK Q)) : tTup tr σ H Q := h
theorem q_lst (h : tr σ H (lstK Q)) : tLst tr σ H Q := h
theorem q_tupK (hl : xs.length ≤ sizeLine) (k : ∀ p, H p = none → Q (.ref p) (upd H p (.tup xs))) : tupK Q xs H := ⟨hl, k⟩
theorem q_lstK (hl : xs.length ≤ sizeLine) (k : ∀ p, H p = none → Q (.ref p) (upd H p (.lst xs))) : lstK Q xs H := ⟨hl, k⟩
theorem q_cb {r : List V → Hp → VK → Prop} (h : tr σ H fun vs H1 => r vs H1 Q) : tCB r tr σ H Q := h
def callK (sp : Sp) (dvs : List V) (E : XK) (Q : VK) : List V → Hp → Prop := fun vs H1 => sp (vs ++ dvs) H1 Q E
theorem q_call {sp : Sp} {dvs : List V} {E : XK} (h : tr σ H (callK sp dvs E Q)) : tCall sp dvs E tr σ H Q := h
theorem q_callK {sp : Sp} {E : XK} (h : sp xs H Q E) : callK sp [] E Q xs H := by unfold callK; rw [List.append_nil]; exact h

/-! built-ins, by names of our own -/
def rLenQ (K : PySem.W.Frag) : List V → Hp → VK → Prop := fun xs H Q => ∃ p ys, xs = [.ref p] ∧ (SqL K H p ys ∨ SqT K H p ys) ∧ Q (.int ys.length) H
theorem cq_len {X : Cx} : CallR X (.builtin "len") (rLenQ X.K) := call_len_seq
theorem q_lenL (h : SqL K H p xs) (k : Q (.int xs.length) H) : rLenQ K [.ref p] H Q := ⟨p, xs, rfl, .inl h, k⟩
theorem q_lenT (h : SqT K H p xs) (k : Q (.int xs.length) H) : rLenQ K [.ref p] H Q := ⟨p, xs, rfl, .inr h, k⟩
theorem q_lenLt (h : H p = some (.lst xs)) (k : Q (.int xs.length) H) : rLenQ K [.ref p] H Q := q_lenL (sqL h) k
theorem q_lenTt (h : H p = some (.tup xs)) (k : Q (.int xs.length) H) : rLenQ K [.ref p] H Q := q_lenT (sqT h) k
def rLenD : List V → Hp → VK → Prop := fun xs H Q => ∃ a kvs, xs = [V.ref a] ∧ H a = some (.dK kvs) ∧ Q (.int kvs.length) H
def rLenS : List V → Hp → VK → Prop := fun xs H Q => ∃ x : Str, xs = [.str x] ∧ x.length ≤ sizeLine ∧ Q (.int x.length) H
theorem cq_lenS {X : Cx} : CallR X (.builtin "len") rLenS := by
  intro pins s σ H xs us Q I r h
  obtain ⟨x, e, hl, q⟩ := h
  exact call_len pins s σ H xs us Q I r ⟨.str x, x.length, e, ⟨hl, rfl⟩, q⟩
theorem q_lenS {x : Str} (hl : x.length ≤ sizeLine) (k : Q (.int x.length) H) : rLenS [.str x] H Q := ⟨x, rfl, hl, k⟩
def rAbs : List V → Hp → VK → Prop := fun xs H Q => ∃ i, xs = [.int i] ∧ Q (.int (if i < 0 then -i else i)) H
theorem cq_abs {X : Cx} : CallR X (.builtin "abs") rAbs := call_abs
theorem q_abs (k : Q (.int (if i < 0 then -i else i)) H) : rAbs [.int i] H Q := ⟨i, rfl, k⟩
def rInt1 : List V → Hp → VK → Prop := fun xs H Q => (∃ i, xs = [.int i] ∧ Q (.int i) H) ∨ ∃ k, xs = [.bl k] ∧ Q (.int (if k then 1 else 0)) H
theorem cq_int1 {X : Cx} : CallR X (.type "int") rInt1 := call_int1
theorem q_int1 (k : Q (.int i) H) : rInt1 [.int i] H Q := .inl ⟨i, rfl, k⟩
def rStrInt : List V → Hp → VK → Prop := fun xs H Q => ∃ i, xs = [.int i] ∧ i.natAbs.log2 < 1920 ∧ Q (.str (toString i)) H
theorem cq_strInt {X : Cx} : CallR X (.type "str") rStrInt := call_str_int
theorem q_strInt (hb : i.natAbs.log2 < 1920) (k : Q (.str (toString i)) H) : rStrInt [.int i] H Q := ⟨i, rfl, hb, k⟩
def rListOf (K : PySem.W.Frag) : List V → Hp → VK → Prop := fun xs H Q => ∃ p ys, xs = [.ref p] ∧ (SqL K H p ys ∨ SqT K H p ys) ∧ ∀ l, H l = none → Q (.ref l) (upd H l (.lst ys))
theorem cq_listOf {X : Cx} : CallR X (.type "list") (rListOf X.K) := call_list_of
theorem q_listL (h : SqL K H p xs) (k : ∀ l, H l = none → Q (.ref l) (upd H l (.lst xs))) : rListOf K [.ref p] H Q := ⟨p, xs, rfl, .inl h, k⟩
theorem q_listT (h : SqT K H p xs) (k : ∀ l, H l = none → Q (.ref l) (upd H l (.lst xs))) : rListOf K [.ref p] H Q := ⟨p, xs, rfl, .inr h, k⟩
def rTupOf (K : PySem.W.Frag) : List V → Hp → VK → Prop := fun xs H Q => ∃ p ys, xs = [.ref p] ∧ ((SqL K H p ys ∧ ∀ l, H l = none → Q (.ref l) (upd H l (.tup ys))) ∨ (SqT K H p ys ∧ Q (.ref p) H))
theorem cq_tupOf {X : Cx} : CallR X (.type "tuple") (rTupOf X.K) := call_tuple_of
theorem q_tupL (h : SqL K H p xs) (k : ∀ l, H l = none → Q (.ref l) (upd H l (.tup xs))) : rTupOf K [.ref p] H Q := ⟨p, xs, rfl, .inl ⟨h, k⟩⟩
theorem q_sum {ns : List Int} (h : SqL K H a (ns.map V.int)) (k : Q (.int ns.sum) H) : rSum K [.ref a] H Q := ⟨a, ns, rfl, h, k⟩
theorem q_all {bs : List Bool} (h : SqL K H a (bs.map V.bl)) (k : Q (.bl (bs.all id)) H) : rAll K [.ref a] H Q := ⟨a, bs, rfl, h, k⟩
theorem q_any {bs : List Bool} (h : SqL K H a (bs.map V.bl)) (k : Q (.bl (bs.any id)) H) : rAny K [.ref a] H Q := ⟨a, bs, rfl, h, k⟩
def rAddStr : R2 := fun x y H Q => ∃ i j, x = .str i ∧ y = .str j ∧ i.length + j.length ≤ sizeLine ∧ Q (.str (i ++ j)) H
theorem oq_addStr {X : Cx} : OpR X (binaryOp .Add) rAddStr := op_add_str
theorem q_addStr {s z : Str} (hl : s.length + z.length ≤ sizeLine) (k : Q (.str (s ++ z)) H) : rAddStr (.str s) (.str z) H Q := ⟨s, z, rfl, rfl, hl, k⟩
theorem q_isN' (k : Q (.bl (decide (x = .non))) H) : rIsN x .non H Q := ⟨rfl, k⟩
theorem q_notN' (k : Q (.bl (!decide (x = .non))) H) : rNotN x .non H Q := ⟨rfl, k⟩
theorem q_inD {d : PyData} {ds : List PyData} (hd : Dp K H x d) (hy : Dp K H y (.list ds)) (s1 : SeqAt.shaped d = true) (s2 : SeqAt.shaped (.list ds) = true) (k : Q (.bl (ds.any fun z => PyData.eqv z d)) H) : rInD K x y H Q := ⟨d, ds, hd, hy, s1, s2, k⟩
theorem q_notInD {d : PyData} {ds : List PyData} (hd : Dp K H x d) (hy : Dp K H y (.list ds)) (s1 : SeqAt.shaped d = true) (s2 : SeqAt.shaped (.list ds) = true) (k : Q (.bl (!ds.any fun z => PyData.eqv z d)) H) : rNotInD K x y H Q := ⟨d, ds, hd, hy, s1, s2, k⟩
theorem q_ifNT (h : u D σ H) : ifK D t u σ (!true) H := q_ifF h
theorem q_ifNF (h : t D σ H) : ifK D t u σ (!false) H := q_ifT h
theorem q_andNT {R : Bool → Hp → Prop} (h : R false H) : andK tu σ R (!true) H := q_andF h
theorem q_andNF {R : Bool → Hp → Prop} (h : tu σ H R) : andK tu σ R (!false) H := q_andT h
theorem q_orNT {R : Bool → Hp → Prop} (h : tu σ H R) : orK tu σ R (!true) H := q_orF h
theorem q_orNF {R : Bool → Hp → Prop} (h : R true H) : orK tu σ R (!false) H := q_orT h
theorem q_bKNT {R : Bool → Hp → Prop} (h : R false H) : bK R (.bl (!true)) H := q_bK h
theorem q_bKNF {R : Bool → Hp → Prop} (h : R true H) : bK R (.bl (!false)) H := q_bK h
/-! chains, isinstance, texts, dicts -/
def chK2 (r' : R2) (y : V) (tc : TE) (σ : L2.St) (Q : VK) : VK := fun z H3 => ∃ k, z = .bl k ∧ (if k = true then tc σ H3 fun w' H4 => r' y w' H4 Q else Q (.bl false) H3)
theorem q_chain {r r' : R2} (h : ta σ H fun x H1 => tb σ H1 fun y H2 => r x y H2 (chK2 r' y tc σ Q)) : tChain r r' ta tb tc σ H Q := h
theorem q_chT {r' : R2} (h : tc σ H fun w' H4 => r' y w' H4 Q) : chK2 r' y tc σ Q (.bl true) H := ⟨true, rfl, iteT h⟩
theorem q_chF {r' : R2} (h : Q (.bl false) H) : chK2 r' y tc σ Q (.bl false) H := ⟨false, rfl, iteF h⟩
theorem q_ch2 {r' : R2} {c : Bool} (h : c = true → tc σ H fun w' H4 => r' y w' H4 Q) (h2 : c = false → Q (.bl false) H) : chK2 r' y tc σ Q (.bl c) H := by
  cases c with
  | true => exact q_chT (h rfl)
  | false => exact q_chF (h2 rfl)
def rIsiQ (K : PySem.W.Frag) : List V → Hp → VK → Prop := rIsi K
theorem q_isi {n : String} {t : Value} {c : Bool} (ht : TyX K H x t) (hk : PySem.W.kitOne K t (.type n) = some c) (k : Q (.bl c) H) : rIsi K [x, .ty n] H Q := ⟨x, .ty n, t, .type n, c, rfl, .ty n, ht, hk, k⟩
def rOrd : List V → Hp → VK → Prop := fun xs H Q => ∃ x, xs = [.str x] ∧ x.length = 1 ∧ Q (.int (x.cps.getD 0 0 : Nat)) H
theorem cq_ord {X : Cx} : CallR X (.builtin "ord") rOrd := call_ord
theorem q_ord {c : Nat} (k : Q (.int c) H) : rOrd [.str ⟨#[c]⟩] H Q := ⟨_, rfl, rfl, k⟩
theorem q_forS {s : Str} (Pv : Nat → L2.St → Hp → Prop) (h0 : Pv 0 σ H)
    (hs : ∀ i c σ H, s.cps[i]? = some c → Pv i σ H → g (.str ⟨#[c]⟩) σ H fun σ2 H2 => t { D with nx := Pv (i + 1), ct := Pv (i + 1), bk := D.nx } σ2 H2) (hd : ∀ σ H, Pv s.cps.size σ H → D.nx σ H) : forK g t D σ (Its s) H := by
  refine ⟨fun i m σ H => i + m = s.cps.size ∧ Pv i σ H, ⟨s.cps.size, Nat.zero_add _, h0⟩, fun i m σ H hW => ?_⟩
  obtain ⟨e, hp⟩ := hW
  by_cases hi : i < s.cps.size
  · refine .inr ⟨hi, Pv (i + 1), fun σ' H' hN => ⟨m - 1, by omega, by omega, hN⟩, fun x H' hy => ?_⟩
    obtain ⟨rfl, c, hc, rfl⟩ := hy
    exact hs i c σ H' hc hp
  · have e2 : i = s.cps.size := by omega
    subst e2
    exact .inl ⟨Nat.le_refl _, hd σ H hp⟩
theorem q_iStr {s : Str} {R : It → Hp → Prop} (k : R (Its s) H) : ∃ z, V.str s = .str z ∧ R (Its z) H := ⟨s, rfl, k⟩
theorem q_iStr0 {R : It → Hp → Prop} (h : te σ H fun v H1 => ∃ x, v = .str x ∧ R (Its x) H1) : iStr te σ H R := h
def dInK (Q : VK) (y : V) : VK := fun x H2 => ∃ a o, x = .ref a ∧ DGet H2 a y o ∧ Q (.bl o.isSome) H2
def dNInK (Q : VK) (y : V) : VK := fun x H2 => ∃ a o, x = .ref a ∧ DGet H2 a y o ∧ Q (.bl (!o.isSome)) H2
theorem q_tDIn {ty td : TE} (h : ty σ H fun y H1 => td σ H1 (dInK Q y)) : tDIn ty td σ H Q := h
theorem q_tDNotIn {ty td : TE} (h : ty σ H fun y H1 => td σ H1 (dNInK Q y)) : tDNotIn ty td σ H Q := h
theorem q_dInS {kvs : List (Key × V)} {s : Str} (h : H a = some (.dK kvs)) (k : Q (.bl (valV kvs (.inr s)).isSome) H) : dInK Q (.str s) (.ref a) H := ⟨a, _, rfl, DGet.k (k := Sum.inr s) h, k⟩
theorem q_dNInS {kvs : List (Key × V)} {s : Str} (h : H a = some (.dK kvs)) (k : Q (.bl (!(valV kvs (.inr s)).isSome)) H) : dNInK Q (.str s) (.ref a) H := ⟨a, _, rfl, DGet.k (k := Sum.inr s) h, k⟩
theorem q_dInI {kvs : List (Key × V)} (h : H a = some (.dK kvs)) (k : Q (.bl (valV kvs (.inl i)).isSome) H) : dInK Q (.int i) (.ref a) H := ⟨a, _, rfl, DGet.k (k := Sum.inl i) h, k⟩
theorem q_dNInI {kvs : List (Key × V)} (h : H a = some (.dK kvs)) (k : Q (.bl (!(valV kvs (.inl i)).isSome)) H) : dNInK Q (.int i) (.ref a) H := ⟨a, _, rfl, DGet.k (k := Sum.inl i) h, k⟩
def dGetK (Q : VK) (x : V) : VK := fun y H2 => ∃ a v, x = .ref a ∧ DGet H2 a y (some v) ∧ Q v H2
theorem q_tDGet {ty td : TE} (h : td σ H fun x H1 => ty σ H1 (dGetK Q x)) : tDGet td ty σ H Q := h
theorem q_dGetS {kvs : List (Key × V)} {s : Str} (h : H a = some (.dK kvs)) (e : valV kvs (.inr s) = some v) (k : Q v H) : dGetK Q (.ref a) (.str s) H := ⟨a, v, rfl, by rw [← e]; exact DGet.k (k := Sum.inr s) h, k⟩
theorem q_dGetI {kvs : List (Key × V)} (h : H a = some (.dK kvs)) (e : valV kvs (.inl i) = some v) (k : Q v H) : dGetK Q (.ref a) (.int i) H := ⟨a, v, rfl, by rw [← e]; exact DGet.k (k := Sum.inl i) h, k⟩
theorem q_dNew (k : ∀ p, H p = none → Q (.ref p) (upd H p (.dK []))) : tDNewK σ H Q := k
def dPutK (D : Ends) (σ : L2.St) (v x : V) : VK := fun y H3 => ∃ a H4, x = .ref a ∧ DPut H3 a y v H4 ∧ D.nx σ H4
theorem q_sDPut {td ty tv : TE} (h : tv σ H fun v H1 => td σ H1 fun x H2 => ty σ H2 (dPutK D σ v x)) : sDPut td ty tv D σ H := h
theorem q_dPutS {kvs : List (Key × V)} {s : Str} (h : H a = some (.dK kvs)) (hl : kvs.length < sizeLine) (k : D.nx σ (upd H a (.dK (putK kvs (.inr s) v)))) : dPutK D σ v (.ref a) (.str s) H := ⟨a, _, rfl, DPut.k (k := Sum.inr s) h hl, k⟩
theorem q_dPutI {kvs : List (Key × V)} (h : H a = some (.dK kvs)) (hl : kvs.length < sizeLine) (k : D.nx σ (upd H a (.dK (putK kvs (.inl i) v)))) : dPutK D σ v (.ref a) (.int i) H := ⟨a, _, rfl, DPut.k (k := Sum.inl i) h hl, k⟩
def truK (K : PySem.W.Frag) (R : Bool → Hp → Prop) : VK := fun x H' => ∃ k, TruV K x H' k ∧ R k H'
theorem q_tru {R : Bool → Hp → Prop} (h : te σ H (truK K R)) : (fun (σ : L2.St) (H : Hp) (Q : Bool → Hp → Prop) => te σ H fun x H' => ∃ k, TruV K x H' k ∧ Q k H') σ H R := h
theorem q_isBl {c d : Bool} (k : Q (.bl (decide (c = d))) H) : rIsB (.bl c) (.bl d) H Q := ⟨c, d, rfl, rfl, k⟩
theorem q_notBl {c d : Bool} (k : Q (.bl (!decide (c = d))) H) : rNotB (.bl c) (.bl d) H Q := ⟨c, d, rfl, rfl, k⟩
theorem q_inT (h : SqT K H p xs) (hx : flatV x = true) (ha : xs.all flatV = true) (k : Q (.bl (inV x xs)) H) : rIn K false x (.ref p) H Q := ⟨p, xs, rfl, .inr h, hx, ha, k⟩
theorem q_inL (h : SqL K H p xs) (hx : flatV x = true) (ha : xs.all flatV = true) (k : Q (.bl (inV x xs)) H) : rIn K false x (.ref p) H Q := ⟨p, xs, rfl, .inl h, hx, ha, k⟩
theorem q_eqD {d e : PyData} (hd : Dp K H x d) (he : Dp K H y e) (s1 : SeqAt.shaped d = true) (s2 : SeqAt.shaped e = true) (k : Q (.bl (PyData.eqv d e)) H) : rEqD K x y H Q := ⟨d, e, hd, he, s1, s2, k⟩
theorem q_neD {d e : PyData} (hd : Dp K H x d) (he : Dp K H y e) (s1 : SeqAt.shaped d = true) (s2 : SeqAt.shaped e = true) (k : Q (.bl (!PyData.eqv d e)) H) : rNeD K x y H Q := ⟨d, e, hd, he, s1, s2, k⟩
theorem q_catA (h1 : H a = some (.tup xs)) (h2 : H b = some (.tup ys)) (hl : xs.length + ys.length ≤ sizeLine) (k : ∀ p H', Same H H' → H' p = some (.tup (xs ++ ys)) → Q (.ref p) H') : rCatA K (.ref a) (.ref b) H Q := by
  refine ⟨a, b, xs, ys, rfl, rfl, sqT h1, sqT h2, hl, fun e => ?_, fun _ e => ?_, fun _ _ p hp => k p _ (Same.new (Same.refl _) hp) upd_same⟩
  · subst e; exact k b H (Same.refl _) h2
  · subst e; exact k a H (Same.refl _) (by rw [List.append_nil]; exact h1)
theorem q_slA {lo hi : Option Int} (h : H a = some (.tup xs)) (k : ∀ p H', Same H H' → H' p = some (.tup (cutV xs lo hi)) → Q (.ref p) H') : rSlA K (.ref a) lo hi H Q := by
  refine ⟨a, xs, rfl, sqT h, fun e => ?_, fun _ p hp => k p _ (Same.new (Same.refl _) hp) upd_same⟩
  refine k a H (Same.refl _) ?_
  unfold cutV
  rw [e.1, e.2, List.drop_zero, Nat.sub_zero, List.take_length]
  exact h
theorem cut_take {n : Nat} (hn : n ≤ xs.length) : cutV xs none (some (n : Int)) = xs.take n := by
  unfold cutV
  rw [HT.sIx_none, show HT.sIx xs.length xs.length (some (n : Int)) = min n xs.length from HT.sIx_nat xs.length xs.length n, Nat.min_eq_left hn, List.drop_zero, Nat.sub_zero]
theorem cut_drop {n : Nat} (hn : n ≤ xs.length) : cutV xs (some (n : Int)) none = xs.drop n := by
  unfold cutV
  rw [HT.sIx_none, show HT.sIx xs.length 0 (some (n : Int)) = min n xs.length from HT.sIx_nat xs.length 0 n, Nat.min_eq_left hn]
  exact List.take_of_length_le (by rw [List.length_drop]; exact Nat.le_refl _)
theorem q_sl {r : V → Option Int → Option Int → Hp → VK → Prop} {tl th : TO} (h : te σ H fun x H1 => tl σ H1 fun l H2 => th σ H2 fun u H3 => r x l u H3 Q) : tSl r te tl th σ H Q := h
theorem q_noPart {R : Option Int → Hp → Prop} (k : R none H) : tNoPart σ H R := k
def partK (R : Option Int → Hp → Prop) : VK := fun x H1 => ∃ i, x = .int i ∧ R (some i) H1
theorem q_part {R : Option Int → Hp → Prop} (h : te σ H (partK R)) : tPart te σ H R := h
theorem q_partK {R : Option Int → Hp → Prop} (k : R (some i) H) : partK R (.int i) H := ⟨i, rfl, k⟩
/-! a text times a number -/
def repS (s : Str) (n : Int) : Str := ⟨(List.replicate n.toNat s.cps).foldl (· ++ ·) #[]⟩
def mulOk (s : Str) (n : Int) : Bool := decide (2 ≤ n) && decide (n ≤ 1000) && decide (s.length = 1) && decide ((repS s n).length ≤ 1000)
def rMulStr : R2 := fun x y H Q => ∃ s n, x = .str s ∧ y = .int n ∧ mulOk s n = true ∧ Q (.str (repS s n)) H
theorem oq_mulStr {X : Cx} : OpR X (binaryOp .Mult) rMulStr := by
  intro pins s σ H x y v u Q I rx ry h
  obtain ⟨z, n, rfl, rfl, hm, q⟩ := h
  obtain ⟨t, rfl⟩ := rx
  obtain ⟨t', rfl⟩ := ry
  unfold mulOk at hm
  simp only [Bool.and_eq_true, decide_eq_true_eq] at hm
  obtain ⟨⟨⟨h1, h2⟩, h3⟩, h4⟩ := hm
  have e1 : (n == 1 || z.length == 0) = false := by
    rw [h3]
    have : (n == 1) = false := beq_eq_false_iff_ne.mpr (by omega)
    rw [this]
    rfl
  refine PySem.P.mul_str ?_ (fun _ _ => ?_) (fun _ _ => ?_) ?_
  · rw [decide_eq_false (show ¬ n < -(2 ^ 63) by omega), decide_eq_false (show ¬ n ≥ 2 ^ 63 by omega)]
    rfl
  · rw [h3]
    have : (1 : Int) ≤ (2 ^ 63 - 1) / n := Int.le_ediv_of_mul_le (by omega) (by omega)
    exact Int.not_lt.mpr this
  · rw [h3, Nat.one_mul]
    exact decide_eq_false (by
      have : sizeLine = 16777216 := sizeLine_eq
      omega)
  · rw [if_neg (show ¬ n < 1 by omega), if_neg (by rw [e1]; exact Bool.false_ne_true)]
    exact ⟨Nat.le_trans h4 (by decide), .str (repS z n), H, I.tok _, ⟨_, rfl⟩, q⟩
theorem q_mulStr {s : Str} (hm : mulOk s i = true) (k : Q (.str (repS s i)) H) : rMulStr (.str s) (.int i) H Q := ⟨s, i, rfl, rfl, hm, k⟩
/-! methods of lists -/
def bmK (K : PySem.W.Frag) (T : String) (r : V → List V → Hp → VK → Prop) (t : TA) (σ : L2.St) (Q : VK) : VK := fun x H1 => tyV K T x H1 ∧ t σ H1 fun xs H2 => r x xs H2 Q
def bmK0 (K : PySem.W.Frag) (T : String) (r : V → List V → Hp → VK → Prop) (Q : VK) : VK := fun x H1 => tyV K T x H1 ∧ r x [] H1 Q
theorem q_bm {T : String} {r : V → List V → Hp → VK → Prop} (h : te σ H (bmK K T r tr σ Q)) : tBM K T r te tr σ H Q := h
theorem q_bm0 {T : String} {r : V → List V → Hp → VK → Prop} (h : te σ H (bmK0 K T r Q)) : tBM0 K T r te σ H Q := h
theorem q_bmL {r : V → List V → Hp → VK → Prop} (h : H l = some (.lst xs)) (k : tr σ H fun vs H2 => r (.ref l) vs H2 Q) : bmK K "list" r tr σ Q (.ref l) H := ⟨.inl ⟨rfl, xs, sqL h⟩, k⟩
theorem q_bmL0 {r : V → List V → Hp → VK → Prop} (h : H l = some (.lst xs)) (k : r (.ref l) [] H Q) : bmK0 K "list" r Q (.ref l) H := ⟨.inl ⟨rfl, xs, sqL h⟩, k⟩
theorem q_append (h : H l = some (.lst xs)) (hl : xs.length < sizeLine) (k : Q .non (upd H l (.lst (xs ++ [y])))) : rAppend (.ref l) [y] H Q := ⟨l, xs, y, rfl, rfl, h, hl, k⟩
theorem q_popAt {n : Nat} (h : H l = some (.lst xs)) (e : i = (n : Int)) (hn : n < xs.length) (hb : i < 2 ^ 63) (hv : xs[n]? = some v) (k : Q v (upd H l (.lst (xs.eraseIdx n)))) : rPopAt (.ref l) [.int i] H Q := by
  refine ⟨l, xs, i, n, v, rfl, rfl, h, by omega, hb, ?_, hv, k⟩
  subst e
  unfold seqIndex?
  have h1 : ¬ ((n : Int) < 0) := by omega
  have h2 : (n : Int) < (xs.length : Int) := by omega
  have h3 : (0 : Int) ≤ (n : Int) := by omega
  simp [h1, h2, h3]
/-! a walk over a list or a tuple -/
theorem pi_or {X : Cx} {tg e : Expr} {w1 w2 : TI} (h1 : PI X tg e w1) (h2 : PI X tg e w2) : PI X tg e (fun σ H R => w1 σ H R ∨ w2 σ H R) :=
  ⟨fun pins s σ H R I h => h.elim (h1.run pins s σ H R I) (h2.run pins s σ H R I)⟩
def iSeq (K : PySem.W.Frag) (te : TE) : TI := fun σ H R => iList K te σ H R ∨ iTup K te σ H R
theorem pi_seq {X : Cx} {tg e : Expr} {te : TE} (h : PE X e te) : PI X tg e (iSeq X.K te) := pi_or (pi_list h) (pi_tup h)
theorem q_iSeqL {R : It → Hp → Prop} (h : te σ H fun x H1 => ∃ a, x = .ref a ∧ (∃ xs, SqL K H1 a xs) ∧ R (Itl K a) H1) : iSeq K te σ H R := .inl h
theorem q_iSeqT {R : It → Hp → Prop} (h : te σ H fun x H1 => ∃ a, x = .ref a ∧ (∃ xs, SqT K H1 a xs) ∧ R (Itt K a) H1) : iSeq K te σ H R := .inr h
/-! a written dict -/
def pairsK (σ : L2.St) (r : List (TE × TE)) (x : V) (Q : List (V × V) → Hp → Prop) : VK := fun y H2 => tPairs r σ H2 fun ps H3 => Q ((x, y) :: ps) H3
theorem q_pairC {tk tv : TE} {r : List (TE × TE)} {R : List (V × V) → Hp → Prop} (h : tk σ H fun x H1 => tv σ H1 (pairsK σ r x R)) : tPairs ((tk, tv) :: r) σ H R := h
theorem q_pairsK {r : List (TE × TE)} {R : List (V × V) → Hp → Prop} (h : tPairs r σ H fun ps H3 => R ((x, y) :: ps) H3) : pairsK σ r x R y H := h
theorem q_pairN {R : List (V × V) → Hp → Prop} (h : R [] H) : tPairs [] σ H R := h
def dispK (Q : VK) (p : Addr) : List (V × V) → Hp → Prop := fun ps H2 => H2 p = some (.dK []) ∧ ∃ kvs : List (Key × V), ps = kvs.map (fun kv => (kV kv.1, kv.2)) ∧ kvs.length ≤ 15 ∧ Q (.ref p) (upd H2 p (.dK (mergeK [] kvs)))
theorem q_disp {trs : List (TE × TE)} (k : ∀ p, H p = none → tPairs trs σ (upd H p (.dK [])) (dispK Q p)) : tDisp trs σ H Q := k
theorem valV_cons {κ : Type} [DecidableEq κ] {kvs : List (κ × V)} {k k' : κ} {v : V} : valV ((k, v) :: kvs) k' = if k = k' then some v else valV kvs k' := by
  unfold valV
  rw [List.find?_cons]
  by_cases e : k = k'
  · rw [if_pos e, decide_eq_true e]; rfl
  · rw [if_neg e, decide_eq_false e]
theorem valV_nomem {κ : Type} [DecidableEq κ] {kvs : List (κ × V)} {k : κ} (h : k ∉ kvs.map (·.1)) : valV kvs k = none := by
  cases q : valV kvs k with
  | none => rfl
  | some v => exact absurd (valV_in q) h
theorem merge_app : ∀ (kvs acc : List (Key × V)), ((acc ++ kvs).map (·.1)).Nodup → mergeK acc kvs = acc ++ kvs
  | [], acc, _ => by rw [List.append_nil]; rfl
  | (k, v) :: r, acc, h => by
    have hk : k ∉ acc.map (·.1) := by
      rw [List.map_append] at h
      intro m
      exact (List.nodup_append.mp h).2.2 k m k (by simp) rfl
    show mergeK (putK acc k v) r = _
    rw [putK_new v (valV_nomem hk), merge_app r (acc ++ [(k, v)]) (by rw [List.append_assoc]; exact h), List.append_assoc]
    rfl
theorem q_dispK {kvs : List (Key × V)} {ps : List (V × V)} (h : H p = some (.dK [])) (e : ps = kvs.map (fun kv => (kV kv.1, kv.2))) (hl : kvs.length ≤ 15) (hn : (kvs.map (·.1)).Nodup) (k : Q (.ref p) (upd H p (.dK kvs))) : dispK Q p ps H :=
  ⟨h, kvs, e, hl, by rw [merge_app kvs [] hn]; exact k⟩
theorem q_slL {lo hi : Option Int} (h : SqL K H a xs) (k : ∀ p, H p = none → Q (.ref p) (upd H p (.lst (cutV xs lo hi)))) : rSlL K (.ref a) lo hi H Q := ⟨a, xs, rfl, h, k⟩
/-! attributes and methods -/
def fldK (K : PySem.W.Frag) (f : Str) (Q : VK) : VK := fun x H1 => ∃ a C dx fs v, x = .ref a ∧ H1 a = some (.ins C dx fs) ∧ Cls K C ∧ NoAttr K C f ∧ fs.lookup f = some v ∧ Q v H1
theorem q_fld {f : Str} (h : te σ H (fldK K f Q)) : tFld K te f σ H Q := h
theorem q_fldK {f : Str} {C dx : Addr} {fs : List (Str × V)} (h : H a = some (.ins C dx fs)) (hc : Cls K C) (hn : NoAttr K C f) (hl : fs.lookup f = some v) (k : Q v H) : fldK K f Q (.ref a) H := ⟨a, C, dx, fs, v, rfl, h, hc, hn, hl, k⟩
def fputK (K : PySem.W.Frag) (f : Str) (D : Ends) (σ : L2.St) (y : V) : VK := fun x H2 => ∃ a C dx fs, x = .ref a ∧ H2 a = some (.ins C dx fs) ∧ Cls K C ∧ NoAttr K C f ∧ fs.length < 1000 ∧ D.nx σ (upd H2 a (.ins C dx (putF f y fs)))
theorem q_sFld {f : Str} (h : tb σ H fun y H1 => te σ H1 (fputK K f D σ y)) : sFld K te tb f D σ H := h
theorem q_fputK {f : Str} {C dx : Addr} {fs : List (Str × V)} (h : H a = some (.ins C dx fs)) (hc : Cls K C) (hn : NoAttr K C f) (hl : fs.length < 1000) (k : D.nx σ (upd H a (.ins C dx (putF f y fs)))) : fputK K f D σ y (.ref a) H := ⟨a, C, dx, fs, rfl, h, hc, hn, hl, k⟩
def methK (m : Str) (C : Addr) (sp : Sp) (dvs : List V) (E : XK) (tr : TA) (σ : L2.St) (Q : VK) : VK := fun x H1 => ∃ a dx fs, x = .ref a ∧ H1 a = some (.ins C dx fs) ∧ fs.lookup m = none ∧ tr σ H1 fun vs H2 => sp (x :: (vs ++ dvs)) H2 Q E
theorem q_meth {m : Str} {C : Addr} {sp : Sp} {dvs : List V} {E : XK} (h : te σ H (methK m C sp dvs E tr σ Q)) : tMeth C m sp dvs E te tr σ H Q := h
def selfK (sp : Sp) (x : V) (E : XK) (Q : VK) : List V → Hp → Prop := fun vs H2 => sp (x :: vs) H2 Q E
theorem q_methK {m : Str} {C dx : Addr} {sp : Sp} {E : XK} {fs : List (Str × V)} (h : H a = some (.ins C dx fs)) (hn : fs.lookup m = none) (k : ∀ (R : List V → Hp → Prop), (∀ vs H2, sp (.ref a :: vs) H2 Q E → R vs H2) → tr σ H R) : methK m C sp [] E tr σ Q (.ref a) H :=
  ⟨a, dx, fs, rfl, h, hn, k _ fun vs H2 q => by rw [List.append_nil]; exact q⟩
theorem q_fldlen {f : Str} {fs : List (Str × V)} {y : V} {n : Nat} (h : fs.length ≤ n) : (putF f y fs).length ≤ n + 1 := by
  induction fs generalizing n with
  | nil => exact Nat.succ_le_succ (Nat.zero_le _)
  | cons p r ih =>
    obtain ⟨g, x⟩ := p
    show (if g = f then (g, y) :: r else (g, x) :: putF f y r).length ≤ n + 1
    by_cases e : g = f
    · rw [if_pos e]; exact Nat.le_succ_of_le h
    · rw [if_neg e]
      cases n with
      | zero => exact absurd h (by simp)
      | succ n => exact Nat.succ_le_succ (ih (Nat.le_of_succ_le_succ h))
theorem q_never {σ : L2.St} (h : False) : tNever D σ H := h
def mkK (C : Addr) (n m : Nat) (sp : Sp) (gV : List V → List V → List V) (E : XK) (vs : List V) (Q : VK) : List V → Hp → Prop := fun zs H2 => vs.length = n ∧ zs.length = m ∧ ∀ x dx, H2 x = none → H2 dx = none → dx ≠ x →
  sp (gV (.ref x :: vs) zs) (upd (upd H2 dx (.own x)) x (.ins C dx [])) (fun v H3 => v = .non ∧ Q (.ref x) H3) E
theorem q_makeK {C : Addr} {n m : Nat} {sp : Sp} {gV : List V → List V → List V} {E : XK} {tk : TA} (h : tr σ H fun vs H1 => tk σ H1 (mkK C n m sp gV E vs Q)) : tMakeK C n m sp gV E tr tk σ H Q := h
/-! comprehensions -/
def lcK (g : TG) (tt : TT) (te : TE) (vs : List Nat) (σ : L2.St) (Q : VK) : It → Hp → Prop := fun J H1 => ∀ D, H1 D = none → ∃ W : Nat → Nat → Hp → Prop, (∃ m, W 0 m (upd H1 D (.lst []))) ∧ ∀ i m H, W i m H →
  (J.stop i H ∧ Q (.ref D) H) ∨ (J.go i H ∧ ∃ Nx : Hp → Prop, (∀ H', Nx H' → ∃ m', m' < m ∧ W (i + 1) m' H') ∧ ∀ x H', J.yld i H x H' → g x (wipe σ vs) H' fun σ2 H2 => wipe σ2 vs = wipe σ vs ∧ tt σ2 H2 fun b H3 =>
    if b = true then te σ2 H3 fun y H4 => ∃ acc, H4 D = some (.lst acc) ∧ acc.length < sizeLine ∧ Nx (upd H4 D (.lst (acc ++ [y]))) else Nx H3)
theorem q_lc {wi : TI} {vs : List Nat} (h : wi σ H (lcK g tt te vs σ Q)) : tLc wi g tt te vs σ H Q := h
def keepK (te : TE) (σ : L2.St) (D : Addr) (Nx : Hp → Prop) : Bool → Hp → Prop := fun b H3 => if b = true then te σ H3 fun y H4 => ∃ acc, H4 D = some (.lst acc) ∧ acc.length < sizeLine ∧ Nx (upd H4 D (.lst (acc ++ [y]))) else Nx H3
def accK (D : Addr) (Nx : Hp → Prop) : VK := fun y H4 => ∃ acc, H4 D = some (.lst acc) ∧ acc.length < sizeLine ∧ Nx (upd H4 D (.lst (acc ++ [y])))
theorem q_keepT {Nx : Hp → Prop} (h : te σ H (accK l Nx)) : keepK te σ l Nx true H := iteT h
theorem q_keepF {Nx : Hp → Prop} (h : Nx H) : keepK te σ l Nx false H := iteF h
theorem q_keep2 {Nx : Hp → Prop} {c : Bool} (h : c = true → te σ H (accK l Nx)) (h2 : c = false → Nx H) : keepK te σ l Nx c H := by
  cases c with
  | true => exact iteT (h rfl)
  | false => exact iteF (h2 rfl)
theorem q_accK {Nx : Hp → Prop} (h : H l = some (.lst xs)) (hl : xs.length < sizeLine) (k : Nx (upd H l (.lst (xs ++ [y])))) : accK l Nx y H := ⟨xs, h, hl, k⟩
theorem q_lcL {S : List V} {vs : List Nat} (h : SqL K H a S) (k : ∀ D, H D = none → ∃ Pv : Nat → Hp → Prop, Pv 0 (upd H D (.lst [])) ∧ (∀ i H, i ≤ S.length → Pv i H → SqL K H a S) ∧
      (∀ i x H, S[i]? = some x → Pv i H → g x (wipe σ vs) H fun σ2 H2 => wipe σ2 vs = wipe σ vs ∧ tt σ2 H2 (keepK te σ2 D (Pv (i + 1)))) ∧ ∀ H, Pv S.length H → Q (.ref D) H) :
    ∃ b, V.ref a = .ref b ∧ (∃ xs, SqL K H b xs) ∧ lcK g tt te vs σ Q (Itl K b) H := ⟨a, rfl, ⟨S, h⟩, fun D hD => by
      obtain ⟨Pv, h0, hl, hs, hd⟩ := k D hD
      exact lc_list Pv h0 hl hs hd⟩
theorem q_lcT {S : List V} {vs : List Nat} (h : SqT K H a S) (k : ∀ D, H D = none → ∃ Pv : Nat → Hp → Prop, Pv 0 (upd H D (.lst [])) ∧ (∀ i H, i ≤ S.length → Pv i H → SqT K H a S) ∧
      (∀ i x H, S[i]? = some x → Pv i H → g x (wipe σ vs) H fun σ2 H2 => wipe σ2 vs = wipe σ vs ∧ tt σ2 H2 (keepK te σ2 D (Pv (i + 1)))) ∧ ∀ H, Pv S.length H → Q (.ref D) H) :
    ∃ b, V.ref a = .ref b ∧ (∃ xs, SqT K H b xs) ∧ lcK g tt te vs σ Q (Itt K b) H := ⟨a, rfl, ⟨S, h⟩, fun D hD => by
      obtain ⟨Pv, h0, hl, hs, hd⟩ := k D hD
      exact lc_tup Pv h0 hl hs hd⟩
theorem q_lcR {vs : List Nat} (hj : 0 ≤ j ∧ j < 1000000000000000) (k : ∀ D, H D = none → ∃ Pv : Nat → Hp → Prop, Pv 0 (upd H D (.lst [])) ∧
      (∀ (i : Nat) H, (i : Int) < j → Pv i H → g (.int i) (wipe σ vs) H fun σ2 H2 => wipe σ2 vs = wipe σ vs ∧ tt σ2 H2 (keepK te σ2 D (Pv (i + 1)))) ∧ ∀ H, Pv j.toNat H → Q (.ref D) H) :
    rg1K (lcK g tt te vs σ Q) [.int j] H := ⟨j, rfl, by omega, by omega, fun D hD => by
      obtain ⟨Pv, h0, hs, hd⟩ := k D hD
      refine lc_range Pv h0 (fun i H hi hp => ?_) hd
      have e : (0 : Int) + (i : Int) = (i : Int) := Int.zero_add _
      rw [e]
      exact hs i H (by omega) hp⟩
end

/-! get and setdefault of a dict -/
section
variable {H : Hp} {σ : L2.St} {Q : VK} {td ty tx : TE} {a : Addr} {z v : V}
def dG2K (Q : VK) (a : Addr) (y : V) : VK := fun z H3 => ∃ o, DGet H3 a y o ∧ Q (o.getD z) H3
def dG2a (ty tx : TE) (σ : L2.St) (Q : VK) : VK := fun x H1 => ∃ a, x = .ref a ∧ IsD H1 a ∧ ty σ H1 fun y H2 => tx σ H2 (dG2K Q a y)
theorem q_tDGet2 (h : td σ H (dG2a ty tx σ Q)) : tDGet2 td ty tx σ H Q := h
theorem q_dG2a {kvs : List (Key × V)} (h : H a = some (.dK kvs)) (k : ty σ H fun y H2 => tx σ H2 (dG2K Q a y)) : dG2a ty tx σ Q (.ref a) H := ⟨a, rfl, .inl ⟨kvs, .inl h⟩, k⟩
theorem q_dG2S {kvs : List (Key × V)} {s : Str} (h : H a = some (.dK kvs)) (k : Q ((valV kvs (.inr s)).getD z) H) : dG2K Q a (.str s) z H := ⟨_, DGet.k (k := Sum.inr s) h, k⟩
theorem q_dG2I {kvs : List (Key × V)} {i : Int} (h : H a = some (.dK kvs)) (k : Q ((valV kvs (.inl i)).getD z) H) : dG2K Q a (.int i) z H := ⟨_, DGet.k (k := Sum.inl i) h, k⟩
def dSdK (Q : VK) (a : Addr) (y : V) : VK := fun z H3 => ∃ (kvs : List (Key × V)) (k : Key), H3 a = some (.dK kvs) ∧ y = kV k ∧ kvs.length < sizeLine ∧ (∀ v, valV kvs k = some v → Q v H3) ∧ (valV kvs k = none → Q z (upd H3 a (.dK (putK kvs k z))))
def dSda (ty tx : TE) (σ : L2.St) (Q : VK) : VK := fun x H1 => ∃ a, x = .ref a ∧ IsD H1 a ∧ ty σ H1 fun y H2 => tx σ H2 (dSdK Q a y)
theorem q_tDSetd (h : td σ H (dSda ty tx σ Q)) : tDSetd td ty tx σ H Q := h
theorem q_dSda {kvs : List (Key × V)} (h : H a = some (.dK kvs)) (k : ty σ H fun y H2 => tx σ H2 (dSdK Q a y)) : dSda ty tx σ Q (.ref a) H := ⟨a, rfl, .inl ⟨kvs, .inl h⟩, k⟩
theorem q_dSdS {kvs : List (Key × V)} {s : Str} (h : H a = some (.dK kvs)) (hl : kvs.length < sizeLine) (k1 : ∀ v, valV kvs (.inr s) = some v → Q v H) (k2 : valV kvs (.inr s) = none → Q z (upd H a (.dK (putK kvs (.inr s) z)))) : dSdK Q a (.str s) z H := ⟨kvs, .inr s, h, rfl, hl, k1, k2⟩
end

/-! methods that may raise within a try; the suite of one class; del of an item; a text times 1 -/
section
variable {K : PySem.W.Frag} {σ : L2.St} {H : Hp} {Q : VK} {D : Ends} {l : Addr} {xs : List V} {i : Int} {to ti : TE}
def delK (D : Ends) (σ : L2.St) (x : V) : VK := fun y H2 => ∃ (l : Addr) (xs : List V) (i : Int) (k : Nat), x = .ref l ∧ y = .int i ∧ H2 l = some (.lst xs) ∧ -(2 ^ 63) ≤ i ∧ i < 2 ^ 63 ∧ seqIndex? i xs.length = some k ∧ D.nx σ (upd H2 l (.lst (xs.eraseIdx k)))
theorem q_delL (h : to σ H fun x H1 => ti σ H1 (delK D σ x)) : tDelL to ti D σ H := h
theorem seqIx {n m : Nat} (h : n < m) : seqIndex? (n : Int) m = some n := by
  unfold seqIndex?
  have h1 : ¬ ((n : Int) < 0) := by omega
  have h2 : (n : Int) < (m : Int) := by omega
  have h3 : (0 : Int) ≤ (n : Int) := by omega
  simp [h1, h2, h3]
theorem q_delK {n : Nat} (h : H l = some (.lst xs)) (e : i = (n : Int)) (hn : n < xs.length) (hb : i < 2 ^ 63) (k : D.nx σ (upd H l (.lst (xs.eraseIdx n)))) : delK D σ (.ref l) (.int i) H :=
  ⟨l, xs, i, n, rfl, rfl, h, by omega, hb, by rw [e]; exact seqIx hn, k⟩
def rMulStr1 : R2 := fun x y H Q => ∃ s, x = .str s ∧ y = .int 1 ∧ Q (.str s) H
theorem oq_mulStr1 {X : Cx} : OpR X (binaryOp .Mult) rMulStr1 := by
  intro pins s σ H x y v u Q I rx ry h
  obtain ⟨z, rfl, rfl, q⟩ := h
  obtain ⟨t, rfl⟩ := rx
  obtain ⟨t', rfl⟩ := ry
  refine PySem.P.mul_str (by decide) (fun _ h => by cases h) (fun _ h => by cases h) ?_
  rw [if_neg (show ¬ (1 : Int) < 1 by omega), if_pos (by rfl)]
  exact ⟨.str z, H, I, ⟨_, rfl⟩, q⟩
theorem q_mulStr1 {s : Str} (k : Q (.str s) H) : rMulStr1 (.str s) (.int 1) H Q := ⟨s, rfl, rfl, k⟩
theorem q_int1b {c : Bool} (k : Q (.int (if c then 1 else 0)) H) : rInt1 [.bl c] H Q := .inr ⟨c, rfl, k⟩
theorem q_int1t (k : Q (.int 1) H) : rInt1 [.bl true] H Q := .inr ⟨true, rfl, k⟩
theorem q_neB {c d : Bool} (k : Q (.bl (c != d)) H) : rNe (.bl c) (.bl d) H Q := ⟨rfl, by
  have e : (!decide (V.bl c = V.bl d)) = (c != d) := by cases c <;> cases d <;> rfl
  rw [e]; exact k⟩
theorem q_neBs {c : Bool} (k : Q (.bl false) H) : rNe (.bl c) (.bl c) H Q := q_neB (by rw [bne_self_eq_false]; exact k)
def tMethA (C : Addr) (m : Str) (sp : Sp) (E : L2.St → XK) (ta : TE) (t : TA) : TE := fun σ H Q => ta σ H fun x H1 => ∃ a dx fs, x = .ref a ∧ H1 a = some (.ins C dx fs) ∧ fs.lookup m = none ∧ t σ H1 fun vs H2 => sp (x :: vs) H2 Q (E σ)
def methAK (C : Addr) (m : Str) (sp : Sp) (E : L2.St → XK) (t : TA) (σ : L2.St) (Q : VK) : VK := fun x H1 => ∃ a dx fs, x = .ref a ∧ H1 a = some (.ins C dx fs) ∧ fs.lookup m = none ∧ t σ H1 fun vs H2 => sp (x :: vs) H2 Q (E σ)
theorem q_methA {C : Addr} {m : Str} {sp : Sp} {E : L2.St → XK} {ta : TE} {t : TA} (h : ta σ H (methAK C m sp E t σ Q)) : tMethA C m sp E ta t σ H Q := h
theorem q_methAK {C dx a : Addr} {m : Str} {sp : Sp} {E : L2.St → XK} {t : TA} {fs : List (Str × V)} (h : H a = some (.ins C dx fs)) (hn : fs.lookup m = none) (k : t σ H fun vs H2 => sp (.ref a :: vs) H2 Q (E σ)) : methAK C m sp E t σ Q (.ref a) H := ⟨a, dx, fs, rfl, h, hn, k⟩
theorem q_callS {sp : Sp} {E : L2.St → XK} {t : TA} (h : t σ H fun vs H1 => sp vs H1 Q (E σ)) : tCallS sp E t σ H Q := h
theorem q_isE {D a C : Addr} {b : Bool} (e : PySem.W.kitOne K (.ref D) (.ref C) = some b) (k : Q (.bl b) H) : rIsE K D a [.ref a, .ref C] H Q := ⟨.ref C, .ref C, b, rfl, fun _ r => r, e, k⟩
end
section
variable {X : Cx} {CX : CXT} {k : Nat} {f C : Addr} {fd : FuncData} {ps : List Str} {sp : Sp} {E : L2.St → XK} {m : Str} {pos apos : Pos} {e o : Expr} {es : List Expr} {ta : TE} {t : TA}
theorem pe_methA {pl : Sem Bool} (he : PE X o ta) (c : Cls X.K C) (hm : Meth X.K C m f) (F : FnOk X.prog X.w X.K X.mg X.base CX k f fd ps sp) (hr : Room k X.A) (hb : Binds X.K fd ps []) (hx : ∀ σ, PassesAt CX X σ (E σ)) (ha : PA X (e :: es) t)
    (hst : starEach (e :: es) X.env = (false, eval e X.env) :: starEach es X.env := by rfl) (hpl : (backTo pos (starEach es X.env)).any (·.1) = false := by rfl)
    (ht : eval (.Call (.Attribute o m apos) (e :: es) [] pos) X.env = (do
      let ov ← eval o X.env
      standAt apos.atName
      let (f, first) ← holding [ov] (getMethod ov m pl)
      callWith pos f first (backTo pos (starEach (e :: es) X.env)) (backToKw pos (keywordEach [] X.env))) := by rfl) :
    PE X (.Call (.Attribute o m apos) (e :: es) [] pos) (tMethA C m sp E ta t) := by
  refine ⟨fun pins s σ H Q I h => ?_⟩
  refine PySem.W.methodCall_KW (pl := pl) (thn (he.run pins s σ H _ I h) fun u s1 ⟨x, H1, I1, rx, a, dx, fs, ex, ea, l, q⟩ => ?_) ht
  subst ex
  obtain rfl : u = Value.ref a := rx
  refine getmeth_ok I1 ea c hm l ?_
  refine PySem.W.callWith_K (first := [.ref a]) (h₀ := X.base) I.ok.mod.kin hm.kp (thn (ha.run pos pins s1 σ H1 _ I1 q) fun us s2 ⟨vs, H2, I2, r, q2⟩ => ⟨I2.kIn, ?_⟩) hst hpl
  exact run_fnS (us := .ref a :: us) (vs := .ref a :: vs) F hr hb (hx σ) I2 (.cons rfl r) q2
theorem pss_cls {oe : Obj} {cls : Value} {d : Option Addr} {b : List Stmt} {t : TS} (hz : Zc cls d oe) (h : Zc (.ref C) none oe → PSs X b t) : PSs X b (fun D σ H => (cls = .ref C ∧ d = none) ∧ t D σ H) :=
  ⟨fun pins s σ H D I q => (h (by obtain ⟨⟨e1, e2⟩, _⟩ := q; rw [e1, e2] at hz; exact hz)).run pins s σ H D I q.2⟩
end

/-! the sum of a dict's values; dicts keyed by tuples -/
section
variable {X : Cx} {o : Expr} {p pos apos mpos : Pos} {td : TE}
def tSumVals (td : TE) : TE := fun σ H Q => td σ H fun x H1 => ∃ (a : Addr) (kvs : List (Key × V)) (is : List Int), x = V.ref a ∧ H1 a = some (.dK kvs) ∧ kvs.map (·.2) = is.map V.int ∧ Q (.int is.sum) H1
theorem pre_sum (is : List Int) : ∀ n, n ≤ is.length → preSum (fun i => is.getD i 0) n = (is.take n).sum
  | 0, _ => by simp [preSum]
  | n + 1, h => by
    rw [preSum, pre_sum is n (by omega), List.take_add_one, List.sum_append, List.getElem?_eq_getElem (by omega), List.getD_eq_getElem?_getD, List.getElem?_eq_getElem (by omega)]
    simp
theorem pe_sumVals (hc : X.calm = true) (hg : Gl X "sum") (hm : X.mg "sum" = none) (hd : PE X o td) (hbase : attributeBase o "values" X.env (eval o X.env) = eval o X.env := by rfl) (hline : (apos.endLine == mpos.line) = true := by rfl)
    (hse : starEach [Expr.Call (.Attribute o "values" apos) [] [] mpos] X.env = [(false, eval (Expr.Call (.Attribute o "values" apos) [] [] mpos) X.env)] := by rfl) :
    PE X (.Call (.Name "sum" p) [.Call (.Attribute o "values" apos) [] [] mpos] [] pos) (tSumVals td) := by
  refine ⟨fun pins s σ H Q I h => ?_⟩
  refine wpAny_Call_Name_kw (ld_blt I hg hm (u := .builtin "sum") (by first | rfl | decide +kernel) ?_ (by first | decide +kernel | decide) (by first | decide +kernel | decide))
  rw [hse]
  refine PySem.callWith_builtin1 (wpAny_Call_method0_late hbase hline (thn (hd.run pins s σ H _ I h) fun v s1 ⟨x, H1, I1, r1, a, kvs, is, ex, ha, hv, q⟩ => ?_))
  subst ex
  obtain rfl : v = Value.ref a := r1
  obtain ⟨_, hsys, vs, rel, dof⟩ := dk_of I1.hok ha
  obtain ⟨ep, dat⟩ := dof.dictAt
  have dat' := dat
  obtain ⟨ob, es, ho, ex, hdat, hko, hpr, hnd⟩ := dat'
  refine ⟨"dict", "dict.values", PySem.F.plainAttrs_dict, PySem.F.slot_dict_values, PySem.F.type_dict_values, ⟨ob, ho, ex.1⟩, fun b e => ?_, Calls.callWith_builtin rfl (PySem.evalArgs_none ?_)⟩
  · cases e
    exact ⟨ob, ho, ex.2.1⟩
  refine call_meetsIn PySem.F.slot_dict_values ⟨ob, ho, ex.1⟩ PySem.F.entry_dict_values (PySem.F.args_dict_values_1 _) (meets_dict_values (mixKind X.prog X.w) a hsys) ⟨⟨vs, dof⟩, ?_⟩
  have k1 : ∀ b u, s1.heap.get? b = some u → (s1.heap.push { cls := .type "dict_values", data := .fields #[.ref a] }).get? b = some u := fun b u e => Heap.get?_push_of_some _ e
  have dat1 : (s1.heap.push { cls := .type "dict_values", data := .fields #[.ref a] }).DictAt (mixKind X.prog X.w) a vs ep := dat.keep k1
  have hlv : vs.length = is.length := by
    have e1 := congrArg List.length hv
    rw [List.length_map, List.length_map] at e1
    rw [← e1]
    exact (KV.length rel).symm
  have hval : ∀ (i : Nat) (v : Value), (∃ k, vs[i]? = some (k, v)) → ∃ t, v = Value.int (is.getD i 0) t := fun i v ⟨k, hk⟩ => by
    obtain ⟨x, h1, h2⟩ := KV.at' rel hk
    have e1 : (kvs.map (·.2))[i]? = some x := by rw [List.getElem?_map, h1] <;> rfl
    rw [hv, List.getElem?_map] at e1
    obtain ⟨j, hj, e2⟩ := Option.map_eq_some_iff.mp e1
    subst e2
    obtain ⟨t, e3⟩ := h2
    refine ⟨t, ?_⟩
    rw [e3, List.getD_eq_getElem?_getD, hj] <;> rfl
  refine call_sum_walkG (wpAny_pyIter_values (v := s1.heap.objs.size) (d := a) ⟨_, Heap.get?_push_size _ rfl, rfl, rfl⟩ dat1 ?_)
  have hlt : a < s1.heap.objs.size := Heap.lt_size ho
  have hsz : (s1.heap.push { cls := .type "dict_values", data := .fields #[.ref a] }).objs.size = s1.heap.objs.size + 1 := Heap.size_push _ _
  refine ⟨_, _, _, _, _, _, fun i => is.getD i 0, rfl, Walks.dictValues (knd := mixKind X.prog X.w) (A := X.A.in1) (I.ok.hd hc) (s1.heap.push { cls := .type "dict_values", data := .fields #[.ref a] }).objs.size a (by rw [hsz]; exact Nat.ne_of_lt (Nat.lt_succ_of_lt hlt)) vs ep,
    ⟨⟨_, Heap.get?_push_size _ rfl, rfl, rfl⟩, dat1.keep fun b u e => Heap.get?_push_of_some _ e⟩, fun b hb => ?_, hval, fun h' tk t' hk => ?_⟩
  · show b < ((s1.heap.push _).push _).objs.size
    rw [Heap.size_push, Heap.size_push]
    rw [hsz] at hb
    rcases List.mem_cons.mp hb with e | hb
    · rw [e]
      exact Nat.lt_succ_self _
    · have e : b = a := List.mem_singleton.mp hb
      rw [e]
      exact Nat.lt_succ_of_lt (Nat.lt_succ_of_lt hlt)
  · refine ⟨.int is.sum, H1, I1.kept (t' := tk) fun b u e => hk b u (fun hmem => ?_) (Heap.get?_push_of_some _ (k1 b u e)), ⟨t', ?_⟩, q⟩
    · have e1 : b = (s1.heap.push { cls := .type "dict_values", data := .fields #[.ref a] }).objs.size := List.mem_singleton.mp hmem
      have e2 := Heap.lt_size e
      rw [hsz] at e1
      rw [e1] at e2
      exact absurd e2 (Nat.not_lt.mpr (Nat.le_succ _))
    · rw [pre_sum is _ (by omega), hlv, List.take_length]
end
section
variable {K : PySem.W.Frag} {σ : L2.St} {H : Hp} {Q : VK} {D : Ends} {a b : Addr} {z v : V} {ty tx td : TE} {kvs : List (List Key × V)} {k : List Key}
def sumK (Q : VK) : VK := fun x H1 => ∃ (a : Addr) (kvs : List (Key × V)) (is : List Int), x = V.ref a ∧ H1 a = some (.dK kvs) ∧ kvs.map (·.2) = is.map V.int ∧ Q (.int is.sum) H1
theorem q_sumVals (h : td σ H (sumK Q)) : tSumVals td σ H Q := h
theorem q_sumK {kvs : List (Key × V)} {is : List Int} (h : H a = some (.dK kvs)) (e : kvs.map (·.2) = is.map V.int) (q : Q (.int is.sum) H) : sumK Q (.ref a) H := ⟨a, kvs, is, rfl, h, e, q⟩
theorem q_dG2aT (h : H a = some (.dT kvs)) (q : ty σ H fun y H2 => tx σ H2 (dG2K Q a y)) : dG2a ty tx σ Q (.ref a) H := ⟨a, rfl, .inr ⟨kvs, .inl h⟩, q⟩
theorem q_dG2T (h : H a = some (.dT kvs)) (hb : H b = some (.tup (k.map kV))) (q : Q ((valV kvs k).getD z) H) : dG2K Q a (.ref b) z H := ⟨_, DGet.t h hb, q⟩
theorem q_dPutT (h : H a = some (.dT kvs)) (hb : H b = some (.tup (k.map kV))) (hl : kvs.length < sizeLine) (q : D.nx σ (upd H a (.dT (putK kvs k v)))) : dPutK D σ v (.ref a) (.ref b) H := ⟨a, _, rfl, DPut.t h hb hl, q⟩
theorem q_dNewT (q : ∀ p, H p = none → Q (.ref p) (upd H p (.dT []))) : tDNewT σ H Q := q
end

/-! dicts keyed by nested tuples -/
mutual
inductive NV (H : Hp) : NestedKey → V → Prop
  | non : NV H .none .non
  | int (i : Int) : NV H (.num i) (.int i)
  | str (x : Str) : NV H (.text x) (.str x)
  | tup {b : Addr} {vs : List V} {ks : List NestedKey} : H b = some (.tup vs) → NVs H ks vs → NV H (.tup ks) (.ref b)
inductive NVs (H : Hp) : List NestedKey → List V → Prop
  | nil : NVs H [] []
  | cons {k : NestedKey} {v : V} {ks : List NestedKey} {vs : List V} : NV H k v → NVs H ks vs → NVs H (k :: ks) (v :: vs)
end
mutual
theorem NV.is {P : Program} {w : World} {H : Hp} {h : Heap} (ok : HOk P w H h) : ∀ {k : NestedKey} {v : V} {u : Value}, NV H k v → RelV v u → NestedIs h k u
  | _, _, _, .non, r => by cases (show _ = Value.none from r); exact .none
  | _, _, _, .int i, r => by obtain ⟨t, rfl⟩ := (show ∃ t, _ = Value.int i t from r); exact .int i t
  | _, _, _, .str x, r => by obtain ⟨t, rfl⟩ := (show ∃ t, _ = Value.str x t from r); exact .text x t
  | _, _, _, .tup (b := b) (vs := vs) hb hs, r => by
    cases (show _ = Value.ref b from r)
    obtain ⟨_, its, rv, o, o1, o2, n, o3⟩ := (show ObjOk P w H h b (.tup vs) from ok b _ hb)
    exact .tup o1 o2 o3 (by simpa using NVs.are ok hs rv)
theorem NVs.are {P : Program} {w : World} {H : Hp} {h : Heap} (ok : HOk P w H h) : ∀ {ks : List NestedKey} {vs : List V} {us : List Value}, NVs H ks vs → Vals vs us → NestedAll h ks us
  | _, _, _, .nil, r => by cases r; exact .nil
  | _, _, _, .cons a b, r => by
    cases r with
    | cons r1 r2 => exact .cons (NV.is ok a r1) (NVs.are ok b r2)
end
mutual
theorem NV.mono {H H' : Hp} (e : ∀ b ys, H b = some (.tup ys) → H' b = some (.tup ys)) : ∀ {k : NestedKey} {v : V}, NV H k v → NV H' k v
  | _, _, .non => .non
  | _, _, .int i => .int i
  | _, _, .str x => .str x
  | _, _, .tup h hs => .tup (e _ _ h) (NVs.mono e hs)
theorem NVs.mono {H H' : Hp} (e : ∀ b ys, H b = some (.tup ys) → H' b = some (.tup ys)) : ∀ {ks : List NestedKey} {vs : List V}, NVs H ks vs → NVs H' ks vs
  | _, _, .nil => .nil
  | _, _, .cons a b => .cons (NV.mono e a) (NVs.mono e b)
end
abbrev NKvs := List (NestedKey × Addr × V)
def nRel (p : NestedKey × Addr × V) (q : NestedKey × Addr × Value) : Prop := p.1 = q.1 ∧ p.2.1 = q.2.1 ∧ RelV p.2.2 q.2.2
def valN (kvs : NKvs) (k : NestedKey) : Option V := (kvs.find? fun p => decide (p.1 = k)).map (·.2.2)
/-- what is true of the object of such a dict -/
def dnP (P : Program) (w : World) (a : Addr) (kvs : NKvs) (h : Heap) : Prop := kvs.length ≤ sizeLine ∧ (a == sysModules) = false ∧ ∃ xs : List (NestedKey × Addr × Value), Paired nRel kvs xs ∧
  ∃ o es ep, h.get? a = some o ∧ o.ExactDict ∧ o.data = .dict es ep ∧ es.toList = xs.map (entryOfKey (nestedKind P w)) ∧ (xs.map (·.1)).Nodup
def DN (P : Program) (w : World) (a : Addr) (kvs : NKvs) : HO := .ext (dnP P w a kvs)
/-- its keys stand as tuples, to depth 8 -/
def NKeys (H : Hp) (kvs : NKvs) : Prop := ∀ p ∈ kvs, NV H p.1 (.ref p.2.1) ∧ p.1.depth ≤ 8
theorem NKeys.mono {H H' : Hp} {kvs : NKvs} (h : NKeys H kvs) (e : ∀ b ys, H b = some (.tup ys) → H' b = some (.tup ys)) : NKeys H' kvs := fun p hp => ⟨(h p hp).1.mono e, (h p hp).2⟩
theorem NKeys.snoc {H : Hp} {kvs : NKvs} {k : NestedKey} {b : Addr} {v : V} (h : NKeys H kvs) (hk : NV H k (.ref b)) (hd : k.depth ≤ 8) : NKeys H (kvs ++ [(k, b, v)]) := fun p hp => by
  rcases List.mem_append.mp hp with m | m
  · exact h p m
  · rw [List.mem_singleton.mp m]; exact ⟨hk, hd⟩
theorem n_val {kvs : NKvs} {xs : List (NestedKey × Addr × Value)} (r : Paired nRel kvs xs) (k : NestedKey) : RelO (valN kvs k) ((atKey xs k).map (·.2)) := by
  induction r with
  | nil => exact True.intro
  | @cons p q ps qs hpq t ih =>
    obtain ⟨e1, _, e3⟩ := hpq
    unfold valN atKey at ih ⊢
    rw [List.find?_cons, List.find?_cons, ← e1]
    by_cases e : p.1 = k
    · rw [decide_eq_true e]; exact e3
    · rw [decide_eq_false e]; exact ih
theorem dn_ok {P : Program} {w : World} {H : Hp} {h : Heap} {a : Addr} {kvs : NKvs} (d : dnP P w a kvs h) : ObjOk P w H h a (DN P w a kvs) := by
  refine ⟨d, ?_, fun g1 g2 q st => ?_⟩
  · obtain ⟨_, _, _, _, o, _, _, e, _⟩ := d
    exact ⟨o, e⟩
  · obtain ⟨z, y, xs, r, o, es, ep, e, c⟩ := q
    exact ⟨z, y, xs, r, o, es, ep, st _ e, c⟩
theorem n_keys {P : Program} {w : World} {H : Hp} {h : Heap} (ok : HOk P w H h) {kvs : NKvs} {xs : List (NestedKey × Addr × Value)} (r : Paired nRel kvs xs) : NKeys H kvs → ∀ x ∈ xs, (nestedKind P w).is h x.1 x.2.1 := by
  induction r with
  | nil => intro _ x hx; cases hx
  | @cons p q ps qs hpq t ih =>
    intro hk x hx
    rcases List.mem_cons.mp hx with m | m
    · obtain ⟨n1, n2⟩ := hk p List.mem_cons_self
      rw [m, ← hpq.1, ← hpq.2.1]
      exact ⟨NV.is ok n1 rfl, n2⟩
    · exact ih (fun p' hp' => hk p' (List.mem_cons_of_mem _ hp')) x m
section
variable {X : Cx} {pins : List (Addr × Obj)} {σ : L2.St} {H : Hp} {s : Shared} {a b : Addr} {kvs : NKvs} {k : NestedKey} {A : Around} {E : Value → Shared → Prop}
theorem dn_at (I : Inv X pins σ H s) (e : H a = some (DN X.prog X.w a kvs)) (hk : NKeys H kvs) : kvs.length ≤ sizeLine ∧ (a == sysModules) = false ∧ ∃ xs, Paired nRel kvs xs ∧ s.heap.DictOfH (nestedKind X.prog X.w) a xs := by
  obtain ⟨⟨z, y, xs, r, o, es, ep, e1, e2, e3, e4, e5⟩, _⟩ := (show ObjOk X.prog X.w H s.heap a (DN X.prog X.w a kvs) from I.hok a _ e)
  exact ⟨z, y, xs, r, o, es, ep, e1, e2, e3, e4, n_keys I.hok r hk, e5⟩
theorem dn_getItem {v : V} {Q : Value → Shared → Prop} (ha : A.units + 9 < cLine) (I : Inv X pins σ H s) (e : H a = some (DN X.prog X.w a kvs)) (hk : NKeys H kvs) (nk : NV H k (.ref b)) (dk : k.depth ≤ 8) (l : valN kvs k = some v)
    (q : ∀ u s', Inv X pins σ H s' → RelV v u → Q u s') : wpAny (model X.prog X.w) A (getItem (.ref a) (.ref b)) Q E s := by
  obtain ⟨z, hd, xs, rel, dd⟩ := dn_at I e hk
  obtain ⟨u, hu, ru⟩ := RelO.some_of (v := v) (o := (atKey xs k).map (·.2)) (by rw [← l]; exact n_val rel k)
  obtain ⟨p, hp, hp2⟩ := Option.map_eq_some_iff.mp hu
  refine wpAny_getItem_heap (knd := nestedKind X.prog X.w) (by show A.in1.units + 8 < cLine; exact ha) ⟨NV.is I.hok nk rfl, dk⟩ dd hp ?_
  rw [hp2]
  exact q u _ (I.tok _) ru
theorem dn_in {Q : Value → Shared → Prop} (ha : A.units + 9 < cLine) (I : Inv X pins σ H s) (e : H a = some (DN X.prog X.w a kvs)) (hk : NKeys H kvs) (nk : NV H k (.ref b)) (dk : k.depth ≤ 8)
    (q : ∀ s', Inv X pins σ H s' → Q (.bool (valN kvs k).isSome) s') : wpAny (model X.prog X.w) A (compareOp .In (.ref b) (.ref a)) Q E s := by
  obtain ⟨z, hd, xs, rel, dd⟩ := dn_at I e hk
  refine wpAny_in_heap (knd := nestedKind X.prog X.w) (by show A.in1.units + 8 < cLine; exact ha) ⟨NV.is I.hok nk rfl, dk⟩ hd dd ?_
  have t := (n_val rel k).isSome_eq
  rw [Option.isSome_map] at t
  rw [← t]
  exact q _ (I.tok _)
theorem dn_notIn {Q : Value → Shared → Prop} (ha : A.units + 9 < cLine) (I : Inv X pins σ H s) (e : H a = some (DN X.prog X.w a kvs)) (hk : NKeys H kvs) (nk : NV H k (.ref b)) (dk : k.depth ≤ 8)
    (q : ∀ s', Inv X pins σ H s' → Q (.bool (!(valN kvs k).isSome)) s') : wpAny (model X.prog X.w) A (compareOp .NotIn (.ref b) (.ref a)) Q E s := by
  obtain ⟨z, hd, xs, rel, dd⟩ := dn_at I e hk
  refine wpAny_notIn_heap (knd := nestedKind X.prog X.w) (by show A.in1.units + 8 < cLine; exact ha) ⟨NV.is I.hok nk rfl, dk⟩ hd dd ?_
  have t := (n_val rel k).isSome_eq
  rw [Option.isSome_map] at t
  rw [← t]
  exact q _ (I.tok _)
/-- a new key is stored -/
theorem dn_setItem {v : V} {u : Value} {Q : Unit → Shared → Prop} (ha : A.units + 9 < cLine) (I : Inv X pins σ H s) (e : H a = some (DN X.prog X.w a kvs)) (hk : NKeys H kvs) (nk : NV H k (.ref b)) (dk : k.depth ≤ 8) (l : valN kvs k = none) (hl : kvs.length < sizeLine) (ru : RelV v u)
    (q : ∀ s', Inv X pins σ (upd H a (DN X.prog X.w a (kvs ++ [(k, b, v)]))) s' → Q () s') : wpAny (model X.prog X.w) A (setItem (.ref a) (.ref b) u) Q E s := by
  obtain ⟨z, hd, xs, rel, dd⟩ := dn_at I e hk
  have hz : xs.length ≤ sizeLine := by rw [← Paired.length rel]; exact z
  have hn : atKey xs k = none := by
    have t := (n_val rel k).isSome_eq
    rw [l, Option.isSome_map] at t
    cases m : atKey xs k with
    | none => rfl
    | some _ => rw [m] at t; cases t
  refine wpAny_setItem_heap (knd := nestedKind X.prog X.w) (hsz := hz) (by show A.in1.units + 8 < cLine; exact ha) ⟨NV.is I.hok nk rfl, dk⟩ dd fun h' dd' hs => q _ ?_
  rw [storedH_new hn] at dd'
  obtain ⟨o, es, ep, e1, e2, e3, e4, _, e5⟩ := dd'
  exact d_write I (by rw [e]; exact True.intro) hs ⟨o, e1⟩ (dn_ok ⟨by rw [List.length_append]; exact hl, hd, _, Paired.snoc rel ⟨rfl, rfl, ru⟩, o, es, ep, e1, e2, e3, e4, e5⟩)
end
theorem hn_of {A : Around} {k : Nat} (hr : Room k A) : A.units + 9 < cLine := by have := hr65 hr; omega
def nGetK (P : Program) (w : World) (Q : VK) (x : V) : VK := fun y J => ∃ (a b : Addr) (kvs : NKvs) (k : NestedKey) (v : V), x = .ref a ∧ y = .ref b ∧ J a = some (DN P w a kvs) ∧ NKeys J kvs ∧ NV J k (.ref b) ∧ k.depth ≤ 8 ∧ valN kvs k = some v ∧ Q v J
def tNGet (P : Program) (w : World) (td ty : TE) : TE := fun σ H Q => td σ H fun x J => ty σ J (nGetK P w Q x)
def nInK (P : Program) (w : World) (n : Bool) (Q : VK) (y : V) : VK := fun x J => ∃ (a b : Addr) (kvs : NKvs) (k : NestedKey), x = .ref a ∧ y = .ref b ∧ J a = some (DN P w a kvs) ∧ NKeys J kvs ∧ NV J k (.ref b) ∧ k.depth ≤ 8 ∧ Q (.bl (xor n (valN kvs k).isSome)) J
def tNIn (P : Program) (w : World) (n : Bool) (ty td : TE) : TE := fun σ H Q => ty σ H fun y J => td σ J (nInK P w n Q y)
def nPutK (P : Program) (w : World) (D : Ends) (σ : L2.St) (v x : V) : VK := fun y J => ∃ (a b : Addr) (kvs : NKvs) (k : NestedKey), x = .ref a ∧ y = .ref b ∧ J a = some (DN P w a kvs) ∧ NKeys J kvs ∧ NV J k (.ref b) ∧ k.depth ≤ 8 ∧ valN kvs k = none ∧ kvs.length < sizeLine ∧ D.nx σ (upd J a (DN P w a (kvs ++ [(k, b, v)])))
def sNPut (P : Program) (w : World) (td ty tv : TE) : TS := fun D σ H => tv σ H fun v H1 => td σ H1 fun x H2 => ty σ H2 (nPutK P w D σ v x)
def tNNew (P : Program) (w : World) : TE := fun _ H Q => ∀ p, H p = none → Q (.ref p) (upd H p (DN P w p []))
section
variable {X : Cx} {o i value : Expr} {pos pos' : Pos} {td ty tv : TE}
theorem pe_nget (ha : X.A.units + 9 < cLine) (po : PE X o td) (pi : PE X i ty) (ns : NoSl i) : PE X (.Subscript o i pos) (tNGet X.prog X.w td ty) := ⟨fun pins s σ H Q I q => by
  refine subD_of PySem.F.slot_dict_getitem.lookup ns (thn (po.run pins s σ H _ I q) fun u s1 ⟨x, J, IJ, rx, q1⟩ => thn (pi.run pins s1 σ J _ IJ q1) fun iv s2 ⟨y, L, IL, ry, a, b, kvs, k, v, ex, ey, e, hk, nk, dk, l, q2⟩ => ?_)
  subst ex ey
  obtain rfl : u = Value.ref a := rx
  obtain rfl : iv = Value.ref b := ry
  obtain ⟨_, _, xs, _, dd⟩ := dn_at IL e hk
  exact ⟨dd.typeIs, dn_getItem ha IL e hk nk dk l fun z s3 I3 rz => ⟨v, L, I3, rz, q2⟩⟩⟩
theorem pc_nin (ha : X.A.units + 9 < cLine) (pi : PE X i ty) (po : PE X o td) : PC X .In i o (tNIn X.prog X.w false ty td) := ⟨fun pins s σ H Q I q => by
  refine thn (pi.run pins s σ H _ I q) fun iv s1 ⟨y, J, IJ, ry, q1⟩ => thn (po.run pins s1 σ J _ IJ q1) fun u s2 ⟨x, L, IL, rx, a, b, kvs, k, ex, ey, e, hk, nk, dk, q2⟩ => ?_
  subst ex ey
  obtain rfl : u = Value.ref a := rx
  obtain rfl : iv = Value.ref b := ry
  exact dn_in ha IL e hk nk dk fun s3 I3 => ⟨.bl (valN kvs k).isSome, L, I3, rfl, by rw [Bool.false_xor] at q2; exact q2⟩⟩
theorem pc_nnotin (ha : X.A.units + 9 < cLine) (pi : PE X i ty) (po : PE X o td) : PC X .NotIn i o (tNIn X.prog X.w true ty td) := ⟨fun pins s σ H Q I q => by
  refine thn (pi.run pins s σ H _ I q) fun iv s1 ⟨y, J, IJ, ry, q1⟩ => thn (po.run pins s1 σ J _ IJ q1) fun u s2 ⟨x, L, IL, rx, a, b, kvs, k, ex, ey, e, hk, nk, dk, q2⟩ => ?_
  subst ex ey
  obtain rfl : u = Value.ref a := rx
  obtain rfl : iv = Value.ref b := ry
  exact dn_notIn ha IL e hk nk dk fun s3 I3 => ⟨.bl (!(valN kvs k).isSome), L, I3, rfl, by rw [Bool.true_xor] at q2; exact q2⟩⟩
theorem ps_nput (ha : X.A.units + 9 < cLine) (po : PE X o td) (pi : PE X i ty) (pv' : PE X value tv) (sw : swapsWith value (some (.Subscript o i pos')) pos.line X.env = pure false) : PS X (.Assign [.Subscript o i pos'] value pos) (sNPut X.prog X.w td ty tv) := ⟨fun pins s σ H D I q => by
  refine wpAny_Assign_Subscript (thn (pv'.run pins s σ H _ I q) fun r s1 ⟨v, J1, I1, rv, q1⟩ => thn (po.run pins s1 σ J1 _ I1 q1) fun u s2 ⟨x, J2, I2, rx, q2⟩ => thn (pi.run pins s2 σ J2 _ I2 q2) fun iv s3 ⟨y, J3, I3, ry, a, b, kvs, k, ex, ey, e, hk, nk, dk, l, hl, q3⟩ => ?_) sw
  subst ex ey
  obtain rfl : u = Value.ref a := rx
  obtain rfl : iv = Value.ref b := ry
  exact dn_setItem ha I3 e hk nk dk l hl rv fun s4 I4 => ⟨σ, _, I4, q3⟩⟩
theorem pe_nnew : PE X (.Dict [] [] pos) (tNNew X.prog X.w) := ⟨fun pins s σ H Q I q =>
  wpAny_Dict_empty ⟨.ref s.heap.objs.size, _, I.laid (a := s.heap.objs.size) (o := DN X.prog X.w s.heap.objs.size []) (t' := s.toks) (fun _ _ z => Heap.get?_push_of_some _ z) (Nat.le_refl _)
    (dn_ok ⟨Nat.zero_le _, beq_eq_false_iff_ne.mpr (Ne.symm (Nat.ne_of_lt I.big)), [], .nil, _, #[], 0, Heap.get?_push_size _ rfl, ⟨rfl, rfl, rfl⟩, rfl, rfl, List.nodup_nil⟩), rfl, q _ (I.hok.fresh (Nat.le_refl _))⟩⟩
end
section
variable {P : Program} {w : World} {σ : L2.St} {H : Hp} {Q : VK} {D : Ends} {td ty tv : TE} {a b : Addr} {kvs : NKvs} {k : NestedKey} {v : V} {n : Bool}
theorem q_tNGet (q : td σ H fun x J => ty σ J (nGetK P w Q x)) : tNGet P w td ty σ H Q := q
theorem q_nGetK (e : H a = some (DN P w a kvs)) (hk : NKeys H kvs) (nk : NV H k (.ref b)) (dk : k.depth ≤ 8) (l : valN kvs k = some v) (q : Q v H) : nGetK P w Q (.ref a) (.ref b) H := ⟨a, b, kvs, k, v, rfl, rfl, e, hk, nk, dk, l, q⟩
theorem q_tNIn (q : ty σ H fun y J => td σ J (nInK P w n Q y)) : tNIn P w n ty td σ H Q := q
theorem q_nInK (e : H a = some (DN P w a kvs)) (hk : NKeys H kvs) (nk : NV H k (.ref b)) (dk : k.depth ≤ 8) (q : Q (.bl (xor n (valN kvs k).isSome)) H) : nInK P w n Q (.ref b) (.ref a) H := ⟨a, b, kvs, k, rfl, rfl, e, hk, nk, dk, q⟩
theorem q_sNPut (q : tv σ H fun v H1 => td σ H1 fun x H2 => ty σ H2 (nPutK P w D σ v x)) : sNPut P w td ty tv D σ H := q
theorem q_nPutK (e : H a = some (DN P w a kvs)) (hk : NKeys H kvs) (nk : NV H k (.ref b)) (dk : k.depth ≤ 8) (l : valN kvs k = none) (hl : kvs.length < sizeLine) (q : D.nx σ (upd H a (DN P w a (kvs ++ [(k, b, v)])))) : nPutK P w D σ v (.ref a) (.ref b) H := ⟨a, b, kvs, k, rfl, rfl, e, hk, nk, dk, l, hl, q⟩
theorem q_tNNew (q : ∀ p, H p = none → Q (.ref p) (upd H p (DN P w p []))) : tNNew P w σ H Q := q
end
theorem pss_cls2 {X : Cx} {oe : Obj} {cls : Value} {d : Option Addr} {b : List Stmt} {C C2 : Addr} {t t2 : TS} (hz : Zc cls d oe) (h : Zc (.ref C) none oe → PSs X b t) (h2 : Zc (.ref C2) none oe → PSs X b t2) :
    PSs X b (fun D σ H => ((cls = .ref C ∧ d = none) ∧ t D σ H) ∨ ((cls = .ref C2 ∧ d = none) ∧ t2 D σ H)) := ⟨fun pins s σ H D I q => by
  rcases q with ⟨⟨e1, e2⟩, q⟩ | ⟨⟨e1, e2⟩, q⟩
  · rw [e1, e2] at hz; exact (h hz).run pins s σ H D I q
  · rw [e1, e2] at hz; exact (h2 hz).run pins s σ H D I q⟩
theorem passF {P : Program} {w : World} {X : Cx} : Passes (L2.CX P w) X E0 := fun _ _ _ _ _ _ _ h => by
  obtain ⟨_, _, _, _, _, _, _, _, _, _, _, _, h⟩ := h
  exact h.elim

/-! an attribute or an item changed by an operator; a list unpacked; the sum over a dict's keys -/
section
variable {K : PySem.W.Frag} {σ : L2.St} {H : Hp} {Q : VK} {D : Ends} {a C dx : Addr} {v : V} {i j : Int} {ta tv td ty : TE} {rd : V → V → Hp → VK → Prop} {f s : Str} {fs : List (Str × V)} {kvs : List (Key × V)}
def faug2 (rd : V → V → Hp → VK → Prop) (v : V) (f : Str) (a C : Addr) (D : Ends) (σ : L2.St) : VK := fun y H2 => rd v y H2 fun z H3 => ∃ dx' fs', H3 a = some (.ins C dx' fs') ∧ fs'.length < 1000 ∧ D.nx σ (upd H3 a (.ins C dx' (putF f z fs')))
def faugK (K : PySem.W.Frag) (tv : TE) (rd : V → V → Hp → VK → Prop) (f : Str) (D : Ends) (σ : L2.St) : VK := fun x H1 => ∃ a C dx fs v, x = .ref a ∧ H1 a = some (.ins C dx fs) ∧ Cls K C ∧ NoAttr K C f ∧ fs.lookup f = some v ∧ tv σ H1 (faug2 rd v f a C D σ)
theorem q_sFldAug (h : ta σ H (faugK K tv rd f D σ)) : sFldAug K ta tv rd f D σ H := h
theorem q_faugK (h : H a = some (.ins C dx fs)) (hc : Cls K C) (hn : NoAttr K C f) (hl : fs.lookup f = some v) (k : tv σ H (faug2 rd v f a C D σ)) : faugK K tv rd f D σ (.ref a) H := ⟨a, C, dx, fs, v, rfl, h, hc, hn, hl, k⟩
theorem q_faugA (h : H a = some (.ins C dx fs)) (hl : fs.length < 1000) (k : D.nx σ (upd H a (.ins C dx (putF f (.int (i + j)) fs)))) : faug2 rAdd (.int i) f a C D σ (.int j) H := ⟨i, j, rfl, rfl, dx, fs, h, hl, k⟩
theorem q_faugS (h : H a = some (.ins C dx fs)) (hl : fs.length < 1000) (k : D.nx σ (upd H a (.ins C dx (putF f (.int (i - j)) fs)))) : faug2 rSub (.int i) f a C D σ (.int j) H := ⟨i, j, rfl, rfl, dx, fs, h, hl, k⟩
def daug2 (rd : V → V → Hp → VK → Prop) (D : Ends) (σ : L2.St) (v : V) (a : Addr) (y : V) : VK := fun y2 H3 => rd v y2 H3 fun z H4 => ∃ H5, DPut H4 a y z H5 ∧ D.nx σ H5
def daugK (tv : TE) (rd : V → V → Hp → VK → Prop) (D : Ends) (σ : L2.St) (x : V) : VK := fun y H2 => ∃ a v, x = .ref a ∧ DGet H2 a y (some v) ∧ tv σ H2 (daug2 rd D σ v a y)
theorem q_sDAug (h : td σ H fun x H1 => ty σ H1 (daugK tv rd D σ x)) : sDAug td ty tv rd D σ H := h
theorem q_daugK (h : H a = some (.dK kvs)) (hv : valV kvs (.inr s) = some v) (k : tv σ H (daug2 rd D σ v a (.str s))) : daugK tv rd D σ (.ref a) (.str s) H := ⟨a, v, rfl, by rw [← hv]; exact DGet.k (k := Sum.inr s) h, k⟩
theorem q_daugS (h : H a = some (.dK kvs)) (hl : kvs.length < sizeLine) (k : D.nx σ (upd H a (.dK (putK kvs (.inr s) (.int (i - j)))))) : daug2 rSub D σ (.int i) a (.str s) (.int j) H := ⟨i, j, rfl, rfl, _, DPut.k (k := Sum.inr s) h hl, k⟩
theorem q_daugA (h : H a = some (.dK kvs)) (hl : kvs.length < sizeLine) (k : D.nx σ (upd H a (.dK (putK kvs (.inr s) (.int (i + j)))))) : daug2 rAdd D σ (.int i) a (.str s) (.int j) H := ⟨i, j, rfl, rfl, _, DPut.k (k := Sum.inr s) h hl, k⟩
end
def rMulStr01 : R2 := fun x y H Q => ∃ s, x = .str s ∧ ((y = .int 1 ∧ Q (.str s) H) ∨ (y = .int 0 ∧ Q (.str Str.empty) H))
theorem oq_mulStr01 {X : Cx} : OpR X (binaryOp .Mult) rMulStr01 := by
  intro pins s σ H x y v u Q I rx ry h
  obtain ⟨z, rfl, h⟩ := h
  obtain ⟨t, rfl⟩ := rx
  rcases h with ⟨rfl, q⟩ | ⟨rfl, q⟩
  · obtain ⟨t', rfl⟩ := ry
    refine PySem.P.mul_str (by decide) (fun _ h => by cases h) (fun _ h => by cases h) ?_
    rw [if_neg (show ¬ (1 : Int) < 1 by omega), if_pos (by rfl)]
    exact ⟨.str z, H, I, ⟨_, rfl⟩, q⟩
  · obtain ⟨t', rfl⟩ := ry
    exact PySem.P.mul_str_none (by decide) (by decide) ⟨.str Str.empty, H, I.tok _, ⟨_, rfl⟩, q⟩
theorem q_mul1 {H : Hp} {Q : VK} {s : Str} (k : Q (.str s) H) : rMulStr01 (.str s) (.int 1) H Q := ⟨s, rfl, .inl ⟨rfl, k⟩⟩
theorem q_mul0 {H : Hp} {Q : VK} {s : Str} (k : Q (.str Str.empty) H) : rMulStr01 (.str s) (.int 0) H Q := ⟨s, rfl, .inr ⟨rfl, k⟩⟩
theorem q_int1f {H : Hp} {Q : VK} (k : Q (.int 0) H) : rInt1 [.bl false] H Q := .inr ⟨false, rfl, k⟩
/-! a walk over a dict's own keys, reading it -/
theorem q_unl {K : PySem.W.Frag} {σ : L2.St} {H : Hp} {a : Addr} {xs : List V} {n : Nat} {tg : TGs} {R : L2.St → Hp → Prop} (h : SqL K H a xs) (hn : xs.length = n) (k : tg xs σ H R) : gUnl K n tg (.ref a) σ H R := ⟨a, xs, rfl, h, hn, k⟩
/-! while -/
section
variable {σ : L2.St} {H : Hp} {D : Ends} {c : TT} {tb : TS}
def whK (tb : TS) (D : Ends) (Pv : Nat → L2.St → Hp → Prop) (m : Nat) (σ : L2.St) : Bool → Hp → Prop := fun b H1 => if b = true then ∃ N : L2.St → Hp → Prop, (∀ σ' H', N σ' H' → ∃ m', m' < m ∧ Pv m' σ' H') ∧ tb { D with nx := N, ct := N, bk := D.nx } σ H1 else D.nx σ H1
theorem q_while (Pv : Nat → L2.St → Hp → Prop) {m0 : Nat} (h0 : Pv m0 σ H) (hs : ∀ m σ H, Pv m σ H → c σ H (whK tb D Pv m σ)) : tWhile c tb D σ H := ⟨Pv, ⟨m0, h0⟩, hs⟩
theorem q_whT {Pv : Nat → L2.St → Hp → Prop} {m : Nat} (h : tb { D with nx := fun σ' H' => ∃ m', m' < m ∧ Pv m' σ' H', ct := fun σ' H' => ∃ m', m' < m ∧ Pv m' σ' H', bk := D.nx } σ H) : whK tb D Pv m σ true H := iteT ⟨_, fun _ _ h => h, h⟩
theorem q_whF {Pv : Nat → L2.St → Hp → Prop} {m : Nat} (h : D.nx σ H) : whK tb D Pv m σ false H := iteF h
theorem q_wh2 {Pv : Nat → L2.St → Hp → Prop} {m : Nat} {b : Bool} (h : b = true → tb { D with nx := fun σ' H' => ∃ m', m' < m ∧ Pv m' σ' H', ct := fun σ' H' => ∃ m', m' < m ∧ Pv m' σ' H', bk := D.nx } σ H) (h2 : b = false → D.nx σ H) : whK tb D Pv m σ b H := by
  cases b with
  | true => exact q_whT (h rfl)
  | false => exact q_whF (h2 rfl)
end
/-! one suite for several classes; get of one argument; del of an item of a dict; index; dict of pairs -/
theorem pss_clsC {X : Cx} {oe : Obj} {cls : Value} {d : Option Addr} {b : List Stmt} {C : Addr} {t t2 : TS} (hz : Zc cls d oe) (h : Zc (.ref C) none oe → PSs X b t) (h2 : PSs X b t2) :
    PSs X b (fun D σ H => ((cls = .ref C ∧ d = none) ∧ t D σ H) ∨ t2 D σ H) := ⟨fun pins s σ H D I q => by
  rcases q with ⟨⟨e1, e2⟩, q⟩ | q
  · rw [e1, e2] at hz; exact (h hz).run pins s σ H D I q
  · exact h2.run pins s σ H D I q⟩
section
variable {K : PySem.W.Frag} {σ : L2.St} {H : Hp} {Q : VK} {D : Ends} {a l : Addr} {v : V} {i : Int} {td ty : TE} {kvs : List (Key × V)} {s : Str}
def dG1K (Q : VK) (a : Addr) : VK := fun y H2 => ∃ o, DGet H2 a y o ∧ Q (o.getD .non) H2
def dG1a (ty : TE) (σ : L2.St) (Q : VK) : VK := fun x H1 => ∃ a, x = .ref a ∧ IsD H1 a ∧ ty σ H1 (dG1K Q a)
theorem q_tDGet1 (h : td σ H (dG1a ty σ Q)) : tDGet1 td ty σ H Q := h
theorem q_dG1a (h : H a = some (.dK kvs)) (k : ty σ H (dG1K Q a)) : dG1a ty σ Q (.ref a) H := ⟨a, rfl, .inl ⟨kvs, .inl h⟩, k⟩
theorem q_dG1S (h : H a = some (.dK kvs)) (k : Q ((valV kvs (.inr s)).getD .non) H) : dG1K Q a (.str s) H := ⟨_, DGet.k (k := Sum.inr s) h, k⟩
theorem q_dG1I (h : H a = some (.dK kvs)) (k : Q ((valV kvs (.inl i)).getD .non) H) : dG1K Q a (.int i) H := ⟨_, DGet.k (k := Sum.inl i) h, k⟩
def ddelK (D : Ends) (σ : L2.St) (x : V) : VK := fun y H2 => ∃ a kvs k, x = .ref a ∧ H2 a = some (.dK kvs) ∧ y = kV k ∧ (valV kvs k).isSome = true ∧ D.nx σ (upd H2 a (.dK (dropK kvs k)))
theorem q_sDDel (h : td σ H fun x H1 => ty σ H1 (ddelK D σ x)) : sDDel td ty D σ H := h
theorem q_ddelI (h : H a = some (.dK kvs)) (hs : (valV kvs (.inl i)).isSome = true) (k : D.nx σ (upd H a (.dK (dropK kvs (.inl i))))) : ddelK D σ (.ref a) (.int i) H := ⟨a, kvs, .inl i, rfl, h, rfl, hs, k⟩
theorem q_index {ys : List V} {y z : V} {j : Nat} (h : SqL K H a ys) (hy : flatV y = true) (ha : ys.all flatV = true) (hz : ys[j]? = some z) (he : eqV z y = true) (hf : ∀ (m : Nat) (z' : V), m < j → ys[m]? = some z' → eqV z' y = false) (k : Q (.int (j : Nat)) H) : rIndex K (.ref a) [y] H Q := ⟨a, ys, y, j, z, rfl, rfl, h, hy, ha, hz, he, hf, k⟩
theorem q_dSdS' {z : V} (h : H a = some (.dK kvs)) (hl : kvs.length < sizeLine) (k1 : ∀ v, valV kvs (.inr s) = some v → Q v H) (k2 : valV kvs (.inr s) = none → Q z (upd H a (.dK (putK kvs (.inr s) z)))) : dSdK Q a (.str s) z H := ⟨kvs, .inr s, h, rfl, hl, k1, k2⟩
def rDictP (K : PySem.W.Frag) : List V → Hp → VK → Prop := fun xs H Q => ∃ (a : Addr) (ps : List Addr) (kvs : List (Key × V)), xs = [.ref a] ∧ SqL K H a (ps.map V.ref) ∧ Paired (fun p kv => SqT K H p [kV kv.1, kv.2]) ps kvs ∧ ∀ p, H p = none → Q (.ref p) (upd H p (.dK (mergeK [] kvs)))
theorem cq_dictP {X : Cx} (hc : X.calm = true) : CallR X (.type "dict") (rDictP X.K) := call_dictP hc
def rLenD' : List V → Hp → VK → Prop := rLenD
theorem q_lenD (h : H a = some (.dK kvs)) (k : Q (.int kvs.length) H) : rLenD [.ref a] H Q := ⟨a, kvs, rfl, h, k⟩
theorem q_inL' {xs : List V} {x : V} (h : SqL K H l xs) (hx : flatV x = true) (ha : xs.all flatV = true) (k : Q (.bl (!inV x xs)) H) : rIn K true x (.ref l) H Q := ⟨l, xs, rfl, .inl h, hx, ha, k⟩
theorem q_eqB {c d : Bool} (k : Q (.bl (c == d)) H) : rEq (.bl c) (.bl d) H Q := ⟨rfl, by
  have e : decide (V.bl c = V.bl d) = (c == d) := by cases c <;> cases d <;> rfl
  rw [e]; exact k⟩
end
/-! a walk over a list that its body leaves ahead of the list's end: also within an except suite -/
def tForX (K : PySem.W.Frag) (te : TE) (g : TG) (tb : TS) : TS := fun D τ L => te τ L fun v M => ∃ (a : Addr) (ys : List V) (Pv : Nat → L2.St → Hp → Prop), v = .ref a ∧ SqL K M a ys ∧ Pv 0 τ M ∧
  ∀ n τ1 L1, Pv n τ1 L1 → SqL K L1 a ys ∧ ∃ y, ys[n]? = some y ∧ g y τ1 L1 fun τ2 L2 => tb { D with nx := Pv (n + 1), ct := Pv (n + 1), bk := D.nx } τ2 L2
theorem ps_forX {X : Cx} {tg l : Expr} {bd : List Stmt} {te : TE} {g : TG} {tb : TS} {ps : Pos} (own : PassesOwn (model X.prog X.w) X.A X.env X.xe) (hl : PE X l te) (hg : PG X tg g) (hb : PSs X bd tb)
    (fs : ∀ x, foldedSetIterable l X.env x = pure x := by intro _; rfl) : PS X (.For tg l bd [] ps) (tForX X.K te g tb) := by
  refine ⟨fun pn s0 τ0 L0 D J0 q0 => ?_⟩
  refine wpAny_For (thn (hl.run pn s0 τ0 L0 _ J0 q0) fun v0 sA ⟨x0, LA, JA, rA, a, ys, Pv, e0, hys, p0, turn⟩ => ?_) fs
  subst e0
  cases rA
  obtain ⟨_, _, isl, _⟩ := JA.list hys
  refine wpAny_pyIter_list isl.isList ?_
  have fok0 : FpOk X pn LA sA.heap.objs.size := JA.fpOk (Nat.le_refl _) (JA.hok.fresh (Nat.le_refl _))
  generalize hwalk : sA.heap.objs.size = wk at *
  have JB : Inv X pn τ0 LA { sA with heap := sA.heap.push { cls := .type "list_iterator", data := .fields #[.ref a, rawInt 0] } } := JA.kept (t' := sA.toks) fun b o e => Heap.get?_push_of_some _ e
  refine codeAny_forLoop_any (fun m s => ∃ n τ L, Inv X pn τ L s ∧ s.heap.IsListIter wk a n ∧ L wk = none ∧ Pv n τ L ∧ m + n = ys.length) ?_ ys.length ⟨0, τ0, LA, JB, ⟨_, by rw [← hwalk]; exact Heap.get?_push_size _ rfl, rfl, rfl⟩, fok0.1, p0, rfl⟩
  rintro m sB ⟨n, τ1, L1, J1, it1, none1, p1, hmn⟩
  obtain ⟨hys1, y, hy, st1⟩ := turn n τ1 L1 p1
  have hlt : n < ys.length := (List.getElem?_eq_some_iff.mp hy).1
  obtain ⟨_, rv1, isl1, _⟩ := J1.list hys1
  obtain ⟨u, hu, ru⟩ := rv1.get hy
  obtain ⟨_, z1, z2, z3, z4, z5⟩ := fok0
  refine wpAny_passesOwn own (wpAny_pyNext_list_item it1 isl1.isList (x := u) (by simpa using hu) fun h' it2 sb => ?_)
  have J2 : Inv X pn τ1 L1 { sB with heap := h' } := J1.turned (t' := sB.toks) (fun b o ne e => (sb.2 b ne).trans e) none1 z1 z3 z4 z5
  obtain ⟨oi, ei, ci, di⟩ := id it2
  refine wpAny_passesOwn own (go_of (s := { sB with heap := h' }) ei ci di (by decide) ?_)
  have hnc : ∀ v, oi.data ≠ .cell v := fun v z => by rw [di] at z; cases z
  have J3 : Inv X (pn ++ pinsAt [wk] h') τ1 L1 { sB with heap := h' } := J2.pinned (fun b hb => by rw [List.mem_singleton.mp hb]; exact ⟨none1, z1, z2, z3, z4, z5⟩) fun b hb => by rw [List.mem_singleton.mp hb]; exact ⟨oi, ei, hnc⟩
  have back : ∀ {τ L s}, Inv X (pn ++ pinsAt [wk] h') τ L s → Pv (n + 1) τ L → ∃ k, k < m ∧ ∃ n τ L, Inv X pn τ L s ∧ s.heap.IsListIter wk a n ∧ L wk = none ∧ Pv n τ L ∧ k + n = ys.length := fun {τ L s} J p => by
    obtain ⟨r1, r2, _⟩ := J.pin (wk, oi) (List.mem_append_right _ (List.mem_append_right _ (mem_pinsAt (List.mem_singleton.mpr rfl) ei)))
    exact ⟨m - 1, by omega, n + 1, τ, L, J.unpinned, ⟨oi, r1, ci, di⟩, r2, p, by omega⟩
  refine wpAny_passesOwn own (thn (hg.run _ _ τ1 L1 y u _ J3 ru st1) fun _ sC ⟨τ2, L2, J4, q4⟩ => ?_)
  refine wpAny_passesOwn own (thn (hb.run _ sC τ2 L2 _ J4 q4) fun fl sD q5 => ?_)
  cases fl with
  | next => obtain ⟨τ5, L5, J5, p5⟩ := q5; exact back J5 p5
  | cont => obtain ⟨τ5, L5, J5, p5⟩ := q5; exact back J5 p5
  | brk => obtain ⟨τ5, L5, J5, p5⟩ := q5; exact ⟨τ5, L5, J5.unpinned, p5⟩
  | ret v => obtain ⟨x5, τ5, L5, J5, r5, p5⟩ := q5; exact ⟨x5, τ5, L5, J5.unpinned, r5, p5⟩
theorem q_forX {K : PySem.W.Frag} {τ : L2.St} {M : Hp} {te : TE} {g : TG} {tb : TS} {D : Ends} (h : te τ M fun v M => ∃ (a : Addr) (ys : List V) (Pv : Nat → L2.St → Hp → Prop), v = .ref a ∧ SqL K M a ys ∧ Pv 0 τ M ∧
  ∀ n τ1 L1, Pv n τ1 L1 → SqL K L1 a ys ∧ ∃ y, ys[n]? = some y ∧ g y τ1 L1 fun τ2 L2 => tb { D with nx := Pv (n + 1), ct := Pv (n + 1), bk := D.nx } τ2 L2) : tForX K te g tb D τ M := h
theorem ps_forXK {K : PySem.W.Frag} {X : Cx} {tg l : Expr} {bd : List Stmt} {te : TE} {g : TG} {tb : TS} {ps : Pos} (hK : X.K = K) (own : PassesOwn (model X.prog X.w) X.A X.env X.xe) (hl : PE X l te) (hg : PG X tg g) (hb : PSs X bd tb)
    (fs : ∀ x, foldedSetIterable l X.env x = pure x := by intro _; rfl) : PS X (.For tg l bd [] ps) (tForX K te g tb) := hK ▸ ps_forX own hl hg hb fs
theorem ix_tupK {K : PySem.W.Frag} {X : Cx} (hK : X.K = K) : IxR X (rIxT K) := hK ▸ ix_tup
theorem ix_listK {K : PySem.W.Frag} {X : Cx} (hK : X.K = K) : IxR X (rIxL K) := hK ▸ ix_list
def mkA (C : Addr) (sp : Sp) (E : XK) (Q : VK) : List V → Hp → Prop := fun vs J => ∀ x dx, J x = none → J dx = none → dx ≠ x → sp (.ref x :: vs) (upd (upd J dx (.own x)) x (.ins C dx [])) (fun v L => v = .non ∧ Q (.ref x) L) E
theorem q_tMake {C : Addr} {sp : Sp} {E : XK} {t : TA} {σ : L2.St} {H : Hp} {Q : VK} (h : t σ H (mkA C sp E Q)) : tMake C sp [] E t σ H Q := by
  unfold tMake
  have e : mkA C sp E Q = fun vs J => ∀ x dx, J x = none → J dx = none → dx ≠ x → sp (.ref x :: (vs ++ [])) (upd (upd J dx (.own x)) x (.ins C dx [])) (fun v L => v = .non ∧ Q (.ref x) L) E := by
    funext vs J
    unfold mkA
    rw [List.append_nil]
  rw [← e]
  exact h

local macro_rules | `(tactic| walk_at "my_rd") => `(tactic| (repeat first
  | with_reducible refine q_tCons ?_
  | ((with_reducible apply q_var); (focus (exact rfl)))
  | with_reducible refine q_c ?_
  | with_reducible refine q_nx ?_
  | with_reducible refine q_bK ?_
  | with_reducible refine q_call ?_
  | with_reducible refine q_callK ?_
  | with_reducible refine q_tNil ?_
  | with_reducible refine q_cb ?_
  | with_reducible refine q_seq ?_
  | with_reducible refine q_asg ?_
  | with_reducible refine q_gName ?_
  | with_reducible refine q_op ?_
  | with_reducible refine q_test ?_
  | with_reducible refine q_tB ?_
  | with_reducible refine q_ifS ?_
  | with_reducible refine q_ret ?_
  | with_reducible refine q_rt ?_
  | with_reducible refine q_next ?_
  | with_reducible refine q_ifF ?_
  | with_reducible refine q_ifT ?_
  | with_reducible refine q_drop ?_
  | with_reducible refine q_and ?_
  | with_reducible refine q_or ?_
  | with_reducible refine q_andT ?_
  | with_reducible refine q_andF ?_
  | with_reducible refine q_orF ?_
  | with_reducible refine q_orT ?_
  | with_reducible refine q_andV ?_
  | with_reducible refine q_andVT ?_
  | with_reducible refine q_andVF ?_
  | with_reducible refine q_orV ?_
  | with_reducible refine q_gCons ?_
  | with_reducible refine q_gNil ?_
  | with_reducible refine q_tup ?_
  | with_reducible refine q_lst ?_
  | with_reducible refine q_not ?_
  | with_reducible refine q_notKT ?_
  | with_reducible refine q_notKF ?_
  | with_reducible refine q_I0 ?_
  | with_reducible refine q_eqI ?_
  | with_reducible refine q_neI ?_
  | ((with_reducible refine q_I ?_ ?_); first | decide | omega | exact ⟨by omega, by omega⟩ | exact ⟨by decide, by decide⟩ | exact .inl ⟨by omega, by omega⟩ | exact .inr ⟨by omega, by omega⟩ | exact .inr ⟨by decide, by decide⟩)
  | with_reducible refine q_eqS ?_
  | with_reducible refine q_neS ?_
  | with_reducible refine q_brk ?_
  | with_reducible refine q_ct ?_
  | with_reducible refine q_bk ?_
  | with_reducible refine q_cn ?_
  | with_reducible refine q_retN ?_
  | with_reducible refine q_gSub ?_
  | with_reducible refine q_for ?_
  | with_reducible refine q_iList ?_
  | with_reducible refine q_iTup ?_
  | with_reducible refine q_iRng1 ?_
  | with_reducible refine q_notK ?_
  | with_reducible refine q_orVT ?_
  | with_reducible refine q_orVF ?_
  | with_reducible refine q_notV ?_
  | with_reducible refine q_notVK ?_
  | with_reducible refine q_ifE ?_
  | with_reducible refine q_ifET ?_
  | with_reducible refine q_ifEF ?_
  | with_reducible refine q_yes ?_
  | with_reducible refine q_un ?_
  | with_reducible refine q_rU ?_
  | with_reducible refine q_abs ?_
  | with_reducible refine q_int1 ?_
  | with_reducible refine q_bm ?_
  | with_reducible refine q_bm0 ?_
  | with_reducible refine q_lc ?_
  | with_reducible refine q_keepT ?_
  | with_reducible refine q_keepF ?_
  | ((with_reducible apply q_aug); (focus (exact rfl)))
  | with_reducible refine q_ipI ?_
  | with_reducible refine q_chain ?_
  | with_reducible refine q_pairC ?_
  | with_reducible refine q_pairsK ?_
  | with_reducible refine q_pairN ?_
  | with_reducible refine q_fld ?_
  | with_reducible refine q_sFld ?_
  | with_reducible refine q_meth ?_
  | with_reducible refine q_makeK ?_
  | with_reducible refine q_isBl ?_
  | with_reducible refine q_notBl ?_
  | with_reducible refine q_sl ?_
  | with_reducible refine q_noPart ?_
  | with_reducible refine q_part ?_
  | with_reducible refine q_partK ?_
  | ((with_reducible apply q_mulStr); (focus (decide +kernel)))
  | with_reducible refine q_chT ?_
  | with_reducible refine q_chF ?_
  | with_reducible refine q_ord ?_
  | with_reducible refine q_iStr0 ?_
  | with_reducible refine q_iStr ?_
  | with_reducible refine q_tDIn ?_
  | with_reducible refine q_tDNotIn ?_
  | with_reducible refine q_tDGet ?_
  | with_reducible refine q_tDGet2 ?_
  | with_reducible refine q_tDGet1 ?_
  | with_reducible refine q_tDSetd ?_
  | ((with_reducible apply q_dG2a); (focus ((repeat first | (with_reducible exact upd_same) | (with_reducible assumption) | (with_reducible apply upd_new (by assumption)) | (with_reducible apply upd_other (by first | assumption | exact Ne.symm (by assumption))) | (with_reducible refine' Kp.get (by assumption) ?_ (by first | assumption | exact Ne.symm (by assumption))) | (with_reducible apply Same.get (by assumption))); done)))
  | ((with_reducible apply q_dSda); (focus ((repeat first | (with_reducible exact upd_same) | (with_reducible assumption) | (with_reducible apply upd_new (by assumption)) | (with_reducible apply upd_other (by first | assumption | exact Ne.symm (by assumption))) | (with_reducible refine' Kp.get (by assumption) ?_ (by first | assumption | exact Ne.symm (by assumption))) | (with_reducible apply Same.get (by assumption))); done)))
  | with_reducible refine q_sDPut ?_
  | ((with_reducible apply q_dInS); (focus ((repeat first | (with_reducible exact upd_same) | (with_reducible assumption) | (with_reducible apply upd_new (by assumption)) | (with_reducible apply upd_other (by first | assumption | exact Ne.symm (by assumption))) | (with_reducible refine' Kp.get (by assumption) ?_ (by first | assumption | exact Ne.symm (by assumption))) | (with_reducible apply Same.get (by assumption))); done)))
  | ((with_reducible apply q_dNInS); (focus ((repeat first | (with_reducible exact upd_same) | (with_reducible assumption) | (with_reducible apply upd_new (by assumption)) | (with_reducible apply upd_other (by first | assumption | exact Ne.symm (by assumption))) | (with_reducible refine' Kp.get (by assumption) ?_ (by first | assumption | exact Ne.symm (by assumption))) | (with_reducible apply Same.get (by assumption))); done)))
  | ((with_reducible apply q_dInI); (focus ((repeat first | (with_reducible exact upd_same) | (with_reducible assumption) | (with_reducible apply upd_new (by assumption)) | (with_reducible apply upd_other (by first | assumption | exact Ne.symm (by assumption))) | (with_reducible refine' Kp.get (by assumption) ?_ (by first | assumption | exact Ne.symm (by assumption))) | (with_reducible apply Same.get (by assumption))); done)))
  | ((with_reducible apply q_dNInI); (focus ((repeat first | (with_reducible exact upd_same) | (with_reducible assumption) | (with_reducible apply upd_new (by assumption)) | (with_reducible apply upd_other (by first | assumption | exact Ne.symm (by assumption))) | (with_reducible refine' Kp.get (by assumption) ?_ (by first | assumption | exact Ne.symm (by assumption))) | (with_reducible apply Same.get (by assumption))); done)))
  | ((with_reducible apply q_bmL); (focus ((repeat first | (with_reducible exact upd_same) | (with_reducible assumption) | (with_reducible apply upd_new (by assumption)) | (with_reducible apply upd_other (by first | assumption | exact Ne.symm (by assumption))) | (with_reducible refine' Kp.get (by assumption) ?_ (by first | assumption | exact Ne.symm (by assumption))) | (with_reducible apply Same.get (by assumption))); done)))
  | ((with_reducible apply q_bmL0); (focus ((repeat first | (with_reducible exact upd_same) | (with_reducible assumption) | (with_reducible apply upd_new (by assumption)) | (with_reducible apply upd_other (by first | assumption | exact Ne.symm (by assumption))) | (with_reducible refine' Kp.get (by assumption) ?_ (by first | assumption | exact Ne.symm (by assumption))) | (with_reducible apply Same.get (by assumption))); done)))
  | ((with_reducible apply q_ixLt); (focus ((repeat first | (with_reducible exact upd_same) | (with_reducible assumption) | (with_reducible apply upd_new (by assumption)) | (with_reducible apply upd_other (by first | assumption | exact Ne.symm (by assumption))) | (with_reducible refine' Kp.get (by assumption) ?_ (by first | assumption | exact Ne.symm (by assumption))) | (with_reducible apply Same.get (by assumption))); done)); (focus (exact rfl)))
  | ((with_reducible apply q_ixTt); (focus ((repeat first | (with_reducible exact upd_same) | (with_reducible assumption) | (with_reducible apply upd_new (by assumption)) | (with_reducible apply upd_other (by first | assumption | exact Ne.symm (by assumption))) | (with_reducible refine' Kp.get (by assumption) ?_ (by first | assumption | exact Ne.symm (by assumption))) | (with_reducible apply Same.get (by assumption))); done)); (focus (exact rfl)))
  | ((with_reducible apply q_lenLt); (focus ((repeat first | (with_reducible exact upd_same) | (with_reducible assumption) | (with_reducible apply upd_new (by assumption)) | (with_reducible apply upd_other (by first | assumption | exact Ne.symm (by assumption))) | (with_reducible refine' Kp.get (by assumption) ?_ (by first | assumption | exact Ne.symm (by assumption))) | (with_reducible apply Same.get (by assumption))); done)))
  | ((with_reducible apply q_lenTt); (focus ((repeat first | (with_reducible exact upd_same) | (with_reducible assumption) | (with_reducible apply upd_new (by assumption)) | (with_reducible apply upd_other (by first | assumption | exact Ne.symm (by assumption))) | (with_reducible refine' Kp.get (by assumption) ?_ (by first | assumption | exact Ne.symm (by assumption))) | (with_reducible apply Same.get (by assumption))); done)))
  | ((with_reducible apply q_append); (focus ((repeat first | (with_reducible exact upd_same) | (with_reducible assumption) | (with_reducible apply upd_new (by assumption)) | (with_reducible apply upd_other (by first | assumption | exact Ne.symm (by assumption))) | (with_reducible refine' Kp.get (by assumption) ?_ (by first | assumption | exact Ne.symm (by assumption))) | (with_reducible apply Same.get (by assumption))); done)); (focus ((first | (exact Nat.lt_of_ble_eq_true rfl) | (simp only [List.length_append, List.length_cons, List.length_nil, List.length_map]; exact small1000 (by omega))))))
  | ((with_reducible apply q_setL); (focus ((repeat first | (with_reducible exact upd_same) | (with_reducible assumption) | (with_reducible apply upd_new (by assumption)) | (with_reducible apply upd_other (by first | assumption | exact Ne.symm (by assumption))) | (with_reducible refine' Kp.get (by assumption) ?_ (by first | assumption | exact Ne.symm (by assumption))) | (with_reducible apply Same.get (by assumption))); done)); (focus (exact rfl)))
  | with_reducible refine q_ifNT ?_
  | with_reducible refine q_ifNF ?_
  | with_reducible refine q_andNT ?_
  | with_reducible refine q_andNF ?_
  | with_reducible refine q_orNT ?_
  | with_reducible refine q_orNF ?_
  | with_reducible refine q_bKNT ?_
  | with_reducible refine q_bKNF ?_
  | with_reducible refine q_tNGet ?_
  | with_reducible refine q_tNIn ?_
  | with_reducible refine q_sNPut ?_
  | with_reducible refine q_sFldAug ?_
  | with_reducible refine q_sDAug ?_
  | with_reducible refine q_sDDel ?_
  | with_reducible refine q_forX ?_
  | with_reducible refine q_tMake ?_
  | ((with_reducible apply q_dG1a); (focus ((repeat first | (with_reducible exact upd_same) | (with_reducible assumption) | (with_reducible apply upd_new (by assumption)) | (with_reducible apply upd_other (by first | assumption | exact Ne.symm (by assumption))) | (with_reducible refine' Kp.get (by assumption) ?_ (by first | assumption | exact Ne.symm (by assumption))) | (with_reducible apply Same.get (by assumption))); done)))))
open TL
def top (i : Nat) : Stmt := PySem.Challenge.pw_vaultbridge_k33_roots_tell_lists_apart.main.body.getD i (.Pass ⟨0, 0, 0, 0⟩)
abbrev s__wall : Stmt := top 0
theorem sc__wall : FnScope ["k"] ["k"] (defScope s__wall) := ⟨rfl, rfl, rfl, by decide +kernel, rfl, by decide +kernel, by decide +kernel⟩
abbrev s_left_size : Stmt := top 5
theorem sc_left_size : FnScope ["size"] ["size"] (defScope s_left_size) := ⟨rfl, rfl, rfl, by decide +kernel, rfl, by decide +kernel, by decide +kernel⟩
abbrev s_root : Stmt := top 6
theorem sc_root : FnScope ["digests", "leaves", "middle", "left", "right"] ["digests", "leaves"] (defScope s_root) := ⟨rfl, rfl, rfl, by decide +kernel, rfl, by decide +kernel, by decide +kernel⟩
abbrev s_write : Stmt := top 10
theorem sc_write : FnScope ["value", "written", "left", "part", "is_sign"] ["value"] (defScope s_write) := ⟨rfl, rfl, rfl, by decide +kernel, rfl, by decide +kernel, by decide +kernel⟩
abbrev s_written_integer : Stmt := top 11
theorem sc_written_integer : FnScope ["number", "sign"] ["number"] (defScope s_written_integer) := ⟨rfl, rfl, rfl, by decide +kernel, rfl, by decide +kernel, by decide +kernel⟩
abbrev s_digits_of : Stmt := top 12
theorem sc_digits_of : FnScope ["number", "powers", "power", "pieces", "middle", "digits", "piece", "half"] ["number"] (defScope s_digits_of) := ⟨rfl, rfl, rfl, by decide +kernel, rfl, by decide +kernel, by decide +kernel⟩
abbrev s_parted : Stmt := top 13
theorem sc_parted : FnScope ["parts", "found", "part"] ["parts"] (defScope s_parted) := ⟨rfl, rfl, rfl, by decide +kernel, rfl, by decide +kernel, by decide +kernel⟩
abbrev s_Digests_init : Stmt := inClass (top 15) 0
theorem sc_Digests_init : FnScope ["self"] ["self"] (defScope s_Digests_init) := ⟨rfl, rfl, rfl, by decide +kernel, rfl, by decide +kernel, by decide +kernel⟩
abbrev s_Digests_number : Stmt := inClass (top 15) 1
theorem sc_Digests_number : FnScope ["self", "value", "form"] ["self", "value"] (defScope s_Digests_number) := ⟨rfl, rfl, rfl, by decide +kernel, rfl, by decide +kernel, by decide +kernel⟩
abbrev s_Digests_value : Stmt := inClass (top 15) 2
theorem sc_Digests_value : FnScope ["self", "number"] ["self", "number"] (defScope s_Digests_value) := ⟨rfl, rfl, rfl, by decide +kernel, rfl, by decide +kernel, by decide +kernel⟩
abbrev s_Digests_count : Stmt := inClass (top 15) 3
theorem sc_Digests_count : FnScope ["self"] ["self"] (defScope s_Digests_count) := ⟨rfl, rfl, rfl, by decide +kernel, rfl, by decide +kernel, by decide +kernel⟩
abbrev s_L_pot : Stmt := top 17
theorem sc_L_pot : FnScope ["script", "seed", "cell"] ["script"] (defScope s_L_pot) := ⟨rfl, rfl, rfl, by decide +kernel, rfl, by decide +kernel, by decide +kernel⟩
abbrev s_L_next : Stmt := top 18
theorem sc_L_next : FnScope ["pot", "limit", "mixed", "cell", "found"] ["pot", "limit"] (defScope s_L_next) := ⟨rfl, rfl, rfl, by decide +kernel, rfl, by decide +kernel, by decide +kernel⟩
abbrev s_L_root : Stmt := top 19
theorem sc_L_root : FnScope ["digests", "leaves", "middle", "k"] ["digests", "leaves"] (defScope s_L_root) := ⟨rfl, rfl, rfl, by decide +kernel, rfl, by decide +kernel, by decide +kernel⟩
abbrev s_law : Stmt := top 20
theorem sc_law : FnScope ["script", "pot", "digests", "one", "other", "kind", "kept", "found", "k", "at"] ["script"] (defScope s_law) := ⟨rfl, rfl, rfl, by decide +kernel, rfl, by decide +kernel, by decide +kernel⟩
structure Txt (K : PySem.W.Frag) (mg : Str → Option Value) where
  f__wall : Addr
  d__wall : FuncData
  F__wall : Fun K "_wall" "_wall" s__wall f__wall d__wall
  b__wall : Binds K d__wall ["k"] []
  g__wall : mg "_wall" = some (.ref f__wall)
  f_left_size : Addr
  d_left_size : FuncData
  F_left_size : Fun K "left_size" "left_size" s_left_size f_left_size d_left_size
  b_left_size : Binds K d_left_size ["size"] []
  g_left_size : mg "left_size" = some (.ref f_left_size)
  f_root : Addr
  d_root : FuncData
  F_root : Fun K "root" "root" s_root f_root d_root
  b_root : Binds K d_root ["digests", "leaves"] []
  g_root : mg "root" = some (.ref f_root)
  f_write : Addr
  d_write : FuncData
  F_write : Fun K "write" "write" s_write f_write d_write
  b_write : Binds K d_write ["value"] []
  g_write : mg "write" = some (.ref f_write)
  f_written_integer : Addr
  d_written_integer : FuncData
  F_written_integer : Fun K "written_integer" "written_integer" s_written_integer f_written_integer d_written_integer
  b_written_integer : Binds K d_written_integer ["number"] []
  g_written_integer : mg "written_integer" = some (.ref f_written_integer)
  f_digits_of : Addr
  d_digits_of : FuncData
  F_digits_of : Fun K "digits_of" "digits_of" s_digits_of f_digits_of d_digits_of
  b_digits_of : Binds K d_digits_of ["number"] []
  g_digits_of : mg "digits_of" = some (.ref f_digits_of)
  f_parted : Addr
  d_parted : FuncData
  F_parted : Fun K "parted" "parted" s_parted f_parted d_parted
  b_parted : Binds K d_parted ["parts"] []
  g_parted : mg "parted" = some (.ref f_parted)
  f_Digests_init : Addr
  d_Digests_init : FuncData
  F_Digests_init : Fun K "__init__" "Digests.__init__" s_Digests_init f_Digests_init d_Digests_init
  b_Digests_init : Binds K d_Digests_init ["self"] []
  f_Digests_number : Addr
  d_Digests_number : FuncData
  F_Digests_number : Fun K "number" "Digests.number" s_Digests_number f_Digests_number d_Digests_number
  b_Digests_number : Binds K d_Digests_number ["self", "value"] []
  f_Digests_value : Addr
  d_Digests_value : FuncData
  F_Digests_value : Fun K "value" "Digests.value" s_Digests_value f_Digests_value d_Digests_value
  b_Digests_value : Binds K d_Digests_value ["self", "number"] []
  f_Digests_count : Addr
  d_Digests_count : FuncData
  F_Digests_count : Fun K "count" "Digests.count" s_Digests_count f_Digests_count d_Digests_count
  b_Digests_count : Binds K d_Digests_count ["self"] []
  f_L_pot : Addr
  d_L_pot : FuncData
  F_L_pot : Fun K "_law_pot" "_law_pot" s_L_pot f_L_pot d_L_pot
  b_L_pot : Binds K d_L_pot ["script"] []
  g_L_pot : mg "_law_pot" = some (.ref f_L_pot)
  f_L_next : Addr
  d_L_next : FuncData
  F_L_next : Fun K "_law_next" "_law_next" s_L_next f_L_next d_L_next
  b_L_next : Binds K d_L_next ["pot", "limit"] []
  g_L_next : mg "_law_next" = some (.ref f_L_next)
  f_L_root : Addr
  d_L_root : FuncData
  F_L_root : Fun K "_law_root" "_law_root" s_L_root f_L_root d_L_root
  b_L_root : Binds K d_L_root ["digests", "leaves"] []
  g_L_root : mg "_law_root" = some (.ref f_L_root)
  f_law : Addr
  d_law : FuncData
  F_law : Fun K "law" "law" s_law f_law d_law
  b_law : Binds K d_law ["script"] []
  g_law : mg "law" = some (.ref f_law)
  C_BridgeError : Addr
  g_BridgeError : mg "BridgeError" = some (.ref C_BridgeError)
  xe_BridgeError : PySem.W.excIn K C_BridgeError [.type "ValueError", .type "Exception", .type "BaseException", .type "object"] "ValueError.__new__" = true
  ke_BridgeError : PySem.W.keepIn K (.ref C_BridgeError) = true
  be_BridgeError : PySem.W.subIn K (.ref C_BridgeError) (.type "BaseException") = some true
  te_BridgeError : PySem.W.typeIn K (.ref C_BridgeError) = some (.type "type")
  ie_BridgeError : PySem.W.isClsIn K C_BridgeError = true
  se_BridgeError : PySem.W.subIn K (.ref C_BridgeError) (.ref C_BridgeError) = some true
  C_UnknownDigest : Addr
  g_UnknownDigest : mg "UnknownDigest" = some (.ref C_UnknownDigest)
  xe_UnknownDigest : PySem.W.excIn K C_UnknownDigest [.type "ValueError", .type "Exception", .type "BaseException", .type "object"] "ValueError.__new__" = true
  ke_UnknownDigest : PySem.W.keepIn K (.ref C_UnknownDigest) = true
  be_UnknownDigest : PySem.W.subIn K (.ref C_UnknownDigest) (.type "BaseException") = some true
  te_UnknownDigest : PySem.W.typeIn K (.ref C_UnknownDigest) = some (.type "type")
  ie_UnknownDigest : PySem.W.isClsIn K C_UnknownDigest = true
  se_UnknownDigest : PySem.W.subIn K (.ref C_UnknownDigest) (.ref C_UnknownDigest) = some true
  ue_UnknownDigest : PySem.W.subIn K (.ref C_UnknownDigest) (.ref C_BridgeError) = some true
  C_Digests : Addr
  cl_Digests : Cls K C_Digests
  g_Digests : mg "Digests" = some (.ref C_Digests)
  mk_Digests : Mk K C_Digests f_Digests_init
  m_Digests_number : Meth K C_Digests "number" f_Digests_number
  m_Digests_value : Meth K C_Digests "value" f_Digests_value
  m_Digests_count : Meth K C_Digests "count" f_Digests_count
  n_Digests_values : NoAttr K C_Digests "_values"
  n_Digests_numbers : NoAttr K C_Digests "_numbers"
  t_PIECE : Tok
  c_PIECE : mg "PIECE" = some (.int 10000000000000000000000000000000000000000000000000000000000000000 t_PIECE)
  z_abs : mg "abs" = none
  z_int : mg "int" = none
  z_isinstance : mg "isinstance" = none
  z_len : mg "len" = none
  z_list : mg "list" = none
  z_range : mg "range" = none
  z_reversed : mg "reversed" = none
  z_str : mg "str" = none
  z_tuple : mg "tuple" = none
/-! the law's own numbers -/
def PotAt (H : Hp) (p l : Addr) : Prop := ∃ (ns : List Int) (i c s : Int), H p = some (.lst [.ref l, .int i, .int c, .int s]) ∧ H l = some (.lst (ns.map V.int)) ∧ 0 ≤ i ∧ 0 ≤ c ∧ 0 ≤ s ∧ s < 2147483647 ∧ ns.length ≤ 1000 ∧ p ≠ l
theorem PotAt.at {H : Hp} {p l : Addr} (h : PotAt H p l) : ∃ o, H p = some o := by
  obtain ⟨ns, i, c, s, h1, _⟩ := h; exact ⟨_, h1⟩
theorem PotAt.atl {H : Hp} {p l : Addr} (h : PotAt H p l) : ∃ o, H l = some o := by
  obtain ⟨ns, i, c, s, _, h1, _⟩ := h; exact ⟨_, h1⟩
theorem PotAt.same {H H' : Hp} {p l : Addr} (h : PotAt H p l) (e : Same H H') : PotAt H' p l := by
  obtain ⟨ns, i, c, s, h1, h2, r⟩ := h; exact ⟨ns, i, c, s, e _ _ h1, e _ _ h2, r⟩
theorem PotAt.upd {H : Hp} {p l a : Addr} {o : HO} (h : PotAt H p l) (n1 : a ≠ p) (n2 : a ≠ l) : PotAt (L2.upd H a o) p l := by
  obtain ⟨ns, i, c, s, h1, h2, r⟩ := h; exact ⟨ns, i, c, s, upd_other n1.symm h1, upd_other n2.symm h2, r⟩
theorem PotAt.new {H : Hp} {p l a : Addr} {o : HO} (h : PotAt H p l) (n : H a = none) : PotAt (L2.upd H a o) p l := by
  obtain ⟨ns, i, c, s, h1, h2, r⟩ := h; exact ⟨ns, i, c, s, upd_new n h1, upd_new n h2, r⟩
theorem PotAt.nep {H : Hp} {p l a : Addr} (h : PotAt H p l) (n : H a = none) : a ≠ p := by
  obtain ⟨o, h1⟩ := h.at; exact (ne_of_none h1 n).symm
theorem PotAt.nel {H : Hp} {p l a : Addr} (h : PotAt H p l) (n : H a = none) : a ≠ l := by
  obtain ⟨o, h1⟩ := h.atl; exact (ne_of_none h1 n).symm
def sp_pot (K : PySem.W.Frag) : Sp := fun vs H Q _ => ∃ (a : Addr) (ns : List Int), vs = [.ref a] ∧ SqL K H a (ns.map V.int) ∧ ns.length ≤ 63 ∧ ∀ (p l : Addr) (H' : Hp), H p = none → H l = none → PotAt H' p l → Same H H' → Q (.ref p) H'
def sp_next : Sp := fun vs H Q _ => ∃ (p l : Addr) (n : Int), vs = [.ref p, .int n] ∧ PotAt H p l ∧ 0 < n ∧ n < 1000000000 ∧ ∀ (r : Int) (H' : Hp), 0 ≤ r → r < n → PotAt H' p l → Kp p H H' → Q (.int r) H'
section
variable {P : Program} {w : World} {K : PySem.W.Frag} {mg : Str → Option Value} {base : Heap}
theorem map_at {ns : List Int} {i : Nat} {x : V} (h : (ns.map V.int)[i]? = some x) : ∃ z, x = .int z := by
  rw [List.getElem?_map] at h
  cases e : ns[i]? with
  | none => rw [e] at h; cases h
  | some z => rw [e] at h; exact ⟨z, (Option.some.inj h).symm⟩
theorem ok_L_pot (T : Txt K mg) : FnOk P w K mg base CX0 1 T.f_L_pot T.d_L_pot ["script"] (sp_pot K) := by
  refine T.F_L_pot.ok sc_L_pot (fun vs H Q E h => ?_) (fun cdv A outer s H vs Q E hr h => ?_)
  · obtain ⟨a, ns, rfl, _⟩ := h; rfl
  · obtain ⟨a, ns, rfl, hS, hlen, k⟩ := h
    refine ⟨_, (pss_cons (ps_set (i := 1) sc_L_pot.nd rfl (Or.inl rfl) pe_int)
      (pss_cons (ps_for PassesOwn.never rfl (pi_list (pv 0)) (pg_name (i := 2) sc_L_pot.nd rfl (Or.inl rfl))
        (pss_one (ps_set (i := 1) sc_L_pot.nd rfl (Or.inl rfl) (pe_op op_mod (pe_callTy cq_int1 (by rfl) T.z_int boot_int (pa_cons (pe_op op_add (pe_op op_mul (pv 1) pe_int) (pv 2)) pa_nil)) pe_int))))
      (pss_one (ps_ret (pe_lst (pa_cons (pe_callTy cq_listOf (by rfl) T.z_list boot_list (pa_cons (pv 0) pa_nil)) (pa_cons pe_int (pa_cons pe_int (pa_cons (pv 1) pa_nil))))))))), ?_⟩
    (dsimp only [cxOf, Cx.nox, Cx.wish, L2.start, List.map, List.length, List.replicate, List.cons_append, List.nil_append, List.append_eq, Nat.reduceSub, Nat.reduceAdd])
    walk_at "my_rd"
    refine q_forL hS (fun i σ H2 => ∃ (z : Int) (v : Option V), σ = [some (.ref a), some (.int z), v] ∧ H2 = H ∧ 0 ≤ z ∧ z < 2147483647) ⟨1, none, rfl, rfl, by omega, by omega⟩ (fun i σ H2 _ ⟨_, _, _, e, _⟩ => e ▸ hS) ?_ ?_
    · rintro i x σ H2 hx ⟨z, v, rfl, rfl, h0, h1⟩
      obtain ⟨y, rfl⟩ := map_at hx
      walk_at "my_rd"
      exact ⟨_, _, rfl, rfl, Int.emod_nonneg _ (by decide), Int.emod_lt_of_pos _ (by decide)⟩
    · rintro σ H2 ⟨z, v, rfl, rfl, h0, h1⟩
      walk_at "my_rd"
      refine q_listL hS fun l nl => ?_
      walk_at "my_rd"
      refine q_lstK (Nat.le_of_ble_eq_true rfl) fun p np => ?_
      walk_at "my_rd"
      refine k p l _ (upd_none_back np) nl ⟨ns, 0, 0, z, upd_same, upd_new np upd_same, by omega, by omega, h0, h1, by omega, ?_⟩ (Same.new (Same.new (Same.refl _) nl) (upd_none_back np))
      exact upd_none_ne np
theorem ok_L_next (T : Txt K mg) : FnOk P w K mg base CX0 1 T.f_L_next T.d_L_next ["pot", "limit"] sp_next := by
  refine T.F_L_next.ok sc_L_next (fun vs H Q E h => ?_) (fun cdv A outer s H vs Q E hr h => ?_)
  · obtain ⟨p, l, n, rfl, _⟩ := h; rfl
  · obtain ⟨p, l, n, rfl, ⟨ns, i, c, z, hp, hl, hi, hc, hz0, hz1, hns, hpl⟩, hn, hn2, k⟩ := h
    refine ⟨_, (Evl.pss_cut (ps_if (PW.pt (pw_and (pt_cmpR op_eq (pe_ix ix_list (pv 0) pe_int (fun _ _ => rfl)) pe_int (nomark _)) (pw_and1 (pt_cmpR op_lt (pe_ix ix_list (pv 0) pe_int (fun _ _ => rfl)) (pe_callB cq_len (by rfl) T.z_len boot_len (pa_cons (pe_ix ix_list (pv 0) pe_int (fun _ _ => rfl)) pa_nil)) (nomark _))))) (pss_cons (ps_set (i := 3) sc_L_next.nd rfl (Or.inl rfl) (pe_callB cq_abs (by rfl) T.z_abs boot_abs (pa_cons (pe_callTy cq_int1 (by rfl) T.z_int boot_int (pa_cons (pe_ix ix_list (pe_ix ix_list (pv 0) pe_int (fun _ _ => rfl)) (pe_ix ix_list (pv 0) pe_int (fun _ _ => rfl)) (fun _ _ => rfl)) pa_nil)) pa_nil)))
      (pss_cons (ps_asg (pe_op op_add (pe_ix ix_list (pv 0) pe_int (fun _ _ => rfl)) pe_int) (pg_sub (pv 0) pe_int set_list))
      (pss_cons (ps_if (pt_cmpR op_lt (pv 3) (pe_op op_pow pe_int pe_int) (nomark _)) (pss_one (ps_ret (pe_op op_mod (pe_callTy cq_int1 (by rfl) T.z_int boot_int (pa_cons (pv 3) pa_nil)) (pv 1)))) pss_nil)
      (pss_one (ps_asg (pv 3) (pg_sub (pv 0) pe_int set_list)))))) pss_nil)
      (pss_cons (ps_if (pt_cmpR op_gt (pe_ix ix_list (pv 0) pe_int (fun _ _ => rfl)) pe_int (nomark _)) (pss_cons (ps_set (i := 4) sc_L_next.nd rfl (Or.inl rfl) (pe_op op_mod (pe_callTy cq_int1 (by rfl) T.z_int boot_int (pa_cons (pe_ix ix_list (pv 0) pe_int (fun _ _ => rfl)) pa_nil)) (pv 1)))
      (pss_cons (ps_asg (pe_op op_fdiv (pe_ix ix_list (pv 0) pe_int (fun _ _ => rfl)) (pv 1)) (pg_sub (pv 0) pe_int set_list))
      (pss_one (ps_ret (pv 4))))) pss_nil)
      (pss_cons (ps_asg (pe_op op_mod (pe_callTy cq_int1 (by rfl) T.z_int boot_int (pa_cons (pe_op op_add (pe_op op_mul (pe_ix ix_list (pv 0) pe_int (fun _ _ => rfl)) pe_int) pe_int) pa_nil)) pe_int) (pg_sub (pv 0) pe_int set_list))
      (pss_cons (ps_set (i := 2) sc_L_next.nd rfl (Or.inl rfl) (pe_op op_mod (pe_callTy cq_int1 (by rfl) T.z_int boot_int (pa_cons (pe_op op_add (pe_op op_mul (pe_ix ix_list (pv 0) pe_int (fun _ _ => rfl)) pe_int) (pe_op op_fdiv (pe_ix ix_list (pv 0) pe_int (fun _ _ => rfl)) pe_int)) pa_nil)) pe_int))
      (pss_one (ps_ret (pe_op op_mod (pe_callTy cq_int1 (by rfl) T.z_int boot_int (pa_cons (pv 2) pa_nil)) (pv 1)))))))), ?_⟩
    (dsimp only [cxOf, Cx.nox, Cx.wish, L2.start, List.map, List.length, List.replicate, List.cons_append, List.nil_append, List.append_eq, Nat.reduceSub, Nat.reduceAdd])
    refine q_cut (Mid := fun σ' H' => ∃ (cell : Option V) (i c : Int), σ' = [some (.ref p), some (.int n), none, cell, none] ∧ H' p = some (.lst [.ref l, .int i, .int c, .int z]) ∧ H' l = some (.lst (ns.map V.int)) ∧ 0 ≤ i ∧ 0 ≤ c ∧ Kp p H H') ?_ ?_
    · walk_at "my_rd"
      refine q_and2 (fun h1 => ?_) (fun _ => ?_)
      · walk_at "my_rd"
        refine q_if2 (fun h2 => ?_) (fun _ => ?_)
        · have h2 := dec_t h2
          rw [List.length_map] at h2
          have hi2 : i.toNat < ns.length := by omega
          have ha : atI (ns.map V.int) i = some (V.int ns[i.toNat]) := at_int (n := i.toNat) (by omega) (by rw [List.getElem?_map, List.getElem?_eq_getElem hi2]; rfl)
          walk_at "my_rd"
          refine q_ixLt hl ha ?_
          walk_at "my_rd"
          refine q_if2 (fun h3 => ?_) (fun h3 => ?_)
          · walk_at "my_rd"
            refine k _ _ (Int.emod_nonneg _ (by omega)) (Int.emod_lt_of_pos _ hn) ⟨ns, i + 1, c, z, upd_same, upd_other hpl.symm hl, by omega, hc, hz0, hz1, hns, hpl⟩ (Kp.upd Kp.refl)
          · walk_at "my_rd"
            refine ⟨_, i + 1, _, rfl, upd_same, upd_other hpl.symm (upd_other hpl.symm hl), by omega, ?_, Kp.upd (Kp.upd Kp.refl)⟩
            split <;> omega
        · walk_at "my_rd"
          exact ⟨none, i, c, rfl, hp, hl, hi, hc, Kp.refl⟩
      · walk_at "my_rd"
        exact ⟨none, i, c, rfl, hp, hl, hi, hc, Kp.refl⟩
    · clear hp hl hi hc i c
      rintro σ' H2 ⟨cell, i, c, rfl, hp, hl, hi, hc, kp⟩
      walk_at "my_rd"
      refine q_if2 (fun h1 => ?_) (fun h1 => ?_)
      · have h1 := dec_t h1
        walk_at "my_rd"
        refine k _ _ (Int.emod_nonneg _ (by omega)) (Int.emod_lt_of_pos _ hn) ⟨ns, i, c / n, z, upd_same, upd_other hpl.symm hl, hi, Int.ediv_nonneg hc (by omega), hz0, hz1, hns, hpl⟩ (Kp.upd kp)
      · walk_at "my_rd"
        refine k _ _ (Int.emod_nonneg _ (by omega)) (Int.emod_lt_of_pos _ hn) ⟨ns, i, c, _, upd_same, upd_other hpl.symm hl, hi, hc, Int.emod_nonneg _ (by decide), Int.emod_lt_of_pos _ (by decide), hns, hpl⟩ (Kp.upd kp)
end

/-- rows that stand as tuples -/
structure RowsAt {α : Type} (f : α → List V) (H : Hp) (xs : List V) (rs : List α) : Prop where
  len : xs.length = rs.length
  at_ : ∀ (i : Nat) (r : α), rs[i]? = some r → ∃ a, xs[i]? = some (.ref a) ∧ H a = some (.tup (f r))
theorem RowsAt.mono {α : Type} {f : α → List V} {H H' : Hp} {xs : List V} {rs : List α} (h : RowsAt f H xs rs) (e : ∀ b ys, H b = some (.tup ys) → H' b = some (.tup ys)) : RowsAt f H' xs rs :=
  ⟨h.len, fun i r hr => by obtain ⟨a, h1, h2⟩ := h.at_ i r hr; exact ⟨a, h1, e _ _ h2⟩⟩
theorem RowsAt.same {α : Type} {f : α → List V} {H H' : Hp} {xs : List V} {rs : List α} (h : RowsAt f H xs rs) (e : Same H H') : RowsAt f H' xs rs := h.mono fun b ys q => e b _ q
theorem RowsAt.item {α : Type} {f : α → List V} {H : Hp} {xs : List V} {rs : List α} (h : RowsAt f H xs rs) {i : Nat} {x : V} (hx : xs[i]? = some x) : ∃ r a, rs[i]? = some r ∧ x = .ref a ∧ H a = some (.tup (f r)) := by
  have hi : i < rs.length := by rw [← h.len]; exact (List.getElem?_eq_some_iff.mp hx).1
  obtain ⟨a, h1, h2⟩ := h.at_ i rs[i] (List.getElem?_eq_getElem hi)
  exact ⟨rs[i], a, List.getElem?_eq_getElem hi, Option.some.inj (hx.symm.trans h1), h2⟩
theorem RowsAt.nil {α : Type} {f : α → List V} {H : Hp} : RowsAt f H [] [] := ⟨rfl, fun i r h => by simp at h⟩
theorem RowsAt.snoc {α : Type} {f : α → List V} {H : Hp} {xs : List V} {rs : List α} {a : Addr} {r : α} (h : RowsAt f H xs rs) (ha : H a = some (.tup (f r))) : RowsAt f H (xs ++ [.ref a]) (rs ++ [r]) := by
  refine ⟨by rw [List.length_append, List.length_append, h.len]; rfl, fun i g' hg => ?_⟩
  by_cases hi : i < rs.length
  · rw [List.getElem?_append_left hi] at hg
    rw [List.getElem?_append_left (by rw [h.len]; exact hi)]
    exact h.at_ i g' hg
  · have hi' : i = rs.length := by
      have := (List.getElem?_eq_some_iff.mp hg).1
      rw [List.length_append] at this
      simp at this
      omega
    subst hi'
    rw [List.getElem?_append_right (Nat.le_refl _)] at hg
    simp at hg
    subst hg
    refine ⟨a, ?_, ha⟩
    rw [List.getElem?_append_right (by rw [h.len]; exact Nat.le_refl _), h.len]
    simp

/-! written forms, as lists of signs -/
def intL (i : Int) : List Nat := (if i < 0 then [45] else []) ++ numL i.natAbs
mutual
def wrL : NestedKey → List Nat
  | .none => []
  | .num i => intL i
  | .text s => numL s.length ++ 58 :: tl s
  | .tup ks => 40 :: (wrsL ks ++ [41])
def wrsL : List NestedKey → List Nat
  | [] => []
  | k :: ks => wrL k ++ wrTail ks
def wrTail : List NestedKey → List Nat
  | [] => []
  | k :: ks => 44 :: (wrL k ++ wrTail ks)
end
mutual
def isV : NestedKey → Bool
  | .none => false
  | .num _ => true
  | .text _ => true
  | .tup ks => isVs ks
def isVs : List NestedKey → Bool
  | [] => true
  | k :: ks => isV k && isVs ks
end
def isDg (c : Nat) : Prop := 48 ≤ c ∧ c ≤ 57
def dl (r : List Nat) : Prop := r = [] ∨ ∃ c t, r = c :: t ∧ (c = 44 ∨ c = 41)
def nd (r : List Nat) : Prop := r = [] ∨ ∃ c t, r = c :: t ∧ ¬ isDg c
theorem dl.nd {r : List Nat} (h : dl r) : nd r := by
  rcases h with e | ⟨c, t, e, h⟩
  · exact .inl e
  · exact .inr ⟨c, t, e, fun q => by unfold isDg at q; omega⟩
theorem span_inj {a b r s : List Nat} (ha : ∀ c ∈ a, isDg c) (hb : ∀ c ∈ b, isDg c) (hr : nd r) (hs : nd s) (h : a ++ r = b ++ s) : a = b ∧ r = s := by
  induction a generalizing b with
  | nil =>
    cases b with
    | nil => exact ⟨rfl, h⟩
    | cons y b =>
      rw [List.nil_append, List.cons_append] at h
      rcases hr with e | ⟨c, t, e, q⟩
      · rw [e] at h; cases h
      · rw [e] at h
        injection h with h1 _
        exact absurd (h1 ▸ hb y List.mem_cons_self) q
  | cons x a ih =>
    cases b with
    | nil =>
      rw [List.nil_append, List.cons_append] at h
      rcases hs with e | ⟨c, t, e, q⟩
      · rw [e] at h; cases h
      · rw [e] at h
        injection h with h1 _
        exact absurd (h1 ▸ ha x List.mem_cons_self) q
    | cons y b =>
      rw [List.cons_append, List.cons_append] at h
      injection h with h1 h2
      obtain ⟨e1, e2⟩ := ih (fun c hc => ha c (List.mem_cons_of_mem _ hc)) (fun c hc => hb c (List.mem_cons_of_mem _ hc)) h2
      exact ⟨by rw [h1, e1], e2⟩
theorem num_dg (n : Nat) : ∀ c ∈ numL n, isDg c := by
  intro c hc
  obtain ⟨ch, hch, e⟩ := List.mem_map.mp hc
  have r := PyProof.Rows.digit_range (Nat.isDigit_of_mem_toDigits (by decide) (by decide) hch)
  rw [← e]
  exact r
theorem num_inj {m n : Nat} (h : numL m = numL n) : m = n := by
  have a := PySem.W.KIN.val_back m
  have b := PySem.W.KIN.val_back n
  have h' : (Nat.toDigits 10 m).map Char.toNat = (Nat.toDigits 10 n).map Char.toNat := h
  rw [h', b] at a
  exact a.symm
theorem num_ne (n : Nat) : ∃ c t, numL n = c :: t ∧ isDg c := by
  cases h : numL n with
  | nil =>
    have h' : (Nat.toDigits 10 n).map Char.toNat = [] := h
    have z := PyProof.Rows.tDigits_len_ge 10 n
    rw [List.map_eq_nil_iff.mp h'] at z
    exact absurd z (by decide)
  | cons c t => exact ⟨c, t, rfl, num_dg n c (by rw [h]; exact List.mem_cons_self)⟩
/-- how a written value begins -/
theorem wr_head : ∀ (k : NestedKey), isV k = true → ∃ c t, wrL k = c :: t ∧ (isDg c ∨ c = 45 ∨ c = 40)
  | .none, h => by cases h
  | .num i, _ => by
    show ∃ c t, intL i = c :: t ∧ _
    unfold intL
    by_cases h : i < 0
    · rw [if_pos h]; exact ⟨45, _, rfl, .inr (.inl rfl)⟩
    · rw [if_neg h]
      obtain ⟨c, t, e, q⟩ := num_ne i.natAbs
      exact ⟨c, t, e, .inl q⟩
  | .text s, _ => by
    obtain ⟨c, t, e, q⟩ := num_ne s.length
    exact ⟨c, t ++ 58 :: tl s, by show numL s.length ++ 58 :: tl s = _; rw [e]; rfl, .inl q⟩
  | .tup ks, _ => ⟨40, _, rfl, .inr (.inr rfl)⟩
theorem tl_inj {s t : Str} (h : tl s = tl t) : s = t := by
  cases s; cases t
  congr 1
  exact Array.toList_inj.mp h
theorem int_inj {i j : Int} {r s : List Nat} (hr : nd r) (hs : nd s) (h : intL i ++ r = intL j ++ s) : i = j ∧ r = s := by
  unfold intL at h
  by_cases hi : i < 0 <;> by_cases hj : j < 0
  · rw [if_pos hi, if_pos hj] at h
    injection h with _ h
    obtain ⟨e1, e2⟩ := span_inj (num_dg _) (num_dg _) hr hs h
    exact ⟨by have := num_inj e1; omega, e2⟩
  · rw [if_pos hi, if_neg hj] at h
    obtain ⟨c, t, e, q⟩ := num_ne j.natAbs
    rw [List.nil_append, e] at h
    injection h with h1 _
    unfold isDg at q
    omega
  · rw [if_neg hi, if_pos hj] at h
    obtain ⟨c, t, e, q⟩ := num_ne i.natAbs
    rw [List.nil_append, e] at h
    injection h with h1 _
    unfold isDg at q
    omega
  · rw [if_neg hi, if_neg hj, List.nil_append, List.nil_append] at h
    obtain ⟨e1, e2⟩ := span_inj (num_dg _) (num_dg _) hr hs h
    exact ⟨by have := num_inj e1; omega, e2⟩
theorem nd58 (t : List Nat) : nd (58 :: t) := .inr ⟨58, t, rfl, fun q => by unfold isDg at q; omega⟩
theorem int_text {i : Int} {s : Str} {r t : List Nat} (hr : dl r) (h : intL i ++ r = (numL s.length ++ 58 :: tl s) ++ t) : False := by
  unfold intL at h
  by_cases hi : i < 0
  · rw [if_pos hi] at h
    obtain ⟨c, u, e, q⟩ := num_ne s.length
    rw [e] at h
    injection h with h1 _
    unfold isDg at q
    omega
  · rw [if_neg hi, List.nil_append, List.append_assoc] at h
    obtain ⟨_, e⟩ := span_inj (num_dg _) (num_dg _) hr.nd (nd58 _) h
    rcases hr with q | ⟨c, u, q, z⟩
    · rw [q] at e; cases e
    · rw [q] at e
      injection e with e1 _
      omega
theorem tail_dl (ks : List NestedKey) (r : List Nat) : dl (wrTail ks ++ 41 :: r) := by
  cases ks with
  | nil => exact .inr ⟨41, r, rfl, .inr rfl⟩
  | cons k ks => exact .inr ⟨44, _, rfl, .inl rfl⟩
mutual
theorem wr_inj : ∀ (k l : NestedKey) {r s : List Nat}, isV k = true → isV l = true → dl r → dl s → wrL k ++ r = wrL l ++ s → k = l ∧ r = s
  | .none, _, _, _, h, _, _, _, _ => by cases h
  | .num _, .none, _, _, _, h, _, _, _ => by cases h
  | .num i, .num j, r, s, _, _, hr, hs, h => by
    obtain ⟨e1, e2⟩ := int_inj hr.nd hs.nd h
    exact ⟨by rw [e1], e2⟩
  | .num i, .text t, r, s, _, _, hr, hs, h => (int_text hr h).elim
  | .num i, .tup ls, r, s, hk, _, hr, hs, h => by
    obtain ⟨c, t, e, q⟩ := wr_head (.num i) hk
    rw [e] at h
    injection h with h1 _
    exfalso
    have e2 : wrL (.num i) = intL i := rfl
    rw [e2] at e
    unfold intL at e
    by_cases hi : i < 0
    · rw [if_pos hi] at e; injection e with e _; omega
    · rw [if_neg hi] at e
      obtain ⟨c2, t2, e3, q2⟩ := num_ne i.natAbs
      rw [List.nil_append, e3] at e
      injection e with e _
      unfold isDg at q2
      omega
  | .text _, .none, _, _, _, h, _, _, _ => by cases h
  | .text t, .num j, r, s, _, _, hr, hs, h => (int_text hs h.symm).elim
  | .text t, .text u, r, s, _, _, hr, hs, h => by
    have h' : (numL t.length ++ 58 :: tl t) ++ r = (numL u.length ++ 58 :: tl u) ++ s := h
    rw [List.append_assoc, List.append_assoc] at h'
    obtain ⟨e1, e2⟩ := span_inj (num_dg _) (num_dg _) (nd58 _) (nd58 _) h'
    have el := num_inj e1
    injection e2 with _ e2
    have e3 : tl t ++ r = tl u ++ s := e2
    obtain ⟨e4, e5⟩ := List.append_inj e3 el
    exact ⟨by rw [tl_inj e4], e5⟩
  | .text t, .tup ls, r, s, _, _, hr, hs, h => by
    obtain ⟨c, u, e, q⟩ := num_ne t.length
    have h' : (numL t.length ++ 58 :: tl t) ++ r = (40 :: (wrsL ls ++ [41])) ++ s := h
    rw [e] at h'
    injection h' with h1 _
    unfold isDg at q
    omega
  | .tup _, .none, _, _, _, h, _, _, _ => by cases h
  | .tup ks, .num j, r, s, _, hl, hr, hs, h => by
    exfalso
    have h' : (40 :: (wrsL ks ++ [41])) ++ r = intL j ++ s := h
    unfold intL at h'
    by_cases hi : j < 0
    · rw [if_pos hi] at h'; injection h' with e _; omega
    · rw [if_neg hi] at h'
      obtain ⟨c2, t2, e3, q2⟩ := num_ne j.natAbs
      rw [List.nil_append, e3] at h'
      injection h' with e _
      unfold isDg at q2
      omega
  | .tup ks, .text u, r, s, _, _, hr, hs, h => by
    obtain ⟨c, v, e, q⟩ := num_ne u.length
    have h' : (40 :: (wrsL ks ++ [41])) ++ r = (numL u.length ++ 58 :: tl u) ++ s := h
    rw [e] at h'
    injection h' with h1 _
    unfold isDg at q
    omega
  | .tup [], .tup [], r, s, _, _, _, _, h => by
    injection h with _ h
    injection h with _ h
    exact ⟨rfl, h⟩
  | .tup [], .tup (l :: ls), r, s, _, hl, _, _, h => by
    exfalso
    have hl' : (isV l && isVs ls) = true := hl
    rw [Bool.and_eq_true] at hl'
    obtain ⟨c, t, e, q⟩ := wr_head l hl'.1
    have h' : 40 :: (41 :: r) = 40 :: ((wrL l ++ wrTail ls ++ [41]) ++ s) := h
    rw [e] at h'
    injection h' with _ h'
    injection h' with h1 _
    unfold isDg at q
    omega
  | .tup (k :: ks), .tup [], r, s, hk, _, _, _, h => by
    exfalso
    have hk' : (isV k && isVs ks) = true := hk
    rw [Bool.and_eq_true] at hk'
    obtain ⟨c, t, e, q⟩ := wr_head k hk'.1
    have h' : 40 :: ((wrL k ++ wrTail ks ++ [41]) ++ r) = 40 :: (41 :: s) := h
    rw [e] at h'
    injection h' with _ h'
    injection h' with h1 _
    unfold isDg at q
    omega
  | .tup (k :: ks), .tup (l :: ls), r, s, hk, hl, _, _, h => by
    have hk' : (isV k && isVs ks) = true := hk
    have hl' : (isV l && isVs ls) = true := hl
    rw [Bool.and_eq_true] at hk' hl'
    have h' : 40 :: ((wrL k ++ wrTail ks ++ [41]) ++ r) = 40 :: ((wrL l ++ wrTail ls ++ [41]) ++ s) := h
    injection h' with _ h'
    rw [List.append_assoc, List.append_assoc, List.append_assoc, List.append_assoc] at h'
    obtain ⟨e1, e2⟩ := wr_inj k l hk'.1 hl'.1 (tail_dl ks r) (tail_dl ls s) h'
    obtain ⟨e3, e4⟩ := wrT_inj ks ls hk'.2 hl'.2 e2
    exact ⟨by rw [e1, e3], e4⟩
theorem wrT_inj : ∀ (ks ls : List NestedKey) {r s : List Nat}, isVs ks = true → isVs ls = true → wrTail ks ++ 41 :: r = wrTail ls ++ 41 :: s → ks = ls ∧ r = s
  | [], [], r, s, _, _, h => by
    injection h with _ h
    exact ⟨rfl, h⟩
  | [], l :: ls, r, s, _, _, h => by
    injection h with h _
    omega
  | k :: ks, [], r, s, _, _, h => by
    injection h with h _
    omega
  | k :: ks, l :: ls, r, s, hk, hl, h => by
    have hk' : (isV k && isVs ks) = true := hk
    have hl' : (isV l && isVs ls) = true := hl
    rw [Bool.and_eq_true] at hk' hl'
    have h' : 44 :: ((wrL k ++ wrTail ks) ++ 41 :: r) = 44 :: ((wrL l ++ wrTail ls) ++ 41 :: s) := h
    injection h' with _ h'
    rw [List.append_assoc, List.append_assoc] at h'
    obtain ⟨e1, e2⟩ := wr_inj k l hk'.1 hl'.1 (tail_dl ks r) (tail_dl ls s) h'
    obtain ⟨e3, e4⟩ := wrT_inj ks ls hk'.2 hl'.2 e2
    exact ⟨by rw [e1, e3], e4⟩
end
theorem wr_inj' {k l : NestedKey} (hk : isV k = true) (hl : isV l = true) (h : wrL k = wrL l) : k = l :=
  (wr_inj k l hk hl (.inl rfl) (.inl rfl) (by rw [h] : wrL k ++ [] = wrL l ++ [])).1

local macro_rules | `(tactic| walk_at "my_rd") => `(tactic| (repeat first
  | with_reducible refine q_tCons ?_
  | ((with_reducible apply q_var); (focus (exact rfl)))
  | with_reducible refine q_c ?_
  | with_reducible refine q_nx ?_
  | with_reducible refine q_bK ?_
  | with_reducible refine q_call ?_
  | with_reducible refine q_callK ?_
  | with_reducible refine q_tNil ?_
  | with_reducible refine q_cb ?_
  | with_reducible refine q_seq ?_
  | with_reducible refine q_asg ?_
  | with_reducible refine q_gName ?_
  | with_reducible refine q_op ?_
  | with_reducible refine q_test ?_
  | with_reducible refine q_tB ?_
  | with_reducible refine q_ifS ?_
  | with_reducible refine q_ret ?_
  | with_reducible refine q_rt ?_
  | with_reducible refine q_next ?_
  | with_reducible refine q_ifF ?_
  | with_reducible refine q_ifT ?_
  | with_reducible refine q_drop ?_
  | with_reducible refine q_and ?_
  | with_reducible refine q_or ?_
  | with_reducible refine q_andT ?_
  | with_reducible refine q_andF ?_
  | with_reducible refine q_orF ?_
  | with_reducible refine q_orT ?_
  | with_reducible refine q_andV ?_
  | with_reducible refine q_andVT ?_
  | with_reducible refine q_andVF ?_
  | with_reducible refine q_orV ?_
  | with_reducible refine q_gCons ?_
  | with_reducible refine q_gNil ?_
  | with_reducible refine q_tup ?_
  | with_reducible refine q_lst ?_
  | with_reducible refine q_not ?_
  | with_reducible refine q_notKT ?_
  | with_reducible refine q_notKF ?_
  | with_reducible refine q_I0 ?_
  | with_reducible refine q_eqI ?_
  | with_reducible refine q_neI ?_
  | ((with_reducible refine q_I ?_ ?_); first | decide | omega | exact ⟨by omega, by omega⟩ | exact ⟨by decide, by decide⟩ | exact .inl ⟨by omega, by omega⟩ | exact .inr ⟨by omega, by omega⟩ | exact .inr ⟨by decide, by decide⟩)
  | with_reducible refine q_eqS ?_
  | with_reducible refine q_neS ?_
  | with_reducible refine q_brk ?_
  | with_reducible refine q_ct ?_
  | with_reducible refine q_bk ?_
  | with_reducible refine q_cn ?_
  | with_reducible refine q_retN ?_
  | with_reducible refine q_gSub ?_
  | with_reducible refine q_for ?_
  | with_reducible refine q_iList ?_
  | with_reducible refine q_iTup ?_
  | with_reducible refine q_iRng1 ?_
  | with_reducible refine q_notK ?_
  | with_reducible refine q_orVT ?_
  | with_reducible refine q_orVF ?_
  | with_reducible refine q_notV ?_
  | with_reducible refine q_notVK ?_
  | with_reducible refine q_ifE ?_
  | with_reducible refine q_ifET ?_
  | with_reducible refine q_ifEF ?_
  | with_reducible refine q_yes ?_
  | with_reducible refine q_un ?_
  | with_reducible refine q_rU ?_
  | with_reducible refine q_abs ?_
  | with_reducible refine q_int1 ?_
  | with_reducible refine q_bm ?_
  | with_reducible refine q_bm0 ?_
  | with_reducible refine q_lc ?_
  | with_reducible refine q_keepT ?_
  | with_reducible refine q_keepF ?_
  | ((with_reducible apply q_aug); (focus (exact rfl)))
  | with_reducible refine q_ipI ?_
  | with_reducible refine q_chain ?_
  | with_reducible refine q_pairC ?_
  | with_reducible refine q_pairsK ?_
  | with_reducible refine q_pairN ?_
  | with_reducible refine q_fld ?_
  | with_reducible refine q_sFld ?_
  | with_reducible refine q_meth ?_
  | with_reducible refine q_makeK ?_
  | with_reducible refine q_isBl ?_
  | with_reducible refine q_notBl ?_
  | with_reducible refine q_sl ?_
  | with_reducible refine q_noPart ?_
  | with_reducible refine q_part ?_
  | with_reducible refine q_partK ?_
  | ((with_reducible apply q_mulStr); (focus (decide +kernel)))
  | with_reducible refine q_chT ?_
  | with_reducible refine q_chF ?_
  | with_reducible refine q_ord ?_
  | with_reducible refine q_iStr0 ?_
  | with_reducible refine q_iStr ?_
  | with_reducible refine q_tDIn ?_
  | with_reducible refine q_tDNotIn ?_
  | with_reducible refine q_tDGet ?_
  | with_reducible refine q_tDGet2 ?_
  | with_reducible refine q_tDGet1 ?_
  | with_reducible refine q_tDSetd ?_
  | ((with_reducible apply q_dG2a); (focus ((repeat first | (with_reducible exact upd_same) | (with_reducible assumption) | (with_reducible apply upd_new (by assumption)) | (with_reducible apply upd_other (by first | assumption | exact Ne.symm (by assumption))) | (with_reducible refine' Kp.get (by assumption) ?_ (by first | assumption | exact Ne.symm (by assumption))) | (with_reducible apply Same.get (by assumption))); done)))
  | ((with_reducible apply q_dSda); (focus ((repeat first | (with_reducible exact upd_same) | (with_reducible assumption) | (with_reducible apply upd_new (by assumption)) | (with_reducible apply upd_other (by first | assumption | exact Ne.symm (by assumption))) | (with_reducible refine' Kp.get (by assumption) ?_ (by first | assumption | exact Ne.symm (by assumption))) | (with_reducible apply Same.get (by assumption))); done)))
  | with_reducible refine q_sDPut ?_
  | ((with_reducible apply q_dInS); (focus ((repeat first | (with_reducible exact upd_same) | (with_reducible assumption) | (with_reducible apply upd_new (by assumption)) | (with_reducible apply upd_other (by first | assumption | exact Ne.symm (by assumption))) | (with_reducible refine' Kp.get (by assumption) ?_ (by first | assumption | exact Ne.symm (by assumption))) | (with_reducible apply Same.get (by assumption))); done)))
  | ((with_reducible apply q_dNInS); (focus ((repeat first | (with_reducible exact upd_same) | (with_reducible assumption) | (with_reducible apply upd_new (by assumption)) | (with_reducible apply upd_other (by first | assumption | exact Ne.symm (by assumption))) | (with_reducible refine' Kp.get (by assumption) ?_ (by first | assumption | exact Ne.symm (by assumption))) | (with_reducible apply Same.get (by assumption))); done)))
  | ((with_reducible apply q_dInI); (focus ((repeat first | (with_reducible exact upd_same) | (with_reducible assumption) | (with_reducible apply upd_new (by assumption)) | (with_reducible apply upd_other (by first | assumption | exact Ne.symm (by assumption))) | (with_reducible refine' Kp.get (by assumption) ?_ (by first | assumption | exact Ne.symm (by assumption))) | (with_reducible apply Same.get (by assumption))); done)))
  | ((with_reducible apply q_dNInI); (focus ((repeat first | (with_reducible exact upd_same) | (with_reducible assumption) | (with_reducible apply upd_new (by assumption)) | (with_reducible apply upd_other (by first | assumption | exact Ne.symm (by assumption))) | (with_reducible refine' Kp.get (by assumption) ?_ (by first | assumption | exact Ne.symm (by assumption))) | (with_reducible apply Same.get (by assumption))); done)))
  | ((with_reducible apply q_bmL); (focus ((repeat first | (with_reducible exact upd_same) | (with_reducible assumption) | (with_reducible apply upd_new (by assumption)) | (with_reducible apply upd_other (by first | assumption | exact Ne.symm (by assumption))) | (with_reducible refine' Kp.get (by assumption) ?_ (by first | assumption | exact Ne.symm (by assumption))) | (with_reducible apply Same.get (by assumption))); done)))
  | ((with_reducible apply q_bmL0); (focus ((repeat first | (with_reducible exact upd_same) | (with_reducible assumption) | (with_reducible apply upd_new (by assumption)) | (with_reducible apply upd_other (by first | assumption | exact Ne.symm (by assumption))) | (with_reducible refine' Kp.get (by assumption) ?_ (by first | assumption | exact Ne.symm (by assumption))) | (with_reducible apply Same.get (by assumption))); done)))
  | ((with_reducible apply q_ixLt); (focus ((repeat first | (with_reducible exact upd_same) | (with_reducible assumption) | (with_reducible apply upd_new (by assumption)) | (with_reducible apply upd_other (by first | assumption | exact Ne.symm (by assumption))) | (with_reducible refine' Kp.get (by assumption) ?_ (by first | assumption | exact Ne.symm (by assumption))) | (with_reducible apply Same.get (by assumption))); done)); (focus (exact rfl)))
  | ((with_reducible apply q_ixTt); (focus ((repeat first | (with_reducible exact upd_same) | (with_reducible assumption) | (with_reducible apply upd_new (by assumption)) | (with_reducible apply upd_other (by first | assumption | exact Ne.symm (by assumption))) | (with_reducible refine' Kp.get (by assumption) ?_ (by first | assumption | exact Ne.symm (by assumption))) | (with_reducible apply Same.get (by assumption))); done)); (focus (exact rfl)))
  | ((with_reducible apply q_lenLt); (focus ((repeat first | (with_reducible exact upd_same) | (with_reducible assumption) | (with_reducible apply upd_new (by assumption)) | (with_reducible apply upd_other (by first | assumption | exact Ne.symm (by assumption))) | (with_reducible refine' Kp.get (by assumption) ?_ (by first | assumption | exact Ne.symm (by assumption))) | (with_reducible apply Same.get (by assumption))); done)))
  | ((with_reducible apply q_lenTt); (focus ((repeat first | (with_reducible exact upd_same) | (with_reducible assumption) | (with_reducible apply upd_new (by assumption)) | (with_reducible apply upd_other (by first | assumption | exact Ne.symm (by assumption))) | (with_reducible refine' Kp.get (by assumption) ?_ (by first | assumption | exact Ne.symm (by assumption))) | (with_reducible apply Same.get (by assumption))); done)))
  | ((with_reducible apply q_append); (focus ((repeat first | (with_reducible exact upd_same) | (with_reducible assumption) | (with_reducible apply upd_new (by assumption)) | (with_reducible apply upd_other (by first | assumption | exact Ne.symm (by assumption))) | (with_reducible refine' Kp.get (by assumption) ?_ (by first | assumption | exact Ne.symm (by assumption))) | (with_reducible apply Same.get (by assumption))); done)); (focus ((first | (exact Nat.lt_of_ble_eq_true rfl) | (simp only [List.length_append, List.length_cons, List.length_nil, List.length_map]; exact small1000 (by omega))))))
  | ((with_reducible apply q_setL); (focus ((repeat first | (with_reducible exact upd_same) | (with_reducible assumption) | (with_reducible apply upd_new (by assumption)) | (with_reducible apply upd_other (by first | assumption | exact Ne.symm (by assumption))) | (with_reducible refine' Kp.get (by assumption) ?_ (by first | assumption | exact Ne.symm (by assumption))) | (with_reducible apply Same.get (by assumption))); done)); (focus (exact rfl)))
  | with_reducible refine q_ifNT ?_
  | with_reducible refine q_ifNF ?_
  | with_reducible refine q_andNT ?_
  | with_reducible refine q_andNF ?_
  | with_reducible refine q_orNT ?_
  | with_reducible refine q_orNF ?_
  | with_reducible refine q_bKNT ?_
  | with_reducible refine q_bKNF ?_
  | with_reducible refine q_tNGet ?_
  | with_reducible refine q_tNIn ?_
  | with_reducible refine q_sNPut ?_
  | with_reducible refine q_sFldAug ?_
  | with_reducible refine q_sDAug ?_
  | with_reducible refine q_sDDel ?_
  | with_reducible refine q_forX ?_
  | with_reducible refine q_tMake ?_
  | ((with_reducible apply q_dG1a); (focus ((repeat first | (with_reducible exact upd_same) | (with_reducible assumption) | (with_reducible apply upd_new (by assumption)) | (with_reducible apply upd_other (by first | assumption | exact Ne.symm (by assumption))) | (with_reducible refine' Kp.get (by assumption) ?_ (by first | assumption | exact Ne.symm (by assumption))) | (with_reducible apply Same.get (by assumption))); done)))))
open TL
/-! written forms: the defs -/
open RT in
theorem walk_revT {K : PySem.W.Frag} {a : Addr} {xs : List V} : Walk (ItvT K a xs.length) xs.length (fun H => SqT K H a xs) (fun i H x H' => H' = H ∧ xs[xs.length - 1 - i]? = some x) :=
  ⟨fun i _ hi q => ⟨hi, xs, xs[xs.length - 1 - i]'(by omega), q, List.getElem?_eq_getElem _⟩, fun _ _ => Nat.le_refl _, fun _ _ _ _ _ q y => ⟨y.1, y.2 _ q⟩⟩
def strL (l : List Nat) : Str := ⟨l.toArray⟩
theorem tl_strL (l : List Nat) : tl (strL l) = l := rfl
theorem strL_tl (s : Str) : strL (tl s) = s := tl_inj (tl_strL _)
theorem tl_len (s : Str) : s.length = (tl s).length := rfl
/-! no number of more than 64 digits -/
mutual
def smallV : NestedKey → Prop
  | .none => True
  | .num i => i.natAbs < 10 ^ 64
  | .text _ => True
  | .tup ks => smallVs ks
def smallVs : List NestedKey → Prop
  | [] => True
  | k :: ks => smallV k ∧ smallVs ks
end
mutual
def siz : NestedKey → Nat
  | .none => 1
  | .num _ => 1
  | .text _ => 1
  | .tup ks => 2 + sizs ks
def sizs : List NestedKey → Nat
  | [] => 0
  | k :: ks => siz k + 1 + sizs ks
end
/-- the parts of a tuple, the next one first -/
def prT : List V → List (V × Bool)
  | [] => []
  | v :: vs => (.str ",", true) :: (v, false) :: prT vs
def pr : List V → List (V × Bool)
  | [] => []
  | v :: vs => (v, false) :: prT vs
theorem prT_eq (vs : List V) : prT vs = if vs = [] then [] else (.str ",", true) :: pr vs := by
  cases vs with
  | nil => rfl
  | cons v vs => rw [if_neg (by intro z; cases z)]; rfl
theorem prT_len (vs : List V) : (prT vs).length = 2 * vs.length := by
  induction vs with
  | nil => rfl
  | cons v vs ih => show (prT vs).length + 1 + 1 = 2 * (vs.length + 1); omega
theorem pr_len (vs : List V) : (pr vs).length ≤ 2 * vs.length := by
  cases vs with
  | nil => exact Nat.le_refl _
  | cons v vs => show (prT vs).length + 1 ≤ 2 * (vs.length + 1); rw [prT_len]; omega
def pB (q : V × Bool) : List V := [q.1, .bl q.2]
/-- what a stack of parts gives, the next one first -/
inductive OutN (H : Hp) : Nat → List (V × Bool) → List Nat → Prop
  | nil : OutN H 0 [] []
  | sign {m : Nat} {M : List (V × Bool)} {o : List Nat} {s : Str} : OutN H m M o → OutN H (m + 1) ((.str s, true) :: M) (tl s ++ o)
  | val {m : Nat} {M : List (V × Bool)} {o : List Nat} {k : NestedKey} {v : V} : OutN H m M o → NV H k v → isV k = true → smallV k → OutN H (m + siz k) ((v, false) :: M) (wrL k ++ o)
theorem OutN.mono {H H' : Hp} {m : Nat} {M : List (V × Bool)} {o : List Nat} (h : OutN H m M o) (e : ∀ b ys, H b = some (.tup ys) → H' b = some (.tup ys)) : OutN H' m M o := by
  induction h with
  | nil => exact .nil
  | sign _ ih => exact .sign ih
  | val _ hn hv hs ih => exact .val ih (NV.mono e hn) hv hs
theorem outT {H : Hp} : ∀ {ks : List NestedKey} {vs : List V} {m : Nat} {M : List (V × Bool)} {o : List Nat}, NVs H ks vs → isVs ks = true → smallVs ks → OutN H m M o → OutN H (m + sizs ks) (prT vs ++ M) (wrTail ks ++ o)
  | _, _, _, _, _, .nil, _, _, h => h
  | _, _, m, M, o, .cons (k := k) (ks := ks) a b, hv, hs, h => by
    have hv' : (isV k && isVs ks) = true := hv
    rw [Bool.and_eq_true] at hv'
    have h2 := OutN.sign (s := ",") (OutN.val (outT b hv'.2 hs.2 h) a hv'.1 hs.1)
    have e : m + sizs (k :: ks) = m + sizs ks + siz k + 1 := by show m + (siz k + 1 + sizs ks) = _; omega
    rw [e]
    have e2 : wrTail (k :: ks) ++ o = tl (Str.ofString ",") ++ (wrL k ++ (wrTail ks ++ o)) := by
      show 44 :: (wrL k ++ wrTail ks) ++ o = [44] ++ (wrL k ++ (wrTail ks ++ o))
      rw [List.cons_append, List.append_assoc]
      rfl
    rw [e2]
    exact h2
theorem outP {H : Hp} {ks : List NestedKey} {vs : List V} {m : Nat} {M : List (V × Bool)} {o : List Nat} (hn : NVs H ks vs) (hv : isVs ks = true) (hs : smallVs ks) (h : OutN H m M o) : ∃ m', m' ≤ m + sizs ks ∧ OutN H m' (pr vs ++ M) (wrsL ks ++ o) := by
  cases hn with
  | nil => exact ⟨m, Nat.le_refl _, h⟩
  | @cons k v ks vs a b =>
    have hv' : (isV k && isVs ks) = true := hv
    rw [Bool.and_eq_true] at hv'
    refine ⟨m + sizs ks + siz k, by show _ ≤ m + (siz k + 1 + sizs ks); omega, ?_⟩
    have e : wrsL (k :: ks) ++ o = wrL k ++ (wrTail ks ++ o) := by show (wrL k ++ wrTail ks) ++ o = _; rw [List.append_assoc]
    rw [e]
    exact OutN.val (outT b hv'.2 hs.2 h) a hv'.1 hs.1
theorem OutN.len {H : Hp} {m : Nat} {M : List (V × Bool)} {o : List Nat} (h : OutN H m M o) : M.length ≤ m := by
  induction h with
  | nil => exact Nat.le_refl _
  | sign _ ih => exact Nat.succ_le_succ ih
  | @val m M o k v _ _ _ _ ih =>
    have : 1 ≤ siz k := by
      cases k <;> first | exact Nat.le_refl _ | (show 1 ≤ 2 + _; omega)
    show M.length + 1 ≤ m + siz k
    omega
def sp_dig : Sp := fun vs H Q _ => ∃ n : Nat, vs = [.int n] ∧ n < 10 ^ 64 ∧ Q (.str (strL (numL n))) H
def sp_wint : Sp := fun vs H Q _ => ∃ i : Int, vs = [.int i] ∧ i.natAbs < 10 ^ 64 ∧ Q (.str (strL (intL i))) H
def sp_parted : Sp := fun vs H Q _ => ∃ (b : Addr) (xs : List V), vs = [.ref b] ∧ H b = some (.tup xs) ∧ xs.length ≤ 1000000 ∧ ∀ (p : Addr) (H' : Hp) (ys : List V), H p = none → Same H H' → H' p = some (.lst ys) → RowsAt pB H' ys (pr xs).reverse → Q (.ref p) H'
def sp_write (K : PySem.W.Frag) : Sp := fun vs H Q _ => ∃ (v : V) (k : NestedKey), vs = [v] ∧ NV H k v ∧ isV k = true ∧ smallV k ∧ (wrL k).length ≤ 1000000 ∧ siz k ≤ 1000000 ∧ ∀ H', Same H H' → Q (.str (strL (wrL k))) H'
theorem log_lt {n : Nat} (h : n < 10 ^ 64) : n.log2 < 1920 := by
  by_cases h0 : n = 0
  · rw [h0]; decide
  · rw [Nat.log2_lt h0]
    exact Nat.lt_of_lt_of_le h (by decide +kernel)
section
variable {P : Program} {w : World} {K : PySem.W.Frag} {mg : Str → Option Value} {base : Heap}
theorem ok_digits_of (T : Txt K mg) : FnOk P w K mg base CX0 1 T.f_digits_of T.d_digits_of ["number"] sp_dig := by
  refine T.F_digits_of.ok sc_digits_of (fun vs H Q E h => ?_) (fun cdv A outer s H vs Q E hr h => ?_)
  · obtain ⟨n, rfl, _⟩ := h; rfl
  · obtain ⟨n, rfl, hn, k⟩ := h
    refine ⟨_, (pss_cons (ps_if (pt_cmpR op_lt (pv 0) (pe_glob (v := .int 10000000000000000000000000000000000000000000000000000000000000000) (by rfl) T.c_PIECE ⟨_, rfl⟩) (nomark _)) (pss_one (ps_ret (pe_callTy cq_strInt (by rfl) T.z_str boot_str (pa_cons (pv 0) pa_nil)))) pss_nil)
      (pss_cons ps_never
      (pss_cons ps_never
      (pss_cons ps_never
      (pss_cons ps_never
      (pss_cons ps_never
      (pss_cons ps_never
      (pss_one ps_never)))))))), ?_⟩
    (dsimp only [cxOf, Cx.nox, Cx.wish, L2.start, List.map, List.length, List.replicate, List.cons_append, List.nil_append, List.append_eq, Nat.reduceSub, Nat.reduceAdd])
    have hP : (n : Int) < 10000000000000000000000000000000000000000000000000000000000000000 := by
      have e : (10 : Nat) ^ 64 = 10000000000000000000000000000000000000000000000000000000000000000 := by decide +kernel
      rw [e] at hn
      omega
    generalize (10000000000000000000000000000000000000000000000000000000000000000 : Int) = PP at hP ⊢
    walk_at "my_rd"
    rw [decide_eq_true hP]
    walk_at "my_rd"
    refine q_strInt (by show n.log2 < 1920; exact log_lt hn) ?_
    walk_at "my_rd"
    have e2 : Str.ofString (toString (n : Int)) = strL (numL n) := tl_inj (tl_num n)
    rw [e2]
    exact k
theorem ok_written_integer (T : Txt K mg) : FnOk P w K mg base CX0 2 T.f_written_integer T.d_written_integer ["number"] sp_wint := by
  refine T.F_written_integer.ok sc_written_integer (fun vs H Q E h => ?_) (fun cdv A outer s H vs Q E hr h => ?_)
  · obtain ⟨n, rfl, _⟩ := h; rfl
  · obtain ⟨i, rfl, hn, k⟩ := h
    refine ⟨_, (pss_cons (ps_set (i := 1) sc_written_integer.nd rfl (Or.inl rfl) (pe_ifExp (pt_cmpR op_lt (pv 0) pe_int (nomark _)) pe_str pe_str))
      (pss_one (ps_ret (pe_op oq_addStr (pv 1) (pe_call (ok_digits_of T) (hr.mono (by decide)) (by rfl) T.g_digits_of T.F_digits_of.kp T.b_digits_of .nil pass0 (pa_cons (pe_callB cq_abs (by rfl) T.z_abs boot_abs (pa_cons (pv 0) pa_nil)) pa_nil)))))), ?_⟩
    (dsimp only [cxOf, Cx.nox, Cx.wish, L2.start, List.map, List.length, List.replicate, List.cons_append, List.nil_append, List.append_eq, Nat.reduceSub, Nat.reduceAdd])
    walk_at "my_rd"
    have hl : (strL (numL i.natAbs)).length ≤ 65 := by
      show (numL i.natAbs).length ≤ 65
      unfold numL
      rw [List.length_map]
      exact Nat.le_trans (PyProof.Rows.digits10_le (k := 64) (by decide) hn) (by decide)
    have hs : sizeLine = 16777216 := sizeLine_eq
    refine q_ifE2 (fun h => ?_) (fun h => ?_)
    · have h := dec_t h
      walk_at "my_rd"
      rw [if_pos h]
      refine ⟨i.natAbs, by rw [show -i = (i.natAbs : Int) by omega], hn, ?_⟩
      refine q_addStr (by show 1 + _ ≤ _; omega) ?_
      walk_at "my_rd"
      have e : Str.ofString "-" ++ strL (numL i.natAbs) = strL (intL i) := tl_inj (by rw [tl_append]; unfold intL; rw [if_pos h]; rfl)
      rw [e]
      exact k
    · have h := dec_f h
      walk_at "my_rd"
      rw [if_neg h]
      refine ⟨i.natAbs, by rw [show i = (i.natAbs : Int) by omega]; rfl, hn, ?_⟩
      refine q_addStr (by show 0 + _ ≤ _; omega) ?_
      walk_at "my_rd"
      have e : Str.ofString "" ++ strL (numL i.natAbs) = strL (intL i) := tl_inj (by rw [tl_append]; unfold intL; rw [if_neg h]; rfl)
      rw [e]
      exact k
end

local macro_rules | `(tactic| walk_at "my_rd") => `(tactic| (repeat first
  | with_reducible refine q_tCons ?_
  | ((with_reducible apply q_var); (focus (exact rfl)))
  | with_reducible refine q_c ?_
  | with_reducible refine q_nx ?_
  | with_reducible refine q_bK ?_
  | with_reducible refine q_call ?_
  | with_reducible refine q_callK ?_
  | with_reducible refine q_tNil ?_
  | with_reducible refine q_cb ?_
  | with_reducible refine q_seq ?_
  | with_reducible refine q_asg ?_
  | with_reducible refine q_gName ?_
  | with_reducible refine q_op ?_
  | with_reducible refine q_test ?_
  | with_reducible refine q_tB ?_
  | with_reducible refine q_ifS ?_
  | with_reducible refine q_ret ?_
  | with_reducible refine q_rt ?_
  | with_reducible refine q_next ?_
  | with_reducible refine q_ifF ?_
  | with_reducible refine q_ifT ?_
  | with_reducible refine q_drop ?_
  | with_reducible refine q_and ?_
  | with_reducible refine q_or ?_
  | with_reducible refine q_andT ?_
  | with_reducible refine q_andF ?_
  | with_reducible refine q_orF ?_
  | with_reducible refine q_orT ?_
  | with_reducible refine q_andV ?_
  | with_reducible refine q_andVT ?_
  | with_reducible refine q_andVF ?_
  | with_reducible refine q_orV ?_
  | with_reducible refine q_gCons ?_
  | with_reducible refine q_gNil ?_
  | with_reducible refine q_tup ?_
  | with_reducible refine q_lst ?_
  | with_reducible refine q_not ?_
  | with_reducible refine q_notKT ?_
  | with_reducible refine q_notKF ?_
  | with_reducible refine q_I0 ?_
  | with_reducible refine q_eqI ?_
  | with_reducible refine q_neI ?_
  | ((with_reducible refine q_I ?_ ?_); first | decide | omega | exact ⟨by omega, by omega⟩ | exact ⟨by decide, by decide⟩ | exact .inl ⟨by omega, by omega⟩ | exact .inr ⟨by omega, by omega⟩ | exact .inr ⟨by decide, by decide⟩)
  | with_reducible refine q_eqS ?_
  | with_reducible refine q_neS ?_
  | with_reducible refine q_brk ?_
  | with_reducible refine q_ct ?_
  | with_reducible refine q_bk ?_
  | with_reducible refine q_cn ?_
  | with_reducible refine q_retN ?_
  | with_reducible refine q_gSub ?_
  | with_reducible refine q_for ?_
  | with_reducible refine q_iList ?_
  | with_reducible refine q_iTup ?_
  | with_reducible refine q_iRng1 ?_
  | with_reducible refine q_notK ?_
  | with_reducible refine q_orVT ?_
  | with_reducible refine q_orVF ?_
  | with_reducible refine q_notV ?_
  | with_reducible refine q_notVK ?_
  | with_reducible refine q_ifE ?_
  | with_reducible refine q_ifET ?_
  | with_reducible refine q_ifEF ?_
  | with_reducible refine q_yes ?_
  | with_reducible refine q_un ?_
  | with_reducible refine q_rU ?_
  | with_reducible refine q_abs ?_
  | with_reducible refine q_int1 ?_
  | with_reducible refine q_bm ?_
  | with_reducible refine q_bm0 ?_
  | with_reducible refine q_lc ?_
  | with_reducible refine q_keepT ?_
  | with_reducible refine q_keepF ?_
  | ((with_reducible apply q_aug); (focus (exact rfl)))
  | with_reducible refine q_ipI ?_
  | with_reducible refine q_chain ?_
  | with_reducible refine q_pairC ?_
  | with_reducible refine q_pairsK ?_
  | with_reducible refine q_pairN ?_
  | with_reducible refine q_fld ?_
  | with_reducible refine q_sFld ?_
  | with_reducible refine q_meth ?_
  | with_reducible refine q_makeK ?_
  | with_reducible refine q_isBl ?_
  | with_reducible refine q_notBl ?_
  | with_reducible refine q_sl ?_
  | with_reducible refine q_noPart ?_
  | with_reducible refine q_part ?_
  | with_reducible refine q_partK ?_
  | ((with_reducible apply q_mulStr); (focus (decide +kernel)))
  | with_reducible refine q_chT ?_
  | with_reducible refine q_chF ?_
  | with_reducible refine q_ord ?_
  | with_reducible refine q_iStr0 ?_
  | with_reducible refine q_iStr ?_
  | with_reducible refine q_tDIn ?_
  | with_reducible refine q_tDNotIn ?_
  | with_reducible refine q_tDGet ?_
  | with_reducible refine q_tDGet2 ?_
  | with_reducible refine q_tDGet1 ?_
  | with_reducible refine q_tDSetd ?_
  | ((with_reducible apply q_dG2a); (focus ((repeat first | (with_reducible exact upd_same) | (with_reducible assumption) | (with_reducible apply upd_new (by assumption)) | (with_reducible apply upd_other (by first | assumption | exact Ne.symm (by assumption))) | (with_reducible refine' Kp.get (by assumption) ?_ (by first | assumption | exact Ne.symm (by assumption))) | (with_reducible apply Same.get (by assumption))); done)))
  | ((with_reducible apply q_dSda); (focus ((repeat first | (with_reducible exact upd_same) | (with_reducible assumption) | (with_reducible apply upd_new (by assumption)) | (with_reducible apply upd_other (by first | assumption | exact Ne.symm (by assumption))) | (with_reducible refine' Kp.get (by assumption) ?_ (by first | assumption | exact Ne.symm (by assumption))) | (with_reducible apply Same.get (by assumption))); done)))
  | with_reducible refine q_sDPut ?_
  | ((with_reducible apply q_dInS); (focus ((repeat first | (with_reducible exact upd_same) | (with_reducible assumption) | (with_reducible apply upd_new (by assumption)) | (with_reducible apply upd_other (by first | assumption | exact Ne.symm (by assumption))) | (with_reducible refine' Kp.get (by assumption) ?_ (by first | assumption | exact Ne.symm (by assumption))) | (with_reducible apply Same.get (by assumption))); done)))
  | ((with_reducible apply q_dNInS); (focus ((repeat first | (with_reducible exact upd_same) | (with_reducible assumption) | (with_reducible apply upd_new (by assumption)) | (with_reducible apply upd_other (by first | assumption | exact Ne.symm (by assumption))) | (with_reducible refine' Kp.get (by assumption) ?_ (by first | assumption | exact Ne.symm (by assumption))) | (with_reducible apply Same.get (by assumption))); done)))
  | ((with_reducible apply q_dInI); (focus ((repeat first | (with_reducible exact upd_same) | (with_reducible assumption) | (with_reducible apply upd_new (by assumption)) | (with_reducible apply upd_other (by first | assumption | exact Ne.symm (by assumption))) | (with_reducible refine' Kp.get (by assumption) ?_ (by first | assumption | exact Ne.symm (by assumption))) | (with_reducible apply Same.get (by assumption))); done)))
  | ((with_reducible apply q_dNInI); (focus ((repeat first | (with_reducible exact upd_same) | (with_reducible assumption) | (with_reducible apply upd_new (by assumption)) | (with_reducible apply upd_other (by first | assumption | exact Ne.symm (by assumption))) | (with_reducible refine' Kp.get (by assumption) ?_ (by first | assumption | exact Ne.symm (by assumption))) | (with_reducible apply Same.get (by assumption))); done)))
  | ((with_reducible apply q_bmL); (focus ((repeat first | (with_reducible exact upd_same) | (with_reducible assumption) | (with_reducible apply upd_new (by assumption)) | (with_reducible apply upd_other (by first | assumption | exact Ne.symm (by assumption))) | (with_reducible refine' Kp.get (by assumption) ?_ (by first | assumption | exact Ne.symm (by assumption))) | (with_reducible apply Same.get (by assumption))); done)))
  | ((with_reducible apply q_bmL0); (focus ((repeat first | (with_reducible exact upd_same) | (with_reducible assumption) | (with_reducible apply upd_new (by assumption)) | (with_reducible apply upd_other (by first | assumption | exact Ne.symm (by assumption))) | (with_reducible refine' Kp.get (by assumption) ?_ (by first | assumption | exact Ne.symm (by assumption))) | (with_reducible apply Same.get (by assumption))); done)))
  | ((with_reducible apply q_ixLt); (focus ((repeat first | (with_reducible exact upd_same) | (with_reducible assumption) | (with_reducible apply upd_new (by assumption)) | (with_reducible apply upd_other (by first | assumption | exact Ne.symm (by assumption))) | (with_reducible refine' Kp.get (by assumption) ?_ (by first | assumption | exact Ne.symm (by assumption))) | (with_reducible apply Same.get (by assumption))); done)); (focus (exact rfl)))
  | ((with_reducible apply q_ixTt); (focus ((repeat first | (with_reducible exact upd_same) | (with_reducible assumption) | (with_reducible apply upd_new (by assumption)) | (with_reducible apply upd_other (by first | assumption | exact Ne.symm (by assumption))) | (with_reducible refine' Kp.get (by assumption) ?_ (by first | assumption | exact Ne.symm (by assumption))) | (with_reducible apply Same.get (by assumption))); done)); (focus (exact rfl)))
  | ((with_reducible apply q_lenLt); (focus ((repeat first | (with_reducible exact upd_same) | (with_reducible assumption) | (with_reducible apply upd_new (by assumption)) | (with_reducible apply upd_other (by first | assumption | exact Ne.symm (by assumption))) | (with_reducible refine' Kp.get (by assumption) ?_ (by first | assumption | exact Ne.symm (by assumption))) | (with_reducible apply Same.get (by assumption))); done)))
  | ((with_reducible apply q_lenTt); (focus ((repeat first | (with_reducible exact upd_same) | (with_reducible assumption) | (with_reducible apply upd_new (by assumption)) | (with_reducible apply upd_other (by first | assumption | exact Ne.symm (by assumption))) | (with_reducible refine' Kp.get (by assumption) ?_ (by first | assumption | exact Ne.symm (by assumption))) | (with_reducible apply Same.get (by assumption))); done)))
  | ((with_reducible apply q_append); (focus ((repeat first | (with_reducible exact upd_same) | (with_reducible assumption) | (with_reducible apply upd_new (by assumption)) | (with_reducible apply upd_other (by first | assumption | exact Ne.symm (by assumption))) | (with_reducible refine' Kp.get (by assumption) ?_ (by first | assumption | exact Ne.symm (by assumption))) | (with_reducible apply Same.get (by assumption))); done)); (focus ((first | (exact Nat.lt_of_ble_eq_true rfl) | (simp only [List.length_append, List.length_cons, List.length_nil, List.length_map]; exact small1000 (by omega))))))
  | ((with_reducible apply q_setL); (focus ((repeat first | (with_reducible exact upd_same) | (with_reducible assumption) | (with_reducible apply upd_new (by assumption)) | (with_reducible apply upd_other (by first | assumption | exact Ne.symm (by assumption))) | (with_reducible refine' Kp.get (by assumption) ?_ (by first | assumption | exact Ne.symm (by assumption))) | (with_reducible apply Same.get (by assumption))); done)); (focus (exact rfl)))
  | with_reducible refine q_ifNT ?_
  | with_reducible refine q_ifNF ?_
  | with_reducible refine q_andNT ?_
  | with_reducible refine q_andNF ?_
  | with_reducible refine q_orNT ?_
  | with_reducible refine q_orNF ?_
  | with_reducible refine q_bKNT ?_
  | with_reducible refine q_bKNF ?_
  | with_reducible refine q_tNGet ?_
  | with_reducible refine q_tNIn ?_
  | with_reducible refine q_sNPut ?_
  | with_reducible refine q_sFldAug ?_
  | with_reducible refine q_sDAug ?_
  | with_reducible refine q_sDDel ?_
  | with_reducible refine q_forX ?_
  | with_reducible refine q_tMake ?_
  | ((with_reducible apply q_dG1a); (focus ((repeat first | (with_reducible exact upd_same) | (with_reducible assumption) | (with_reducible apply upd_new (by assumption)) | (with_reducible apply upd_other (by first | assumption | exact Ne.symm (by assumption))) | (with_reducible refine' Kp.get (by assumption) ?_ (by first | assumption | exact Ne.symm (by assumption))) | (with_reducible apply Same.get (by assumption))); done)))))
open TL
/-! a tuple's parts -/
theorem drop_step {xs : List V} {i : Nat} {x : V} (hi : i < xs.length) (hx : xs[xs.length - 1 - i]? = some x) : xs.drop (xs.length - (i + 1)) = x :: xs.drop (xs.length - i) := by
  have h1 : xs.length - (i + 1) < xs.length := by omega
  rw [List.drop_eq_getElem_cons h1, show xs.length - (i + 1) + 1 = xs.length - i by omega]
  congr 1
  have : xs[xs.length - (i + 1)]? = some x := by rw [← hx]; congr 1; omega
  exact (List.getElem?_eq_some_iff.mp this).2
section
variable {P : Program} {w : World} {K : PySem.W.Frag} {mg : Str → Option Value} {base : Heap}
theorem ok_parted (T : Txt K mg) : FnOk P w K mg base CX0 1 T.f_parted T.d_parted ["parts"] sp_parted := by
  refine T.F_parted.ok sc_parted (fun vs H Q E h => ?_) (fun cdv A outer s H vs Q E hr h => ?_)
  · obtain ⟨b, xs, rfl, _⟩ := h; rfl
  · obtain ⟨b, xs, rfl, hb, hl, k⟩ := h
    refine ⟨_, (pss_cons (ps_set (i := 1) sc_parted.nd rfl (Or.inl rfl) (pe_lst pa_nil))
      (pss_cons (ps_for PassesOwn.never rfl (RT.pi_revA (by rfl) T.z_reversed (pv 0)) (pg_name (i := 2) sc_parted.nd rfl (Or.inl rfl))
        (pss_cons (ps_if (pt_truth (pv 1) (by intro _; rfl)) (pss_one (ps_expr (pe_bm PySem.F.plainAttrs_list PySem.F.slot_list_append PySem.F.type_list_append mt_append (pv 1) (pa_cons (pe_tup (pa_cons pe_str (pa_cons pe_bl pa_nil))) pa_nil)))) pss_nil)
      (pss_one (ps_expr (pe_bm PySem.F.plainAttrs_list PySem.F.slot_list_append PySem.F.type_list_append mt_append (pv 1) (pa_cons (pe_tup (pa_cons (pv 2) (pa_cons pe_bl pa_nil))) pa_nil))))))
      (pss_one (ps_ret (pv 1))))), ?_⟩
    (dsimp only [cxOf, Cx.nox, Cx.wish, L2.start, List.map, List.length, List.replicate, List.cons_append, List.nil_append, List.append_eq, Nat.reduceSub, Nat.reduceAdd])
    walk_at "my_rd"
    refine q_lstK (Nat.le_of_ble_eq_true rfl) fun p np => ?_
    walk_at "my_rd"
    have np' := np
    have hb0 := upd_new (w := .lst []) np hb
    have sm0 : Same H (upd H p (.lst [])) := Same.up (Same.refl _) np
    have hp0 : upd H p (.lst []) p = some (.lst []) := upd_same
    generalize upd H p (.lst []) = H0 at hb0 sm0 hp0
    unfold RT.iRevA
    refine q_var (v := .ref b) rfl ⟨b, xs, rfl, .inr ⟨sqT hb0, ?_⟩⟩
    refine for_it walk_revT (fun i σ H' => ∃ (ys : List V) (v : Option V), σ = [some (.ref b), some (.ref p), v] ∧ Same H H' ∧ H' p = some (.lst ys) ∧ RowsAt pB H' ys (pr (xs.drop (xs.length - i))).reverse)
      ⟨[], _, rfl, sm0, hp0, by rw [Nat.sub_zero, List.drop_length]; exact .nil⟩ (fun i σ H' _ ⟨_, _, _, sm, _⟩ => sqT (sm _ _ hb)) ?_ ?_
    · rintro i x σ H' H2 hi ⟨ys, v, rfl, sm, hp, hR⟩ ⟨rfl, hx⟩
      have hd := drop_step hi hx
      have hlen : ys.length ≤ 2 * i := by
        have h1 := hR.len
        have h2 := pr_len (xs.drop (xs.length - i))
        rw [List.length_reverse] at h1
        rw [List.length_drop] at h2
        omega
      have hsl : sizeLine = 16777216 := sizeLine_eq
      walk_at "my_rd"
      refine ⟨_, .inl ⟨_, sqL hp, rfl⟩, ?_⟩
      rw [hd]
      generalize xs.drop (xs.length - i) = rest at hR hd
      cases hys : ys with
      | nil =>
        subst hys
        have hrest : rest = [] := by
          have h1 := hR.len
          cases rest with
          | nil => rfl
          | cons a r => simp [pr] at h1
        subst hrest
        refine q_ifF ?_
        walk_at "my_rd"
        refine q_tupK (Nat.le_of_ble_eq_true rfl) fun t nt => ?_
        walk_at "my_rd"
        have tp : t ≠ p := (ne_of_none hp nt).symm
        exact ⟨_, _, rfl, Same.new (Same.up sm nt) np', upd_same, RowsAt.snoc (rs := []) .nil (upd_other tp upd_same)⟩
      | cons y0 yr =>
        have hne : rest ≠ [] := by
          intro e
          subst e
          have h1 := hR.len
          rw [hys] at h1
          simp [pr] at h1
        have eP : (pr (x :: rest)).reverse = ((pr rest).reverse ++ [(.str ",", true)]) ++ [(x, false)] := by
          show ((x, false) :: prT rest).reverse = _
          rw [prT_eq, if_neg hne, List.reverse_cons, List.reverse_cons]
        rw [eP]
        rw [← hys]
        rw [← hys] at hys
        have e1 : (!ys.isEmpty) = true := by
          have h1 := hR.len
          cases ys with
          | nil =>
            rw [List.length_reverse] at h1
            cases rest with
            | nil => exact absurd rfl hne
            | cons a r => simp [pr] at h1
          | cons _ _ => rfl
        rw [e1]
        refine q_ifT ?_
        walk_at "my_rd"
        refine q_tupK (Nat.le_of_ble_eq_true rfl) fun t nt => ?_
        walk_at "my_rd"
        have tp : t ≠ p := (ne_of_none hp nt).symm
        refine q_append (upd_new nt hp) (by omega) ?_
        have sm1 : Same H (upd (upd H2 t (.tup [.str ",", .bl true])) p (.lst (ys ++ [.ref t]))) := Same.new (Same.up sm nt) np'
        have hp1 : upd (upd H2 t (.tup [.str ",", .bl true])) p (.lst (ys ++ [.ref t])) p = some (.lst (ys ++ [.ref t])) := upd_same
        have hR1 : RowsAt pB (upd (upd H2 t (.tup [.str ",", .bl true])) p (.lst (ys ++ [.ref t]))) (ys ++ [.ref t]) ((pr rest).reverse ++ [(.str ",", true)]) :=
          RowsAt.snoc (hR.mono fun b ys q => upd_other (ne_of q hp (by intro z; cases z)) (upd_new nt q)) (upd_other tp upd_same)
        generalize upd (upd H2 t (.tup [.str ",", .bl true])) p (.lst (ys ++ [.ref t])) = H3 at sm1 hp1 hR1
        walk_at "my_rd"
        refine q_tupK (Nat.le_of_ble_eq_true rfl) fun u nu => ?_
        walk_at "my_rd"
        have up : u ≠ p := (ne_of_none hp1 nu).symm
        refine q_append (upd_new nu hp1) (by rw [List.length_append]; show ys.length + 1 < _; omega) ?_
        walk_at "my_rd"
        exact ⟨_, _, rfl, Same.new (Same.up sm1 nu) np', upd_same, RowsAt.snoc (hR1.mono fun b ys q => upd_other (ne_of q hp1 (by intro z; cases z)) (upd_new nu q)) (upd_other up upd_same)⟩
    · rintro σ H' ⟨ys, v, rfl, sm, hp, hR⟩
      rw [Nat.sub_self, List.drop_zero] at hR
      walk_at "my_rd"
      exact k p H' ys np' sm hp hR
end

local macro_rules | `(tactic| walk_at "my_rd") => `(tactic| (repeat first
  | with_reducible refine q_tCons ?_
  | ((with_reducible apply q_var); (focus (exact rfl)))
  | with_reducible refine q_c ?_
  | with_reducible refine q_nx ?_
  | with_reducible refine q_bK ?_
  | with_reducible refine q_call ?_
  | with_reducible refine q_callK ?_
  | with_reducible refine q_tNil ?_
  | with_reducible refine q_cb ?_
  | with_reducible refine q_seq ?_
  | with_reducible refine q_asg ?_
  | with_reducible refine q_gName ?_
  | with_reducible refine q_op ?_
  | with_reducible refine q_test ?_
  | with_reducible refine q_tB ?_
  | with_reducible refine q_ifS ?_
  | with_reducible refine q_ret ?_
  | with_reducible refine q_rt ?_
  | with_reducible refine q_next ?_
  | with_reducible refine q_ifF ?_
  | with_reducible refine q_ifT ?_
  | with_reducible refine q_drop ?_
  | with_reducible refine q_and ?_
  | with_reducible refine q_or ?_
  | with_reducible refine q_andT ?_
  | with_reducible refine q_andF ?_
  | with_reducible refine q_orF ?_
  | with_reducible refine q_orT ?_
  | with_reducible refine q_andV ?_
  | with_reducible refine q_andVT ?_
  | with_reducible refine q_andVF ?_
  | with_reducible refine q_orV ?_
  | with_reducible refine q_gCons ?_
  | with_reducible refine q_gNil ?_
  | with_reducible refine q_tup ?_
  | with_reducible refine q_lst ?_
  | with_reducible refine q_not ?_
  | with_reducible refine q_notKT ?_
  | with_reducible refine q_notKF ?_
  | with_reducible refine q_I0 ?_
  | with_reducible refine q_eqI ?_
  | with_reducible refine q_neI ?_
  | ((with_reducible refine q_I ?_ ?_); first | decide | omega | exact ⟨by omega, by omega⟩ | exact ⟨by decide, by decide⟩ | exact .inl ⟨by omega, by omega⟩ | exact .inr ⟨by omega, by omega⟩ | exact .inr ⟨by decide, by decide⟩)
  | with_reducible refine q_eqS ?_
  | with_reducible refine q_neS ?_
  | with_reducible refine q_brk ?_
  | with_reducible refine q_ct ?_
  | with_reducible refine q_bk ?_
  | with_reducible refine q_cn ?_
  | with_reducible refine q_retN ?_
  | with_reducible refine q_gSub ?_
  | with_reducible refine q_for ?_
  | with_reducible refine q_iList ?_
  | with_reducible refine q_iTup ?_
  | with_reducible refine q_iRng1 ?_
  | with_reducible refine q_notK ?_
  | with_reducible refine q_orVT ?_
  | with_reducible refine q_orVF ?_
  | with_reducible refine q_notV ?_
  | with_reducible refine q_notVK ?_
  | with_reducible refine q_ifE ?_
  | with_reducible refine q_ifET ?_
  | with_reducible refine q_ifEF ?_
  | with_reducible refine q_yes ?_
  | with_reducible refine q_un ?_
  | with_reducible refine q_rU ?_
  | with_reducible refine q_abs ?_
  | with_reducible refine q_int1 ?_
  | with_reducible refine q_bm ?_
  | with_reducible refine q_bm0 ?_
  | with_reducible refine q_lc ?_
  | with_reducible refine q_keepT ?_
  | with_reducible refine q_keepF ?_
  | ((with_reducible apply q_aug); (focus (exact rfl)))
  | with_reducible refine q_ipI ?_
  | with_reducible refine q_chain ?_
  | with_reducible refine q_pairC ?_
  | with_reducible refine q_pairsK ?_
  | with_reducible refine q_pairN ?_
  | with_reducible refine q_fld ?_
  | with_reducible refine q_sFld ?_
  | with_reducible refine q_meth ?_
  | with_reducible refine q_makeK ?_
  | with_reducible refine q_isBl ?_
  | with_reducible refine q_notBl ?_
  | with_reducible refine q_sl ?_
  | with_reducible refine q_noPart ?_
  | with_reducible refine q_part ?_
  | with_reducible refine q_partK ?_
  | ((with_reducible apply q_mulStr); (focus (decide +kernel)))
  | with_reducible refine q_chT ?_
  | with_reducible refine q_chF ?_
  | with_reducible refine q_ord ?_
  | with_reducible refine q_iStr0 ?_
  | with_reducible refine q_iStr ?_
  | with_reducible refine q_tDIn ?_
  | with_reducible refine q_tDNotIn ?_
  | with_reducible refine q_tDGet ?_
  | with_reducible refine q_tDGet2 ?_
  | with_reducible refine q_tDGet1 ?_
  | with_reducible refine q_tDSetd ?_
  | ((with_reducible apply q_dG2a); (focus ((repeat first | (with_reducible exact upd_same) | (with_reducible assumption) | (with_reducible apply upd_new (by assumption)) | (with_reducible apply upd_other (by first | assumption | exact Ne.symm (by assumption))) | (with_reducible refine' Kp.get (by assumption) ?_ (by first | assumption | exact Ne.symm (by assumption))) | (with_reducible apply Same.get (by assumption))); done)))
  | ((with_reducible apply q_dSda); (focus ((repeat first | (with_reducible exact upd_same) | (with_reducible assumption) | (with_reducible apply upd_new (by assumption)) | (with_reducible apply upd_other (by first | assumption | exact Ne.symm (by assumption))) | (with_reducible refine' Kp.get (by assumption) ?_ (by first | assumption | exact Ne.symm (by assumption))) | (with_reducible apply Same.get (by assumption))); done)))
  | with_reducible refine q_sDPut ?_
  | ((with_reducible apply q_dInS); (focus ((repeat first | (with_reducible exact upd_same) | (with_reducible assumption) | (with_reducible apply upd_new (by assumption)) | (with_reducible apply upd_other (by first | assumption | exact Ne.symm (by assumption))) | (with_reducible refine' Kp.get (by assumption) ?_ (by first | assumption | exact Ne.symm (by assumption))) | (with_reducible apply Same.get (by assumption))); done)))
  | ((with_reducible apply q_dNInS); (focus ((repeat first | (with_reducible exact upd_same) | (with_reducible assumption) | (with_reducible apply upd_new (by assumption)) | (with_reducible apply upd_other (by first | assumption | exact Ne.symm (by assumption))) | (with_reducible refine' Kp.get (by assumption) ?_ (by first | assumption | exact Ne.symm (by assumption))) | (with_reducible apply Same.get (by assumption))); done)))
  | ((with_reducible apply q_dInI); (focus ((repeat first | (with_reducible exact upd_same) | (with_reducible assumption) | (with_reducible apply upd_new (by assumption)) | (with_reducible apply upd_other (by first | assumption | exact Ne.symm (by assumption))) | (with_reducible refine' Kp.get (by assumption) ?_ (by first | assumption | exact Ne.symm (by assumption))) | (with_reducible apply Same.get (by assumption))); done)))
  | ((with_reducible apply q_dNInI); (focus ((repeat first | (with_reducible exact upd_same) | (with_reducible assumption) | (with_reducible apply upd_new (by assumption)) | (with_reducible apply upd_other (by first | assumption | exact Ne.symm (by assumption))) | (with_reducible refine' Kp.get (by assumption) ?_ (by first | assumption | exact Ne.symm (by assumption))) | (with_reducible apply Same.get (by assumption))); done)))
  | ((with_reducible apply q_bmL); (focus ((repeat first | (with_reducible exact upd_same) | (with_reducible assumption) | (with_reducible apply upd_new (by assumption)) | (with_reducible apply upd_other (by first | assumption | exact Ne.symm (by assumption))) | (with_reducible refine' Kp.get (by assumption) ?_ (by first | assumption | exact Ne.symm (by assumption))) | (with_reducible apply Same.get (by assumption))); done)))
  | ((with_reducible apply q_bmL0); (focus ((repeat first | (with_reducible exact upd_same) | (with_reducible assumption) | (with_reducible apply upd_new (by assumption)) | (with_reducible apply upd_other (by first | assumption | exact Ne.symm (by assumption))) | (with_reducible refine' Kp.get (by assumption) ?_ (by first | assumption | exact Ne.symm (by assumption))) | (with_reducible apply Same.get (by assumption))); done)))
  | ((with_reducible apply q_ixLt); (focus ((repeat first | (with_reducible exact upd_same) | (with_reducible assumption) | (with_reducible apply upd_new (by assumption)) | (with_reducible apply upd_other (by first | assumption | exact Ne.symm (by assumption))) | (with_reducible refine' Kp.get (by assumption) ?_ (by first | assumption | exact Ne.symm (by assumption))) | (with_reducible apply Same.get (by assumption))); done)); (focus (exact rfl)))
  | ((with_reducible apply q_ixTt); (focus ((repeat first | (with_reducible exact upd_same) | (with_reducible assumption) | (with_reducible apply upd_new (by assumption)) | (with_reducible apply upd_other (by first | assumption | exact Ne.symm (by assumption))) | (with_reducible refine' Kp.get (by assumption) ?_ (by first | assumption | exact Ne.symm (by assumption))) | (with_reducible apply Same.get (by assumption))); done)); (focus (exact rfl)))
  | ((with_reducible apply q_lenLt); (focus ((repeat first | (with_reducible exact upd_same) | (with_reducible assumption) | (with_reducible apply upd_new (by assumption)) | (with_reducible apply upd_other (by first | assumption | exact Ne.symm (by assumption))) | (with_reducible refine' Kp.get (by assumption) ?_ (by first | assumption | exact Ne.symm (by assumption))) | (with_reducible apply Same.get (by assumption))); done)))
  | ((with_reducible apply q_lenTt); (focus ((repeat first | (with_reducible exact upd_same) | (with_reducible assumption) | (with_reducible apply upd_new (by assumption)) | (with_reducible apply upd_other (by first | assumption | exact Ne.symm (by assumption))) | (with_reducible refine' Kp.get (by assumption) ?_ (by first | assumption | exact Ne.symm (by assumption))) | (with_reducible apply Same.get (by assumption))); done)))
  | ((with_reducible apply q_append); (focus ((repeat first | (with_reducible exact upd_same) | (with_reducible assumption) | (with_reducible apply upd_new (by assumption)) | (with_reducible apply upd_other (by first | assumption | exact Ne.symm (by assumption))) | (with_reducible refine' Kp.get (by assumption) ?_ (by first | assumption | exact Ne.symm (by assumption))) | (with_reducible apply Same.get (by assumption))); done)); (focus ((first | (exact Nat.lt_of_ble_eq_true rfl) | (simp only [List.length_append, List.length_cons, List.length_nil, List.length_map]; exact small1000 (by omega))))))
  | ((with_reducible apply q_setL); (focus ((repeat first | (with_reducible exact upd_same) | (with_reducible assumption) | (with_reducible apply upd_new (by assumption)) | (with_reducible apply upd_other (by first | assumption | exact Ne.symm (by assumption))) | (with_reducible refine' Kp.get (by assumption) ?_ (by first | assumption | exact Ne.symm (by assumption))) | (with_reducible apply Same.get (by assumption))); done)); (focus (exact rfl)))
  | with_reducible refine q_ifNT ?_
  | with_reducible refine q_ifNF ?_
  | with_reducible refine q_andNT ?_
  | with_reducible refine q_andNF ?_
  | with_reducible refine q_orNT ?_
  | with_reducible refine q_orNF ?_
  | with_reducible refine q_bKNT ?_
  | with_reducible refine q_bKNF ?_
  | with_reducible refine q_tNGet ?_
  | with_reducible refine q_tNIn ?_
  | with_reducible refine q_sNPut ?_
  | with_reducible refine q_sFldAug ?_
  | with_reducible refine q_sDAug ?_
  | with_reducible refine q_sDDel ?_
  | with_reducible refine q_forX ?_
  | with_reducible refine q_tMake ?_
  | ((with_reducible apply q_dG1a); (focus ((repeat first | (with_reducible exact upd_same) | (with_reducible assumption) | (with_reducible apply upd_new (by assumption)) | (with_reducible apply upd_other (by first | assumption | exact Ne.symm (by assumption))) | (with_reducible refine' Kp.get (by assumption) ?_ (by first | assumption | exact Ne.symm (by assumption))) | (with_reducible apply Same.get (by assumption))); done)))))
/-! the law's own comparison: plain values, and lists of them -/
def scV : V → Bool
  | .non => true
  | .bl _ => true
  | .int _ => true
  | .str _ => true
  | _ => false
theorem scV_ty {K : PySem.W.Frag} {H : Hp} {x : V} (h : scV x = true) : (x = .non ∧ TyX K H x (.type "NoneType")) ∨ (∃ b, x = .bl b ∧ TyX K H x (.type "bool")) ∨ (∃ i, x = .int i ∧ TyX K H x (.type "int")) ∨ (∃ s, x = .str s ∧ TyX K H x (.type "str")) := by
  cases x with
  | non => exact .inl ⟨rfl, .base .non⟩
  | bl b => exact .inr (.inl ⟨b, rfl, .base (.bl b)⟩)
  | int i => exact .inr (.inr (.inl ⟨i, rfl, .base (.int i)⟩))
  | str s => exact .inr (.inr (.inr ⟨s, rfl, .base (.str s)⟩))
  | byt => cases h
  | flt => cases h
  | ref => cases h
  | ty => cases h
theorem q_is {K : PySem.W.Frag} {H : Hp} {Q : VK} {x : V} {t : String} {n : String} {b : Bool} (ht : TyX K H x (.type t)) (hk : kitB t n = some b) (k : Q (.bl b) H) : rIsi K [x, .ty n] H Q := q_isi ht (kit_ty hk) k

open TL
/-! write -/
theorem joinL_nil (ps : List (List Nat)) : joinL [] ps = ps.flatten := by
  induction ps with
  | nil => rfl
  | cons p r ih =>
    cases r with
    | nil => show p = [p].flatten; simp
    | cons q r =>
      show p ++ ([] ++ joinL [] (q :: r)) = (p :: q :: r).flatten
      rw [List.nil_append, ih]
      rfl
theorem sum_len (ws : List Str) : (ws.map (·.length)).sum = ((ws.map tl).flatten).length := by
  induction ws with
  | nil => rfl
  | cons w r ih => rw [List.map_cons, List.sum_cons, List.map_cons, List.flatten_cons, List.length_append, ih]; rfl
theorem RowsAt.unsnoc {α : Type} {f : α → List V} {H : Hp} {xs : List V} {rs : List α} {r : α} (h : RowsAt f H xs (rs ++ [r])) : ∃ ys c, xs = ys ++ [.ref c] ∧ H c = some (.tup (f r)) ∧ RowsAt f H ys rs := by
  have hl := h.len
  rw [List.length_append] at hl
  obtain ⟨c, h1, h2⟩ := h.at_ rs.length r (by rw [List.getElem?_append_right (Nat.le_refl _), Nat.sub_self]; rfl)
  have hn : rs.length < xs.length := by simp at hl; omega
  refine ⟨xs.take rs.length, c, ?_, h2, ⟨by rw [List.length_take]; omega, fun i r' hr => ?_⟩⟩
  · have e : xs.drop rs.length = [.ref c] := by
      rw [List.drop_eq_getElem_cons hn, List.drop_eq_nil_of_le (by simp at hl; omega)]
      rw [List.getElem?_eq_getElem hn] at h1
      rw [Option.some.inj h1]
    rw [← e, List.take_append_drop]
  · have hi : i < rs.length := (List.getElem?_eq_some_iff.mp hr).1
    obtain ⟨a, h3, h4⟩ := h.at_ i r' (by rw [List.getElem?_append_left hi]; exact hr)
    exact ⟨a, by rw [List.getElem?_take, if_pos hi]; exact h3, h4⟩
theorem RowsAt.app {α : Type} {f : α → List V} {H : Hp} {xs ys : List V} {rs ss : List α} (h : RowsAt f H xs rs) (g : RowsAt f H ys ss) : RowsAt f H (xs ++ ys) (rs ++ ss) := by
  refine ⟨by rw [List.length_append, List.length_append, h.len, g.len], fun i r hr => ?_⟩
  by_cases hi : i < rs.length
  · rw [List.getElem?_append_left hi] at hr
    rw [List.getElem?_append_left (by rw [h.len]; exact hi)]
    exact h.at_ i r hr
  · rw [List.getElem?_append_right (by omega)] at hr
    rw [List.getElem?_append_right (by rw [h.len]; omega), h.len]
    exact g.at_ _ r hr
theorem NVs.len {H : Hp} : ∀ {ks : List NestedKey} {vs : List V}, NVs H ks vs → vs.length ≤ sizs ks
  | _, _, .nil => Nat.le_refl _
  | _, _, .cons (k := k) (ks := ks) (vs := vs) a b => by
    have := NVs.len b
    show vs.length + 1 ≤ siz k + 1 + sizs ks
    omega
section
variable {P : Program} {w : World} {K : PySem.W.Frag} {mg : Str → Option Value} {base : Heap}
theorem NV.tupOf {H : Hp} {k : NestedKey} {b : Addr} (h : NV H k (.ref b)) : ∃ ks vs, k = .tup ks ∧ H b = some (.tup vs) ∧ NVs H ks vs := by
  cases h with
  | tup h1 h2 => exact ⟨_, _, rfl, h1, h2⟩
set_option maxHeartbeats 0 in
theorem ok_write (T : Txt K mg) : FnOk P w K mg base CX0 3 T.f_write T.d_write ["value"] (sp_write K) := by
  refine T.F_write.ok sc_write (fun vs H Q E h => ?_) (fun cdv A outer s H vs Q E hr h => ?_)
  · obtain ⟨v, k, rfl, _⟩ := h; rfl
  · obtain ⟨v, kk, rfl, hV, hiv, hsm, hlen, hsz, k⟩ := h
    have hsl : sizeLine = 16777216 := sizeLine_eq
    refine ⟨_, (pss_cons (ps_set (i := 1) sc_write.nd rfl (Or.inl rfl) (pe_lst pa_nil))
      (pss_cons (ps_set (i := 2) sc_write.nd rfl (Or.inl rfl) (pe_lst (pa_cons (pe_tup (pa_cons (pv 0) (pa_cons pe_bl pa_nil))) pa_nil)))
      (pss_cons (ps_while PassesOwn.never (pt_truth (pv 2) (by intro _; rfl)) (pss_cons (ps_asg (pe_bm0 PySem.F.plainAttrs_list PySem.F.slot_list_pop PySem.F.type_list_pop mt_pop (pv 2)) (pg_tup rfl (pgs_cons (pg_name (i := 3) sc_write.nd rfl (Or.inl rfl)) (pgs_cons (pg_name (i := 4) sc_write.nd rfl (Or.inl rfl)) pgs_nil))))
      (pss_one (ps_if (pt_val (pv 4)) (pss_one (ps_expr (pe_bm PySem.F.plainAttrs_list PySem.F.slot_list_append PySem.F.type_list_append mt_append (pv 1) (pa_cons (pv 3) pa_nil)))) (pss_one (ps_if (pt_val (pe_callB call_isi (by rfl) T.z_isinstance boot_isinstance (pa_cons (pv 3) (pa_cons (pe_bltn (v := .ty "tuple") (by rfl) T.z_tuple boot_tuple rfl) pa_nil)))) (pss_cons (ps_expr (pe_bm PySem.F.plainAttrs_list PySem.F.slot_list_append PySem.F.type_list_append mt_append (pv 1) (pa_cons pe_str pa_nil)))
      (pss_cons (ps_expr (pe_bm PySem.F.plainAttrs_list PySem.F.slot_list_append PySem.F.type_list_append mt_append (pv 2) (pa_cons (pe_tup (pa_cons pe_str (pa_cons pe_bl pa_nil))) pa_nil)))
      (pss_one (ps_expr (pe_bm PySem.F.plainAttrs_list PySem.F.slot_list_extend PySem.F.type_list_extend mt_extend (pv 2) (pa_cons (pe_call (ok_parted T) (hr.mono (by decide)) (by rfl) T.g_parted T.F_parted.kp T.b_parted .nil pass0 (pa_cons (pv 3) pa_nil)) pa_nil)))))) (pss_one (ps_if (pt_val (pe_callB call_isi (by rfl) T.z_isinstance boot_isinstance (pa_cons (pv 3) (pa_cons (pe_bltn (v := .ty "str") (by rfl) T.z_str boot_str rfl) pa_nil)))) (pss_one (ps_expr (pe_bm PySem.F.plainAttrs_list PySem.F.slot_list_append PySem.F.type_list_append mt_append (pv 1) (pa_cons (pe_joined (.cons (pe_fmt (pe_callB cq_lenS (by rfl) T.z_len boot_len (pa_cons (pv 3) pa_nil))) (.cons pe_str (.cons (pe_fmt (pv 3)) .nil)))) pa_nil)))) (pss_one (ps_expr (pe_bm PySem.F.plainAttrs_list PySem.F.slot_list_append PySem.F.type_list_append mt_append (pv 1) (pa_cons (pe_call (ok_written_integer T) (hr.mono (by decide)) (by rfl) T.g_written_integer T.F_written_integer.kp T.b_written_integer .nil pass0 (pa_cons (pv 3) pa_nil)) pa_nil))))))))))))
      (pss_one (ps_ret (pe_join pe_str (pv 1))))))), ?_⟩
    (dsimp only [cxOf, Cx.nox, Cx.wish, L2.start, List.map, List.length, List.replicate, List.cons_append, List.nil_append, List.append_eq, Nat.reduceSub, Nat.reduceAdd])
    walk_at "my_rd"
    refine q_lstK (Nat.le_of_ble_eq_true rfl) fun wr nwr => ?_
    walk_at "my_rd"
    refine q_tupK (Nat.le_of_ble_eq_true rfl) fun t nt => ?_
    walk_at "my_rd"
    refine q_lstK (Nat.le_of_ble_eq_true rfl) fun l nl => ?_
    have nwr0 := nwr
    have nl0 : H l = none := upd_none_back (upd_none_back nl)
    have lw : l ≠ wr := by
      intro e
      rw [e, upd_new nt upd_same] at nl
      cases nl
    have smA : Same H (upd (upd (upd H wr (.lst [])) t (.tup [v, .bl false])) l (.lst [.ref t])) := Same.new (Same.up (Same.new (Same.refl _) nwr) nt) nl0
    have hw0 : upd (upd (upd H wr (.lst [])) t (.tup [v, .bl false])) l (.lst [.ref t]) wr = some (.lst (([] : List Str).map V.str)) := upd_other lw.symm (upd_new nt upd_same)
    have hl0 : upd (upd (upd H wr (.lst [])) t (.tup [v, .bl false])) l (.lst [.ref t]) l = some (.lst [.ref t]) := upd_same
    have htl : t ≠ l := by
      intro e
      rw [← e, upd_same] at nl
      cases nl
    have hR0 : RowsAt pB (upd (upd (upd H wr (.lst [])) t (.tup [v, .bl false])) l (.lst [.ref t])) [.ref t] [(v, false)] := RowsAt.snoc (xs := []) (rs := []) .nil (upd_other htl upd_same)
    generalize upd (upd (upd H wr (.lst [])) t (.tup [v, .bl false])) l (.lst [.ref t]) = H0 at smA hw0 hl0 hR0
    walk_at "my_rd"
    have hO0 : OutN H0 (0 + siz kk) [(v, false)] (wrL kk ++ []) := .val .nil (NV.mono (fun b ys q => smA _ _ q) hV) hiv hsm
    refine q_while (fun m σ H' => ∃ (ws : List Str) (xs : List V) (M : List (V × Bool)) (o : List Nat) (v3 v4 : Option V), σ = [some v, some (.ref wr), some (.ref l), v3, v4] ∧ Same H H' ∧ H' wr = some (.lst (ws.map V.str)) ∧ H' l = some (.lst xs) ∧
      RowsAt pB H' xs M.reverse ∧ OutN H' m M o ∧ (ws.map tl).flatten ++ o = wrL kk ∧ m ≤ 1000000 ∧ ws.length + m ≤ 1000000) (m0 := siz kk)
      ⟨[], _, [(v, false)], wrL kk, _, _, rfl, smA, hw0, hl0, hR0, by rw [Nat.zero_add, List.append_nil] at hO0; exact hO0, rfl, hsz, by show 0 + _ ≤ _; omega⟩ ?_
    clear hO0 hR0 hl0 hw0 smA
    rintro m σ H' ⟨ws, xs, M, o, v3, v4, rfl, sm, hw, hl, hR, hO, ho, hm, hws⟩
    walk_at "my_rd"
    refine ⟨_, .inl ⟨_, sqL hl, rfl⟩, ?_⟩
    have hxl := hR.len
    rw [List.length_reverse] at hxl
    have hMl := hO.len
    cases M with
    | nil =>
      have hx : xs = [] := by
        cases xs with
        | nil => rfl
        | cons _ _ => simp at hxl
      subst hx
      cases hO
      refine q_whF ?_
      walk_at "my_rd"
      unfold tM1
      refine q_c ⟨⟨_, rfl⟩, ?_⟩
      walk_at "my_rd"
      rw [List.append_nil] at ho
      refine ⟨_, wr, ws, rfl, rfl, .inl (sqL hw), ?_, ?_⟩
      · rw [sum_len, ho]
        show _ + ws.length * 0 ≤ _
        omega
      · have e : Txt.join (Str.ofString "") ws = strL (wrL kk) := tl_inj (by rw [tl_strL, ← ho]; rw [join_eq, tl_join]; exact joinL_nil _)
        rw [e]
        exact k _ sm
    | cons q M =>
      have hx : (!xs.isEmpty) = true := by
        cases xs with
        | nil => simp at hxl
        | cons _ _ => rfl
      rw [hx]
      rw [List.reverse_cons] at hR
      obtain ⟨ys, c, rfl, hc, hRy⟩ := hR.unsnoc
      refine q_whT ?_
      walk_at "my_rd"
      refine ⟨l, _, .ref c, rfl, rfl, hl, by rw [List.length_append]; show (ys ++ [V.ref c])[ys.length + 1 - 1]? = _; rw [Nat.add_sub_cancel, List.getElem?_append_right (Nat.le_refl _), Nat.sub_self]; rfl, ?_⟩
      rw [List.dropLast_concat]
      have ncl : c ≠ l := ne_of hc hl (by intro z; cases z)
      have nwl : wr ≠ l := lw.symm
      have tpl : ∀ b zs, H' b = some (.tup zs) → upd H' l (.lst ys) b = some (.tup zs) := fun b zs q => upd_other (ne_of q hl (by intro z; cases z)) q
      have sm1 : Same H (upd H' l (.lst ys)) := Same.new sm nl0
      have hw1 : upd H' l (.lst ys) wr = some (.lst (ws.map V.str)) := upd_other nwl hw
      have hl1 : upd H' l (.lst ys) l = some (.lst ys) := upd_same
      have hc1 := tpl _ _ hc
      have hR1 := hRy.mono tpl
      have hO1 := hO.mono tpl
      have hyl : ys.length ≤ 1000000 := by rw [List.length_append] at hxl; have : (q :: M).length ≤ m := hMl; simp at hxl this; omega
      generalize upd H' l (.lst ys) = H1 at sm1 hw1 hl1 hc1 hR1 hO1
      clear hR hRy hl hw sm hO hc tpl hx hxl
      obtain ⟨qv, qb⟩ := q
      have hc1 : H1 c = some (.tup [qv, .bl qb]) := hc1
      refine q_gTup (sqT hc1) rfl ?_
      walk_at "my_rd"
      cases hO1 with
      | @sign m' M o' s hO2 =>
        refine q_ifT ?_
        walk_at "my_rd"
        have eM : ws.map V.str ++ [V.str s] = (ws ++ [s]).map V.str := by rw [List.map_append]; rfl
        refine q_append hw1 (by rw [List.length_map]; omega) ?_
        walk_at "my_rd"
        rw [eM]
        refine ⟨m', by omega, ws ++ [s], ys, M, o', _, _, rfl, Same.new sm1 nwr0, upd_same, upd_other lw hl1, hR1.mono fun b zs q => upd_other (ne_of q hw1 (by intro z; cases z)) q, hO2.mono fun b zs q => upd_other (ne_of q hw1 (by intro z; cases z)) q, ?_, by omega, by rw [List.length_append]; show ws.length + 1 + _ ≤ _; omega⟩
        rw [List.map_append, List.flatten_append, ← ho]
        show _ ++ [tl s].flatten ++ o' = _
        rw [List.flatten_cons, List.flatten_nil, List.append_nil, List.append_assoc]
      | @val m' M o' k1 v1 hO2 hn hv hs =>
        refine q_ifF ?_
        have hlk : (wrL k1).length ≤ 1000000 := by
          have := congrArg List.length ho
          rw [List.length_append, List.length_append] at this
          omega
        have fin : ∀ (s : Str), tl s = wrL k1 → 1 ≤ siz k1 → True := fun _ _ _ => trivial
        cases k1 with
        | none => cases hv
        | num i =>
          cases hn
          walk_at "my_rd"
          refine q_is (.base (.int i)) (b := false) (by decide +kernel) ?_
          walk_at "my_rd"
          refine q_is (.base (.int i)) (b := false) (by decide +kernel) ?_
          walk_at "my_rd"
          refine ⟨i, rfl, hs, ?_⟩
          walk_at "my_rd"
          have eM : ws.map V.str ++ [V.str (strL (intL i))] = (ws ++ [strL (intL i)]).map V.str := by rw [List.map_append]; rfl
          refine q_append hw1 (by rw [List.length_map]; omega) ?_
          walk_at "my_rd"
          rw [eM]
          have e1 : siz (.num i) = 1 := rfl
          refine ⟨m', by omega, ws ++ [strL (intL i)], ys, M, o', _, _, rfl, Same.new sm1 nwr0, upd_same, upd_other lw hl1, hR1.mono fun b zs q => upd_other (ne_of q hw1 (by intro z; cases z)) q, hO2.mono fun b zs q => upd_other (ne_of q hw1 (by intro z; cases z)) q, ?_, by omega, by rw [List.length_append]; show ws.length + 1 + _ ≤ _; omega⟩
          rw [List.map_append, List.flatten_append, ← ho]
          show _ ++ [tl (strL (intL i))].flatten ++ o' = _ ++ (intL i ++ o')
          rw [List.flatten_cons, List.flatten_nil, List.append_nil, List.append_assoc, tl_strL]
        | text s =>
          cases hn
          walk_at "my_rd"
          refine q_is (.base (.str s)) (b := false) (by decide +kernel) ?_
          walk_at "my_rd"
          refine q_is (.base (.str s)) (b := true) (by decide +kernel) ?_
          walk_at "my_rd"
          have hsl2 : s.length ≤ 1000000 := by
            have e : (wrL (.text s)).length = (numL s.length).length + (1 + s.length) := by
              show (numL s.length ++ 58 :: tl s).length = _
              rw [List.length_append, List.length_cons, tl_len]
              omega
            omega
          have hnl : (numL s.length).length ≤ 1000000 := by
            have e : (wrL (.text s)).length = (numL s.length).length + (1 + s.length) := by
              show (numL s.length ++ 58 :: tl s).length = _
              rw [List.length_append, List.length_cons, tl_len]
              omega
            omega
          have eN : Str.ofString (toString (s.length : Int)) = strL (numL s.length) := tl_inj (tl_num _)
          have eW : ((Str.empty ++ strL (numL s.length)) ++ Str.ofString ":") ++ s = strL (wrL (.text s)) := tl_inj (by
            rw [tl_append, tl_append, tl_append, tl_strL, tl_strL]
            show (([] ++ numL s.length) ++ [58]) ++ tl s = numL s.length ++ 58 :: tl s
            rw [List.nil_append, List.append_assoc]
            rfl)
          have l1 : (Str.empty ++ strL (numL s.length)).length = (numL s.length).length := by
            rw [tl_len, tl_append]
            rfl
          have l2 : ((Str.empty ++ strL (numL s.length)) ++ Str.ofString ":").length = (numL s.length).length + 1 := by
            rw [tl_len, tl_append, List.length_append, ← tl_len, l1]
            rfl
          unfold tJs tFmt
          walk_at "my_rd"
          refine q_lenS (by omega) ?_
          refine .inr ⟨_, rfl, log_lt (Nat.lt_of_le_of_lt (show _ ≤ 1000000 from hsl2) (by decide +kernel)), ?_⟩
          rw [eN]
          refine ⟨_, rfl, by rw [l1]; omega, ?_⟩
          unfold tJs
          refine q_c ⟨_, rfl, by rw [l2]; omega, ?_⟩
          unfold tJs
          refine q_var rfl (.inl ⟨_, rfl, by omega, ?_⟩)
          refine ⟨_, rfl, by rw [eW]; show (wrL _).length ≤ _; omega, ?_⟩
          unfold tJs
          rw [eW]
          walk_at "my_rd"
          have eM : ws.map V.str ++ [V.str (strL (wrL (.text s)))] = (ws ++ [strL (wrL (.text s))]).map V.str := by rw [List.map_append]; rfl
          refine q_append hw1 (by rw [List.length_map]; omega) ?_
          walk_at "my_rd"
          rw [eM]
          have e1 : siz (.text s) = 1 := rfl
          refine ⟨m', by omega, ws ++ [strL (wrL (.text s))], ys, M, o', _, _, rfl, Same.new sm1 nwr0, upd_same, upd_other lw hl1, hR1.mono fun b zs q => upd_other (ne_of q hw1 (by intro z; cases z)) q, hO2.mono fun b zs q => upd_other (ne_of q hw1 (by intro z; cases z)) q, ?_, by omega, by rw [List.length_append]; show ws.length + 1 + _ ≤ _; omega⟩
          rw [List.map_append, List.flatten_append, ← ho]
          show _ ++ [tl (strL (wrL (.text s)))].flatten ++ o' = _
          rw [List.flatten_cons, List.flatten_nil, List.append_nil, List.append_assoc, tl_strL]
        | tup ks =>
          obtain ⟨ks', vs, e, hb, hns⟩ : ∃ ks' vs, NestedKey.tup ks = .tup ks' ∧ (∃ b, qv = .ref b ∧ H1 b = some (.tup vs)) ∧ NVs H1 ks' vs := by
            cases hn with
            | tup h1 h2 => exact ⟨_, _, rfl, ⟨_, rfl, h1⟩, h2⟩
          injection e with e
          subst e
          obtain ⟨b, rfl, hb⟩ := hb
          walk_at "my_rd"
          refine q_is (.base (.tup hb)) (b := true) (by decide +kernel) ?_
          walk_at "my_rd"
          refine q_append hw1 (by rw [List.length_map]; omega) ?_
          walk_at "my_rd"
          have eM : ws.map V.str ++ [V.str (Str.ofString "(")] = (ws ++ [Str.ofString "("]).map V.str := by rw [List.map_append]; rfl
          rw [eM]
          have tpw : ∀ b zs, H1 b = some (.tup zs) → upd H1 wr (.lst ((ws ++ [Str.ofString "("]).map V.str)) b = some (.tup zs) := fun b zs q => upd_other (ne_of q hw1 (by intro z; cases z)) q
          have sm2 : Same H (upd H1 wr (.lst ((ws ++ [Str.ofString "("]).map V.str))) := Same.new sm1 nwr0
          have hw2 : upd H1 wr (.lst ((ws ++ [Str.ofString "("]).map V.str)) wr = some (.lst ((ws ++ [Str.ofString "("]).map V.str)) := upd_same
          have hl2 : upd H1 wr (.lst ((ws ++ [Str.ofString "("]).map V.str)) l = some (.lst ys) := upd_other lw hl1
          have hb2 := tpw _ _ hb
          have hR2 := hR1.mono tpw
          have hO3 := hO2.mono tpw
          have hn2 := NVs.mono tpw hns
          generalize upd H1 wr (.lst ((ws ++ [Str.ofString "("]).map V.str)) = H2 at sm2 hw2 hl2 hb2 hR2 hO3 hn2
          clear sm1 hw1 hl1 hb hR1 hO2 hns tpw hn hc1
          refine q_tupK (Nat.le_of_ble_eq_true rfl) fun t2 nt2 => ?_
          walk_at "my_rd"
          have t2l : t2 ≠ l := (ne_of_none hl2 nt2).symm
          refine q_append (upd_new nt2 hl2) (by omega) ?_
          walk_at "my_rd"
          have tp2 : ∀ b zs, H2 b = some (.tup zs) → upd (upd H2 t2 (.tup [.str ")", .bl true])) l (.lst (ys ++ [.ref t2])) b = some (.tup zs) := fun b zs q => upd_other (ne_of q hl2 (by intro z; cases z)) (upd_new nt2 q)
          have sm3 : Same H (upd (upd H2 t2 (.tup [.str ")", .bl true])) l (.lst (ys ++ [.ref t2]))) := Same.new (Same.up sm2 nt2) nl0
          have hw3 : upd (upd H2 t2 (.tup [.str ")", .bl true])) l (.lst (ys ++ [.ref t2])) wr = some (.lst ((ws ++ [Str.ofString "("]).map V.str)) := upd_other nwl (upd_new nt2 hw2)
          have hl3 : upd (upd H2 t2 (.tup [.str ")", .bl true])) l (.lst (ys ++ [.ref t2])) l = some (.lst (ys ++ [.ref t2])) := upd_same
          have hb3 := tp2 _ _ hb2
          have hR3 : RowsAt pB (upd (upd H2 t2 (.tup [.str ")", .bl true])) l (.lst (ys ++ [.ref t2]))) (ys ++ [.ref t2]) (M.reverse ++ [(.str ")", true)]) := RowsAt.snoc (hR2.mono tp2) (upd_other t2l upd_same)
          have hO4 := hO3.mono tp2
          have hn3 := NVs.mono tp2 hn2
          generalize upd (upd H2 t2 (.tup [.str ")", .bl true])) l (.lst (ys ++ [.ref t2])) = H3 at sm3 hw3 hl3 hb3 hR3 hO4 hn3
          clear sm2 hw2 hl2 hb2 hR2 hO3 hn2 tp2 nt2
          have hvl := NVs.len hn3
          have e1 : siz (.tup ks) = 2 + sizs ks := rfl
          walk_at "my_rd"
          refine ⟨b, vs, rfl, hb3, by omega, fun p2 H4 zs np2 sm4 hp2 hRz => ?_⟩
          have hl4 := sm4 _ _ hl3
          have hzl : zs.length ≤ 2 * vs.length := by
            have h1 := hRz.len
            rw [List.length_reverse] at h1
            have := pr_len vs
            omega
          walk_at "my_rd"
          refine ⟨l, p2, _, zs, rfl, rfl, hl4, hp2, by rw [List.length_append]; show ys.length + 1 + _ ≤ _; omega, ?_⟩
          walk_at "my_rd"
          have tp4 : ∀ b zs', H4 b = some (.tup zs') → upd H4 l (.lst (ys ++ [.ref t2] ++ zs)) b = some (.tup zs') := fun b zs' q => upd_other (ne_of q hl4 (by intro z; cases z)) q
          have hO5 := OutN.sign (s := Str.ofString ")") (hO4.mono fun b zs' q => tp4 _ _ (sm4 _ _ q))
          have hn5 := NVs.mono (fun b zs' q => tp4 _ _ (sm4 _ _ q)) hn3
          obtain ⟨m2, hm2, hO6⟩ := outP hn5 hv hs hO5
          have hR5 := (hR3.mono fun b zs' q => tp4 _ _ (sm4 _ _ q)).app (hRz.mono tp4)
          have eR : M.reverse ++ [(V.str ")", true)] ++ (pr vs).reverse = (pr vs ++ ((.str (Str.ofString ")"), true) :: M)).reverse := by
            rw [List.reverse_append, List.reverse_cons]
          rw [eR] at hR5
          refine ⟨m2, by omega, ws ++ [Str.ofString "("], _, _, _, _, _, rfl, Same.new (Same.trans sm3 sm4) nl0, upd_other nwl (sm4 _ _ hw3), upd_same, hR5, hO6, ?_, by omega, by rw [List.length_append]; show ws.length + 1 + _ ≤ _; omega⟩
          rw [List.map_append, List.flatten_append, ← ho]
          show (ws.map tl).flatten ++ [[40]].flatten ++ (wrsL ks ++ ([41] ++ o')) = (ws.map tl).flatten ++ (40 :: (wrsL ks ++ [41]) ++ o')
          simp [List.append_assoc]
end

local macro_rules | `(tactic| walk_at "my_rd") => `(tactic| (repeat first
  | with_reducible refine q_tCons ?_
  | ((with_reducible apply q_var); (focus (exact rfl)))
  | with_reducible refine q_c ?_
  | with_reducible refine q_nx ?_
  | with_reducible refine q_bK ?_
  | with_reducible refine q_call ?_
  | with_reducible refine q_callK ?_
  | with_reducible refine q_tNil ?_
  | with_reducible refine q_cb ?_
  | with_reducible refine q_seq ?_
  | with_reducible refine q_asg ?_
  | with_reducible refine q_gName ?_
  | with_reducible refine q_op ?_
  | with_reducible refine q_test ?_
  | with_reducible refine q_tB ?_
  | with_reducible refine q_ifS ?_
  | with_reducible refine q_ret ?_
  | with_reducible refine q_rt ?_
  | with_reducible refine q_next ?_
  | with_reducible refine q_ifF ?_
  | with_reducible refine q_ifT ?_
  | with_reducible refine q_drop ?_
  | with_reducible refine q_and ?_
  | with_reducible refine q_or ?_
  | with_reducible refine q_andT ?_
  | with_reducible refine q_andF ?_
  | with_reducible refine q_orF ?_
  | with_reducible refine q_orT ?_
  | with_reducible refine q_andV ?_
  | with_reducible refine q_andVT ?_
  | with_reducible refine q_andVF ?_
  | with_reducible refine q_orV ?_
  | with_reducible refine q_gCons ?_
  | with_reducible refine q_gNil ?_
  | with_reducible refine q_tup ?_
  | with_reducible refine q_lst ?_
  | with_reducible refine q_not ?_
  | with_reducible refine q_notKT ?_
  | with_reducible refine q_notKF ?_
  | with_reducible refine q_I0 ?_
  | with_reducible refine q_eqI ?_
  | with_reducible refine q_neI ?_
  | ((with_reducible refine q_I ?_ ?_); first | decide | omega | exact ⟨by omega, by omega⟩ | exact ⟨by decide, by decide⟩ | exact .inl ⟨by omega, by omega⟩ | exact .inr ⟨by omega, by omega⟩ | exact .inr ⟨by decide, by decide⟩)
  | with_reducible refine q_eqS ?_
  | with_reducible refine q_neS ?_
  | with_reducible refine q_brk ?_
  | with_reducible refine q_ct ?_
  | with_reducible refine q_bk ?_
  | with_reducible refine q_cn ?_
  | with_reducible refine q_retN ?_
  | with_reducible refine q_gSub ?_
  | with_reducible refine q_for ?_
  | with_reducible refine q_iList ?_
  | with_reducible refine q_iTup ?_
  | with_reducible refine q_iRng1 ?_
  | with_reducible refine q_notK ?_
  | with_reducible refine q_orVT ?_
  | with_reducible refine q_orVF ?_
  | with_reducible refine q_notV ?_
  | with_reducible refine q_notVK ?_
  | with_reducible refine q_ifE ?_
  | with_reducible refine q_ifET ?_
  | with_reducible refine q_ifEF ?_
  | with_reducible refine q_yes ?_
  | with_reducible refine q_un ?_
  | with_reducible refine q_rU ?_
  | with_reducible refine q_abs ?_
  | with_reducible refine q_int1 ?_
  | with_reducible refine q_bm ?_
  | with_reducible refine q_bm0 ?_
  | with_reducible refine q_lc ?_
  | with_reducible refine q_keepT ?_
  | with_reducible refine q_keepF ?_
  | ((with_reducible apply q_aug); (focus (exact rfl)))
  | with_reducible refine q_ipI ?_
  | with_reducible refine q_chain ?_
  | with_reducible refine q_pairC ?_
  | with_reducible refine q_pairsK ?_
  | with_reducible refine q_pairN ?_
  | with_reducible refine q_fld ?_
  | with_reducible refine q_sFld ?_
  | with_reducible refine q_meth ?_
  | with_reducible refine q_makeK ?_
  | with_reducible refine q_isBl ?_
  | with_reducible refine q_notBl ?_
  | with_reducible refine q_sl ?_
  | with_reducible refine q_noPart ?_
  | with_reducible refine q_part ?_
  | with_reducible refine q_partK ?_
  | ((with_reducible apply q_mulStr); (focus (decide +kernel)))
  | with_reducible refine q_chT ?_
  | with_reducible refine q_chF ?_
  | with_reducible refine q_ord ?_
  | with_reducible refine q_iStr0 ?_
  | with_reducible refine q_iStr ?_
  | with_reducible refine q_tDIn ?_
  | with_reducible refine q_tDNotIn ?_
  | with_reducible refine q_tDGet ?_
  | with_reducible refine q_tDGet2 ?_
  | with_reducible refine q_tDGet1 ?_
  | with_reducible refine q_tDSetd ?_
  | ((with_reducible apply q_dG2a); (focus ((repeat first | (with_reducible exact upd_same) | (with_reducible assumption) | (with_reducible apply upd_new (by assumption)) | (with_reducible apply upd_other (by first | assumption | exact Ne.symm (by assumption))) | (with_reducible refine' Kp.get (by assumption) ?_ (by first | assumption | exact Ne.symm (by assumption))) | (with_reducible apply Same.get (by assumption))); done)))
  | ((with_reducible apply q_dSda); (focus ((repeat first | (with_reducible exact upd_same) | (with_reducible assumption) | (with_reducible apply upd_new (by assumption)) | (with_reducible apply upd_other (by first | assumption | exact Ne.symm (by assumption))) | (with_reducible refine' Kp.get (by assumption) ?_ (by first | assumption | exact Ne.symm (by assumption))) | (with_reducible apply Same.get (by assumption))); done)))
  | with_reducible refine q_sDPut ?_
  | ((with_reducible apply q_dInS); (focus ((repeat first | (with_reducible exact upd_same) | (with_reducible assumption) | (with_reducible apply upd_new (by assumption)) | (with_reducible apply upd_other (by first | assumption | exact Ne.symm (by assumption))) | (with_reducible refine' Kp.get (by assumption) ?_ (by first | assumption | exact Ne.symm (by assumption))) | (with_reducible apply Same.get (by assumption))); done)))
  | ((with_reducible apply q_dNInS); (focus ((repeat first | (with_reducible exact upd_same) | (with_reducible assumption) | (with_reducible apply upd_new (by assumption)) | (with_reducible apply upd_other (by first | assumption | exact Ne.symm (by assumption))) | (with_reducible refine' Kp.get (by assumption) ?_ (by first | assumption | exact Ne.symm (by assumption))) | (with_reducible apply Same.get (by assumption))); done)))
  | ((with_reducible apply q_dInI); (focus ((repeat first | (with_reducible exact upd_same) | (with_reducible assumption) | (with_reducible apply upd_new (by assumption)) | (with_reducible apply upd_other (by first | assumption | exact Ne.symm (by assumption))) | (with_reducible refine' Kp.get (by assumption) ?_ (by first | assumption | exact Ne.symm (by assumption))) | (with_reducible apply Same.get (by assumption))); done)))
  | ((with_reducible apply q_dNInI); (focus ((repeat first | (with_reducible exact upd_same) | (with_reducible assumption) | (with_reducible apply upd_new (by assumption)) | (with_reducible apply upd_other (by first | assumption | exact Ne.symm (by assumption))) | (with_reducible refine' Kp.get (by assumption) ?_ (by first | assumption | exact Ne.symm (by assumption))) | (with_reducible apply Same.get (by assumption))); done)))
  | ((with_reducible apply q_bmL); (focus ((repeat first | (with_reducible exact upd_same) | (with_reducible assumption) | (with_reducible apply upd_new (by assumption)) | (with_reducible apply upd_other (by first | assumption | exact Ne.symm (by assumption))) | (with_reducible refine' Kp.get (by assumption) ?_ (by first | assumption | exact Ne.symm (by assumption))) | (with_reducible apply Same.get (by assumption))); done)))
  | ((with_reducible apply q_bmL0); (focus ((repeat first | (with_reducible exact upd_same) | (with_reducible assumption) | (with_reducible apply upd_new (by assumption)) | (with_reducible apply upd_other (by first | assumption | exact Ne.symm (by assumption))) | (with_reducible refine' Kp.get (by assumption) ?_ (by first | assumption | exact Ne.symm (by assumption))) | (with_reducible apply Same.get (by assumption))); done)))
  | ((with_reducible apply q_ixLt); (focus ((repeat first | (with_reducible exact upd_same) | (with_reducible assumption) | (with_reducible apply upd_new (by assumption)) | (with_reducible apply upd_other (by first | assumption | exact Ne.symm (by assumption))) | (with_reducible refine' Kp.get (by assumption) ?_ (by first | assumption | exact Ne.symm (by assumption))) | (with_reducible apply Same.get (by assumption))); done)); (focus (exact rfl)))
  | ((with_reducible apply q_ixTt); (focus ((repeat first | (with_reducible exact upd_same) | (with_reducible assumption) | (with_reducible apply upd_new (by assumption)) | (with_reducible apply upd_other (by first | assumption | exact Ne.symm (by assumption))) | (with_reducible refine' Kp.get (by assumption) ?_ (by first | assumption | exact Ne.symm (by assumption))) | (with_reducible apply Same.get (by assumption))); done)); (focus (exact rfl)))
  | ((with_reducible apply q_lenLt); (focus ((repeat first | (with_reducible exact upd_same) | (with_reducible assumption) | (with_reducible apply upd_new (by assumption)) | (with_reducible apply upd_other (by first | assumption | exact Ne.symm (by assumption))) | (with_reducible refine' Kp.get (by assumption) ?_ (by first | assumption | exact Ne.symm (by assumption))) | (with_reducible apply Same.get (by assumption))); done)))
  | ((with_reducible apply q_lenTt); (focus ((repeat first | (with_reducible exact upd_same) | (with_reducible assumption) | (with_reducible apply upd_new (by assumption)) | (with_reducible apply upd_other (by first | assumption | exact Ne.symm (by assumption))) | (with_reducible refine' Kp.get (by assumption) ?_ (by first | assumption | exact Ne.symm (by assumption))) | (with_reducible apply Same.get (by assumption))); done)))
  | ((with_reducible apply q_append); (focus ((repeat first | (with_reducible exact upd_same) | (with_reducible assumption) | (with_reducible apply upd_new (by assumption)) | (with_reducible apply upd_other (by first | assumption | exact Ne.symm (by assumption))) | (with_reducible refine' Kp.get (by assumption) ?_ (by first | assumption | exact Ne.symm (by assumption))) | (with_reducible apply Same.get (by assumption))); done)); (focus ((first | (exact Nat.lt_of_ble_eq_true rfl) | (simp only [List.length_append, List.length_cons, List.length_nil, List.length_map]; exact small1000 (by omega))))))
  | ((with_reducible apply q_setL); (focus ((repeat first | (with_reducible exact upd_same) | (with_reducible assumption) | (with_reducible apply upd_new (by assumption)) | (with_reducible apply upd_other (by first | assumption | exact Ne.symm (by assumption))) | (with_reducible refine' Kp.get (by assumption) ?_ (by first | assumption | exact Ne.symm (by assumption))) | (with_reducible apply Same.get (by assumption))); done)); (focus (exact rfl)))
  | with_reducible refine q_ifNT ?_
  | with_reducible refine q_ifNF ?_
  | with_reducible refine q_andNT ?_
  | with_reducible refine q_andNF ?_
  | with_reducible refine q_orNT ?_
  | with_reducible refine q_orNF ?_
  | with_reducible refine q_bKNT ?_
  | with_reducible refine q_bKNF ?_
  | with_reducible refine q_tNGet ?_
  | with_reducible refine q_tNIn ?_
  | with_reducible refine q_sNPut ?_
  | with_reducible refine q_sFldAug ?_
  | with_reducible refine q_sDAug ?_
  | with_reducible refine q_sDDel ?_
  | with_reducible refine q_forX ?_
  | with_reducible refine q_tMake ?_
  | ((with_reducible apply q_dG1a); (focus ((repeat first | (with_reducible exact upd_same) | (with_reducible assumption) | (with_reducible apply upd_new (by assumption)) | (with_reducible apply upd_other (by first | assumption | exact Ne.symm (by assumption))) | (with_reducible refine' Kp.get (by assumption) ?_ (by first | assumption | exact Ne.symm (by assumption))) | (with_reducible apply Same.get (by assumption))); done)))))
open TL
/-! texts with numbers -/
def posOf : List Str → Str → Option Nat
  | [], _ => none
  | x :: S, s => if x = s then some 0 else (posOf S s).map (· + 1)
theorem posOf_some {S : List Str} {s : Str} {j : Nat} (h : posOf S s = some j) : S[j]? = some s ∧ ∀ m, m < j → S[m]? ≠ some s := by
  induction S generalizing j with
  | nil => cases h
  | cons x S ih =>
    unfold posOf at h
    by_cases e : x = s
    · rw [if_pos e] at h
      cases h
      exact ⟨by rw [e]; rfl, fun m hm => absurd hm (Nat.not_lt_zero _)⟩
    · rw [if_neg e] at h
      obtain ⟨i, hi, rfl⟩ := Option.map_eq_some_iff.mp h
      obtain ⟨h1, h2⟩ := ih hi
      refine ⟨h1, fun m hm => ?_⟩
      cases m with
      | zero => exact fun z => e (Option.some.inj z)
      | succ m => exact h2 m (by omega)
theorem posOf_none {S : List Str} {s : Str} : posOf S s = none ↔ s ∉ S := by
  induction S with
  | nil => simp [posOf]
  | cons x S ih =>
    unfold posOf
    by_cases e : x = s
    · rw [if_pos e]; simp [e]
    · rw [if_neg e, Option.map_eq_none_iff, ih, List.mem_cons, not_or]
      exact ⟨fun h => ⟨fun z => e z.symm, h⟩, fun h => h.2⟩
theorem posOf_lt {S : List Str} {s : Str} {j : Nat} (h : posOf S s = some j) : j < S.length := (List.getElem?_eq_some_iff.mp (posOf_some h).1).1
theorem posOf_snoc {S : List Str} {s : Str} (h : posOf S s = none) : posOf (S ++ [s]) s = some S.length := by
  induction S with
  | nil => show (if s = s then some 0 else _) = _; rw [if_pos rfl]; rfl
  | cons x S ih =>
    unfold posOf at h
    by_cases e : x = s
    · rw [if_pos e] at h; cases h
    · rw [if_neg e, Option.map_eq_none_iff] at h
      show (if x = s then some 0 else (posOf (S ++ [s]) s).map (· + 1)) = _
      rw [if_neg e, ih h]
      rfl
def numK : Nat → List Str → List (Key × V)
  | _, [] => []
  | n, s :: S => (.inr s, .int (n : Int)) :: numK (n + 1) S
theorem numK_len (n : Nat) (S : List Str) : (numK n S).length = S.length := by
  induction S generalizing n with
  | nil => rfl
  | cons s S ih => show (numK (n + 1) S).length + 1 = S.length + 1; rw [ih]
theorem numK_val (n : Nat) (S : List Str) (s : Str) : valV (numK n S) (.inr s) = (posOf S s).map fun j => V.int ((n + j : Nat) : Int) := by
  induction S generalizing n with
  | nil => rfl
  | cons x S ih =>
    show valV ((Sum.inr x, V.int (n : Int)) :: numK (n + 1) S) (.inr s) = (if x = s then some 0 else (posOf S s).map (· + 1)).map _
    rw [valV_cons]
    by_cases e : x = s
    · rw [if_pos (by rw [e]), if_pos e]; rfl
    · rw [if_neg (fun z => e (Sum.inr.inj z)), if_neg e, ih]
      cases posOf S s with
      | none => rfl
      | some j =>
        show some (V.int ((n + 1 + j : Nat) : Int)) = some (V.int ((n + (j + 1) : Nat) : Int))
        rw [show n + 1 + j = n + (j + 1) by omega]
theorem numK_snoc (n : Nat) (S : List Str) (s : Str) : numK n (S ++ [s]) = numK n S ++ [(.inr s, .int ((n + S.length : Nat) : Int))] := by
  induction S generalizing n with
  | nil => rfl
  | cons x S ih =>
    show (Sum.inr x, V.int (n : Int)) :: numK (n + 1) (S ++ [s]) = (Sum.inr x, V.int (n : Int)) :: numK (n + 1) S ++ _
    rw [ih]
    show _ = (Sum.inr x, V.int (n : Int)) :: (numK (n + 1) S ++ [(.inr s, .int ((n + (S.length + 1) : Nat) : Int))])
    rw [show n + 1 + S.length = n + (S.length + 1) by omega]

/-! a table of digests -/
def frm (k : NestedKey) : Str := strL (wrL k)
structure OkK (k : NestedKey) : Prop where
  iv : isV k = true
  sm : smallV k
  wl : (wrL k).length ≤ 1000000
  sz : siz k ≤ 1000000
theorem frm_inj {k l : NestedKey} (hk : OkK k) (hl : OkK l) (h : frm k = frm l) : k = l := wr_inj' hk.iv hl.iv (by
  have := congrArg tl h
  exact this)
theorem pos_at {T : List NestedKey} {k : NestedKey} {j : Nat} (hT : ∀ x ∈ T, OkK x) (hk : OkK k) (h : posOf (T.map frm) (frm k) = some j) : T[j]? = some k := by
  have h1 := (posOf_some h).1
  rw [List.getElem?_map] at h1
  obtain ⟨x, hx, e⟩ := Option.map_eq_some_iff.mp h1
  rw [hx, frm_inj (hT x (List.mem_of_getElem? hx)) hk e]
theorem pos_no {T : List NestedKey} {k : NestedKey} (hT : ∀ x ∈ T, OkK x) (hk : OkK k) : posOf (T.map frm) (frm k) = none ↔ k ∉ T := by
  rw [posOf_none, List.mem_map]
  constructor
  · exact fun h m => h ⟨k, m, rfl⟩
  · rintro h ⟨x, hx, e⟩
    rw [frm_inj (hT x hx) hk e] at hx
    exact h hx
structure DigAt (C : Addr) (H : Hp) (d vl nd : Addr) (T : List NestedKey) : Prop where
  o : ∃ dx, H d = some (.ins C dx [("_values", .ref vl), ("_numbers", .ref nd)])
  v : ∃ vs, H vl = some (.lst vs) ∧ NVs H T vs
  n : H nd = some (.dK (numK 0 (T.map frm)))
  ok : ∀ k ∈ T, OkK k
  un : T.Nodup
def Kq (p q : Addr) (H H' : Hp) : Prop := ∀ b o, H b = some o → b ≠ p → b ≠ q → H' b = some o
theorem Kq.same {p q : Addr} {H H' : Hp} (e : Same H H') : Kq p q H H' := fun b o h _ _ => e b o h
theorem Kq.up1 {p q : Addr} {H H' : Hp} {o : HO} (e : Kq p q H H') : Kq p q H (upd H' p o) := fun b o h n1 n2 => upd_other n1 (e b o h n1 n2)
theorem Kq.up2 {p q : Addr} {H H' : Hp} {o : HO} (e : Kq p q H H') : Kq p q H (upd H' q o) := fun b o h n1 n2 => upd_other n2 (e b o h n1 n2)
theorem NVs.snoc {H : Hp} {k : NestedKey} {v : V} (h : NV H k v) : ∀ {ks : List NestedKey} {vs : List V}, NVs H ks vs → NVs H (ks ++ [k]) (vs ++ [v])
  | _, _, .nil => .cons h .nil
  | _, _, .cons a b => .cons a (NVs.snoc h b)
theorem NVs.length {H : Hp} : ∀ {ks : List NestedKey} {vs : List V}, NVs H ks vs → vs.length = ks.length
  | _, _, .nil => rfl
  | _, _, .cons _ b => congrArg (· + 1) (NVs.length b)
theorem NVs.at' {H : Hp} : ∀ {ks : List NestedKey} {vs : List V} {j : Nat} {k : NestedKey}, NVs H ks vs → ks[j]? = some k → ∃ v, vs[j]? = some v ∧ NV H k v
  | _, _, _, _, .nil, h => by simp at h
  | _, _, 0, _, .cons a _, h => by
    have e := Option.some.inj h
    subst e
    exact ⟨_, rfl, a⟩
  | _, _, j + 1, _, .cons _ b, h => by
    obtain ⟨v, h1, h2⟩ := NVs.at' (j := j) b h
    exact ⟨v, h1, h2⟩
theorem DigAt.same {C : Addr} {H H' : Hp} {d vl nd : Addr} {T : List NestedKey} (h : DigAt C H d vl nd T) (s : Same H H') : DigAt C H' d vl nd T := by
  obtain ⟨dx, z⟩ := h.o
  obtain ⟨vs, h1, h2⟩ := h.v
  exact ⟨⟨dx, s _ _ z⟩, ⟨vs, s _ _ h1, NVs.mono (fun b ys q => s _ _ q) h2⟩, s _ _ h.n, h.ok, h.un⟩
theorem DigAt.ne {C : Addr} {H : Hp} {d vl nd : Addr} {T : List NestedKey} (h : DigAt C H d vl nd T) : vl ≠ nd := by
  obtain ⟨vs, h1, _⟩ := h.v
  exact ne_of h1 h.n (by intro z; cases z)
def sp_dgI (C : Addr) : Sp := fun vs H Q _ => ∃ (b dx : Addr), vs = [.ref b] ∧ H b = some (.ins C dx []) ∧ ∀ (vl nd : Addr) (H' : Hp), H vl = none → H nd = none → DigAt C H' b vl nd [] → Kp b H H' → Q .non H'
def sp_dgN (K : PySem.W.Frag) (C : Addr) : Sp := fun vs H Q _ => ∃ (d vl nd : Addr) (T : List NestedKey) (k : NestedKey) (v : V), vs = [.ref d, v] ∧ DigAt C H d vl nd T ∧ NV H k v ∧ OkK k ∧ T.length ≤ 900 ∧
  (∀ j, T[j]? = some k → ∀ H', Same H H' → Q (.int (j : Nat)) H') ∧ (k ∉ T → ∀ H', DigAt C H' d vl nd (T ++ [k]) → Kq vl nd H H' → Q (.int (T.length : Nat)) H')
def sp_dgV (C CU : Addr) : Sp := fun vs H Q E => ∃ (d vl nd : Addr) (T : List NestedKey) (i : Int), vs = [.ref d, .int i] ∧ DigAt C H d vl nd T ∧
  (¬ (0 ≤ i ∧ i < T.length) → E (.ref CU) none H) ∧ (∀ (n : Nat) (k : NestedKey) (v : V), i = n → T[n]? = some k → NV H k v → Q v H)
def sp_dgC (C : Addr) : Sp := fun vs H Q _ => ∃ (d vl nd : Addr) (T : List NestedKey), vs = [.ref d] ∧ DigAt C H d vl nd T ∧ Q (.int (T.length : Nat)) H
theorem lkd {m f g : Str} {x y : V} (h : (m == f) = false) (h2 : (m == g) = false) : List.lookup m [(f, x), (g, y)] = none := by
  show (match m == f with | true => some x | false => List.lookup m [(g, y)]) = none
  rw [h]
  show (match m == g with | true => some y | false => List.lookup m []) = none
  rw [h2]; rfl
section
variable {P : Program} {w : World} {K : PySem.W.Frag} {mg : Str → Option Value} {base : Heap}
theorem ok_Digests_init (T : Txt K mg) : FnOk P w K mg base CX0 1 T.f_Digests_init T.d_Digests_init ["self"] (sp_dgI T.C_Digests) := by
  refine T.F_Digests_init.ok sc_Digests_init (fun vs H Q E h => ?_) (fun cdv A outer s H vs Q E hr h => ?_)
  · obtain ⟨b, dx, rfl, _⟩ := h; rfl
  · obtain ⟨b, dx, rfl, hb, k⟩ := h
    refine ⟨_, (pss_cons (ps_fld (pv 0) (pe_lst pa_nil) rfl)
      (pss_one (ps_fld (pv 0) pe_dnewK rfl))), ?_⟩
    (dsimp only [cxOf, Cx.nox, Cx.wish, L2.start, List.map, List.length, List.replicate, List.cons_append, List.nil_append, List.append_eq, Nat.reduceSub, Nat.reduceAdd])
    walk_at "my_rd"
    refine q_lstK (Nat.le_of_ble_eq_true rfl) fun vl nvl => ?_
    have nb : vl ≠ b := (ne_of_none hb nvl).symm
    walk_at "my_rd"
    refine q_fputK (upd_new nvl hb) T.cl_Digests T.n_Digests_values (by show 0 < 1000; decide) ?_
    walk_at "my_rd"
    refine q_dNew fun nd nnd => ?_
    have nb2 : nd ≠ b := fun e => by rw [e, upd_same] at nnd; cases nnd
    have nv2 : nd ≠ vl := fun e => by rw [e, upd_other nb upd_same] at nnd; cases nnd
    have nnd0 := upd_none_back (upd_none_back nnd)
    walk_at "my_rd"
    refine q_fputK (upd_new nnd upd_same) T.cl_Digests T.n_Digests_numbers (by show 1 < 1000; decide) ?_
    walk_at "my_rd"
    exact k vl nd _ nvl nnd0 ⟨⟨dx, upd_same⟩, ⟨[], upd_other nb (upd_other nv2.symm (upd_other nb upd_same)), .nil⟩, upd_other nb2 upd_same, by simp, List.nodup_nil⟩ (Kp.upd (Kp.new (Kp.upd (Kp.new Kp.refl nvl)) nnd0))
theorem ok_Digests_number (T : Txt K mg) : FnOk P w K mg base CX0 4 T.f_Digests_number T.d_Digests_number ["self", "value"] (sp_dgN K T.C_Digests) := by
  refine T.F_Digests_number.ok sc_Digests_number (fun vs H Q E h => ?_) (fun cdv A outer s H vs Q E hr h => ?_)
  · obtain ⟨d, vl, nd, T, k, v, rfl, _⟩ := h; rfl
  · obtain ⟨d, vl, nd, TT, kk, v, rfl, hD, hV, hk, hl, k1, k2⟩ := h
    have hu := hu_of hr
    have hsl : sizeLine = 16777216 := sizeLine_eq
    refine ⟨_, (pss_cons (ps_set (i := 2) sc_Digests_number.nd rfl (Or.inl rfl) (pe_call (ok_write T) (hr.mono (by decide)) (by rfl) T.g_write T.F_write.kp T.b_write .nil pass0 (pa_cons (pv 1) pa_nil)))
      (pss_cons (ps_if (pt_cmp (pc_dnotin hu (pv 2) (pe_fld (pv 0) rfl))) (pss_cons (ps_dput hu (pe_fld (pv 0) rfl) (pv 2) (pe_callB cq_len (by rfl) T.z_len boot_len (pa_cons (pe_fld (pv 0) rfl) pa_nil)) rfl)
      (pss_one (ps_expr (pe_bm PySem.F.plainAttrs_list PySem.F.slot_list_append PySem.F.type_list_append mt_append (pe_fld (pv 0) rfl) (pa_cons (pv 1) pa_nil))))) pss_nil)
      (pss_one (ps_ret (pe_dget hu (pe_fld (pv 0) rfl) (pv 2) (fun _ _ => rfl)))))), ?_⟩
    (dsimp only [cxOf, Cx.nox, Cx.wish, L2.start, List.map, List.length, List.replicate, List.cons_append, List.nil_append, List.append_eq, Nat.reduceSub, Nat.reduceAdd])
    walk_at "my_rd"
    refine ⟨v, kk, rfl, hV, hk.iv, hk.sm, hk.wl, hk.sz, fun H1 sm1 => ?_⟩
    have hD1 := hD.same sm1
    obtain ⟨dx, ho⟩ := hD1.o
    obtain ⟨vs, hvl, hvs⟩ := hD1.v
    have hn := hD1.n
    have hne := hD1.ne
    have hlen := hvs.length
    have hval := numK_val 0 (TT.map frm) (frm kk)
    walk_at "my_rd"
    refine q_fldK ho T.cl_Digests T.n_Digests_numbers rfl ?_
    refine q_dNInS hn ?_
    have eF : strL (wrL kk) = frm kk := rfl
    rw [eF, hval]
    cases hp : posOf (TT.map frm) (frm kk) with
    | some j =>
      rw [hp] at hval
      have hat := pos_at hD.ok hk hp
      rw [show ((some j).map fun j => V.int ((0 + j : Nat) : Int)).isSome = true from rfl]
      walk_at "my_rd"
      refine q_fldK ho T.cl_Digests T.n_Digests_numbers rfl ?_
      walk_at "my_rd"
      refine q_dGetS hn hval ?_
      walk_at "my_rd"
      show Q (.int ((0 + j : Nat) : Int)) H1
      rw [Nat.zero_add]
      exact k1 j hat H1 sm1
    | none =>
      rw [hp] at hval
      have hno := (pos_no hD.ok hk).mp hp
      rw [show ((none : Option Nat).map fun j => V.int ((0 + j : Nat) : Int)).isSome = false from rfl]
      walk_at "my_rd"
      refine q_fldK ho T.cl_Digests T.n_Digests_values rfl ?_
      walk_at "my_rd"
      rw [hlen]
      refine q_fldK ho T.cl_Digests T.n_Digests_numbers rfl ?_
      walk_at "my_rd"
      refine q_dPutS hn (by rw [numK_len, List.length_map]; omega) ?_
      walk_at "my_rd"
      have eP : putK (numK 0 (TT.map frm)) (Sum.inr (frm kk)) (.int (TT.length : Int)) = numK 0 ((TT ++ [kk]).map frm) := by
        rw [putK_new _ hval, List.map_append]
        show _ = numK 0 (TT.map frm ++ [frm kk])
        rw [numK_snoc, List.length_map, Nat.zero_add]
      rw [eP]
      have nvd : d ≠ nd := ne_of ho hn (by intro z; cases z)
      have nvl : d ≠ vl := ne_of ho hvl (by intro z; cases z)
      refine q_fldK (upd_other nvd ho) T.cl_Digests T.n_Digests_values rfl ?_
      walk_at "my_rd"
      refine q_append (upd_other hne hvl) (by omega) ?_
      walk_at "my_rd"
      refine q_fldK (upd_other nvl (upd_other nvd ho)) T.cl_Digests T.n_Digests_numbers rfl ?_
      walk_at "my_rd"
      refine q_dGetS (upd_other hne.symm upd_same) (v := .int (TT.length : Nat)) ?_ ?_
      · rw [numK_val, List.map_append]
        show (posOf (TT.map frm ++ [frm kk]) (frm kk)).map _ = _
        rw [posOf_snoc hp, List.length_map]
        show some (V.int ((0 + TT.length : Nat) : Int)) = _
        rw [Nat.zero_add]
      · walk_at "my_rd"
        have tp : ∀ b ys, H1 b = some (.tup ys) → upd (upd H1 nd (.dK (numK 0 ((TT ++ [kk]).map frm)))) vl (.lst (vs ++ [v])) b = some (.tup ys) := fun b ys q => upd_other (ne_of q hvl (by intro z; cases z)) (upd_other (ne_of q hn (by intro z; cases z)) q)
        refine k2 hno _ ⟨⟨dx, upd_other nvl (upd_other nvd ho)⟩, ⟨_, upd_same, NVs.snoc (NV.mono (fun b ys q => tp _ _ (sm1 _ _ q)) hV) (NVs.mono tp hvs)⟩, upd_other hne.symm upd_same, fun x hx => ?_, ?_⟩ (Kq.up1 (Kq.up2 (Kq.same sm1)))
        · rcases List.mem_append.mp hx with q | q
          · exact hD.ok x q
          · rw [List.mem_singleton.mp q]; exact hk
        · rw [List.nodup_append]
          exact ⟨hD.un, by simp, fun a ha b hb e => hno (by rw [List.mem_singleton.mp hb] at e; exact e ▸ ha)⟩
end

local macro_rules | `(tactic| walk_at "my_rd") => `(tactic| (repeat first
  | with_reducible refine q_tCons ?_
  | ((with_reducible apply q_var); (focus (exact rfl)))
  | with_reducible refine q_c ?_
  | with_reducible refine q_nx ?_
  | with_reducible refine q_bK ?_
  | with_reducible refine q_call ?_
  | with_reducible refine q_callK ?_
  | with_reducible refine q_tNil ?_
  | with_reducible refine q_cb ?_
  | with_reducible refine q_seq ?_
  | with_reducible refine q_asg ?_
  | with_reducible refine q_gName ?_
  | with_reducible refine q_op ?_
  | with_reducible refine q_test ?_
  | with_reducible refine q_tB ?_
  | with_reducible refine q_ifS ?_
  | with_reducible refine q_ret ?_
  | with_reducible refine q_rt ?_
  | with_reducible refine q_next ?_
  | with_reducible refine q_ifF ?_
  | with_reducible refine q_ifT ?_
  | with_reducible refine q_drop ?_
  | with_reducible refine q_and ?_
  | with_reducible refine q_or ?_
  | with_reducible refine q_andT ?_
  | with_reducible refine q_andF ?_
  | with_reducible refine q_orF ?_
  | with_reducible refine q_orT ?_
  | with_reducible refine q_andV ?_
  | with_reducible refine q_andVT ?_
  | with_reducible refine q_andVF ?_
  | with_reducible refine q_orV ?_
  | with_reducible refine q_gCons ?_
  | with_reducible refine q_gNil ?_
  | with_reducible refine q_tup ?_
  | with_reducible refine q_lst ?_
  | with_reducible refine q_not ?_
  | with_reducible refine q_notKT ?_
  | with_reducible refine q_notKF ?_
  | with_reducible refine q_I0 ?_
  | with_reducible refine q_eqI ?_
  | with_reducible refine q_neI ?_
  | ((with_reducible refine q_I ?_ ?_); first | decide | omega | exact ⟨by omega, by omega⟩ | exact ⟨by decide, by decide⟩ | exact .inl ⟨by omega, by omega⟩ | exact .inr ⟨by omega, by omega⟩ | exact .inr ⟨by decide, by decide⟩)
  | with_reducible refine q_eqS ?_
  | with_reducible refine q_neS ?_
  | with_reducible refine q_brk ?_
  | with_reducible refine q_ct ?_
  | with_reducible refine q_bk ?_
  | with_reducible refine q_cn ?_
  | with_reducible refine q_retN ?_
  | with_reducible refine q_gSub ?_
  | with_reducible refine q_for ?_
  | with_reducible refine q_iList ?_
  | with_reducible refine q_iTup ?_
  | with_reducible refine q_iRng1 ?_
  | with_reducible refine q_notK ?_
  | with_reducible refine q_orVT ?_
  | with_reducible refine q_orVF ?_
  | with_reducible refine q_notV ?_
  | with_reducible refine q_notVK ?_
  | with_reducible refine q_ifE ?_
  | with_reducible refine q_ifET ?_
  | with_reducible refine q_ifEF ?_
  | with_reducible refine q_yes ?_
  | with_reducible refine q_un ?_
  | with_reducible refine q_rU ?_
  | with_reducible refine q_abs ?_
  | with_reducible refine q_int1 ?_
  | with_reducible refine q_bm ?_
  | with_reducible refine q_bm0 ?_
  | with_reducible refine q_lc ?_
  | with_reducible refine q_keepT ?_
  | with_reducible refine q_keepF ?_
  | ((with_reducible apply q_aug); (focus (exact rfl)))
  | with_reducible refine q_ipI ?_
  | with_reducible refine q_chain ?_
  | with_reducible refine q_pairC ?_
  | with_reducible refine q_pairsK ?_
  | with_reducible refine q_pairN ?_
  | with_reducible refine q_fld ?_
  | with_reducible refine q_sFld ?_
  | with_reducible refine q_meth ?_
  | with_reducible refine q_makeK ?_
  | with_reducible refine q_isBl ?_
  | with_reducible refine q_notBl ?_
  | with_reducible refine q_sl ?_
  | with_reducible refine q_noPart ?_
  | with_reducible refine q_part ?_
  | with_reducible refine q_partK ?_
  | ((with_reducible apply q_mulStr); (focus (decide +kernel)))
  | with_reducible refine q_chT ?_
  | with_reducible refine q_chF ?_
  | with_reducible refine q_ord ?_
  | with_reducible refine q_iStr0 ?_
  | with_reducible refine q_iStr ?_
  | with_reducible refine q_tDIn ?_
  | with_reducible refine q_tDNotIn ?_
  | with_reducible refine q_tDGet ?_
  | with_reducible refine q_tDGet2 ?_
  | with_reducible refine q_tDGet1 ?_
  | with_reducible refine q_tDSetd ?_
  | ((with_reducible apply q_dG2a); (focus ((repeat first | (with_reducible exact upd_same) | (with_reducible assumption) | (with_reducible apply upd_new (by assumption)) | (with_reducible apply upd_other (by first | assumption | exact Ne.symm (by assumption))) | (with_reducible refine' Kp.get (by assumption) ?_ (by first | assumption | exact Ne.symm (by assumption))) | (with_reducible apply Same.get (by assumption))); done)))
  | ((with_reducible apply q_dSda); (focus ((repeat first | (with_reducible exact upd_same) | (with_reducible assumption) | (with_reducible apply upd_new (by assumption)) | (with_reducible apply upd_other (by first | assumption | exact Ne.symm (by assumption))) | (with_reducible refine' Kp.get (by assumption) ?_ (by first | assumption | exact Ne.symm (by assumption))) | (with_reducible apply Same.get (by assumption))); done)))
  | with_reducible refine q_sDPut ?_
  | ((with_reducible apply q_dInS); (focus ((repeat first | (with_reducible exact upd_same) | (with_reducible assumption) | (with_reducible apply upd_new (by assumption)) | (with_reducible apply upd_other (by first | assumption | exact Ne.symm (by assumption))) | (with_reducible refine' Kp.get (by assumption) ?_ (by first | assumption | exact Ne.symm (by assumption))) | (with_reducible apply Same.get (by assumption))); done)))
  | ((with_reducible apply q_dNInS); (focus ((repeat first | (with_reducible exact upd_same) | (with_reducible assumption) | (with_reducible apply upd_new (by assumption)) | (with_reducible apply upd_other (by first | assumption | exact Ne.symm (by assumption))) | (with_reducible refine' Kp.get (by assumption) ?_ (by first | assumption | exact Ne.symm (by assumption))) | (with_reducible apply Same.get (by assumption))); done)))
  | ((with_reducible apply q_dInI); (focus ((repeat first | (with_reducible exact upd_same) | (with_reducible assumption) | (with_reducible apply upd_new (by assumption)) | (with_reducible apply upd_other (by first | assumption | exact Ne.symm (by assumption))) | (with_reducible refine' Kp.get (by assumption) ?_ (by first | assumption | exact Ne.symm (by assumption))) | (with_reducible apply Same.get (by assumption))); done)))
  | ((with_reducible apply q_dNInI); (focus ((repeat first | (with_reducible exact upd_same) | (with_reducible assumption) | (with_reducible apply upd_new (by assumption)) | (with_reducible apply upd_other (by first | assumption | exact Ne.symm (by assumption))) | (with_reducible refine' Kp.get (by assumption) ?_ (by first | assumption | exact Ne.symm (by assumption))) | (with_reducible apply Same.get (by assumption))); done)))
  | ((with_reducible apply q_bmL); (focus ((repeat first | (with_reducible exact upd_same) | (with_reducible assumption) | (with_reducible apply upd_new (by assumption)) | (with_reducible apply upd_other (by first | assumption | exact Ne.symm (by assumption))) | (with_reducible refine' Kp.get (by assumption) ?_ (by first | assumption | exact Ne.symm (by assumption))) | (with_reducible apply Same.get (by assumption))); done)))
  | ((with_reducible apply q_bmL0); (focus ((repeat first | (with_reducible exact upd_same) | (with_reducible assumption) | (with_reducible apply upd_new (by assumption)) | (with_reducible apply upd_other (by first | assumption | exact Ne.symm (by assumption))) | (with_reducible refine' Kp.get (by assumption) ?_ (by first | assumption | exact Ne.symm (by assumption))) | (with_reducible apply Same.get (by assumption))); done)))
  | ((with_reducible apply q_ixLt); (focus ((repeat first | (with_reducible exact upd_same) | (with_reducible assumption) | (with_reducible apply upd_new (by assumption)) | (with_reducible apply upd_other (by first | assumption | exact Ne.symm (by assumption))) | (with_reducible refine' Kp.get (by assumption) ?_ (by first | assumption | exact Ne.symm (by assumption))) | (with_reducible apply Same.get (by assumption))); done)); (focus (exact rfl)))
  | ((with_reducible apply q_ixTt); (focus ((repeat first | (with_reducible exact upd_same) | (with_reducible assumption) | (with_reducible apply upd_new (by assumption)) | (with_reducible apply upd_other (by first | assumption | exact Ne.symm (by assumption))) | (with_reducible refine' Kp.get (by assumption) ?_ (by first | assumption | exact Ne.symm (by assumption))) | (with_reducible apply Same.get (by assumption))); done)); (focus (exact rfl)))
  | ((with_reducible apply q_lenLt); (focus ((repeat first | (with_reducible exact upd_same) | (with_reducible assumption) | (with_reducible apply upd_new (by assumption)) | (with_reducible apply upd_other (by first | assumption | exact Ne.symm (by assumption))) | (with_reducible refine' Kp.get (by assumption) ?_ (by first | assumption | exact Ne.symm (by assumption))) | (with_reducible apply Same.get (by assumption))); done)))
  | ((with_reducible apply q_lenTt); (focus ((repeat first | (with_reducible exact upd_same) | (with_reducible assumption) | (with_reducible apply upd_new (by assumption)) | (with_reducible apply upd_other (by first | assumption | exact Ne.symm (by assumption))) | (with_reducible refine' Kp.get (by assumption) ?_ (by first | assumption | exact Ne.symm (by assumption))) | (with_reducible apply Same.get (by assumption))); done)))
  | ((with_reducible apply q_append); (focus ((repeat first | (with_reducible exact upd_same) | (with_reducible assumption) | (with_reducible apply upd_new (by assumption)) | (with_reducible apply upd_other (by first | assumption | exact Ne.symm (by assumption))) | (with_reducible refine' Kp.get (by assumption) ?_ (by first | assumption | exact Ne.symm (by assumption))) | (with_reducible apply Same.get (by assumption))); done)); (focus ((first | (exact Nat.lt_of_ble_eq_true rfl) | (simp only [List.length_append, List.length_cons, List.length_nil, List.length_map]; exact small1000 (by omega))))))
  | ((with_reducible apply q_setL); (focus ((repeat first | (with_reducible exact upd_same) | (with_reducible assumption) | (with_reducible apply upd_new (by assumption)) | (with_reducible apply upd_other (by first | assumption | exact Ne.symm (by assumption))) | (with_reducible refine' Kp.get (by assumption) ?_ (by first | assumption | exact Ne.symm (by assumption))) | (with_reducible apply Same.get (by assumption))); done)); (focus (exact rfl)))
  | with_reducible refine q_ifNT ?_
  | with_reducible refine q_ifNF ?_
  | with_reducible refine q_andNT ?_
  | with_reducible refine q_andNF ?_
  | with_reducible refine q_orNT ?_
  | with_reducible refine q_orNF ?_
  | with_reducible refine q_bKNT ?_
  | with_reducible refine q_bKNF ?_
  | with_reducible refine q_tNGet ?_
  | with_reducible refine q_tNIn ?_
  | with_reducible refine q_sNPut ?_
  | with_reducible refine q_sFldAug ?_
  | with_reducible refine q_sDAug ?_
  | with_reducible refine q_sDDel ?_
  | with_reducible refine q_forX ?_
  | with_reducible refine q_tMake ?_
  | ((with_reducible apply q_dG1a); (focus ((repeat first | (with_reducible exact upd_same) | (with_reducible assumption) | (with_reducible apply upd_new (by assumption)) | (with_reducible apply upd_other (by first | assumption | exact Ne.symm (by assumption))) | (with_reducible refine' Kp.get (by assumption) ?_ (by first | assumption | exact Ne.symm (by assumption))) | (with_reducible apply Same.get (by assumption))); done)))))
open TL
theorem nodup_at {α : Type} {T : List α} (h : T.Nodup) {i j : Nat} {k : α} (hi : T[i]? = some k) (hj : T[j]? = some k) : i = j := by
  obtain ⟨h1, e1⟩ := List.getElem?_eq_some_iff.mp hi
  obtain ⟨h2, e2⟩ := List.getElem?_eq_some_iff.mp hj
  rcases Nat.lt_trichotomy i j with l | l | l
  · exact absurd (e1.trans e2.symm) (List.pairwise_iff_getElem.mp h i j h1 h2 l)
  · exact l
  · exact absurd (e2.trans e1.symm) (List.pairwise_iff_getElem.mp h j i h2 h1 l)

/-! roots -/
def mid (n : Nat) : Nat := if 32 < n then 32 else if 16 < n then 16 else if 8 < n then 8 else if 4 < n then 4 else if 2 < n then 2 else 1
theorem mid_ok {n : Nat} (h : 2 ≤ n) (h2 : n ≤ 64) : 1 ≤ mid n ∧ mid n < n ∧ n - mid n ≤ mid n := by
  unfold mid
  repeat' split
  all_goals omega
theorem mid_pow {n m : Nat} (h : 2 ≤ n) (h2 : n ≤ 2 ^ (m + 1)) (h3 : n ≤ 64) (hm : m ≤ 5) : mid n ≤ 2 ^ m := by
  have : m = 0 ∨ m = 1 ∨ m = 2 ∨ m = 3 ∨ m = 4 ∨ m = 5 := by omega
  unfold mid
  rcases this with rfl | rfl | rfl | rfl | rfl | rfl <;> simp at h2 ⊢ <;> (repeat' split) <;> omega
def kE : NestedKey := .tup [.text "empty"]
def kL (x : Int) : NestedKey := .tup [.text "leaf", .num x]
def kN (l r : Nat) : NestedKey := .tup [.text "node", .num l, .num r]
inductive Rt (T : List NestedKey) : List Int → Nat → Prop
  | empty {i : Nat} : T[i]? = some kE → Rt T [] i
  | leaf {x : Int} {i : Nat} : T[i]? = some (kL x) → Rt T [x] i
  | node {xs : List Int} {l r i : Nat} : 2 ≤ xs.length → Rt T (xs.take (mid xs.length)) l → Rt T (xs.drop (mid xs.length)) r → T[i]? = some (kN l r) → Rt T xs i
theorem pre_at {α : Type} {T T' : List α} (h : T <+: T') {i : Nat} {k : α} (hi : T[i]? = some k) : T'[i]? = some k := by
  obtain ⟨E, rfl⟩ := h
  rw [List.getElem?_append_left (List.getElem?_eq_some_iff.mp hi).1]
  exact hi
theorem Rt.mono {T T' : List NestedKey} (h : T <+: T') {xs : List Int} {i : Nat} (r : Rt T xs i) : Rt T' xs i := by
  induction r with
  | empty e => exact .empty (pre_at h e)
  | leaf e => exact .leaf (pre_at h e)
  | node hl _ _ e i1 i2 => exact .node hl i1 i2 (pre_at h e)
theorem Rt.at_ {T : List NestedKey} {xs : List Int} {i : Nat} (r : Rt T xs i) : i < T.length := by
  cases r with
  | empty e => exact (List.getElem?_eq_some_iff.mp e).1
  | leaf e => exact (List.getElem?_eq_some_iff.mp e).1
  | node _ _ _ e => exact (List.getElem?_eq_some_iff.mp e).1
theorem kL_kE {x : Int} : kL x ≠ kE := by intro h; injection h with h; injection h with _ h; cases h
theorem kN_kE {l r : Nat} : kN l r ≠ kE := by intro h; injection h with h; injection h with _ h; cases h
theorem kN_kL {l r : Nat} {x : Int} : kN l r ≠ kL x := by intro h; injection h with h; injection h with _ h; injection h with _ h; cases h
theorem kL_inj {x y : Int} (h : kL x = kL y) : x = y := by injection h with h; injection h with _ h; injection h with h _; injection h
theorem kN_inj {a b c d : Nat} (h : kN a b = kN c d) : a = c ∧ b = d := by
  injection h with h
  injection h with _ h
  injection h with h1 h
  injection h with h2 _
  injection h1 with h1
  injection h2 with h2
  exact ⟨Int.ofNat.inj h1, Int.ofNat.inj h2⟩
theorem at_inj {α : Type} {T : List α} {i : Nat} {a b : α} (h1 : T[i]? = some a) (h2 : T[i]? = some b) : a = b := Option.some.inj (h1.symm.trans h2)
theorem Rt.inj {T : List NestedKey} {xs : List Int} {i : Nat} (r : Rt T xs i) : ∀ {ys : List Int}, Rt T ys i → xs = ys := by
  induction r with
  | empty e =>
    intro ys s
    cases s with
    | empty _ => rfl
    | leaf e2 => exact absurd (at_inj e2 e) kL_kE
    | node _ _ _ e2 => exact absurd (at_inj e2 e) kN_kE
  | leaf e =>
    intro ys s
    cases s with
    | empty e2 => exact absurd (at_inj e e2) kL_kE
    | leaf e2 => rw [kL_inj (at_inj e e2)]
    | node _ _ _ e2 => exact absurd (at_inj e2 e) kN_kL
  | @node xs l r i hl _ _ e i1 i2 =>
    intro ys s
    cases s with
    | empty e2 => exact absurd (at_inj e e2) kN_kE
    | leaf e2 => exact absurd (at_inj e e2) kN_kL
    | node hl2 s1 s2 e2 =>
      obtain ⟨rfl, rfl⟩ := kN_inj (at_inj e e2)
      have a := i1 s1
      have b := i2 s2
      rw [← List.take_append_drop (mid xs.length) xs, a, b, List.take_append_drop]
theorem Rt.fn {T : List NestedKey} (hu : T.Nodup) {xs : List Int} {i : Nat} (r : Rt T xs i) : ∀ {j : Nat}, Rt T xs j → i = j := by
  induction r with
  | empty e =>
    intro j s
    cases s with
    | empty e2 => exact nodup_at hu e e2
    | node h _ _ _ => simp at h
  | leaf e =>
    intro j s
    cases s with
    | leaf e2 => exact nodup_at hu e e2
    | node h _ _ _ => simp at h
  | @node xs l r i hl _ _ e i1 i2 =>
    intro j s
    cases s with
    | empty e2 => simp at hl
    | leaf e2 => simp at hl
    | node hl2 s1 s2 e2 =>
      obtain rfl := i1 s1
      obtain rfl := i2 s2
      exact nodup_at hu e e2
theorem numL_small {n : Nat} (h : n < 10 ^ 64) : (numL n).length ≤ 64 := by
  unfold numL
  rw [List.length_map]
  exact PyProof.Rows.digits10_le (k := 64) (by decide) h
theorem big64 {n : Nat} (h : n < 1000000) : n < 10 ^ 64 := Nat.lt_of_lt_of_le h (by decide +kernel)
theorem okE : OkK kE := ⟨rfl, ⟨trivial, trivial⟩, by decide +kernel, by decide +kernel⟩
theorem okL {x : Int} (h : x.natAbs < 1000000) : OkK (kL x) := by
  refine ⟨rfl, ⟨trivial, big64 h, trivial⟩, ?_, by show 2 + (1 + 1 + (1 + 1 + 0)) ≤ _; decide⟩
  have e : (intL x).length ≤ 65 := by
    unfold intL
    rw [List.length_append]
    have := numL_small (big64 h)
    split <;> simp <;> omega
  show (((numL 4 ++ 58 :: tl (Str.ofString "leaf")) ++ 44 :: (intL x ++ [])) ++ [41]).length + 1 ≤ _
  rw [List.append_nil, List.length_append, List.length_append, List.length_cons]
  have e2 : (numL 4 ++ 58 :: tl (Str.ofString "leaf")).length = 6 := by decide +kernel
  rw [e2]
  show 6 + ((intL x).length + 1) + 1 + 1 ≤ _
  omega
theorem okN {l r : Nat} (h1 : l < 1000000) (h2 : r < 1000000) : OkK (kN l r) := by
  refine ⟨rfl, ⟨trivial, big64 h1, big64 h2, trivial⟩, ?_, by show 2 + (1 + 1 + (1 + 1 + (1 + 1 + 0))) ≤ _; decide⟩
  have e : ∀ n : Nat, n < 1000000 → (intL (n : Int)).length ≤ 65 := fun n h => by
    unfold intL
    rw [List.length_append]
    have := numL_small (big64 h)
    show _ + (numL n).length ≤ 65
    split <;> simp <;> omega
  have a := e l h1
  have b := e r h2
  show (((numL 4 ++ 58 :: tl (Str.ofString "node")) ++ 44 :: (intL (l : Int) ++ 44 :: (intL (r : Int) ++ []))) ++ [41]).length + 1 ≤ _
  rw [List.append_nil, List.length_append, List.length_append, List.length_cons]
  have e2 : (numL 4 ++ 58 :: tl (Str.ofString "node")).length = 6 := by decide +kernel
  rw [e2, List.length_append, List.length_cons]
  show 6 + ((intL (l : Int)).length + ((intL (r : Int)).length + 1) + 1) + 1 + 1 ≤ _
  omega

/-! roots: the defs -/
theorem Kq.refl {p q : Addr} {H : Hp} : Kq p q H H := fun b o h _ _ => h
theorem Kq.trans {p q : Addr} {H H1 H2 : Hp} (a : Kq p q H H1) (b : Kq p q H1 H2) : Kq p q H H2 := fun c o h n1 n2 => b c o (a c o h n1 n2) n1 n2
theorem Kq.new {p q c : Addr} {H H' : Hp} {o : HO} (e : Kq p q H H') (h : H c = none) : Kq p q H (upd H' c o) := fun b o hb n1 n2 => upd_other (ne_of_none hb h) (e b o hb n1 n2)
def sp_left : Sp := fun vs H Q _ => ∃ n : Nat, vs = [.int (n : Int)] ∧ 2 ≤ n ∧ n ≤ 64 ∧ Q (.int (mid n : Nat)) H
def sp_root (K : PySem.W.Frag) (C : Addr) (m : Nat) : Sp := fun vs H Q _ => ∃ (d vl nd a : Addr) (T : List NestedKey) (xs : List Int), vs = [.ref d, .ref a] ∧ DigAt C H d vl nd T ∧ H a = some (.lst (xs.map V.int)) ∧ a ≠ vl ∧ xs.length ≤ 2 ^ m ∧ xs.length ≤ 64 ∧
  (∀ x ∈ xs, x.natAbs < 1000000) ∧ T.length + 2 * xs.length + 2 ≤ 900 ∧
  ∀ (H' : Hp) (T' : List NestedKey) (i : Nat), T <+: T' → DigAt C H' d vl nd T' → Rt T' xs i → T'.length + 1 ≤ T.length + max 2 (2 * xs.length) → Kq vl nd H H' → Q (.int (i : Nat)) H'
theorem num_use {K : PySem.W.Frag} {C : Addr} {H : Hp} {d vl nd : Addr} {T : List NestedKey} {k : NestedKey} {v : V} {Q : VK} {E : XK} (hD : DigAt C H d vl nd T) (hV : NV H k v) (hk : OkK k) (hl : T.length ≤ 900)
    (kk : ∀ (H' : Hp) (T' : List NestedKey) (i : Nat), T <+: T' → T'.length ≤ T.length + 1 → DigAt C H' d vl nd T' → T'[i]? = some k → Kq vl nd H H' → Q (.int (i : Nat)) H') : sp_dgN K C [.ref d, v] H Q E :=
  ⟨d, vl, nd, T, k, v, rfl, hD, hV, hk, hl, fun j hj H' sm => kk H' T j (List.prefix_refl _) (Nat.le_succ _) (hD.same sm) hj (Kq.same sm),
    fun _ H' dg kq => kk H' (T ++ [k]) T.length (List.prefix_append _ _) (by rw [List.length_append]; exact Nat.le_refl _) dg (by rw [List.getElem?_append_right (Nat.le_refl _), Nat.sub_self]; rfl) kq⟩
theorem bits_mid : ∀ n : Nat, n < 65 → 2 ≤ n → (1 : Int) * 2 ^ ((Builtin.Int.intBits ((n : Int) - 1) : Nat) - 1 : Int).toNat = (mid n : Nat) ∧ 0 ≤ ((Builtin.Int.intBits ((n : Int) - 1) : Nat) - 1 : Int) ∧ ((Builtin.Int.intBits ((n : Int) - 1) : Nat) - 1 : Int) ≤ 1000000 := by decide +kernel
theorem pre_len {α : Type} {T T' : List α} (h : T <+: T') : T.length ≤ T'.length := h.length_le
section
variable {P : Program} {w : World} {K : PySem.W.Frag} {mg : Str → Option Value} {base : Heap}
theorem ok_left_size (T : Txt K mg) : FnOk P w K mg base CX0 1 T.f_left_size T.d_left_size ["size"] sp_left := by
  refine T.F_left_size.ok sc_left_size (fun vs H Q E h => ?_) (fun cdv A outer s H vs Q E hr h => ?_)
  · obtain ⟨n, rfl, _⟩ := h; rfl
  · obtain ⟨n, rfl, h2, h64, k⟩ := h
    obtain ⟨b1, b2, b3⟩ := bits_mid n (by omega) h2
    refine ⟨_, (pss_one (ps_ret (pe_op op_shl pe_int (pe_op op_sub (pe_bits (pe_op op_sub (pv 0) pe_int)) pe_int)))), ?_⟩
    (dsimp only [cxOf, Cx.nox, Cx.wish, L2.start, List.map, List.length, List.replicate, List.cons_append, List.nil_append, List.append_eq, Nat.reduceSub, Nat.reduceAdd])
    walk_at "my_rd"
    unfold tBits
    walk_at "my_rd"
    refine ⟨_, rfl, ?_⟩
    walk_at "my_rd"
    rw [b1]
    exact k
theorem ok_root0 (T : Txt K mg) : FnOk P w K mg base CX0 5 T.f_root T.d_root ["digests", "leaves"] (sp_root K T.C_Digests 0) := by
  refine T.F_root.ok sc_root (fun vs H Q E h => ?_) (fun cdv A outer s H vs Q E hr h => ?_)
  · obtain ⟨d, vl, nd, a, T, xs, rfl, _⟩ := h; rfl
  · obtain ⟨d, vl, nd, a, TT, xs, rfl, hD, ha, hav, hm, h64, hx, hT, k⟩ := h
    obtain ⟨dx, ho⟩ := hD.o
    refine ⟨_, (pss_cons (ps_if (pt_not (pt_truth (pv 1) (by intro _; rfl))) (pss_one (ps_ret (pe_meth (pv 0) T.cl_Digests T.m_Digests_number (ok_Digests_number T) (hr.mono (by decide)) T.b_Digests_number .nil pass0 (pa_cons (pe_tup (pa_cons pe_str pa_nil)) pa_nil)))) pss_nil)
      (pss_cons (ps_if (pt_cmpR op_eq (pe_callB cq_len (by rfl) T.z_len boot_len (pa_cons (pv 1) pa_nil)) pe_int (nomark _)) (pss_one (ps_ret (pe_meth (pv 0) T.cl_Digests T.m_Digests_number (ok_Digests_number T) (hr.mono (by decide)) T.b_Digests_number .nil pass0 (pa_cons (pe_tup (pa_cons pe_str (pa_cons (pe_ix ix_list (pv 1) pe_int (fun _ _ => rfl)) pa_nil))) pa_nil)))) pss_nil)
      (pss_cons ps_never
      (pss_cons ps_never
      (pss_cons ps_never
      (pss_one ps_never)))))), ?_⟩
    (dsimp only [cxOf, Cx.nox, Cx.wish, L2.start, List.map, List.length, List.replicate, List.cons_append, List.nil_append, List.append_eq, Nat.reduceSub, Nat.reduceAdd])
    walk_at "my_rd"
    refine ⟨_, .inl ⟨_, sqL ha, rfl⟩, ?_⟩
    cases xs with
    | nil =>
      rw [show (!(List.map V.int ([] : List Int)).isEmpty) = false from rfl]
      walk_at "my_rd"
      refine q_methK ho (lkd (by decide +kernel) (by decide +kernel)) fun R hR => ?_
      walk_at "my_rd"
      refine q_tupK (Nat.le_of_ble_eq_true rfl) fun t nt => ?_
      refine hR _ _ (num_use (k := kE) (hD.same (Same.new (Same.refl _) nt)) (.tup upd_same (.cons (.str _) .nil)) okE (by simp at hT; omega) fun H' T' i pre hl dg hat kq => ?_)
      walk_at "my_rd"
      exact k H' T' i pre dg (.empty hat) (by simp; omega) (Kq.trans (Kq.new Kq.refl nt) kq)
    | cons x ys =>
      cases ys with
      | nil =>
        rw [show (!(List.map V.int [x]).isEmpty) = true from rfl]
        walk_at "my_rd"
        rw [decide_eq_true (by simp)]
        walk_at "my_rd"
        refine q_methK ho (lkd (by decide +kernel) (by decide +kernel)) fun R hR => ?_
        walk_at "my_rd"
        refine q_tupK (Nat.le_of_ble_eq_true rfl) fun t nt => ?_
        refine hR _ _ (num_use (k := kL x) (hD.same (Same.new (Same.refl _) nt)) (.tup upd_same (.cons (.str _) (.cons (.int x) .nil))) (okL (hx x List.mem_cons_self)) (by simp at hT; omega) fun H' T' i pre hl dg hat kq => ?_)
        walk_at "my_rd"
        exact k H' T' i pre dg (.leaf hat) (by simp; omega) (Kq.trans (Kq.new Kq.refl nt) kq)
      | cons y zs =>
        exact absurd hm (by simp)
theorem ok_root1 (T : Txt K mg) : FnOk P w K mg base CX0 6 T.f_root T.d_root ["digests", "leaves"] (sp_root K T.C_Digests 1) := by
  obtain ⟨mIH, hmIH⟩ : ∃ n : Nat, n = 0 := ⟨_, rfl⟩
  have ok_rootIH : ∀ T : Txt K mg, FnOk P w K mg base CX0 5 T.f_root T.d_root ["digests", "leaves"] (sp_root K T.C_Digests mIH) := by subst hmIH; exact fun T => ok_root0 T
  refine T.F_root.ok sc_root (fun vs H Q E h => ?_) (fun cdv A outer s H vs Q E hr h => ?_)
  · obtain ⟨d, vl, nd, a, T, xs, rfl, _⟩ := h; rfl
  · obtain ⟨d, vl, nd, a, TT, xs, rfl, hD, ha, hav, hm, h64, hx, hT, k⟩ := h
    obtain ⟨dx, ho⟩ := hD.o
    refine ⟨_, (pss_cons (ps_if (pt_not (pt_truth (pv 1) (by intro _; rfl))) (pss_one (ps_ret (pe_meth (pv 0) T.cl_Digests T.m_Digests_number (ok_Digests_number T) (hr.mono (by decide)) T.b_Digests_number .nil pass0 (pa_cons (pe_tup (pa_cons pe_str pa_nil)) pa_nil)))) pss_nil)
      (pss_cons (ps_if (pt_cmpR op_eq (pe_callB cq_len (by rfl) T.z_len boot_len (pa_cons (pv 1) pa_nil)) pe_int (nomark _)) (pss_one (ps_ret (pe_meth (pv 0) T.cl_Digests T.m_Digests_number (ok_Digests_number T) (hr.mono (by decide)) T.b_Digests_number .nil pass0 (pa_cons (pe_tup (pa_cons pe_str (pa_cons (pe_ix ix_list (pv 1) pe_int (fun _ _ => rfl)) pa_nil))) pa_nil)))) pss_nil)
      (pss_cons (ps_set (i := 2) sc_root.nd rfl (Or.inl rfl) (pe_call (ok_left_size T) (hr.mono (by decide)) (by rfl) T.g_left_size T.F_left_size.kp T.b_left_size .nil pass0 (pa_cons (pe_callB cq_len (by rfl) T.z_len boot_len (pa_cons (pv 1) pa_nil)) pa_nil)))
      (pss_cons (ps_set (i := 3) sc_root.nd rfl (Or.inl rfl) (pe_call (ok_rootIH T) (hr.mono (by decide)) (by rfl) T.g_root T.F_root.kp T.b_root .nil pass0 (pa_cons (pv 0) (pa_cons (pe_slice sl_list (pv 1) po_none (po_some (pv 2))) pa_nil))))
      (pss_cons (ps_set (i := 4) sc_root.nd rfl (Or.inl rfl) (pe_call (ok_rootIH T) (hr.mono (by decide)) (by rfl) T.g_root T.F_root.kp T.b_root .nil pass0 (pa_cons (pv 0) (pa_cons (pe_slice sl_list (pv 1) (po_some (pv 2)) po_none) pa_nil))))
      (pss_one (ps_ret (pe_meth (pv 0) T.cl_Digests T.m_Digests_number (ok_Digests_number T) (hr.mono (by decide)) T.b_Digests_number .nil pass0 (pa_cons (pe_tup (pa_cons pe_str (pa_cons (pv 3) (pa_cons (pv 4) pa_nil)))) pa_nil))))))))), ?_⟩
    (dsimp only [cxOf, Cx.nox, Cx.wish, L2.start, List.map, List.length, List.replicate, List.cons_append, List.nil_append, List.append_eq, Nat.reduceSub, Nat.reduceAdd])
    walk_at "my_rd"
    refine ⟨_, .inl ⟨_, sqL ha, rfl⟩, ?_⟩
    cases xs with
    | nil =>
      rw [show (!(List.map V.int ([] : List Int)).isEmpty) = false from rfl]
      walk_at "my_rd"
      refine q_methK ho (lkd (by decide +kernel) (by decide +kernel)) fun R hR => ?_
      walk_at "my_rd"
      refine q_tupK (Nat.le_of_ble_eq_true rfl) fun t nt => ?_
      refine hR _ _ (num_use (k := kE) (hD.same (Same.new (Same.refl _) nt)) (.tup upd_same (.cons (.str _) .nil)) okE (by simp at hT; omega) fun H' T' i pre hl dg hat kq => ?_)
      walk_at "my_rd"
      exact k H' T' i pre dg (.empty hat) (by simp; omega) (Kq.trans (Kq.new Kq.refl nt) kq)
    | cons x ys =>
      cases ys with
      | nil =>
        rw [show (!(List.map V.int [x]).isEmpty) = true from rfl]
        walk_at "my_rd"
        rw [decide_eq_true (by simp)]
        walk_at "my_rd"
        refine q_methK ho (lkd (by decide +kernel) (by decide +kernel)) fun R hR => ?_
        walk_at "my_rd"
        refine q_tupK (Nat.le_of_ble_eq_true rfl) fun t nt => ?_
        refine hR _ _ (num_use (k := kL x) (hD.same (Same.new (Same.refl _) nt)) (.tup upd_same (.cons (.str _) (.cons (.int x) .nil))) (okL (hx x List.mem_cons_self)) (by simp at hT; omega) fun H' T' i pre hl dg hat kq => ?_)
        walk_at "my_rd"
        exact k H' T' i pre dg (.leaf hat) (by simp; omega) (Kq.trans (Kq.new Kq.refl nt) kq)
      | cons y zs =>
        rw [show (!(List.map V.int (x :: y :: zs)).isEmpty) = true from rfl]
        walk_at "my_rd"
        rw [decide_eq_false (by simp; omega)]
        walk_at "my_rd"
        have hlen : 2 ≤ (x :: y :: zs).length := by simp
        generalize hxs : x :: y :: zs = xs at *
        clear hxs x y zs
        obtain ⟨mo1, mo2, mo3⟩ := mid_ok hlen h64
        have mo4 := mid_pow hlen hm h64 (by decide)
        refine ⟨xs.length, by rw [List.length_map], hlen, h64, ?_⟩
        walk_at "my_rd"
        have lx : (xs.map V.int).length = xs.length := List.length_map ..
        obtain ⟨vs0, hvl0, _⟩ := hD.v
        refine q_slL (sqL ha) fun p1 np1 => ?_
        rw [cut_take (by rw [lx]; omega), ← List.map_take]
        have sm1 : Same H (upd H p1 (.lst ((xs.take (mid xs.length)).map V.int))) := Same.new (Same.refl _) np1
        have lt : (xs.take (mid xs.length)).length = mid xs.length := by rw [List.length_take]; omega
        have ld : (xs.drop (mid xs.length)).length = xs.length - mid xs.length := List.length_drop ..
        walk_at "my_rd"
        refine ⟨d, vl, nd, p1, TT, _, rfl, hD.same sm1, upd_same, (ne_of_none hvl0 np1).symm, by rw [hmIH, lt]; exact mo4, by omega, fun z hz => hx z (List.mem_of_mem_take hz), by omega, fun H1 T1 l pre1 dg1 rt1 hl1 kq1 => ?_⟩
        have kqA : Kq vl nd H H1 := Kq.trans (Kq.same sm1) kq1
        have ha1 : H1 a = some (.lst (xs.map V.int)) := kqA _ _ ha hav (ne_of ha hD.n (by intro z; cases z))
        obtain ⟨vs1, hvl1, _⟩ := dg1.v
        walk_at "my_rd"
        refine q_slL (sqL ha1) fun p2 np2 => ?_
        rw [cut_drop (by rw [lx]; omega), ← List.map_drop]
        have sm2 : Same H1 (upd H1 p2 (.lst ((xs.drop (mid xs.length)).map V.int))) := Same.new (Same.refl _) np2
        walk_at "my_rd"
        rw [lt] at hl1
        refine ⟨d, vl, nd, p2, T1, _, rfl, dg1.same sm2, upd_same, (ne_of_none hvl1 np2).symm, by rw [hmIH, ld]; omega, by omega, fun z hz => hx z (List.mem_of_mem_drop hz), by omega, fun H2 T2 r pre2 dg2 rt2 hl2 kq2 => ?_⟩
        rw [ld] at hl2
        have kqB : Kq vl nd H H2 := Kq.trans kqA (Kq.trans (Kq.same sm2) kq2)
        have hl' := (rt1.mono pre2).at_
        have hr' := rt2.at_
        walk_at "my_rd"
        obtain ⟨dx2, ho2⟩ := dg2.o
        refine q_methK ho2 (lkd (by decide +kernel) (by decide +kernel)) fun R hR => ?_
        walk_at "my_rd"
        refine q_tupK (Nat.le_of_ble_eq_true rfl) fun t nt => ?_
        refine hR _ _ (num_use (k := kN l r) (dg2.same (Same.new (Same.refl _) nt)) (.tup upd_same (.cons (.str _) (.cons (.int _) (.cons (.int _) .nil)))) (okN (by omega) (by omega)) (by omega) fun H3 T3 i pre3 hl3 dg3 hat kq3 => ?_)
        walk_at "my_rd"
        exact k H3 T3 i (pre1.trans (pre2.trans pre3)) dg3 (.node hlen (rt1.mono (pre2.trans pre3)) (rt2.mono pre3) hat) (by omega) (Kq.trans kqB (Kq.trans (Kq.new Kq.refl nt) kq3))
theorem ok_root2 (T : Txt K mg) : FnOk P w K mg base CX0 7 T.f_root T.d_root ["digests", "leaves"] (sp_root K T.C_Digests 2) := by
  obtain ⟨mIH, hmIH⟩ : ∃ n : Nat, n = 1 := ⟨_, rfl⟩
  have ok_rootIH : ∀ T : Txt K mg, FnOk P w K mg base CX0 6 T.f_root T.d_root ["digests", "leaves"] (sp_root K T.C_Digests mIH) := by subst hmIH; exact fun T => ok_root1 T
  refine T.F_root.ok sc_root (fun vs H Q E h => ?_) (fun cdv A outer s H vs Q E hr h => ?_)
  · obtain ⟨d, vl, nd, a, T, xs, rfl, _⟩ := h; rfl
  · obtain ⟨d, vl, nd, a, TT, xs, rfl, hD, ha, hav, hm, h64, hx, hT, k⟩ := h
    obtain ⟨dx, ho⟩ := hD.o
    refine ⟨_, (pss_cons (ps_if (pt_not (pt_truth (pv 1) (by intro _; rfl))) (pss_one (ps_ret (pe_meth (pv 0) T.cl_Digests T.m_Digests_number (ok_Digests_number T) (hr.mono (by decide)) T.b_Digests_number .nil pass0 (pa_cons (pe_tup (pa_cons pe_str pa_nil)) pa_nil)))) pss_nil)
      (pss_cons (ps_if (pt_cmpR op_eq (pe_callB cq_len (by rfl) T.z_len boot_len (pa_cons (pv 1) pa_nil)) pe_int (nomark _)) (pss_one (ps_ret (pe_meth (pv 0) T.cl_Digests T.m_Digests_number (ok_Digests_number T) (hr.mono (by decide)) T.b_Digests_number .nil pass0 (pa_cons (pe_tup (pa_cons pe_str (pa_cons (pe_ix ix_list (pv 1) pe_int (fun _ _ => rfl)) pa_nil))) pa_nil)))) pss_nil)
      (pss_cons (ps_set (i := 2) sc_root.nd rfl (Or.inl rfl) (pe_call (ok_left_size T) (hr.mono (by decide)) (by rfl) T.g_left_size T.F_left_size.kp T.b_left_size .nil pass0 (pa_cons (pe_callB cq_len (by rfl) T.z_len boot_len (pa_cons (pv 1) pa_nil)) pa_nil)))
      (pss_cons (ps_set (i := 3) sc_root.nd rfl (Or.inl rfl) (pe_call (ok_rootIH T) (hr.mono (by decide)) (by rfl) T.g_root T.F_root.kp T.b_root .nil pass0 (pa_cons (pv 0) (pa_cons (pe_slice sl_list (pv 1) po_none (po_some (pv 2))) pa_nil))))
      (pss_cons (ps_set (i := 4) sc_root.nd rfl (Or.inl rfl) (pe_call (ok_rootIH T) (hr.mono (by decide)) (by rfl) T.g_root T.F_root.kp T.b_root .nil pass0 (pa_cons (pv 0) (pa_cons (pe_slice sl_list (pv 1) (po_some (pv 2)) po_none) pa_nil))))
      (pss_one (ps_ret (pe_meth (pv 0) T.cl_Digests T.m_Digests_number (ok_Digests_number T) (hr.mono (by decide)) T.b_Digests_number .nil pass0 (pa_cons (pe_tup (pa_cons pe_str (pa_cons (pv 3) (pa_cons (pv 4) pa_nil)))) pa_nil))))))))), ?_⟩
    (dsimp only [cxOf, Cx.nox, Cx.wish, L2.start, List.map, List.length, List.replicate, List.cons_append, List.nil_append, List.append_eq, Nat.reduceSub, Nat.reduceAdd])
    walk_at "my_rd"
    refine ⟨_, .inl ⟨_, sqL ha, rfl⟩, ?_⟩
    cases xs with
    | nil =>
      rw [show (!(List.map V.int ([] : List Int)).isEmpty) = false from rfl]
      walk_at "my_rd"
      refine q_methK ho (lkd (by decide +kernel) (by decide +kernel)) fun R hR => ?_
      walk_at "my_rd"
      refine q_tupK (Nat.le_of_ble_eq_true rfl) fun t nt => ?_
      refine hR _ _ (num_use (k := kE) (hD.same (Same.new (Same.refl _) nt)) (.tup upd_same (.cons (.str _) .nil)) okE (by simp at hT; omega) fun H' T' i pre hl dg hat kq => ?_)
      walk_at "my_rd"
      exact k H' T' i pre dg (.empty hat) (by simp; omega) (Kq.trans (Kq.new Kq.refl nt) kq)
    | cons x ys =>
      cases ys with
      | nil =>
        rw [show (!(List.map V.int [x]).isEmpty) = true from rfl]
        walk_at "my_rd"
        rw [decide_eq_true (by simp)]
        walk_at "my_rd"
        refine q_methK ho (lkd (by decide +kernel) (by decide +kernel)) fun R hR => ?_
        walk_at "my_rd"
        refine q_tupK (Nat.le_of_ble_eq_true rfl) fun t nt => ?_
        refine hR _ _ (num_use (k := kL x) (hD.same (Same.new (Same.refl _) nt)) (.tup upd_same (.cons (.str _) (.cons (.int x) .nil))) (okL (hx x List.mem_cons_self)) (by simp at hT; omega) fun H' T' i pre hl dg hat kq => ?_)
        walk_at "my_rd"
        exact k H' T' i pre dg (.leaf hat) (by simp; omega) (Kq.trans (Kq.new Kq.refl nt) kq)
      | cons y zs =>
        rw [show (!(List.map V.int (x :: y :: zs)).isEmpty) = true from rfl]
        walk_at "my_rd"
        rw [decide_eq_false (by simp; omega)]
        walk_at "my_rd"
        have hlen : 2 ≤ (x :: y :: zs).length := by simp
        generalize hxs : x :: y :: zs = xs at *
        clear hxs x y zs
        obtain ⟨mo1, mo2, mo3⟩ := mid_ok hlen h64
        have mo4 := mid_pow hlen hm h64 (by decide)
        refine ⟨xs.length, by rw [List.length_map], hlen, h64, ?_⟩
        walk_at "my_rd"
        have lx : (xs.map V.int).length = xs.length := List.length_map ..
        obtain ⟨vs0, hvl0, _⟩ := hD.v
        refine q_slL (sqL ha) fun p1 np1 => ?_
        rw [cut_take (by rw [lx]; omega), ← List.map_take]
        have sm1 : Same H (upd H p1 (.lst ((xs.take (mid xs.length)).map V.int))) := Same.new (Same.refl _) np1
        have lt : (xs.take (mid xs.length)).length = mid xs.length := by rw [List.length_take]; omega
        have ld : (xs.drop (mid xs.length)).length = xs.length - mid xs.length := List.length_drop ..
        walk_at "my_rd"
        refine ⟨d, vl, nd, p1, TT, _, rfl, hD.same sm1, upd_same, (ne_of_none hvl0 np1).symm, by rw [hmIH, lt]; exact mo4, by omega, fun z hz => hx z (List.mem_of_mem_take hz), by omega, fun H1 T1 l pre1 dg1 rt1 hl1 kq1 => ?_⟩
        have kqA : Kq vl nd H H1 := Kq.trans (Kq.same sm1) kq1
        have ha1 : H1 a = some (.lst (xs.map V.int)) := kqA _ _ ha hav (ne_of ha hD.n (by intro z; cases z))
        obtain ⟨vs1, hvl1, _⟩ := dg1.v
        walk_at "my_rd"
        refine q_slL (sqL ha1) fun p2 np2 => ?_
        rw [cut_drop (by rw [lx]; omega), ← List.map_drop]
        have sm2 : Same H1 (upd H1 p2 (.lst ((xs.drop (mid xs.length)).map V.int))) := Same.new (Same.refl _) np2
        walk_at "my_rd"
        rw [lt] at hl1
        refine ⟨d, vl, nd, p2, T1, _, rfl, dg1.same sm2, upd_same, (ne_of_none hvl1 np2).symm, by rw [hmIH, ld]; omega, by omega, fun z hz => hx z (List.mem_of_mem_drop hz), by omega, fun H2 T2 r pre2 dg2 rt2 hl2 kq2 => ?_⟩
        rw [ld] at hl2
        have kqB : Kq vl nd H H2 := Kq.trans kqA (Kq.trans (Kq.same sm2) kq2)
        have hl' := (rt1.mono pre2).at_
        have hr' := rt2.at_
        walk_at "my_rd"
        obtain ⟨dx2, ho2⟩ := dg2.o
        refine q_methK ho2 (lkd (by decide +kernel) (by decide +kernel)) fun R hR => ?_
        walk_at "my_rd"
        refine q_tupK (Nat.le_of_ble_eq_true rfl) fun t nt => ?_
        refine hR _ _ (num_use (k := kN l r) (dg2.same (Same.new (Same.refl _) nt)) (.tup upd_same (.cons (.str _) (.cons (.int _) (.cons (.int _) .nil)))) (okN (by omega) (by omega)) (by omega) fun H3 T3 i pre3 hl3 dg3 hat kq3 => ?_)
        walk_at "my_rd"
        exact k H3 T3 i (pre1.trans (pre2.trans pre3)) dg3 (.node hlen (rt1.mono (pre2.trans pre3)) (rt2.mono pre3) hat) (by omega) (Kq.trans kqB (Kq.trans (Kq.new Kq.refl nt) kq3))
theorem ok_root3 (T : Txt K mg) : FnOk P w K mg base CX0 8 T.f_root T.d_root ["digests", "leaves"] (sp_root K T.C_Digests 3) := by
  obtain ⟨mIH, hmIH⟩ : ∃ n : Nat, n = 2 := ⟨_, rfl⟩
  have ok_rootIH : ∀ T : Txt K mg, FnOk P w K mg base CX0 7 T.f_root T.d_root ["digests", "leaves"] (sp_root K T.C_Digests mIH) := by subst hmIH; exact fun T => ok_root2 T
  refine T.F_root.ok sc_root (fun vs H Q E h => ?_) (fun cdv A outer s H vs Q E hr h => ?_)
  · obtain ⟨d, vl, nd, a, T, xs, rfl, _⟩ := h; rfl
  · obtain ⟨d, vl, nd, a, TT, xs, rfl, hD, ha, hav, hm, h64, hx, hT, k⟩ := h
    obtain ⟨dx, ho⟩ := hD.o
    refine ⟨_, (pss_cons (ps_if (pt_not (pt_truth (pv 1) (by intro _; rfl))) (pss_one (ps_ret (pe_meth (pv 0) T.cl_Digests T.m_Digests_number (ok_Digests_number T) (hr.mono (by decide)) T.b_Digests_number .nil pass0 (pa_cons (pe_tup (pa_cons pe_str pa_nil)) pa_nil)))) pss_nil)
      (pss_cons (ps_if (pt_cmpR op_eq (pe_callB cq_len (by rfl) T.z_len boot_len (pa_cons (pv 1) pa_nil)) pe_int (nomark _)) (pss_one (ps_ret (pe_meth (pv 0) T.cl_Digests T.m_Digests_number (ok_Digests_number T) (hr.mono (by decide)) T.b_Digests_number .nil pass0 (pa_cons (pe_tup (pa_cons pe_str (pa_cons (pe_ix ix_list (pv 1) pe_int (fun _ _ => rfl)) pa_nil))) pa_nil)))) pss_nil)
      (pss_cons (ps_set (i := 2) sc_root.nd rfl (Or.inl rfl) (pe_call (ok_left_size T) (hr.mono (by decide)) (by rfl) T.g_left_size T.F_left_size.kp T.b_left_size .nil pass0 (pa_cons (pe_callB cq_len (by rfl) T.z_len boot_len (pa_cons (pv 1) pa_nil)) pa_nil)))
      (pss_cons (ps_set (i := 3) sc_root.nd rfl (Or.inl rfl) (pe_call (ok_rootIH T) (hr.mono (by decide)) (by rfl) T.g_root T.F_root.kp T.b_root .nil pass0 (pa_cons (pv 0) (pa_cons (pe_slice sl_list (pv 1) po_none (po_some (pv 2))) pa_nil))))
      (pss_cons (ps_set (i := 4) sc_root.nd rfl (Or.inl rfl) (pe_call (ok_rootIH T) (hr.mono (by decide)) (by rfl) T.g_root T.F_root.kp T.b_root .nil pass0 (pa_cons (pv 0) (pa_cons (pe_slice sl_list (pv 1) (po_some (pv 2)) po_none) pa_nil))))
      (pss_one (ps_ret (pe_meth (pv 0) T.cl_Digests T.m_Digests_number (ok_Digests_number T) (hr.mono (by decide)) T.b_Digests_number .nil pass0 (pa_cons (pe_tup (pa_cons pe_str (pa_cons (pv 3) (pa_cons (pv 4) pa_nil)))) pa_nil))))))))), ?_⟩
    (dsimp only [cxOf, Cx.nox, Cx.wish, L2.start, List.map, List.length, List.replicate, List.cons_append, List.nil_append, List.append_eq, Nat.reduceSub, Nat.reduceAdd])
    walk_at "my_rd"
    refine ⟨_, .inl ⟨_, sqL ha, rfl⟩, ?_⟩
    cases xs with
    | nil =>
      rw [show (!(List.map V.int ([] : List Int)).isEmpty) = false from rfl]
      walk_at "my_rd"
      refine q_methK ho (lkd (by decide +kernel) (by decide +kernel)) fun R hR => ?_
      walk_at "my_rd"
      refine q_tupK (Nat.le_of_ble_eq_true rfl) fun t nt => ?_
      refine hR _ _ (num_use (k := kE) (hD.same (Same.new (Same.refl _) nt)) (.tup upd_same (.cons (.str _) .nil)) okE (by simp at hT; omega) fun H' T' i pre hl dg hat kq => ?_)
      walk_at "my_rd"
      exact k H' T' i pre dg (.empty hat) (by simp; omega) (Kq.trans (Kq.new Kq.refl nt) kq)
    | cons x ys =>
      cases ys with
      | nil =>
        rw [show (!(List.map V.int [x]).isEmpty) = true from rfl]
        walk_at "my_rd"
        rw [decide_eq_true (by simp)]
        walk_at "my_rd"
        refine q_methK ho (lkd (by decide +kernel) (by decide +kernel)) fun R hR => ?_
        walk_at "my_rd"
        refine q_tupK (Nat.le_of_ble_eq_true rfl) fun t nt => ?_
        refine hR _ _ (num_use (k := kL x) (hD.same (Same.new (Same.refl _) nt)) (.tup upd_same (.cons (.str _) (.cons (.int x) .nil))) (okL (hx x List.mem_cons_self)) (by simp at hT; omega) fun H' T' i pre hl dg hat kq => ?_)
        walk_at "my_rd"
        exact k H' T' i pre dg (.leaf hat) (by simp; omega) (Kq.trans (Kq.new Kq.refl nt) kq)
      | cons y zs =>
        rw [show (!(List.map V.int (x :: y :: zs)).isEmpty) = true from rfl]
        walk_at "my_rd"
        rw [decide_eq_false (by simp; omega)]
        walk_at "my_rd"
        have hlen : 2 ≤ (x :: y :: zs).length := by simp
        generalize hxs : x :: y :: zs = xs at *
        clear hxs x y zs
        obtain ⟨mo1, mo2, mo3⟩ := mid_ok hlen h64
        have mo4 := mid_pow hlen hm h64 (by decide)
        refine ⟨xs.length, by rw [List.length_map], hlen, h64, ?_⟩
        walk_at "my_rd"
        have lx : (xs.map V.int).length = xs.length := List.length_map ..
        obtain ⟨vs0, hvl0, _⟩ := hD.v
        refine q_slL (sqL ha) fun p1 np1 => ?_
        rw [cut_take (by rw [lx]; omega), ← List.map_take]
        have sm1 : Same H (upd H p1 (.lst ((xs.take (mid xs.length)).map V.int))) := Same.new (Same.refl _) np1
        have lt : (xs.take (mid xs.length)).length = mid xs.length := by rw [List.length_take]; omega
        have ld : (xs.drop (mid xs.length)).length = xs.length - mid xs.length := List.length_drop ..
        walk_at "my_rd"
        refine ⟨d, vl, nd, p1, TT, _, rfl, hD.same sm1, upd_same, (ne_of_none hvl0 np1).symm, by rw [hmIH, lt]; exact mo4, by omega, fun z hz => hx z (List.mem_of_mem_take hz), by omega, fun H1 T1 l pre1 dg1 rt1 hl1 kq1 => ?_⟩
        have kqA : Kq vl nd H H1 := Kq.trans (Kq.same sm1) kq1
        have ha1 : H1 a = some (.lst (xs.map V.int)) := kqA _ _ ha hav (ne_of ha hD.n (by intro z; cases z))
        obtain ⟨vs1, hvl1, _⟩ := dg1.v
        walk_at "my_rd"
        refine q_slL (sqL ha1) fun p2 np2 => ?_
        rw [cut_drop (by rw [lx]; omega), ← List.map_drop]
        have sm2 : Same H1 (upd H1 p2 (.lst ((xs.drop (mid xs.length)).map V.int))) := Same.new (Same.refl _) np2
        walk_at "my_rd"
        rw [lt] at hl1
        refine ⟨d, vl, nd, p2, T1, _, rfl, dg1.same sm2, upd_same, (ne_of_none hvl1 np2).symm, by rw [hmIH, ld]; omega, by omega, fun z hz => hx z (List.mem_of_mem_drop hz), by omega, fun H2 T2 r pre2 dg2 rt2 hl2 kq2 => ?_⟩
        rw [ld] at hl2
        have kqB : Kq vl nd H H2 := Kq.trans kqA (Kq.trans (Kq.same sm2) kq2)
        have hl' := (rt1.mono pre2).at_
        have hr' := rt2.at_
        walk_at "my_rd"
        obtain ⟨dx2, ho2⟩ := dg2.o
        refine q_methK ho2 (lkd (by decide +kernel) (by decide +kernel)) fun R hR => ?_
        walk_at "my_rd"
        refine q_tupK (Nat.le_of_ble_eq_true rfl) fun t nt => ?_
        refine hR _ _ (num_use (k := kN l r) (dg2.same (Same.new (Same.refl _) nt)) (.tup upd_same (.cons (.str _) (.cons (.int _) (.cons (.int _) .nil)))) (okN (by omega) (by omega)) (by omega) fun H3 T3 i pre3 hl3 dg3 hat kq3 => ?_)
        walk_at "my_rd"
        exact k H3 T3 i (pre1.trans (pre2.trans pre3)) dg3 (.node hlen (rt1.mono (pre2.trans pre3)) (rt2.mono pre3) hat) (by omega) (Kq.trans kqB (Kq.trans (Kq.new Kq.refl nt) kq3))
theorem ok_root4 (T : Txt K mg) : FnOk P w K mg base CX0 9 T.f_root T.d_root ["digests", "leaves"] (sp_root K T.C_Digests 4) := by
  obtain ⟨mIH, hmIH⟩ : ∃ n : Nat, n = 3 := ⟨_, rfl⟩
  have ok_rootIH : ∀ T : Txt K mg, FnOk P w K mg base CX0 8 T.f_root T.d_root ["digests", "leaves"] (sp_root K T.C_Digests mIH) := by subst hmIH; exact fun T => ok_root3 T
  refine T.F_root.ok sc_root (fun vs H Q E h => ?_) (fun cdv A outer s H vs Q E hr h => ?_)
  · obtain ⟨d, vl, nd, a, T, xs, rfl, _⟩ := h; rfl
  · obtain ⟨d, vl, nd, a, TT, xs, rfl, hD, ha, hav, hm, h64, hx, hT, k⟩ := h
    obtain ⟨dx, ho⟩ := hD.o
    refine ⟨_, (pss_cons (ps_if (pt_not (pt_truth (pv 1) (by intro _; rfl))) (pss_one (ps_ret (pe_meth (pv 0) T.cl_Digests T.m_Digests_number (ok_Digests_number T) (hr.mono (by decide)) T.b_Digests_number .nil pass0 (pa_cons (pe_tup (pa_cons pe_str pa_nil)) pa_nil)))) pss_nil)
      (pss_cons (ps_if (pt_cmpR op_eq (pe_callB cq_len (by rfl) T.z_len boot_len (pa_cons (pv 1) pa_nil)) pe_int (nomark _)) (pss_one (ps_ret (pe_meth (pv 0) T.cl_Digests T.m_Digests_number (ok_Digests_number T) (hr.mono (by decide)) T.b_Digests_number .nil pass0 (pa_cons (pe_tup (pa_cons pe_str (pa_cons (pe_ix ix_list (pv 1) pe_int (fun _ _ => rfl)) pa_nil))) pa_nil)))) pss_nil)
      (pss_cons (ps_set (i := 2) sc_root.nd rfl (Or.inl rfl) (pe_call (ok_left_size T) (hr.mono (by decide)) (by rfl) T.g_left_size T.F_left_size.kp T.b_left_size .nil pass0 (pa_cons (pe_callB cq_len (by rfl) T.z_len boot_len (pa_cons (pv 1) pa_nil)) pa_nil)))
      (pss_cons (ps_set (i := 3) sc_root.nd rfl (Or.inl rfl) (pe_call (ok_rootIH T) (hr.mono (by decide)) (by rfl) T.g_root T.F_root.kp T.b_root .nil pass0 (pa_cons (pv 0) (pa_cons (pe_slice sl_list (pv 1) po_none (po_some (pv 2))) pa_nil))))
      (pss_cons (ps_set (i := 4) sc_root.nd rfl (Or.inl rfl) (pe_call (ok_rootIH T) (hr.mono (by decide)) (by rfl) T.g_root T.F_root.kp T.b_root .nil pass0 (pa_cons (pv 0) (pa_cons (pe_slice sl_list (pv 1) (po_some (pv 2)) po_none) pa_nil))))
      (pss_one (ps_ret (pe_meth (pv 0) T.cl_Digests T.m_Digests_number (ok_Digests_number T) (hr.mono (by decide)) T.b_Digests_number .nil pass0 (pa_cons (pe_tup (pa_cons pe_str (pa_cons (pv 3) (pa_cons (pv 4) pa_nil)))) pa_nil))))))))), ?_⟩
    (dsimp only [cxOf, Cx.nox, Cx.wish, L2.start, List.map, List.length, List.replicate, List.cons_append, List.nil_append, List.append_eq, Nat.reduceSub, Nat.reduceAdd])
    walk_at "my_rd"
    refine ⟨_, .inl ⟨_, sqL ha, rfl⟩, ?_⟩
    cases xs with
    | nil =>
      rw [show (!(List.map V.int ([] : List Int)).isEmpty) = false from rfl]
      walk_at "my_rd"
      refine q_methK ho (lkd (by decide +kernel) (by decide +kernel)) fun R hR => ?_
      walk_at "my_rd"
      refine q_tupK (Nat.le_of_ble_eq_true rfl) fun t nt => ?_
      refine hR _ _ (num_use (k := kE) (hD.same (Same.new (Same.refl _) nt)) (.tup upd_same (.cons (.str _) .nil)) okE (by simp at hT; omega) fun H' T' i pre hl dg hat kq => ?_)
      walk_at "my_rd"
      exact k H' T' i pre dg (.empty hat) (by simp; omega) (Kq.trans (Kq.new Kq.refl nt) kq)
    | cons x ys =>
      cases ys with
      | nil =>
        rw [show (!(List.map V.int [x]).isEmpty) = true from rfl]
        walk_at "my_rd"
        rw [decide_eq_true (by simp)]
        walk_at "my_rd"
        refine q_methK ho (lkd (by decide +kernel) (by decide +kernel)) fun R hR => ?_
        walk_at "my_rd"
        refine q_tupK (Nat.le_of_ble_eq_true rfl) fun t nt => ?_
        refine hR _ _ (num_use (k := kL x) (hD.same (Same.new (Same.refl _) nt)) (.tup upd_same (.cons (.str _) (.cons (.int x) .nil))) (okL (hx x List.mem_cons_self)) (by simp at hT; omega) fun H' T' i pre hl dg hat kq => ?_)
        walk_at "my_rd"
        exact k H' T' i pre dg (.leaf hat) (by simp; omega) (Kq.trans (Kq.new Kq.refl nt) kq)
      | cons y zs =>
        rw [show (!(List.map V.int (x :: y :: zs)).isEmpty) = true from rfl]
        walk_at "my_rd"
        rw [decide_eq_false (by simp; omega)]
        walk_at "my_rd"
        have hlen : 2 ≤ (x :: y :: zs).length := by simp
        generalize hxs : x :: y :: zs = xs at *
        clear hxs x y zs
        obtain ⟨mo1, mo2, mo3⟩ := mid_ok hlen h64
        have mo4 := mid_pow hlen hm h64 (by decide)
        refine ⟨xs.length, by rw [List.length_map], hlen, h64, ?_⟩
        walk_at "my_rd"
        have lx : (xs.map V.int).length = xs.length := List.length_map ..
        obtain ⟨vs0, hvl0, _⟩ := hD.v
        refine q_slL (sqL ha) fun p1 np1 => ?_
        rw [cut_take (by rw [lx]; omega), ← List.map_take]
        have sm1 : Same H (upd H p1 (.lst ((xs.take (mid xs.length)).map V.int))) := Same.new (Same.refl _) np1
        have lt : (xs.take (mid xs.length)).length = mid xs.length := by rw [List.length_take]; omega
        have ld : (xs.drop (mid xs.length)).length = xs.length - mid xs.length := List.length_drop ..
        walk_at "my_rd"
        refine ⟨d, vl, nd, p1, TT, _, rfl, hD.same sm1, upd_same, (ne_of_none hvl0 np1).symm, by rw [hmIH, lt]; exact mo4, by omega, fun z hz => hx z (List.mem_of_mem_take hz), by omega, fun H1 T1 l pre1 dg1 rt1 hl1 kq1 => ?_⟩
        have kqA : Kq vl nd H H1 := Kq.trans (Kq.same sm1) kq1
        have ha1 : H1 a = some (.lst (xs.map V.int)) := kqA _ _ ha hav (ne_of ha hD.n (by intro z; cases z))
        obtain ⟨vs1, hvl1, _⟩ := dg1.v
        walk_at "my_rd"
        refine q_slL (sqL ha1) fun p2 np2 => ?_
        rw [cut_drop (by rw [lx]; omega), ← List.map_drop]
        have sm2 : Same H1 (upd H1 p2 (.lst ((xs.drop (mid xs.length)).map V.int))) := Same.new (Same.refl _) np2
        walk_at "my_rd"
        rw [lt] at hl1
        refine ⟨d, vl, nd, p2, T1, _, rfl, dg1.same sm2, upd_same, (ne_of_none hvl1 np2).symm, by rw [hmIH, ld]; omega, by omega, fun z hz => hx z (List.mem_of_mem_drop hz), by omega, fun H2 T2 r pre2 dg2 rt2 hl2 kq2 => ?_⟩
        rw [ld] at hl2
        have kqB : Kq vl nd H H2 := Kq.trans kqA (Kq.trans (Kq.same sm2) kq2)
        have hl' := (rt1.mono pre2).at_
        have hr' := rt2.at_
        walk_at "my_rd"
        obtain ⟨dx2, ho2⟩ := dg2.o
        refine q_methK ho2 (lkd (by decide +kernel) (by decide +kernel)) fun R hR => ?_
        walk_at "my_rd"
        refine q_tupK (Nat.le_of_ble_eq_true rfl) fun t nt => ?_
        refine hR _ _ (num_use (k := kN l r) (dg2.same (Same.new (Same.refl _) nt)) (.tup upd_same (.cons (.str _) (.cons (.int _) (.cons (.int _) .nil)))) (okN (by omega) (by omega)) (by omega) fun H3 T3 i pre3 hl3 dg3 hat kq3 => ?_)
        walk_at "my_rd"
        exact k H3 T3 i (pre1.trans (pre2.trans pre3)) dg3 (.node hlen (rt1.mono (pre2.trans pre3)) (rt2.mono pre3) hat) (by omega) (Kq.trans kqB (Kq.trans (Kq.new Kq.refl nt) kq3))
theorem ok_root5 (T : Txt K mg) : FnOk P w K mg base CX0 10 T.f_root T.d_root ["digests", "leaves"] (sp_root K T.C_Digests 5) := by
  obtain ⟨mIH, hmIH⟩ : ∃ n : Nat, n = 4 := ⟨_, rfl⟩
  have ok_rootIH : ∀ T : Txt K mg, FnOk P w K mg base CX0 9 T.f_root T.d_root ["digests", "leaves"] (sp_root K T.C_Digests mIH) := by subst hmIH; exact fun T => ok_root4 T
  refine T.F_root.ok sc_root (fun vs H Q E h => ?_) (fun cdv A outer s H vs Q E hr h => ?_)
  · obtain ⟨d, vl, nd, a, T, xs, rfl, _⟩ := h; rfl
  · obtain ⟨d, vl, nd, a, TT, xs, rfl, hD, ha, hav, hm, h64, hx, hT, k⟩ := h
    obtain ⟨dx, ho⟩ := hD.o
    refine ⟨_, (pss_cons (ps_if (pt_not (pt_truth (pv 1) (by intro _; rfl))) (pss_one (ps_ret (pe_meth (pv 0) T.cl_Digests T.m_Digests_number (ok_Digests_number T) (hr.mono (by decide)) T.b_Digests_number .nil pass0 (pa_cons (pe_tup (pa_cons pe_str pa_nil)) pa_nil)))) pss_nil)
      (pss_cons (ps_if (pt_cmpR op_eq (pe_callB cq_len (by rfl) T.z_len boot_len (pa_cons (pv 1) pa_nil)) pe_int (nomark _)) (pss_one (ps_ret (pe_meth (pv 0) T.cl_Digests T.m_Digests_number (ok_Digests_number T) (hr.mono (by decide)) T.b_Digests_number .nil pass0 (pa_cons (pe_tup (pa_cons pe_str (pa_cons (pe_ix ix_list (pv 1) pe_int (fun _ _ => rfl)) pa_nil))) pa_nil)))) pss_nil)
      (pss_cons (ps_set (i := 2) sc_root.nd rfl (Or.inl rfl) (pe_call (ok_left_size T) (hr.mono (by decide)) (by rfl) T.g_left_size T.F_left_size.kp T.b_left_size .nil pass0 (pa_cons (pe_callB cq_len (by rfl) T.z_len boot_len (pa_cons (pv 1) pa_nil)) pa_nil)))
      (pss_cons (ps_set (i := 3) sc_root.nd rfl (Or.inl rfl) (pe_call (ok_rootIH T) (hr.mono (by decide)) (by rfl) T.g_root T.F_root.kp T.b_root .nil pass0 (pa_cons (pv 0) (pa_cons (pe_slice sl_list (pv 1) po_none (po_some (pv 2))) pa_nil))))
      (pss_cons (ps_set (i := 4) sc_root.nd rfl (Or.inl rfl) (pe_call (ok_rootIH T) (hr.mono (by decide)) (by rfl) T.g_root T.F_root.kp T.b_root .nil pass0 (pa_cons (pv 0) (pa_cons (pe_slice sl_list (pv 1) (po_some (pv 2)) po_none) pa_nil))))
      (pss_one (ps_ret (pe_meth (pv 0) T.cl_Digests T.m_Digests_number (ok_Digests_number T) (hr.mono (by decide)) T.b_Digests_number .nil pass0 (pa_cons (pe_tup (pa_cons pe_str (pa_cons (pv 3) (pa_cons (pv 4) pa_nil)))) pa_nil))))))))), ?_⟩
    (dsimp only [cxOf, Cx.nox, Cx.wish, L2.start, List.map, List.length, List.replicate, List.cons_append, List.nil_append, List.append_eq, Nat.reduceSub, Nat.reduceAdd])
    walk_at "my_rd"
    refine ⟨_, .inl ⟨_, sqL ha, rfl⟩, ?_⟩
    cases xs with
    | nil =>
      rw [show (!(List.map V.int ([] : List Int)).isEmpty) = false from rfl]
      walk_at "my_rd"
      refine q_methK ho (lkd (by decide +kernel) (by decide +kernel)) fun R hR => ?_
      walk_at "my_rd"
      refine q_tupK (Nat.le_of_ble_eq_true rfl) fun t nt => ?_
      refine hR _ _ (num_use (k := kE) (hD.same (Same.new (Same.refl _) nt)) (.tup upd_same (.cons (.str _) .nil)) okE (by simp at hT; omega) fun H' T' i pre hl dg hat kq => ?_)
      walk_at "my_rd"
      exact k H' T' i pre dg (.empty hat) (by simp; omega) (Kq.trans (Kq.new Kq.refl nt) kq)
    | cons x ys =>
      cases ys with
      | nil =>
        rw [show (!(List.map V.int [x]).isEmpty) = true from rfl]
        walk_at "my_rd"
        rw [decide_eq_true (by simp)]
        walk_at "my_rd"
        refine q_methK ho (lkd (by decide +kernel) (by decide +kernel)) fun R hR => ?_
        walk_at "my_rd"
        refine q_tupK (Nat.le_of_ble_eq_true rfl) fun t nt => ?_
        refine hR _ _ (num_use (k := kL x) (hD.same (Same.new (Same.refl _) nt)) (.tup upd_same (.cons (.str _) (.cons (.int x) .nil))) (okL (hx x List.mem_cons_self)) (by simp at hT; omega) fun H' T' i pre hl dg hat kq => ?_)
        walk_at "my_rd"
        exact k H' T' i pre dg (.leaf hat) (by simp; omega) (Kq.trans (Kq.new Kq.refl nt) kq)
      | cons y zs =>
        rw [show (!(List.map V.int (x :: y :: zs)).isEmpty) = true from rfl]
        walk_at "my_rd"
        rw [decide_eq_false (by simp; omega)]
        walk_at "my_rd"
        have hlen : 2 ≤ (x :: y :: zs).length := by simp
        generalize hxs : x :: y :: zs = xs at *
        clear hxs x y zs
        obtain ⟨mo1, mo2, mo3⟩ := mid_ok hlen h64
        have mo4 := mid_pow hlen hm h64 (by decide)
        refine ⟨xs.length, by rw [List.length_map], hlen, h64, ?_⟩
        walk_at "my_rd"
        have lx : (xs.map V.int).length = xs.length := List.length_map ..
        obtain ⟨vs0, hvl0, _⟩ := hD.v
        refine q_slL (sqL ha) fun p1 np1 => ?_
        rw [cut_take (by rw [lx]; omega), ← List.map_take]
        have sm1 : Same H (upd H p1 (.lst ((xs.take (mid xs.length)).map V.int))) := Same.new (Same.refl _) np1
        have lt : (xs.take (mid xs.length)).length = mid xs.length := by rw [List.length_take]; omega
        have ld : (xs.drop (mid xs.length)).length = xs.length - mid xs.length := List.length_drop ..
        walk_at "my_rd"
        refine ⟨d, vl, nd, p1, TT, _, rfl, hD.same sm1, upd_same, (ne_of_none hvl0 np1).symm, by rw [hmIH, lt]; exact mo4, by omega, fun z hz => hx z (List.mem_of_mem_take hz), by omega, fun H1 T1 l pre1 dg1 rt1 hl1 kq1 => ?_⟩
        have kqA : Kq vl nd H H1 := Kq.trans (Kq.same sm1) kq1
        have ha1 : H1 a = some (.lst (xs.map V.int)) := kqA _ _ ha hav (ne_of ha hD.n (by intro z; cases z))
        obtain ⟨vs1, hvl1, _⟩ := dg1.v
        walk_at "my_rd"
        refine q_slL (sqL ha1) fun p2 np2 => ?_
        rw [cut_drop (by rw [lx]; omega), ← List.map_drop]
        have sm2 : Same H1 (upd H1 p2 (.lst ((xs.drop (mid xs.length)).map V.int))) := Same.new (Same.refl _) np2
        walk_at "my_rd"
        rw [lt] at hl1
        refine ⟨d, vl, nd, p2, T1, _, rfl, dg1.same sm2, upd_same, (ne_of_none hvl1 np2).symm, by rw [hmIH, ld]; omega, by omega, fun z hz => hx z (List.mem_of_mem_drop hz), by omega, fun H2 T2 r pre2 dg2 rt2 hl2 kq2 => ?_⟩
        rw [ld] at hl2
        have kqB : Kq vl nd H H2 := Kq.trans kqA (Kq.trans (Kq.same sm2) kq2)
        have hl' := (rt1.mono pre2).at_
        have hr' := rt2.at_
        walk_at "my_rd"
        obtain ⟨dx2, ho2⟩ := dg2.o
        refine q_methK ho2 (lkd (by decide +kernel) (by decide +kernel)) fun R hR => ?_
        walk_at "my_rd"
        refine q_tupK (Nat.le_of_ble_eq_true rfl) fun t nt => ?_
        refine hR _ _ (num_use (k := kN l r) (dg2.same (Same.new (Same.refl _) nt)) (.tup upd_same (.cons (.str _) (.cons (.int _) (.cons (.int _) .nil)))) (okN (by omega) (by omega)) (by omega) fun H3 T3 i pre3 hl3 dg3 hat kq3 => ?_)
        walk_at "my_rd"
        exact k H3 T3 i (pre1.trans (pre2.trans pre3)) dg3 (.node hlen (rt1.mono (pre2.trans pre3)) (rt2.mono pre3) hat) (by omega) (Kq.trans kqB (Kq.trans (Kq.new Kq.refl nt) kq3))
end

local macro_rules | `(tactic| walk_at "my_rd") => `(tactic| (repeat first
  | with_reducible refine q_tCons ?_
  | ((with_reducible apply q_var); (focus (exact rfl)))
  | with_reducible refine q_c ?_
  | with_reducible refine q_nx ?_
  | with_reducible refine q_bK ?_
  | with_reducible refine q_call ?_
  | with_reducible refine q_callK ?_
  | with_reducible refine q_tNil ?_
  | with_reducible refine q_cb ?_
  | with_reducible refine q_seq ?_
  | with_reducible refine q_asg ?_
  | with_reducible refine q_gName ?_
  | with_reducible refine q_op ?_
  | with_reducible refine q_test ?_
  | with_reducible refine q_tB ?_
  | with_reducible refine q_ifS ?_
  | with_reducible refine q_ret ?_
  | with_reducible refine q_rt ?_
  | with_reducible refine q_next ?_
  | with_reducible refine q_ifF ?_
  | with_reducible refine q_ifT ?_
  | with_reducible refine q_drop ?_
  | with_reducible refine q_and ?_
  | with_reducible refine q_or ?_
  | with_reducible refine q_andT ?_
  | with_reducible refine q_andF ?_
  | with_reducible refine q_orF ?_
  | with_reducible refine q_orT ?_
  | with_reducible refine q_andV ?_
  | with_reducible refine q_andVT ?_
  | with_reducible refine q_andVF ?_
  | with_reducible refine q_orV ?_
  | with_reducible refine q_gCons ?_
  | with_reducible refine q_gNil ?_
  | with_reducible refine q_tup ?_
  | with_reducible refine q_lst ?_
  | with_reducible refine q_not ?_
  | with_reducible refine q_notKT ?_
  | with_reducible refine q_notKF ?_
  | with_reducible refine q_I0 ?_
  | with_reducible refine q_eqI ?_
  | with_reducible refine q_neI ?_
  | ((with_reducible refine q_I ?_ ?_); first | decide | omega | exact ⟨by omega, by omega⟩ | exact ⟨by decide, by decide⟩ | exact .inl ⟨by omega, by omega⟩ | exact .inr ⟨by omega, by omega⟩ | exact .inr ⟨by decide, by decide⟩)
  | with_reducible refine q_eqS ?_
  | with_reducible refine q_neS ?_
  | with_reducible refine q_brk ?_
  | with_reducible refine q_ct ?_
  | with_reducible refine q_bk ?_
  | with_reducible refine q_cn ?_
  | with_reducible refine q_retN ?_
  | with_reducible refine q_gSub ?_
  | with_reducible refine q_for ?_
  | with_reducible refine q_iList ?_
  | with_reducible refine q_iTup ?_
  | with_reducible refine q_iRng1 ?_
  | with_reducible refine q_notK ?_
  | with_reducible refine q_orVT ?_
  | with_reducible refine q_orVF ?_
  | with_reducible refine q_notV ?_
  | with_reducible refine q_notVK ?_
  | with_reducible refine q_ifE ?_
  | with_reducible refine q_ifET ?_
  | with_reducible refine q_ifEF ?_
  | with_reducible refine q_yes ?_
  | with_reducible refine q_un ?_
  | with_reducible refine q_rU ?_
  | with_reducible refine q_abs ?_
  | with_reducible refine q_int1 ?_
  | with_reducible refine q_bm ?_
  | with_reducible refine q_bm0 ?_
  | with_reducible refine q_lc ?_
  | with_reducible refine q_keepT ?_
  | with_reducible refine q_keepF ?_
  | ((with_reducible apply q_aug); (focus (exact rfl)))
  | with_reducible refine q_ipI ?_
  | with_reducible refine q_chain ?_
  | with_reducible refine q_pairC ?_
  | with_reducible refine q_pairsK ?_
  | with_reducible refine q_pairN ?_
  | with_reducible refine q_fld ?_
  | with_reducible refine q_sFld ?_
  | with_reducible refine q_meth ?_
  | with_reducible refine q_makeK ?_
  | with_reducible refine q_isBl ?_
  | with_reducible refine q_notBl ?_
  | with_reducible refine q_sl ?_
  | with_reducible refine q_noPart ?_
  | with_reducible refine q_part ?_
  | with_reducible refine q_partK ?_
  | ((with_reducible apply q_mulStr); (focus (decide +kernel)))
  | with_reducible refine q_chT ?_
  | with_reducible refine q_chF ?_
  | with_reducible refine q_ord ?_
  | with_reducible refine q_iStr0 ?_
  | with_reducible refine q_iStr ?_
  | with_reducible refine q_tDIn ?_
  | with_reducible refine q_tDNotIn ?_
  | with_reducible refine q_tDGet ?_
  | with_reducible refine q_tDGet2 ?_
  | with_reducible refine q_tDGet1 ?_
  | with_reducible refine q_tDSetd ?_
  | ((with_reducible apply q_dG2a); (focus ((repeat first | (with_reducible exact upd_same) | (with_reducible assumption) | (with_reducible apply upd_new (by assumption)) | (with_reducible apply upd_other (by first | assumption | exact Ne.symm (by assumption))) | (with_reducible refine' Kp.get (by assumption) ?_ (by first | assumption | exact Ne.symm (by assumption))) | (with_reducible apply Same.get (by assumption))); done)))
  | ((with_reducible apply q_dSda); (focus ((repeat first | (with_reducible exact upd_same) | (with_reducible assumption) | (with_reducible apply upd_new (by assumption)) | (with_reducible apply upd_other (by first | assumption | exact Ne.symm (by assumption))) | (with_reducible refine' Kp.get (by assumption) ?_ (by first | assumption | exact Ne.symm (by assumption))) | (with_reducible apply Same.get (by assumption))); done)))
  | with_reducible refine q_sDPut ?_
  | ((with_reducible apply q_dInS); (focus ((repeat first | (with_reducible exact upd_same) | (with_reducible assumption) | (with_reducible apply upd_new (by assumption)) | (with_reducible apply upd_other (by first | assumption | exact Ne.symm (by assumption))) | (with_reducible refine' Kp.get (by assumption) ?_ (by first | assumption | exact Ne.symm (by assumption))) | (with_reducible apply Same.get (by assumption))); done)))
  | ((with_reducible apply q_dNInS); (focus ((repeat first | (with_reducible exact upd_same) | (with_reducible assumption) | (with_reducible apply upd_new (by assumption)) | (with_reducible apply upd_other (by first | assumption | exact Ne.symm (by assumption))) | (with_reducible refine' Kp.get (by assumption) ?_ (by first | assumption | exact Ne.symm (by assumption))) | (with_reducible apply Same.get (by assumption))); done)))
  | ((with_reducible apply q_dInI); (focus ((repeat first | (with_reducible exact upd_same) | (with_reducible assumption) | (with_reducible apply upd_new (by assumption)) | (with_reducible apply upd_other (by first | assumption | exact Ne.symm (by assumption))) | (with_reducible refine' Kp.get (by assumption) ?_ (by first | assumption | exact Ne.symm (by assumption))) | (with_reducible apply Same.get (by assumption))); done)))
  | ((with_reducible apply q_dNInI); (focus ((repeat first | (with_reducible exact upd_same) | (with_reducible assumption) | (with_reducible apply upd_new (by assumption)) | (with_reducible apply upd_other (by first | assumption | exact Ne.symm (by assumption))) | (with_reducible refine' Kp.get (by assumption) ?_ (by first | assumption | exact Ne.symm (by assumption))) | (with_reducible apply Same.get (by assumption))); done)))
  | ((with_reducible apply q_bmL); (focus ((repeat first | (with_reducible exact upd_same) | (with_reducible assumption) | (with_reducible apply upd_new (by assumption)) | (with_reducible apply upd_other (by first | assumption | exact Ne.symm (by assumption))) | (with_reducible refine' Kp.get (by assumption) ?_ (by first | assumption | exact Ne.symm (by assumption))) | (with_reducible apply Same.get (by assumption))); done)))
  | ((with_reducible apply q_bmL0); (focus ((repeat first | (with_reducible exact upd_same) | (with_reducible assumption) | (with_reducible apply upd_new (by assumption)) | (with_reducible apply upd_other (by first | assumption | exact Ne.symm (by assumption))) | (with_reducible refine' Kp.get (by assumption) ?_ (by first | assumption | exact Ne.symm (by assumption))) | (with_reducible apply Same.get (by assumption))); done)))
  | ((with_reducible apply q_ixLt); (focus ((repeat first | (with_reducible exact upd_same) | (with_reducible assumption) | (with_reducible apply upd_new (by assumption)) | (with_reducible apply upd_other (by first | assumption | exact Ne.symm (by assumption))) | (with_reducible refine' Kp.get (by assumption) ?_ (by first | assumption | exact Ne.symm (by assumption))) | (with_reducible apply Same.get (by assumption))); done)); (focus (exact rfl)))
  | ((with_reducible apply q_ixTt); (focus ((repeat first | (with_reducible exact upd_same) | (with_reducible assumption) | (with_reducible apply upd_new (by assumption)) | (with_reducible apply upd_other (by first | assumption | exact Ne.symm (by assumption))) | (with_reducible refine' Kp.get (by assumption) ?_ (by first | assumption | exact Ne.symm (by assumption))) | (with_reducible apply Same.get (by assumption))); done)); (focus (exact rfl)))
  | ((with_reducible apply q_lenLt); (focus ((repeat first | (with_reducible exact upd_same) | (with_reducible assumption) | (with_reducible apply upd_new (by assumption)) | (with_reducible apply upd_other (by first | assumption | exact Ne.symm (by assumption))) | (with_reducible refine' Kp.get (by assumption) ?_ (by first | assumption | exact Ne.symm (by assumption))) | (with_reducible apply Same.get (by assumption))); done)))
  | ((with_reducible apply q_lenTt); (focus ((repeat first | (with_reducible exact upd_same) | (with_reducible assumption) | (with_reducible apply upd_new (by assumption)) | (with_reducible apply upd_other (by first | assumption | exact Ne.symm (by assumption))) | (with_reducible refine' Kp.get (by assumption) ?_ (by first | assumption | exact Ne.symm (by assumption))) | (with_reducible apply Same.get (by assumption))); done)))
  | ((with_reducible apply q_append); (focus ((repeat first | (with_reducible exact upd_same) | (with_reducible assumption) | (with_reducible apply upd_new (by assumption)) | (with_reducible apply upd_other (by first | assumption | exact Ne.symm (by assumption))) | (with_reducible refine' Kp.get (by assumption) ?_ (by first | assumption | exact Ne.symm (by assumption))) | (with_reducible apply Same.get (by assumption))); done)); (focus ((first | (exact Nat.lt_of_ble_eq_true rfl) | (simp only [List.length_append, List.length_cons, List.length_nil, List.length_map]; exact small1000 (by omega))))))
  | ((with_reducible apply q_setL); (focus ((repeat first | (with_reducible exact upd_same) | (with_reducible assumption) | (with_reducible apply upd_new (by assumption)) | (with_reducible apply upd_other (by first | assumption | exact Ne.symm (by assumption))) | (with_reducible refine' Kp.get (by assumption) ?_ (by first | assumption | exact Ne.symm (by assumption))) | (with_reducible apply Same.get (by assumption))); done)); (focus (exact rfl)))
  | with_reducible refine q_ifNT ?_
  | with_reducible refine q_ifNF ?_
  | with_reducible refine q_andNT ?_
  | with_reducible refine q_andNF ?_
  | with_reducible refine q_orNT ?_
  | with_reducible refine q_orNF ?_
  | with_reducible refine q_bKNT ?_
  | with_reducible refine q_bKNF ?_
  | with_reducible refine q_tNGet ?_
  | with_reducible refine q_tNIn ?_
  | with_reducible refine q_sNPut ?_
  | with_reducible refine q_sFldAug ?_
  | with_reducible refine q_sDAug ?_
  | with_reducible refine q_sDDel ?_
  | with_reducible refine q_forX ?_
  | with_reducible refine q_tMake ?_
  | ((with_reducible apply q_dG1a); (focus ((repeat first | (with_reducible exact upd_same) | (with_reducible assumption) | (with_reducible apply upd_new (by assumption)) | (with_reducible apply upd_other (by first | assumption | exact Ne.symm (by assumption))) | (with_reducible refine' Kp.get (by assumption) ?_ (by first | assumption | exact Ne.symm (by assumption))) | (with_reducible apply Same.get (by assumption))); done)))))
open TL
/-! the law's own root -/
def lpw (n : Nat) : Nat → Nat
  | 0 => 1
  | i + 1 => if 2 * lpw n i < n then 2 * lpw n i else lpw n i
theorem lpw_t {n i : Nat} (h : 2 * lpw n i < n) : lpw n (i + 1) = 2 * lpw n i := if_pos h
theorem lpw_f {n i : Nat} (h : ¬ 2 * lpw n i < n) : lpw n (i + 1) = lpw n i := if_neg h
theorem lpw_mid : ∀ n : Nat, n < 65 → 2 ≤ n → lpw n 8 = mid n := by decide +kernel
section
variable {P : Program} {w : World} {K : PySem.W.Frag} {mg : Str → Option Value} {base : Heap}
theorem ok_L_root0 (T : Txt K mg) : FnOk P w K mg base CX0 5 T.f_L_root T.d_L_root ["digests", "leaves"] (sp_root K T.C_Digests 0) := by
  refine T.F_L_root.ok sc_L_root (fun vs H Q E h => ?_) (fun cdv A outer s H vs Q E hr h => ?_)
  · obtain ⟨d, vl, nd, a, T, xs, rfl, _⟩ := h; rfl
  · obtain ⟨d, vl, nd, a, TT, xs, rfl, hD, ha, hav, hm, h64, hx, hT, k⟩ := h
    obtain ⟨dx, ho⟩ := hD.o
    refine ⟨_, (pss_cons (ps_if (pt_cmpR op_eq (pe_callB cq_len (by rfl) T.z_len boot_len (pa_cons (pv 1) pa_nil)) pe_int (nomark _)) (pss_one (ps_ret (pe_meth (pv 0) T.cl_Digests T.m_Digests_number (ok_Digests_number T) (hr.mono (by decide)) T.b_Digests_number .nil pass0 (pa_cons (pe_tup (pa_cons pe_str pa_nil)) pa_nil)))) pss_nil)
      (pss_cons (ps_if (pt_cmpR op_eq (pe_callB cq_len (by rfl) T.z_len boot_len (pa_cons (pv 1) pa_nil)) pe_int (nomark _)) (pss_one (ps_ret (pe_meth (pv 0) T.cl_Digests T.m_Digests_number (ok_Digests_number T) (hr.mono (by decide)) T.b_Digests_number .nil pass0 (pa_cons (pe_tup (pa_cons pe_str (pa_cons (pe_ix ix_list (pv 1) pe_int (fun _ _ => rfl)) pa_nil))) pa_nil)))) pss_nil)
      (pss_cons ps_never
      (pss_cons ps_never
      (pss_one ps_never))))), ?_⟩
    (dsimp only [cxOf, Cx.nox, Cx.wish, L2.start, List.map, List.length, List.replicate, List.cons_append, List.nil_append, List.append_eq, Nat.reduceSub, Nat.reduceAdd])
    walk_at "my_rd"
    cases xs with
    | nil =>
      rw [decide_eq_true (by simp)]
      walk_at "my_rd"
      refine q_methK ho (lkd (by decide +kernel) (by decide +kernel)) fun R hR => ?_
      walk_at "my_rd"
      refine q_tupK (Nat.le_of_ble_eq_true rfl) fun t nt => ?_
      refine hR _ _ (num_use (k := kE) (hD.same (Same.new (Same.refl _) nt)) (.tup upd_same (.cons (.str _) .nil)) okE (by simp at hT; omega) fun H' T' i pre hl dg hat kq => ?_)
      walk_at "my_rd"
      exact k H' T' i pre dg (.empty hat) (by simp; omega) (Kq.trans (Kq.new Kq.refl nt) kq)
    | cons x ys =>
      cases ys with
      | nil =>
        rw [decide_eq_false (by simp)]
        walk_at "my_rd"
        rw [decide_eq_true (by simp)]
        walk_at "my_rd"
        refine q_methK ho (lkd (by decide +kernel) (by decide +kernel)) fun R hR => ?_
        walk_at "my_rd"
        refine q_tupK (Nat.le_of_ble_eq_true rfl) fun t nt => ?_
        refine hR _ _ (num_use (k := kL x) (hD.same (Same.new (Same.refl _) nt)) (.tup upd_same (.cons (.str _) (.cons (.int x) .nil))) (okL (hx x List.mem_cons_self)) (by simp at hT; omega) fun H' T' i pre hl dg hat kq => ?_)
        walk_at "my_rd"
        exact k H' T' i pre dg (.leaf hat) (by simp; omega) (Kq.trans (Kq.new Kq.refl nt) kq)
      | cons y zs =>
        exact absurd hm (by simp)
theorem ok_L_root1 (T : Txt K mg) : FnOk P w K mg base CX0 6 T.f_L_root T.d_L_root ["digests", "leaves"] (sp_root K T.C_Digests 1) := by
  obtain ⟨mIH, hmIH⟩ : ∃ n : Nat, n = 0 := ⟨_, rfl⟩
  have ok_L_rootIH : ∀ T : Txt K mg, FnOk P w K mg base CX0 5 T.f_L_root T.d_L_root ["digests", "leaves"] (sp_root K T.C_Digests mIH) := by subst hmIH; exact fun T => ok_L_root0 T
  refine T.F_L_root.ok sc_L_root (fun vs H Q E h => ?_) (fun cdv A outer s H vs Q E hr h => ?_)
  · obtain ⟨d, vl, nd, a, T, xs, rfl, _⟩ := h; rfl
  · obtain ⟨d, vl, nd, a, TT, xs, rfl, hD, ha, hav, hm, h64, hx, hT, k⟩ := h
    obtain ⟨dx, ho⟩ := hD.o
    refine ⟨_, (pss_cons (ps_if (pt_cmpR op_eq (pe_callB cq_len (by rfl) T.z_len boot_len (pa_cons (pv 1) pa_nil)) pe_int (nomark _)) (pss_one (ps_ret (pe_meth (pv 0) T.cl_Digests T.m_Digests_number (ok_Digests_number T) (hr.mono (by decide)) T.b_Digests_number .nil pass0 (pa_cons (pe_tup (pa_cons pe_str pa_nil)) pa_nil)))) pss_nil)
      (pss_cons (ps_if (pt_cmpR op_eq (pe_callB cq_len (by rfl) T.z_len boot_len (pa_cons (pv 1) pa_nil)) pe_int (nomark _)) (pss_one (ps_ret (pe_meth (pv 0) T.cl_Digests T.m_Digests_number (ok_Digests_number T) (hr.mono (by decide)) T.b_Digests_number .nil pass0 (pa_cons (pe_tup (pa_cons pe_str (pa_cons (pe_ix ix_list (pv 1) pe_int (fun _ _ => rfl)) pa_nil))) pa_nil)))) pss_nil)
      (pss_cons (ps_set (i := 2) sc_L_root.nd rfl (Or.inl rfl) pe_int)
      (pss_cons (ps_for PassesOwn.never rfl (pi_range1 (by rfl) T.z_range (pa_cons pe_int pa_nil)) (pg_name (i := 3) sc_L_root.nd rfl (Or.inl rfl))
        (pss_one (ps_if (pt_cmpR op_lt (pe_op op_mul pe_int (pv 2)) (pe_callB cq_len (by rfl) T.z_len boot_len (pa_cons (pv 1) pa_nil)) (nomark _)) (pss_one (ps_set (i := 2) sc_L_root.nd rfl (Or.inl rfl) (pe_op op_mul pe_int (pv 2)))) pss_nil)))
      (pss_one (ps_ret (pe_meth (pv 0) T.cl_Digests T.m_Digests_number (ok_Digests_number T) (hr.mono (by decide)) T.b_Digests_number .nil pass0 (pa_cons (pe_tup (pa_cons pe_str (pa_cons (pe_call (ok_L_rootIH T) (hr.mono (by decide)) (by rfl) T.g_L_root T.F_L_root.kp T.b_L_root .nil pass0 (pa_cons (pv 0) (pa_cons (pe_slice sl_list (pv 1) po_none (po_some (pv 2))) pa_nil))) (pa_cons (pe_call (ok_L_rootIH T) (hr.mono (by decide)) (by rfl) T.g_L_root T.F_L_root.kp T.b_L_root .nil pass0 (pa_cons (pv 0) (pa_cons (pe_slice sl_list (pv 1) (po_some (pv 2)) po_none) pa_nil))) pa_nil)))) pa_nil)))))))), ?_⟩
    (dsimp only [cxOf, Cx.nox, Cx.wish, L2.start, List.map, List.length, List.replicate, List.cons_append, List.nil_append, List.append_eq, Nat.reduceSub, Nat.reduceAdd])
    walk_at "my_rd"
    cases xs with
    | nil =>
      rw [decide_eq_true (by simp)]
      walk_at "my_rd"
      refine q_methK ho (lkd (by decide +kernel) (by decide +kernel)) fun R hR => ?_
      walk_at "my_rd"
      refine q_tupK (Nat.le_of_ble_eq_true rfl) fun t nt => ?_
      refine hR _ _ (num_use (k := kE) (hD.same (Same.new (Same.refl _) nt)) (.tup upd_same (.cons (.str _) .nil)) okE (by simp at hT; omega) fun H' T' i pre hl dg hat kq => ?_)
      walk_at "my_rd"
      exact k H' T' i pre dg (.empty hat) (by simp; omega) (Kq.trans (Kq.new Kq.refl nt) kq)
    | cons x ys =>
      cases ys with
      | nil =>
        rw [decide_eq_false (by simp)]
        walk_at "my_rd"
        rw [decide_eq_true (by simp)]
        walk_at "my_rd"
        refine q_methK ho (lkd (by decide +kernel) (by decide +kernel)) fun R hR => ?_
        walk_at "my_rd"
        refine q_tupK (Nat.le_of_ble_eq_true rfl) fun t nt => ?_
        refine hR _ _ (num_use (k := kL x) (hD.same (Same.new (Same.refl _) nt)) (.tup upd_same (.cons (.str _) (.cons (.int x) .nil))) (okL (hx x List.mem_cons_self)) (by simp at hT; omega) fun H' T' i pre hl dg hat kq => ?_)
        walk_at "my_rd"
        exact k H' T' i pre dg (.leaf hat) (by simp; omega) (Kq.trans (Kq.new Kq.refl nt) kq)
      | cons y zs =>
        rw [decide_eq_false (by simp; omega)]
        walk_at "my_rd"
        rw [decide_eq_false (by simp; omega)]
        walk_at "my_rd"
        have hlen : 2 ≤ (x :: y :: zs).length := by simp
        generalize hxs : x :: y :: zs = xs at *
        clear hxs x y zs
        obtain ⟨mo1, mo2, mo3⟩ := mid_ok hlen h64
        have mo4 := mid_pow hlen hm h64 (by decide)
        refine q_forR ⟨by decide, by decide⟩ (fun i σ H' => H = H' ∧ ∃ v3 : Option V, σ = [some (.ref d), some (.ref a), some (.int (lpw xs.length i : Nat)), v3]) ⟨rfl, _, rfl⟩ ?_ ?_
        · rintro i σ H' hi ⟨rfl, v3, rfl⟩
          walk_at "my_rd"
          rw [List.length_map]
          refine q_if2 (fun h => ?_) (fun h => ?_)
          · have h := dec_t h
            walk_at "my_rd"
            refine ⟨rfl, ?_⟩
            rw [lpw_t (show 2 * lpw xs.length i < xs.length by omega)]
            exact ⟨_, rfl⟩
          · have h := dec_f h
            walk_at "my_rd"
            refine ⟨rfl, ?_⟩
            rw [lpw_f (show ¬ 2 * lpw xs.length i < xs.length by omega)]
            exact ⟨_, rfl⟩
        rintro σ H' ⟨rfl, v3, rfl⟩
        rw [show (8 : Int).toNat = 8 from rfl, lpw_mid _ (by omega) hlen]
        walk_at "my_rd"
        refine q_methK ho (lkd (by decide +kernel) (by decide +kernel)) fun R hR => ?_
        walk_at "my_rd"
        have lx : (xs.map V.int).length = xs.length := List.length_map ..
        obtain ⟨vs0, hvl0, _⟩ := hD.v
        refine q_slL (sqL ha) fun p1 np1 => ?_
        rw [cut_take (by rw [lx]; omega), ← List.map_take]
        have sm1 : Same H (upd H p1 (.lst ((xs.take (mid xs.length)).map V.int))) := Same.new (Same.refl _) np1
        have lt : (xs.take (mid xs.length)).length = mid xs.length := by rw [List.length_take]; omega
        have ld : (xs.drop (mid xs.length)).length = xs.length - mid xs.length := List.length_drop ..
        walk_at "my_rd"
        refine ⟨d, vl, nd, p1, TT, _, rfl, hD.same sm1, upd_same, (ne_of_none hvl0 np1).symm, by rw [hmIH, lt]; exact mo4, by omega, fun z hz => hx z (List.mem_of_mem_take hz), by omega, fun H1 T1 l pre1 dg1 rt1 hl1 kq1 => ?_⟩
        have kqA : Kq vl nd H H1 := Kq.trans (Kq.same sm1) kq1
        have ha1 : H1 a = some (.lst (xs.map V.int)) := kqA _ _ ha hav (ne_of ha hD.n (by intro z; cases z))
        obtain ⟨vs1, hvl1, _⟩ := dg1.v
        walk_at "my_rd"
        refine q_slL (sqL ha1) fun p2 np2 => ?_
        rw [cut_drop (by rw [lx]; omega), ← List.map_drop]
        have sm2 : Same H1 (upd H1 p2 (.lst ((xs.drop (mid xs.length)).map V.int))) := Same.new (Same.refl _) np2
        walk_at "my_rd"
        rw [lt] at hl1
        refine ⟨d, vl, nd, p2, T1, _, rfl, dg1.same sm2, upd_same, (ne_of_none hvl1 np2).symm, by rw [hmIH, ld]; omega, by omega, fun z hz => hx z (List.mem_of_mem_drop hz), by omega, fun H2 T2 r pre2 dg2 rt2 hl2 kq2 => ?_⟩
        rw [ld] at hl2
        have kqB : Kq vl nd H H2 := Kq.trans kqA (Kq.trans (Kq.same sm2) kq2)
        have hl' := (rt1.mono pre2).at_
        have hr' := rt2.at_
        walk_at "my_rd"
        refine q_tupK (Nat.le_of_ble_eq_true rfl) fun t nt => ?_
        refine hR _ _ (num_use (k := kN l r) (dg2.same (Same.new (Same.refl _) nt)) (.tup upd_same (.cons (.str _) (.cons (.int _) (.cons (.int _) .nil)))) (okN (by omega) (by omega)) (by omega) fun H3 T3 i pre3 hl3 dg3 hat kq3 => ?_)
        walk_at "my_rd"
        exact k H3 T3 i (pre1.trans (pre2.trans pre3)) dg3 (.node hlen (rt1.mono (pre2.trans pre3)) (rt2.mono pre3) hat) (by omega) (Kq.trans kqB (Kq.trans (Kq.new Kq.refl nt) kq3))
theorem ok_L_root2 (T : Txt K mg) : FnOk P w K mg base CX0 7 T.f_L_root T.d_L_root ["digests", "leaves"] (sp_root K T.C_Digests 2) := by
  obtain ⟨mIH, hmIH⟩ : ∃ n : Nat, n = 1 := ⟨_, rfl⟩
  have ok_L_rootIH : ∀ T : Txt K mg, FnOk P w K mg base CX0 6 T.f_L_root T.d_L_root ["digests", "leaves"] (sp_root K T.C_Digests mIH) := by subst hmIH; exact fun T => ok_L_root1 T
  refine T.F_L_root.ok sc_L_root (fun vs H Q E h => ?_) (fun cdv A outer s H vs Q E hr h => ?_)
  · obtain ⟨d, vl, nd, a, T, xs, rfl, _⟩ := h; rfl
  · obtain ⟨d, vl, nd, a, TT, xs, rfl, hD, ha, hav, hm, h64, hx, hT, k⟩ := h
    obtain ⟨dx, ho⟩ := hD.o
    refine ⟨_, (pss_cons (ps_if (pt_cmpR op_eq (pe_callB cq_len (by rfl) T.z_len boot_len (pa_cons (pv 1) pa_nil)) pe_int (nomark _)) (pss_one (ps_ret (pe_meth (pv 0) T.cl_Digests T.m_Digests_number (ok_Digests_number T) (hr.mono (by decide)) T.b_Digests_number .nil pass0 (pa_cons (pe_tup (pa_cons pe_str pa_nil)) pa_nil)))) pss_nil)
      (pss_cons (ps_if (pt_cmpR op_eq (pe_callB cq_len (by rfl) T.z_len boot_len (pa_cons (pv 1) pa_nil)) pe_int (nomark _)) (pss_one (ps_ret (pe_meth (pv 0) T.cl_Digests T.m_Digests_number (ok_Digests_number T) (hr.mono (by decide)) T.b_Digests_number .nil pass0 (pa_cons (pe_tup (pa_cons pe_str (pa_cons (pe_ix ix_list (pv 1) pe_int (fun _ _ => rfl)) pa_nil))) pa_nil)))) pss_nil)
      (pss_cons (ps_set (i := 2) sc_L_root.nd rfl (Or.inl rfl) pe_int)
      (pss_cons (ps_for PassesOwn.never rfl (pi_range1 (by rfl) T.z_range (pa_cons pe_int pa_nil)) (pg_name (i := 3) sc_L_root.nd rfl (Or.inl rfl))
        (pss_one (ps_if (pt_cmpR op_lt (pe_op op_mul pe_int (pv 2)) (pe_callB cq_len (by rfl) T.z_len boot_len (pa_cons (pv 1) pa_nil)) (nomark _)) (pss_one (ps_set (i := 2) sc_L_root.nd rfl (Or.inl rfl) (pe_op op_mul pe_int (pv 2)))) pss_nil)))
      (pss_one (ps_ret (pe_meth (pv 0) T.cl_Digests T.m_Digests_number (ok_Digests_number T) (hr.mono (by decide)) T.b_Digests_number .nil pass0 (pa_cons (pe_tup (pa_cons pe_str (pa_cons (pe_call (ok_L_rootIH T) (hr.mono (by decide)) (by rfl) T.g_L_root T.F_L_root.kp T.b_L_root .nil pass0 (pa_cons (pv 0) (pa_cons (pe_slice sl_list (pv 1) po_none (po_some (pv 2))) pa_nil))) (pa_cons (pe_call (ok_L_rootIH T) (hr.mono (by decide)) (by rfl) T.g_L_root T.F_L_root.kp T.b_L_root .nil pass0 (pa_cons (pv 0) (pa_cons (pe_slice sl_list (pv 1) (po_some (pv 2)) po_none) pa_nil))) pa_nil)))) pa_nil)))))))), ?_⟩
    (dsimp only [cxOf, Cx.nox, Cx.wish, L2.start, List.map, List.length, List.replicate, List.cons_append, List.nil_append, List.append_eq, Nat.reduceSub, Nat.reduceAdd])
    walk_at "my_rd"
    cases xs with
    | nil =>
      rw [decide_eq_true (by simp)]
      walk_at "my_rd"
      refine q_methK ho (lkd (by decide +kernel) (by decide +kernel)) fun R hR => ?_
      walk_at "my_rd"
      refine q_tupK (Nat.le_of_ble_eq_true rfl) fun t nt => ?_
      refine hR _ _ (num_use (k := kE) (hD.same (Same.new (Same.refl _) nt)) (.tup upd_same (.cons (.str _) .nil)) okE (by simp at hT; omega) fun H' T' i pre hl dg hat kq => ?_)
      walk_at "my_rd"
      exact k H' T' i pre dg (.empty hat) (by simp; omega) (Kq.trans (Kq.new Kq.refl nt) kq)
    | cons x ys =>
      cases ys with
      | nil =>
        rw [decide_eq_false (by simp)]
        walk_at "my_rd"
        rw [decide_eq_true (by simp)]
        walk_at "my_rd"
        refine q_methK ho (lkd (by decide +kernel) (by decide +kernel)) fun R hR => ?_
        walk_at "my_rd"
        refine q_tupK (Nat.le_of_ble_eq_true rfl) fun t nt => ?_
        refine hR _ _ (num_use (k := kL x) (hD.same (Same.new (Same.refl _) nt)) (.tup upd_same (.cons (.str _) (.cons (.int x) .nil))) (okL (hx x List.mem_cons_self)) (by simp at hT; omega) fun H' T' i pre hl dg hat kq => ?_)
        walk_at "my_rd"
        exact k H' T' i pre dg (.leaf hat) (by simp; omega) (Kq.trans (Kq.new Kq.refl nt) kq)
      | cons y zs =>
        rw [decide_eq_false (by simp; omega)]
        walk_at "my_rd"
        rw [decide_eq_false (by simp; omega)]
        walk_at "my_rd"
        have hlen : 2 ≤ (x :: y :: zs).length := by simp
        generalize hxs : x :: y :: zs = xs at *
        clear hxs x y zs
        obtain ⟨mo1, mo2, mo3⟩ := mid_ok hlen h64
        have mo4 := mid_pow hlen hm h64 (by decide)
        refine q_forR ⟨by decide, by decide⟩ (fun i σ H' => H = H' ∧ ∃ v3 : Option V, σ = [some (.ref d), some (.ref a), some (.int (lpw xs.length i : Nat)), v3]) ⟨rfl, _, rfl⟩ ?_ ?_
        · rintro i σ H' hi ⟨rfl, v3, rfl⟩
          walk_at "my_rd"
          rw [List.length_map]
          refine q_if2 (fun h => ?_) (fun h => ?_)
          · have h := dec_t h
            walk_at "my_rd"
            refine ⟨rfl, ?_⟩
            rw [lpw_t (show 2 * lpw xs.length i < xs.length by omega)]
            exact ⟨_, rfl⟩
          · have h := dec_f h
            walk_at "my_rd"
            refine ⟨rfl, ?_⟩
            rw [lpw_f (show ¬ 2 * lpw xs.length i < xs.length by omega)]
            exact ⟨_, rfl⟩
        rintro σ H' ⟨rfl, v3, rfl⟩
        rw [show (8 : Int).toNat = 8 from rfl, lpw_mid _ (by omega) hlen]
        walk_at "my_rd"
        refine q_methK ho (lkd (by decide +kernel) (by decide +kernel)) fun R hR => ?_
        walk_at "my_rd"
        have lx : (xs.map V.int).length = xs.length := List.length_map ..
        obtain ⟨vs0, hvl0, _⟩ := hD.v
        refine q_slL (sqL ha) fun p1 np1 => ?_
        rw [cut_take (by rw [lx]; omega), ← List.map_take]
        have sm1 : Same H (upd H p1 (.lst ((xs.take (mid xs.length)).map V.int))) := Same.new (Same.refl _) np1
        have lt : (xs.take (mid xs.length)).length = mid xs.length := by rw [List.length_take]; omega
        have ld : (xs.drop (mid xs.length)).length = xs.length - mid xs.length := List.length_drop ..
        walk_at "my_rd"
        refine ⟨d, vl, nd, p1, TT, _, rfl, hD.same sm1, upd_same, (ne_of_none hvl0 np1).symm, by rw [hmIH, lt]; exact mo4, by omega, fun z hz => hx z (List.mem_of_mem_take hz), by omega, fun H1 T1 l pre1 dg1 rt1 hl1 kq1 => ?_⟩
        have kqA : Kq vl nd H H1 := Kq.trans (Kq.same sm1) kq1
        have ha1 : H1 a = some (.lst (xs.map V.int)) := kqA _ _ ha hav (ne_of ha hD.n (by intro z; cases z))
        obtain ⟨vs1, hvl1, _⟩ := dg1.v
        walk_at "my_rd"
        refine q_slL (sqL ha1) fun p2 np2 => ?_
        rw [cut_drop (by rw [lx]; omega), ← List.map_drop]
        have sm2 : Same H1 (upd H1 p2 (.lst ((xs.drop (mid xs.length)).map V.int))) := Same.new (Same.refl _) np2
        walk_at "my_rd"
        rw [lt] at hl1
        refine ⟨d, vl, nd, p2, T1, _, rfl, dg1.same sm2, upd_same, (ne_of_none hvl1 np2).symm, by rw [hmIH, ld]; omega, by omega, fun z hz => hx z (List.mem_of_mem_drop hz), by omega, fun H2 T2 r pre2 dg2 rt2 hl2 kq2 => ?_⟩
        rw [ld] at hl2
        have kqB : Kq vl nd H H2 := Kq.trans kqA (Kq.trans (Kq.same sm2) kq2)
        have hl' := (rt1.mono pre2).at_
        have hr' := rt2.at_
        walk_at "my_rd"
        refine q_tupK (Nat.le_of_ble_eq_true rfl) fun t nt => ?_
        refine hR _ _ (num_use (k := kN l r) (dg2.same (Same.new (Same.refl _) nt)) (.tup upd_same (.cons (.str _) (.cons (.int _) (.cons (.int _) .nil)))) (okN (by omega) (by omega)) (by omega) fun H3 T3 i pre3 hl3 dg3 hat kq3 => ?_)
        walk_at "my_rd"
        exact k H3 T3 i (pre1.trans (pre2.trans pre3)) dg3 (.node hlen (rt1.mono (pre2.trans pre3)) (rt2.mono pre3) hat) (by omega) (Kq.trans kqB (Kq.trans (Kq.new Kq.refl nt) kq3))
theorem ok_L_root3 (T : Txt K mg) : FnOk P w K mg base CX0 8 T.f_L_root T.d_L_root ["digests", "leaves"] (sp_root K T.C_Digests 3) := by
  obtain ⟨mIH, hmIH⟩ : ∃ n : Nat, n = 2 := ⟨_, rfl⟩
  have ok_L_rootIH : ∀ T : Txt K mg, FnOk P w K mg base CX0 7 T.f_L_root T.d_L_root ["digests", "leaves"] (sp_root K T.C_Digests mIH) := by subst hmIH; exact fun T => ok_L_root2 T
  refine T.F_L_root.ok sc_L_root (fun vs H Q E h => ?_) (fun cdv A outer s H vs Q E hr h => ?_)
  · obtain ⟨d, vl, nd, a, T, xs, rfl, _⟩ := h; rfl
  · obtain ⟨d, vl, nd, a, TT, xs, rfl, hD, ha, hav, hm, h64, hx, hT, k⟩ := h
    obtain ⟨dx, ho⟩ := hD.o
    refine ⟨_, (pss_cons (ps_if (pt_cmpR op_eq (pe_callB cq_len (by rfl) T.z_len boot_len (pa_cons (pv 1) pa_nil)) pe_int (nomark _)) (pss_one (ps_ret (pe_meth (pv 0) T.cl_Digests T.m_Digests_number (ok_Digests_number T) (hr.mono (by decide)) T.b_Digests_number .nil pass0 (pa_cons (pe_tup (pa_cons pe_str pa_nil)) pa_nil)))) pss_nil)
      (pss_cons (ps_if (pt_cmpR op_eq (pe_callB cq_len (by rfl) T.z_len boot_len (pa_cons (pv 1) pa_nil)) pe_int (nomark _)) (pss_one (ps_ret (pe_meth (pv 0) T.cl_Digests T.m_Digests_number (ok_Digests_number T) (hr.mono (by decide)) T.b_Digests_number .nil pass0 (pa_cons (pe_tup (pa_cons pe_str (pa_cons (pe_ix ix_list (pv 1) pe_int (fun _ _ => rfl)) pa_nil))) pa_nil)))) pss_nil)
      (pss_cons (ps_set (i := 2) sc_L_root.nd rfl (Or.inl rfl) pe_int)
      (pss_cons (ps_for PassesOwn.never rfl (pi_range1 (by rfl) T.z_range (pa_cons pe_int pa_nil)) (pg_name (i := 3) sc_L_root.nd rfl (Or.inl rfl))
        (pss_one (ps_if (pt_cmpR op_lt (pe_op op_mul pe_int (pv 2)) (pe_callB cq_len (by rfl) T.z_len boot_len (pa_cons (pv 1) pa_nil)) (nomark _)) (pss_one (ps_set (i := 2) sc_L_root.nd rfl (Or.inl rfl) (pe_op op_mul pe_int (pv 2)))) pss_nil)))
      (pss_one (ps_ret (pe_meth (pv 0) T.cl_Digests T.m_Digests_number (ok_Digests_number T) (hr.mono (by decide)) T.b_Digests_number .nil pass0 (pa_cons (pe_tup (pa_cons pe_str (pa_cons (pe_call (ok_L_rootIH T) (hr.mono (by decide)) (by rfl) T.g_L_root T.F_L_root.kp T.b_L_root .nil pass0 (pa_cons (pv 0) (pa_cons (pe_slice sl_list (pv 1) po_none (po_some (pv 2))) pa_nil))) (pa_cons (pe_call (ok_L_rootIH T) (hr.mono (by decide)) (by rfl) T.g_L_root T.F_L_root.kp T.b_L_root .nil pass0 (pa_cons (pv 0) (pa_cons (pe_slice sl_list (pv 1) (po_some (pv 2)) po_none) pa_nil))) pa_nil)))) pa_nil)))))))), ?_⟩
    (dsimp only [cxOf, Cx.nox, Cx.wish, L2.start, List.map, List.length, List.replicate, List.cons_append, List.nil_append, List.append_eq, Nat.reduceSub, Nat.reduceAdd])
    walk_at "my_rd"
    cases xs with
    | nil =>
      rw [decide_eq_true (by simp)]
      walk_at "my_rd"
      refine q_methK ho (lkd (by decide +kernel) (by decide +kernel)) fun R hR => ?_
      walk_at "my_rd"
      refine q_tupK (Nat.le_of_ble_eq_true rfl) fun t nt => ?_
      refine hR _ _ (num_use (k := kE) (hD.same (Same.new (Same.refl _) nt)) (.tup upd_same (.cons (.str _) .nil)) okE (by simp at hT; omega) fun H' T' i pre hl dg hat kq => ?_)
      walk_at "my_rd"
      exact k H' T' i pre dg (.empty hat) (by simp; omega) (Kq.trans (Kq.new Kq.refl nt) kq)
    | cons x ys =>
      cases ys with
      | nil =>
        rw [decide_eq_false (by simp)]
        walk_at "my_rd"
        rw [decide_eq_true (by simp)]
        walk_at "my_rd"
        refine q_methK ho (lkd (by decide +kernel) (by decide +kernel)) fun R hR => ?_
        walk_at "my_rd"
        refine q_tupK (Nat.le_of_ble_eq_true rfl) fun t nt => ?_
        refine hR _ _ (num_use (k := kL x) (hD.same (Same.new (Same.refl _) nt)) (.tup upd_same (.cons (.str _) (.cons (.int x) .nil))) (okL (hx x List.mem_cons_self)) (by simp at hT; omega) fun H' T' i pre hl dg hat kq => ?_)
        walk_at "my_rd"
        exact k H' T' i pre dg (.leaf hat) (by simp; omega) (Kq.trans (Kq.new Kq.refl nt) kq)
      | cons y zs =>
        rw [decide_eq_false (by simp; omega)]
        walk_at "my_rd"
        rw [decide_eq_false (by simp; omega)]
        walk_at "my_rd"
        have hlen : 2 ≤ (x :: y :: zs).length := by simp
        generalize hxs : x :: y :: zs = xs at *
        clear hxs x y zs
        obtain ⟨mo1, mo2, mo3⟩ := mid_ok hlen h64
        have mo4 := mid_pow hlen hm h64 (by decide)
        refine q_forR ⟨by decide, by decide⟩ (fun i σ H' => H = H' ∧ ∃ v3 : Option V, σ = [some (.ref d), some (.ref a), some (.int (lpw xs.length i : Nat)), v3]) ⟨rfl, _, rfl⟩ ?_ ?_
        · rintro i σ H' hi ⟨rfl, v3, rfl⟩
          walk_at "my_rd"
          rw [List.length_map]
          refine q_if2 (fun h => ?_) (fun h => ?_)
          · have h := dec_t h
            walk_at "my_rd"
            refine ⟨rfl, ?_⟩
            rw [lpw_t (show 2 * lpw xs.length i < xs.length by omega)]
            exact ⟨_, rfl⟩
          · have h := dec_f h
            walk_at "my_rd"
            refine ⟨rfl, ?_⟩
            rw [lpw_f (show ¬ 2 * lpw xs.length i < xs.length by omega)]
            exact ⟨_, rfl⟩
        rintro σ H' ⟨rfl, v3, rfl⟩
        rw [show (8 : Int).toNat = 8 from rfl, lpw_mid _ (by omega) hlen]
        walk_at "my_rd"
        refine q_methK ho (lkd (by decide +kernel) (by decide +kernel)) fun R hR => ?_
        walk_at "my_rd"
        have lx : (xs.map V.int).length = xs.length := List.length_map ..
        obtain ⟨vs0, hvl0, _⟩ := hD.v
        refine q_slL (sqL ha) fun p1 np1 => ?_
        rw [cut_take (by rw [lx]; omega), ← List.map_take]
        have sm1 : Same H (upd H p1 (.lst ((xs.take (mid xs.length)).map V.int))) := Same.new (Same.refl _) np1
        have lt : (xs.take (mid xs.length)).length = mid xs.length := by rw [List.length_take]; omega
        have ld : (xs.drop (mid xs.length)).length = xs.length - mid xs.length := List.length_drop ..
        walk_at "my_rd"
        refine ⟨d, vl, nd, p1, TT, _, rfl, hD.same sm1, upd_same, (ne_of_none hvl0 np1).symm, by rw [hmIH, lt]; exact mo4, by omega, fun z hz => hx z (List.mem_of_mem_take hz), by omega, fun H1 T1 l pre1 dg1 rt1 hl1 kq1 => ?_⟩
        have kqA : Kq vl nd H H1 := Kq.trans (Kq.same sm1) kq1
        have ha1 : H1 a = some (.lst (xs.map V.int)) := kqA _ _ ha hav (ne_of ha hD.n (by intro z; cases z))
        obtain ⟨vs1, hvl1, _⟩ := dg1.v
        walk_at "my_rd"
        refine q_slL (sqL ha1) fun p2 np2 => ?_
        rw [cut_drop (by rw [lx]; omega), ← List.map_drop]
        have sm2 : Same H1 (upd H1 p2 (.lst ((xs.drop (mid xs.length)).map V.int))) := Same.new (Same.refl _) np2
        walk_at "my_rd"
        rw [lt] at hl1
        refine ⟨d, vl, nd, p2, T1, _, rfl, dg1.same sm2, upd_same, (ne_of_none hvl1 np2).symm, by rw [hmIH, ld]; omega, by omega, fun z hz => hx z (List.mem_of_mem_drop hz), by omega, fun H2 T2 r pre2 dg2 rt2 hl2 kq2 => ?_⟩
        rw [ld] at hl2
        have kqB : Kq vl nd H H2 := Kq.trans kqA (Kq.trans (Kq.same sm2) kq2)
        have hl' := (rt1.mono pre2).at_
        have hr' := rt2.at_
        walk_at "my_rd"
        refine q_tupK (Nat.le_of_ble_eq_true rfl) fun t nt => ?_
        refine hR _ _ (num_use (k := kN l r) (dg2.same (Same.new (Same.refl _) nt)) (.tup upd_same (.cons (.str _) (.cons (.int _) (.cons (.int _) .nil)))) (okN (by omega) (by omega)) (by omega) fun H3 T3 i pre3 hl3 dg3 hat kq3 => ?_)
        walk_at "my_rd"
        exact k H3 T3 i (pre1.trans (pre2.trans pre3)) dg3 (.node hlen (rt1.mono (pre2.trans pre3)) (rt2.mono pre3) hat) (by omega) (Kq.trans kqB (Kq.trans (Kq.new Kq.refl nt) kq3))
theorem ok_L_root4 (T : Txt K mg) : FnOk P w K mg base CX0 9 T.f_L_root T.d_L_root ["digests", "leaves"] (sp_root K T.C_Digests 4) := by
  obtain ⟨mIH, hmIH⟩ : ∃ n : Nat, n = 3 := ⟨_, rfl⟩
  have ok_L_rootIH : ∀ T : Txt K mg, FnOk P w K mg base CX0 8 T.f_L_root T.d_L_root ["digests", "leaves"] (sp_root K T.C_Digests mIH) := by subst hmIH; exact fun T => ok_L_root3 T
  refine T.F_L_root.ok sc_L_root (fun vs H Q E h => ?_) (fun cdv A outer s H vs Q E hr h => ?_)
  · obtain ⟨d, vl, nd, a, T, xs, rfl, _⟩ := h; rfl
  · obtain ⟨d, vl, nd, a, TT, xs, rfl, hD, ha, hav, hm, h64, hx, hT, k⟩ := h
    obtain ⟨dx, ho⟩ := hD.o
    refine ⟨_, (pss_cons (ps_if (pt_cmpR op_eq (pe_callB cq_len (by rfl) T.z_len boot_len (pa_cons (pv 1) pa_nil)) pe_int (nomark _)) (pss_one (ps_ret (pe_meth (pv 0) T.cl_Digests T.m_Digests_number (ok_Digests_number T) (hr.mono (by decide)) T.b_Digests_number .nil pass0 (pa_cons (pe_tup (pa_cons pe_str pa_nil)) pa_nil)))) pss_nil)
      (pss_cons (ps_if (pt_cmpR op_eq (pe_callB cq_len (by rfl) T.z_len boot_len (pa_cons (pv 1) pa_nil)) pe_int (nomark _)) (pss_one (ps_ret (pe_meth (pv 0) T.cl_Digests T.m_Digests_number (ok_Digests_number T) (hr.mono (by decide)) T.b_Digests_number .nil pass0 (pa_cons (pe_tup (pa_cons pe_str (pa_cons (pe_ix ix_list (pv 1) pe_int (fun _ _ => rfl)) pa_nil))) pa_nil)))) pss_nil)
      (pss_cons (ps_set (i := 2) sc_L_root.nd rfl (Or.inl rfl) pe_int)
      (pss_cons (ps_for PassesOwn.never rfl (pi_range1 (by rfl) T.z_range (pa_cons pe_int pa_nil)) (pg_name (i := 3) sc_L_root.nd rfl (Or.inl rfl))
        (pss_one (ps_if (pt_cmpR op_lt (pe_op op_mul pe_int (pv 2)) (pe_callB cq_len (by rfl) T.z_len boot_len (pa_cons (pv 1) pa_nil)) (nomark _)) (pss_one (ps_set (i := 2) sc_L_root.nd rfl (Or.inl rfl) (pe_op op_mul pe_int (pv 2)))) pss_nil)))
      (pss_one (ps_ret (pe_meth (pv 0) T.cl_Digests T.m_Digests_number (ok_Digests_number T) (hr.mono (by decide)) T.b_Digests_number .nil pass0 (pa_cons (pe_tup (pa_cons pe_str (pa_cons (pe_call (ok_L_rootIH T) (hr.mono (by decide)) (by rfl) T.g_L_root T.F_L_root.kp T.b_L_root .nil pass0 (pa_cons (pv 0) (pa_cons (pe_slice sl_list (pv 1) po_none (po_some (pv 2))) pa_nil))) (pa_cons (pe_call (ok_L_rootIH T) (hr.mono (by decide)) (by rfl) T.g_L_root T.F_L_root.kp T.b_L_root .nil pass0 (pa_cons (pv 0) (pa_cons (pe_slice sl_list (pv 1) (po_some (pv 2)) po_none) pa_nil))) pa_nil)))) pa_nil)))))))), ?_⟩
    (dsimp only [cxOf, Cx.nox, Cx.wish, L2.start, List.map, List.length, List.replicate, List.cons_append, List.nil_append, List.append_eq, Nat.reduceSub, Nat.reduceAdd])
    walk_at "my_rd"
    cases xs with
    | nil =>
      rw [decide_eq_true (by simp)]
      walk_at "my_rd"
      refine q_methK ho (lkd (by decide +kernel) (by decide +kernel)) fun R hR => ?_
      walk_at "my_rd"
      refine q_tupK (Nat.le_of_ble_eq_true rfl) fun t nt => ?_
      refine hR _ _ (num_use (k := kE) (hD.same (Same.new (Same.refl _) nt)) (.tup upd_same (.cons (.str _) .nil)) okE (by simp at hT; omega) fun H' T' i pre hl dg hat kq => ?_)
      walk_at "my_rd"
      exact k H' T' i pre dg (.empty hat) (by simp; omega) (Kq.trans (Kq.new Kq.refl nt) kq)
    | cons x ys =>
      cases ys with
      | nil =>
        rw [decide_eq_false (by simp)]
        walk_at "my_rd"
        rw [decide_eq_true (by simp)]
        walk_at "my_rd"
        refine q_methK ho (lkd (by decide +kernel) (by decide +kernel)) fun R hR => ?_
        walk_at "my_rd"
        refine q_tupK (Nat.le_of_ble_eq_true rfl) fun t nt => ?_
        refine hR _ _ (num_use (k := kL x) (hD.same (Same.new (Same.refl _) nt)) (.tup upd_same (.cons (.str _) (.cons (.int x) .nil))) (okL (hx x List.mem_cons_self)) (by simp at hT; omega) fun H' T' i pre hl dg hat kq => ?_)
        walk_at "my_rd"
        exact k H' T' i pre dg (.leaf hat) (by simp; omega) (Kq.trans (Kq.new Kq.refl nt) kq)
      | cons y zs =>
        rw [decide_eq_false (by simp; omega)]
        walk_at "my_rd"
        rw [decide_eq_false (by simp; omega)]
        walk_at "my_rd"
        have hlen : 2 ≤ (x :: y :: zs).length := by simp
        generalize hxs : x :: y :: zs = xs at *
        clear hxs x y zs
        obtain ⟨mo1, mo2, mo3⟩ := mid_ok hlen h64
        have mo4 := mid_pow hlen hm h64 (by decide)
        refine q_forR ⟨by decide, by decide⟩ (fun i σ H' => H = H' ∧ ∃ v3 : Option V, σ = [some (.ref d), some (.ref a), some (.int (lpw xs.length i : Nat)), v3]) ⟨rfl, _, rfl⟩ ?_ ?_
        · rintro i σ H' hi ⟨rfl, v3, rfl⟩
          walk_at "my_rd"
          rw [List.length_map]
          refine q_if2 (fun h => ?_) (fun h => ?_)
          · have h := dec_t h
            walk_at "my_rd"
            refine ⟨rfl, ?_⟩
            rw [lpw_t (show 2 * lpw xs.length i < xs.length by omega)]
            exact ⟨_, rfl⟩
          · have h := dec_f h
            walk_at "my_rd"
            refine ⟨rfl, ?_⟩
            rw [lpw_f (show ¬ 2 * lpw xs.length i < xs.length by omega)]
            exact ⟨_, rfl⟩
        rintro σ H' ⟨rfl, v3, rfl⟩
        rw [show (8 : Int).toNat = 8 from rfl, lpw_mid _ (by omega) hlen]
        walk_at "my_rd"
        refine q_methK ho (lkd (by decide +kernel) (by decide +kernel)) fun R hR => ?_
        walk_at "my_rd"
        have lx : (xs.map V.int).length = xs.length := List.length_map ..
        obtain ⟨vs0, hvl0, _⟩ := hD.v
        refine q_slL (sqL ha) fun p1 np1 => ?_
        rw [cut_take (by rw [lx]; omega), ← List.map_take]
        have sm1 : Same H (upd H p1 (.lst ((xs.take (mid xs.length)).map V.int))) := Same.new (Same.refl _) np1
        have lt : (xs.take (mid xs.length)).length = mid xs.length := by rw [List.length_take]; omega
        have ld : (xs.drop (mid xs.length)).length = xs.length - mid xs.length := List.length_drop ..
        walk_at "my_rd"
        refine ⟨d, vl, nd, p1, TT, _, rfl, hD.same sm1, upd_same, (ne_of_none hvl0 np1).symm, by rw [hmIH, lt]; exact mo4, by omega, fun z hz => hx z (List.mem_of_mem_take hz), by omega, fun H1 T1 l pre1 dg1 rt1 hl1 kq1 => ?_⟩
        have kqA : Kq vl nd H H1 := Kq.trans (Kq.same sm1) kq1
        have ha1 : H1 a = some (.lst (xs.map V.int)) := kqA _ _ ha hav (ne_of ha hD.n (by intro z; cases z))
        obtain ⟨vs1, hvl1, _⟩ := dg1.v
        walk_at "my_rd"
        refine q_slL (sqL ha1) fun p2 np2 => ?_
        rw [cut_drop (by rw [lx]; omega), ← List.map_drop]
        have sm2 : Same H1 (upd H1 p2 (.lst ((xs.drop (mid xs.length)).map V.int))) := Same.new (Same.refl _) np2
        walk_at "my_rd"
        rw [lt] at hl1
        refine ⟨d, vl, nd, p2, T1, _, rfl, dg1.same sm2, upd_same, (ne_of_none hvl1 np2).symm, by rw [hmIH, ld]; omega, by omega, fun z hz => hx z (List.mem_of_mem_drop hz), by omega, fun H2 T2 r pre2 dg2 rt2 hl2 kq2 => ?_⟩
        rw [ld] at hl2
        have kqB : Kq vl nd H H2 := Kq.trans kqA (Kq.trans (Kq.same sm2) kq2)
        have hl' := (rt1.mono pre2).at_
        have hr' := rt2.at_
        walk_at "my_rd"
        refine q_tupK (Nat.le_of_ble_eq_true rfl) fun t nt => ?_
        refine hR _ _ (num_use (k := kN l r) (dg2.same (Same.new (Same.refl _) nt)) (.tup upd_same (.cons (.str _) (.cons (.int _) (.cons (.int _) .nil)))) (okN (by omega) (by omega)) (by omega) fun H3 T3 i pre3 hl3 dg3 hat kq3 => ?_)
        walk_at "my_rd"
        exact k H3 T3 i (pre1.trans (pre2.trans pre3)) dg3 (.node hlen (rt1.mono (pre2.trans pre3)) (rt2.mono pre3) hat) (by omega) (Kq.trans kqB (Kq.trans (Kq.new Kq.refl nt) kq3))
theorem ok_L_root5 (T : Txt K mg) : FnOk P w K mg base CX0 10 T.f_L_root T.d_L_root ["digests", "leaves"] (sp_root K T.C_Digests 5) := by
  obtain ⟨mIH, hmIH⟩ : ∃ n : Nat, n = 4 := ⟨_, rfl⟩
  have ok_L_rootIH : ∀ T : Txt K mg, FnOk P w K mg base CX0 9 T.f_L_root T.d_L_root ["digests", "leaves"] (sp_root K T.C_Digests mIH) := by subst hmIH; exact fun T => ok_L_root4 T
  refine T.F_L_root.ok sc_L_root (fun vs H Q E h => ?_) (fun cdv A outer s H vs Q E hr h => ?_)
  · obtain ⟨d, vl, nd, a, T, xs, rfl, _⟩ := h; rfl
  · obtain ⟨d, vl, nd, a, TT, xs, rfl, hD, ha, hav, hm, h64, hx, hT, k⟩ := h
    obtain ⟨dx, ho⟩ := hD.o
    refine ⟨_, (pss_cons (ps_if (pt_cmpR op_eq (pe_callB cq_len (by rfl) T.z_len boot_len (pa_cons (pv 1) pa_nil)) pe_int (nomark _)) (pss_one (ps_ret (pe_meth (pv 0) T.cl_Digests T.m_Digests_number (ok_Digests_number T) (hr.mono (by decide)) T.b_Digests_number .nil pass0 (pa_cons (pe_tup (pa_cons pe_str pa_nil)) pa_nil)))) pss_nil)
      (pss_cons (ps_if (pt_cmpR op_eq (pe_callB cq_len (by rfl) T.z_len boot_len (pa_cons (pv 1) pa_nil)) pe_int (nomark _)) (pss_one (ps_ret (pe_meth (pv 0) T.cl_Digests T.m_Digests_number (ok_Digests_number T) (hr.mono (by decide)) T.b_Digests_number .nil pass0 (pa_cons (pe_tup (pa_cons pe_str (pa_cons (pe_ix ix_list (pv 1) pe_int (fun _ _ => rfl)) pa_nil))) pa_nil)))) pss_nil)
      (pss_cons (ps_set (i := 2) sc_L_root.nd rfl (Or.inl rfl) pe_int)
      (pss_cons (ps_for PassesOwn.never rfl (pi_range1 (by rfl) T.z_range (pa_cons pe_int pa_nil)) (pg_name (i := 3) sc_L_root.nd rfl (Or.inl rfl))
        (pss_one (ps_if (pt_cmpR op_lt (pe_op op_mul pe_int (pv 2)) (pe_callB cq_len (by rfl) T.z_len boot_len (pa_cons (pv 1) pa_nil)) (nomark _)) (pss_one (ps_set (i := 2) sc_L_root.nd rfl (Or.inl rfl) (pe_op op_mul pe_int (pv 2)))) pss_nil)))
      (pss_one (ps_ret (pe_meth (pv 0) T.cl_Digests T.m_Digests_number (ok_Digests_number T) (hr.mono (by decide)) T.b_Digests_number .nil pass0 (pa_cons (pe_tup (pa_cons pe_str (pa_cons (pe_call (ok_L_rootIH T) (hr.mono (by decide)) (by rfl) T.g_L_root T.F_L_root.kp T.b_L_root .nil pass0 (pa_cons (pv 0) (pa_cons (pe_slice sl_list (pv 1) po_none (po_some (pv 2))) pa_nil))) (pa_cons (pe_call (ok_L_rootIH T) (hr.mono (by decide)) (by rfl) T.g_L_root T.F_L_root.kp T.b_L_root .nil pass0 (pa_cons (pv 0) (pa_cons (pe_slice sl_list (pv 1) (po_some (pv 2)) po_none) pa_nil))) pa_nil)))) pa_nil)))))))), ?_⟩
    (dsimp only [cxOf, Cx.nox, Cx.wish, L2.start, List.map, List.length, List.replicate, List.cons_append, List.nil_append, List.append_eq, Nat.reduceSub, Nat.reduceAdd])
    walk_at "my_rd"
    cases xs with
    | nil =>
      rw [decide_eq_true (by simp)]
      walk_at "my_rd"
      refine q_methK ho (lkd (by decide +kernel) (by decide +kernel)) fun R hR => ?_
      walk_at "my_rd"
      refine q_tupK (Nat.le_of_ble_eq_true rfl) fun t nt => ?_
      refine hR _ _ (num_use (k := kE) (hD.same (Same.new (Same.refl _) nt)) (.tup upd_same (.cons (.str _) .nil)) okE (by simp at hT; omega) fun H' T' i pre hl dg hat kq => ?_)
      walk_at "my_rd"
      exact k H' T' i pre dg (.empty hat) (by simp; omega) (Kq.trans (Kq.new Kq.refl nt) kq)
    | cons x ys =>
      cases ys with
      | nil =>
        rw [decide_eq_false (by simp)]
        walk_at "my_rd"
        rw [decide_eq_true (by simp)]
        walk_at "my_rd"
        refine q_methK ho (lkd (by decide +kernel) (by decide +kernel)) fun R hR => ?_
        walk_at "my_rd"
        refine q_tupK (Nat.le_of_ble_eq_true rfl) fun t nt => ?_
        refine hR _ _ (num_use (k := kL x) (hD.same (Same.new (Same.refl _) nt)) (.tup upd_same (.cons (.str _) (.cons (.int x) .nil))) (okL (hx x List.mem_cons_self)) (by simp at hT; omega) fun H' T' i pre hl dg hat kq => ?_)
        walk_at "my_rd"
        exact k H' T' i pre dg (.leaf hat) (by simp; omega) (Kq.trans (Kq.new Kq.refl nt) kq)
      | cons y zs =>
        rw [decide_eq_false (by simp; omega)]
        walk_at "my_rd"
        rw [decide_eq_false (by simp; omega)]
        walk_at "my_rd"
        have hlen : 2 ≤ (x :: y :: zs).length := by simp
        generalize hxs : x :: y :: zs = xs at *
        clear hxs x y zs
        obtain ⟨mo1, mo2, mo3⟩ := mid_ok hlen h64
        have mo4 := mid_pow hlen hm h64 (by decide)
        refine q_forR ⟨by decide, by decide⟩ (fun i σ H' => H = H' ∧ ∃ v3 : Option V, σ = [some (.ref d), some (.ref a), some (.int (lpw xs.length i : Nat)), v3]) ⟨rfl, _, rfl⟩ ?_ ?_
        · rintro i σ H' hi ⟨rfl, v3, rfl⟩
          walk_at "my_rd"
          rw [List.length_map]
          refine q_if2 (fun h => ?_) (fun h => ?_)
          · have h := dec_t h
            walk_at "my_rd"
            refine ⟨rfl, ?_⟩
            rw [lpw_t (show 2 * lpw xs.length i < xs.length by omega)]
            exact ⟨_, rfl⟩
          · have h := dec_f h
            walk_at "my_rd"
            refine ⟨rfl, ?_⟩
            rw [lpw_f (show ¬ 2 * lpw xs.length i < xs.length by omega)]
            exact ⟨_, rfl⟩
        rintro σ H' ⟨rfl, v3, rfl⟩
        rw [show (8 : Int).toNat = 8 from rfl, lpw_mid _ (by omega) hlen]
        walk_at "my_rd"
        refine q_methK ho (lkd (by decide +kernel) (by decide +kernel)) fun R hR => ?_
        walk_at "my_rd"
        have lx : (xs.map V.int).length = xs.length := List.length_map ..
        obtain ⟨vs0, hvl0, _⟩ := hD.v
        refine q_slL (sqL ha) fun p1 np1 => ?_
        rw [cut_take (by rw [lx]; omega), ← List.map_take]
        have sm1 : Same H (upd H p1 (.lst ((xs.take (mid xs.length)).map V.int))) := Same.new (Same.refl _) np1
        have lt : (xs.take (mid xs.length)).length = mid xs.length := by rw [List.length_take]; omega
        have ld : (xs.drop (mid xs.length)).length = xs.length - mid xs.length := List.length_drop ..
        walk_at "my_rd"
        refine ⟨d, vl, nd, p1, TT, _, rfl, hD.same sm1, upd_same, (ne_of_none hvl0 np1).symm, by rw [hmIH, lt]; exact mo4, by omega, fun z hz => hx z (List.mem_of_mem_take hz), by omega, fun H1 T1 l pre1 dg1 rt1 hl1 kq1 => ?_⟩
        have kqA : Kq vl nd H H1 := Kq.trans (Kq.same sm1) kq1
        have ha1 : H1 a = some (.lst (xs.map V.int)) := kqA _ _ ha hav (ne_of ha hD.n (by intro z; cases z))
        obtain ⟨vs1, hvl1, _⟩ := dg1.v
        walk_at "my_rd"
        refine q_slL (sqL ha1) fun p2 np2 => ?_
        rw [cut_drop (by rw [lx]; omega), ← List.map_drop]
        have sm2 : Same H1 (upd H1 p2 (.lst ((xs.drop (mid xs.length)).map V.int))) := Same.new (Same.refl _) np2
        walk_at "my_rd"
        rw [lt] at hl1
        refine ⟨d, vl, nd, p2, T1, _, rfl, dg1.same sm2, upd_same, (ne_of_none hvl1 np2).symm, by rw [hmIH, ld]; omega, by omega, fun z hz => hx z (List.mem_of_mem_drop hz), by omega, fun H2 T2 r pre2 dg2 rt2 hl2 kq2 => ?_⟩
        rw [ld] at hl2
        have kqB : Kq vl nd H H2 := Kq.trans kqA (Kq.trans (Kq.same sm2) kq2)
        have hl' := (rt1.mono pre2).at_
        have hr' := rt2.at_
        walk_at "my_rd"
        refine q_tupK (Nat.le_of_ble_eq_true rfl) fun t nt => ?_
        refine hR _ _ (num_use (k := kN l r) (dg2.same (Same.new (Same.refl _) nt)) (.tup upd_same (.cons (.str _) (.cons (.int _) (.cons (.int _) .nil)))) (okN (by omega) (by omega)) (by omega) fun H3 T3 i pre3 hl3 dg3 hat kq3 => ?_)
        walk_at "my_rd"
        exact k H3 T3 i (pre1.trans (pre2.trans pre3)) dg3 (.node hlen (rt1.mono (pre2.trans pre3)) (rt2.mono pre3) hat) (by omega) (Kq.trans kqB (Kq.trans (Kq.new Kq.refl nt) kq3))
end

local macro_rules | `(tactic| walk_at "my_rd") => `(tactic| (repeat first
  | with_reducible refine q_tCons ?_
  | ((with_reducible apply q_var); (focus (exact rfl)))
  | with_reducible refine q_c ?_
  | with_reducible refine q_nx ?_
  | with_reducible refine q_bK ?_
  | with_reducible refine q_call ?_
  | with_reducible refine q_callK ?_
  | with_reducible refine q_tNil ?_
  | with_reducible refine q_cb ?_
  | with_reducible refine q_seq ?_
  | with_reducible refine q_asg ?_
  | with_reducible refine q_gName ?_
  | with_reducible refine q_op ?_
  | with_reducible refine q_test ?_
  | with_reducible refine q_tB ?_
  | with_reducible refine q_ifS ?_
  | with_reducible refine q_ret ?_
  | with_reducible refine q_rt ?_
  | with_reducible refine q_next ?_
  | with_reducible refine q_ifF ?_
  | with_reducible refine q_ifT ?_
  | with_reducible refine q_drop ?_
  | with_reducible refine q_and ?_
  | with_reducible refine q_or ?_
  | with_reducible refine q_andT ?_
  | with_reducible refine q_andF ?_
  | with_reducible refine q_orF ?_
  | with_reducible refine q_orT ?_
  | with_reducible refine q_andV ?_
  | with_reducible refine q_andVT ?_
  | with_reducible refine q_andVF ?_
  | with_reducible refine q_orV ?_
  | with_reducible refine q_gCons ?_
  | with_reducible refine q_gNil ?_
  | with_reducible refine q_tup ?_
  | with_reducible refine q_lst ?_
  | with_reducible refine q_not ?_
  | with_reducible refine q_notKT ?_
  | with_reducible refine q_notKF ?_
  | with_reducible refine q_I0 ?_
  | with_reducible refine q_eqI ?_
  | with_reducible refine q_neI ?_
  | ((with_reducible refine q_I ?_ ?_); first | decide | omega | exact ⟨by omega, by omega⟩ | exact ⟨by decide, by decide⟩ | exact .inl ⟨by omega, by omega⟩ | exact .inr ⟨by omega, by omega⟩ | exact .inr ⟨by decide, by decide⟩)
  | with_reducible refine q_eqS ?_
  | with_reducible refine q_neS ?_
  | with_reducible refine q_brk ?_
  | with_reducible refine q_ct ?_
  | with_reducible refine q_bk ?_
  | with_reducible refine q_cn ?_
  | with_reducible refine q_retN ?_
  | with_reducible refine q_gSub ?_
  | with_reducible refine q_for ?_
  | with_reducible refine q_iList ?_
  | with_reducible refine q_iTup ?_
  | with_reducible refine q_iRng1 ?_
  | with_reducible refine q_notK ?_
  | with_reducible refine q_orVT ?_
  | with_reducible refine q_orVF ?_
  | with_reducible refine q_notV ?_
  | with_reducible refine q_notVK ?_
  | with_reducible refine q_ifE ?_
  | with_reducible refine q_ifET ?_
  | with_reducible refine q_ifEF ?_
  | with_reducible refine q_yes ?_
  | with_reducible refine q_un ?_
  | with_reducible refine q_rU ?_
  | with_reducible refine q_abs ?_
  | with_reducible refine q_int1 ?_
  | with_reducible refine q_bm ?_
  | with_reducible refine q_bm0 ?_
  | with_reducible refine q_lc ?_
  | with_reducible refine q_keepT ?_
  | with_reducible refine q_keepF ?_
  | ((with_reducible apply q_aug); (focus (exact rfl)))
  | with_reducible refine q_ipI ?_
  | with_reducible refine q_chain ?_
  | with_reducible refine q_pairC ?_
  | with_reducible refine q_pairsK ?_
  | with_reducible refine q_pairN ?_
  | with_reducible refine q_fld ?_
  | with_reducible refine q_sFld ?_
  | with_reducible refine q_meth ?_
  | with_reducible refine q_makeK ?_
  | with_reducible refine q_isBl ?_
  | with_reducible refine q_notBl ?_
  | with_reducible refine q_sl ?_
  | with_reducible refine q_noPart ?_
  | with_reducible refine q_part ?_
  | with_reducible refine q_partK ?_
  | ((with_reducible apply q_mulStr); (focus (decide +kernel)))
  | with_reducible refine q_chT ?_
  | with_reducible refine q_chF ?_
  | with_reducible refine q_ord ?_
  | with_reducible refine q_iStr0 ?_
  | with_reducible refine q_iStr ?_
  | with_reducible refine q_tDIn ?_
  | with_reducible refine q_tDNotIn ?_
  | with_reducible refine q_tDGet ?_
  | with_reducible refine q_tDGet2 ?_
  | with_reducible refine q_tDGet1 ?_
  | with_reducible refine q_tDSetd ?_
  | ((with_reducible apply q_dG2a); (focus ((repeat first | (with_reducible exact upd_same) | (with_reducible assumption) | (with_reducible apply upd_new (by assumption)) | (with_reducible apply upd_other (by first | assumption | exact Ne.symm (by assumption))) | (with_reducible refine' Kp.get (by assumption) ?_ (by first | assumption | exact Ne.symm (by assumption))) | (with_reducible apply Same.get (by assumption))); done)))
  | ((with_reducible apply q_dSda); (focus ((repeat first | (with_reducible exact upd_same) | (with_reducible assumption) | (with_reducible apply upd_new (by assumption)) | (with_reducible apply upd_other (by first | assumption | exact Ne.symm (by assumption))) | (with_reducible refine' Kp.get (by assumption) ?_ (by first | assumption | exact Ne.symm (by assumption))) | (with_reducible apply Same.get (by assumption))); done)))
  | with_reducible refine q_sDPut ?_
  | ((with_reducible apply q_dInS); (focus ((repeat first | (with_reducible exact upd_same) | (with_reducible assumption) | (with_reducible apply upd_new (by assumption)) | (with_reducible apply upd_other (by first | assumption | exact Ne.symm (by assumption))) | (with_reducible refine' Kp.get (by assumption) ?_ (by first | assumption | exact Ne.symm (by assumption))) | (with_reducible apply Same.get (by assumption))); done)))
  | ((with_reducible apply q_dNInS); (focus ((repeat first | (with_reducible exact upd_same) | (with_reducible assumption) | (with_reducible apply upd_new (by assumption)) | (with_reducible apply upd_other (by first | assumption | exact Ne.symm (by assumption))) | (with_reducible refine' Kp.get (by assumption) ?_ (by first | assumption | exact Ne.symm (by assumption))) | (with_reducible apply Same.get (by assumption))); done)))
  | ((with_reducible apply q_dInI); (focus ((repeat first | (with_reducible exact upd_same) | (with_reducible assumption) | (with_reducible apply upd_new (by assumption)) | (with_reducible apply upd_other (by first | assumption | exact Ne.symm (by assumption))) | (with_reducible refine' Kp.get (by assumption) ?_ (by first | assumption | exact Ne.symm (by assumption))) | (with_reducible apply Same.get (by assumption))); done)))
  | ((with_reducible apply q_dNInI); (focus ((repeat first | (with_reducible exact upd_same) | (with_reducible assumption) | (with_reducible apply upd_new (by assumption)) | (with_reducible apply upd_other (by first | assumption | exact Ne.symm (by assumption))) | (with_reducible refine' Kp.get (by assumption) ?_ (by first | assumption | exact Ne.symm (by assumption))) | (with_reducible apply Same.get (by assumption))); done)))
  | ((with_reducible apply q_bmL); (focus ((repeat first | (with_reducible exact upd_same) | (with_reducible assumption) | (with_reducible apply upd_new (by assumption)) | (with_reducible apply upd_other (by first | assumption | exact Ne.symm (by assumption))) | (with_reducible refine' Kp.get (by assumption) ?_ (by first | assumption | exact Ne.symm (by assumption))) | (with_reducible apply Same.get (by assumption))); done)))
  | ((with_reducible apply q_bmL0); (focus ((repeat first | (with_reducible exact upd_same) | (with_reducible assumption) | (with_reducible apply upd_new (by assumption)) | (with_reducible apply upd_other (by first | assumption | exact Ne.symm (by assumption))) | (with_reducible refine' Kp.get (by assumption) ?_ (by first | assumption | exact Ne.symm (by assumption))) | (with_reducible apply Same.get (by assumption))); done)))
  | ((with_reducible apply q_ixLt); (focus ((repeat first | (with_reducible exact upd_same) | (with_reducible assumption) | (with_reducible apply upd_new (by assumption)) | (with_reducible apply upd_other (by first | assumption | exact Ne.symm (by assumption))) | (with_reducible refine' Kp.get (by assumption) ?_ (by first | assumption | exact Ne.symm (by assumption))) | (with_reducible apply Same.get (by assumption))); done)); (focus (exact rfl)))
  | ((with_reducible apply q_ixTt); (focus ((repeat first | (with_reducible exact upd_same) | (with_reducible assumption) | (with_reducible apply upd_new (by assumption)) | (with_reducible apply upd_other (by first | assumption | exact Ne.symm (by assumption))) | (with_reducible refine' Kp.get (by assumption) ?_ (by first | assumption | exact Ne.symm (by assumption))) | (with_reducible apply Same.get (by assumption))); done)); (focus (exact rfl)))
  | ((with_reducible apply q_lenLt); (focus ((repeat first | (with_reducible exact upd_same) | (with_reducible assumption) | (with_reducible apply upd_new (by assumption)) | (with_reducible apply upd_other (by first | assumption | exact Ne.symm (by assumption))) | (with_reducible refine' Kp.get (by assumption) ?_ (by first | assumption | exact Ne.symm (by assumption))) | (with_reducible apply Same.get (by assumption))); done)))
  | ((with_reducible apply q_lenTt); (focus ((repeat first | (with_reducible exact upd_same) | (with_reducible assumption) | (with_reducible apply upd_new (by assumption)) | (with_reducible apply upd_other (by first | assumption | exact Ne.symm (by assumption))) | (with_reducible refine' Kp.get (by assumption) ?_ (by first | assumption | exact Ne.symm (by assumption))) | (with_reducible apply Same.get (by assumption))); done)))
  | ((with_reducible apply q_append); (focus ((repeat first | (with_reducible exact upd_same) | (with_reducible assumption) | (with_reducible apply upd_new (by assumption)) | (with_reducible apply upd_other (by first | assumption | exact Ne.symm (by assumption))) | (with_reducible refine' Kp.get (by assumption) ?_ (by first | assumption | exact Ne.symm (by assumption))) | (with_reducible apply Same.get (by assumption))); done)); (focus ((first | (exact Nat.lt_of_ble_eq_true rfl) | (simp only [List.length_append, List.length_cons, List.length_nil, List.length_map]; exact small1000 (by omega))))))
  | ((with_reducible apply q_setL); (focus ((repeat first | (with_reducible exact upd_same) | (with_reducible assumption) | (with_reducible apply upd_new (by assumption)) | (with_reducible apply upd_other (by first | assumption | exact Ne.symm (by assumption))) | (with_reducible refine' Kp.get (by assumption) ?_ (by first | assumption | exact Ne.symm (by assumption))) | (with_reducible apply Same.get (by assumption))); done)); (focus (exact rfl)))
  | with_reducible refine q_ifNT ?_
  | with_reducible refine q_ifNF ?_
  | with_reducible refine q_andNT ?_
  | with_reducible refine q_andNF ?_
  | with_reducible refine q_orNT ?_
  | with_reducible refine q_orNF ?_
  | with_reducible refine q_bKNT ?_
  | with_reducible refine q_bKNF ?_
  | with_reducible refine q_tNGet ?_
  | with_reducible refine q_tNIn ?_
  | with_reducible refine q_sNPut ?_
  | with_reducible refine q_sFldAug ?_
  | with_reducible refine q_sDAug ?_
  | with_reducible refine q_sDDel ?_
  | with_reducible refine q_forX ?_
  | with_reducible refine q_tMake ?_
  | ((with_reducible apply q_dG1a); (focus ((repeat first | (with_reducible exact upd_same) | (with_reducible assumption) | (with_reducible apply upd_new (by assumption)) | (with_reducible apply upd_other (by first | assumption | exact Ne.symm (by assumption))) | (with_reducible refine' Kp.get (by assumption) ?_ (by first | assumption | exact Ne.symm (by assumption))) | (with_reducible apply Same.get (by assumption))); done)))))
open TL
theorem ints_all (ns : List Int) : PyData.canLayAll0 (ns.map PyData.int) = true ∧ PyData.depthAll (ns.map PyData.int) = 0 := by
  induction ns with
  | nil => exact ⟨by simp [PyData.canLayAll0], by simp [PyData.depthAll]⟩
  | cons x r ih => exact ⟨by simp [PyData.canLayAll0, PyData.canLay0, ih.1], by simp [PyData.depthAll, PyData.depth, ih.2]⟩
theorem ints_lay (ns : List Int) : (PyData.list (ns.map PyData.int)).canLay0 = true := by
  simp only [PyData.canLay0]
  exact (ints_all ns).1
theorem ints_shaped (ns : List Int) : SeqAt.shaped (.list (ns.map PyData.int)) = true := by
  show ((PyData.list (ns.map PyData.int)).canLay0 && decide ((PyData.list (ns.map PyData.int)).depth ≤ 64)) = true
  rw [ints_lay]
  simp [PyData.depth, (ints_all ns).2]
theorem ints_dp {K : PySem.W.Frag} {H : Hp} : ∀ ns : List Int, DpAll K H (ns.map V.int) (ns.map PyData.int)
  | [] => .nil
  | x :: r => .cons (.int x) (ints_dp r)

/-! the law of roots -/
theorem q_join {D : Ends} {t u : TS} {σ : L2.St} {c : Bool} {H : Hp} (J : L2.St → Hp → Prop) (hJ : ∀ σ H, J σ H → D.nx σ H) (h : ∀ N : L2.St → Hp → Prop, (∀ σ H, J σ H → N σ H) → ifK { D with nx := N } t u σ c H) : ifK D t u σ c H := h D.nx hJ
theorem DigAt.next {C : Addr} {H H' : Hp} {d vl nd p l : Addr} {T : List NestedKey} (h : DigAt C H d vl nd T) (kp : Kp p H H') (pot : PotAt H p l) (n : vl ≠ p) : DigAt C H' d vl nd T := by
  obtain ⟨_, _, _, _, hp, _⟩ := pot
  obtain ⟨dx, z⟩ := h.o
  obtain ⟨vs, v1, v2⟩ := h.v
  have tp : ∀ b ys, H b = some (.tup ys) → H' b = some (.tup ys) := fun b ys q => kp.get q (ne_of q hp (by intro z; cases z))
  exact ⟨⟨dx, kp.get z (ne_of z hp (by intro z; cases z))⟩, ⟨vs, kp.get v1 n, NVs.mono tp v2⟩, kp.get h.n (ne_of h.n hp (by intro z; cases z)), h.ok, h.un⟩
theorem DigAt.off {C : Addr} {H : Hp} {d vl nd q : Addr} {T : List NestedKey} {zs : List V} {o : HO} (h : DigAt C H d vl nd T) (hq : H q = some (.lst zs)) (n : q ≠ vl) : DigAt C (upd H q o) d vl nd T := by
  obtain ⟨dx, z⟩ := h.o
  obtain ⟨vs, v1, v2⟩ := h.v
  have tp : ∀ b ys, H b = some (.tup ys) → upd H q o b = some (.tup ys) := fun b ys h => upd_other (ne_of h hq (by intro z; cases z)) h
  exact ⟨⟨dx, upd_other (ne_of z hq (by intro z; cases z)) z⟩, ⟨vs, upd_other n.symm v1, NVs.mono tp v2⟩, upd_other (ne_of h.n hq (by intro z; cases z)) h.n, h.ok, h.un⟩
theorem ints_eqvA : ∀ a b : List Int, PyData.eqvAll (a.map PyData.int) (b.map PyData.int) = decide (a = b)
  | [], [] => by simp [PyData.eqvAll]
  | [], _ :: _ => by simp [PyData.eqvAll]
  | _ :: _, [] => by simp [PyData.eqvAll]
  | x :: xs, y :: ys => by
    simp only [List.map_cons, PyData.eqvAll, PyData.eqv]
    rw [ints_eqvA xs ys]
    by_cases h : x = y <;> by_cases h2 : xs = ys <;> simp [h, h2]
theorem ints_eqv (a b : List Int) : PyData.eqv (.list (a.map PyData.int)) (.list (b.map PyData.int)) = decide (a = b) := by
  simp only [PyData.eqv]
  exact ints_eqvA a b
theorem root_use {K : PySem.W.Frag} {C d vl nd a : Addr} {T : List NestedKey} {xs : List Int} {H : Hp} {Q : VK} {E : XK} (hD : DigAt C H d vl nd T) (ha : H a = some (.lst (xs.map V.int))) (hv : a ≠ vl) (hl : xs.length ≤ 21) (hx : ∀ x ∈ xs, 0 ≤ x ∧ x ≤ 3) (hT : T.length ≤ 400)
    (k : ∀ (H' : Hp) (T' : List NestedKey) (i : Nat), T <+: T' → T'.length ≤ T.length + 50 → DigAt C H' d vl nd T' → Rt T' xs i → (∀ b zs, b ≠ vl → H b = some (.lst zs) → H' b = some (.lst zs)) → Q (.int (i : Nat)) H') : sp_root K C 5 [.ref d, .ref a] H Q E :=
  ⟨d, vl, nd, a, T, xs, rfl, hD, ha, hv, by omega, by omega, fun x h => by have := hx x h; omega, by omega, fun H' T' i p D r l q => k H' T' i p (by omega) D r fun b zs n h => q b _ h n (ne_of h hD.n (by intro z; cases z))⟩
def spLaw (K : PySem.W.Frag) : Sp := fun vs H Q _ => ∃ (a : Addr) (ns : List Int), vs = [.ref a] ∧ SqL K H a (ns.map V.int) ∧ ns.length ≤ 63 ∧ ∀ H', Q (.bl true) H'
structure LRt (C p l d vl nd : Addr) (H : Hp) : Prop where
  pot : PotAt H p l
  dg : DigAt C H d vl nd []
theorem LRt.new {C p l d vl nd a : Addr} {H : Hp} {o : HO} (h : LRt C p l d vl nd H) (n : H a = none) : LRt C p l d vl nd (upd H a o) := ⟨h.pot.new n, h.dg.same (Same.new (Same.refl _) n)⟩
theorem LRt.next {C p l d vl nd : Addr} {H H' : Hp} (h : LRt C p l d vl nd H) (n : vl ≠ p) (pot : PotAt H' p l) (kp : Kp p H H') : LRt C p l d vl nd H' := ⟨pot, h.dg.next kp h.pot n⟩
section
variable {P : Program} {w : World} {K : PySem.W.Frag} {mg : Str → Option Value} {base : Heap}
set_option maxHeartbeats 0 in
theorem ok_law (T : Txt K mg) : FnOk P w K mg base CX0 12 T.f_law T.d_law ["script"] (spLaw K) := by
  refine T.F_law.ok sc_law (fun vs H Q E h => ?_) (fun cdv A outer s H vs Q E hr h => ?_)
  · obtain ⟨a, ns, rfl, _⟩ := h; rfl
  · obtain ⟨a0, ns0, rfl, hS, hlen, k⟩ := h
    have ok_root := fun T : Txt K mg => ok_root5 (P := P) (w := w) (base := base) T
    have ok_L_root := fun T : Txt K mg => ok_L_root5 (P := P) (w := w) (base := base) T
    refine ⟨_, (pss_cons (ps_set (i := 1) sc_law.nd rfl (Or.inr rfl) (pe_call (ok_L_pot T) (hr.mono (by decide)) (by rfl) T.g_L_pot T.F_L_pot.kp T.b_L_pot .nil pass0 (pa_cons (pv 0) pa_nil)))
      (pss_cons (ps_set (i := 2) sc_law.nd rfl (Or.inl rfl) (pe_make0 T.mk_Digests (ok_Digests_init T) (hr.mono (by decide)) (by rfl) T.g_Digests T.b_Digests_init .nil pass0))
      (pss_cons (ps_setLc (i := 3) (own := [("k", 8)]) (g := (gName 8)) (tt := tYes) (te := (tCall sp_next [] E0 (tCons (tVar 1) (tCons (tC (.int 3)) tNil)))) rfl sc_law.nd rfl rfl (sw_true rfl rfl rfl (by decide +kernel)) (pi_range1 (by rfl) T.z_range (pa_cons (pe_call (ok_L_next T) (hr.mono (by decide)) (by rfl) T.g_L_next T.F_L_next.kp T.b_L_next .nil pass0 (pa_cons (pv 1) (pa_cons pe_int pa_nil))) pa_nil)) (blkOk_by (own := [("k", 8)]) (N := ["script", "pot", "digests", "one", "other", "kind", "kept", "found", "k", "at"]) (sc := defScope s_law) (by decide +kernel)) (fun _ _ _ _ _ => (pg_name (i := 8) sc_law.nd rfl (Or.inl rfl))) (fun _ _ _ _ _ => pts_nil) (fun _ _ _ _ _ => (pe_call (ok_L_next T) (hr.mono (by decide)) (by rfl) T.g_L_next T.F_L_next.kp T.b_L_next .nil pass0 (pa_cons (pv 1) (pa_cons pe_int pa_nil)))))
      (pss_cons (ps_set (i := 4) sc_law.nd rfl (Or.inl rfl) (pe_callTy cq_listOf (by rfl) T.z_list boot_list (pa_cons (pv 3) pa_nil)))
      (pss_cons (ps_set (i := 5) sc_law.nd rfl (Or.inl rfl) (pe_call (ok_L_next T) (hr.mono (by decide)) (by rfl) T.g_L_next T.F_L_next.kp T.b_L_next .nil pass0 (pa_cons (pv 1) (pa_cons pe_int pa_nil))))
      (pss_cons (ps_if (pt_cmpR op_eq (pv 5) pe_int (nomark _)) (pss_one (ps_setLc (i := 4) (own := [("k", 8)]) (g := (gName 8)) (tt := tYes) (te := (tCall sp_next [] E0 (tCons (tVar 1) (tCons (tC (.int 3)) tNil)))) rfl sc_law.nd rfl rfl (sw_true rfl rfl rfl (by decide +kernel)) (pi_range1 (by rfl) T.z_range (pa_cons (pe_call (ok_L_next T) (hr.mono (by decide)) (by rfl) T.g_L_next T.F_L_next.kp T.b_L_next .nil pass0 (pa_cons (pv 1) (pa_cons pe_int pa_nil))) pa_nil)) (blkOk_by (own := [("k", 8)]) (N := ["script", "pot", "digests", "one", "other", "kind", "kept", "found", "k", "at"]) (sc := defScope s_law) (by decide +kernel)) (fun _ _ _ _ _ => (pg_name (i := 8) sc_law.nd rfl (Or.inl rfl))) (fun _ _ _ _ _ => pts_nil) (fun _ _ _ _ _ => (pe_call (ok_L_next T) (hr.mono (by decide)) (by rfl) T.g_L_next T.F_L_next.kp T.b_L_next .nil pass0 (pa_cons (pv 1) (pa_cons pe_int pa_nil)))))) (pss_one (ps_if (pt_cmpR op_eq (pv 5) pe_int (nomark _)) (pss_one (ps_expr (pe_bm PySem.F.plainAttrs_list PySem.F.slot_list_append PySem.F.type_list_append mt_append (pv 4) (pa_cons (pe_call (ok_L_next T) (hr.mono (by decide)) (by rfl) T.g_L_next T.F_L_next.kp T.b_L_next .nil pass0 (pa_cons (pv 1) (pa_cons pe_int pa_nil))) pa_nil)))) (pss_one (ps_if (PW.pt (pw_and (pt_cmpR op_eq (pv 5) pe_int (nomark _)) (pw_and1 (pt_cmpR op_gt (pe_callB cq_len (by rfl) T.z_len boot_len (pa_cons (pv 4) pa_nil)) pe_int (nomark _))))) (pss_one (ps_expr (pe_bm0 PySem.F.plainAttrs_list PySem.F.slot_list_pop PySem.F.type_list_pop mt_pop (pv 4)))) (pss_one (ps_if (PW.pt (pw_and (pt_cmpR op_eq (pv 5) pe_int (nomark _)) (pw_and1 (pt_cmpR op_gt (pe_callB cq_len (by rfl) T.z_len boot_len (pa_cons (pv 4) pa_nil)) pe_int (nomark _))))) (pss_cons (ps_set (i := 9) sc_law.nd rfl (Or.inl rfl) (pe_call (ok_L_next T) (hr.mono (by decide)) (by rfl) T.g_L_next T.F_L_next.kp T.b_L_next .nil pass0 (pa_cons (pv 1) (pa_cons (pe_callB cq_len (by rfl) T.z_len boot_len (pa_cons (pv 4) pa_nil)) pa_nil))))
      (pss_one (ps_asg (pe_op op_add (pe_ix ix_list (pv 4) (pv 9) (fun _ _ => rfl)) pe_int) (pg_sub (pv 4) (pv 9) set_list)))) pss_nil)))))))
      (pss_cons (ps_set (i := 6) sc_law.nd rfl (Or.inl rfl) (pe_callTy cq_listOf (by rfl) T.z_list boot_list (pa_cons (pv 3) pa_nil)))
      (pss_cons (ps_set (i := 7) sc_law.nd rfl (Or.inl rfl) (pe_call (ok_root T) (hr.mono (by decide)) (by rfl) T.g_root T.F_root.kp T.b_root .nil pass0 (pa_cons (pv 2) (pa_cons (pv 3) pa_nil))))
      (pss_cons (ps_if (PW.pt (pw_or (pt_cmpR (op_neD hr.units) (pv 3) (pv 6) (nomark _)) (pw_or (pt_cmpR op_ne (pv 7) (pe_call (ok_L_root T) (hr.mono (by decide)) (by rfl) T.g_L_root T.F_L_root.kp T.b_L_root .nil pass0 (pa_cons (pv 2) (pa_cons (pv 3) pa_nil))) (nomark _)) (pw_or1 (pt_cmpR op_ne (pe_call (ok_root T) (hr.mono (by decide)) (by rfl) T.g_root T.F_root.kp T.b_root .nil pass0 (pa_cons (pv 2) (pa_cons (pv 4) pa_nil))) (pe_call (ok_L_root T) (hr.mono (by decide)) (by rfl) T.g_L_root T.F_L_root.kp T.b_L_root .nil pass0 (pa_cons (pv 2) (pa_cons (pv 4) pa_nil))) (nomark _)))))) (pss_one (ps_ret pe_bl)) pss_nil)
      (pss_one (ps_ret (pe_cmpR op_eq (pe_cmpR op_eq (pv 7) (pe_call (ok_root T) (hr.mono (by decide)) (by rfl) T.g_root T.F_root.kp T.b_root .nil pass0 (pa_cons (pv 2) (pa_cons (pv 4) pa_nil))) (nomark _)) (pe_cmpR (op_eqD hr.units) (pv 3) (pv 4) (nomark _)) (nomark _))))))))))))), ?_⟩
    (dsimp only [cxOf, Cx.nox, Cx.wish, L2.start, List.map, List.length, List.replicate, List.cons_append, List.nil_append, List.append_eq, Nat.reduceSub, Nat.reduceAdd])
    walk_at "my_rd"
    refine ⟨a0, ns0, rfl, hS, hlen, fun p l0 H1 np nl0 pot1 sm1 => ?_⟩
    walk_at "my_rd"
    intro d dx nb ndx ndb
    refine ⟨d, dx, rfl, upd_same, fun vl nd H2 nvl nnd hD kp2 => ⟨rfl, ?_⟩⟩
    have sm2 : Same H1 H2 := fun q o hq => kp2 q o (upd_other (ne_of_none hq nb) (upd_other (ne_of_none hq ndx) hq)) (ne_of_none hq nb)
    have pot2 := pot1.same sm2
    have nvl1 : H1 vl = none := upd_none_back (upd_none_back nvl)
    have nv1 : vl ≠ p := pot1.nep nvl1
    have nv2 : vl ≠ l0 := pot1.nel nvl1
    have I2 : LRt T.C_Digests p l0 d vl nd H2 := ⟨pot2, hD⟩
    clear hS pot1 pot2 hD sm1 sm2 kp2 nvl1
    walk_at "my_rd"
    refine ⟨p, l0, 21, rfl, I2.pot, by omega, by omega, fun m H4 m0 m1 pot4 kp4 => ?_⟩
    have I4 := I2.next nv1 pot4 kp4
    walk_at "my_rd"
    refine q_lcR ⟨m0, by omega⟩ (fun oa noa => ⟨fun i H' => ∃ us : List Int, LRt T.C_Digests p l0 d vl nd H' ∧ H' oa = some (.lst (us.map V.int)) ∧ us.length = i ∧ ∀ u ∈ us, 0 ≤ u ∧ u < 3, ⟨[], I4.new noa, upd_same, rfl, by simp⟩, ?_, ?_⟩)
    · rintro i H' hi ⟨us, I, hoa, hl, hu⟩
      have nup : oa ≠ p := I4.pot.nep noa
      have nuv : oa ≠ vl := by obtain ⟨_, h, _⟩ := I4.dg.v; exact (ne_of_none h noa).symm
      walk_at "my_rd"
      refine ⟨rfl, ?_⟩
      walk_at "my_rd"
      refine ⟨p, l0, 3, rfl, I.pot, by omega, by omega, fun b H6 b0 b1 pot6 kp6 => ?_⟩
      have I6 := I.next nv1 pot6 kp6
      have hoa6 := kp6.get hoa nup
      walk_at "my_rd"
      refine q_accK (kp6.get hoa nup) (by rw [List.length_map]; exact small1000 (by omega)) ⟨us ++ [b], ⟨I6.pot.upd nup (I4.pot.nel noa), I6.dg.off hoa6 nuv⟩, by rw [upd_same, List.map_append]; rfl, by rw [List.length_append]; show us.length + 1 = i + 1; omega, fun u hu2 => ?_⟩
      rcases List.mem_append.mp hu2 with q | q
      · exact hu u q
      · rw [List.mem_singleton.mp q]; omega
    · rintro H5 ⟨us, I5, hoa, hl, hu⟩
      have hus : us.length ≤ 20 := by omega
      have oup : oa ≠ p := I4.pot.nep noa
      have ouv : oa ≠ vl := by obtain ⟨_, h, _⟩ := I4.dg.v; exact (ne_of_none h noa).symm
      clear I2 I4 pot4 kp4 noa
      walk_at "my_rd"
      refine q_listL (sqL hoa) fun ob nob => ?_
      have hoa2 := upd_new (w := .lst (us.map V.int)) nob hoa
      have hob : upd H5 ob (.lst (us.map V.int)) ob = some (.lst (us.map V.int)) := upd_same
      have I6 := I5.new (o := .lst (us.map V.int)) nob
      have bup : ob ≠ p := I5.pot.nep nob
      have bul : ob ≠ l0 := I5.pot.nel nob
      have buv : ob ≠ vl := by obtain ⟨_, h, _⟩ := I5.dg.v; exact (ne_of_none h nob).symm
      have abn : oa ≠ ob := ne_of_none hoa nob
      generalize upd H5 ob (.lst (us.map V.int)) = H6 at hoa2 hob I6
      walk_at "my_rd"
      refine ⟨p, l0, 5, rfl, I6.pot, by omega, by omega, fun kd H7 k0 k1 pot7 kp7 => ?_⟩
      have I7 := I6.next nv1 pot7 kp7
      have hoa7 := kp7.get hoa2 oup
      have hob7 := kp7.get hob bup
      clear pot7 kp7 I6 hoa2 hob I5 hoa
      walk_at "my_rd"
      refine q_join (fun σ H' => ∃ (oc : Addr) (ys : List Int) (v8 v9 : Option V), σ = [some (.ref a0), some (.ref p), some (.ref d), some (.ref oa), some (.ref oc), some (.int kd), none, none, v8, v9] ∧ DigAt T.C_Digests H' d vl nd [] ∧ H' oa = some (.lst (us.map V.int)) ∧ H' oc = some (.lst (ys.map V.int)) ∧ oc ≠ vl ∧ ys.length ≤ 21 ∧ ∀ y ∈ ys, 0 ≤ y ∧ y ≤ 3) ?_ ?_
      · rintro σ H' ⟨oc, ys, v8, v9, rfl, D0, ha, hc, ncv, hyl, hy⟩
        walk_at "my_rd"
        refine q_listL (sqL ha) fun kc nkc => ?_
        have sm : Same H' (upd H' kc (.lst (us.map V.int))) := Same.new (Same.refl _) nkc
        have hk : upd H' kc (.lst (us.map V.int)) kc = some (.lst (us.map V.int)) := upd_same
        have ncl : kc ≠ vl := by obtain ⟨_, h, _⟩ := D0.v; exact (ne_of_none h nkc).symm
        have D1 := D0.same sm
        have ha1 := sm _ _ ha
        have hc1 := sm _ _ hc
        generalize upd H' kc (.lst (us.map V.int)) = G1 at D1 ha1 hc1 hk
        clear D0 ha hc sm nkc
        walk_at "my_rd"
        refine root_use D1 ha1 ouv (by omega) (fun x h => ⟨(hu x h).1, by have := (hu x h).2; omega⟩) (by simp) fun G2 T2 i2 pre2 le2 D2 r2 kq2 => ?_
        have hk2 := kq2 _ _ ncl hk
        have ha2 := kq2 _ _ ouv ha1
        have hc2 := kq2 _ _ ncv hc1
        walk_at "my_rd"
        refine q_neD (d := .list (us.map PyData.int)) (e := .list (us.map PyData.int)) (.lst (sqL ha2) (ints_dp _)) (.lst (sqL hk2) (ints_dp _)) (ints_shaped _) (ints_shaped _) ?_
        rw [SeqAt.eqv_refl _ (ints_lay _)]
        walk_at "my_rd"
        refine root_use D2 ha2 ouv (by omega) (fun x h => ⟨(hu x h).1, by have := (hu x h).2; omega⟩) (by simp at le2; omega) fun G3 T3 i3 pre3 le3 D3 r3 kq3 => ?_
        have hc3 := kq3 _ _ ncv hc2
        have ha3 := kq3 _ _ ouv ha2
        obtain rfl : i2 = i3 := (r2.mono pre3).fn D3.un r3
        walk_at "my_rd"
        rw [show (!decide ((i2 : Int) = (i2 : Int))) = false by simp]
        walk_at "my_rd"
        refine root_use D3 hc3 ncv hyl hy (by simp at le2; omega) fun G4 T4 i4 pre4 le4 D4 r4 kq4 => ?_
        have hc4 := kq4 _ _ ncv hc3
        have ha4 := kq4 _ _ ouv ha3
        walk_at "my_rd"
        refine root_use D4 hc4 ncv hyl hy (by simp at le2; omega) fun G5 T5 i5 pre5 le5 D5 r5 kq5 => ?_
        have hc5 := kq5 _ _ ncv hc4
        have ha5 := kq5 _ _ ouv ha4
        obtain rfl : i4 = i5 := (r4.mono pre5).fn D5.un r5
        walk_at "my_rd"
        rw [show (!decide ((i4 : Int) = (i4 : Int))) = false by simp]
        walk_at "my_rd"
        refine root_use D5 hc5 ncv hyl hy (by simp at le2; omega) fun G6 T6 i6 pre6 le6 D6 r6 kq6 => ?_
        have hc6 := kq6 _ _ ncv hc5
        have ha6 := kq6 _ _ ouv ha5
        obtain rfl : i4 = i6 := (r5.mono pre6).fn D6.un r6
        walk_at "my_rd"
        refine q_eqD (d := .list (us.map PyData.int)) (e := .list (ys.map PyData.int)) (.lst (sqL ha6) (ints_dp _)) (.lst (sqL hc6) (ints_dp _)) (ints_shaped _) (ints_shaped _) ?_
        rw [ints_eqv]
        walk_at "my_rd"
        have r7 := r3.mono (pre4.trans (pre5.trans pre6))
        have e : ((i2 : Int) = (i4 : Int)) ↔ us = ys := ⟨fun q => r7.inj (Int.ofNat.inj q ▸ r6), fun q => by subst q; exact congrArg Int.ofNat (r7.fn D6.un r6)⟩
        refine q_eqB ?_
        have eb : decide ((i2 : Int) = (i4 : Int)) = decide (us = ys) := decide_eq_decide.mpr e
        rw [eb, beq_self_eq_true]
        exact k _
      · intro N hN
        refine q_if2 (fun h => ?_) (fun h => ?_)
        · clear h
          walk_at "my_rd"
          refine ⟨p, l0, 21, rfl, I7.pot, by omega, by omega, fun n2 H8 n0 n1 pot8 kp8 => ?_⟩
          have I8 := I7.next nv1 pot8 kp8
          have hoa8 := kp8.get hoa7 oup
          walk_at "my_rd"
          refine q_lcR ⟨n0, by omega⟩ (fun oc noc => ⟨fun i H' => ∃ ys : List Int, LRt T.C_Digests p l0 d vl nd H' ∧ H' oa = some (.lst (us.map V.int)) ∧ H' oc = some (.lst (ys.map V.int)) ∧ ys.length = i ∧ ∀ u ∈ ys, 0 ≤ u ∧ u ≤ 3, ⟨[], I8.new noc, upd_new noc hoa8, upd_same, rfl, by simp⟩, ?_, ?_⟩)
          · rintro i H' hi ⟨ys, I, hoa, hoc, hl, hy⟩
            have nup : oc ≠ p := I8.pot.nep noc
            have nuv : oc ≠ vl := by obtain ⟨_, h, _⟩ := I8.dg.v; exact (ne_of_none h noc).symm
            have nab : oa ≠ oc := ne_of_none hoa8 noc
            walk_at "my_rd"
            refine ⟨rfl, ?_⟩
            walk_at "my_rd"
            refine ⟨p, l0, 3, rfl, I.pot, by omega, by omega, fun b H6 b0 b1 pot6 kp6 => ?_⟩
            have I6 := I.next nv1 pot6 kp6
            have hoc6 := kp6.get hoc nup
            walk_at "my_rd"
            refine q_accK hoc6 (by rw [List.length_map]; exact small1000 (by omega)) ⟨ys ++ [b], ⟨I6.pot.upd nup (I8.pot.nel noc), I6.dg.off hoc6 nuv⟩, upd_other nab (kp6.get hoa oup), by rw [upd_same, List.map_append]; rfl, by rw [List.length_append]; show ys.length + 1 = i + 1; omega, fun u hu2 => ?_⟩
            rcases List.mem_append.mp hu2 with q | q
            · exact hy u q
            · rw [List.mem_singleton.mp q]; omega
          · rintro H9 ⟨ys, I9, hoa9, hoc9, hl9, hy9⟩
            have nuv : oc ≠ vl := by obtain ⟨_, h, _⟩ := I8.dg.v; exact (ne_of_none h noc).symm
            walk_at "my_rd"
            exact hN _ _ ⟨oc, ys, _, _, rfl, I9.dg, hoa9, hoc9, nuv, by omega, hy9⟩
        · clear h
          have hu3 : ∀ u ∈ us, 0 ≤ u ∧ u ≤ 3 := fun u h => ⟨(hu u h).1, by have := (hu u h).2; omega⟩
          walk_at "my_rd"
          refine q_if2 (fun h => ?_) (fun h => ?_)
          · clear h
            walk_at "my_rd"
            refine ⟨p, l0, 3, rfl, I7.pot, by omega, by omega, fun b H8 b0 b1 pot8 kp8 => ?_⟩
            have I8 := I7.next nv1 pot8 kp8
            have hoa8 := kp8.get hoa7 oup
            have hob8 := kp8.get hob7 bup
            walk_at "my_rd"
            refine hN _ _ ⟨ob, us ++ [b], _, _, rfl, I8.dg.off hob8 buv, upd_other abn hoa8, by rw [upd_same, List.map_append]; rfl, buv, by rw [List.length_append]; show us.length + 1 ≤ 21; omega, fun u hu2 => ?_⟩
            rcases List.mem_append.mp hu2 with q | q
            · exact hu3 u q
            · rw [List.mem_singleton.mp q]; omega
          · clear h
            walk_at "my_rd"
            refine q_and2 (fun h => ?_) (fun h => ?_)
            · clear h
              walk_at "my_rd"
              refine q_if2 (fun h => ?_) (fun h => ?_)
              · have h := dec_t h
                walk_at "my_rd"
                obtain ⟨y, hy⟩ : ∃ y, (us.map V.int)[(us.map V.int).length - 1]? = some y := ⟨_, List.getElem?_eq_getElem (by omega)⟩
                refine ⟨ob, us.map V.int, y, rfl, rfl, hob7, hy, ?_⟩
                walk_at "my_rd"
                exact hN _ _ ⟨ob, us.dropLast, _, _, rfl, I7.dg.off hob7 buv, upd_other abn hoa7, by rw [upd_same, List.map_dropLast], buv, by rw [List.length_dropLast]; omega, fun u hu2 => hu3 u ((List.dropLast_sublist us).subset hu2)⟩
              · clear h
                walk_at "my_rd"
                refine q_and2 (fun h => ?_) (fun h => ?_)
                · clear h
                  walk_at "my_rd"
                  refine q_if2 (fun h => ?_) (fun h => ?_)
                  · have h := dec_t h
                    rw [List.length_map] at h
                    walk_at "my_rd"
                    refine ⟨p, l0, (us.length : Nat), by rw [List.length_map], I7.pot, by omega, by omega, fun b H8 b0 b1 pot8 kp8 => ?_⟩
                    have I8 := I7.next nv1 pot8 kp8
                    have hoa8 := kp8.get hoa7 oup
                    have hob8 := kp8.get hob7 bup
                    obtain ⟨n, rfl⟩ : ∃ n : Nat, b = n := ⟨b.toNat, by omega⟩
                    have hn : n < us.length := by omega
                    walk_at "my_rd"
                    refine q_ixLt hob8 (at_int (x := .int us[n]) rfl (by rw [List.getElem?_map, List.getElem?_eq_getElem hn]; rfl)) ?_
                    walk_at "my_rd"
                    refine q_setL (n := n) hob8 (by unfold ixN; rw [if_pos (by omega), if_pos (by rw [List.length_map]; omega)]; rfl) ?_
                    walk_at "my_rd"
                    refine hN _ _ ⟨ob, us.set n (us[n] + 1), _, _, rfl, I8.dg.off hob8 buv, upd_other abn hoa8, by rw [upd_same, List.map_set], buv, by rw [List.length_set]; omega, fun u hu2 => ?_⟩
                    rcases List.mem_or_eq_of_mem_set hu2 with q | q
                    · exact hu3 u q
                    · have := hu us[n] (List.getElem_mem _); omega
                  · clear h
                    walk_at "my_rd"
                    exact hN _ _ ⟨ob, us, _, _, rfl, I7.dg, hoa7, hob7, buv, by omega, hu3⟩
                · clear h
                  walk_at "my_rd"
                  exact hN _ _ ⟨ob, us, _, _, rfl, I7.dg, hoa7, hob7, buv, by omega, hu3⟩
            · clear h
              walk_at "my_rd"
              refine q_and2 (fun h => ?_) (fun h => ?_)
              · clear h
                walk_at "my_rd"
                refine q_if2 (fun h => ?_) (fun h => ?_)
                · have h := dec_t h
                  rw [List.length_map] at h
                  walk_at "my_rd"
                  refine ⟨p, l0, (us.length : Nat), by rw [List.length_map], I7.pot, by omega, by omega, fun b H8 b0 b1 pot8 kp8 => ?_⟩
                  have I8 := I7.next nv1 pot8 kp8
                  have hoa8 := kp8.get hoa7 oup
                  have hob8 := kp8.get hob7 bup
                  obtain ⟨n, rfl⟩ : ∃ n : Nat, b = n := ⟨b.toNat, by omega⟩
                  have hn : n < us.length := by omega
                  walk_at "my_rd"
                  refine q_ixLt hob8 (at_int (x := .int us[n]) rfl (by rw [List.getElem?_map, List.getElem?_eq_getElem hn]; rfl)) ?_
                  walk_at "my_rd"
                  refine q_setL (n := n) hob8 (by unfold ixN; rw [if_pos (by omega), if_pos (by rw [List.length_map]; omega)]; rfl) ?_
                  walk_at "my_rd"
                  refine hN _ _ ⟨ob, us.set n (us[n] + 1), _, _, rfl, I8.dg.off hob8 buv, upd_other abn hoa8, by rw [upd_same, List.map_set], buv, by rw [List.length_set]; omega, fun u hu2 => ?_⟩
                  rcases List.mem_or_eq_of_mem_set hu2 with q | q
                  · exact hu3 u q
                  · have := hu us[n] (List.getElem_mem _); omega
                · clear h
                  walk_at "my_rd"
                  exact hN _ _ ⟨ob, us, _, _, rfl, I7.dg, hoa7, hob7, buv, by omega, hu3⟩
              · clear h
                walk_at "my_rd"
                exact hN _ _ ⟨ob, us, _, _, rfl, I7.dg, hoa7, hob7, buv, by omega, hu3⟩
end

def txt_mk {K : PySem.W.Frag} {h : Heap} {mg : Str → Option Value} (X : K.In h) (G : h.Ns mainGlobals mg)
    {f0 f1 f2 f3 f4 f5 f6 f7 f8 f9 f10 f11 f12 f13 f14 C0 C1 C2 : Addr} {od0 an0 od1 an1 od2 an2 od3 an3 od4 an4 od5 an5 od6 an6 od7 an7 od8 an8 od9 an9 od10 an10 od11 an11 od12 an12 od13 an13 od14 an14 : Option Addr} {sl0 sl1 sl2 sl3 sl4 sl5 sl6 sl7 sl8 sl9 sl10 sl11 sl12 sl13 sl14 : Array (Option Value)} {oc0 kV0 dc0 pm0 cd0 ct0 oc1 kV1 dc1 pm1 cd1 ct1 oc2 kV2 dc2 pm2 cd2 ct2 oc3 kV3 dc3 pm3 cd3 ct3 oc4 kV4 dc4 pm4 cd4 ct4 oc5 kV5 dc5 pm5 cd5 ct5 oc6 kV6 dc6 pm6 cd6 ct6 oc7 kV7 dc7 pm7 cd7 ct7 oc8 kV8 dc8 pm8 cd8 ct8 oc9 kV9 dc9 pm9 cd9 ct9 oc10 kV10 dc10 pm10 cd10 ct10 oc11 kV11 dc11 pm11 cd11 ct11 oc12 kV12 dc12 pm12 cd12 ct12 oc13 kV13 dc13 pm13 cd13 ct13 oc14 kV14 dc14 pm14 cd14 ct14 : Value} {tk0 : Tok}
    (a0 : PySem.W.nsIn K mainGlobals "_wall" = some (some (.ref f0)))
    (a1 : PySem.W.nsIn K mainGlobals "left_size" = some (some (.ref f1)))
    (a2 : PySem.W.nsIn K mainGlobals "root" = some (some (.ref f2)))
    (a3 : PySem.W.nsIn K mainGlobals "write" = some (some (.ref f3)))
    (a4 : PySem.W.nsIn K mainGlobals "written_integer" = some (some (.ref f4)))
    (a5 : PySem.W.nsIn K mainGlobals "digits_of" = some (some (.ref f5)))
    (a6 : PySem.W.nsIn K mainGlobals "parted" = some (some (.ref f6)))
    (a11 : PySem.W.nsIn K mainGlobals "_law_pot" = some (some (.ref f11)))
    (a12 : PySem.W.nsIn K mainGlobals "_law_next" = some (some (.ref f12)))
    (a13 : PySem.W.nsIn K mainGlobals "_law_root" = some (some (.ref f13)))
    (a14 : PySem.W.nsIn K mainGlobals "law" = some (some (.ref f14)))
    (aC0 : PySem.W.nsIn K mainGlobals "BridgeError" = some (some (.ref C0)))
    (aC1 : PySem.W.nsIn K mainGlobals "UnknownDigest" = some (some (.ref C1)))
    (aC2 : PySem.W.nsIn K mainGlobals "Digests" = some (some (.ref C2)))
    (m7 : PySem.W.findIn K (.ref C2) "__init__" = some (some (.ref f7)))
    (m8 : PySem.W.findIn K (.ref C2) "number" = some (some (.ref f8)))
    (m9 : PySem.W.findIn K (.ref C2) "value" = some (some (.ref f9)))
    (m10 : PySem.W.findIn K (.ref C2) "count" = some (some (.ref f10)))
    (l0 : K.lookup f0 = some ⟨oc0, od0, .func (PySem.W.fnOf "_wall" "_wall" (defArgs s__wall) (defBody s__wall) (defScope s__wall) .none kV0 dc0 pm0 an0 cd0 ct0), sl0⟩)
    (c0 : PySem.W.codeIn K cd0 "_wall" = true)
    (k0 : PySem.W.keepIn K (.ref f0) = true)
    (l1 : K.lookup f1 = some ⟨oc1, od1, .func (PySem.W.fnOf "left_size" "left_size" (defArgs s_left_size) (defBody s_left_size) (defScope s_left_size) .none kV1 dc1 pm1 an1 cd1 ct1), sl1⟩)
    (c1 : PySem.W.codeIn K cd1 "left_size" = true)
    (k1 : PySem.W.keepIn K (.ref f1) = true)
    (l2 : K.lookup f2 = some ⟨oc2, od2, .func (PySem.W.fnOf "root" "root" (defArgs s_root) (defBody s_root) (defScope s_root) .none kV2 dc2 pm2 an2 cd2 ct2), sl2⟩)
    (c2 : PySem.W.codeIn K cd2 "root" = true)
    (k2 : PySem.W.keepIn K (.ref f2) = true)
    (l3 : K.lookup f3 = some ⟨oc3, od3, .func (PySem.W.fnOf "write" "write" (defArgs s_write) (defBody s_write) (defScope s_write) .none kV3 dc3 pm3 an3 cd3 ct3), sl3⟩)
    (c3 : PySem.W.codeIn K cd3 "write" = true)
    (k3 : PySem.W.keepIn K (.ref f3) = true)
    (l4 : K.lookup f4 = some ⟨oc4, od4, .func (PySem.W.fnOf "written_integer" "written_integer" (defArgs s_written_integer) (defBody s_written_integer) (defScope s_written_integer) .none kV4 dc4 pm4 an4 cd4 ct4), sl4⟩)
    (c4 : PySem.W.codeIn K cd4 "written_integer" = true)
    (k4 : PySem.W.keepIn K (.ref f4) = true)
    (l5 : K.lookup f5 = some ⟨oc5, od5, .func (PySem.W.fnOf "digits_of" "digits_of" (defArgs s_digits_of) (defBody s_digits_of) (defScope s_digits_of) .none kV5 dc5 pm5 an5 cd5 ct5), sl5⟩)
    (c5 : PySem.W.codeIn K cd5 "digits_of" = true)
    (k5 : PySem.W.keepIn K (.ref f5) = true)
    (l6 : K.lookup f6 = some ⟨oc6, od6, .func (PySem.W.fnOf "parted" "parted" (defArgs s_parted) (defBody s_parted) (defScope s_parted) .none kV6 dc6 pm6 an6 cd6 ct6), sl6⟩)
    (c6 : PySem.W.codeIn K cd6 "parted" = true)
    (k6 : PySem.W.keepIn K (.ref f6) = true)
    (l7 : K.lookup f7 = some ⟨oc7, od7, .func (PySem.W.fnOf "__init__" "Digests.__init__" (defArgs s_Digests_init) (defBody s_Digests_init) (defScope s_Digests_init) .none kV7 dc7 pm7 an7 cd7 ct7), sl7⟩)
    (c7 : PySem.W.codeIn K cd7 "Digests.__init__" = true)
    (k7 : PySem.W.keepIn K (.ref f7) = true)
    (l8 : K.lookup f8 = some ⟨oc8, od8, .func (PySem.W.fnOf "number" "Digests.number" (defArgs s_Digests_number) (defBody s_Digests_number) (defScope s_Digests_number) .none kV8 dc8 pm8 an8 cd8 ct8), sl8⟩)
    (c8 : PySem.W.codeIn K cd8 "Digests.number" = true)
    (k8 : PySem.W.keepIn K (.ref f8) = true)
    (l9 : K.lookup f9 = some ⟨oc9, od9, .func (PySem.W.fnOf "value" "Digests.value" (defArgs s_Digests_value) (defBody s_Digests_value) (defScope s_Digests_value) .none kV9 dc9 pm9 an9 cd9 ct9), sl9⟩)
    (c9 : PySem.W.codeIn K cd9 "Digests.value" = true)
    (k9 : PySem.W.keepIn K (.ref f9) = true)
    (l10 : K.lookup f10 = some ⟨oc10, od10, .func (PySem.W.fnOf "count" "Digests.count" (defArgs s_Digests_count) (defBody s_Digests_count) (defScope s_Digests_count) .none kV10 dc10 pm10 an10 cd10 ct10), sl10⟩)
    (c10 : PySem.W.codeIn K cd10 "Digests.count" = true)
    (k10 : PySem.W.keepIn K (.ref f10) = true)
    (l11 : K.lookup f11 = some ⟨oc11, od11, .func (PySem.W.fnOf "_law_pot" "_law_pot" (defArgs s_L_pot) (defBody s_L_pot) (defScope s_L_pot) .none kV11 dc11 pm11 an11 cd11 ct11), sl11⟩)
    (c11 : PySem.W.codeIn K cd11 "_law_pot" = true)
    (k11 : PySem.W.keepIn K (.ref f11) = true)
    (l12 : K.lookup f12 = some ⟨oc12, od12, .func (PySem.W.fnOf "_law_next" "_law_next" (defArgs s_L_next) (defBody s_L_next) (defScope s_L_next) .none kV12 dc12 pm12 an12 cd12 ct12), sl12⟩)
    (c12 : PySem.W.codeIn K cd12 "_law_next" = true)
    (k12 : PySem.W.keepIn K (.ref f12) = true)
    (l13 : K.lookup f13 = some ⟨oc13, od13, .func (PySem.W.fnOf "_law_root" "_law_root" (defArgs s_L_root) (defBody s_L_root) (defScope s_L_root) .none kV13 dc13 pm13 an13 cd13 ct13), sl13⟩)
    (c13 : PySem.W.codeIn K cd13 "_law_root" = true)
    (k13 : PySem.W.keepIn K (.ref f13) = true)
    (l14 : K.lookup f14 = some ⟨oc14, od14, .func (PySem.W.fnOf "law" "law" (defArgs s_law) (defBody s_law) (defScope s_law) .none kV14 dc14 pm14 an14 cd14 ct14), sl14⟩)
    (c14 : PySem.W.codeIn K cd14 "law" = true)
    (k14 : PySem.W.keepIn K (.ref f14) = true)
    (xe0 : PySem.W.excIn K C0 [.type "ValueError", .type "Exception", .type "BaseException", .type "object"] "ValueError.__new__" = true)
    (ke0 : PySem.W.keepIn K (.ref C0) = true)
    (be0 : PySem.W.subIn K (.ref C0) (.type "BaseException") = some true)
    (te0 : PySem.W.typeIn K (.ref C0) = some (.type "type"))
    (ie0 : PySem.W.isClsIn K C0 = true)
    (se0 : PySem.W.subIn K (.ref C0) (.ref C0) = some true)
    (xe1 : PySem.W.excIn K C1 [.type "ValueError", .type "Exception", .type "BaseException", .type "object"] "ValueError.__new__" = true)
    (ke1 : PySem.W.keepIn K (.ref C1) = true)
    (be1 : PySem.W.subIn K (.ref C1) (.type "BaseException") = some true)
    (te1 : PySem.W.typeIn K (.ref C1) = some (.type "type"))
    (ie1 : PySem.W.isClsIn K C1 = true)
    (se1 : PySem.W.subIn K (.ref C1) (.ref C1) = some true)
    (ue1 : PySem.W.subIn K (.ref C1) (.ref C0) = some true)
    (pg2 : PySem.W.plainGet K C2 Str.empty = true)
    (hd2 : PySem.W.hasDictIn K C2 = true)
    (po2 : PySem.W.plainOver K C2 = true)
    (sa2 : PySem.W.findIn K (.ref C2) "__setattr__" = some (some (.builtin "object.__setattr__")))
    (mk2 : PySem.W.makesIn K C2 = true)
    (kc2 : PySem.W.keepIn K (.ref C2) = true)
    (i7 : PySem.W.isFn K (.ref f7) = true)
    (i8 : PySem.W.isFn K (.ref f8) = true)
    (i9 : PySem.W.isFn K (.ref f9) = true)
    (i10 : PySem.W.isFn K (.ref f10) = true)
    (n2_0 : PySem.W.findIn K (.ref C2) "_values" = some none)
    (n2_1 : PySem.W.findIn K (.ref C2) "_numbers" = some none)
    (q0 : PySem.W.nsIn K mainGlobals "PIECE" = some (some (.int 10000000000000000000000000000000000000000000000000000000000000000 tk0)))
    (z0 : PySem.W.nsIn K mainGlobals "abs" = some none)
    (z1 : PySem.W.nsIn K mainGlobals "int" = some none)
    (z2 : PySem.W.nsIn K mainGlobals "isinstance" = some none)
    (z3 : PySem.W.nsIn K mainGlobals "len" = some none)
    (z4 : PySem.W.nsIn K mainGlobals "list" = some none)
    (z5 : PySem.W.nsIn K mainGlobals "range" = some none)
    (z6 : PySem.W.nsIn K mainGlobals "reversed" = some none)
    (z7 : PySem.W.nsIn K mainGlobals "str" = some none)
    (z8 : PySem.W.nsIn K mainGlobals "tuple" = some none) : Txt K mg where
  f__wall := f0
  d__wall := PySem.W.fnOf "_wall" "_wall" (defArgs s__wall) (defBody s__wall) (defScope s__wall) .none kV0 dc0 pm0 an0 cd0 ct0
  F__wall := fun_mk (st := s__wall) l0 c0 k0
  b__wall := Fun.binds (fun_mk (st := s__wall) l0 c0 k0) (ps := ["k"]) fun _ _ _ _ _ _ us hl => match us, hl with | [_], _ => rfl
  g__wall := PySem.W.mg_of X G a0
  f_left_size := f1
  d_left_size := PySem.W.fnOf "left_size" "left_size" (defArgs s_left_size) (defBody s_left_size) (defScope s_left_size) .none kV1 dc1 pm1 an1 cd1 ct1
  F_left_size := fun_mk (st := s_left_size) l1 c1 k1
  b_left_size := Fun.binds (fun_mk (st := s_left_size) l1 c1 k1) (ps := ["size"]) fun _ _ _ _ _ _ us hl => match us, hl with | [_], _ => rfl
  g_left_size := PySem.W.mg_of X G a1
  f_root := f2
  d_root := PySem.W.fnOf "root" "root" (defArgs s_root) (defBody s_root) (defScope s_root) .none kV2 dc2 pm2 an2 cd2 ct2
  F_root := fun_mk (st := s_root) l2 c2 k2
  b_root := Fun.binds (fun_mk (st := s_root) l2 c2 k2) (ps := ["digests", "leaves"]) fun _ _ _ _ _ _ us hl => match us, hl with | [_, _], _ => rfl
  g_root := PySem.W.mg_of X G a2
  f_write := f3
  d_write := PySem.W.fnOf "write" "write" (defArgs s_write) (defBody s_write) (defScope s_write) .none kV3 dc3 pm3 an3 cd3 ct3
  F_write := fun_mk (st := s_write) l3 c3 k3
  b_write := Fun.binds (fun_mk (st := s_write) l3 c3 k3) (ps := ["value"]) fun _ _ _ _ _ _ us hl => match us, hl with | [_], _ => rfl
  g_write := PySem.W.mg_of X G a3
  f_written_integer := f4
  d_written_integer := PySem.W.fnOf "written_integer" "written_integer" (defArgs s_written_integer) (defBody s_written_integer) (defScope s_written_integer) .none kV4 dc4 pm4 an4 cd4 ct4
  F_written_integer := fun_mk (st := s_written_integer) l4 c4 k4
  b_written_integer := Fun.binds (fun_mk (st := s_written_integer) l4 c4 k4) (ps := ["number"]) fun _ _ _ _ _ _ us hl => match us, hl with | [_], _ => rfl
  g_written_integer := PySem.W.mg_of X G a4
  f_digits_of := f5
  d_digits_of := PySem.W.fnOf "digits_of" "digits_of" (defArgs s_digits_of) (defBody s_digits_of) (defScope s_digits_of) .none kV5 dc5 pm5 an5 cd5 ct5
  F_digits_of := fun_mk (st := s_digits_of) l5 c5 k5
  b_digits_of := Fun.binds (fun_mk (st := s_digits_of) l5 c5 k5) (ps := ["number"]) fun _ _ _ _ _ _ us hl => match us, hl with | [_], _ => rfl
  g_digits_of := PySem.W.mg_of X G a5
  f_parted := f6
  d_parted := PySem.W.fnOf "parted" "parted" (defArgs s_parted) (defBody s_parted) (defScope s_parted) .none kV6 dc6 pm6 an6 cd6 ct6
  F_parted := fun_mk (st := s_parted) l6 c6 k6
  b_parted := Fun.binds (fun_mk (st := s_parted) l6 c6 k6) (ps := ["parts"]) fun _ _ _ _ _ _ us hl => match us, hl with | [_], _ => rfl
  g_parted := PySem.W.mg_of X G a6
  f_Digests_init := f7
  d_Digests_init := PySem.W.fnOf "__init__" "Digests.__init__" (defArgs s_Digests_init) (defBody s_Digests_init) (defScope s_Digests_init) .none kV7 dc7 pm7 an7 cd7 ct7
  F_Digests_init := fun_mk (st := s_Digests_init) l7 c7 k7
  b_Digests_init := Fun.binds (fun_mk (st := s_Digests_init) l7 c7 k7) (ps := ["self"]) fun _ _ _ _ _ _ us hl => match us, hl with | [_], _ => rfl
  f_Digests_number := f8
  d_Digests_number := PySem.W.fnOf "number" "Digests.number" (defArgs s_Digests_number) (defBody s_Digests_number) (defScope s_Digests_number) .none kV8 dc8 pm8 an8 cd8 ct8
  F_Digests_number := fun_mk (st := s_Digests_number) l8 c8 k8
  b_Digests_number := Fun.binds (fun_mk (st := s_Digests_number) l8 c8 k8) (ps := ["self", "value"]) fun _ _ _ _ _ _ us hl => match us, hl with | [_, _], _ => rfl
  f_Digests_value := f9
  d_Digests_value := PySem.W.fnOf "value" "Digests.value" (defArgs s_Digests_value) (defBody s_Digests_value) (defScope s_Digests_value) .none kV9 dc9 pm9 an9 cd9 ct9
  F_Digests_value := fun_mk (st := s_Digests_value) l9 c9 k9
  b_Digests_value := Fun.binds (fun_mk (st := s_Digests_value) l9 c9 k9) (ps := ["self", "number"]) fun _ _ _ _ _ _ us hl => match us, hl with | [_, _], _ => rfl
  f_Digests_count := f10
  d_Digests_count := PySem.W.fnOf "count" "Digests.count" (defArgs s_Digests_count) (defBody s_Digests_count) (defScope s_Digests_count) .none kV10 dc10 pm10 an10 cd10 ct10
  F_Digests_count := fun_mk (st := s_Digests_count) l10 c10 k10
  b_Digests_count := Fun.binds (fun_mk (st := s_Digests_count) l10 c10 k10) (ps := ["self"]) fun _ _ _ _ _ _ us hl => match us, hl with | [_], _ => rfl
  f_L_pot := f11
  d_L_pot := PySem.W.fnOf "_law_pot" "_law_pot" (defArgs s_L_pot) (defBody s_L_pot) (defScope s_L_pot) .none kV11 dc11 pm11 an11 cd11 ct11
  F_L_pot := fun_mk (st := s_L_pot) l11 c11 k11
  b_L_pot := Fun.binds (fun_mk (st := s_L_pot) l11 c11 k11) (ps := ["script"]) fun _ _ _ _ _ _ us hl => match us, hl with | [_], _ => rfl
  g_L_pot := PySem.W.mg_of X G a11
  f_L_next := f12
  d_L_next := PySem.W.fnOf "_law_next" "_law_next" (defArgs s_L_next) (defBody s_L_next) (defScope s_L_next) .none kV12 dc12 pm12 an12 cd12 ct12
  F_L_next := fun_mk (st := s_L_next) l12 c12 k12
  b_L_next := Fun.binds (fun_mk (st := s_L_next) l12 c12 k12) (ps := ["pot", "limit"]) fun _ _ _ _ _ _ us hl => match us, hl with | [_, _], _ => rfl
  g_L_next := PySem.W.mg_of X G a12
  f_L_root := f13
  d_L_root := PySem.W.fnOf "_law_root" "_law_root" (defArgs s_L_root) (defBody s_L_root) (defScope s_L_root) .none kV13 dc13 pm13 an13 cd13 ct13
  F_L_root := fun_mk (st := s_L_root) l13 c13 k13
  b_L_root := Fun.binds (fun_mk (st := s_L_root) l13 c13 k13) (ps := ["digests", "leaves"]) fun _ _ _ _ _ _ us hl => match us, hl with | [_, _], _ => rfl
  g_L_root := PySem.W.mg_of X G a13
  f_law := f14
  d_law := PySem.W.fnOf "law" "law" (defArgs s_law) (defBody s_law) (defScope s_law) .none kV14 dc14 pm14 an14 cd14 ct14
  F_law := fun_mk (st := s_law) l14 c14 k14
  b_law := Fun.binds (fun_mk (st := s_law) l14 c14 k14) (ps := ["script"]) fun _ _ _ _ _ _ us hl => match us, hl with | [_], _ => rfl
  g_law := PySem.W.mg_of X G a14
  C_BridgeError := C0
  g_BridgeError := PySem.W.mg_of X G aC0
  xe_BridgeError := xe0
  ke_BridgeError := ke0
  be_BridgeError := be0
  te_BridgeError := te0
  ie_BridgeError := ie0
  se_BridgeError := se0
  C_UnknownDigest := C1
  g_UnknownDigest := PySem.W.mg_of X G aC1
  xe_UnknownDigest := xe1
  ke_UnknownDigest := ke1
  be_UnknownDigest := be1
  te_UnknownDigest := te1
  ie_UnknownDigest := ie1
  se_UnknownDigest := se1
  ue_UnknownDigest := ue1
  C_Digests := C2
  cl_Digests := ⟨pg2, hd2, po2, sa2⟩
  g_Digests := PySem.W.mg_of X G aC2
  mk_Digests := ⟨mk2, m7, i7, kc2⟩
  m_Digests_number := ⟨m8, i8, k8⟩
  m_Digests_value := ⟨m9, i9, k9⟩
  m_Digests_count := ⟨m10, i10, k10⟩
  n_Digests_values := n2_0
  n_Digests_numbers := n2_1
  t_PIECE := tk0
  c_PIECE := PySem.W.mg_of X G q0
  z_abs := PySem.W.mg_none_of X G z0
  z_int := PySem.W.mg_none_of X G z1
  z_isinstance := PySem.W.mg_none_of X G z2
  z_len := PySem.W.mg_none_of X G z3
  z_list := PySem.W.mg_none_of X G z4
  z_range := PySem.W.mg_none_of X G z5
  z_reversed := PySem.W.mg_none_of X G z6
  z_str := PySem.W.mg_none_of X G z7
  z_tuple := PySem.W.mg_none_of X G z8
theorem all_mk {l : PySem.W.OpenLaw} {w : World} {K : PySem.W.Frag} {h : Heap} {mg : Str → Option Value} {fa : Addr} (X : K.In h) (G : h.Ns mainGlobals mg) (hfa : mg "law" = some (.ref fa))
    {f0 f1 f2 f3 f4 f5 f6 f7 f8 f9 f10 f11 f12 f13 f14 C0 C1 C2 : Addr} {od0 an0 od1 an1 od2 an2 od3 an3 od4 an4 od5 an5 od6 an6 od7 an7 od8 an8 od9 an9 od10 an10 od11 an11 od12 an12 od13 an13 od14 an14 : Option Addr} {sl0 sl1 sl2 sl3 sl4 sl5 sl6 sl7 sl8 sl9 sl10 sl11 sl12 sl13 sl14 : Array (Option Value)} {oc0 kV0 dc0 pm0 cd0 ct0 oc1 kV1 dc1 pm1 cd1 ct1 oc2 kV2 dc2 pm2 cd2 ct2 oc3 kV3 dc3 pm3 cd3 ct3 oc4 kV4 dc4 pm4 cd4 ct4 oc5 kV5 dc5 pm5 cd5 ct5 oc6 kV6 dc6 pm6 cd6 ct6 oc7 kV7 dc7 pm7 cd7 ct7 oc8 kV8 dc8 pm8 cd8 ct8 oc9 kV9 dc9 pm9 cd9 ct9 oc10 kV10 dc10 pm10 cd10 ct10 oc11 kV11 dc11 pm11 cd11 ct11 oc12 kV12 dc12 pm12 cd12 ct12 oc13 kV13 dc13 pm13 cd13 ct13 oc14 kV14 dc14 pm14 cd14 ct14 : Value} {tk0 : Tok}
    (a0 : PySem.W.nsIn K mainGlobals "_wall" = some (some (.ref f0)))
    (a1 : PySem.W.nsIn K mainGlobals "left_size" = some (some (.ref f1)))
    (a2 : PySem.W.nsIn K mainGlobals "root" = some (some (.ref f2)))
    (a3 : PySem.W.nsIn K mainGlobals "write" = some (some (.ref f3)))
    (a4 : PySem.W.nsIn K mainGlobals "written_integer" = some (some (.ref f4)))
    (a5 : PySem.W.nsIn K mainGlobals "digits_of" = some (some (.ref f5)))
    (a6 : PySem.W.nsIn K mainGlobals "parted" = some (some (.ref f6)))
    (a11 : PySem.W.nsIn K mainGlobals "_law_pot" = some (some (.ref f11)))
    (a12 : PySem.W.nsIn K mainGlobals "_law_next" = some (some (.ref f12)))
    (a13 : PySem.W.nsIn K mainGlobals "_law_root" = some (some (.ref f13)))
    (a14 : PySem.W.nsIn K mainGlobals "law" = some (some (.ref f14)))
    (aC0 : PySem.W.nsIn K mainGlobals "BridgeError" = some (some (.ref C0)))
    (aC1 : PySem.W.nsIn K mainGlobals "UnknownDigest" = some (some (.ref C1)))
    (aC2 : PySem.W.nsIn K mainGlobals "Digests" = some (some (.ref C2)))
    (m7 : PySem.W.findIn K (.ref C2) "__init__" = some (some (.ref f7)))
    (m8 : PySem.W.findIn K (.ref C2) "number" = some (some (.ref f8)))
    (m9 : PySem.W.findIn K (.ref C2) "value" = some (some (.ref f9)))
    (m10 : PySem.W.findIn K (.ref C2) "count" = some (some (.ref f10)))
    (l0 : K.lookup f0 = some ⟨oc0, od0, .func (PySem.W.fnOf "_wall" "_wall" (defArgs s__wall) (defBody s__wall) (defScope s__wall) .none kV0 dc0 pm0 an0 cd0 ct0), sl0⟩)
    (c0 : PySem.W.codeIn K cd0 "_wall" = true)
    (k0 : PySem.W.keepIn K (.ref f0) = true)
    (l1 : K.lookup f1 = some ⟨oc1, od1, .func (PySem.W.fnOf "left_size" "left_size" (defArgs s_left_size) (defBody s_left_size) (defScope s_left_size) .none kV1 dc1 pm1 an1 cd1 ct1), sl1⟩)
    (c1 : PySem.W.codeIn K cd1 "left_size" = true)
    (k1 : PySem.W.keepIn K (.ref f1) = true)
    (l2 : K.lookup f2 = some ⟨oc2, od2, .func (PySem.W.fnOf "root" "root" (defArgs s_root) (defBody s_root) (defScope s_root) .none kV2 dc2 pm2 an2 cd2 ct2), sl2⟩)
    (c2 : PySem.W.codeIn K cd2 "root" = true)
    (k2 : PySem.W.keepIn K (.ref f2) = true)
    (l3 : K.lookup f3 = some ⟨oc3, od3, .func (PySem.W.fnOf "write" "write" (defArgs s_write) (defBody s_write) (defScope s_write) .none kV3 dc3 pm3 an3 cd3 ct3), sl3⟩)
    (c3 : PySem.W.codeIn K cd3 "write" = true)
    (k3 : PySem.W.keepIn K (.ref f3) = true)
    (l4 : K.lookup f4 = some ⟨oc4, od4, .func (PySem.W.fnOf "written_integer" "written_integer" (defArgs s_written_integer) (defBody s_written_integer) (defScope s_written_integer) .none kV4 dc4 pm4 an4 cd4 ct4), sl4⟩)
    (c4 : PySem.W.codeIn K cd4 "written_integer" = true)
    (k4 : PySem.W.keepIn K (.ref f4) = true)
    (l5 : K.lookup f5 = some ⟨oc5, od5, .func (PySem.W.fnOf "digits_of" "digits_of" (defArgs s_digits_of) (defBody s_digits_of) (defScope s_digits_of) .none kV5 dc5 pm5 an5 cd5 ct5), sl5⟩)
    (c5 : PySem.W.codeIn K cd5 "digits_of" = true)
    (k5 : PySem.W.keepIn K (.ref f5) = true)
    (l6 : K.lookup f6 = some ⟨oc6, od6, .func (PySem.W.fnOf "parted" "parted" (defArgs s_parted) (defBody s_parted) (defScope s_parted) .none kV6 dc6 pm6 an6 cd6 ct6), sl6⟩)
    (c6 : PySem.W.codeIn K cd6 "parted" = true)
    (k6 : PySem.W.keepIn K (.ref f6) = true)
    (l7 : K.lookup f7 = some ⟨oc7, od7, .func (PySem.W.fnOf "__init__" "Digests.__init__" (defArgs s_Digests_init) (defBody s_Digests_init) (defScope s_Digests_init) .none kV7 dc7 pm7 an7 cd7 ct7), sl7⟩)
    (c7 : PySem.W.codeIn K cd7 "Digests.__init__" = true)
    (k7 : PySem.W.keepIn K (.ref f7) = true)
    (l8 : K.lookup f8 = some ⟨oc8, od8, .func (PySem.W.fnOf "number" "Digests.number" (defArgs s_Digests_number) (defBody s_Digests_number) (defScope s_Digests_number) .none kV8 dc8 pm8 an8 cd8 ct8), sl8⟩)
    (c8 : PySem.W.codeIn K cd8 "Digests.number" = true)
    (k8 : PySem.W.keepIn K (.ref f8) = true)
    (l9 : K.lookup f9 = some ⟨oc9, od9, .func (PySem.W.fnOf "value" "Digests.value" (defArgs s_Digests_value) (defBody s_Digests_value) (defScope s_Digests_value) .none kV9 dc9 pm9 an9 cd9 ct9), sl9⟩)
    (c9 : PySem.W.codeIn K cd9 "Digests.value" = true)
    (k9 : PySem.W.keepIn K (.ref f9) = true)
    (l10 : K.lookup f10 = some ⟨oc10, od10, .func (PySem.W.fnOf "count" "Digests.count" (defArgs s_Digests_count) (defBody s_Digests_count) (defScope s_Digests_count) .none kV10 dc10 pm10 an10 cd10 ct10), sl10⟩)
    (c10 : PySem.W.codeIn K cd10 "Digests.count" = true)
    (k10 : PySem.W.keepIn K (.ref f10) = true)
    (l11 : K.lookup f11 = some ⟨oc11, od11, .func (PySem.W.fnOf "_law_pot" "_law_pot" (defArgs s_L_pot) (defBody s_L_pot) (defScope s_L_pot) .none kV11 dc11 pm11 an11 cd11 ct11), sl11⟩)
    (c11 : PySem.W.codeIn K cd11 "_law_pot" = true)
    (k11 : PySem.W.keepIn K (.ref f11) = true)
    (l12 : K.lookup f12 = some ⟨oc12, od12, .func (PySem.W.fnOf "_law_next" "_law_next" (defArgs s_L_next) (defBody s_L_next) (defScope s_L_next) .none kV12 dc12 pm12 an12 cd12 ct12), sl12⟩)
    (c12 : PySem.W.codeIn K cd12 "_law_next" = true)
    (k12 : PySem.W.keepIn K (.ref f12) = true)
    (l13 : K.lookup f13 = some ⟨oc13, od13, .func (PySem.W.fnOf "_law_root" "_law_root" (defArgs s_L_root) (defBody s_L_root) (defScope s_L_root) .none kV13 dc13 pm13 an13 cd13 ct13), sl13⟩)
    (c13 : PySem.W.codeIn K cd13 "_law_root" = true)
    (k13 : PySem.W.keepIn K (.ref f13) = true)
    (l14 : K.lookup f14 = some ⟨oc14, od14, .func (PySem.W.fnOf "law" "law" (defArgs s_law) (defBody s_law) (defScope s_law) .none kV14 dc14 pm14 an14 cd14 ct14), sl14⟩)
    (c14 : PySem.W.codeIn K cd14 "law" = true)
    (k14 : PySem.W.keepIn K (.ref f14) = true)
    (xe0 : PySem.W.excIn K C0 [.type "ValueError", .type "Exception", .type "BaseException", .type "object"] "ValueError.__new__" = true)
    (ke0 : PySem.W.keepIn K (.ref C0) = true)
    (be0 : PySem.W.subIn K (.ref C0) (.type "BaseException") = some true)
    (te0 : PySem.W.typeIn K (.ref C0) = some (.type "type"))
    (ie0 : PySem.W.isClsIn K C0 = true)
    (se0 : PySem.W.subIn K (.ref C0) (.ref C0) = some true)
    (xe1 : PySem.W.excIn K C1 [.type "ValueError", .type "Exception", .type "BaseException", .type "object"] "ValueError.__new__" = true)
    (ke1 : PySem.W.keepIn K (.ref C1) = true)
    (be1 : PySem.W.subIn K (.ref C1) (.type "BaseException") = some true)
    (te1 : PySem.W.typeIn K (.ref C1) = some (.type "type"))
    (ie1 : PySem.W.isClsIn K C1 = true)
    (se1 : PySem.W.subIn K (.ref C1) (.ref C1) = some true)
    (ue1 : PySem.W.subIn K (.ref C1) (.ref C0) = some true)
    (pg2 : PySem.W.plainGet K C2 Str.empty = true)
    (hd2 : PySem.W.hasDictIn K C2 = true)
    (po2 : PySem.W.plainOver K C2 = true)
    (sa2 : PySem.W.findIn K (.ref C2) "__setattr__" = some (some (.builtin "object.__setattr__")))
    (mk2 : PySem.W.makesIn K C2 = true)
    (kc2 : PySem.W.keepIn K (.ref C2) = true)
    (i7 : PySem.W.isFn K (.ref f7) = true)
    (i8 : PySem.W.isFn K (.ref f8) = true)
    (i9 : PySem.W.isFn K (.ref f9) = true)
    (i10 : PySem.W.isFn K (.ref f10) = true)
    (n2_0 : PySem.W.findIn K (.ref C2) "_values" = some none)
    (n2_1 : PySem.W.findIn K (.ref C2) "_numbers" = some none)
    (q0 : PySem.W.nsIn K mainGlobals "PIECE" = some (some (.int 10000000000000000000000000000000000000000000000000000000000000000 tk0)))
    (z0 : PySem.W.nsIn K mainGlobals "abs" = some none)
    (z1 : PySem.W.nsIn K mainGlobals "int" = some none)
    (z2 : PySem.W.nsIn K mainGlobals "isinstance" = some none)
    (z3 : PySem.W.nsIn K mainGlobals "len" = some none)
    (z4 : PySem.W.nsIn K mainGlobals "list" = some none)
    (z5 : PySem.W.nsIn K mainGlobals "range" = some none)
    (z6 : PySem.W.nsIn K mainGlobals "reversed" = some none)
    (z7 : PySem.W.nsIn K mainGlobals "str" = some none)
    (z8 : PySem.W.nsIn K mainGlobals "tuple" = some none) :
    ∃ fd : FuncData, (∀ (s : Shared) (v : Value), BindsTo s fd ⟨[v], []⟩ [("script", v)]) ∧ ∀ base : Heap, K.In base → base.Ns mainGlobals mg → FnOk l.prog w K mg base CX0 12 fa fd ["script"] (spLaw K) := by
  have e := hfa.symm.trans (PySem.W.mg_of X G a14)
  cases e
  exact ⟨PySem.W.fnOf "law" "law" (defArgs s_law) (defBody s_law) (defScope s_law) .none kV14 dc14 pm14 an14 cd14 ct14, fun s v => .of_eq rfl, fun base _ _ => ok_law (txt_mk X G a0 a1 a2 a3 a4 a5 a6 a11 a12 a13 a14 aC0 aC1 aC2 m7 m8 m9 m10 l0 c0 k0 l1 c1 k1 l2 c2 k2 l3 c3 k3 l4 c4 k4 l5 c5 k5 l6 c6 k6 l7 c7 k7 l8 c8 k8 l9 c9 k9 l10 c10 k10 l11 c11 k11 l12 c12 k12 l13 c13 k13 l14 c14 k14 xe0 ke0 be0 te0 ie0 se0 xe1 ke1 be1 te1 ie1 se1 ue1 pg2 hd2 po2 sa2 mk2 kc2 i7 i8 i9 i10 n2_0 n2_1 q0 z0 z1 z2 z3 z4 z5 z6 z7 z8)⟩
end Pf
open PySem PySem.W PyProof.Rows
set_option maxRecDepth 100000 in
set_option maxHeartbeats 0 in
theorem PySem.Challenge.cw_vaultbridge_k33_roots_tell_lists_apart_holds : PySem.Challenge.rw_vaultbridge_k33_roots_tell_lists_apart.Holds := by
  w_on; o_law; k_head; (case hw => w_witness2)
  k_fill
  refine L2.walk_of (l := PySem.Challenge.rw_vaultbridge_k33_roots_tell_lists_apart) (n := 63) (k := 12) (x := "script") (CX := fun _ => L2.CX0) (sp := fun w => Pf.spLaw _) rfl (by decide) rfl ⟨rfl, by decide, by decide⟩ (fun w h Y => PySem.W.kIn_of Y) ?F (fun _ _ a ns hl _ hS => ⟨a, ns, rfl, hS, hl, fun _ => rfl⟩) (fun _ _ _ _ _ h => h)
  case F =>
    intro w mg fa h KX G hmg
    refine' Pf.all_mk KX G hmg ?a0 ?a1 ?a2 ?a3 ?a4 ?a5 ?a6 ?a11 ?a12 ?a13 ?a14 ?aC0 ?aC1 ?aC2 ?m7 ?m8 ?m9 ?m10 ?l0 ?c0 ?k0 ?l1 ?c1 ?k1 ?l2 ?c2 ?k2 ?l3 ?c3 ?k3 ?l4 ?c4 ?k4 ?l5 ?c5 ?k5 ?l6 ?c6 ?k6 ?l7 ?c7 ?k7 ?l8 ?c8 ?k8 ?l9 ?c9 ?k9 ?l10 ?c10 ?k10 ?l11 ?c11 ?k11 ?l12 ?c12 ?k12 ?l13 ?c13 ?k13 ?l14 ?c14 ?k14 ?xe0 ?ke0 ?be0 ?te0 ?ie0 ?se0 ?xe1 ?ke1 ?be1 ?te1 ?ie1 ?se1 ?ue1 ?pg2 ?hd2 ?po2 ?sa2 ?mk2 ?kc2 ?i7 ?i8 ?i9 ?i10 ?n2_0 ?n2_1 ?q0 ?z0 ?z1 ?z2 ?z3 ?z4 ?z5 ?z6 ?z7 ?z8
    (case a0 => k_is)
    (case a1 => k_is)
    (case a2 => k_is)
    (case a3 => k_is)
    (case a4 => k_is)
    (case a5 => k_is)
    (case a6 => k_is)
    (case a11 => k_is)
    (case a12 => k_is)
    (case a13 => k_is)
    (case a14 => k_is)
    (case aC0 => k_is)
    (case aC1 => k_is)
    (case aC2 => k_is)
    (case m7 => k_is)
    (case m8 => k_is)
    (case m9 => k_is)
    (case m10 => k_is)
    (case l0 => k_is)
    (case c0 => k_is)
    (case k0 => k_is)
    (case l1 => k_is)
    (case c1 => k_is)
    (case k1 => k_is)
    (case l2 => k_is)
    (case c2 => k_is)
    (case k2 => k_is)
    (case l3 => k_is)
    (case c3 => k_is)
    (case k3 => k_is)
    (case l4 => k_is)
    (case c4 => k_is)
    (case k4 => k_is)
    (case l5 => k_is)
    (case c5 => k_is)
    (case k5 => k_is)
    (case l6 => k_is)
    (case c6 => k_is)
    (case k6 => k_is)
    (case l7 => k_is)
    (case c7 => k_is)
    (case k7 => k_is)
    (case l8 => k_is)
    (case c8 => k_is)
    (case k8 => k_is)
    (case l9 => k_is)
    (case c9 => k_is)
    (case k9 => k_is)
    (case l10 => k_is)
    (case c10 => k_is)
    (case k10 => k_is)
    (case l11 => k_is)
    (case c11 => k_is)
    (case k11 => k_is)
    (case l12 => k_is)
    (case c12 => k_is)
    (case k12 => k_is)
    (case l13 => k_is)
    (case c13 => k_is)
    (case k13 => k_is)
    (case l14 => k_is)
    (case c14 => k_is)
    (case k14 => k_is)
    (case xe0 => k_exc)
    (case ke0 => k_is)
    (case be0 => k_is)
    (case te0 => k_is)
    (case ie0 => k_is)
    (case se0 => k_is)
    (case xe1 => k_exc)
    (case ke1 => k_is)
    (case be1 => k_is)
    (case te1 => k_is)
    (case ie1 => k_is)
    (case se1 => k_is)
    (case ue1 => k_is)
    (case pg2 => k_is)
    (case hd2 => k_is)
    (case po2 => k_is)
    (case sa2 => k_is)
    (case mk2 => k_is)
    (case kc2 => k_is)
    (case i7 => k_is)
    (case i8 => k_is)
    (case i9 => k_is)
    (case i10 => k_is)
    (case n2_0 => k_is)
    (case n2_1 => k_is)
    (case q0 => k_is)
    (case z0 => k_is)
    (case z1 => k_is)
    (case z2 => k_is)
    (case z3 => k_is)
    (case z4 => k_is)
    (case z5 => k_is)
    (case z6 => k_is)
    (case z7 => k_is)
    (case z8 => k_is)
