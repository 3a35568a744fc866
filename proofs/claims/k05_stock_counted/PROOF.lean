import PyProof.Rows.All
import Wide.All
import OpenK.AllK
import Wide.FinOn
import HandS.ForMost
import HandS.IsInst
import HandS.Walk
import HandS.DictComp
import HandS.Codes
import HandS.Exc
import HandS.ExcOwn
import HandS.WordsExc
import HandS.WordsDict
import HandS.TryOnly
import HandS.HotCalls
import HandS.ExcIs
import HandS.More
import HandS.SortInts
import HandS.AnyAll
import HandS.Conv
import HandS.SortOrd
import PySem.Challenge.RW_chunkshelf_k05_stock_counted
set_option Elab.async false
set_option linter.all false
set_option maxRecDepth 100000
/-! Our own short layer: readings that evaluate by simp. -/
namespace Y
open PySem PySem.Spec PyProof.Rows L2

/-! ### texts as lists of codes -/
def st (l : List Nat) : Str := ⟨l.toArray⟩
theorem codes_st (l : List Nat) : (st l).cps.toList = l := rfl
theorem st_codes (z : Str) : st z.cps.toList = z := rfl
theorem len_st (l : List Nat) : (st l).length = l.length := by simp [st, Str.length]
theorem len_cps (z : Str) : z.length = z.cps.toList.length := by simp [Str.length]
theorem st_inj {a b : List Nat} : (st a = st b) ↔ a = b := by
  constructor
  · intro h
    have := congrArg (fun z => z.cps.toList) h
    simpa [codes_st] using this
  · intro h; rw [h]
theorem st_app (a b : List Nat) : st a ++ st b = st (a ++ b) := by
  show Str.mk (a.toArray ++ b.toArray) = Str.mk (a ++ b).toArray
  simp
theorem app_st (x y : Str) : x ++ y = st (x.cps.toList ++ y.cps.toList) := by
  show Str.mk (x.cps ++ y.cps) = Str.mk (x.cps.toList ++ y.cps.toList).toArray
  simp
theorem one_st (c : Nat) : (⟨#[c]⟩ : Str) = st [c] := rfl
theorem mk_st (l : List Nat) : (⟨l.toArray⟩ : Str) = st l := rfl
theorem emp_st : Str.ofString "" = st [] := by decide +kernel
theorem line_eq : sizeLine = 16777216 := sizeLine_eq

theorem cxOf_K {CX : CXT} {P : Program} {w : World} {K : PySem.W.Frag} {mg : Str → Option Value} {base : Heap} {N : List Str} {qual : Str} {scope : Scope} {f : Addr} {cd : Value} {A : Around} {outer : List Env} {s : Shared} {H : Hp} {E : XK} :
    (cxOf CX P w K mg base N qual scope f cd A outer s H E).K = K := rfl
/-! ### the combinators, applied -/
section
variable {ta tb te : TE} {t u : TS} {D : Ends} {σ : L2.St} {H : Hp} {Q : VK} {v : V}
/-- a slot that holds a value -/
def look (o : Option (Option V)) (P : V → Prop) : Prop := match o with
  | some (some v) => P v
  | _ => False
theorem look_some (P : V → Prop) : look (some (some v)) P = P v := rfl
theorem tVar_ap {i : Nat} : tVar i σ H Q = look σ[i]? fun v => Q v H := by
  unfold tVar look
  apply propext
  constructor
  · rintro ⟨v, e, q⟩
    rw [e]
    exact q
  · intro h
    split at h
    · rename_i v e
      exact ⟨v, e, h⟩
    · exact h.elim
theorem tC_ap : tC v σ H Q = Q v H := rfl
theorem tSeq_ap : tSeq t u D σ H = t { D with nx := u D } σ H := rfl
theorem tNext_ap : tNext D σ H = D.nx σ H := rfl
theorem tAsg_ap {g : TG} : tAsg te g D σ H = te σ H fun x H1 => g x σ H1 D.nx := rfl
theorem gName_ap {i : Nat} {N : L2.St → Hp → Prop} : gName i v σ H N = N (σ.set i (some v)) H := rfl
theorem tRet_ap : tRet te D σ H = te σ H D.rt := rfl
theorem tRetN_ap : tRetN D σ H = D.rt .non H := rfl
theorem tDrop_ap : tDrop te D σ H = te σ H fun _ H1 => D.nx σ H1 := rfl
theorem tBreak_ap : tBreak D σ H = D.bk σ H := rfl
theorem tCont_ap : tCont D σ H = D.ct σ H := rfl
theorem tOp_ap {r : R2} : tOp r ta tb σ H Q = ta σ H fun x H1 => tb σ H1 fun y H2 => r x y H2 Q := rfl
theorem tUn_ap {r : V → Hp → VK → Prop} : tUn r ta σ H Q = ta σ H fun x H1 => r x H1 Q := rfl
theorem tNil_ap {R : List V → Hp → Prop} : tNil σ H R = R [] H := rfl
theorem tCons_ap {tr : TA} {R : List V → Hp → Prop} : tCons ta tr σ H R = ta σ H fun x H1 => tr σ H1 fun xs H2 => R (x :: xs) H2 := rfl
theorem tCB_ap {r : List V → Hp → VK → Prop} {tt : TA} : tCB r tt σ H Q = tt σ H fun vs H1 => r vs H1 Q := rfl
theorem tCall_ap {sp : Sp} {dvs : List V} {E : XK} {tt : TA} : tCall sp dvs E tt σ H Q = tt σ H fun vs H1 => sp (vs ++ dvs) H1 Q E := rfl
theorem tBM_ap {K : PySem.W.Frag} {T : String} {r : V → List V → Hp → VK → Prop} {tt : TA} : tBM K T r te tt σ H Q = te σ H fun x H1 => tyV K T x H1 ∧ tt σ H1 fun xs H2 => r x xs H2 Q := rfl
theorem tM1_ap {r : V → List V → Hp → VK → Prop} : tM1 r ta tb σ H Q = ta σ H fun x H1 => (∃ a, x = .str a) ∧ tb σ H1 fun y H2 => r x [y] H2 Q := rfl
theorem tLst_ap {tt : TA} : tLst tt σ H Q = tt σ H fun xs H1 => xs.length ≤ sizeLine ∧ ∀ p, H1 p = none → Q (.ref p) (upd H1 p (.lst xs)) := rfl
theorem tTup_ap {tt : TA} : tTup tt σ H Q = tt σ H fun xs H1 => xs.length ≤ sizeLine ∧ ∀ p, H1 p = none → Q (.ref p) (upd H1 p (.tup xs)) := rfl
theorem tSl_ap {r : V → Option Int → Option Int → Hp → VK → Prop} {tl th : TO} : tSl r te tl th σ H Q = te σ H fun x H1 => tl σ H1 fun l H2 => th σ H2 fun u H3 => r x l u H3 Q := rfl
theorem tNoPart_ap {R : Option Int → Hp → Prop} : tNoPart σ H R = R none H := rfl
/-- an int, else nothing holds -/
def asInt (v : V) (P : Int → Prop) : Prop := match v with
  | .int i => P i
  | _ => False
def asBl (v : V) (P : Bool → Prop) : Prop := match v with
  | .bl i => P i
  | _ => False
theorem asInt_int {i : Int} {P : Int → Prop} : asInt (.int i) P = P i := rfl
theorem asBl_bl {i : Bool} {P : Bool → Prop} : asBl (.bl i) P = P i := rfl
theorem asInt_ex {v : V} {P : Int → Prop} : asInt v P = ∃ i, v = .int i ∧ P i := by
  apply propext
  cases v <;> simp [asInt]
theorem asBl_ex {v : V} {P : Bool → Prop} : asBl v P = ∃ i, v = .bl i ∧ P i := by
  apply propext
  cases v <;> simp [asBl]
theorem tPart_ap {R : Option Int → Hp → Prop} : tPart te σ H R = te σ H fun x H1 => asInt x fun i => R (some i) H1 := by
  unfold tPart
  simp only [asInt_ex]
/-- a branch, folded -/
def br (b : Bool) (A B : Prop) : Prop := if b = true then A else B
theorem br_t {A B : Prop} : br true A B = A := by simp [br]
theorem br_f {A B : Prop} : br false A B = B := by simp [br]
theorem br_of {b : Bool} {A B : Prop} (h1 : b = true → A) (h2 : b = false → B) : br b A B := by
  cases b
  · exact (br_f (A := A)).symm ▸ h2 rfl
  · exact (br_t (B := B)).symm ▸ h1 rfl
/-- a branch of statements, folded -/
def brS (b : Bool) (t u : TS) (D : Ends) (σ : L2.St) (H : Hp) : Prop := if b = true then t D σ H else u D σ H
theorem brS_t : brS true t u D σ H = t D σ H := by simp [brS]
theorem brS_f : brS false t u D σ H = u D σ H := by simp [brS]
theorem brS_of {b : Bool} (h1 : b = true → t D σ H) (h2 : b = false → u D σ H) : brS b t u D σ H := by
  cases b
  · exact brS_f.symm ▸ h2 rfl
  · exact brS_t.symm ▸ h1 rfl
theorem brS_join {b : Bool} (R : L2.St → Hp → Prop) (hk : ∀ σ H, R σ H → D.nx σ H) (h : ∀ N : L2.St → Hp → Prop, (∀ σ H, R σ H → N σ H) → brS b t u { D with nx := N } σ H) : brS b t u D σ H := h D.nx hk
theorem brS_ite {b : Bool} : (if b = true then t D σ H else u D σ H) = brS b t u D σ H := rfl
theorem tIfS_ap {c : TT} : tIfS c t u D σ H = c σ H fun b H1 => brS b t u D σ H1 := rfl
/-- a branch of expressions -/
def brE (b : Bool) (ta tb : TE) (σ : L2.St) (H : Hp) (Q : VK) : Prop := if b = true then ta σ H Q else tb σ H Q
theorem brE_t : brE true ta tb σ H Q = ta σ H Q := by simp [brE]
theorem brE_f : brE false ta tb σ H Q = tb σ H Q := by simp [brE]
theorem brE_of {b : Bool} (h1 : b = true → ta σ H Q) (h2 : b = false → tb σ H Q) : brE b ta tb σ H Q := by
  cases b
  · exact brE_f.symm ▸ h2 rfl
  · exact brE_t.symm ▸ h1 rfl
theorem tIf_ap {c : TT} : tIf c ta tb σ H Q = c σ H fun b H1 => brE b ta tb σ H1 Q := rfl
theorem tAndV_ap : tAndV ta tb σ H Q = ta σ H fun x H1 => asBl x fun c => brE c tb (tC (.bl false)) σ H1 Q := by
  unfold tAndV
  simp only [asBl_ex, brE, tC]
theorem tOrV_ap : tOrV ta tb σ H Q = ta σ H fun x H1 => asBl x fun c => brE c (tC (.bl true)) tb σ H1 Q := by
  unfold tOrV
  simp only [asBl_ex, brE, tC]
theorem tNotV_ap : tNotV ta σ H Q = ta σ H fun x H1 => asBl x fun c => Q (.bl (!c)) H1 := by
  unfold tNotV
  simp only [asBl_ex]
/-- a branch of tests -/
def brT (b : Bool) (ta tb : TT) (σ : L2.St) (H : Hp) (R : Bool → Hp → Prop) : Prop := if b = true then ta σ H R else tb σ H R
variable {tA tB' : TT} {R : Bool → Hp → Prop}
theorem brT_t : brT true tA tB' σ H R = tA σ H R := by simp [brT]
theorem brT_f : brT false tA tB' σ H R = tB' σ H R := by simp [brT]
theorem brT_of {b : Bool} (h1 : b = true → tA σ H R) (h2 : b = false → tB' σ H R) : brT b tA tB' σ H R := by
  cases b
  · exact brT_f.symm ▸ h2 rfl
  · exact brT_t.symm ▸ h1 rfl
def tK (b : Bool) : TT := fun _ H R => R b H
theorem tK_ap {b : Bool} : tK b σ H R = R b H := rfl
theorem tAnd_ap : tAnd tA tB' σ H R = tA σ H fun c H1 => brT c tB' (tK false) σ H1 R := rfl
theorem tOr_ap : tOr tA tB' σ H R = tA σ H fun c H1 => brT c (tK true) tB' σ H1 R := rfl
theorem tNot_ap : tNot tA σ H R = tA σ H fun c H1 => R (!c) H1 := rfl
theorem tB_ap : tB te σ H R = te σ H fun x H1 => asBl x fun c => R c H1 := by
  unfold tB
  simp only [asBl_ex]
theorem tTest_ap : tTest te σ H R = te σ H fun x H1 => asBl x fun c => R c H1 := by
  unfold tTest
  simp only [asBl_ex]
/-- a loop, folded -/
def forW (J : It) (g : TG) (tb : TS) (D : Ends) (σ : L2.St) (H1 : Hp) : Prop := ∃ W : Nat → Nat → L2.St → Hp → Prop, (∃ m, W 0 m σ H1) ∧ ∀ i m σ H, W i m σ H →
  (J.stop i H ∧ D.nx σ H) ∨ (J.go i H ∧ ∃ N : L2.St → Hp → Prop, (∀ σ' H', N σ' H' → ∃ m', m' < m ∧ W (i + 1) m' σ' H') ∧ ∀ x H', J.yld i H x H' → g x σ H' fun σ2 H2 => tb { D with nx := N, ct := N, bk := D.nx } σ2 H2)
theorem tFor_ap {wi : TI} {g : TG} : tFor wi g t D σ H = wi σ H fun J H1 => forW J g t D σ H1 := rfl
theorem iRng1_ap {tt : TA} {R : It → Hp → Prop} : iRng1 tt σ H R = tt σ H fun vs H1 => ∃ j : Int, vs = [.int j] ∧ -(2 ^ 62) ≤ j ∧ j < 2 ^ 62 ∧ R (Itr 0 j.toNat) H1 := rfl
/-- the arguments of a range, looked at -/
def rng1 (vs : List V) (k : Int → Prop) : Prop := match vs with
  | [.int j] => (-(2 ^ 62) ≤ j ∧ j < 2 ^ 62) ∧ k j
  | _ => False
def rng2 (vs : List V) (k : Int → Int → Prop) : Prop := match vs with
  | [.int i, .int j] => (-(2 ^ 62) ≤ i ∧ i < 2 ^ 62 ∧ -(2 ^ 62) ≤ j ∧ j < 2 ^ 62) ∧ k i j
  | _ => False
theorem rng1_ap {j : Int} {k : Int → Prop} : rng1 [.int j] k = ((-(2 ^ 62) ≤ j ∧ j < 2 ^ 62) ∧ k j) := rfl
theorem rng2_ap {i j : Int} {k : Int → Int → Prop} : rng2 [.int i, .int j] k = ((-(2 ^ 62) ≤ i ∧ i < 2 ^ 62 ∧ -(2 ^ 62) ≤ j ∧ j < 2 ^ 62) ∧ k i j) := rfl
theorem rng1_ex {vs : List V} {k : Int → Prop} : rng1 vs k ↔ ∃ j : Int, vs = [.int j] ∧ -(2 ^ 62) ≤ j ∧ j < 2 ^ 62 ∧ k j := by
  constructor
  · intro h
    unfold rng1 at h
    split at h
    · exact ⟨_, rfl, h.1.1, h.1.2, h.2⟩
    · exact h.elim
  · rintro ⟨j, rfl, h1, h2, h3⟩
    exact ⟨⟨h1, h2⟩, h3⟩
theorem rng2_ex {vs : List V} {k : Int → Int → Prop} : rng2 vs k ↔ ∃ i j : Int, vs = [.int i, .int j] ∧ (-(2 ^ 62) ≤ i ∧ i < 2 ^ 62 ∧ -(2 ^ 62) ≤ j ∧ j < 2 ^ 62) ∧ k i j := by
  constructor
  · intro h
    unfold rng2 at h
    split at h
    · exact ⟨_, _, rfl, h.1, h.2⟩
    · exact h.elim
  · rintro ⟨i, j, rfl, h1, h3⟩
    exact ⟨h1, h3⟩
theorem tFor1_ap {tt : TA} {g : TG} : tFor (iRng1 tt) g t D σ H = tt σ H fun vs H1 => rng1 vs fun j => forW (Itr 0 j.toNat) g t D σ H1 := by
  show (tt σ H fun vs H1 => ∃ j : Int, vs = [.int j] ∧ -(2 ^ 62) ≤ j ∧ j < 2 ^ 62 ∧ forW (Itr 0 j.toNat) g t D σ H1) = _
  congr 1
  funext vs H1
  exact propext rng1_ex.symm
theorem tFor2_ap {tt : TA} {g : TG} : tFor (iRng2 tt) g t D σ H = tt σ H fun vs H1 => rng2 vs fun i j => forW (Itr i (j - i).toNat) g t D σ H1 := by
  show (tt σ H fun vs H1 => ∃ i j : Int, vs = [.int i, .int j] ∧ (-(2 ^ 62) ≤ i ∧ i < 2 ^ 62 ∧ -(2 ^ 62) ≤ j ∧ j < 2 ^ 62) ∧ forW (Itr i (j - i).toNat) g t D σ H1) = _
  congr 1
  funext vs H1
  exact propext rng2_ex.symm
/-- a comprehension, folded -/
def lcW (J : It) (g : TG) (tt : TT) (te : TE) (vs : List Nat) (σ : L2.St) (D : Addr) (H1 : Hp) (Qd : Hp → Prop) : Prop := ∃ W : Nat → Nat → Hp → Prop, (∃ m, W 0 m (upd H1 D (.lst []))) ∧ ∀ i m H, W i m H →
  (J.stop i H ∧ Qd H) ∨ (J.go i H ∧ ∃ Nx : Hp → Prop, (∀ H', Nx H' → ∃ m', m' < m ∧ W (i + 1) m' H') ∧ ∀ x H', J.yld i H x H' → g x (wipe σ vs) H' fun σ2 H2 => wipe σ2 vs = wipe σ vs ∧ tt σ2 H2 fun b H3 =>
    if b = true then te σ2 H3 fun y H4 => ∃ acc, H4 D = some (.lst acc) ∧ acc.length < sizeLine ∧ Nx (upd H4 D (.lst (acc ++ [y]))) else Nx H3)
def dcW (J : It) (g : TG) (tt : TT) (tk tv : TE) (vs : List Nat) (σ : L2.St) (D : Addr) (H1 : Hp) (Qd : Hp → Prop) : Prop := ∃ W : Nat → Nat → Hp → Prop, (∃ m, W 0 m (upd H1 D (.dK []))) ∧ ∀ i m H, W i m H →
  (J.stop i H ∧ Qd H) ∨ (J.go i H ∧ ∃ Nx : Hp → Prop, (∀ H', Nx H' → ∃ m', m' < m ∧ W (i + 1) m' H') ∧ ∀ x H', J.yld i H x H' → g x (wipe σ vs) H' fun σ2 H2 => wipe σ2 vs = wipe σ vs ∧ tt σ2 H2 fun b H3 =>
    if b = true then tk σ2 H3 fun y H4 => tv σ2 H4 fun z H5 => ∃ kvs k, y = kV k ∧ H5 D = some (.dK kvs) ∧ kvs.length < sizeLine ∧ Nx (upd H5 D (.dK (putK kvs k z))) else Nx H3)
theorem tYes_ap : tYes σ H R = R true H := rfl
theorem tLc1_ap {ts : TA} {g : TG} {tt : TT} {vs : List Nat} : tLc (iRng1 ts) g tt te vs σ H Q = ts σ H fun xs H1 => rng1 xs fun j => ∀ D, H1 D = none → lcW (Itr 0 j.toNat) g tt te vs σ D H1 fun H' => Q (.ref D) H' := by
  show (ts σ H fun xs H1 => ∃ j : Int, xs = [.int j] ∧ -(2 ^ 62) ≤ j ∧ j < 2 ^ 62 ∧ ∀ D, H1 D = none → lcW (Itr 0 j.toNat) g tt te vs σ D H1 fun H' => Q (.ref D) H') = _
  congr 1
  funext xs H1
  exact propext rng1_ex.symm
theorem tLc2_ap {ts : TA} {g : TG} {tt : TT} {vs : List Nat} : tLc (iRng2 ts) g tt te vs σ H Q = ts σ H fun xs H1 => rng2 xs fun i j => ∀ D, H1 D = none → lcW (Itr i (j - i).toNat) g tt te vs σ D H1 fun H' => Q (.ref D) H' := by
  show (ts σ H fun xs H1 => ∃ i j : Int, xs = [.int i, .int j] ∧ (-(2 ^ 62) ≤ i ∧ i < 2 ^ 62 ∧ -(2 ^ 62) ≤ j ∧ j < 2 ^ 62) ∧ ∀ D, H1 D = none → lcW (Itr i (j - i).toNat) g tt te vs σ D H1 fun H' => Q (.ref D) H') = _
  congr 1
  funext xs H1
  exact propext rng2_ex.symm
theorem tDc2_ap {ts : TA} {g : TG} {tt : TT} {vs : List Nat} : tDc (iRng2 ts) g tt te tb vs σ H Q = ts σ H fun xs H1 => rng2 xs fun i j => ∀ D, H1 D = none → dcW (Itr i (j - i).toNat) g tt te tb vs σ D H1 fun H' => Q (.ref D) H' := by
  show (ts σ H fun xs H1 => ∃ i j : Int, xs = [.int i, .int j] ∧ (-(2 ^ 62) ≤ i ∧ i < 2 ^ 62 ∧ -(2 ^ 62) ≤ j ∧ j < 2 ^ 62) ∧ ∀ D, H1 D = none → dcW (Itr i (j - i).toNat) g tt te tb vs σ D H1 fun H' => Q (.ref D) H') = _
  congr 1
  funext xs H1
  exact propext rng2_ex.symm
/-- a text, else nothing holds -/
def asStr (v : V) (P : Str → Prop) : Prop := match v with
  | .str i => P i
  | _ => False
theorem asStr_str {i : Str} {P : Str → Prop} : asStr (.str i) P = P i := rfl
theorem asStr_ex {v : V} {P : Str → Prop} : asStr v P = ∃ i, v = .str i ∧ P i := by
  apply propext
  cases v <;> simp [asStr]
def asRef (v : V) (P : Addr → Prop) : Prop := match v with
  | .ref i => P i
  | _ => False
theorem asRef_ref {i : Addr} {P : Addr → Prop} : asRef (.ref i) P = P i := rfl
theorem asRef_ex {v : V} {P : Addr → Prop} : asRef v P = ∃ i, v = .ref i ∧ P i := by
  apply propext
  cases v <;> simp [asRef]
theorem tForS_ap {g : TG} : tFor (iStr te) g t D σ H = te σ H fun v H1 => asStr v fun x => forW (Its x) g t D σ H1 := by
  simp only [asStr_ex]
  rfl
theorem tLcZ_ap {K : PySem.W.Frag} {ts : TA} {g : TG} {tt : TT} {tf : TE} {vs : List Nat} : tLc (iZip K ts) g tt tf vs σ H Q = ts σ H fun us H1 => ∃ a b xs ys, us = [.ref a, .ref b] ∧ SqL K H1 a xs ∧ SqL K H1 b ys ∧ ∀ D, H1 D = none → lcW (Itz K a b) g tt tf vs σ D H1 fun H' => Q (.ref D) H' := rfl
theorem tForZ_ap {K : PySem.W.Frag} {ts : TA} {g : TG} : tFor (iZip K ts) g t D σ H = ts σ H fun us H1 => ∃ a b xs ys, us = [.ref a, .ref b] ∧ SqL K H1 a xs ∧ SqL K H1 b ys ∧ forW (Itz K a b) g t D σ H1 := rfl
theorem tLcL_ap {K : PySem.W.Frag} {g : TG} {tt : TT} {tf : TE} {vs : List Nat} : tLc (iList K te) g tt tf vs σ H Q = te σ H fun v H1 => asRef v fun a => (∃ xs, SqL K H1 a xs) ∧ ∀ D, H1 D = none → lcW (Itl K a) g tt tf vs σ D H1 fun H' => Q (.ref D) H' := by
  simp only [asRef_ex]
  rfl
theorem tDGet_ap : tDGet te tb σ H Q = te σ H fun x H1 => tb σ H1 fun y H2 => asRef x fun a => ∃ v, DGet H2 a y (some v) ∧ Q v H2 := by
  simp only [asRef_ex]
  unfold tDGet
  congr 1
  funext x H1
  congr 1
  funext y H2
  apply propext
  constructor
  · rintro ⟨a, v, h1, h2, h3⟩
    exact ⟨a, h1, v, h2, h3⟩
  · rintro ⟨a, h1, v, h2, h3⟩
    exact ⟨a, v, h1, h2, h3⟩
theorem tForL_ap {K : PySem.W.Frag} {g : TG} : tFor (iList K te) g t D σ H = te σ H fun v H1 => asRef v fun a => (∃ xs, SqL K H1 a xs) ∧ forW (Itl K a) g t D σ H1 := by
  simp only [asRef_ex]
  rfl
end
/-- range(lo, lo + n) -/
theorem for_rng {lo : Int} {n : Nat} {g : TG} {tb : TS} {D : Ends} {σ : L2.St} {H : Hp} (Pv : Nat → L2.St → Hp → Prop) (h0 : Pv 0 σ H)
    (hs : ∀ i σ H, i < n → Pv i σ H → g (.int (lo + i)) σ H fun σ2 H2 => tb { D with nx := Pv (i + 1), ct := Pv (i + 1), bk := D.nx } σ2 H2) (hd : ∀ σ H, Pv n σ H → D.nx σ H) : forW (Itr lo n) g tb D σ H :=
  for_range Pv h0 hs hd
/-- the signs of a text -/
theorem for_sgn {l : List Nat} {g : TG} {tb : TS} {D : Ends} {σ : L2.St} {H : Hp} (Pv : Nat → L2.St → Hp → Prop) (h0 : Pv 0 σ H)
    (hs : ∀ i c σ H, l[i]? = some c → Pv i σ H → g (.str (st [c])) σ H fun σ2 H2 => tb { D with nx := Pv (i + 1), ct := Pv (i + 1), bk := D.nx } σ2 H2) (hd : ∀ σ H, Pv l.length σ H → D.nx σ H) : forW (Its (st l)) g tb D σ H := by
  have w : Walk (Its (st l)) l.length (fun _ => True) (fun i H x H' => H' = H ∧ ∃ c, l[i]? = some c ∧ x = .str (st [c])) :=
    ⟨fun i H hi _ => by show i < (st l).cps.size; simpa [st] using hi, fun H _ => by show (st l).cps.size ≤ l.length; simp [st], fun i H x H' hi _ y => by
      obtain ⟨e, c, h1, h2⟩ := y
      refine ⟨e, c, ?_, h2⟩
      simpa [st] using h1⟩
  refine for_it w Pv h0 (fun _ _ _ _ _ => trivial) (fun i x σ H H' hi p y => ?_) hd
  obtain ⟨e, c, h1, h2⟩ := y
  subst e h2
  exact hs i c σ _ h1 p

/-! ### operators over all kinds -/
def rAdd (K : PySem.W.Frag) (x y : V) (H : Hp) (Q : VK) : Prop := match x, y with
  | .int i, .int j => Q (.int (i + j)) H
  | .str a, .str b => a.length + b.length ≤ sizeLine ∧ Q (.str (st (a.cps.toList ++ b.cps.toList))) H
  | .ref l, .ref b => ∃ xs zs, H l = some (.lst xs) ∧ H b = some (.lst zs) ∧ xs.length + zs.length ≤ sizeLine ∧ ∀ p, H p = none → Q (.ref p) (upd H p (.lst (xs ++ zs)))
  | _, _ => False
def rSub (x y : V) (H : Hp) (Q : VK) : Prop := match x, y with
  | .int i, .int j => Q (.int (i - j)) H
  | _, _ => False
def repS (z : List Nat) (k : Nat) : List Nat := (List.replicate k z).flatten
def rMul (x y : V) (H : Hp) (Q : VK) : Prop := match x, y with
  | .int i, .int j => CMul i j ∧ Q (.int (i * j)) H
  | .str a, .int k => (0 ≤ k ∧ k ≤ sizeLine ∧ a.length * k.toNat ≤ sizeLine) ∧ Q (.str (st (repS a.cps.toList k.toNat))) H
  | _, _ => False
def rMod (x y : V) (H : Hp) (Q : VK) : Prop := match x, y with
  | .int i, .int j => 0 < j ∧ Q (.int (i % j)) H
  | _, _ => False
def rDiv (x y : V) (H : Hp) (Q : VK) : Prop := match x, y with
  | .int i, .int j => CDiv i j ∧ Q (.int (i / j)) H
  | _, _ => False
def rPow (x y : V) (H : Hp) (Q : VK) : Prop := match x, y with
  | .int i, .int j => CPow i j ∧ Q (.int (i ^ j.toNat)) H
  | _, _ => False
def rCmp (p : Int → Int → Bool) (x y : V) (H : Hp) (Q : VK) : Prop := match x, y with
  | .int i, .int j => Q (.bl (p i j)) H
  | _, _ => False
def eqB (x y : V) : Option Bool := match x, y with
  | .int i, .int j => some (decide (i = j))
  | .str i, .str j => some (decide (i = j))
  | .bl i, .bl j => some (decide (i = j))
  | .non, .non => some true
  | _, _ => if scal x y = true then some false else none
def rEqS (K : PySem.W.Frag) (x y : V) (H : Hp) (Q : VK) : Prop := match x, y with
  | .int i, .int j => Q (.bl (decide (i = j))) H
  | .str i, .str j => Q (.bl (decide (i = j))) H
  | .bl i, .bl j => Q (.bl (decide (i = j))) H
  | .ref a, .ref b => rEqD K (.ref a) (.ref b) H Q
  | x, y => scal x y = true ∧ Q (.bl (decide (x = y))) H
def rNeS (K : PySem.W.Frag) (x y : V) (H : Hp) (Q : VK) : Prop := match x, y with
  | .int i, .int j => Q (.bl (!decide (i = j))) H
  | .str i, .str j => Q (.bl (!decide (i = j))) H
  | .bl i, .bl j => Q (.bl (!decide (i = j))) H
  | .ref a, .ref b => rNeD K (.ref a) (.ref b) H Q
  | x, y => scal x y = true ∧ Q (.bl (!decide (x = y))) H
/-- a flat value as data -/
def pyV : V → PyData
  | .bl b => .bool b
  | .int i => .int i
  | .str x => .str x
  | _ => .none
def plainV : V → Bool
  | .int _ => true
  | .str x => x.cps.all (· < 0x110000)
  | _ => false
theorem dp_all {K : PySem.W.Frag} {H : Hp} : ∀ {xs : List V}, xs.all plainV = true → DpAll K H xs (xs.map pyV)
  | [], _ => .nil
  | x :: r, h => by
    rw [List.all_cons, Bool.and_eq_true] at h
    refine .cons ?_ (dp_all h.2)
    cases x <;> first | (exact Bool.noConfusion (show false = true from h.1)) | constructor
theorem lay_all : ∀ {xs : List V}, xs.all plainV = true → PyData.canLayAll0 (xs.map pyV) = true ∧ PyData.depthAll (xs.map pyV) ≤ 1
  | [], _ => ⟨rfl, by simp [PyData.depthAll]⟩
  | x :: r, h => by
    rw [List.all_cons, Bool.and_eq_true] at h
    have ⟨h1, h2⟩ := lay_all h.2
    rw [List.map_cons]
    cases x <;> first | (exact Bool.noConfusion (show false = true from h.1)) | skip
    · refine ⟨by simpa [PyData.canLayAll0, PyData.canLay0, pyV] using h1, ?_⟩
      simp only [PyData.depthAll, pyV, PyData.depth]
      omega
    · refine ⟨?_, ?_⟩
      · simp only [PyData.canLayAll0, PyData.canLay0, pyV, h1, Bool.and_true]
        exact h.1
      · simp only [PyData.depthAll, pyV, PyData.depth]
        omega
theorem eqv_all : ∀ {xs ys : List V}, xs.all plainV = true → ys.all plainV = true → PyData.eqvAll (xs.map pyV) (ys.map pyV) = decide (xs = ys)
  | [], [], _, _ => by simp [PyData.eqvAll]
  | [], y :: s, _, _ => by simp [PyData.eqvAll]
  | x :: r, [], _, _ => by simp [PyData.eqvAll]
  | x :: r, y :: s, h, g => by
    rw [List.all_cons, Bool.and_eq_true] at h g
    have ih := eqv_all h.2 g.2
    rw [List.map_cons, List.map_cons]
    show (PyData.eqv (pyV x) (pyV y) && PyData.eqvAll (r.map pyV) (s.map pyV)) = _
    rw [ih]
    cases x <;> first | (exact Bool.noConfusion (show false = true from h.1)) | skip
    all_goals
      cases y <;> first | (exact Bool.noConfusion (show false = true from g.1)) | skip
      all_goals
        simp only [pyV, PyData.eqv, List.cons.injEq, V.int.injEq, V.str.injEq, reduceCtorEq, false_and, decide_false, Bool.false_and]
        try rw [Bool.eq_iff_iff]
        try simp
theorem dp_lst {K : PySem.W.Frag} {H : Hp} {a : Addr} {xs : List V} (h : SqL K H a xs) (p : xs.all plainV = true) : Dp K H (.ref a) (.list (xs.map pyV)) ∧ SeqAt.shaped (.list (xs.map pyV)) = true := by
  have ⟨h1, h2⟩ := lay_all p
  refine ⟨.lst h (dp_all p), ?_⟩
  unfold SeqAt.shaped
  rw [Bool.and_eq_true]
  refine ⟨by simpa [PyData.canLay0] using h1, decide_eq_true ?_⟩
  simp only [PyData.depth]
  omega
theorem dp_tup {K : PySem.W.Frag} {H : Hp} {a : Addr} {xs : List V} (h : SqT K H a xs) (p : xs.all plainV = true) : Dp K H (.ref a) (.tuple (xs.map pyV)) ∧ SeqAt.shaped (.tuple (xs.map pyV)) = true := by
  have ⟨h1, h2⟩ := lay_all p
  refine ⟨.tup h (dp_all p), ?_⟩
  unfold SeqAt.shaped
  rw [Bool.and_eq_true]
  refine ⟨by simpa [PyData.canLay0] using h1, decide_eq_true ?_⟩
  simp only [PyData.depth]
  omega
theorem eq_lst {K : PySem.W.Frag} {H : Hp} {a b : Addr} {xs ys : List V} {Q : VK} (ha : SqL K H a xs) (hb : SqL K H b ys) (p : xs.all plainV = true) (p' : ys.all plainV = true) (q : Q (.bl (decide (xs = ys))) H) : rEqD K (.ref a) (.ref b) H Q := by
  refine ⟨_, _, (dp_lst ha p).1, (dp_lst hb p').1, (dp_lst ha p).2, (dp_lst hb p').2, ?_⟩
  rw [show PyData.eqv (.list (xs.map pyV)) (.list (ys.map pyV)) = PyData.eqvAll (xs.map pyV) (ys.map pyV) from rfl, eqv_all p p']
  exact q
theorem ne_lst {K : PySem.W.Frag} {H : Hp} {a b : Addr} {xs ys : List V} {Q : VK} (ha : SqL K H a xs) (hb : SqL K H b ys) (p : xs.all plainV = true) (p' : ys.all plainV = true) (q : Q (.bl (!decide (xs = ys))) H) : rNeD K (.ref a) (.ref b) H Q := by
  refine ⟨_, _, (dp_lst ha p).1, (dp_lst hb p').1, (dp_lst ha p).2, (dp_lst hb p').2, ?_⟩
  rw [show PyData.eqv (.list (xs.map pyV)) (.list (ys.map pyV)) = PyData.eqvAll (xs.map pyV) (ys.map pyV) from rfl, eqv_all p p']
  exact q
theorem eq_tup {K : PySem.W.Frag} {H : Hp} {a b : Addr} {xs ys : List V} {Q : VK} (ha : SqT K H a xs) (hb : SqT K H b ys) (p : xs.all plainV = true) (p' : ys.all plainV = true) (q : Q (.bl (decide (xs = ys))) H) : rEqD K (.ref a) (.ref b) H Q := by
  refine ⟨_, _, (dp_tup ha p).1, (dp_tup hb p').1, (dp_tup ha p).2, (dp_tup hb p').2, ?_⟩
  rw [show PyData.eqv (.tuple (xs.map pyV)) (.tuple (ys.map pyV)) = PyData.eqvAll (xs.map pyV) (ys.map pyV) from rfl, eqv_all p p']
  exact q
/-- x in y, by the kind of y -/
def rInA (K : PySem.W.Frag) (x y : V) (H : Hp) (Q : VK) : Prop := match y with
  | .ref p => ∃ xs, (SqL K H p xs ∨ SqT K H p xs) ∧ flatV x = true ∧ xs.all flatV = true ∧ Q (.bl (inV x xs)) H
  | _ => False
def rNotInA (K : PySem.W.Frag) (x y : V) (H : Hp) (Q : VK) : Prop := match y with
  | .ref p => ∃ xs, (SqL K H p xs ∨ SqT K H p xs) ∧ flatV x = true ∧ xs.all flatV = true ∧ Q (.bl (!inV x xs)) H
  | _ => False
section
variable {X : Cx}
theorem op_weak {f : Value → Value → Sem Value} {r r' : R2} (h : OpR X f r) (w : ∀ x y H Q, r' x y H Q → r x y H Q) : OpR X f r' := fun pins s σ H x y v u Q I rx ry q => h pins s σ H x y v u Q I rx ry (w x y H Q q)
theorem y_add {K : PySem.W.Frag} (hK : X.K = K := by rfl) : OpR X (binaryOp .Add) (rAdd K) := by
  subst hK
  refine op_weak (op_add.or (op_add_str.or op_cat)) fun x y H Q q => ?_
  cases x <;> cases y <;> first | exact q.elim | skip
  · exact .inl ⟨_, _, rfl, rfl, q⟩
  · refine .inr (.inl ⟨_, _, rfl, rfl, q.1, ?_⟩)
    rw [app_st]
    exact q.2
  · obtain ⟨xs, zs, h1, h2, h3, h4⟩ := q
    exact .inr (.inr ⟨_, _, xs, zs, rfl, rfl, h1, h2, h3, h4⟩)
theorem y_sub : OpR X (binaryOp .Sub) rSub := by
  refine op_weak op_sub fun x y H Q q => ?_
  cases x <;> cases y <;> first | exact q.elim | skip
  exact ⟨_, _, rfl, rfl, q⟩
theorem foldl_app (a : Array Nat) : ∀ (k : Nat) (acc : Array Nat), ((List.replicate k a).foldl (· ++ ·) acc).toList = acc.toList ++ (List.replicate k a.toList).flatten
  | 0, acc => by simp
  | k + 1, acc => by
    rw [List.replicate_succ, List.foldl_cons, foldl_app a k, List.replicate_succ, List.flatten_cons]
    simp
theorem op_rep_str : OpR X (binaryOp .Mult) (fun x y H Q => ∃ a k, x = .str a ∧ y = .int k ∧ (0 ≤ k ∧ k ≤ sizeLine ∧ a.length * k.toNat ≤ sizeLine) ∧ Q (.str (st (repS a.cps.toList k.toNat))) H) := by
  intro pins s σ H x y v u Q I rx ry h
  obtain ⟨a, k, rfl, rfl, ⟨h0, h1, h2⟩, q⟩ := h
  obtain ⟨t, rfl⟩ := rx
  obtain ⟨t', rfl⟩ := ry
  have hz := line_eq
  rw [hz] at h1 h2
  refine PySem.P.mul_str ?_ (fun g1 g2 => ?_) (fun g1 g2 => ?_) ?_
  · rw [decide_eq_false (by omega), decide_eq_false (by omega)]; rfl
  · have hk : k ≤ 16777216 := h1
    have hk1 : 1 ≤ k := by omega
    have hl : (a.length : Int) ≤ 16777216 := by
      have : a.length * 1 ≤ a.length * k.toNat := Nat.mul_le_mul_left _ (by omega)
      omega
    have : (16777216 : Int) ≤ (2 ^ 63 - 1) / k := by
      rw [Int.le_ediv_iff_mul_le (by omega)]
      have : 16777216 * k ≤ 16777216 * 16777216 := Int.mul_le_mul_of_nonneg_left hk (by omega)
      omega
    omega
  · unfold Builtin.Str.tooLong
    rw [decide_eq_false]
    rw [hz]
    omega
  · by_cases c0 : k < 1
    · rw [if_pos c0]
      have e : k.toNat = 0 := by omega
      have q' : Q (.str Str.empty) H := by
        rw [e] at q
        exact q
      exact ⟨by decide, .str Str.empty, H, I.tok _, ⟨_, rfl⟩, q'⟩
    · rw [if_neg c0]
      by_cases c1 : (k == 1 || a.length == 0) = true
      · rw [if_pos c1]
        refine ⟨.str a, H, I, ⟨t, rfl⟩, ?_⟩
        have e : st (repS a.cps.toList k.toNat) = a := by
          rw [Bool.or_eq_true] at c1
          rcases c1 with c1 | c1
          · have : k = 1 := eq_of_beq c1
            subst this
            show st (List.replicate 1 a.cps.toList).flatten = a
            simp [st_codes]
          · have e0 : a.length = 0 := eq_of_beq c1
            rw [len_cps] at e0
            have e1 : a.cps.toList = [] := List.eq_nil_of_length_eq_zero e0
            rw [e1]
            have : repS [] k.toNat = [] := by simp [repS]
            rw [this, ← e1]
            exact st_codes a
        rw [e] at q
        exact q
      · rw [if_neg c1]
        have e : (⟨(List.replicate k.toNat a.cps).foldl (· ++ ·) #[]⟩ : Str) = st (repS a.cps.toList k.toNat) := by
          have := foldl_app a.cps k.toNat #[]
          show Str.mk _ = Str.mk _
          congr 1
          apply Array.toList_inj.mp
          rw [this]
          simp [repS]
        rw [e]
        refine ⟨?_, .str _, H, I.tok _, ⟨_, rfl⟩, q⟩
        rw [len_st]
        unfold repS
        rw [List.length_flatten, List.map_replicate, List.sum_replicate_nat]
        rw [← len_cps, Nat.mul_comm, hz]
        exact h2
theorem y_mul : OpR X (binaryOp .Mult) rMul := by
  refine op_weak (op_mul.or op_rep_str) fun x y H Q q => ?_
  cases x <;> cases y <;> first | exact q.elim | skip
  · exact .inl ⟨_, _, rfl, rfl, q⟩
  · exact .inr ⟨_, _, rfl, rfl, q⟩
theorem y_mod : OpR X (binaryOp .Mod) rMod := by
  refine op_weak op_mod fun x y H Q q => ?_
  cases x <;> cases y <;> first | exact q.elim | skip
  exact ⟨_, _, rfl, rfl, q⟩
theorem y_fdiv : OpR X (binaryOp .FloorDiv) rDiv := by
  refine op_weak op_fdiv fun x y H Q q => ?_
  cases x <;> cases y <;> first | exact q.elim | skip
  exact ⟨_, _, rfl, rfl, q⟩
theorem y_pow : OpR X (binaryOp .Pow) rPow := by
  refine op_weak op_pow fun x y H Q q => ?_
  cases x <;> cases y <;> first | exact q.elim | skip
  exact ⟨_, _, rfl, rfl, q⟩
theorem cmp_weak {f : Value → Value → Sem Value} {p : Int → Int → Bool} (h : OpR X f (rI0 fun i j => .bl (p i j))) : OpR X f (rCmp p) := by
  refine op_weak h fun x y H Q q => ?_
  cases x <;> cases y <;> first | exact q.elim | skip
  exact ⟨_, _, rfl, rfl, q⟩
theorem y_lt : OpR X (compareOp .Lt) (rCmp fun i j => decide (i < j)) := cmp_weak op_lt
theorem y_le : OpR X (compareOp .LtE) (rCmp fun i j => decide (i ≤ j)) := cmp_weak op_le
theorem y_gt : OpR X (compareOp .Gt) (rCmp fun i j => decide (j < i)) := cmp_weak op_gt
theorem y_ge : OpR X (compareOp .GtE) (rCmp fun i j => decide (j ≤ i)) := cmp_weak op_ge
theorem y_eq {K : PySem.W.Frag} (hu : X.A.units + 64 < cLine) (hK : X.K = K := by rfl) : OpR X (compareOp .Eq) (rEqS K) := by
  subst hK
  refine op_weak (op_eq.or (op_eqD hu)) fun x y H Q q => ?_
  cases x <;> cases y <;> first
    | exact .inl q
    | exact .inl ⟨rfl, by simpa [rEqS] using q⟩
    | exact .inr q
theorem y_ne {K : PySem.W.Frag} (hu : X.A.units + 64 < cLine) (hK : X.K = K := by rfl) : OpR X (compareOp .NotEq) (rNeS K) := by
  subst hK
  refine op_weak (op_ne.or (op_neD hu)) fun x y H Q q => ?_
  cases x <;> cases y <;> first
    | exact .inl q
    | exact .inl ⟨rfl, by simpa [rNeS] using q⟩
    | exact .inr q
theorem y_in {K : PySem.W.Frag} (hK : X.K = K := by rfl) : OpR X (compareOp .In) (rInA K) := by
  subst hK
  refine op_weak op_in_seq fun x y H Q q => ?_
  cases y <;> first | exact q.elim | skip
  obtain ⟨xs, h1, h2, h3, h4⟩ := q
  exact ⟨_, xs, rfl, h1, h2, h3, h4⟩
theorem y_notin {K : PySem.W.Frag} (hK : X.K = K := by rfl) : OpR X (compareOp .NotIn) (rNotInA K) := by
  subst hK
  refine op_weak op_notIn_seq fun x y H Q q => ?_
  cases y <;> first | exact q.elim | skip
  obtain ⟨xs, h1, h2, h3, h4⟩ := q
  exact ⟨_, xs, rfl, h1, h2, h3, h4⟩
/-- a[i] by its kind -/
def rIxA (K : PySem.W.Frag) (x y : V) (H : Hp) (Q : VK) : Prop := match x, y with
  | .ref p, .int i => ∃ xs v, (SqL K H p xs ∨ SqT K H p xs) ∧ atI xs i = some v ∧ Q v H
  | .str z, .int i => ∃ c, z.length ≤ sizeLine ∧ atI z.cps.toList i = some c ∧ Q (.str (st [c])) H
  | _, _ => False
theorem ix_weak {r r' : R2} (h : IxR X r) (w : ∀ x y H Q, r' x y H Q → r x y H Q) : IxR X r' := fun a b pins s σ H x y v u Q I rx ry q => h a b pins s σ H x y v u Q I rx ry (w x y H Q q)
theorem y_ix {K : PySem.W.Frag} (hK : X.K = K := by rfl) : IxR X (rIxA K) := by
  subst hK
  refine ix_weak ix_seq fun x y H Q q => ?_
  cases x <;> cases y <;> first | exact q.elim | skip
  · obtain ⟨c, h1, h2, h3⟩ := q
    exact .inr (.inr ⟨_, _, c, rfl, rfl, h1, h2, h3⟩)
  · obtain ⟨xs, v, h1, h2, h3⟩ := q
    rcases h1 with h1 | h1
    · exact .inl ⟨_, xs, _, v, rfl, rfl, h1, h2, h3⟩
    · exact .inr (.inl ⟨_, xs, _, v, rfl, rfl, h1, h2, h3⟩)
/-- a[i:j] by its kind -/
def rSlA (K : PySem.W.Frag) (x : V) (lo hi : Option Int) (H : Hp) (Q : VK) : Prop := match x with
  | .str z => z.length ≤ sizeLine ∧ Q (.str (cutS z lo hi)) H
  | .ref a => ∃ xs, SqL K H a xs ∧ ∀ p, H p = none → Q (.ref p) (upd H p (.lst (cutV xs lo hi)))
  | _ => False
theorem y_sl {K : PySem.W.Frag} (hK : X.K = K := by rfl) : SlR X (rSlA K) := by
  subst hK
  intro pins s σ H x v vl vu lo hi sl Q I rx hs pl pu h
  cases x <;> first | exact h.elim | skip
  · exact sl_str pins s σ H _ v vl vu lo hi sl Q I rx hs pl pu ⟨_, rfl, h⟩
  · obtain ⟨xs, h1, h2⟩ := h
    exact sl_list pins s σ H _ v vl vu lo hi sl Q I rx hs pl pu ⟨_, xs, rfl, h1, h2⟩

/-! ### built-ins -/
def rLen (K : PySem.W.Frag) (xs : List V) (H : Hp) (Q : VK) : Prop := match xs with
  | [.str z] => z.length ≤ sizeLine ∧ Q (.int (z.cps.toList.length : Nat)) H
  | [.ref p] => ∃ ys, (SqL K H p ys ∨ SqT K H p ys) ∧ Q (.int (ys.length : Nat)) H
  | _ => False
theorem call_weak {f : Value} {r r' : List V → Hp → VK → Prop} (h : CallR X f r) (w : ∀ x H Q, r' x H Q → r x H Q) : CallR X f r' := fun pins s σ H x us Q I rx q => h pins s σ H x us Q I rx (w x H Q q)
theorem y_len {K : PySem.W.Frag} (hK : X.K = K := by rfl) : CallR X (.builtin "len") (rLen K) := by
  subst hK
  refine call_weak call_len fun x H Q q => ?_
  unfold rLen at q
  split at q
  · rename_i z
    refine ⟨.str z, z.length, rfl, ⟨q.1, rfl⟩, ?_⟩
    rw [len_cps]
    exact q.2
  · rename_i p
    obtain ⟨ys, h, q⟩ := q
    refine ⟨.ref p, ys.length, rfl, ?_, q⟩
    rcases h with h | h
    · exact .inl ⟨ys, h, rfl⟩
    · exact .inr ⟨ys, h, rfl⟩
  · exact q.elim
def rOrd (xs : List V) (H : Hp) (Q : VK) : Prop := match xs with
  | [.str z] => z.cps.toList.length = 1 ∧ Q (.int (z.cps.toList.headD 0 : Nat)) H
  | _ => False
theorem y_ord : CallR X (.builtin "ord") rOrd := by
  refine call_weak call_ord fun x H Q q => ?_
  unfold rOrd at q
  split at q
  · rename_i z
    refine ⟨z, rfl, by rw [len_cps]; exact q.1, ?_⟩
    have e : z.cps.getD 0 0 = z.cps.toList.headD 0 := by
      obtain ⟨⟨l⟩⟩ := z
      cases l <;> simp
    rw [e]
    exact q.2
  · exact q.elim
def rMin (xs : List V) (H : Hp) (Q : VK) : Prop := match xs with
  | [.int i, .int j] => Q (.int (min i j)) H
  | _ => False
theorem y_min (hc : X.calm = true) : CallR X (.builtin "min") rMin := by
  refine call_weak (call_min2 hc) fun x H Q q => ?_
  unfold rMin at q
  split at q
  · rename_i i j
    refine ⟨i, j, rfl, ?_⟩
    have e : (if j < i then j else i) = min i j := by
      split <;> omega
    rw [e]
    exact q
  · exact q.elim
/-- isinstance(x, T) of a scalar and a built-in type -/
def tyN (v : V) : Option String := match v with
  | .non => some "NoneType"
  | .bl _ => some "bool"
  | .int _ => some "int"
  | .str _ => some "str"
  | _ => none
/-- the built-in type of a value -/
def TyS (H : Hp) (v : V) (t : String) : Prop := tyN v = some t ∨ (∃ p xs, v = .ref p ∧ H p = some (.lst xs) ∧ t = "list") ∨ (∃ p xs, v = .ref p ∧ H p = some (.tup xs) ∧ t = "tuple") ∨ ∃ p kvs, v = .ref p ∧ H p = some (.dK kvs) ∧ t = "dict"
def rIsiS (xs : List V) (H : Hp) (Q : VK) : Prop := match xs with
  | [x, .ty n] => ∃ a b, TyS H x a ∧ kitB a n = some b ∧ Q (.bl b) H
  | _ => False
theorem TyS.base {K : PySem.W.Frag} {H : Hp} {x : V} {t : String} (h : TyS H x t) : TyX K H x (.type t) := by
  rcases h with h1 | ⟨p, xs, rfl, h, rfl⟩ | ⟨p, xs, rfl, h, rfl⟩ | ⟨p, xs, rfl, h, rfl⟩
  · cases x <;> first | (cases h1; done) | skip
    all_goals (cases h1; refine .base ?_; constructor)
  · exact .base (.lst h)
  · exact .base (.tup h)
  · exact .base (.dK h)
theorem y_isi : CallR X (.builtin "isinstance") rIsiS := by
  refine call_weak call_isi fun x H Q q => ?_
  unfold rIsiS at q
  split at q
  · rename_i x n
    obtain ⟨a, b, h1, h2, q⟩ := q
    exact ⟨x, .ty n, .type a, .type n, b, rfl, .ty n, h1.base, kit_ty h2, q⟩
  · exact q.elim
theorem isi_mk {x : V} {n a : String} {b : Bool} {H : Hp} {Q : VK} (h1 : tyN x = some a) (h2 : kitB a n = some b) : rIsiS [x, .ty n] H Q = Q (.bl b) H := by
  apply propext
  show (∃ a b, TyS H x a ∧ kitB a n = some b ∧ Q (.bl b) H) ↔ _
  constructor
  · rintro ⟨a', b', h1', h2', q⟩
    rcases h1' with h1' | ⟨p, xs, rfl, _⟩ | ⟨p, xs, rfl, _⟩ | ⟨p, xs, rfl, _⟩
    · rw [h1] at h1'
      cases h1'
      rw [h2] at h2'
      cases h2'
      exact q
    all_goals cases h1
  · intro q
    exact ⟨a, b, .inl h1, h2, q⟩
theorem isi_lst {p : Addr} {xs : List V} {n : String} {b : Bool} {H : Hp} {Q : VK} (h : H p = some (.lst xs)) (h2 : kitB "list" n = some b) (q : Q (.bl b) H) : rIsiS [.ref p, .ty n] H Q :=
  ⟨"list", b, .inr (.inl ⟨p, xs, rfl, h, rfl⟩), h2, q⟩
theorem isi_tup {p : Addr} {xs : List V} {n : String} {b : Bool} {H : Hp} {Q : VK} (h : H p = some (.tup xs)) (h2 : kitB "tuple" n = some b) (q : Q (.bl b) H) : rIsiS [.ref p, .ty n] H Q :=
  ⟨"tuple", b, .inr (.inr (.inl ⟨p, xs, rfl, h, rfl⟩)), h2, q⟩
/-- is, of a value and None, True or False -/
def rIs (x y : V) (H : Hp) (Q : VK) : Prop := match y with
  | .non => Q (.bl (decide (x = .non))) H
  | .bl b => (∀ n, x ≠ .ty n) ∧ Q (.bl (decide (x = .bl b))) H
  | _ => False
def rIsNot (x y : V) (H : Hp) (Q : VK) : Prop := match y with
  | .non => Q (.bl (!decide (x = .non))) H
  | _ => False
section
variable {H : Hp} {Q : VK} {i : Int} {s : Str} {a b : Bool} {p : Addr}
theorem rIs_1 : rIs .non .non H Q = Q (.bl true) H := rfl
theorem rIs_2 : rIs (.int i) .non H Q = Q (.bl false) H := rfl
theorem rIs_3 : rIs (.str s) .non H Q = Q (.bl false) H := rfl
theorem rIs_4 : rIs (.bl a) .non H Q = Q (.bl false) H := rfl
theorem rIs_5 : rIs (.ref p) .non H Q = Q (.bl false) H := rfl
theorem rIs_6 : rIs .non (.bl b) H Q = Q (.bl false) H := by simp [rIs]
theorem rIs_7 : rIs (.int i) (.bl b) H Q = Q (.bl false) H := by simp [rIs]
theorem rIs_8 : rIs (.str s) (.bl b) H Q = Q (.bl false) H := by simp [rIs]
theorem rIs_9 : rIs (.bl a) (.bl b) H Q = Q (.bl (decide (a = b))) H := by simp [rIs]
theorem rIs_10 : rIs (.ref p) (.bl b) H Q = Q (.bl false) H := by simp [rIs]
theorem rIsN_1 : rIsNot .non .non H Q = Q (.bl false) H := rfl
theorem rIsN_2 : rIsNot (.int i) .non H Q = Q (.bl true) H := rfl
theorem rIsN_3 : rIsNot (.str s) .non H Q = Q (.bl true) H := rfl
theorem rIsN_4 : rIsNot (.bl a) .non H Q = Q (.bl true) H := rfl
theorem rIsN_5 : rIsNot (.ref p) .non H Q = Q (.bl true) H := rfl
end
theorem y_is : OpR X (compareOp .Is) rIs := by
  intro pins s σ H x y v u Q I rx ry h
  cases y <;> first | exact h.elim | skip
  · exact op_isN pins s σ H x _ v u Q I rx ry ⟨rfl, h⟩
  · rename_i b
    obtain ⟨hn, q⟩ := h
    cases (show u = Value.bool b from ry)
    cases x with
    | bl a =>
      cases (show v = Value.bool a from rx)
      by_cases e : a = b
      · subst e
        exact wpAny_is_self rfl (fin_bl I q (by simp))
      · exact wpAny_is_other rfl (fun z => e (Value.bool.inj z)) (fin_bl I q (by simp [e]))
    | non => cases rx; exact wpAny_is_other rfl (fun z => nomatch z) (fin_bl I q (by simp))
    | int i => obtain ⟨t, rfl⟩ := rx; exact wpAny_is_other rfl (fun z => nomatch z) (fin_bl I q (by simp))
    | str i => obtain ⟨t, rfl⟩ := rx; exact wpAny_is_other rfl (fun z => nomatch z) (fin_bl I q (by simp))
    | byt i => obtain ⟨t, rfl⟩ := rx; exact wpAny_is_other rfl (fun z => nomatch z) (fin_bl I q (by simp))
    | flt i => obtain ⟨t, rfl⟩ := rx; exact wpAny_is_other rfl (fun z => nomatch z) (fin_bl I q (by simp))
    | ref i => cases rx; exact wpAny_is_other rfl (fun z => nomatch z) (fin_bl I q (by simp))
    | ty n => exact absurd rfl (hn n)
theorem y_isnot : OpR X (compareOp .IsNot) rIsNot := by
  intro pins s σ H x y v u Q I rx ry h
  cases y <;> first | exact h.elim | skip
  exact op_notN pins s σ H x _ v u Q I rx ry ⟨rfl, h⟩
section
variable {H : Hp} {Q : VK}
theorem isi_int_int {i : Int} : rIsiS [.int i, .ty "int"] H Q = Q (.bl true) H := isi_mk rfl (by decide +kernel)
theorem isi_int_bool {i : Int} : rIsiS [.int i, .ty "bool"] H Q = Q (.bl false) H := isi_mk rfl (by decide +kernel)
theorem isi_int_str {i : Int} : rIsiS [.int i, .ty "str"] H Q = Q (.bl false) H := isi_mk rfl (by decide +kernel)
theorem isi_bl_int {i : Bool} : rIsiS [.bl i, .ty "int"] H Q = Q (.bl true) H := isi_mk rfl (by decide +kernel)
theorem isi_bl_bool {i : Bool} : rIsiS [.bl i, .ty "bool"] H Q = Q (.bl true) H := isi_mk rfl (by decide +kernel)
theorem isi_str_str {i : Str} : rIsiS [.str i, .ty "str"] H Q = Q (.bl true) H := isi_mk rfl (by decide +kernel)
theorem isi_str_int {i : Str} : rIsiS [.str i, .ty "int"] H Q = Q (.bl false) H := isi_mk rfl (by decide +kernel)
end
theorem same_new {H : Hp} {p : Addr} {o : HO} (h : H p = none) : Same H (upd H p o) := fun b x e => by
  rw [upd_ne (ne_of_none e h)]
  exact e
theorem upd_of {H : Hp} {a p : Addr} {o o' : HO} (h : H a = some o) (hp : H p = none) : upd H p o' a = some o := by
  rw [upd_ne (ne_of_none h hp)]
  exact h
theorem same_upd {H H' : Hp} {p : Addr} {o : HO} (s : Same H H') (h : H' p = none) : Same H (upd H' p o) := s.trans (same_new h)
/-- a comprehension whose items are known: over any walk -/
theorem wipe_one {σ : L2.St} {s : Nat} {x : V} : wipe ((wipe σ [s]).set s (some x)) [s] = wipe σ [s] := by
  show (((σ.set s none).set s (some x)).set s none) = σ.set s none
  rw [List.set_set, List.set_set]
theorem set_wipe {σ : L2.St} {s : Nat} {x : V} : (wipe σ [s]).set s (some x) = σ.set s (some x) := by
  show ((σ.set s none).set s (some x)) = σ.set s (some x)
  rw [List.set_set]
theorem fm_succ {α : Type} (f : Nat → Option α) (i : Nat) : (List.range (i + 1)).filterMap f = (List.range i).filterMap f ++ (f i).toList := by
  rw [List.range_succ, List.filterMap_append]
  cases e : f i <;> simp [e]
theorem lc_gen {J : It} {n s : Nat} {G : Hp → Prop} {xs : Nat → V} (w : Walk J n G (fun i H x H' => H' = H ∧ x = xs i)) {tt : TT} {te : TE} {σ : L2.St} {D : Addr} {H1 : Hp} {Qd : Hp → Prop} (f : Nat → Option V) (hD : H1 D = none) (hn : n < 16777216)
    (hG : ∀ H, Same H1 H → G H)
    (hs : ∀ i H, i < n → Same H1 H → ∀ (Ny : V → Hp → Prop) (Nn : Hp → Prop), (∀ y H4, Same H H4 → f i = some y → Ny y H4) → (∀ H3, Same H H3 → f i = none → Nn H3) → tt (σ.set s (some (xs i))) H fun b H3 => br b (te (σ.set s (some (xs i))) H3 Ny) (Nn H3))
    (hd : ∀ H, Same H1 H → H D = some (.lst ((List.range n).filterMap f)) → Qd H) : lcW J (gName s) tt te [s] σ D H1 Qd := by
  have hl : ∀ i, ((List.range i).filterMap f).length ≤ i := fun i => Nat.le_trans (List.length_filterMap_le _ _) (by rw [List.length_range]; exact Nat.le_refl _)
  have up := fm_succ f
  refine lc_it w (fun i H => Same H1 H ∧ H D = some (.lst ((List.range i).filterMap f))) ⟨same_new hD, upd_same⟩ (fun i H _ p => hG H p.1) (fun i x H H' hi p y => ?_) (fun H p => hd H p.1 p.2)
  obtain ⟨rfl, rfl⟩ := y
  obtain ⟨sm, hH⟩ := p
  refine ⟨wipe_one, ?_⟩
  rw [set_wipe]
  refine hs i H' hi sm _ _ (fun y H4 s4 e => ?_) (fun H3 s3 e => ?_)
  · refine ⟨_, s4 _ _ hH, by have := hl i; rw [line_eq]; omega, ?_⟩
    refine ⟨fun b o hb => ?_, ?_⟩
    · have nb : b ≠ D := fun z => by
        rw [z, hD] at hb
        cases hb
      rw [upd_ne nb]
      exact s4 _ _ (sm _ _ hb)
    · rw [upd_same, up, e]
      rfl
  · refine ⟨sm.trans s3, ?_⟩
    rw [up, e]
    rw [show (none : Option V).toList = [] from rfl, List.append_nil]
    exact s3 _ _ hH
theorem lc_rng {lo : Int} {n s : Nat} {tt : TT} {te : TE} {σ : L2.St} {D : Addr} {H1 : Hp} {Qd : Hp → Prop} (f : Nat → Option V) (hD : H1 D = none) (hn : n < 16777216)
    (hs : ∀ i H, i < n → Same H1 H → ∀ (Ny : V → Hp → Prop) (Nn : Hp → Prop), (∀ y H4, Same H H4 → f i = some y → Ny y H4) → (∀ H3, Same H H3 → f i = none → Nn H3) → tt (σ.set s (some (.int (lo + i)))) H fun b H3 => br b (te (σ.set s (some (.int (lo + i)))) H3 Ny) (Nn H3))
    (hd : ∀ H, Same H1 H → H D = some (.lst ((List.range n).filterMap f)) → Qd H) : lcW (Itr lo n) (gName s) tt te [s] σ D H1 Qd :=
  lc_gen (G := fun _ => True) (xs := fun i => .int (lo + i)) ⟨fun _ _ h _ => h, fun _ _ => Nat.le_refl _, fun _ _ _ _ _ _ y => y⟩ f hD hn (fun _ _ => trivial) hs hd
theorem lc_lst {K : PySem.W.Frag} {a : Addr} {xs : List V} {s : Nat} {tt : TT} {te : TE} {σ : L2.St} {D : Addr} {H1 : Hp} {Qd : Hp → Prop} (f : V → Option V) (hD : H1 D = none) (ha : SqL K H1 a xs) (hn : xs.length < 16777216)
    (hs : ∀ (i : Nat) (x : V) (H : Hp), xs[i]? = some x → Same H1 H → ∀ (Ny : V → Hp → Prop) (Nn : Hp → Prop), (∀ y H4, Same H H4 → f x = some y → Ny y H4) → (∀ H3, Same H H3 → f x = none → Nn H3) → tt (σ.set s (some x)) H fun b H3 => br b (te (σ.set s (some x)) H3 Ny) (Nn H3))
    (hd : ∀ H, Same H1 H → H D = some (.lst (xs.filterMap f)) → Qd H) : lcW (Itl K a) (gName s) tt te [s] σ D H1 Qd := by
  have w : Walk (Itl K a) xs.length (fun H => SqL K H a xs) (fun i H x H' => H' = H ∧ x = xs.getD i .non) :=
    ⟨fun i H hi g => ⟨xs, xs[i], g, List.getElem?_eq_getElem hi⟩, fun H g => ⟨xs, g, Nat.le_refl _⟩, fun i H x H' hi g y => by
      refine ⟨y.1, ?_⟩
      have := y.2 xs g
      rw [List.getD_eq_getElem?_getD, this]
      rfl⟩
  refine lc_gen w (fun i => f (xs.getD i .non)) hD hn (fun H s4 => Same.seq s4 ha) (fun i H hi sm Ny Nn h1 h2 => ?_) (fun H sm h => hd H sm ?_)
  · exact hs i _ H (by rw [List.getD_eq_getElem?_getD, List.getElem?_eq_getElem hi]; rfl) sm Ny Nn h1 h2
  · rw [h]
    congr 2
    have e : xs = (List.range xs.length).map fun i => xs.getD i .non := by
      apply List.ext_getElem
      · simp
      · intro i h1 h2
        simp [List.getD_eq_getElem?_getD, h1]
    conv => rhs; rw [e]
    rw [List.filterMap_map]
    rfl
/-- a comprehension over a zip of two lists -/
theorem set_pair {σ : L2.St} {s t : Nat} {x y : V} (h : s ≠ t) : (((wipe σ [s, t]).set s (some x)).set t (some y)) = (σ.set s (some x)).set t (some y) := by
  show ((((σ.set t none).set s none).set s (some x)).set t (some y)) = (σ.set s (some x)).set t (some y)
  rw [List.set_set, List.set_comm _ _ h, List.set_set, List.set_comm _ _ h.symm]
theorem wipe_pair {σ : L2.St} {s t : Nat} {x y : V} (h : s ≠ t) : wipe ((σ.set s (some x)).set t (some y)) [s, t] = wipe σ [s, t] := by
  show ((((σ.set s (some x)).set t (some y)).set t none).set s none) = ((σ.set t none).set s none)
  rw [List.set_set, List.set_comm _ _ h, List.set_set]
theorem lc_zip {K : PySem.W.Frag} {a b : Addr} {xs ys : List V} {s t : Nat} {tt : TT} {te : TE} {σ : L2.St} {D : Addr} {H1 : Hp} {Qd : Hp → Prop} (f : V → V → Option V) (hst : s ≠ t) (hD : H1 D = none) (ha : SqL K H1 a xs) (hb : SqL K H1 b ys) (n : Nat) (hn : n = min xs.length ys.length) (hz : n < 16777216)
    (hs : ∀ (i : Nat) (x y : V) (H : Hp), xs[i]? = some x → ys[i]? = some y → Same H1 H → ∀ (Ny : V → Hp → Prop) (Nn : Hp → Prop), (∀ v H4, Same H H4 → f x y = some v → Ny v H4) → (∀ H3, Same H H3 → f x y = none → Nn H3) → tt ((σ.set s (some x)).set t (some y)) H fun c H3 => br c (te ((σ.set s (some x)).set t (some y)) H3 Ny) (Nn H3))
    (hd : ∀ H, Same H1 H → H D = some (.lst ((List.range n).filterMap fun i => f (xs.getD i .non) (ys.getD i .non))) → Qd H) : lcW (Itz K a b) (gTup K 2 (gCons (gName s) (gCons (gName t) gNil))) tt te [s, t] σ D H1 Qd := by
  have hl : ∀ i, ((List.range i).filterMap fun i => f (xs.getD i .non) (ys.getD i .non)).length ≤ i := fun i => Nat.le_trans (List.length_filterMap_le _ _) (by rw [List.length_range]; exact Nat.le_refl _)
  have up := fun i => fm_succ (fun i => f (xs.getD i .non) (ys.getD i .non)) i
  refine lc_it (walk_zip hn) (fun i H => Same H1 H ∧ H D = some (.lst ((List.range i).filterMap fun i => f (xs.getD i .non) (ys.getD i .non)))) ⟨same_new hD, upd_same⟩ (fun i H _ p => ⟨p.1.seq ha, p.1.seq hb⟩) (fun i v H H' hi p hy => ?_) (fun H p => hd H p.1 p.2)
  obtain ⟨T, x, y, rfl, hT, rfl, hx, hy⟩ := hy
  obtain ⟨sm, hH⟩ := p
  have sT : Same H (upd H T (.tup [x, y])) := same_new hT
  refine ⟨T, [x, y], rfl, SqT.of upd_same, rfl, x, [y], rfl, y, [], rfl, rfl, ?_⟩
  rw [set_pair hst]
  refine ⟨by rw [wipe_pair hst], ?_⟩
  have gx : xs.getD i .non = x := by
    rw [List.getD_eq_getElem?_getD]
    show (xs[i]?).getD .non = x
    rw [show xs[i]? = some x from hx]
    rfl
  have gy : ys.getD i .non = y := by
    rw [List.getD_eq_getElem?_getD]
    rw [show ys[i]? = some y from hy]
    rfl
  refine hs i x y _ hx hy (sm.trans sT) _ _ (fun v H4 s4 e => ?_) (fun H3 s3 e => ?_)
  · refine ⟨_, s4 _ _ (sT _ _ hH), by have := hl i; rw [line_eq]; omega, ?_⟩
    refine ⟨fun c o hc => ?_, ?_⟩
    · have nb : c ≠ D := fun z => by
        rw [z, hD] at hc
        cases hc
      rw [upd_ne nb]
      exact s4 _ _ (sT _ _ (sm _ _ hc))
    · rw [upd_same, up i, gx, gy, e]
      rfl
  · refine ⟨sm.trans (sT.trans s3), ?_⟩
    rw [up i, gx, gy, e]
    rw [show (none : Option V).toList = [] from rfl, List.append_nil]
    exact s3 _ _ (sT _ _ hH)
/-- {k: v for ..} over a range, the keys new ints -/
theorem dc_rng {lo : Int} {n s : Nat} {tk tv : TE} {σ : L2.St} {D : Addr} {H1 : Hp} {Qd : Hp → Prop} (key : Nat → Key) (val : Nat → V) (hk : ∀ i j, key i = key j → i = j) (hD : H1 D = none) (hn : n < 16777216)
    (hs : ∀ i H, i < n → Same H1 H → ∀ (N : V → V → Hp → Prop), (∀ H4, Same H H4 → N (kV (key i)) (val i) H4) → tk (σ.set s (some (.int (lo + i)))) H fun y H3 => tv (σ.set s (some (.int (lo + i)))) H3 fun z H4 => N y z H4)
    (hd : ∀ H, Same H1 H → H D = some (.dK ((List.range n).map fun i => (key i, val i))) → Qd H) : dcW (Itr lo n) (gName s) tYes tk tv [s] σ D H1 Qd := by
  have nov : ∀ i, valV ((List.range i).map fun j => (key j, val j)) (key i) = none := fun i => by
    cases e : valV ((List.range i).map fun j => (key j, val j)) (key i) with
    | none => rfl
    | some v =>
      exfalso
      have q : (((List.range i).map fun j => (key j, val j)).any fun kv => decide (kv.1 = key i)) = true := by
        rw [valV_any, e]
        rfl
      obtain ⟨p, hp, e2⟩ := List.any_eq_true.mp q
      obtain ⟨j, hj, rfl⟩ := List.mem_map.mp hp
      have := hk _ _ (of_decide_eq_true e2)
      rw [List.mem_range] at hj
      omega
  refine ⟨fun i m H => m = n - i ∧ i ≤ n ∧ Same H1 H ∧ H D = some (.dK ((List.range i).map fun j => (key j, val j))), ⟨n, by simp, Nat.zero_le _, same_new hD, upd_same⟩, ?_⟩
  rintro i m H ⟨rfl, hi, sm, hH⟩
  by_cases hlt : i < n
  · refine .inr ⟨hlt, fun H' => Same H1 H' ∧ H' D = some (.dK ((List.range (i + 1)).map fun j => (key j, val j))), fun H' p' => ⟨n - (i + 1), by omega, rfl, hlt, p'.1, p'.2⟩, ?_⟩
    rintro x H' ⟨rfl, rfl⟩
    refine ⟨wipe_one, ?_⟩
    rw [set_wipe]
    show tk _ _ _
    refine hs i H' hlt sm (fun y z H5 => ∃ kvs k, y = kV k ∧ H5 D = some (.dK kvs) ∧ kvs.length < sizeLine ∧ Same H1 (upd H5 D (.dK (putK kvs k z))) ∧ (upd H5 D (.dK (putK kvs k z))) D = some (.dK ((List.range (i + 1)).map fun j => (key j, val j)))) fun H4 s4 => ?_
    refine ⟨_, key i, rfl, s4 _ _ hH, by rw [List.length_map, List.length_range, line_eq]; omega, fun b o hb => ?_, ?_⟩
    · have nb : b ≠ D := fun z => by
        rw [z, hD] at hb
        cases hb
      rw [upd_ne nb]
      exact s4 _ _ (sm _ _ hb)
    · rw [upd_same, putK_new _ (nov i), List.range_succ, List.map_append]
      rfl
  · have e : i = n := by omega
    subst e
    exact .inl ⟨Nat.le_refl _, hd H sm hH⟩
theorem valV_rng {n i : Nat} {key : Nat → Key} {val : Nat → V} (hk : ∀ i j, key i = key j → i = j) (hi : i < n) : valV ((List.range n).map fun j => (key j, val j)) (key i) = some (val i) := by
  induction n with
  | zero => omega
  | succ n ih =>
    rw [List.range_succ, List.map_append]
    by_cases e : i < n
    · have h := ih e
      unfold valV at h ⊢
      rw [List.find?_append]
      cases q : ((List.range n).map fun j => (key j, val j)).find? fun kv => decide (kv.1 = key i) with
      | none => rw [q] at h; cases h
      | some p => rw [q] at h; exact h
    · have e2 : i = n := by omega
      subst e2
      unfold valV
      rw [List.find?_append]
      have q : ((List.range i).map fun j => (key j, val j)).find? (fun kv => decide (kv.1 = key i)) = none := by
        rw [List.find?_eq_none]
        intro p hp
        obtain ⟨j, hj, rfl⟩ := List.mem_map.mp hp
        rw [List.mem_range] at hj
        intro z
        have := hk _ _ (of_decide_eq_true z)
        omega
      rw [q]
      simp
theorem cut_mid {z : List Nat} {a b : Nat} (h : a ≤ b) (hb : b ≤ z.length) : cutS (st z) (some (a : Int)) (some (b : Int)) = st ((z.drop a).take (b - a)) := by
  unfold cutS
  rw [codes_st, HT.sIx_nat, HT.sIx_nat, len_st, Nat.min_eq_left (Nat.le_trans h hb), Nat.min_eq_left hb]
  rfl
abbrev natV (n : Nat) : V := .int (n : Int)
abbrev txtV (z : List Nat) : V := .str (st z)
theorem inV_txt (z : List Nat) (zs : List (List Nat)) : inV (txtV z) (zs.map txtV) = decide (z ∈ zs) := by
  unfold inV
  rw [List.any_map, Bool.eq_iff_iff, List.any_eq_true, decide_eq_true_eq]
  constructor
  · rintro ⟨y, hy, e⟩
    have e2 : (st y == st z) = true := e
    have := st_inj.mp (eq_of_beq e2)
    rw [← this]
    exact hy
  · intro h
    exact ⟨z, h, (beq_self_eq_true (st z) : (st z == st z) = true)⟩
theorem flat_txt (zs : List (List Nat)) : (zs.map txtV).all flatV = true := by
  rw [List.all_map, List.all_eq_true]
  intro _ _
  rfl
theorem plain_nat (zs : List Nat) : (zs.map natV).all plainV = true := by
  rw [List.all_map, List.all_eq_true]
  intro _ _
  rfl
theorem join_txt (zs : List (List Nat)) : Txt.join (st []) (zs.map st) = st zs.flatten := by
  have h : Txt.join (st []) (zs.map st) = st (TL.joinL [] zs) := SX.join_S [] zs
  rw [h]
  congr 1
  clear h
  induction zs with
  | nil => rfl
  | cons z r ih =>
    cases r with
    | nil => simp [TL.joinL]
    | cons y r =>
      show z ++ ([] ++ TL.joinL [] (y :: r)) = z ++ (y :: r).flatten
      rw [List.nil_append, ih]
theorem cutV_one (xs : List V) : cutV xs (some 1) none = xs.drop 1 := by
  unfold cutV
  rw [HT.sIx_none, show (some (1 : Int)) = some ((1 : Nat) : Int) from rfl, HT.sIx_nat]
  rcases xs with _ | ⟨x, r⟩
  · rfl
  · rw [show min 1 (x :: r).length = 1 by rw [List.length_cons]; omega]
    rw [List.take_of_length_le]
    rw [List.length_drop]
    exact Nat.le_refl _
/-- a list's neighbours -/
def pairsOf {β : Type} (g : Nat → Nat → Option β) : List Nat → List β
  | a :: b :: r => (g a b).toList ++ pairsOf g (b :: r)
  | _ => []
theorem pairs_range {β γ : Type} (g : Nat → Nat → Option β) (k : β → γ) (F : V → V → Option γ) (hF : ∀ a b, F (natV a) (natV b) = (g a b).map k) : ∀ B : List Nat, ((List.range (B.length - 1)).filterMap fun i => F ((B.map natV).getD i .non) (((B.map natV).drop 1).getD i .non)) = (pairsOf g B).map k
  | [] => rfl
  | [_] => rfl
  | a :: b :: r => by
    have ih := pairs_range g k F hF (b :: r)
    rw [show (a :: b :: r).length - 1 = (b :: r).length - 1 + 1 by simp, List.range_succ_eq_map, List.filterMap_cons]
    have e0 : F (((a :: b :: r).map natV).getD 0 .non) ((((a :: b :: r).map natV).drop 1).getD 0 .non) = (g a b).map k := hF a b
    have e1 : ((List.range ((b :: r).length - 1)).map Nat.succ).filterMap (fun i => F (((a :: b :: r).map natV).getD i .non) ((((a :: b :: r).map natV).drop 1).getD i .non)) = (pairsOf g (b :: r)).map k := by
      rw [List.filterMap_map, ← ih]
      rfl
    rw [e0, e1]
    show _ = ((g a b).toList ++ pairsOf g (b :: r)).map k
    cases g a b <;> simp
/-- a script's cell, 0 behind its end -/
def cel (ns : List Int) (j : Nat) : Int := ns.getD j 0
theorem atI_map {α : Type} (f : α → V) (ns : List α) {j : Nat} {x : α} (h : ns[j]? = some x) : atI (ns.map f) (j : Int) = some (f x) := atI_nat (by rw [List.getElem?_map, h]; rfl)
theorem cel_in {ns : List Int} {j : Nat} (h : j < ns.length) : ns[j]? = some (cel ns j) := by
  unfold cel
  rw [List.getD_eq_getElem?_getD, List.getElem?_eq_getElem h]
  rfl
theorem cel_out {ns : List Int} {j : Nat} (h : ¬ j < ns.length) : cel ns j = 0 := by
  unfold cel
  rw [List.getD_eq_getElem?_getD, List.getElem?_eq_none (by omega)]
  rfl
end
end Y
set_option Elab.async false
set_option linter.all false
set_option maxRecDepth 100000
/-! Objects, errors, dicts: our layer's second half. -/
namespace Y
open PySem PySem.Spec PyProof.Rows L2

/-! ### calls whose errors are wished for at the slots -/
section
variable {X : Cx} {CX : CXT} {k : Nat} {f C : Addr} {fd : FuncData} {ps : List Str} {sp : Sp} {E : L2.St → XK} {x m : Str} {p pos apos : Pos} {e o : Expr} {es : List Expr} {ta : TE} {t : TA}
theorem pass0S {X : Cx} {σ : L2.St} {E : XK} : PassesAt CX0 X σ E := fun _ _ _ _ _ _ h => h.elim
theorem passLS {X : Cx} {σ : L2.St} : PassesAt (L2.CX X.prog X.w) X σ E0 := fun _ _ _ _ _ _ h => by
  obtain ⟨_, _, _, _, _, _, _, _, _, _, _, _, z⟩ := h
  exact z.elim
theorem pe_callS0 (F : FnOk X.prog X.w X.K X.mg X.base CX k f fd ps sp) (hr : Room k X.A) (hg : Gl X x) (hm : X.mg x = some (.ref f)) (hk : PySem.W.keepIn X.K (.ref f) = true) (hb : Binds X.K fd ps []) (hx : ∀ σ, PassesAt CX X σ (E σ))
    (hdb : (x == ("__debug__" : Str)) = false := by decide) : PE X (.Call (.Name x p) [] [] pos) (tCallS sp E tNil) := by
  refine ⟨fun pins s σ H Q I h => ?_⟩
  refine wpAny_Call_Name_kw (ld_glob I hg hm ?_ hdb)
  exact PySem.W.callWith_K0 I.kIn hk (run_fnS (us := []) F hr hb (hx σ) I .nil h)
/-- the instance at a, its class C, whose own m is no attribute -/
def insAt (H : Hp) (a C : Addr) (m : Str) (P : Prop) : Prop := ∃ dx fs, H a = some (.ins C dx fs) ∧ fs.lookup m = none ∧ P
def tMethE (C : Addr) (m : Str) (sp : Sp) (E : L2.St → XK) (ta : TE) (t : TA) : TE := fun σ H Q => ta σ H fun x H1 => asRef x fun a => insAt H1 a C m (t σ H1 fun vs H2 => sp (.ref a :: vs) H2 Q (E σ))
theorem tMethE_ap {C : Addr} {m : Str} {sp : Sp} {E : L2.St → XK} {ta : TE} {t : TA} {σ : L2.St} {H : Hp} {Q : VK} : tMethE C m sp E ta t σ H Q = ta σ H fun x H1 => asRef x fun a => insAt H1 a C m (t σ H1 fun vs H2 => sp (.ref a :: vs) H2 Q (E σ)) := rfl
theorem tCallS_ap {sp : Sp} {E : L2.St → XK} {t : TA} {σ : L2.St} {H : Hp} {Q : VK} : tCallS sp E t σ H Q = t σ H fun vs H1 => sp vs H1 Q (E σ) := rfl
theorem pe_methE {pl : Sem Bool} (he : PE X o ta) (c : Cls X.K C) (hm : Meth X.K C m f) (F : FnOk X.prog X.w X.K X.mg X.base CX k f fd ps sp) (hr : Room k X.A) (hb : Binds X.K fd ps []) (hx : ∀ σ, PassesAt CX X σ (E σ)) (ha : PA X (e :: es) t)
    (hst : starEach (e :: es) X.env = (false, eval e X.env) :: starEach es X.env := by rfl) (hpl : (backTo pos (starEach es X.env)).any (·.1) = false := by rfl)
    (ht : eval (.Call (.Attribute o m apos) (e :: es) [] pos) X.env = (do
      let ov ← eval o X.env
      standAt apos.atName
      let (f, first) ← holding [ov] (getMethod ov m pl)
      callWith pos f first (backTo pos (starEach (e :: es) X.env)) (backToKw pos (keywordEach [] X.env))) := by rfl) :
    PE X (.Call (.Attribute o m apos) (e :: es) [] pos) (tMethE C m sp E ta t) := by
  refine ⟨fun pins s σ H Q I h => ?_⟩
  refine PySem.W.methodCall_KW (pl := pl) (thn (he.run pins s σ H _ I h) fun u s1 ⟨x, H1, I1, rx, q0⟩ => ?_) ht
  obtain ⟨a, ex, dx, fs, ea, l, q⟩ := Eq.mp asRef_ex q0
  subst ex
  obtain rfl : u = Value.ref a := rx
  refine getmeth_ok I1 ea c hm l ?_
  refine PySem.W.callWith_K (first := [.ref a]) (h₀ := X.base) I.ok.mod.kin hm.kp (thn (ha.run pos pins s1 σ H1 _ I1 q) fun us s2 ⟨vs, H2, I2, r, q2⟩ => ⟨I2.kIn, ?_⟩) hst hpl
  exact run_fnS (us := .ref a :: us) (vs := .ref a :: vs) F hr hb (hx σ) I2 (.cons rfl r) q2
theorem pe_methE0 {pl : Sem Bool} (he : PE X o ta) (c : Cls X.K C) (hm : Meth X.K C m f) (F : FnOk X.prog X.w X.K X.mg X.base CX k f fd ps sp) (hr : Room k X.A) (hb : Binds X.K fd ps []) (hx : ∀ σ, PassesAt CX X σ (E σ))
    (ht : eval (.Call (.Attribute o m apos) [] [] pos) X.env = (do
      let ov ← eval o X.env
      standAt apos.atName
      let (f, first) ← holding [ov] (getMethod ov m pl)
      callWith pos f first (backTo pos (starEach [] X.env)) (backToKw pos (keywordEach [] X.env))) := by rfl) :
    PE X (.Call (.Attribute o m apos) [] [] pos) (tMethE C m sp E ta tNil) := by
  refine ⟨fun pins s σ H Q I h => ?_⟩
  refine PySem.W.methodCall_KW (pl := pl) (thn (he.run pins s σ H _ I h) fun u s1 ⟨x, H1, I1, rx, q0⟩ => ?_) ht
  obtain ⟨a, ex, dx, fs, ea, l, q⟩ := Eq.mp asRef_ex q0
  subst ex
  obtain rfl : u = Value.ref a := rx
  refine getmeth_ok I1 ea c hm l ?_
  exact PySem.W.callWith_K0 (first := [.ref a]) I1.kIn hm.kp (run_fnS (us := [.ref a]) (vs := [.ref a]) F hr hb (hx σ) I1 (.cons rfl .nil) q)
/-- C(..): a new instance, then its __init__ -/
def tMakeE (C : Addr) (sp : Sp) (E : L2.St → XK) (t : TA) : TE := fun σ H Q => t σ H fun vs H1 => ∀ x dx, H1 x = none → H1 dx = none → dx ≠ x →
  sp (.ref x :: vs) (upd (upd H1 dx (.own x)) x (.ins C dx [])) (fun v H2 => v = .non ∧ Q (.ref x) H2) (E σ)
theorem tMakeE_ap {C : Addr} {sp : Sp} {E : L2.St → XK} {t : TA} {σ : L2.St} {H : Hp} {Q : VK} : tMakeE C sp E t σ H Q = t σ H fun vs H1 => ∀ x dx, H1 x = none → H1 dx = none → dx ≠ x →
  sp (.ref x :: vs) (upd (upd H1 dx (.own x)) x (.ins C dx [])) (fun v H2 => v = .non ∧ Q (.ref x) H2) (E σ) := rfl
/-- what a make may let out, told of the heap ahead of it -/
def PassesMk (CX : CXT) (X : Cx) (σ : L2.St) (E : XK) : Prop := ∀ (pins : List (Addr × Obj)) (H : Hp) (s : Shared) (e : Value) (s' : Shared), Inv X pins σ H s → CX X.stack H s E e s' → X.xe e s'
theorem run_makeS {pins : List (Addr × Obj)} {σ : L2.St} {H : Hp} {s : Shared} {Q : VK} {us : List Value} {vs : List V} {E : XK} (M : Mk X.K C f) (F : FnOk X.prog X.w X.K X.mg X.base CX k f fd ps sp) (hr : Room (k + 1) X.A) (hb : Binds X.K fd ps [])
    (hx : PassesAt CX X σ E) (I : Inv X pins σ H s) (r : Vals vs us)
    (h : ∀ x dx, H x = none → H dx = none → dx ≠ x → sp (.ref x :: vs) (upd (upd H dx (.own x)) x (.ins C dx [])) (fun v H2 => v = .non ∧ Q (.ref x) H2) E) :
    wpAny (model X.prog X.w) X.A (call (.ref C) us) (EP X pins σ Q) X.xe s := by
  have hq := h (s.heap.objs.size + 1) s.heap.objs.size (I.hok.fresh (Nat.le_succ _)) (I.hok.fresh (Nat.le_refl _)) (Nat.ne_of_lt (Nat.lt_succ_self _))
  have I2 := Inv.made (C := C) I
  have r2 : Vals (V.ref (s.heap.objs.size + 1) :: vs) (Value.ref (s.heap.objs.size + 1) :: us) := .cons rfl r
  have hl : (Value.ref (s.heap.objs.size + 1) :: us).length = ps.length := by
    have e := r2.length
    rw [F.len _ _ _ _ hq] at e
    exact e.symm
  have b := hb _ (Value.ref (s.heap.objs.size + 1) :: us) I2.kIn (by rw [List.append_nil]; exact hl)
  rw [List.append_nil] at b
  refine wpAny_call (make_map (f := f) I.kIn M.makes M.init (beq_iff_eq.mp M.fn) (codeAny_mono (F.run _ X.stack _ _ ⟨Value.ref (s.heap.objs.size + 1) :: us, []⟩ (Value.ref (s.heap.objs.size + 1) :: us) _ _ E (hr.make C us [])
    (I2.env0.make C us []) b r2 hq) fun r s' hq' => ?_))
  cases r with
  | error e => exact hx pins _ _ e s' I2 hq'
  | ok fl =>
    cases fl with
    | ret u =>
      obtain ⟨v, H', I3, rv, ev, q3⟩ := I2.after hq'
      subst ev
      exact ⟨rv, ⟨V.ref (s.heap.objs.size + 1), H', I3, rfl, q3⟩⟩
    | next => exact False.elim hq'
    | brk => exact False.elim hq'
    | cont => exact False.elim hq'
theorem pe_makeE (M : Mk X.K C f) (F : FnOk X.prog X.w X.K X.mg X.base CX k f fd ps sp) (hr : Room (k + 1) X.A) (hg : Gl X x) (hm : X.mg x = some (.ref C)) (hb : Binds X.K fd ps []) (hx : ∀ σ, PassesAt CX X σ (E σ))
    (ha : PA X (e :: es) t) (hdb : (x == ("__debug__" : Str)) = false := by decide) (he : starEach (e :: es) X.env = (false, eval e X.env) :: starEach es X.env := by rfl) (hpl : (backTo pos (starEach es X.env)).any (·.1) = false := by rfl) :
    PE X (.Call (.Name x p) (e :: es) [] pos) (tMakeE C sp E t) := by
  refine ⟨fun pins s σ H Q I h => ?_⟩
  refine wpAny_Call_Name_kw (ld_glob I hg hm ?_ hdb)
  refine PySem.W.callWith_K (h₀ := X.base) I.ok.mod.kin M.kp (thn (ha.run pos pins s σ H _ I h) fun us s1 ⟨vs, H1, I1, r, q⟩ => ⟨I1.kIn, ?_⟩) he hpl
  exact run_makeS M F hr hb (hx σ) I1 r q
theorem pe_makeE0 (M : Mk X.K C f) (F : FnOk X.prog X.w X.K X.mg X.base CX k f fd ps sp) (hr : Room (k + 1) X.A) (hg : Gl X x) (hm : X.mg x = some (.ref C)) (hb : Binds X.K fd ps []) (hx : ∀ σ, PassesAt CX X σ (E σ))
    (hdb : (x == ("__debug__" : Str)) = false := by decide) : PE X (.Call (.Name x p) [] [] pos) (tMakeE C sp E tNil) := by
  refine ⟨fun pins s σ H Q I h => ?_⟩
  refine wpAny_Call_Name_kw (ld_glob I hg hm ?_ hdb)
  exact PySem.W.callWith_K0 I.kIn M.kp (run_makeS (us := []) M F hr hb (hx σ) I .nil h)
end

/-! ### fields, for a K that is told -/
section
variable {X : Cx} {o e value : Expr} {f : Str} {pos pos' tpos : Pos} {ta tv : TE} {K : PySem.W.Frag}
/-- the attribute f of the instance at a -/
def fldAt (K : PySem.W.Frag) (H : Hp) (a : Addr) (f : Str) (P : V → Prop) : Prop := ∃ C dx fs v, H a = some (.ins C dx fs) ∧ Cls K C ∧ NoAttr K C f ∧ fs.lookup f = some v ∧ P v
theorem fldAt_of {H : Hp} {a C dx : Addr} {fs : List (Str × V)} {v : V} (h : H a = some (.ins C dx fs)) (c : Cls K C) (n : NoAttr K C f) (l : fs.lookup f = some v) (P : V → Prop) : fldAt K H a f P = P v := by
  apply propext
  constructor
  · rintro ⟨C', dx', fs', v', h', _, _, l', p⟩
    rw [h] at h'
    cases h'
    rw [l] at l'
    cases l'
    exact p
  · intro p
    exact ⟨C, dx, fs, v, h, c, n, l, p⟩
theorem insAt_of {H : Hp} {a C dx : Addr} {fs : List (Str × V)} {m : Str} (h : H a = some (.ins C dx fs)) (l : fs.lookup m = none) (P : Prop) : insAt H a C m P = P := by
  apply propext
  constructor
  · rintro ⟨dx', fs', h', _, p⟩
    exact p
  · intro p
    exact ⟨dx, fs, h, l, p⟩
def tFldE (K : PySem.W.Frag) (ta : TE) (f : Str) : TE := fun σ H Q => ta σ H fun x H1 => asRef x fun a => fldAt K H1 a f fun v => Q v H1
theorem tFldE_ap {σ : L2.St} {H : Hp} {Q : VK} : tFldE K ta f σ H Q = ta σ H fun x H1 => asRef x fun a => fldAt K H1 a f fun v => Q v H1 := rfl
theorem y_fld (he : PE X e ta) (hb : attributeBase e f X.env (eval e X.env) = eval e X.env := by rfl) (hK : X.K = K := by rfl) : PE X (.Attribute e f pos) (tFldE K ta f) := by
  subst hK
  refine ⟨fun pins s σ H Q I h => (pe_fld he hb).run pins s σ H Q I ?_⟩
  show ta σ H _
  have h' : ta σ H fun x H1 => asRef x fun a => fldAt X.K H1 a f fun v => Q v H1 := h
  have e1 : (fun (x : V) (H1 : Hp) => asRef x fun a => fldAt X.K H1 a f fun v => Q v H1) = fun x H1 => ∃ a C dx fs v, x = .ref a ∧ H1 a = some (.ins C dx fs) ∧ Cls X.K C ∧ NoAttr X.K C f ∧ fs.lookup f = some v ∧ Q v H1 := by
    funext x H1
    rw [asRef_ex]
    apply propext
    constructor
    · rintro ⟨a, ex, C, dx, fs, v, h1, h2, h3, h4, h5⟩
      exact ⟨a, C, dx, fs, v, ex, h1, h2, h3, h4, h5⟩
    · rintro ⟨a, C, dx, fs, v, ex, h1, h2, h3, h4, h5⟩
      exact ⟨a, ex, C, dx, fs, v, h1, h2, h3, h4, h5⟩
  rw [e1] at h'
  exact h'
/-- e.f = v: where the instance stands -/
def putAt (K : PySem.W.Frag) (H : Hp) (a : Addr) (f : Str) (P : Addr → Addr → List (Str × V) → Prop) : Prop := ∃ C dx fs, H a = some (.ins C dx fs) ∧ Cls K C ∧ NoAttr K C f ∧ fs.length < 1000 ∧ P C dx fs
theorem putAt_of {H : Hp} {a C dx : Addr} {fs : List (Str × V)} (h : H a = some (.ins C dx fs)) (c : Cls K C) (n : NoAttr K C f) (l : fs.length < 1000) (P : Addr → Addr → List (Str × V) → Prop) : putAt K H a f P = P C dx fs := by
  apply propext
  constructor
  · rintro ⟨C', dx', fs', h', _, _, l', p⟩
    rw [h] at h'
    cases h'
    exact p
  · intro p
    exact ⟨C, dx, fs, h, c, n, l, p⟩
def sFldE (K : PySem.W.Frag) (ta tv : TE) (f : Str) : TS := fun D σ H => tv σ H fun y H1 => ta σ H1 fun x H2 => asRef x fun a => putAt K H2 a f fun C dx fs => D.nx σ (upd H2 a (.ins C dx (putF f y fs)))
theorem sFldE_ap {D : Ends} {σ : L2.St} {H : Hp} : sFldE K ta tv f D σ H = tv σ H fun y H1 => ta σ H1 fun x H2 => asRef x fun a => putAt K H2 a f fun C dx fs => D.nx σ (upd H2 a (.ins C dx (putF f y fs))) := rfl
theorem y_sfld (ha : PE X o ta) (hv : PE X value tv) (hs : swapsWith value (some (.Attribute o f pos')) pos.line X.env = pure false := by rfl) (hK : X.K = K := by rfl) : PS X (.Assign [.Attribute o f pos'] value pos) (sFldE K ta tv f) := by
  subst hK
  refine ⟨fun pins s σ H D I h => (ps_fld ha hv hs).run pins s σ H D I ?_⟩
  show tv σ H _
  have h' : tv σ H fun y H1 => ta σ H1 fun x H2 => asRef x fun a => putAt X.K H2 a f fun C dx fs => D.nx σ (upd H2 a (.ins C dx (putF f y fs))) := h
  have e1 : ∀ y : V, (fun (x : V) (H2 : Hp) => asRef x fun a => putAt X.K H2 a f fun C dx fs => D.nx σ (upd H2 a (.ins C dx (putF f y fs)))) = fun x H2 => ∃ a C dx fs, x = .ref a ∧ H2 a = some (.ins C dx fs) ∧ Cls X.K C ∧ NoAttr X.K C f ∧ fs.length < 1000 ∧ D.nx σ (upd H2 a (.ins C dx (putF f y fs))) := fun y => by
    funext x H1
    rw [asRef_ex]
    apply propext
    constructor
    · rintro ⟨a, ex, C, dx, fs, h1, h2, h3, h4, h5⟩
      exact ⟨a, C, dx, fs, ex, h1, h2, h3, h4, h5⟩
    · rintro ⟨a, C, dx, fs, ex, h1, h2, h3, h4, h5⟩
      exact ⟨a, ex, C, dx, fs, h1, h2, h3, h4, h5⟩
  simp only [e1] at h'
  exact h'
/-- e.f op= v -/
def sFldAugE (K : PySem.W.Frag) (ta tv : TE) (rd : V → V → Hp → VK → Prop) (f : Str) : TS := fun D σ H => ta σ H fun x H1 => asRef x fun a => fldAt K H1 a f fun v =>
  tv σ H1 fun y H2 => rd v y H2 fun z H3 => putAt K H3 a f fun C dx fs => D.nx σ (upd H3 a (.ins C dx (putF f z fs)))
theorem sFldAugE_ap {rd : V → V → Hp → VK → Prop} {D : Ends} {σ : L2.St} {H : Hp} : sFldAugE K ta tv rd f D σ H = ta σ H fun x H1 => asRef x fun a => fldAt K H1 a f fun v =>
  tv σ H1 fun y H2 => rd v y H2 fun z H3 => putAt K H3 a f fun C dx fs => D.nx σ (upd H3 a (.ins C dx (putF f z fs))) := rfl
theorem y_fldaug {op : Operator} {rd : V → V → Hp → VK → Prop} (ha : PE X o ta) (hv : PE X value tv) (hop : InOp X op rd) (hK : X.K = K := by rfl) : PS X (.AugAssign (.Attribute o f tpos) op value pos) (sFldAugE K ta tv rd f) := by
  subst hK
  refine ⟨fun pins s σ H D I h => ?_⟩
  refine wpAny_AugAssign_AttributeAny (thn (ha.run pins s σ H _ I h) fun ov s1 ⟨x, H1, I1, rx, q0⟩ => ?_)
  obtain ⟨a, ex, C, dx, fs, v, ea, c, n, l, q⟩ := Eq.mp asRef_ex q0
  subst ex
  obtain rfl : ov = Value.ref a := rx
  refine getattr_ok I1 ea c n l fun u s2 I2 ru => thn (hv.run pins s2 σ H1 _ I2 q) fun w3 s3 ⟨y, H2, I3, ry, q3⟩ => thn (hop pins s3 σ H2 v y u w3 _ I3 ru ry q3) fun w4 s4 ⟨z, H3, I4, rz, C', dx', fs', ea', c', n', l', q4⟩ => ?_
  exact setattr_ok I4 ea' c' n' l' rz fun s5 I5 => ⟨σ, _, I5, q4⟩
def riAdd (x y : V) (H : Hp) (Q : VK) : Prop := match x, y with
  | .int i, .int j => Q (.int (i + j)) H
  | _, _ => False
def riSub (x y : V) (H : Hp) (Q : VK) : Prop := match x, y with
  | .int i, .int j => Q (.int (i - j)) H
  | _, _ => False
theorem y_inadd : InOp X .Add riAdd := fun pins s σ H x y u v Q I rx ry h => in_add pins s σ H x y u v Q I rx ry (by
  cases x <;> cases y <;> first | exact h.elim | exact ⟨_, _, rfl, rfl, h⟩)
theorem y_insub : InOp X .Sub riSub := fun pins s σ H x y u v Q I rx ry h => in_sub pins s σ H x y u v Q I rx ry (by
  cases x <;> cases y <;> first | exact h.elim | exact ⟨_, _, rfl, rfl, h⟩)
end

/-! ### error classes of one's own -/
structure ErrC (K : PySem.W.Frag) (mg : Str → Option Value) (x : Str) (C : Addr) : Prop where
  g : mg x = some (.ref C)
  ex : PySem.W.excIn K C [.type "ValueError", .type "Exception", .type "BaseException", .type "object"] "ValueError.__new__" = true
  kp : PySem.W.keepIn K (.ref C) = true
  b : PySem.W.subIn K (.ref C) (.type "BaseException") = some true
  t : PySem.W.typeIn K (.ref C) = some (.type "type")
  hd : PySem.W.hasDictIn K C = true
theorem ErrC.raises {X : Cx} {x : Str} {C : Addr} (e : ErrC X.K X.mg x C) : Raises X (.ref C) := raises_own e.b e.t
theorem ErrC.exm {K : PySem.W.Frag} {mg : Str → Option Value} {x : Str} {C D : Addr} {b : Bool} (e : ErrC K mg x C) (h : PySem.W.subIn K (.ref D) (.ref C) = some b) : PySem.W.exmOne K (.ref D) (.ref C) = some b := PySem.W.exm_ref e.b e.hd e.t h
theorem ErrC.kit {K : PySem.W.Frag} {mg : Str → Option Value} {x : Str} {C D : Addr} {b : Bool} (e : ErrC K mg x C) (h : PySem.W.subIn K (.ref D) (.ref C) = some b) (hb : D = C → b = true) : PySem.W.kitOne K (.ref D) (.ref C) = some b := by
  unfold PySem.W.kitOne
  by_cases q : D = C
  · subst q
    rw [if_pos (by simp), hb rfl]
  · rw [if_neg (by simpa using q)]
    unfold PySem.W.kitCls
    have e1 : ((PySem.W.clsIn K C).isSome && PySem.W.typeIn K (.ref C) == some (.type "type")) = true := by
      obtain ⟨cd, hc, _⟩ := PySem.W.any_some e.hd
      rw [hc, e.t]
      rfl
    show (if ((PySem.W.clsIn K C).isSome && PySem.W.typeIn K (.ref C) == some (.type "type")) = true then _ else _) = _
    rw [if_pos e1]
    exact h
theorem kit_VE {K : PySem.W.Frag} {D : Addr} (h : PySem.W.subIn K (.ref D) (.type "ValueError") = some true) : PySem.W.kitOne K (.ref D) (.type "ValueError") = some true := by
  unfold PySem.W.kitOne
  rw [if_neg (by simp)]
  unfold PySem.W.kitCls
  have e1 : PySem.W.kitMeta "ValueError" = true := by decide +kernel
  show (if PySem.W.kitMeta "ValueError" = true then _ else _) = _
  rw [if_pos e1]
  exact h
/-- raise x('m') -/
theorem ps_raiseE {X : Cx} {W : WX} {x m : Str} {j : Nat} {C : Addr} {p p2 pos pos2 : Pos} (hc : X.calm = true) (tk : Takes X W) (e : ErrC X.K X.mg x C) (hg : Gl X x := by rfl) (hdb : (x == ("__debug__" : Str)) = false := by decide) :
    PS X (.Raise (some (.Call (.Name x p) [.Constant (.str m) j p2] [] pos)) none pos2) (fun _ σ H => W (.ref C) none σ H) :=
  ps_raise hc tk (pmk_own PySem.F.excBase_ValueError e.ex e.g e.kp e.raises hg hdb)

/-! ### a def that is handed the exception that is handled -/
structure FnE (P : Program) (w : World) (K : PySem.W.Frag) (mg : Str → Option Value) (base : Heap) (k : Nat) (f : Addr) (fd : FuncData) (ps : List Str) (sp : Addr → Value → Option Addr → Sp) : Prop where
  len : ∀ a cls d vs H Q E, sp a cls d vs H Q E → vs.length = ps.length
  run : ∀ (A : Around) (outer : List Env) (s : Shared) (H : Hp) (args : Args) (us : List Value) (vs : List V) (Q : VK) (E : XK) (p : Addr × Obj) (cls : Value) (d : Option Addr), L2H.RoomH k A → Zc cls d p.2 → (∃ fs, p.2.data = .fields fs) → L2H.PinOk outer H s p → Env0 P w K mg base A outer s H →
    BindsTo s fd args (ps.zip us) → Vals vs us → sp p.1 cls d vs H Q E → codeAny (model P w) A (.call (.ref f) args) (CR CX0 outer P w H s Q E) s
theorem fn_ofE {P : Program} {w : World} {K : PySem.W.Frag} {mg : Str → Option Value} {base : Heap} {k : Nat} {f : Addr} {name qual : Str} {params : Arguments} {body : List Stmt} {scope : Scope} {dV kV doc pm cdv ct oc : Value} {an od : Option Addr}
    {osl : Array (Option Value)} {N ps : List Str} {sp : Addr → Value → Option Addr → Sp} (lk : K.lookup f = some ⟨oc, od, .func (PySem.W.fnOf name qual params body scope dV kV doc pm an cdv ct), osl⟩) (hcd : PySem.W.codeIn K cdv qual = true) (S : FnScope N ps scope)
    (len : ∀ a cls d vs H Q E, sp a cls d vs H Q E → vs.length = ps.length)
    (hbody : ∀ (A : Around) (outer : List Env) (s : Shared) (H : Hp) (vs : List V) (Q : VK) (E : XK) (a : Addr) (oe : Obj) (cls : Value) (d : Option Addr), Zc cls d oe → (∃ fs, oe.data = .fields fs) → L2H.RoomH k (A.deeper (envOfC qual scope s.heap.objs.size f cdv)) → sp a cls d vs H Q E →
      ∃ t, PSs (L2H.cxH CX0 P w K mg base N qual scope f cdv A outer s H E (a, oe)) body t ∧ t { nx := fun _ H' => Q .non H', rt := Q } (L2.start N vs) H) :
    FnE P w K mg base (k + 1) f (PySem.W.fnOf name qual params body scope dV kV doc pm an cdv ct) ps sp := by
  refine ⟨len, fun A outer s H args us vs Q E p cls d hr hz hf hpin e0 hb r hsp => ?_⟩
  have hl := len _ _ _ _ _ _ _ hsp
  have KX : K.In s.heap := e0.mod.kin.keeps fun b o e => (e0.bs b o e).1
  have lim : s.heap.NoLimit := e0.mod.nolimit.keeps fun b o e => (e0.bs b o e).1
  have hkind : ∀ y ∈ ps.zip us, scope.names.lookup y.1 = some .local ∨ (scope.names.lookup y.1 = some .cell ∧ ((cellsFrom (s.heap.objs.size + 1) scope.names []).lookup y.1).isSome = true) := fun ⟨n, v⟩ hy => by
    rcases S.par n (List.of_mem_zip hy).1 with q | q
    · exact .inl q
    · exact .inr ⟨q, PySem.W.cellsFrom_some _ _ _ (.inl q)⟩
  refine codeAny_call_function hr.depth (KX _ _ lk) rfl S.co S.gen rfl (PySem.W.codeRec_of KX hcd) (hb _ _ _ _ ?_)
  refine wpAny_newFunctionEnv_cells S.kind hkind fun env he s1 x => ?_
  subst he
  refine ⟨lim.keeps x.toInCall.keep, codeAny_func ?_⟩
  obtain ⟨t, ht, hq⟩ := hbody A outer s H vs Q E p.1 p.2 cls d hz hf (hr.deeper _) hsp
  have I : L2.Inv (L2H.cxH CX0 P w K mg base N qual scope f cdv A outer s H E p) [] (L2.start N vs) H s1 := L2H.inv_startH S hpin e0 hl r x
  refine wpAny_mono (ht.run [] s1 (L2.start N vs) H _ I hq) (fun fl s' hs => ?_) fun e s' hs => hs
  have fin : ∀ {σ' : L2.St} {H' : Hp} {v : V} {u : Value}, L2.Inv (L2H.cxH CX0 P w K mg base N qual scope f cdv A outer s H E p) [] σ' H' s' → RelV v u → Q v H' → CE outer P w H s Q u s' :=
    fun {σ' H' v u} J rv q => ⟨v, H', J.os, J.bare, J.base, J.hok, rv, q⟩
  cases fl with
  | ret u =>
    obtain ⟨v, σ', H', J, rv, q⟩ := hs
    exact fin J rv q
  | next =>
    obtain ⟨σ', H', J, q⟩ := hs
    exact fin (v := V.non) (u := Value.none) J rfl q
  | brk =>
    obtain ⟨_, _, _, q⟩ := hs
    exact False.elim q
  | cont =>
    obtain ⟨_, _, _, q⟩ := hs
    exact False.elim q
theorem _root_.L2.Fun.okE {P : Program} {w : World} {K : PySem.W.Frag} {mg : Str → Option Value} {base : Heap} {x qual : Str} {st : Stmt} {f : Addr} {fd : FuncData} {N ps : List Str} {k : Nat} {sp : Addr → Value → Option Addr → Sp} (F : Fun K x qual st f fd) (S : FnScope N ps (defScope st))
    (len : ∀ a cls d vs H Q E, sp a cls d vs H Q E → vs.length = ps.length)
    (hbody : ∀ (cdv : Value) (A : Around) (outer : List Env) (s : Shared) (H : Hp) (vs : List V) (Q : VK) (E : XK) (a : Addr) (oe : Obj) (cls : Value) (d : Option Addr), Zc cls d oe → (∃ fs, oe.data = .fields fs) → L2H.RoomH k (A.deeper (envOfC qual (defScope st) s.heap.objs.size f cdv)) → sp a cls d vs H Q E →
      ∃ t, PSs (L2H.cxH CX0 P w K mg base N qual (defScope st) f cdv A outer s H E (a, oe)) (defBody st) t ∧ t { nx := fun _ H' => Q .non H', rt := Q } (L2.start N vs) H) : FnE P w K mg base (k + 1) f fd ps sp := by
  obtain ⟨oc, od, kV, doc, pm, an, cdv, ct, osl, rfl, lk, hcd⟩ := F.ex
  exact fn_ofE lk hcd S len fun A outer s H vs Q E a oe cls d hz hf hr hsp => hbody cdv A outer s H vs Q E a oe cls d hz hf hr hsp
section
variable {X : Cx} {k : Nat} {f : Addr} {fd : FuncData} {ps : List Str} {sp : Addr → Value → Option Addr → Sp} {x : Str} {q pos : Pos} {e : Expr} {es : List Expr} {t : TA} {a : Addr} {oe : Obj} {cls : Value} {d : Option Addr} {pn : List (Addr × Obj)}
def tCallE (sp : Addr → Value → Option Addr → Sp) (a : Addr) (cls : Value) (d : Option Addr) (t : TA) : TE := fun σ H Q => t σ H fun vs H1 => sp a cls d vs H1 Q E0
theorem tCallE_ap {σ : L2.St} {H : Hp} {Q : VK} : tCallE sp a cls d t σ H Q = t σ H fun vs H1 => sp a cls d vs H1 Q E0 := rfl
theorem pe_callE (hz : Zc cls d oe) (hf : ∃ fs, oe.data = .fields fs) (F : FnE X.prog X.w X.K X.mg X.base k f fd ps sp) (hr : L2H.RoomH k X.A) (hp : (a, oe) ∈ X.pn) (hg : Gl X x) (hm : X.mg x = some (.ref f)) (hk : PySem.W.keepIn X.K (.ref f) = true) (hb : Binds X.K fd ps [])
    (ha : PA X (e :: es) t) (hdb : (x == ("__debug__" : Str)) = false := by decide) (he : starEach (e :: es) X.env = (false, eval e X.env) :: starEach es X.env := by rfl) (hpl : (backTo pos (starEach es X.env)).any (·.1) = false := by rfl) :
    PE X (.Call (.Name x q) (e :: es) [] pos) (tCallE sp a cls d t) := by
  refine ⟨fun pins s σ H Q I h => ?_⟩
  refine wpAny_Call_Name_kw (ld_glob I hg hm ?_ hdb)
  refine PySem.W.callWith_K (h₀ := X.base) I.ok.mod.kin hk (thn (ha.run pos pins s σ H _ I h) fun us s1 ⟨vs, H1, I1, r, h1⟩ => ⟨I1.kIn, ?_⟩) he hpl
  have hl : us.length = ps.length := by rw [← r.length]; exact F.len _ _ _ _ _ _ _ h1
  have b := hb s1 us I1.kIn (by rw [List.append_nil]; exact hl)
  rw [List.append_nil] at b
  have P1 := I1.pin (a, oe) (List.mem_append_left _ hp)
  have hpin : L2H.PinOk X.stack H1 s1 (a, oe) := ⟨P1.1, P1.2.1, fun hm => (List.mem_cons.mp (I1.stkSub a hm)).elim P1.2.2.1 P1.2.2.2.1, P1.2.2.2.2⟩
  refine wpAny_call (codeAny_mono (F.run X.A X.stack s1 H1 ⟨us, []⟩ us vs Q E0 (a, oe) cls d hr hz hf hpin I1.env0 b r h1) fun r s' hq => ?_)
  cases r with
  | error e => exact hq.elim
  | ok fl =>
    cases fl with
    | ret u => exact I1.after hq
    | next => exact False.elim hq
    | brk => exact False.elim hq
    | cont => exact False.elim hq
end
/-- isinstance(e, c), e the exception that is handled -/
theorem call_isH {X : Cx} {a D : Addr} {oe : Obj} (hp : (a, oe) ∈ X.pn) {K : PySem.W.Frag} (C : ExcC X.K D) (hz : Zc (.ref D) none oe) (hf : ∃ vs, oe.data = .fields vs) (hK : X.K = K := by rfl) : CallR X (.builtin "isinstance") (rIsE K D a) := by
  subst hK
  intro pins s σ H xs us Q I r h
  obtain ⟨c, cv, b, rfl, hcv, e, q⟩ := h
  cases r with
  | cons rx rr =>
    cases rr with
    | cons rt rr =>
      cases rr
      cases rx
      have ec := hcv _ rt
      subst ec
      obtain ⟨hget, _⟩ := I.pin (a, oe) (List.mem_append.mpr (.inl hp))
      obtain ⟨vs, hv⟩ := hf
      have J : PySem.W.InstAt s.heap a oe D none := by
        obtain ⟨oc, od, oda, osl⟩ := oe
        obtain ⟨h1, h2⟩ := hz
        dsimp only at h1 h2 hv
        subst h1 h2 hv
        exact ⟨hget, rfl, rfl, trivial⟩
      exact PySem.W.kia_one (PySem.W.handS_kitx_exc C.hg C.hk C.hs C.hd C.ha C.hn C.ht C.hm) I.kIn J e (fun z => nomatch z) fun tk => ⟨.bl b, H, I.kept (t' := tk) fun _ _ z => z, rfl, q⟩
theorem isE_of {K : PySem.W.Frag} {D a C : Addr} {b : Bool} {H : Hp} {Q : VK} (h : PySem.W.kitOne K (.ref D) (.ref C) = some b) (q : Q (.bl b) H) : rIsE K D a [.ref a, .ref C] H Q := ⟨.ref C, .ref C, b, rfl, fun _ r => r, h, q⟩
theorem isE_ty {K : PySem.W.Frag} {D a : Addr} {n : String} {b : Bool} {H : Hp} {Q : VK} (h : PySem.W.kitOne K (.ref D) (.type n) = some b) (q : Q (.bl b) H) : rIsE K D a [.ref a, .ty n] H Q := ⟨.ty n, .type n, b, rfl, fun _ r => r, h, q⟩
/-- what an except clause over an own class wishes, of an error of one's own under it -/
theorem wAs_of {K : PySem.W.Frag} {C D : Addr} {i : Nat} {ts : Addr → Value → Option Addr → TS} {Wout : WX} {Dn : Ends} {σ : L2.St} {H : Hp} (h : PySem.W.exmOne K (.ref D) (.ref C) = some true)
    (q : ∀ a, H a = none → ts a (.ref D) none { nx := fun σ' H' => Dn.nx (σ'.set i none) H', rt := Dn.rt, bk := fun σ' H' => Dn.bk (σ'.set i none) H', ct := fun σ' H' => Dn.ct (σ'.set i none) H' } (σ.set i (some (.ref a))) H) :
    wAs K (.ref C) i ts Wout Dn (.ref D) none σ H := ⟨true, h, fun _ => q, fun z => nomatch z⟩

theorem roomE {j k : Nat} {A : Around} {a : Addr} (r : Room k A) (h : j ≤ k) : L2H.RoomH j (A.mark (some (.ref a))) := ⟨(r.mono h).dp, (r.mono h).un⟩
/-! ### frames: what stays -/
def nt : HO → Bool
  | .tbl _ => false
  | _ => true
/-- all that stood stays but what F says; tables may grow -/
structure Fr (F : List Addr) (H H' : Hp) : Prop where
  keep : ∀ a o, H a = some o → a ∉ F → nt o = true → H' a = some o
  tabs : ∀ P, GxR.TabG H P → GxR.TabG H' P
  live : ∀ a, H' a = none → H a = none
theorem frS {F : List Addr} {H H' : Hp} (s : Same H H') : Fr F H H' := ⟨fun a o h _ _ => s a o h, fun P ⟨ps, h1, h2⟩ => ⟨ps, s _ _ h1, h2⟩, fun a h => s.free h⟩
theorem Fr.refl {F : List Addr} {H : Hp} : Fr F H H := frS (Same.refl H)
theorem Fr.trans {F : List Addr} {H H1 H2 : Hp} (s : Fr F H H1) (t : Fr F H1 H2) : Fr F H H2 :=
  ⟨fun a o h f n => t.keep a o (s.keep a o h f n) f n, fun P h => t.tabs P (s.tabs P h), fun a h => s.live a (t.live a h)⟩
theorem Fr.mono {F G : List Addr} {H H' : Hp} (s : Fr F H H') (h : ∀ a, a ∈ F → a ∈ G) : Fr G H H' := ⟨fun a o e f n => s.keep a o e (fun z => f (h a z)) n, s.tabs, s.live⟩
theorem Fr.upd {F : List Addr} {H : Hp} {a : Addr} {o o' : HO} (h : a ∈ F) (e : H a = some o') (n : nt o' = true) : Fr F H (upd H a o) := by
  refine ⟨fun b u hb f _ => ?_, fun P ⟨ps, h1, h2⟩ => ⟨ps, ?_, h2⟩, fun b hb => ?_⟩
  · rw [upd_ne (fun z => f (by rw [z]; exact h))]
    exact hb
  · rw [upd_ne (fun z => ?_)]
    · exact h1
    · rw [z, e] at h1
      cases h1
      cases n
  · by_cases z : b = a
    · rw [z, upd_same] at hb
      cases hb
    · rw [upd_ne z] at hb
      exact hb
theorem Fr.same {F : List Addr} {H H1 H2 : Hp} (s : Fr F H H1) (t : Same H1 H2) : Fr F H H2 := s.trans (frS t)
theorem Fr.new {F : List Addr} {H H1 : Hp} {p : Addr} {o : HO} (s : Fr F H H1) (h : H1 p = none) : Fr F H (L2.upd H1 p o) := s.trans (frS (same_new h))
theorem Fr.upd2 {F : List Addr} {H H1 : Hp} {a : Addr} {o o' : HO} (s : Fr F H H1) (h : a ∈ F) (e : H1 a = some o') (n : nt o' = true) : Fr F H (L2.upd H1 a o) := s.trans (Fr.upd h e n)
theorem Fr.lst {F : List Addr} {H H' : Hp} {a : Addr} {xs : List V} (s : Fr F H H') (h : H a = some (.lst xs)) (n : a ∉ F) : H' a = some (.lst xs) := s.keep a _ h n rfl
theorem Fr.tup {F : List Addr} {H H' : Hp} {a : Addr} {xs : List V} (s : Fr F H H') (h : H a = some (.tup xs)) (n : a ∉ F) : H' a = some (.tup xs) := s.keep a _ h n rfl

theorem putF_le (f : Str) (v : V) : ∀ fs : List (Str × V), (putF f v fs).length ≤ fs.length + 1
  | [] => Nat.le_refl _
  | (g, x) :: r => by
    show (if g = f then _ else _ : List (Str × V)).length ≤ _
    split
    · rw [List.length_cons, List.length_cons]; omega
    · have := putF_le f v r
      rw [List.length_cons, List.length_cons]; omega
/-! ### readings, applied -/
section
variable {ta tb tc : TE} {D : Ends} {σ : L2.St} {H : Hp} {Q : VK} {td ty tv tx : TE} {t : TS}
theorem sDPut_ap : sDPut td ty tv D σ H = tv σ H fun v H1 => td σ H1 fun x H2 => ty σ H2 fun y H3 => asRef x fun a => ∃ H4, DPut H3 a y v H4 ∧ D.nx σ H4 := by
  simp only [asRef_ex]
  unfold sDPut
  congr 1; funext v H1; congr 1; funext x H2; congr 1; funext y H3
  apply propext
  constructor
  · rintro ⟨a, H4, h1, h2, h3⟩
    exact ⟨a, h1, H4, h2, h3⟩
  · rintro ⟨a, h1, H4, h2, h3⟩
    exact ⟨a, H4, h1, h2, h3⟩
theorem sDAug_ap {rd : V → V → Hp → VK → Prop} : sDAug td ty tv rd D σ H = td σ H fun x H1 => ty σ H1 fun y H2 => asRef x fun a => ∃ v, DGet H2 a y (some v) ∧ tv σ H2 fun y2 H3 => rd v y2 H3 fun z H4 => ∃ H5, DPut H4 a y z H5 ∧ D.nx σ H5 := by
  simp only [asRef_ex]
  unfold sDAug
  congr 1; funext x H1; congr 1; funext y H2
  apply propext
  constructor
  · rintro ⟨a, v, h1, h2, h3⟩
    exact ⟨a, h1, v, h2, h3⟩
  · rintro ⟨a, h1, v, h2, h3⟩
    exact ⟨a, v, h1, h2, h3⟩
theorem sDDel_ap : sDDel td ty D σ H = td σ H fun x H1 => ty σ H1 fun y H2 => asRef x fun a => ∃ kvs k, H2 a = some (.dK kvs) ∧ y = kV k ∧ (valV kvs k).isSome = true ∧ D.nx σ (upd H2 a (.dK (dropK kvs k))) := by
  simp only [asRef_ex]
  unfold sDDel
  congr 1; funext x H1; congr 1; funext y H2
  apply propext
  constructor
  · rintro ⟨a, kvs, k, h1, h2⟩
    exact ⟨a, h1, kvs, k, h2⟩
  · rintro ⟨a, h1, kvs, k, h2⟩
    exact ⟨a, kvs, k, h1, h2⟩
theorem tDIn_ap : tDIn ty td σ H Q = ty σ H fun y H1 => td σ H1 fun x H2 => asRef x fun a => ∃ o, DGet H2 a y o ∧ Q (.bl o.isSome) H2 := by
  simp only [asRef_ex]
  unfold tDIn
  congr 1; funext x H1; congr 1; funext y H2
  apply propext
  constructor
  · rintro ⟨a, v, h1, h2, h3⟩
    exact ⟨a, h1, v, h2, h3⟩
  · rintro ⟨a, h1, v, h2, h3⟩
    exact ⟨a, v, h1, h2, h3⟩
theorem tDNotIn_ap : tDNotIn ty td σ H Q = ty σ H fun y H1 => td σ H1 fun x H2 => asRef x fun a => ∃ o, DGet H2 a y o ∧ Q (.bl (!o.isSome)) H2 := by
  simp only [asRef_ex]
  unfold tDNotIn
  congr 1; funext x H1; congr 1; funext y H2
  apply propext
  constructor
  · rintro ⟨a, v, h1, h2, h3⟩
    exact ⟨a, h1, v, h2, h3⟩
  · rintro ⟨a, h1, v, h2, h3⟩
    exact ⟨a, v, h1, h2, h3⟩
theorem tDGet2_ap : tDGet2 td ty tx σ H Q = td σ H fun x H1 => asRef x fun a => IsD H1 a ∧ ty σ H1 fun y H2 => tx σ H2 fun z H3 => ∃ o, DGet H3 a y o ∧ Q (o.getD z) H3 := by
  simp only [asRef_ex]
  rfl
theorem tDPop1_ap : tDPop1 td ty σ H Q = td σ H fun x H1 => asRef x fun a => IsD H1 a ∧ ty σ H1 fun y H2 => ∃ kvs k v, H2 a = some (.dK kvs) ∧ y = kV k ∧ valV kvs k = some v ∧ Q v (upd H2 a (.dK (dropK kvs k))) := by
  simp only [asRef_ex]
  rfl
theorem tDNewK_ap : tDNewK σ H Q = ∀ p, H p = none → Q (.ref p) (upd H p (.dK [])) := rfl
theorem tDNewT_ap : tDNewT σ H Q = ∀ p, H p = none → Q (.ref p) (upd H p (.dT [])) := rfl
theorem tDisp_ap {trs : List (TE × TE)} : tDisp trs σ H Q = ∀ p, H p = none → tPairs trs σ (upd H p (.dK [])) fun ps H2 => H2 p = some (.dK []) ∧ ∃ kvs : List (Key × V), ps = kvs.map (fun kv => (kV kv.1, kv.2)) ∧ kvs.length ≤ 15 ∧ Q (.ref p) (upd H2 p (.dK (mergeK [] kvs))) := rfl
theorem tPairs_nil {R : List (V × V) → Hp → Prop} : tPairs [] σ H R = R [] H := rfl
theorem tPairs_cons {r : List (TE × TE)} {R : List (V × V) → Hp → Prop} : tPairs ((ta, tb) :: r) σ H R = ta σ H fun x H1 => tb σ H1 fun y H2 => tPairs r σ H2 fun ps H3 => R ((x, y) :: ps) H3 := rfl
variable {i j : Int}
theorem riAdd_ap : riAdd (.int i) (.int j) H Q = Q (.int (i + j)) H := rfl
theorem riSub_ap : riSub (.int i) (.int j) H Q = Q (.int (i - j)) H := rfl
/-- the dict at d, locked while te reads it -/
theorem tLockE_ap {t : TE} : tLockE t σ H Q = ∃ d u, H d = some u ∧ Mut (some u) ∧ ∀ od, t σ (upd H d (.frz od u)) fun v H' => H' d = some (.frz od u) ∧ Q v (upd H' d u) := rfl
theorem tLock_ap : tLock t D σ H = ∃ d u, H d = some u ∧ Mut (some u) ∧ ∀ od, t ⟨fun σ' H' => H' d = some (.frz od u) ∧ D.nx σ' (upd H' d u), fun v H' => H' d = some (.frz od u) ∧ D.rt v (upd H' d u), fun σ' H' => H' d = some (.frz od u) ∧ D.bk σ' (upd H' d u), fun σ' H' => H' d = some (.frz od u) ∧ D.ct σ' (upd H' d u)⟩ σ (upd H d (.frz od u)) := rfl
/-- what walks over a dict's keys -/
def keysAt (H : Hp) (x : V) (P : L2.It → Prop) : Prop := ∃ d o, x = .ref d ∧ ((∃ kvs, H d = some (.frz o (.dK kvs)) ∧ P (Itk d o kvs)) ∨ ∃ kvs, H d = some (.frz o (.dT kvs)) ∧ P (Itkt d o kvs))
theorem tForK_ap {g : TG} : tFor (iKeys td) g t D σ H = td σ H fun v H1 => keysAt H1 v fun J => forW J g t D σ H1 := rfl
theorem tLcK_ap {g : TG} {tt : TT} {tf : TE} {vs : List Nat} : tLc (iKeys td) g tt tf vs σ H Q = td σ H fun v H1 => keysAt H1 v fun J => ∀ D, H1 D = none → lcW J g tt tf vs σ D H1 fun H' => Q (.ref D) H' := rfl
end
theorem keysK {H : Hp} {d : Addr} {o : Obj} {kvs : List (Key × V)} {P : L2.It → Prop} (h : H d = some (.frz o (.dK kvs))) (p : P (Itk d o kvs)) : keysAt H (.ref d) P := ⟨d, o, rfl, .inl ⟨kvs, h, p⟩⟩
theorem keysT {H : Hp} {d : Addr} {o : Obj} {kvs : List (List Key × V)} {P : L2.It → Prop} (h : H d = some (.frz o (.dT kvs))) (p : P (Itkt d o kvs)) : keysAt H (.ref d) P := ⟨d, o, rfl, .inr ⟨kvs, h, p⟩⟩
theorem dgI {H : Hp} {a : Addr} {kvs : List (Key × V)} {i : Int} {r : Option V} (h : H a = some (.dK kvs)) (e : valV kvs (Sum.inl i) = r) : DGet H a (.int i) r := e ▸ DGet.k (k := Sum.inl i) h
theorem dgS {H : Hp} {a : Addr} {kvs : List (Key × V)} {i : Str} {r : Option V} (h : H a = some (.dK kvs)) (e : valV kvs (Sum.inr i) = r) : DGet H a (.str i) r := e ▸ DGet.k (k := Sum.inr i) h
theorem dgRI {H : Hp} {a : Addr} {kvs : List (Key × V)} {i : Int} {r : Option V} (h : Rd H a (.dK kvs)) (e : valV kvs (Sum.inl i) = r) : DGet H a (.int i) r := .inl ⟨kvs, Sum.inl i, h, rfl, e.symm⟩
theorem dgRS {H : Hp} {a : Addr} {kvs : List (Key × V)} {i : Str} {r : Option V} (h : Rd H a (.dK kvs)) (e : valV kvs (Sum.inr i) = r) : DGet H a (.str i) r := .inl ⟨kvs, Sum.inr i, h, rfl, e.symm⟩
theorem dgRT {H : Hp} {a b : Addr} {kvs : List (List Key × V)} {k : List Key} {r : Option V} (h : Rd H a (.dT kvs)) (hb : H b = some (.tup (k.map kV))) (e : valV kvs k = r) : DGet H a (.ref b) r := .inr ⟨kvs, k, b, h, rfl, hb, e.symm⟩
theorem dpI {H : Hp} {a : Addr} {kvs : List (Key × V)} {i : Int} {v : V} (h : H a = some (.dK kvs)) (hl : kvs.length < 16777216) : DPut H a (.int i) v (upd H a (.dK (putK kvs (Sum.inl i) v))) := DPut.k (k := Sum.inl i) h (by rw [line_eq]; exact hl)
theorem dpS {H : Hp} {a : Addr} {kvs : List (Key × V)} {i : Str} {v : V} (h : H a = some (.dK kvs)) (hl : kvs.length < 16777216) : DPut H a (.str i) v (upd H a (.dK (putK kvs (Sum.inr i) v))) := DPut.k (k := Sum.inr i) h (by rw [line_eq]; exact hl)
theorem dpT {H : Hp} {a b : Addr} {kvs : List (List Key × V)} {k : List Key} {v : V} (h : H a = some (.dT kvs)) (hb : H b = some (.tup (k.map kV))) (hl : kvs.length < 16777216) : DPut H a (.ref b) v (upd H a (.dT (putK kvs k v))) := DPut.t h hb (by rw [line_eq]; exact hl)
/-! ### int, list, tuple, sorted as calls -/
def rInt1 (xs : List V) (H : Hp) (Q : VK) : Prop := match xs with
  | [.int i] => Q (.int i) H
  | [.bl k] => Q (.int (if k then 1 else 0)) H
  | _ => False
theorem rInt1_i {i : Int} {H : Hp} {Q : VK} : rInt1 [.int i] H Q = Q (.int i) H := rfl
theorem rInt1_b {k : Bool} {H : Hp} {Q : VK} : rInt1 [.bl k] H Q = Q (.int (if k then 1 else 0)) H := rfl
section
variable {X : Cx} {K : PySem.W.Frag}
theorem y_int1 : CallR X (.type "int") rInt1 := call_weak call_int1 fun xs H Q q => by
  unfold rInt1 at q
  split at q
  · exact .inl ⟨_, rfl, q⟩
  · exact .inr ⟨_, rfl, q⟩
  · exact q.elim
def rListC (K : PySem.W.Frag) (xs : List V) (H : Hp) (Q : VK) : Prop := match xs with
  | [.ref p] => ∃ ys, (SqL K H p ys ∨ SqT K H p ys) ∧ ∀ l, H l = none → Q (.ref l) (upd H l (.lst ys))
  | _ => False
theorem y_list (hK : X.K = K := by rfl) : CallR X (.type "list") (rListC K) := by
  subst hK
  refine call_weak call_list_of fun xs H Q q => ?_
  unfold rListC at q
  split at q
  · obtain ⟨ys, h, q⟩ := q
    exact ⟨_, ys, rfl, h, q⟩
  · exact q.elim
theorem rListC_ap {p : Addr} {H : Hp} {Q : VK} : rListC K [.ref p] H Q = ∃ ys, (SqL K H p ys ∨ SqT K H p ys) ∧ ∀ l, H l = none → Q (.ref l) (upd H l (.lst ys)) := rfl
/-- sorted(d) of a dict whose keys are ints, any number of them -/
theorem y_sortedDI (hcalm : X.calm = true) : CallR X (.builtin "sorted") (fun xs H Q => ∃ (a : Addr) (kvs : List (Key × V)) (ks : List Int), xs = [.ref a] ∧ Rd H a (.dK kvs) ∧ kvs.map (·.1) = ks.map Sum.inl ∧
    ∀ (ys : List Int) (p : Addr), ys.Perm ks → ys.Pairwise (· ≤ ·) → H p = none → Q (.ref p) (upd H p (.lst (ys.map V.int)))) := by
  intro pins s σ H xs us Q I r q
  obtain ⟨a, kvs, ks, ex, hd, hks, q⟩ := q
  subst ex
  obtain ⟨u, eu, rx⟩ := vals1 r
  subst eu
  cases rx
  obtain ⟨z, lo, vs, rel, dd⟩ := dk_rd I.hok hd
  obtain ⟨ep, hat⟩ := dd.dictAt
  have hkeys : vs.map (·.1) = ks.map Sum.inl := rel.keys.symm.trans hks
  have hl : vs.length = ks.length := by
    have e := congrArg List.length hkeys
    rw [List.length_map, List.length_map] at e
    exact e
  have h16 : vs.length ≤ sizeLine := by rw [← rel.length]; exact z
  refine Calls.call_function_entry PyProof.Rows.kind_sorted PyProof.Rows.plain_sorted PyProof.Rows.entry_sorted (PyProof.Rows.args_sorted1 _) ?_
  unfold Builtin.«sorted»
  refine wpAny_bind (m := checkCount "sorted" 1 1 _) (wpAny_pure ?_)
  refine wpAny_bind (PySem.W.kdu_collect (A := X.A.in1) (PySem.W.kdl_dict (knd := mixKind X.prog X.w) (kvs := vs) (ep := ep) lo) (I.ok.hd hcalm) hat h16 fun h' tk acc hk hacc => ?_)
  have hal : acc.toList.length = ks.length := by rw [Array.length_toList, hacc.1, hl]
  have hS : IntsAre acc.toList ks := ints_each hal fun j v e => by
    obtain ⟨k, x, e1, e2⟩ := hacc.2 j v (by rw [← Array.getElem?_toList]; exact e)
    have e3 : (vs.map (·.1))[j]? = some k := by rw [List.getElem?_map, e1]; rfl
    rw [hkeys, List.getElem?_map] at e3
    cases e4 : ks[j]? with
    | none => rw [e4] at e3; cases e3
    | some y =>
      rw [e4] at e3
      have e5 : Sum.inl y = k := Option.some.inj e3
      subst e5
      rcases keyIs_shape (show keyIs (Sum.inl y) v = true from e2) with ⟨i, t, ek, ev⟩ | ⟨z, t, ek, ev⟩
      · cases ek
        exact ⟨y, t, rfl, ev⟩
      · cases ek
  have I1 : L2.Inv X pins σ H { s with heap := h', toks := tk } := I.kept hk
  have hz : acc.toList.length ≤ sizeLine := by rw [hal, ← hl]; exact h16
  refine wpAny_bind (wpAny_newList ?_ hz)
  have hoL : (h'.push (seqObj "list" acc.toList.toArray 0)).get? h'.objs.size = some (seqObj "list" acc.toList.toArray 0) := Heap.get?_push_size _ rfl
  show wpAny _ _ _ _ _ { s with heap := h'.push (seqObj "list" acc.toList.toArray 0), toks := tk }
  refine wpAny_bind (wpAny_holding (wpAny_call_entry PyProof.Rows.slot_list_sort ⟨_, hoL, rfl⟩ PyProof.Rows.entry_list_sort
    (SrtO.list_sort_ord (s := { s with heap := h'.push (seqObj "list" acc.toList.toArray 0), toks := tk }) SrtO.swo_int hoL hz (fun h2 => SrtO.ints_sortable hS h2) fun out h1 h2 => ⟨_, rfl, ?_⟩) (PyProof.Rows.args_list_sort _)))
  obtain ⟨k1, k2, k3⟩ := SrtO.ints_out hS h1 h2
  obtain ⟨e', he'⟩ := PyProof.Rows.sortedHeap_at (vs := acc.toList) (out := out.toArray) hoL
  have hlen : ((out.map SrtO.iv).map V.int).length ≤ sizeLine := by
    rw [List.length_map, k2.length_eq, ← hl]
    exact h16
  refine wpAny_pure ⟨_, rfl, .ref h'.objs.size, upd H h'.objs.size (.lst ((out.map SrtO.iv).map V.int)), I1.laid (t' := tk) (fun b u e => ?_) (Nat.le_refl _)
    (show ObjOk X.prog X.w _ _ _ (.lst ((out.map SrtO.iv).map V.int)) from ⟨hlen, out, e', vals_of_ints k1, he'⟩), rfl, q _ _ k2 k3 (I1.hok.fresh (Nat.le_refl _))⟩
  have hb : b < h'.objs.size := Heap.lt_size e
  rw [PyProof.Rows.sortedHeap_old (Nat.ne_of_lt hb) (by rw [size_push']; exact Nat.lt_succ_of_lt hb)]
  exact Heap.get?_push_of_some _ e
end

/-- sep.join(xs), for a K that is told -/
def tJoin (K : PySem.W.Frag) (ta tb : TE) : TE := fun σ H Q => ta σ H fun x H1 => asStr x fun a => tb σ H1 fun y H2 => asRef y fun p => ∃ ys : List Str, (SqL K H2 p (ys.map V.str) ∨ SqT K H2 p (ys.map V.str)) ∧ (ys.map (·.length)).sum + ys.length * a.length ≤ 16777216 ∧ Q (.str (Txt.join a ys)) H2
theorem tJoin_ap {K : PySem.W.Frag} {ta tb : TE} {σ : L2.St} {H : Hp} {Q : VK} : tJoin K ta tb σ H Q = ta σ H fun x H1 => asStr x fun a => tb σ H1 fun y H2 => asRef y fun p => ∃ ys : List Str, (SqL K H2 p (ys.map V.str) ∨ SqT K H2 p (ys.map V.str)) ∧ (ys.map (·.length)).sum + ys.length * a.length ≤ 16777216 ∧ Q (.str (Txt.join a ys)) H2 := rfl
theorem y_join {X : Cx} {K : PySem.W.Frag} {o e : Expr} {to te : TE} {apos pos : Pos} (ho : PE X o to) (he : PE X e te) (hs : starEach [e] X.env = [(false, eval e X.env)] := by rfl) (hbase : attributeBase o "join" X.env (eval o X.env) = eval o X.env := by rfl) (hline : (apos.endLine == pos.line) = true := by rfl) (hK : X.K = K := by rfl) :
    PE X (.Call (.Attribute o "join" apos) [e] [] pos) (tJoin K to te) := by
  subst hK
  refine ⟨fun pins s σ H Q I h => (pe_join ho he hs hbase hline).run pins s σ H Q I ?_⟩
  show to σ H _
  have h' : to σ H fun x H1 => asStr x fun a => te σ H1 fun y H2 => asRef y fun p => ∃ ys : List Str, (SqL X.K H2 p (ys.map V.str) ∨ SqT X.K H2 p (ys.map V.str)) ∧ (ys.map (·.length)).sum + ys.length * a.length ≤ 16777216 ∧ Q (.str (Txt.join a ys)) H2 := h
  have e1 : (fun (x : V) (H1 : Hp) => asStr x fun a => te σ H1 fun y H2 => asRef y fun p => ∃ ys : List Str, (SqL X.K H2 p (ys.map V.str) ∨ SqT X.K H2 p (ys.map V.str)) ∧ (ys.map (·.length)).sum + ys.length * a.length ≤ 16777216 ∧ Q (.str (Txt.join a ys)) H2) =
      fun x H1 => (∃ a, x = .str a) ∧ te σ H1 fun y H2 => ∃ a p, ∃ ys : List Str, x = .str a ∧ [y] = [V.ref p] ∧ (SqL X.K H2 p (ys.map V.str) ∨ SqT X.K H2 p (ys.map V.str)) ∧ (ys.map (·.length)).sum + ys.length * a.length ≤ 16777216 ∧ Q (.str (Txt.join a ys)) H2 := by
    funext x H1
    rw [asStr_ex]
    apply propext
    constructor
    · rintro ⟨a, ex, q⟩
      subst ex
      refine ⟨⟨a, rfl⟩, ?_⟩
      have e2 : (fun (y : V) (H2 : Hp) => asRef y fun p => ∃ ys : List Str, (SqL X.K H2 p (ys.map V.str) ∨ SqT X.K H2 p (ys.map V.str)) ∧ (ys.map (·.length)).sum + ys.length * a.length ≤ 16777216 ∧ Q (.str (Txt.join a ys)) H2) =
          fun y H2 => ∃ a' p, ∃ ys : List Str, V.str a = .str a' ∧ [y] = [V.ref p] ∧ (SqL X.K H2 p (ys.map V.str) ∨ SqT X.K H2 p (ys.map V.str)) ∧ (ys.map (·.length)).sum + ys.length * a'.length ≤ 16777216 ∧ Q (.str (Txt.join a' ys)) H2 := by
        funext y H2
        rw [asRef_ex]
        apply propext
        constructor
        · rintro ⟨p, ey, ys, h1, h2, h3⟩
          subst ey
          exact ⟨a, p, ys, rfl, rfl, h1, h2, h3⟩
        · rintro ⟨a', p, ys, ea, ey, h1, h2, h3⟩
          cases ea
          cases ey
          exact ⟨p, rfl, ys, h1, h2, h3⟩
      rw [← e2]
      exact q
    · rintro ⟨⟨a, ex⟩, q⟩
      subst ex
      refine ⟨a, rfl, ?_⟩
      have e2 : (fun (y : V) (H2 : Hp) => asRef y fun p => ∃ ys : List Str, (SqL X.K H2 p (ys.map V.str) ∨ SqT X.K H2 p (ys.map V.str)) ∧ (ys.map (·.length)).sum + ys.length * a.length ≤ 16777216 ∧ Q (.str (Txt.join a ys)) H2) =
          fun y H2 => ∃ a' p, ∃ ys : List Str, V.str a = .str a' ∧ [y] = [V.ref p] ∧ (SqL X.K H2 p (ys.map V.str) ∨ SqT X.K H2 p (ys.map V.str)) ∧ (ys.map (·.length)).sum + ys.length * a'.length ≤ 16777216 ∧ Q (.str (Txt.join a' ys)) H2 := by
        funext y H2
        rw [asRef_ex]
        apply propext
        constructor
        · rintro ⟨p, ey, ys, h1, h2, h3⟩
          subst ey
          exact ⟨a, p, ys, rfl, rfl, h1, h2, h3⟩
        · rintro ⟨a', p, ys, ea, ey, h1, h2, h3⟩
          cases ea
          cases ey
          exact ⟨p, rfl, ys, h1, h2, h3⟩
      rw [e2]
      exact q
  rw [e1] at h'
  exact h'
theorem join_one (a : Str) : Txt.join (st []) [a] = a := by
  have h := join_txt [a.cps.toList]
  simpa [st_codes] using h
theorem same_grow {H H' : Hp} {a : Addr} {o : HO} (s : Same H H') (h : H a = none) : Same H (upd H' a o) := fun b u e => by
  rw [upd_ne (ne_of_none e h)]
  exact s b u e

/-! ### dicts walked -/
theorem lock_same {H H' : Hp} {d : Addr} {u : HO} {od : Obj} (h : H d = some u) (s : Same (upd H d (.frz od u)) H') : Same H (upd H' d u) := fun b o e => by
  by_cases z : b = d
  · subst z
    rw [upd_same, ← h, e]
  · rw [upd_ne z]
    exact s b o (by rw [upd_ne z]; exact e)
theorem lock_get {H' : Hp} {d a : Addr} {u o : HO} {od : Obj} (hd : H' d = some (.frz od u)) (h : H' a = some o) (hn : ∀ o' u', o ≠ .frz o' u') : upd H' d u a = some o := by
  rw [upd_ne (fun z => by
    rw [z, hd] at h
    exact hn _ _ (Option.some.inj h).symm)]
  exact h
theorem walk_keysL {d : Addr} {o : Obj} {kvs : List (Key × V)} : Walk (Itk d o kvs) kvs.length (fun H => H d = some (.frz o (.dK kvs))) (fun i H x H' => H' = H ∧ x = (kvs.map fun kv => kV kv.1).getD i .non) :=
  ⟨fun _ _ hi q => ⟨q, hi⟩, fun _ q => ⟨q, Nat.le_refl _⟩, fun i _ _ _ _ _ y => by
    obtain ⟨e, k, v, h1, h2⟩ := y
    refine ⟨e, ?_⟩
    rw [List.getD_eq_getElem?_getD, List.getElem?_map, h1, h2]
    rfl⟩
theorem range_fm {α β : Type} (f : α → Option β) : ∀ (l : List α) (g : Nat → Option β), (∀ i (h : i < l.length), g i = f l[i]) → (List.range l.length).filterMap g = l.filterMap f := by
  intro l
  induction l with
  | nil => intro g _; rfl
  | cons a r ih =>
    intro g h
    rw [List.length_cons, List.range_succ_eq_map, List.filterMap_cons, List.filterMap_cons, List.filterMap_map]
    rw [h 0 (by simp)]
    have := ih (g ∘ Nat.succ) (fun i hi => h (i + 1) (by simpa using hi))
    show (match f a with | none => _ | some b => b :: _) = _
    cases f a <;> simp [this]
/-- [e for k in d if t] over a locked dict -/
theorem lc_keysK {α : Type} {l : List α} {key : α → Key} {val : α → V} {d : Addr} {o : Obj} {s : Nat} {tt : TT} {te : TE} {σ : L2.St} {D : Addr} {H1 : Hp} {Qd : Hp → Prop} (f : α → Option V) (hk : H1 d = some (.frz o (.dK (l.map fun i => (key i, val i))))) (hD : H1 D = none) (hn : l.length < 16777216)
    (hs : ∀ (a : α) (H : Hp), a ∈ l → Same H1 H → ∀ (Ny : V → Hp → Prop) (Nn : Hp → Prop), (∀ y H4, Same H H4 → f a = some y → Ny y H4) → (∀ H3, Same H H3 → f a = none → Nn H3) → tt (σ.set s (some (kV (key a)))) H fun b H3 => br b (te (σ.set s (some (kV (key a)))) H3 Ny) (Nn H3))
    (hd : ∀ H, Same H1 H → H D = some (.lst (l.filterMap f)) → Qd H) : lcW (Itk d o (l.map fun i => (key i, val i))) (gName s) tt te [s] σ D H1 Qd := by
  have hlen : (l.map fun i => (key i, val i)).length = l.length := List.length_map _
  have hg : ∀ i (h : i < l.length), ((l.map fun i => (key i, val i)).map fun kv => kV kv.1).getD i .non = kV (key l[i]) := fun i h => by
    rw [List.getD_eq_getElem?_getD, List.getElem?_map, List.getElem?_map, List.getElem?_eq_getElem h]
    rfl
  refine lc_gen (n := (l.map fun i => (key i, val i)).length) walk_keysL (fun i => if h : i < l.length then f l[i] else none) hD (by rw [hlen]; exact hn) (fun H s4 => s4 _ _ hk) (fun i H hi sm Ny Nn h1 h2 => ?_) (fun H sm h => hd H sm ?_)
  · rw [hlen] at hi
    rw [hg i hi]
    refine hs l[i] H (List.getElem_mem hi) sm Ny Nn (fun y H4 s4 e => h1 y H4 s4 (by rw [dif_pos hi]; exact e)) (fun H3 s3 e => h2 H3 s3 (by rw [dif_pos hi]; exact e))
  · rw [h, hlen]
    rw [range_fm f l _ (fun i hi => by rw [dif_pos hi])]

theorem flatB_of {v : V} (h : plainV v = true) : (∃ i, v = V.int i) ∨ ∃ s, v = V.str s := by
  cases v <;> first | (cases h; done) | skip
  · exact .inl ⟨_, rfl⟩
  · exact .inr ⟨_, rfl⟩
theorem plain_ints (ns : List Nat) : ((ns.map natV)).all plainV = true := plain_nat ns

theorem frMade {H H1 : Hp} {x dx C : Addr} {F : List Addr} (nx : H x = none) (ndx : H dx = none) (hF : ∀ a ∈ F, a = x) (s : Fr F (upd (upd H dx (.own x)) x (.ins C dx [])) H1) : Fr [] H H1 := by
  have s0 : Same H (upd (upd H dx (.own x)) x (.ins C dx [])) := same_grow (same_new ndx) nx
  have t0 : Fr F H (upd (upd H dx (.own x)) x (.ins C dx [])) := frS s0
  have t1 := t0.trans s
  exact ⟨fun b o hb _ n => t1.keep b o hb (fun z => by rw [hF b z, nx] at hb; cases hb) n, t1.tabs, t1.live⟩
theorem made_none {H : Hp} {x dx C a : Addr} (nx : H x = none) (ndx : H dx = none) (h : upd (upd H dx (.own x)) x (.ins C dx []) a = none) : H a = none := (same_grow (same_new ndx) nx : Same H _).free h
theorem sqlFr {K : PySem.W.Frag} {F : List Addr} {H H' : Hp} {a : Addr} {xs : List V} (h : SqL K H a xs) (s : Fr F H H') (n : a ∉ F) : SqL K H' a xs := by
  rcases h with h | h
  · left
    rcases h with h | ⟨o, h⟩
    · exact .inl (s.keep _ _ h n rfl)
    · exact .inr ⟨o, s.keep _ _ h n rfl⟩
  · exact .inr h

theorem brT_join {b : Bool} {tA tB : TT} {σ : L2.St} {H : Hp} {R : Bool → Hp → Prop} (P : Bool → Hp → Prop) (hk : ∀ c H, P c H → R c H) (h : ∀ R' : Bool → Hp → Prop, (∀ c H, P c H → R' c H) → brT b tA tB σ H R') : brT b tA tB σ H R := h R hk
theorem brE_join {b : Bool} {tA tB : TE} {σ : L2.St} {H : Hp} {Q : VK} (P : V → Hp → Prop) (hk : ∀ c H, P c H → Q c H) (h : ∀ Q' : VK, (∀ c H, P c H → Q' c H) → brE b tA tB σ H Q') : brE b tA tB σ H Q := h Q hk
end Y
set_option Elab.async false
set_option linter.all false
set_option maxRecDepth 100000
/-! Mathematics without Python: lists of pairs as dicts, the stock. -/
namespace Y
open PySem PySem.Spec PyProof.Rows L2

/-! ### a dict made of a list -/
section
variable {α κ : Type} [DecidableEq κ] {key : α → κ} {val : α → V} {k : κ} {v : V}
def mp (key : α → κ) (val : α → V) (l : List α) : List (κ × V) := l.map fun i => (key i, val i)
theorem valV_mp : ∀ l : List α, valV (mp key val l) k = (l.find? fun i => decide (key i = k)).map val
  | [] => rfl
  | a :: r => by
    have ih := valV_mp r
    by_cases e : key a = k
    · rw [List.find?_cons_of_pos (by simpa using e)]
      exact valV_pos (p := (key a, val a)) (r := mp key val r) e
    · rw [List.find?_cons_of_neg (by simpa using e), ← ih]
      exact valV_neg (p := (key a, val a)) (r := mp key val r) e
theorem putK_mp_new {l : List α} (h : (l.find? fun i => decide (key i = k)) = none) : putK (mp key val l) k v = mp key val l ++ [(k, v)] := putK_new _ (by rw [valV_mp, h]; rfl)
theorem any_of_val {kvs : List (κ × V)} {x : V} (h : valV kvs k = some x) : (kvs.any fun kv => decide (kv.1 = k)) = true := by rw [valV_any, h]; rfl
theorem putK_at {kvs : List (κ × V)} {x : V} (h : valV kvs k = some x) : putK kvs k v = kvs.map fun kv => if kv.1 = k then (kv.1, v) else kv := by
  unfold putK
  rw [if_pos (any_of_val h)]
theorem putK_mp_at {l : List α} {i : α} (h : (l.find? fun i => decide (key i = k)) = some i) : putK (mp key val l) k v = mp key (fun i => if key i = k then v else val i) l := by
  rw [putK_at (x := val i) (by rw [valV_mp, h]; rfl)]
  unfold mp
  rw [List.map_map]
  apply List.map_congr_left
  intro j _
  show (if key j = k then (key j, v) else (key j, val j)) = _
  by_cases e : key j = k
  · simp [e]
  · simp [e]
theorem dropK_mp (l : List α) : dropK (mp key val l) k = mp key val (l.filter fun i => decide (key i ≠ k)) := by
  unfold dropK mp
  rw [List.filter_map]
  rfl
theorem mp_keys (l : List α) : (mp key val l).map (·.1) = l.map key := by
  unfold mp
  rw [List.map_map]
  rfl
theorem mp_len (l : List α) : (mp key val l).length = l.length := List.length_map _
theorem mp_snoc (l : List α) (a : α) : mp key val (l ++ [a]) = mp key val l ++ [(key a, val a)] := by
  unfold mp
  rw [List.map_append]
  rfl
theorem mp_map {β : Type} (f : β → α) (l : List β) : mp key val (l.map f) = mp (fun b => key (f b)) (fun b => val (f b)) l := by
  unfold mp
  rw [List.map_map]
  rfl
theorem mp_congr {key' : α → κ} {val' : α → V} {l : List α} (h : ∀ a ∈ l, key a = key' a ∧ val a = val' a) : mp key val l = mp key' val' l := by
  unfold mp
  apply List.map_congr_left
  intro a ha
  rw [(h a ha).1, (h a ha).2]
end
theorem find_inj {α κ : Type} [DecidableEq κ] {key : α → κ} : ∀ {l : List α} {a : α}, (l.map key).Nodup → a ∈ l → (l.find? fun i => decide (key i = key a)) = some a
  | [], _, _, h => by cases h
  | b :: r, a, nd, h => by
    rw [List.map_cons, List.nodup_cons] at nd
    rcases List.mem_cons.mp h with e | h
    · subst e
      exact List.find?_cons_of_pos (by simp)
    · rw [List.find?_cons_of_neg]
      · exact find_inj nd.2 h
      · intro z
        have z' : key b = key a := by simpa using z
        exact nd.1 (List.mem_map.mpr ⟨a, h, z'.symm⟩)
theorem find_mem {α κ : Type} [DecidableEq κ] {key : α → κ} {l : List α} {k : κ} {a : α} (h : (l.find? fun i => decide (key i = k)) = some a) : a ∈ l ∧ key a = k :=
  ⟨List.mem_of_find?_eq_some h, by simpa using List.find?_some h⟩
theorem find_no {α κ : Type} [DecidableEq κ] {key : α → κ} {l : List α} {k : κ} : (l.find? fun i => decide (key i = k)) = none ↔ ∀ a ∈ l, key a ≠ k := by
  rw [List.find?_eq_none]
  constructor
  · intro h a ha e
    exact h a ha (by simpa using e)
  · intro h a ha e
    exact h a ha (by simpa using e)
theorem filter_none {α : Type} {p : α → Bool} {l : List α} (h : ∀ a ∈ l, p a = true) : l.filter p = l := List.filter_eq_self.mpr h
theorem nodup_inj {α β : Type} {f : α → β} {l : List α} (nd : (l.map f).Nodup) {a b : α} (ha : a ∈ l) (hb : b ∈ l) (e : f a = f b) : a = b := by
  induction l with
  | nil => cases ha
  | cons c r ih =>
    rw [List.map_cons, List.nodup_cons] at nd
    rcases List.mem_cons.mp ha with e1 | ha1
    · rcases List.mem_cons.mp hb with e2 | hb1
      · rw [e1, e2]
      · exact (nd.1 (List.mem_map.mpr ⟨b, hb1, by rw [← e1, e]⟩)).elim
    · rcases List.mem_cons.mp hb with e2 | hb1
      · exact (nd.1 (List.mem_map.mpr ⟨a, ha1, by rw [← e2, e]⟩)).elim
      · exact ih nd.2 ha1 hb1
/-- ints in order, one way alone -/
theorem perm_sorted {l m : List Int} (h : l.Perm m) (hl : l.Pairwise (· ≤ ·)) (hm : m.Pairwise (· ≤ ·)) : l = m := h.eq_of_pairwise (fun _ _ _ _ h1 h2 => Int.le_antisymm h1 h2) hl hm

/-! ### the stock -/
/-- a piece: its number, its text, its count -/
structure Pc where
  num : Nat
  txt : List Nat
  cnt : Nat
structure StM where
  last : Nat
  its : List Pc
def Pc.ik (i : Pc) : Key := Sum.inl (i.num : Int)
def Pc.tk (i : Pc) : Key := Sum.inr (st i.txt)
theorem Pc.ik_inj {i : Pc} {n : Nat} : i.ik = Sum.inl (n : Int) ↔ i.num = n := by
  unfold Pc.ik
  constructor
  · intro h
    have := Sum.inl.inj h
    omega
  · intro h
    rw [h]
theorem Pc.tk_inj {i : Pc} {t : List Nat} : i.tk = Sum.inr (st t) ↔ i.txt = t := by
  unfold Pc.tk
  constructor
  · intro h
    exact st_inj.mp (Sum.inr.inj h)
  · intro h
    rw [h]
structure StM.Ok (S : StM) : Prop where
  asc : (S.its.map (·.num)).Pairwise (· < ·)
  pos : ∀ i ∈ S.its, 1 ≤ i.num ∧ i.num ≤ S.last
  ntx : (S.its.map (·.txt)).Nodup
  cnt : ∀ i ∈ S.its, 1 ≤ i.cnt
def StM.byN (S : StM) (n : Int) : Option Pc := S.its.find? fun i => decide (i.ik = Sum.inl n)
def StM.byT (S : StM) (t : List Nat) : Option Pc := S.its.find? fun i => decide (i.tk = Sum.inr (st t))
def StM.put (S : StM) (n : Nat) (t : List Nat) (c : Nat) : StM := ⟨S.last, S.its ++ [⟨n, t, c⟩]⟩
/-- the counts at a number changed -/
def StM.at (S : StM) (n : Nat) (d : Nat → Nat) : StM := ⟨S.last, S.its.map fun i => if i.num = n then ⟨i.num, i.txt, d i.cnt⟩ else i⟩
def StM.out (S : StM) (n : Nat) : StM := ⟨S.last, S.its.filter fun i => decide (i.num ≠ n)⟩
def StM.need (S : StM) (t : List Nat) : StM × Nat := match S.byT t with
  | some i => (S.at i.num (· + 1), i.num)
  | none => (StM.at ⟨S.last + 1, S.its ++ [⟨S.last + 1, t, 0⟩]⟩ (S.last + 1) (· + 1), S.last + 1)
def StM.free (S : StM) (i : Pc) : StM := if i.cnt = 1 then (S.at i.num (· - 1)).out i.num else S.at i.num (· - 1)
theorem asc_nodup {l : List Nat} (h : l.Pairwise (· < ·)) : l.Nodup := h.imp fun h => Nat.ne_of_lt h
theorem StM.Ok.nn {S : StM} (h : S.Ok) : (S.its.map (·.num)).Nodup := asc_nodup h.asc
theorem StM.Ok.nk {S : StM} (h : S.Ok) : (S.its.map Pc.ik).Nodup := by
  have := h.nn
  rw [List.nodup_iff_pairwise_ne, List.pairwise_map] at this ⊢
  exact this.imp fun {a b} h e => h (by
    unfold Pc.ik at e
    have := Sum.inl.inj e
    omega)
theorem StM.Ok.nt {S : StM} (h : S.Ok) : (S.its.map Pc.tk).Nodup := by
  have := h.ntx
  rw [List.nodup_iff_pairwise_ne, List.pairwise_map] at this ⊢
  exact this.imp fun {a b} h e => h (st_inj.mp (Sum.inr.inj e))
theorem StM.byN_some {S : StM} {n : Int} {i : Pc} (h : S.byN n = some i) : i ∈ S.its ∧ (i.num : Int) = n := by
  obtain ⟨h1, h2⟩ := find_mem h
  exact ⟨h1, Sum.inl.inj h2⟩
theorem StM.byT_some {S : StM} {t : List Nat} {i : Pc} (h : S.byT t = some i) : i ∈ S.its ∧ i.txt = t := by
  obtain ⟨h1, h2⟩ := find_mem h
  exact ⟨h1, Pc.tk_inj.mp h2⟩
theorem StM.byN_of {S : StM} (h : S.Ok) {i : Pc} (m : i ∈ S.its) : S.byN i.num = some i := find_inj (key := Pc.ik) h.nk m
theorem StM.byT_of {S : StM} (h : S.Ok) {i : Pc} (m : i ∈ S.its) : S.byT i.txt = some i := find_inj (key := Pc.tk) h.nt m
theorem StM.byN_none {S : StM} {n : Int} (h : S.byN n = none) : ∀ i ∈ S.its, (i.num : Int) ≠ n := fun i hi e => find_no.mp h i hi (by unfold Pc.ik; rw [e])
theorem StM.byT_none {S : StM} {t : List Nat} (h : S.byT t = none) : ∀ i ∈ S.its, i.txt ≠ t := fun i hi e => find_no.mp h i hi (Pc.tk_inj.mpr e)
theorem at_num (S : StM) (n : Nat) (d : Nat → Nat) : (S.at n d).its.map (·.num) = S.its.map (·.num) := by
  unfold StM.at
  rw [List.map_map]
  apply List.map_congr_left
  intro i _
  show (if i.num = n then _ else i : Pc).num = i.num
  split <;> rfl
theorem at_txt (S : StM) (n : Nat) (d : Nat → Nat) : (S.at n d).its.map (·.txt) = S.its.map (·.txt) := by
  unfold StM.at
  rw [List.map_map]
  apply List.map_congr_left
  intro i _
  show (if i.num = n then _ else i : Pc).txt = i.txt
  split <;> rfl
theorem mem_at {S : StM} {n : Nat} {d : Nat → Nat} {i : Pc} (h : i ∈ (S.at n d).its) : ∃ j ∈ S.its, i.num = j.num ∧ i.txt = j.txt ∧ i.cnt = if j.num = n then d j.cnt else j.cnt := by
  obtain ⟨j, hj, e⟩ := List.mem_map.mp h
  refine ⟨j, hj, ?_⟩
  subst e
  split <;> simp_all
theorem StM.Ok.at {S : StM} (h : S.Ok) (n : Nat) (d : Nat → Nat) (hd : ∀ i ∈ S.its, i.num = n → 1 ≤ d i.cnt) : (S.at n d).Ok := by
  refine ⟨by rw [at_num]; exact h.asc, fun i hi => ?_, by rw [at_txt]; exact h.ntx, fun i hi => ?_⟩
  · obtain ⟨j, hj, e1, _, _⟩ := mem_at hi
    rw [e1]
    exact h.pos j hj
  · obtain ⟨j, hj, e1, _, e2⟩ := mem_at hi
    rw [e2]
    split
    · rename_i z
      exact hd j hj z
    · exact h.cnt j hj
theorem StM.Ok.add {S : StM} (h : S.Ok) {t : List Nat} (hn : S.byT t = none) (c : Nat) (hc : 1 ≤ c) : (StM.mk (S.last + 1) (S.its ++ [⟨S.last + 1, t, c⟩])).Ok := by
  refine ⟨?_, fun i hi => ?_, ?_, fun i hi => ?_⟩
  · show ((S.its ++ [(⟨S.last + 1, t, c⟩ : Pc)]).map (·.num)).Pairwise (· < ·)
    rw [List.map_append, List.pairwise_append]
    refine ⟨h.asc, List.pairwise_singleton _ _, fun (a : Nat) ha (b : Nat) hb => ?_⟩
    obtain ⟨i, hi, e⟩ := List.mem_map.mp ha
    have hb' : b = S.last + 1 := by simpa using hb
    have := (h.pos i hi).2
    omega
  · rcases List.mem_append.mp hi with hi | hi
    · have := h.pos i hi
      exact ⟨this.1, Nat.le_succ_of_le this.2⟩
    · have e : i = ⟨S.last + 1, t, c⟩ := by simpa using hi
      subst e
      exact ⟨Nat.succ_pos _, Nat.le_refl _⟩
  · show ((S.its ++ [(⟨S.last + 1, t, c⟩ : Pc)]).map (·.txt)).Nodup
    rw [List.map_append, List.nodup_append]
    refine ⟨h.ntx, by simp, fun (a : List Nat) ha (b : List Nat) hb e => ?_⟩
    obtain ⟨i, hi, e2⟩ := List.mem_map.mp ha
    have hb' : b = t := by simpa using hb
    exact StM.byT_none hn i hi (by rw [e2, e, hb'])
  · rcases List.mem_append.mp hi with hi | hi
    · exact h.cnt i hi
    · have e : i = ⟨S.last + 1, t, c⟩ := by simpa using hi
      subst e
      exact hc
theorem nn_add {S : StM} (h : S.Ok) {t : List Nat} (hn : S.byT t = none) : ((S.its ++ [(⟨S.last + 1, t, 0⟩ : Pc)]).map (·.num)).Nodup := by
  have := (h.add hn 1 (Nat.le_refl _)).nn
  rw [List.map_append] at this ⊢
  exact this
theorem at_add {S : StM} (h : S.Ok) (t : List Nat) : StM.at ⟨S.last + 1, S.its ++ [⟨S.last + 1, t, 0⟩]⟩ (S.last + 1) (· + 1) = ⟨S.last + 1, S.its ++ [⟨S.last + 1, t, 1⟩]⟩ := by
  unfold StM.at
  rw [List.map_append]
  congr 2
  · conv => rhs; rw [← List.map_id S.its]
    apply List.map_congr_left
    intro i hi
    have := (h.pos i hi).2
    rw [if_neg (by omega)]
    rfl
  · simp
theorem byT_add {S : StM} {t : List Nat} {n c g : Nat} (h : S.byT t = none) : StM.byT ⟨g, S.its ++ [⟨n, t, c⟩]⟩ t = some ⟨n, t, c⟩ := by
  unfold StM.byT
  rw [List.find?_append]
  have h' : S.its.find? (fun i => decide (i.tk = Sum.inr (st t))) = none := h
  show (S.its.find? (fun i => decide (i.tk = Sum.inr (st t)))).or _ = _
  rw [h', Option.none_or]
  exact List.find?_cons_of_pos (by simp [Pc.tk])
theorem byN_add {S : StM} {t : List Nat} {n c g : Nat} (h : S.byN n = none) : StM.byN ⟨g, S.its ++ [⟨n, t, c⟩]⟩ n = some ⟨n, t, c⟩ := by
  unfold StM.byN
  rw [List.find?_append]
  have h' : S.its.find? (fun i => decide (i.ik = Sum.inl (n : Int))) = none := h
  show (S.its.find? (fun i => decide (i.ik = Sum.inl (n : Int)))).or _ = _
  rw [h', Option.none_or]
  exact List.find?_cons_of_pos (by simp [Pc.ik])
theorem StM.Ok.fresh {S : StM} (h : S.Ok) : S.byN ((S.last + 1 : Nat) : Int) = none := find_no.mpr fun i hi e => by
  have := (h.pos i hi).2
  have e' := Pc.ik_inj.mp e
  omega
theorem StM.Ok.need {S : StM} (h : S.Ok) (t : List Nat) : (S.need t).1.Ok := by
  unfold StM.need
  split
  · exact h.at _ _ fun i _ _ => Nat.succ_pos _
  · rename_i e
    rw [at_add h]
    exact h.add e 1 (Nat.le_refl _)
theorem StM.Ok.out {S : StM} (h : S.Ok) (n : Nat) : (S.out n).Ok := by
  have sub : (S.out n).its.Sublist S.its := List.filter_sublist
  exact ⟨h.asc.sublist (sub.map _), fun i hi => h.pos i (sub.subset hi), h.ntx.sublist (sub.map _), fun i hi => h.cnt i (sub.subset hi)⟩
theorem out_at (S : StM) (n : Nat) (d : Nat → Nat) : (S.at n d).out n = S.out n := by
  unfold StM.out StM.at
  congr 1
  rw [List.filter_map]
  have : S.its.filter ((fun i => decide (i.num ≠ n)) ∘ fun i => if i.num = n then ⟨i.num, i.txt, d i.cnt⟩ else i) = S.its.filter fun i => decide (i.num ≠ n) := by
    apply List.filter_congr
    intro i _
    show decide ((if i.num = n then _ else i : Pc).num ≠ n) = _
    split <;> rfl
  rw [this]
  conv => rhs; rw [← List.map_id (S.its.filter _)]
  apply List.map_congr_left
  intro i hi
  have := of_decide_eq_true (List.mem_filter.mp hi).2
  rw [if_neg this]
  rfl
theorem StM.Ok.free {S : StM} (h : S.Ok) {i : Pc} (hi : i ∈ S.its) : (S.free i).Ok := by
  unfold StM.free
  split
  · rw [out_at]
    exact h.out _
  · rename_i hc
    refine h.at _ _ fun j hj e => ?_
    have e2 : j = i := nodup_inj h.nn hj hi e
    rw [e2]
    have := h.cnt i hi
    omega
end Y
namespace Y
open PySem PySem.Spec PyProof.Rows L2
/-! ### the stock in the heap -/
structure StR where
  k : Addr
  dx : Addr
  t : Addr
  c : Addr
  n : Addr
def stF (g : Int) (t c n : Addr) : List (Str × V) := [("greatest", .int g), ("_texts", .ref t), ("_counts", .ref c), ("_numbers", .ref n)]
theorem nm1 : ¬ (("greatest" : Str) = "_texts") := by decide +kernel
theorem nm2 : ¬ (("greatest" : Str) = "_counts") := by decide +kernel
theorem nm3 : ¬ (("greatest" : Str) = "_numbers") := by decide +kernel
theorem nm4 : ¬ (("_texts" : Str) = "_counts") := by decide +kernel
theorem nm5 : ¬ (("_texts" : Str) = "_numbers") := by decide +kernel
theorem nm6 : ¬ (("_counts" : Str) = "_numbers") := by decide +kernel
section
variable {g : Int} {t c n : Addr} {K : PySem.W.Frag} {mg : Str → Option Value} {H : Hp} {k C dx : Addr}
theorem look_ne {f g : Str} {v : V} {r : List (Str × V)} (h : ¬ f = g) : List.lookup f ((g, v) :: r) = List.lookup f r := by
  have hb : (f == g) = false := beq_eq_false_iff_ne.mpr h
  simp only [List.lookup, hb]
theorem look_eq {f : Str} {v : V} {r : List (Str × V)} : List.lookup f ((f, v) :: r) = some v := by simp [List.lookup]
theorem put_ne {f g : Str} {v x : V} {r : List (Str × V)} (h : ¬ g = f) : putF f v ((g, x) :: r) = (g, x) :: putF f v r := by
  show (if g = f then _ else _) = _
  rw [if_neg h]
theorem put_eq {f : Str} {v x : V} {r : List (Str × V)} : putF f v ((f, x) :: r) = (f, v) :: r := by
  show (if f = f then _ else _) = _
  rw [if_pos rfl]
theorem put_nil {f : Str} {v : V} : putF f v [] = [(f, v)] := rfl
theorem stF_g : (stF g t c n).lookup ("greatest" : Str) = some (.int g) := look_eq
theorem stF_t : (stF g t c n).lookup ("_texts" : Str) = some (.ref t) := by
  unfold stF
  rw [look_ne (Ne.symm nm1), look_eq]
theorem stF_c : (stF g t c n).lookup ("_counts" : Str) = some (.ref c) := by
  unfold stF
  rw [look_ne (Ne.symm nm2), look_ne (Ne.symm nm4), look_eq]
theorem stF_n : (stF g t c n).lookup ("_numbers" : Str) = some (.ref n) := by
  unfold stF
  rw [look_ne (Ne.symm nm3), look_ne (Ne.symm nm5), look_ne (Ne.symm nm6), look_eq]
theorem stF_m {m : Str} (h : ¬ m = "greatest" ∧ ¬ m = "_texts" ∧ ¬ m = "_counts" ∧ ¬ m = "_numbers") : (stF g t c n).lookup m = none := by
  unfold stF
  rw [look_ne h.1, look_ne h.2.1, look_ne h.2.2.1, look_ne h.2.2.2]
  rfl
theorem stF_put {z : Int} : putF "greatest" (.int z) (stF g t c n) = stF z t c n := put_eq
theorem stF_mk : putF "_numbers" (.ref n) (putF "_counts" (.ref c) (putF "_texts" (.ref t) (putF "greatest" (.int g) []))) = stF g t c n := by
  rw [put_nil, put_ne nm1, put_nil, put_ne nm2, put_ne nm4, put_nil, put_ne nm3, put_ne nm5, put_ne nm6, put_nil]
  rfl
end
structure StAt (C : Addr) (H : Hp) (r : StR) (S : StM) : Prop where
  ob : H r.k = some (.ins C r.dx (stF S.last r.t r.c r.n))
  tx : H r.t = some (.dK (mp Pc.ik (fun i => txtV i.txt) S.its))
  ct : H r.c = some (.dK (mp Pc.ik (fun i => .int (i.cnt : Int)) S.its))
  nm : H r.n = some (.dK (mp Pc.tk (fun i => .int (i.num : Int)) S.its))
  ne : r.t ≠ r.c ∧ r.t ≠ r.n ∧ r.c ≠ r.n
def StR.F (r : StR) : List Addr := [r.k, r.t, r.c, r.n]
section
variable {C : Addr} {H H' : Hp} {r : StR} {S : StM} {F : List Addr}
theorem StAt.kt (h : StAt C H r S) : r.k ≠ r.t := ne_of h.ob h.tx (by intro z; cases z)
theorem StAt.kc (h : StAt C H r S) : r.k ≠ r.c := ne_of h.ob h.ct (by intro z; cases z)
theorem StAt.kn (h : StAt C H r S) : r.k ≠ r.n := ne_of h.ob h.nm (by intro z; cases z)
theorem StAt.fr (h : StAt C H r S) (s : Fr F H H') (d : ∀ a ∈ r.F, a ∉ F) : StAt C H' r S :=
  ⟨s.keep _ _ h.ob (d _ (by simp [StR.F])) rfl, s.keep _ _ h.tx (d _ (by simp [StR.F])) rfl, s.keep _ _ h.ct (d _ (by simp [StR.F])) rfl, s.keep _ _ h.nm (d _ (by simp [StR.F])) rfl, h.ne⟩
theorem StAt.same (h : StAt C H r S) (s : Same H H') : StAt C H' r S := h.fr (F := []) (frS s) (fun _ _ => List.not_mem_nil)
theorem StAt.live (h : StAt C H r S) {a : Addr} (ha : a ∈ r.F) : H a ≠ none := by
  simp only [StR.F, List.mem_cons, List.not_mem_nil, or_false] at ha
  rcases ha with e | e | e | e <;> rw [e]
  · rw [h.ob]; intro z; cases z
  · rw [h.tx]; intro z; cases z
  · rw [h.ct]; intro z; cases z
  · rw [h.nm]; intro z; cases z
end
/-- the number that a value names -/
def StM.find (S : StM) : V → Option Pc
  | .int i => S.byN i
  | _ => none
def isI : V → Bool
  | .int _ => true
  | _ => false
theorem StM.find_some {S : StM} {v : V} {i : Pc} (h : S.find v = some i) : v = .int (i.num : Int) ∧ i ∈ S.its := by
  cases v <;> first | (cases h; done) | skip
  rename_i n
  obtain ⟨h1, h2⟩ := StM.byN_some (show S.byN n = some i from h)
  exact ⟨by rw [h2], h1⟩
end Y
namespace Y
open PySem PySem.Spec PyProof.Rows L2
theorem fm_one {β : Type} (g : Pc → β) : ∀ {l : List Pc} {i : Pc}, (l.map (·.txt)).Nodup → i ∈ l → l.filterMap (fun j => if j.txt = i.txt then some (g j) else none) = [g i]
  | [], _, _, h => by cases h
  | a :: r, i, nd, h => by
    rw [List.map_cons, List.nodup_cons] at nd
    rcases List.mem_cons.mp h with e | h
    · subst e
      rw [List.filterMap_cons, if_pos rfl]
      have : r.filterMap (fun j => if j.txt = i.txt then some (g j) else none) = [] := by
        rw [List.filterMap_eq_nil_iff]
        intro j hj
        rw [if_neg (fun e => nd.1 (List.mem_map.mpr ⟨j, hj, e⟩))]
      simp [this]
    · have ih := fm_one g nd.2 h
      rw [List.filterMap_cons, if_neg (fun e => nd.1 (List.mem_map.mpr ⟨i, h, e.symm⟩))]
      exact ih
theorem held_some {β : Type} (g : Pc → β) {S : StM} (ok : S.Ok) {t : List Nat} {i : Pc} (h : S.byT t = some i) : S.its.filterMap (fun j => if j.txt = t then some (g j) else none) = [g i] := by
  obtain ⟨h1, h2⟩ := StM.byT_some h
  subst h2
  exact fm_one g ok.ntx h1
theorem held_none {β : Type} (g : Pc → β) {S : StM} {t : List Nat} (h : S.byT t = none) : S.its.filterMap (fun j => if j.txt = t then some (g j) else none) = [] := by
  rw [List.filterMap_eq_nil_iff]
  intro j hj
  rw [if_neg (StM.byT_none h j hj)]
theorem need_old {S : StM} {t : List Nat} {i : Pc} (h : S.byT t = some i) : S.need t = (S.at i.num (· + 1), i.num) := by
  unfold StM.need
  rw [h]
theorem need_new {S : StM} (ok : S.Ok) {t : List Nat} (h : S.byT t = none) : S.need t = (⟨S.last + 1, S.its ++ [⟨S.last + 1, t, 1⟩]⟩, S.last + 1) := by
  unfold StM.need
  rw [h]
  show (StM.at ⟨S.last + 1, S.its ++ [⟨S.last + 1, t, 0⟩]⟩ (S.last + 1) (· + 1), S.last + 1) = _
  rw [at_add ok]
theorem mp_at_tx (S : StM) (n : Nat) (d : Nat → Nat) : mp Pc.ik (fun i => txtV i.txt) (S.at n d).its = mp Pc.ik (fun i => txtV i.txt) S.its := by
  unfold StM.at
  rw [mp_map]
  apply mp_congr
  intro j _
  split <;> exact ⟨rfl, rfl⟩
theorem mp_at_nm (S : StM) (n : Nat) (d : Nat → Nat) : mp Pc.tk (fun i => V.int (i.num : Int)) (S.at n d).its = mp Pc.tk (fun i => V.int (i.num : Int)) S.its := by
  unfold StM.at
  rw [mp_map]
  apply mp_congr
  intro j _
  split <;> exact ⟨rfl, rfl⟩
theorem mp_at_ct {S : StM} (nn : (S.its.map (·.num)).Nodup) {i : Pc} (hi : i ∈ S.its) (d : Nat → Nat) : mp Pc.ik (fun j => V.int (j.cnt : Int)) (S.at i.num d).its = putK (mp Pc.ik (fun j => V.int (j.cnt : Int)) S.its) (Sum.inl (i.num : Int)) (.int (d i.cnt : Nat)) := by
  have f : S.its.find? (fun j => decide (j.ik = Sum.inl (i.num : Int))) = some i := by
    refine find_inj (key := Pc.ik) ?_ hi
    rw [List.nodup_iff_pairwise_ne, List.pairwise_map] at nn ⊢
    exact nn.imp fun h e => h (by
      have := Sum.inl.inj e
      omega)
  rw [putK_mp_at f]
  unfold StM.at
  rw [mp_map]
  apply mp_congr
  intro j hj
  by_cases z : j.num = i.num
  · rw [if_pos z, if_pos (Pc.ik_inj.mpr z)]
    have e2 : j = i := nodup_inj nn hj hi z
    rw [e2]
    exact ⟨rfl, rfl⟩
  · rw [if_neg z, if_neg (fun e => z (Pc.ik_inj.mp e))]
    exact ⟨rfl, rfl⟩
theorem mp_out {κ : Type} [DecidableEq κ] {key : Pc → κ} {val : Pc → V} {S : StM} {i : Pc} (h : ∀ j ∈ S.its, key j = key i ↔ j.num = i.num) : mp key val (S.out i.num).its = dropK (mp key val S.its) (key i) := by
  rw [dropK_mp]
  unfold StM.out
  congr 1
  apply List.filter_congr
  intro j hj
  exact decide_eq_decide.mpr ⟨fun a b => a ((h j hj).mp b), fun a b => a ((h j hj).mpr b)⟩
end Y

namespace Y
open PySem PySem.Spec PyProof.Rows L2
/-! ### who owns an address: colours -/
/-- what is coloured stands -/
def Own (H : Hp) (g : Addr → Nat) : Prop := ∀ x, H x = none → g x = 0
def paint (g : Addr → Nat) (F : List Addr) (c : Nat) : Addr → Nat := fun x => if x ∈ F then c else g x
theorem paint_in {g : Addr → Nat} {F : List Addr} {c : Nat} {a : Addr} (h : a ∈ F) : paint g F c a = c := if_pos h
theorem paint_old {g : Addr → Nat} {F : List Addr} {c : Nat} {a : Addr} {H : Hp} (hF : ∀ x ∈ F, H x = none) (h : H a ≠ none) : paint g F c a = g a := if_neg fun z => h (hF a z)
theorem own0 {H : Hp} : Own H fun _ => 0 := fun _ _ => rfl
theorem Own.paint {H H' : Hp} {g : Addr → Nat} {F : List Addr} {c : Nat} (h : Own H g) (hl : ∀ a, H' a = none → H a = none) (hF : ∀ a ∈ F, H' a ≠ none) : Own H' (paint g F c) := fun x hx => by
  unfold Y.paint
  rw [if_neg fun z => hF x z hx]
  exact h x (hl x hx)
theorem Own.live {H H' : Hp} {g : Addr → Nat} (h : Own H g) (hl : ∀ a, H' a = none → H a = none) : Own H' g := fun x hx => h x (hl x hx)
theorem Own.ne {H : Hp} {g : Addr → Nat} (h : Own H g) {a x : Addr} (ha : g a ≠ 0) (hx : H x = none) : x ≠ a := fun z => ha (by rw [← z]; exact h x hx)
end Y

namespace Y
open PySem PySem.Spec PyProof.Rows L2
structure StNew (C : Addr) (H H' : Hp) (r : StR) : Prop where
  at_ : StAt C H' r ⟨0, []⟩
  fr : Fr [] H H'
  new : ∀ a ∈ r.F, H a = none
theorem st_new {C : Addr} {H H1 : Hp} {x dx : Addr} {r : StR} (nx : H x = none) (ndx : H dx = none) (ek : r.k = x) (t : upd (upd H dx (.own x)) x (.ins C dx []) r.t = none) (c : upd (upd H dx (.own x)) x (.ins C dx []) r.c = none) (n : upd (upd H dx (.own x)) x (.ins C dx []) r.n = none)
    (hS : StAt C H1 r ⟨0, []⟩) (s : Fr [x] (upd (upd H dx (.own x)) x (.ins C dx [])) H1) : StNew C H H1 r := by
  refine ⟨hS, frMade nx ndx (fun a ha => List.mem_singleton.mp ha) s, fun a ha => ?_⟩
  simp only [StR.F, List.mem_cons, List.not_mem_nil, or_false] at ha
  rcases ha with e | e | e | e <;> rw [e]
  · rw [ek]; exact nx
  · exact made_none nx ndx t
  · exact made_none nx ndx c
  · exact made_none nx ndx n
end Y

namespace Y
open PySem PySem.Spec PyProof.Rows L2
theorem cutV_take (xs : List V) (n : Nat) : cutV xs none (some (n : Int)) = xs.take n := by
  unfold cutV
  rw [HT.sIx_none, HT.sIx_nat]
  show (xs.drop 0).take (min n xs.length - 0) = _
  rw [List.drop_zero, Nat.sub_zero]
  by_cases h : n ≤ xs.length
  · rw [Nat.min_eq_left h]
  · rw [Nat.min_eq_right (by omega), List.take_of_length_le (Nat.le_refl _), List.take_of_length_le (by omega)]
end Y
namespace My
open PySem L2 Y
local macro_rules | `(tactic| walk_at "ev") => `(tactic| try simp only [L2.start, List.map_cons, List.map_nil, List.length_cons, List.length_nil, Nat.reduceAdd, Nat.reduceSub, List.replicate_succ, List.replicate_zero, List.cons_append, List.nil_append, List.append_nil,
  tVar_ap, look_some, List.getElem?_cons_zero, List.getElem?_cons_succ, List.set_cons_zero, List.set_cons_succ, tC_ap, tSeq_ap, tNext_ap, tAsg_ap, gName_ap, tRet_ap, tRetN_ap, tDrop_ap, tBreak_ap, tCont_ap, tYes_ap, tLc1_ap, tLc2_ap, tLcL_ap, tLcZ_ap, tForZ_ap, tDc2_ap, tDGet_ap, tBM_ap, tM1_ap, emp_st, rIs_1, rIs_2, rIs_3, rIs_4, rIs_5, rIs_6, rIs_7, rIs_8, rIs_9, rIs_10, rIsN_1, rIsN_2, rIsN_3, rIsN_4, rIsN_5, tOp_ap, tUn_ap, tNil_ap, tCons_ap, tCB_ap, tCall_ap, tLst_ap, tTup_ap, tSl_ap, tNoPart_ap, tPart_ap,
  asInt_int, asBl_bl, isi_int_int, isi_int_bool, isi_bl_int, isi_bl_bool, isi_str_str, isi_str_int, isi_int_str, asStr_str, asRef_ref, br_t, br_f, brS_t, brS_f, tIfS_ap, brE_t, brE_f, tIf_ap, tAndV_ap, tOrV_ap, tNotV_ap, brT_t, brT_f, tK_ap, tAnd_ap, tOr_ap, tNot_ap, tB_ap, tTest_ap, tFor1_ap, tFor2_ap, tForS_ap, tForL_ap, rng1_ap, rng2_ap,
  tJoin_ap, rListC_ap, tCallS_ap, tMethE_ap, tMakeE_ap, tCallE_ap, tFldE_ap, sFldE_ap, sFldAugE_ap, sDPut_ap, sDAug_ap, sDDel_ap, tDNewK_ap, tDNewT_ap, tDIn_ap, tDNotIn_ap, tDGet2_ap, tDPop1_ap, tLockE_ap, tLock_ap, tDisp_ap, tPairs_nil, tPairs_cons, riAdd_ap, riSub_ap, tLcK_ap, tForK_ap, rInt1_i, rInt1_b, Y.rAdd, Y.rSub, Y.rMul, Y.rMod, Y.rDiv, Y.rPow, Y.rCmp, Y.rEqS, Y.rNeS, Y.rInA, Y.rNotInA, Y.rIxA, Y.rSlA, Y.rLen, Y.rOrd, Y.rMin, codes_st, len_st, one_st, mk_st, Bool.not_true, Bool.not_false, cxOf_K, line_eq, Nat.reduceLeDiff, Nat.reduceLT, Int.reduceLT, Int.reduceLE, Int.reduceNeg, Int.reducePow, CDiv, CMul, CPow, Int.reduceAbs, Int.reduceToNat, Nat.reducePow, true_and, and_true, or_true, true_or, decide_eq_true_eq, decide_true, decide_false, Option.map_some, Option.map_none, Option.isSome_some, Option.isSome_none, Option.getD_some, Option.getD_none])
def topS (i : Nat) : Stmt := PySem.Challenge.pw_chunkshelf_k05_stock_counted.main.body.getD i (.Pass ⟨0, 0, 0, 0⟩)
abbrev s_is_number : Stmt := topS 11
abbrev N_is_number : List Str := ["thing"]
theorem sc_is_number : FnScope N_is_number ["thing"] (defScope s_is_number) := ⟨rfl, rfl, rfl, by decide +kernel, rfl, by decide +kernel, by decide +kernel⟩
abbrev s_Stock___init__ : Stmt := inClass (topS 13) 0
abbrev N_Stock___init__ : List Str := ["self"]
theorem sc_Stock___init__ : FnScope N_Stock___init__ ["self"] (defScope s_Stock___init__) := ⟨rfl, rfl, rfl, by decide +kernel, rfl, by decide +kernel, by decide +kernel⟩
abbrev s_Stock_need : Stmt := inClass (topS 13) 1
abbrev N_Stock_need : List Str := ["self", "text", "number"]
theorem sc_Stock_need : FnScope N_Stock_need ["self", "text"] (defScope s_Stock_need) := ⟨rfl, rfl, rfl, by decide +kernel, rfl, by decide +kernel, by decide +kernel⟩
abbrev s_Stock_free : Stmt := inClass (topS 13) 2
abbrev N_Stock_free : List Str := ["self", "number"]
theorem sc_Stock_free : FnScope N_Stock_free ["self", "number"] (defScope s_Stock_free) := ⟨rfl, rfl, rfl, by decide +kernel, rfl, by decide +kernel, by decide +kernel⟩
abbrev s_Stock_count : Stmt := inClass (topS 13) 3
abbrev N_Stock_count : List Str := ["self", "number"]
theorem sc_Stock_count : FnScope N_Stock_count ["self", "number"] (defScope s_Stock_count) := ⟨rfl, rfl, rfl, by decide +kernel, rfl, by decide +kernel, by decide +kernel⟩
abbrev s_Stock_piece : Stmt := inClass (topS 13) 4
abbrev N_Stock_piece : List Str := ["self", "number"]
theorem sc_Stock_piece : FnScope N_Stock_piece ["self", "number"] (defScope s_Stock_piece) := ⟨rfl, rfl, rfl, by decide +kernel, rfl, by decide +kernel, by decide +kernel⟩
abbrev s_Stock_numbers : Stmt := inClass (topS 13) 5
abbrev N_Stock_numbers : List Str := ["self"]
theorem sc_Stock_numbers : FnScope N_Stock_numbers ["self"] (defScope s_Stock_numbers) := ⟨rfl, rfl, rfl, by decide +kernel, rfl, by decide +kernel, by decide +kernel⟩
abbrev s_Stock_put : Stmt := inClass (topS 13) 6
abbrev N_Stock_put : List Str := ["self", "number", "text", "count"]
theorem sc_Stock_put : FnScope N_Stock_put ["self", "number", "text", "count"] (defScope s_Stock_put) := ⟨rfl, rfl, rfl, by decide +kernel, rfl, by decide +kernel, by decide +kernel⟩
abbrev s_Stock__is_kept : Stmt := inClass (topS 13) 7
abbrev N_Stock__is_kept : List Str := ["self", "number"]
theorem sc_Stock__is_kept : FnScope N_Stock__is_kept ["self", "number"] (defScope s_Stock__is_kept) := ⟨rfl, rfl, rfl, by decide +kernel, rfl, by decide +kernel, by decide +kernel⟩
abbrev s_Stock__check_kept : Stmt := inClass (topS 13) 8
abbrev N_Stock__check_kept : List Str := ["self", "number"]
theorem sc_Stock__check_kept : FnScope N_Stock__check_kept ["self", "number"] (defScope s_Stock__check_kept) := ⟨rfl, rfl, rfl, by decide +kernel, rfl, by decide +kernel, by decide +kernel⟩
abbrev s__law_whole : Stmt := topS 16
abbrev N__law_whole : List Str := ["_law_got"]
theorem sc__law_whole : FnScope N__law_whole ["_law_got"] (defScope s__law_whole) := ⟨rfl, rfl, rfl, by decide +kernel, rfl, by decide +kernel, by decide +kernel⟩
abbrev s__law_sign_by : Stmt := topS 17
abbrev N__law_sign_by : List Str := ["_law_cell", "_law_some"]
theorem sc__law_sign_by : FnScope N__law_sign_by ["_law_cell"] (defScope s__law_sign_by) := ⟨rfl, rfl, rfl, by decide +kernel, rfl, by decide +kernel, by decide +kernel⟩
abbrev s__law_text_by : Stmt := topS 18
abbrev N__law_text_by : List Str := ["_law_cell", "_law_size", "_law_signs", "_law_block", "_law_got", "_law_number", "_law_k"]
theorem sc__law_text_by : FnScope N__law_text_by ["_law_cell", "_law_size"] (defScope s__law_text_by) := ⟨rfl, rfl, rfl, by decide +kernel, rfl, by decide +kernel, by decide +kernel⟩
abbrev s__law_alike : Stmt := topS 19
abbrev N__law_alike : List Str := ["_law_got", "_law_due", "_law_k"]
theorem sc__law_alike : FnScope N__law_alike ["_law_got", "_law_due"] (defScope s__law_alike) := ⟨rfl, rfl, rfl, by decide +kernel, rfl, by decide +kernel, by decide +kernel⟩
abbrev s__law_word_of : Stmt := topS 20
abbrev N__law_word_of : List Str := ["_law_e", "_law_words"]
theorem sc__law_word_of : FnScope N__law_word_of ["_law_e"] (defScope s__law_word_of) := ⟨rfl, rfl, rfl, by decide +kernel, rfl, by decide +kernel, by decide +kernel⟩
abbrev s__law_answer : Stmt := topS 21
abbrev N__law_answer : List Str := ["_law_stock", "_law_way", "_law_number", "_law_e"]
theorem sc__law_answer : FnScope N__law_answer ["_law_stock", "_law_way", "_law_number"] (defScope s__law_answer) := ⟨rfl, rfl, rfl, by decide +kernel, rfl, by decide +kernel, by decide +kernel⟩
abbrev s__law_counted : Stmt := topS 22
abbrev N__law_counted : List Str := ["_law_stock", "_law_plain", "_law_number"]
theorem sc__law_counted : FnScope N__law_counted ["_law_stock", "_law_plain", "_law_number"] (defScope s__law_counted) := ⟨rfl, rfl, rfl, by decide +kernel, rfl, by decide +kernel, by decide +kernel⟩
abbrev s__law_look : Stmt := topS 23
abbrev N__law_look : List Str := ["_law_stock", "_law_plain", "_law_number", "_law_kept", "_law_listed", "_law_due"]
theorem sc__law_look : FnScope N__law_look ["_law_stock", "_law_plain", "_law_number", "_law_kept"] (defScope s__law_look) := ⟨rfl, rfl, rfl, by decide +kernel, rfl, by decide +kernel, by decide +kernel⟩
abbrev s__law_needed : Stmt := topS 24
abbrev N__law_needed : List Str := ["_law_stock", "_law_plain", "_law_text", "_law_held", "_law_number"]
theorem sc__law_needed : FnScope N__law_needed ["_law_stock", "_law_plain", "_law_text"] (defScope s__law_needed) := ⟨rfl, rfl, rfl, by decide +kernel, rfl, by decide +kernel, by decide +kernel⟩
abbrev s__law_freed : Stmt := topS 25
abbrev N__law_freed : List Str := ["_law_stock", "_law_plain", "_law_number", "_law_got"]
theorem sc__law_freed : FnScope N__law_freed ["_law_stock", "_law_plain", "_law_number"] (defScope s__law_freed) := ⟨rfl, rfl, rfl, by decide +kernel, rfl, by decide +kernel, by decide +kernel⟩
abbrev s_law : Stmt := topS 26
abbrev N_law : List Str := ["_law_script", "_law_stocks", "_law_plains", "_law_kept", "_law_known", "_law_cell", "_law_thing", "_law_at", "_law_number", "_law_way", "_law_text", "_law_pair"]
theorem sc_law : FnScope N_law ["_law_script"] (defScope s_law) := ⟨rfl, rfl, rfl, by decide +kernel, rfl, by decide +kernel, by decide +kernel⟩
structure Wd (K : PySem.W.Frag) (mg : Str → Option Value) where
  f_is_number : Addr
  d_is_number : FuncData
  F_is_number : Fun K "is_number" "is_number" s_is_number f_is_number d_is_number
  b_is_number : Binds K d_is_number ["thing"] []
  m_is_number : mg "is_number" = some (.ref f_is_number)
  f_Stock___init__ : Addr
  d_Stock___init__ : FuncData
  F_Stock___init__ : Fun K "__init__" "Stock.__init__" s_Stock___init__ f_Stock___init__ d_Stock___init__
  b_Stock___init__ : Binds K d_Stock___init__ ["self"] []
  f_Stock_need : Addr
  d_Stock_need : FuncData
  F_Stock_need : Fun K "need" "Stock.need" s_Stock_need f_Stock_need d_Stock_need
  b_Stock_need : Binds K d_Stock_need ["self", "text"] []
  f_Stock_free : Addr
  d_Stock_free : FuncData
  F_Stock_free : Fun K "free" "Stock.free" s_Stock_free f_Stock_free d_Stock_free
  b_Stock_free : Binds K d_Stock_free ["self", "number"] []
  f_Stock_count : Addr
  d_Stock_count : FuncData
  F_Stock_count : Fun K "count" "Stock.count" s_Stock_count f_Stock_count d_Stock_count
  b_Stock_count : Binds K d_Stock_count ["self", "number"] []
  f_Stock_piece : Addr
  d_Stock_piece : FuncData
  F_Stock_piece : Fun K "piece" "Stock.piece" s_Stock_piece f_Stock_piece d_Stock_piece
  b_Stock_piece : Binds K d_Stock_piece ["self", "number"] []
  f_Stock_numbers : Addr
  d_Stock_numbers : FuncData
  F_Stock_numbers : Fun K "numbers" "Stock.numbers" s_Stock_numbers f_Stock_numbers d_Stock_numbers
  b_Stock_numbers : Binds K d_Stock_numbers ["self"] []
  f_Stock_put : Addr
  d_Stock_put : FuncData
  F_Stock_put : Fun K "put" "Stock.put" s_Stock_put f_Stock_put d_Stock_put
  b_Stock_put : Binds K d_Stock_put ["self", "number", "text", "count"] []
  f_Stock__is_kept : Addr
  d_Stock__is_kept : FuncData
  F_Stock__is_kept : Fun K "_is_kept" "Stock._is_kept" s_Stock__is_kept f_Stock__is_kept d_Stock__is_kept
  b_Stock__is_kept : Binds K d_Stock__is_kept ["self", "number"] []
  f_Stock__check_kept : Addr
  d_Stock__check_kept : FuncData
  F_Stock__check_kept : Fun K "_check_kept" "Stock._check_kept" s_Stock__check_kept f_Stock__check_kept d_Stock__check_kept
  b_Stock__check_kept : Binds K d_Stock__check_kept ["self", "number"] []
  f__law_whole : Addr
  d__law_whole : FuncData
  F__law_whole : Fun K "_law_whole" "_law_whole" s__law_whole f__law_whole d__law_whole
  b__law_whole : Binds K d__law_whole ["_law_got"] []
  m__law_whole : mg "_law_whole" = some (.ref f__law_whole)
  f__law_sign_by : Addr
  d__law_sign_by : FuncData
  F__law_sign_by : Fun K "_law_sign_by" "_law_sign_by" s__law_sign_by f__law_sign_by d__law_sign_by
  b__law_sign_by : Binds K d__law_sign_by ["_law_cell"] []
  m__law_sign_by : mg "_law_sign_by" = some (.ref f__law_sign_by)
  f__law_text_by : Addr
  d__law_text_by : FuncData
  F__law_text_by : Fun K "_law_text_by" "_law_text_by" s__law_text_by f__law_text_by d__law_text_by
  b__law_text_by : Binds K d__law_text_by ["_law_cell", "_law_size"] []
  m__law_text_by : mg "_law_text_by" = some (.ref f__law_text_by)
  f__law_alike : Addr
  d__law_alike : FuncData
  F__law_alike : Fun K "_law_alike" "_law_alike" s__law_alike f__law_alike d__law_alike
  b__law_alike : Binds K d__law_alike ["_law_got", "_law_due"] []
  m__law_alike : mg "_law_alike" = some (.ref f__law_alike)
  f__law_word_of : Addr
  d__law_word_of : FuncData
  F__law_word_of : Fun K "_law_word_of" "_law_word_of" s__law_word_of f__law_word_of d__law_word_of
  b__law_word_of : Binds K d__law_word_of ["_law_e"] []
  m__law_word_of : mg "_law_word_of" = some (.ref f__law_word_of)
  f__law_answer : Addr
  d__law_answer : FuncData
  F__law_answer : Fun K "_law_answer" "_law_answer" s__law_answer f__law_answer d__law_answer
  b__law_answer : Binds K d__law_answer ["_law_stock", "_law_way", "_law_number"] []
  m__law_answer : mg "_law_answer" = some (.ref f__law_answer)
  f__law_counted : Addr
  d__law_counted : FuncData
  F__law_counted : Fun K "_law_counted" "_law_counted" s__law_counted f__law_counted d__law_counted
  b__law_counted : Binds K d__law_counted ["_law_stock", "_law_plain", "_law_number"] []
  m__law_counted : mg "_law_counted" = some (.ref f__law_counted)
  f__law_look : Addr
  d__law_look : FuncData
  F__law_look : Fun K "_law_look" "_law_look" s__law_look f__law_look d__law_look
  b__law_look : Binds K d__law_look ["_law_stock", "_law_plain", "_law_number", "_law_kept"] []
  m__law_look : mg "_law_look" = some (.ref f__law_look)
  f__law_needed : Addr
  d__law_needed : FuncData
  F__law_needed : Fun K "_law_needed" "_law_needed" s__law_needed f__law_needed d__law_needed
  b__law_needed : Binds K d__law_needed ["_law_stock", "_law_plain", "_law_text"] []
  m__law_needed : mg "_law_needed" = some (.ref f__law_needed)
  f__law_freed : Addr
  d__law_freed : FuncData
  F__law_freed : Fun K "_law_freed" "_law_freed" s__law_freed f__law_freed d__law_freed
  b__law_freed : Binds K d__law_freed ["_law_stock", "_law_plain", "_law_number"] []
  m__law_freed : mg "_law_freed" = some (.ref f__law_freed)
  f_law : Addr
  d_law : FuncData
  F_law : Fun K "law" "law" s_law f_law d_law
  b_law : Binds K d_law ["_law_script"] []
  m_law : mg "law" = some (.ref f_law)
  c_Stock : Addr
  T_Stock : Cls K c_Stock
  g_Stock : mg "Stock" = some (.ref c_Stock)
  k_Stock : Mk K c_Stock f_Stock___init__
  n_Stock_greatest : NoAttr K c_Stock "greatest"
  n_Stock__texts : NoAttr K c_Stock "_texts"
  n_Stock__counts : NoAttr K c_Stock "_counts"
  n_Stock__numbers : NoAttr K c_Stock "_numbers"
  q_Stock_need : Meth K c_Stock "need" f_Stock_need
  q_Stock_free : Meth K c_Stock "free" f_Stock_free
  q_Stock_count : Meth K c_Stock "count" f_Stock_count
  q_Stock_piece : Meth K c_Stock "piece" f_Stock_piece
  q_Stock_numbers : Meth K c_Stock "numbers" f_Stock_numbers
  q_Stock_put : Meth K c_Stock "put" f_Stock_put
  q_Stock__is_kept : Meth K c_Stock "_is_kept" f_Stock__is_kept
  q_Stock__check_kept : Meth K c_Stock "_check_kept" f_Stock__check_kept
  e_ShelfError : Addr
  E_ShelfError : ErrC K mg "ShelfError" e_ShelfError
  e_NoSize : Addr
  E_NoSize : ErrC K mg "NoSize" e_NoSize
  e_NoName : Addr
  E_NoName : ErrC K mg "NoName" e_NoName
  e_NotThere : Addr
  E_NotThere : ErrC K mg "NotThere" e_NotThere
  e_NoPlace : Addr
  E_NoPlace : ErrC K mg "NoPlace" e_NoPlace
  e_NoText : Addr
  E_NoText : ErrC K mg "NoText" e_NoText
  e_TooLong : Addr
  E_TooLong : ErrC K mg "TooLong" e_TooLong
  e_TooMany : Addr
  E_TooMany : ErrC K mg "TooMany" e_TooMany
  e_NoNote : Addr
  E_NoNote : ErrC K mg "NoNote" e_NoNote
  x_NotThere : ExcC K e_NotThere
  v_NotThere : PySem.W.kitOne K (.ref e_NotThere) (.type "ValueError") = some true
  s_NotThere_NoSize : PySem.W.subIn K (.ref e_NotThere) (.ref e_NoSize) = some false
  u_NotThere_NoSize : e_NotThere ≠ e_NoSize
  s_NotThere_NoName : PySem.W.subIn K (.ref e_NotThere) (.ref e_NoName) = some false
  u_NotThere_NoName : e_NotThere ≠ e_NoName
  s_NotThere_NotThere : PySem.W.subIn K (.ref e_NotThere) (.ref e_NotThere) = some true
  s_NotThere_NoPlace : PySem.W.subIn K (.ref e_NotThere) (.ref e_NoPlace) = some false
  u_NotThere_NoPlace : e_NotThere ≠ e_NoPlace
  s_NotThere_NoText : PySem.W.subIn K (.ref e_NotThere) (.ref e_NoText) = some false
  u_NotThere_NoText : e_NotThere ≠ e_NoText
  s_NotThere_TooLong : PySem.W.subIn K (.ref e_NotThere) (.ref e_TooLong) = some false
  u_NotThere_TooLong : e_NotThere ≠ e_TooLong
  s_NotThere_TooMany : PySem.W.subIn K (.ref e_NotThere) (.ref e_TooMany) = some false
  u_NotThere_TooMany : e_NotThere ≠ e_TooMany
  s_NotThere_NoNote : PySem.W.subIn K (.ref e_NotThere) (.ref e_NoNote) = some false
  u_NotThere_NoNote : e_NotThere ≠ e_NoNote
  s_NotThere_ShelfError : PySem.W.subIn K (.ref e_NotThere) (.ref e_ShelfError) = some true
  z_bool : mg "bool" = none
  z_int : mg "int" = none
  z_isinstance : mg "isinstance" = none
  z_len : mg "len" = none
  z_list : mg "list" = none
  z_min : mg "min" = none
  z_range : mg "range" = none
  z_sorted : mg "sorted" = none
  z_str : mg "str" = none
  z_tuple : mg "tuple" = none
  z_ValueError : mg "ValueError" = none
/-! ### the law's own readers -/
def alpha : List Nat := ((" !\"#$&'()*+,-./0123456789:;<=>?@ABCDEFGHIJKLMNOPQRSTUVWXYZ[\\]^_`" : Str)).cps.toList ++ (("abcdefghijklmnopqrstuvwxyz{|}~\n" : Str)).cps.toList
theorem alpha_len : alpha.length = 95 := by decide +kernel
def sgn (i : Int) : Nat := alpha.getD (i % 95).toNat 0
theorem sgn_at (i : Int) : atI alpha (i % 95) = some (sgn i) := by
  have h0 : 0 ≤ i % 95 := Int.emod_nonneg _ (by omega)
  have h1 : i % 95 < 95 := Int.emod_lt_of_pos _ (by omega)
  have e : i % 95 = (((i % 95).toNat : Nat) : Int) := (Int.toNat_of_nonneg h0).symm
  have hl : (i % 95).toNat < alpha.length := by rw [alpha_len]; omega
  have : alpha[(i % 95).toNat]? = some (sgn i) := by
    unfold sgn
    rw [List.getD_eq_getElem?_getD, List.getElem?_eq_getElem hl]
    rfl
  rw [e]
  exact atI_nat this
theorem sgn_mem (i : Int) : sgn i ∈ alpha := by
  have h0 : 0 ≤ i % 95 := Int.emod_nonneg _ (by omega)
  have h1 : i % 95 < 95 := Int.emod_lt_of_pos _ (by omega)
  have hl : (i % 95).toNat < alpha.length := by rw [alpha_len]; omega
  unfold sgn
  rw [List.getD_eq_getElem?_getD, List.getElem?_eq_getElem hl]
  exact List.getElem_mem hl
def sgs (c : Int) : Int := if c % 4 = 0 then 2 else if c % 4 = 3 then 1 else 95
theorem sgs_at (c : Int) : atI [V.int 2, V.int 95, V.int 95, V.int 1] (c % 4) = some (V.int (sgs c)) := by
  have h0 : 0 ≤ c % 4 := Int.emod_nonneg _ (by omega)
  have h1 : c % 4 < 4 := Int.emod_lt_of_pos _ (by omega)
  have : c % 4 = 0 ∨ c % 4 = 1 ∨ c % 4 = 2 ∨ c % 4 = 3 := by omega
  rcases this with e | e | e | e <;> (unfold sgs; rw [e]; rfl)
theorem sgs_pos (c : Int) : 0 < sgs c := by
  unfold sgs
  split
  · omega
  · split <;> omega
def nxt (x : Int) : Int := (x * 48271 + 11) % 2147483647
def numS (c : Int) : Nat → Int
  | 0 => c
  | k + 1 => nxt (numS c k)
def blk (c : Int) (b : Nat) : List Nat := (List.range b).map fun k => sgn (65 + numS c (k + 1) / 7 % sgs c)
theorem blk_succ (c : Int) (b : Nat) : blk c (b + 1) = blk c b ++ [sgn (65 + numS c (b + 1) / 7 % sgs c)] := by
  unfold blk
  rw [List.range_succ, List.map_append]
  rfl
theorem blk_len (c : Int) (b : Nat) : (blk c b).length = b := by simp [blk]
def blkN (c : Int) (n : Nat) : Nat := if c % 4 = 2 then min n (1 + (c / 4 % 50).toNat) else n
def textBy (c : Int) (n : Nat) : List Nat := (repS (blk c (blkN c n)) (n / blkN c n + 1)).take n
theorem repS_len (z : List Nat) (k : Nat) : (repS z k).length = k * z.length := by
  unfold repS
  rw [List.length_flatten, List.map_replicate, List.sum_replicate_nat]
theorem blkN_pos {c : Int} {n : Nat} (h : 0 < n) : 0 < blkN c n := by
  unfold blkN
  split
  · exact Nat.lt_min.mpr ⟨h, by omega⟩
  · exact h
theorem blkN_le (c : Int) (n : Nat) : blkN c n ≤ n := by
  unfold blkN
  split
  · exact Nat.min_le_left _ _
  · exact Nat.le_refl _
theorem textBy_len (c : Int) (n : Nat) : (textBy c n).length = n := by
  unfold textBy
  rw [List.length_take, repS_len, blk_len]
  by_cases h : n = 0
  · subst h
    simp
  · have hb := blkN_pos (c := c) (Nat.pos_of_ne_zero h)
    have := Nat.div_add_mod n (blkN c n)
    have hm := Nat.mod_lt n hb
    have : n < (n / blkN c n + 1) * blkN c n := by
      rw [Nat.add_mul, Nat.mul_comm (n / blkN c n)]
      omega
    omega
theorem mem_repS {z : List Nat} {k x : Nat} (h : x ∈ repS z k) : x ∈ z := by
  unfold repS at h
  obtain ⟨l, h1, h2⟩ := List.mem_flatten.mp h
  rw [(List.mem_replicate.mp h1).2] at h2
  exact h2
theorem textBy_mem {c : Int} {n x : Nat} (h : x ∈ textBy c n) : x ∈ alpha := by
  have h1 := mem_repS (List.mem_of_mem_take h)
  unfold blk at h1
  obtain ⟨k, _, e⟩ := List.mem_map.mp h1
  subst e
  exact sgn_mem _
theorem cut_take {z : List Nat} {n : Nat} (h : n ≤ z.length) : cutS (st z) none (some (n : Int)) = st (z.take n) := by
  unfold cutS
  rw [codes_st, HT.sIx_none, HT.sIx_nat, len_st, Nat.min_eq_left h]
  rfl
def sizeBy (c : Int) : Nat := if c % 8 = 7 then (c / 8 % 300).toNat else (c / 8 % 60).toNat
theorem sizeBy_le (c : Int) : sizeBy c ≤ 299 := by
  unfold sizeBy
  split <;> omega
def reachBy (c : Int) : Nat := if c % 9 = 8 then 1 + (c / 9 % 40).toNat else 1 + (c / 9 % 5).toNat
theorem reachBy_le (c : Int) : 1 ≤ reachBy c ∧ reachBy c ≤ 40 := by
  unfold reachBy
  split <;> omega
def widthBy (c : Int) : Nat := 1 + (c % 8).toNat
theorem widthBy_le (c : Int) : 1 ≤ widthBy c ∧ widthBy c ≤ 8 := by
  unfold widthBy
  omega
theorem widthBy_eq (c : Int) : 1 + c % 8 = ((widthBy c : Nat) : Int) := by
  unfold widthBy
  omega
/-! ### two values that are alike, to a depth -/
def Al (H : Hp) : Nat → V → V → Prop
  | 0, x, y => x = y ∧ (y = .non ∨ y = .bl true ∨ (∃ i, y = .int i) ∨ ∃ s, y = .str s)
  | n + 1, x, y => Al H n x y ∨
      (∃ a b xs ys, x = .ref a ∧ y = .ref b ∧ H a = some (.lst xs) ∧ H b = some (.lst ys) ∧ xs.length = ys.length ∧ xs.length < 16777216 ∧ ∀ i, i < ys.length → Al H n (xs.getD i .non) (ys.getD i .non)) ∨
      ∃ a b xs ys, x = .ref a ∧ y = .ref b ∧ H a = some (.tup xs) ∧ H b = some (.tup ys) ∧ xs.length = ys.length ∧ xs.length < 16777216 ∧ ∀ i, i < ys.length → Al H n (xs.getD i .non) (ys.getD i .non)
theorem Al.up {H : Hp} {x y : V} : ∀ {n : Nat}, Al H n x y → Al H (n + 1) x y := fun h => Or.inl h
theorem Al.le {H : Hp} {x y : V} {n m : Nat} (h : Al H n x y) (l : n ≤ m) : Al H m x y := by
  induction l with
  | refl => exact h
  | step _ ih => exact Or.inl ih
theorem Al.int {H : Hp} {n : Nat} (i : Int) : Al H n (.int i) (.int i) := Al.le (n := 0) ⟨rfl, .inr (.inr (.inl ⟨i, rfl⟩))⟩ (Nat.zero_le _)
theorem Al.str {H : Hp} {n : Nat} (i : Str) : Al H n (.str i) (.str i) := Al.le (n := 0) ⟨rfl, .inr (.inr (.inr ⟨i, rfl⟩))⟩ (Nat.zero_le _)
theorem Al.ints {H : Hp} {n : Nat} {a b : Addr} {xs : List V} (ha : H a = some (.lst xs)) (hb : H b = some (.lst xs)) (hl : xs.length < 16777216) (hx : ∀ v ∈ xs, (∃ i, v = V.int i) ∨ ∃ s, v = V.str s) : Al H (n + 1) (.ref a) (.ref b) := by
  refine Or.inr (Or.inl ⟨a, b, xs, xs, rfl, rfl, ha, hb, rfl, hl, fun i hi => ?_⟩)
  have hm : xs.getD i .non ∈ xs := by
    rw [List.getD_eq_getElem?_getD, List.getElem?_eq_getElem hi]
    exact List.getElem_mem hi
  rcases hx _ hm with ⟨j, e⟩ | ⟨j, e⟩
  · rw [e]; exact Al.int j
  · rw [e]; exact Al.str j
theorem Al.bt {H : Hp} {n : Nat} : Al H n (.bl true) (.bl true) := Al.le (n := 0) ⟨rfl, .inr (.inl rfl)⟩ (Nat.zero_le _)
theorem Al.non {H : Hp} {n : Nat} : Al H n .non .non := Al.le (n := 0) ⟨rfl, .inl rfl⟩ (Nat.zero_le _)
theorem Al.tups {H : Hp} {n : Nat} {a b : Addr} {xs ys : List V} (ha : H a = some (.tup xs)) (hb : H b = some (.tup ys)) (hl : xs.length = ys.length) (hn : xs.length < 16777216) (hx : ∀ i, i < ys.length → Al H n (xs.getD i .non) (ys.getD i .non)) : Al H (n + 1) (.ref a) (.ref b) :=
  Or.inr (Or.inr ⟨a, b, xs, ys, rfl, rfl, ha, hb, hl, hn, hx⟩)
theorem Al.lsts {H : Hp} {n : Nat} {a b : Addr} {xs ys : List V} (ha : H a = some (.lst xs)) (hb : H b = some (.lst ys)) (hl : xs.length = ys.length) (hn : xs.length < 16777216) (hx : ∀ i, i < ys.length → Al H n (xs.getD i .non) (ys.getD i .non)) : Al H (n + 1) (.ref a) (.ref b) :=
  Or.inr (Or.inl ⟨a, b, xs, ys, rfl, rfl, ha, hb, hl, hn, hx⟩)
theorem Al.tup2 {H : Hp} {n : Nat} {a b : Addr} {x y u v : V} (ha : H a = some (.tup [x, y])) (hb : H b = some (.tup [u, v])) (h1 : Al H n x u) (h2 : Al H n y v) : Al H (n + 1) (.ref a) (.ref b) :=
  Al.tups ha hb rfl (by show 2 < 16777216; decide) fun i hi => match i, hi with
    | 0, _ => h1
    | 1, _ => h2
    | i + 2, hi => absurd hi (by simp)
theorem atI_getD {xs : List V} {i : Nat} (h : i < xs.length) : atI xs (i : Int) = some (xs.getD i .non) := by
  refine atI_nat ?_
  rw [List.getD_eq_getElem?_getD, List.getElem?_eq_getElem h]
  rfl
def spAl : Nat → Sp
  | 0 => fun _ _ _ _ => False
  | n + 1 => fun vs H Q _ => ∃ x y, vs = [x, y] ∧ Al H n x y ∧ Q (.bl true) H
section
variable {K : PySem.W.Frag} {mg : Str → Option Value} {H : Hp} {k dx : Addr} {g : Int} {t c n : Addr}
theorem fG (W : Wd K mg) (h : H k = some (.ins W.c_Stock dx (stF g t c n))) (P : V → Prop) : fldAt K H k "greatest" P = P (.int g) := fldAt_of h W.T_Stock W.n_Stock_greatest stF_g P
theorem fT (W : Wd K mg) (h : H k = some (.ins W.c_Stock dx (stF g t c n))) (P : V → Prop) : fldAt K H k "_texts" P = P (.ref t) := fldAt_of h W.T_Stock W.n_Stock__texts stF_t P
theorem fC (W : Wd K mg) (h : H k = some (.ins W.c_Stock dx (stF g t c n))) (P : V → Prop) : fldAt K H k "_counts" P = P (.ref c) := fldAt_of h W.T_Stock W.n_Stock__counts stF_c P
theorem fN (W : Wd K mg) (h : H k = some (.ins W.c_Stock dx (stF g t c n))) (P : V → Prop) : fldAt K H k "_numbers" P = P (.ref n) := fldAt_of h W.T_Stock W.n_Stock__numbers stF_n P
theorem fM (W : Wd K mg) {m : Str} (h : H k = some (.ins W.c_Stock dx (stF g t c n))) (hm : ¬ m = "greatest" ∧ ¬ m = "_texts" ∧ ¬ m = "_counts" ∧ ¬ m = "_numbers") (P : Prop) : insAt H k W.c_Stock m P = P := insAt_of h (stF_m hm) P
theorem pG (W : Wd K mg) (h : H k = some (.ins W.c_Stock dx (stF g t c n))) (P : Addr → Addr → List (Str × V) → Prop) : putAt K H k "greatest" P = P W.c_Stock dx (stF g t c n) := putAt_of h W.T_Stock W.n_Stock_greatest (by show 4 < 1000; decide) P
end
/-- what the law's own dicts hold -/
structure PlR where
  d : Addr
  t : Addr
  c : Addr
def plF (g : Int) (t c : Addr) : List (Key × V) := [(Sum.inr "last", .int g), (Sum.inr "texts", .ref t), (Sum.inr "counts", .ref c)]
theorem pk1 : ¬ ((Sum.inr "last" : Key) = (Sum.inr "texts" : Key)) := by decide +kernel
theorem pk2 : ¬ ((Sum.inr "last" : Key) = (Sum.inr "counts" : Key)) := by decide +kernel
theorem pk3 : ¬ ((Sum.inr "texts" : Key) = (Sum.inr "counts" : Key)) := by decide +kernel
theorem plF_l {g : Int} {t c : Addr} : valV (plF g t c) (Sum.inr "last") = some (.int g) := valV_pos rfl
theorem plF_t {g : Int} {t c : Addr} : valV (plF g t c) (Sum.inr "texts") = some (.ref t) := (valV_neg pk1).trans (valV_pos rfl)
theorem plF_c {g : Int} {t c : Addr} : valV (plF g t c) (Sum.inr "counts") = some (.ref c) := (valV_neg pk2).trans ((valV_neg pk3).trans (valV_pos rfl))
theorem plF_p {g z : Int} {t c : Addr} : putK (plF g t c) (Sum.inr "last") (.int z) = plF z t c := by
  rw [putK_at plF_l]
  unfold plF
  simp only [List.map_cons, List.map_nil]
  rw [if_pos trivial, if_neg (fun h => pk1 h.symm), if_neg (fun h => pk2 h.symm)]
structure PlAt (H : Hp) (r : PlR) (S : StM) : Prop where
  ob : H r.d = some (.dK (plF S.last r.t r.c))
  tx : H r.t = some (.dK (mp Pc.ik (fun i => txtV i.txt) S.its))
  ct : H r.c = some (.dK (mp Pc.ik (fun i => .int (i.cnt : Int)) S.its))
  ne : r.d ≠ r.t ∧ r.d ≠ r.c ∧ r.t ≠ r.c
def PlR.F (r : PlR) : List Addr := [r.d, r.t, r.c]
theorem PlAt.fr {H H' : Hp} {r : PlR} {S : StM} {F : List Addr} (h : PlAt H r S) (s : Fr F H H') (d : ∀ a ∈ r.F, a ∉ F) : PlAt H' r S :=
  ⟨s.keep _ _ h.ob (d _ (by simp [PlR.F])) rfl, s.keep _ _ h.tx (d _ (by simp [PlR.F])) rfl, s.keep _ _ h.ct (d _ (by simp [PlR.F])) rfl, h.ne⟩
theorem PlAt.same {H H' : Hp} {r : PlR} {S : StM} (h : PlAt H r S) (s : Same H H') : PlAt H' r S := h.fr (F := []) (frS s) (fun _ _ => List.not_mem_nil)
theorem merge_pl {t c : Addr} : mergeK [] [((Sum.inr "last" : Key), V.int 0), (Sum.inr "texts", V.ref t), (Sum.inr "counts", V.ref c)] = plF 0 t c := by
  have h1 : valV [((Sum.inr "last" : Key), V.int 0)] (Sum.inr "texts" : Key) = none := (valV_neg pk1).trans rfl
  have h2 : valV [((Sum.inr "last" : Key), V.int 0), (Sum.inr "texts", V.ref t)] (Sum.inr "counts" : Key) = none := (valV_neg pk2).trans ((valV_neg pk3).trans rfl)
  show putK (putK (putK ([] : List (Key × V)) (Sum.inr "last") (V.int 0)) (Sum.inr "texts") (V.ref t)) (Sum.inr "counts") (V.ref c) = _
  have e0 : putK ([] : List (Key × V)) (Sum.inr "last" : Key) (V.int 0) = [((Sum.inr "last" : Key), V.int 0)] := putK_new _ rfl
  rw [e0, putK_new _ h1]
  show putK [((Sum.inr "last" : Key), V.int 0), (Sum.inr "texts", V.ref t)] _ _ = _
  rw [putK_new _ h2]
  rfl
/-- a new plain -/
structure PlNew (H H' : Hp) (d t c : Addr) : Prop where
  at_ : PlAt H' ⟨d, t, c⟩ ⟨0, []⟩
  sm : Same H H'
  nd : H d = none
  nt : H t = none
  nc : H c = none
theorem pl_new {H : Hp} {d t c : Addr} (hd : H d = none) (ht : upd H d (.dK []) t = none) (hc : upd (upd H d (.dK [])) t (.dK []) c = none) :
    upd (upd (upd H d (.dK [])) t (.dK [])) c (.dK []) d = some (.dK []) ∧ PlNew H (upd (upd (upd (upd H d (.dK [])) t (.dK [])) c (.dK [])) d (.dK (plF 0 t c))) d t c := by
  have dt : d ≠ t := ne_of_none upd_same ht
  have dc : d ≠ c := ne_of_none (upd_of upd_same ht) hc
  have tc : t ≠ c := ne_of_none upd_same hc
  have ht0 : H t = none := by rw [upd_ne dt.symm] at ht; exact ht
  have hc0 : H c = none := by rw [upd_ne tc.symm, upd_ne dc.symm] at hc; exact hc
  refine ⟨by rw [upd_ne dc, upd_ne dt, upd_same], ⟨upd_same, ?_, ?_, dt, dc, tc⟩, ?_, hd, ht0, hc0⟩
  · rw [upd_ne dt.symm, upd_ne tc, upd_same]; rfl
  · rw [upd_ne dc.symm, upd_same]; rfl
  · exact same_grow (same_upd (same_upd (same_new hd) ht) hc) hd
def KeptOk (H : Hp) (g : Addr → Nat) (kl : List V) : Prop := ∀ v ∈ kl, ∃ p a b, ∃ xs : List Nat, v = .ref p ∧ H p = some (.tup [.ref a, .ref b]) ∧ H a = some (.lst (xs.map natV)) ∧ H b = some (.lst (xs.map natV)) ∧ g p = 0 ∧ g a = 0 ∧ g b = 0
theorem KeptOk.fr {H H' : Hp} {g : Addr → Nat} {kl : List V} {F : List Addr} (h : KeptOk H g kl) (s : Fr F H H') (hF : ∀ a ∈ F, g a ≠ 0) : KeptOk H' g kl := fun v hv => by
  obtain ⟨p, a, b, xs, e, h1, h2, h3, g1, g2, g3⟩ := h v hv
  exact ⟨p, a, b, xs, e, s.tup h1 (fun z => hF _ z g1), s.lst h2 (fun z => hF _ z g2), s.lst h3 (fun z => hF _ z g3), g1, g2, g3⟩
/-- what holds between two cells of the law -/
structure LInv (C : Addr) (H : Hp) (g : Addr → Nat) (r : Nat → StR) (rp : Nat → PlR) (S : Nat → StM) (ps pp kp kn : Addr) (kl : List V) (zs : List (List Nat)) (i : Nat) : Prop where
  own : Own H g
  st : ∀ j, j < 2 → StAt C H (r j) (S j)
  pl : ∀ j, j < 2 → PlAt H (rp j) (S j)
  ok : ∀ j, j < 2 → (S j).Ok
  sz : ∀ j, j < 2 → (S j).its.length ≤ i
  gs : ∀ j, j < 2 → ∀ a ∈ (r j).F, g a = 1 + j
  gp : ∀ j, j < 2 → ∀ a ∈ (rp j).F, g a = 3 + j
  hps : H ps = some (.lst [.ref (r 0).k, .ref (r 1).k])
  hpp : H pp = some (.lst [.ref (rp 0).d, .ref (rp 1).d])
  hkp : H kp = some (.lst kl)
  hkn : H kn = some (.lst (zs.map txtV))
  g0 : g ps = 0 ∧ g pp = 0 ∧ g kp = 5 ∧ g kn = 6
  kok : KeptOk H g kl
  ksz : kl.length ≤ i
  zsz : 1 ≤ zs.length ∧ zs.length ≤ i + 1
theorem LInv.mono {C : Addr} {H H' : Hp} {g : Addr → Nat} {r : Nat → StR} {rp : Nat → PlR} {S : Nat → StM} {ps pp kp kn : Addr} {kl : List V} {zs : List (List Nat)} {i : Nat} (I : LInv C H g r rp S ps pp kp kn kl zs i) (s : Same H H') : LInv C H' g r rp S ps pp kp kn kl zs i :=
  ⟨I.own.live fun x h => s.free h, fun j hj => (I.st j hj).same s, fun j hj => (I.pl j hj).same s, I.ok, I.sz, I.gs, I.gp, s _ _ I.hps, s _ _ I.hpp, s _ _ I.hkp, s _ _ I.hkn, I.g0, I.kok.fr (F := []) (frS s) (fun _ h => (List.not_mem_nil h).elim), I.ksz, I.zsz⟩
theorem LInv.up {C : Addr} {H : Hp} {g : Addr → Nat} {r : Nat → StR} {rp : Nat → PlR} {S : Nat → StM} {ps pp kp kn : Addr} {kl : List V} {zs : List (List Nat)} {i : Nat} (I : LInv C H g r rp S ps pp kp kn kl zs i) : LInv C H g r rp S ps pp kp kn kl zs (i + 1) :=
  ⟨I.own, I.st, I.pl, I.ok, fun j hj => Nat.le_succ_of_le (I.sz j hj), I.gs, I.gp, I.hps, I.hpp, I.hkp, I.hkn, I.g0, I.kok, Nat.le_succ_of_le I.ksz, ⟨I.zsz.1, Nat.le_succ_of_le I.zsz.2⟩⟩
theorem LInv.add {C : Addr} {H H' : Hp} {g : Addr → Nat} {r : Nat → StR} {rp : Nat → PlR} {S : Nat → StM} {ps pp kp kn : Addr} {kl : List V} {zs : List (List Nat)} {i : Nat} (I : LInv C H g r rp S ps pp kp kn kl zs i) (s : Fr [kn] H H') (t : List Nat) (h : H' kn = some (.lst ((zs ++ [t]).map txtV))) : LInv C H' g r rp S ps pp kp kn kl (zs ++ [t]) (i + 1) := by
  have n6 : ∀ x, g x ≠ 6 → x ∉ [kn] := fun x hx z => hx (by rw [List.mem_singleton.mp z]; exact I.g0.2.2.2)
  refine ⟨I.own.live s.live, fun j hj => (I.st j hj).fr s fun x hx => n6 x (by rw [I.gs j hj x hx]; omega), fun j hj => (I.pl j hj).fr s fun x hx => n6 x (by rw [I.gp j hj x hx]; omega), I.ok, fun j hj => Nat.le_succ_of_le (I.sz j hj), I.gs, I.gp, s.lst I.hps (n6 _ (by rw [I.g0.1]; decide)), s.lst I.hpp (n6 _ (by rw [I.g0.2.1]; decide)), s.lst I.hkp (n6 _ (by rw [I.g0.2.2.1]; decide)), h, I.g0, I.kok.fr s (fun x hx => by rw [List.mem_singleton.mp hx, I.g0.2.2.2]; decide), Nat.le_succ_of_le I.ksz, ?_⟩
  rw [List.length_append]
  have := I.zsz
  simp only [List.length_cons, List.length_nil]
  omega
theorem LInv.step {C : Addr} {H H' : Hp} {g : Addr → Nat} {r : Nat → StR} {rp : Nat → PlR} {S : Nat → StM} {ps pp kp kn : Addr} {kl : List V} {zs : List (List Nat)} {i j : Nat} (I : LInv C H g r rp S ps pp kp kn kl zs i) (hj : j < 2) (s : Fr ((r j).F ++ (rp j).F) H H') (S' : StM) (h1 : StAt C H' (r j) S') (h2 : PlAt H' (rp j) S') (ok : S'.Ok) (hl : S'.its.length ≤ i + 1) :
    LInv C H' g r rp (fun k => if k = j then S' else S k) ps pp kp kn kl zs (i + 1) := by
  have nF : ∀ x, (g x ≠ 1 + j ∧ g x ≠ 3 + j) → x ∉ (r j).F ++ (rp j).F := fun x hx z => by
    rcases List.mem_append.mp z with z | z
    · exact hx.1 (I.gs j hj x z)
    · exact hx.2 (I.gp j hj x z)
  have nn : ∀ c : Nat, c ≠ 1 + j → c ≠ 3 + j → ∀ x, g x = c → x ∉ (r j).F ++ (rp j).F := fun c a b x hx => nF x ⟨by rw [hx]; exact a, by rw [hx]; exact b⟩
  refine ⟨I.own.live s.live, fun k hk => ?_, fun k hk => ?_, fun k hk => ?_, fun k hk => ?_, I.gs, I.gp, s.lst I.hps (nn 0 (by omega) (by omega) _ I.g0.1), s.lst I.hpp (nn 0 (by omega) (by omega) _ I.g0.2.1), s.lst I.hkp (nn 5 (by omega) (by omega) _ I.g0.2.2.1), s.lst I.hkn (nn 6 (by omega) (by omega) _ I.g0.2.2.2), I.g0, I.kok.fr s (fun x hx z => nn 0 (by omega) (by omega) x z hx), Nat.le_succ_of_le I.ksz, ⟨I.zsz.1, Nat.le_succ_of_le I.zsz.2⟩⟩
  · by_cases e : k = j
    · subst e
      simp only [if_true]
      exact h1
    · simp only [if_neg e]
      exact (I.st k hk).fr s fun x hx => nn (1 + k) (by omega) (by omega) x (I.gs k hk x hx)
  · by_cases e : k = j
    · subst e
      simp only [if_true]
      exact h2
    · simp only [if_neg e]
      exact (I.pl k hk).fr s fun x hx => nn (3 + k) (by omega) (by omega) x (I.gp k hk x hx)
  · by_cases e : k = j
    · subst e
      simp only [if_true]
      exact ok
    · simp only [if_neg e]
      exact I.ok k hk
  · by_cases e : k = j
    · subst e
      simp only [if_true]
      exact hl
    · simp only [if_neg e]
      exact Nat.le_succ_of_le (I.sz k hk)
theorem LInv.kept {C : Addr} {H H' : Hp} {g : Addr → Nat} {r : Nat → StR} {rp : Nat → PlR} {S : Nat → StM} {ps pp kp kn : Addr} {kl : List V} {zs : List (List Nat)} {i : Nat} (I : LInv C H g r rp S ps pp kp kn kl zs i) (s : Fr [kp] H H') {p a b : Addr} {xs : List Nat} (h : H' kp = some (.lst (kl ++ [.ref p]))) (hn : H p = none ∧ H a = none ∧ H b = none)
    (hp : H' p = some (.tup [.ref a, .ref b])) (ha : H' a = some (.lst (xs.map natV))) (hb : H' b = some (.lst (xs.map natV))) : LInv C H' g r rp S ps pp kp kn (kl ++ [.ref p]) zs (i + 1) := by
  have n5 : ∀ x, g x ≠ 5 → x ∉ [kp] := fun x hx z => hx (by rw [List.mem_singleton.mp z]; exact I.g0.2.2.1)
  have k5 : ∀ x ∈ [kp], g x ≠ 0 := fun x hx => by rw [List.mem_singleton.mp hx, I.g0.2.2.1]; decide
  refine ⟨I.own.live s.live, fun j hj => (I.st j hj).fr s fun x hx => n5 x (by rw [I.gs j hj x hx]; omega), fun j hj => (I.pl j hj).fr s fun x hx => n5 x (by rw [I.gp j hj x hx]; omega), I.ok, fun j hj => Nat.le_succ_of_le (I.sz j hj), I.gs, I.gp, s.lst I.hps (n5 _ (by rw [I.g0.1]; decide)), s.lst I.hpp (n5 _ (by rw [I.g0.2.1]; decide)), h, s.lst I.hkn (n5 _ (by rw [I.g0.2.2.2]; decide)), I.g0, fun v hv => ?_, ?_, ⟨I.zsz.1, Nat.le_succ_of_le I.zsz.2⟩⟩
  · rcases List.mem_append.mp hv with hv | hv
    · exact I.kok.fr s k5 v hv
    · exact ⟨p, a, b, xs, List.mem_singleton.mp hv, hp, ha, hb, I.own _ hn.1, I.own _ hn.2.1, I.own _ hn.2.2⟩
  · rw [List.length_append]
    have := I.ksz
    simp only [List.length_cons, List.length_nil]
    omega
theorem at2 {α : Type} {f : Nat → α} {j : Nat} (h : j < 2) : atI [f 0, f 1] (j : Int) = some (f j) := by
  rcases (by omega : j = 0 ∨ j = 1) with rfl | rfl <;> rfl
theorem bit (c : Prop) [Decidable c] : ∃ j : Nat, (if c then (1 : Int) else 0) = (j : Int) ∧ j < 2 := by
  by_cases h : c
  · exact ⟨1, if_pos h, by omega⟩
  · exact ⟨0, if_neg h, by omega⟩
theorem free_len (S : StM) (i : Pc) : (S.free i).its.length ≤ S.its.length := by
  unfold StM.free
  split
  · refine Nat.le_trans (List.length_filter_le _ _) ?_
    show (S.its.map _).length ≤ _
    rw [List.length_map]
    exact Nat.le_refl _
  · show (S.its.map _).length ≤ _
    rw [List.length_map]
    exact Nat.le_refl _
theorem need_len {S : StM} (ok : S.Ok) (t : List Nat) : (S.need t).1.its.length ≤ S.its.length + 1 := by
  cases e : S.byT t with
  | some i => rw [need_old e]; show (S.its.map _).length ≤ _; rw [List.length_map]; omega
  | none => rw [need_new ok e]; show (S.its ++ [_]).length ≤ _; rw [List.length_append]; simp
section
variable {P : Program} {w : World} {K : PySem.W.Frag} {mg : Str → Option Value} {base : Heap}
def sp_Stock___init__ {K : PySem.W.Frag} {mg : Str → Option Value} (W : Wd K mg) : Sp := fun vs H Q _ => ∃ p dx, vs = [.ref p] ∧ H p = some (.ins W.c_Stock dx []) ∧ ∀ r H', r.k = p → r.dx = dx → H r.t = none → H r.c = none → H r.n = none → StAt W.c_Stock H' r ⟨0, []⟩ → Fr [p] H H' → Q .non H'
theorem ok_Stock___init__ (W : Wd K mg) : FnOk P w K mg base CX0 1 W.f_Stock___init__ W.d_Stock___init__ ["self"] (sp_Stock___init__ W) := by
  refine W.F_Stock___init__.ok sc_Stock___init__ (fun vs H Q E h => ?_) (fun cdv A outer s H vs Q E hr h => ?_)
  · obtain ⟨p, dx, rfl, hp, q⟩ := h
    rfl
  · obtain ⟨p, dx, rfl, hp, q⟩ := h
    refine ⟨_, (pss_cons (y_sfld (K := K) (pv 0) pe_int)
      (pss_cons (y_sfld (K := K) (pv 0) pe_dnewK)
      (pss_cons (y_sfld (K := K) (pv 0) pe_dnewK)
      (pss_one (y_sfld (K := K) (pv 0) pe_dnewK))))), ?_⟩
    walk_at "ev"
    rw [putAt_of hp W.T_Stock W.n_Stock_greatest (by show 0 < 1000; decide)]
    have z1 := putF_le "greatest" (V.int 0) []
    generalize e1 : putF "greatest" (V.int 0) [] = f1 at z1 ⊢
    intro t ht
    have pt : p ≠ t := ne_of_none upd_same ht
    rw [putAt_of (upd_of upd_same ht) W.T_Stock W.n_Stock__texts (by simp at z1; omega)]
    have z2 := putF_le "_texts" (V.ref t) f1
    generalize e2 : putF "_texts" (V.ref t) f1 = f2 at z2 ⊢
    intro c hc
    have pc : p ≠ c := ne_of_none upd_same hc
    have tc : t ≠ c := ne_of_none (by rw [upd_ne pt.symm]; exact upd_same) hc
    rw [putAt_of (upd_of upd_same hc) W.T_Stock W.n_Stock__counts (by simp at z1; omega)]
    have z3 := putF_le "_counts" (V.ref c) f2
    generalize e3 : putF "_counts" (V.ref c) f2 = f3 at z3 ⊢
    intro n hn
    have pn : p ≠ n := ne_of_none upd_same hn
    have cn : c ≠ n := ne_of_none (by rw [upd_ne pc.symm]; exact upd_same) hn
    have tn : t ≠ n := ne_of_none (by rw [upd_ne pt.symm, upd_ne tc, upd_ne pt.symm]; exact upd_same) hn
    rw [putAt_of (upd_of upd_same hn) W.T_Stock W.n_Stock__numbers (by simp at z1; omega)]
    have ht0 : H t = none := by rw [upd_ne pt.symm] at ht; exact ht
    have hc0 : H c = none := by rw [upd_ne pc.symm, upd_ne tc.symm, upd_ne pc.symm] at hc; exact hc
    have hn0 : H n = none := by rw [upd_ne pn.symm, upd_ne cn.symm, upd_ne pn.symm, upd_ne tn.symm, upd_ne pn.symm] at hn; exact hn
    have hf : putF "_numbers" (V.ref n) f3 = stF 0 t c n := by rw [← e3, ← e2, ← e1]; exact stF_mk
    rw [hf]
    refine q ⟨p, dx, t, c, n⟩ _ rfl rfl ht0 hc0 hn0 ⟨upd_same, ?_, ?_, ?_, ⟨tc, tn, cn⟩⟩ ?_
    · rw [upd_ne pt.symm, upd_ne tn, upd_ne pt.symm, upd_ne tc, upd_ne pt.symm, upd_same]
      rfl
    · rw [upd_ne pc.symm, upd_ne cn, upd_ne pc.symm, upd_same]
      rfl
    · rw [upd_ne pn.symm, upd_same]
      rfl
    · have s0 : Fr [p] H (upd H p (.ins W.c_Stock dx f1)) := Fr.upd (by simp) hp rfl
      have s1 := s0.new (o := .dK []) ht
      have s2 := s1.upd2 (o := .ins W.c_Stock dx f2) (by simp) (upd_of upd_same ht) rfl
      have s3 := s2.new (o := .dK []) hc
      have s4 := s3.upd2 (o := .ins W.c_Stock dx f3) (by simp) (upd_of upd_same hc) rfl
      have s5 := s4.new (o := .dK []) hn
      exact s5.upd2 (o := .ins W.c_Stock dx (stF 0 t c n)) (by simp) (upd_of upd_same hn) rfl
def sp_Stock_numbers {K : PySem.W.Frag} {mg : Str → Option Value} (W : Wd K mg) : Sp := fun vs H Q _ => ∃ r S, vs = [.ref r.k] ∧ (StAt W.c_Stock H r S ∧ S.Ok) ∧ ∀ p, H p = none → Q (.ref p) (upd H p (.lst (S.its.map fun i => natV i.num)))
theorem ok_Stock_numbers (W : Wd K mg) : FnOk P w K mg base CX0 1 W.f_Stock_numbers W.d_Stock_numbers ["self"] (sp_Stock_numbers W) := by
  refine W.F_Stock_numbers.ok sc_Stock_numbers (fun vs H Q E h => ?_) (fun cdv A outer s H vs Q E hr h => ?_)
  · obtain ⟨r, S, rfl, ⟨hS, ok⟩, q⟩ := h
    rfl
  · obtain ⟨r, S, rfl, ⟨hS, ok⟩, q⟩ := h
    refine ⟨_, (pss_one (ps_ret (pe_callB (y_sortedDI rfl) (by rfl) W.z_sorted (by decide +kernel) (pa_cons (y_fld (K := K) (pv 0)) pa_nil)))), ?_⟩
    walk_at "ev"
    rw [fT W hS.ob]
    walk_at "ev"
    refine ⟨r.t, _, S.its.map fun i => (i.num : Int), rfl, .inl hS.tx, ?_, fun ys p hp hs h => ?_⟩
    · rw [mp_keys, List.map_map]
      rfl
    · have e : ys = S.its.map fun i => (i.num : Int) := perm_sorted hp hs (by
        have := ok.asc
        rw [List.pairwise_map] at this ⊢
        exact this.imp fun h => by omega)
      rw [e, List.map_map]
      exact q p h
def sp__law_whole {K : PySem.W.Frag} {mg : Str → Option Value} (W : Wd K mg) : Sp := fun vs H Q _ => ∃ (i : Int), vs = [.int i] ∧ Q (.bl true) H
theorem ok__law_whole (W : Wd K mg) : FnOk P w K mg base CX0 1 W.f__law_whole W.d__law_whole ["_law_got"] (sp__law_whole W) := by
  refine W.F__law_whole.ok sc__law_whole (fun vs H Q E h => ?_) (fun cdv A outer s H vs Q E hr h => ?_)
  · obtain ⟨i, rfl, q⟩ := h
    rfl
  · obtain ⟨i, rfl, q⟩ := h
    refine ⟨_, (pss_one (ps_ret (pe_and (pe_callB y_isi (by rfl) W.z_isinstance (by decide +kernel) (pa_cons (pv 0) (pa_cons (pe_bltn (v := .ty "int") (by rfl) W.z_int (by decide +kernel) rfl) pa_nil))) (pe_one (pe_not (pe_callB y_isi (by rfl) W.z_isinstance (by decide +kernel) (pa_cons (pv 0) (pa_cons (pe_bltn (v := .ty "bool") (by rfl) W.z_bool (by decide +kernel) rfl) pa_nil)))))))), ?_⟩
    walk_at "ev"
    exact q
theorem ok__law_alike (W : Wd K mg) : ∀ n, FnOk P w K mg base CX0 (n + 1) W.f__law_alike W.d__law_alike ["_law_got", "_law_due"] (spAl n)
  | 0 => ⟨fun _ _ _ _ h => h.elim, fun _ _ _ _ _ _ _ _ _ _ _ _ _ h => h.elim⟩
  | n + 1 => by
    have ih := ok__law_alike W n
    refine W.F__law_alike.ok sc__law_alike (fun vs H Q E h => ?_) (fun cdv A outer s H vs Q E hr h => ?_)
    · obtain ⟨x, y, rfl, _⟩ := h
      rfl
    · obtain ⟨x, y, rfl, hA, q⟩ := h
      refine ⟨_, (pss_cons (ps_if (pt_cmpR y_is (pv 1) pe_non (nomark _)) (pss_one (ps_ret (pe_cmpR y_is (pv 0) pe_non (nomark _)))) pss_nil)
      (pss_cons (ps_if (pt_cmpR y_is (pv 1) pe_bl (nomark _)) (pss_one (ps_ret (pe_cmpR y_is (pv 0) pe_bl (nomark _)))) pss_nil)
      (pss_cons (ps_if (pt_val (pe_callB y_isi (by rfl) W.z_isinstance (by decide +kernel) (pa_cons (pv 1) (pa_cons (pe_bltn (v := .ty "str") (by rfl) W.z_str (by decide +kernel) rfl) pa_nil)))) (pss_one (ps_ret (pe_and (pe_callB y_isi (by rfl) W.z_isinstance (by decide +kernel) (pa_cons (pv 0) (pa_cons (pe_bltn (v := .ty "str") (by rfl) W.z_str (by decide +kernel) rfl) pa_nil))) (pe_one (pe_cmpR (y_eq (K := K) hr.units) (pv 0) (pv 1) (nomark _)))))) pss_nil)
      (pss_cons (ps_if (pt_val (pe_callB y_isi (by rfl) W.z_isinstance (by decide +kernel) (pa_cons (pv 1) (pa_cons (pe_bltn (v := .ty "int") (by rfl) W.z_int (by decide +kernel) rfl) pa_nil)))) (pss_one (ps_ret (pe_and (pe_callS (E := (fun _ => E0)) (ok__law_whole W) (hr.mono (by first | decide | omega)) (by rfl) W.m__law_whole W.F__law_whole.kp W.b__law_whole (fun _ => pass0S) (pa_cons (pv 0) pa_nil)) (pe_one (pe_cmpR (y_eq (K := K) hr.units) (pv 0) (pv 1) (nomark _)))))) pss_nil)
      (pss_cons (ps_if (PW.pt (pw_and (pt_val (pe_callB y_isi (by rfl) W.z_isinstance (by decide +kernel) (pa_cons (pv 1) (pa_cons (pe_bltn (v := .ty "tuple") (by rfl) W.z_tuple (by decide +kernel) rfl) pa_nil)))) (pw_and1 (pt_not (pt_val (pe_callB y_isi (by rfl) W.z_isinstance (by decide +kernel) (pa_cons (pv 0) (pa_cons (pe_bltn (v := .ty "tuple") (by rfl) W.z_tuple (by decide +kernel) rfl) pa_nil)))))))) (pss_one (ps_ret pe_bl)) pss_nil)
      (pss_cons (ps_if (PW.pt (pw_and (pt_val (pe_callB y_isi (by rfl) W.z_isinstance (by decide +kernel) (pa_cons (pv 1) (pa_cons (pe_bltn (v := .ty "list") (by rfl) W.z_list (by decide +kernel) rfl) pa_nil)))) (pw_and1 (pt_not (pt_val (pe_callB y_isi (by rfl) W.z_isinstance (by decide +kernel) (pa_cons (pv 0) (pa_cons (pe_bltn (v := .ty "list") (by rfl) W.z_list (by decide +kernel) rfl) pa_nil)))))))) (pss_one (ps_ret pe_bl)) pss_nil)
      (pss_cons (ps_if (pt_cmpR (y_ne (K := K) hr.units) (pe_callB (y_len (K := K)) (by rfl) W.z_len (by decide +kernel) (pa_cons (pv 0) pa_nil)) (pe_callB (y_len (K := K)) (by rfl) W.z_len (by decide +kernel) (pa_cons (pv 1) pa_nil)) (nomark _)) (pss_one (ps_ret pe_bl)) pss_nil)
      (pss_cons (ps_for PassesOwn.never rfl (pi_range1 (by rfl) W.z_range (pa_cons (pe_callB (y_len (K := K)) (by rfl) W.z_len (by decide +kernel) (pa_cons (pv 1) pa_nil)) pa_nil)) (pg_name (i := 2) sc__law_alike.nd rfl (by first | exact Or.inl rfl | exact Or.inr rfl)) (pss_one (ps_if (pt_not (pt_val (pe_callS (E := (fun _ => E0)) ih (hr.mono (by first | decide | omega)) (by rfl) W.m__law_alike W.F__law_alike.kp W.b__law_alike (fun _ => pass0S) (pa_cons (pe_ix (y_ix (K := K)) (pv 0) (pv 2) (fun _ _ => rfl)) (pa_cons (pe_ix (y_ix (K := K)) (pv 1) (pv 2) (fun _ _ => rfl)) pa_nil))))) (pss_one (ps_ret pe_bl)) pss_nil)))
      (pss_one (ps_ret pe_bl)))))))))), ?_⟩
      have hA0 := hA
      have scalar : ∀ m, Al H m x y → (y = .non ∨ y = .bl true ∨ (∃ i, y = .int i) ∨ ∃ s, y = .str s) → x = y := by
        intro m
        induction m with
        | zero => intro h _; exact h.1
        | succ m im =>
          intro h hy
          rcases h with h | ⟨a, b, xs, ys, rfl, rfl, _⟩ | ⟨a, b, xs, ys, rfl, rfl, _⟩
          · exact im h hy
          · rcases hy with e | e | ⟨_, e⟩ | ⟨_, e⟩ <;> cases e
          · rcases hy with e | e | ⟨_, e⟩ | ⟨_, e⟩ <;> cases e
      have kinds : ∀ m, Al H m x y → (y = .non ∨ y = .bl true ∨ (∃ i, y = .int i) ∨ ∃ s, y = .str s) ∨ (∃ k, k < m ∧ ∃ a b xs ys, x = .ref a ∧ y = .ref b ∧ H a = some (.lst xs) ∧ H b = some (.lst ys) ∧ xs.length = ys.length ∧ xs.length < 16777216 ∧ ∀ i, i < ys.length → Al H k (xs.getD i .non) (ys.getD i .non)) ∨
          ∃ k, k < m ∧ ∃ a b xs ys, x = .ref a ∧ y = .ref b ∧ H a = some (.tup xs) ∧ H b = some (.tup ys) ∧ xs.length = ys.length ∧ xs.length < 16777216 ∧ ∀ i, i < ys.length → Al H k (xs.getD i .non) (ys.getD i .non) := by
        intro m
        induction m with
        | zero => intro h; exact .inl h.2
        | succ m im =>
          intro h
          rcases h with h | h | h
          · rcases im h with h | ⟨k, hk, h⟩ | ⟨k, hk, h⟩
            · exact .inl h
            · exact .inr (.inl ⟨k, by omega, h⟩)
            · exact .inr (.inr ⟨k, by omega, h⟩)
          · exact .inr (.inl ⟨m, by omega, h⟩)
          · exact .inr (.inr ⟨m, by omega, h⟩)
      rcases kinds n hA with hy | ⟨k, hk, a, b, xs, ys, rfl, rfl, ha, hb, hlen, hl, hall⟩ | ⟨k, hk, a, b, xs, ys, rfl, rfl, ha, hb, hlen, hl, hall⟩
      · have e := scalar n hA hy
        subst e
        rcases hy with rfl | rfl | ⟨i, rfl⟩ | ⟨i, rfl⟩
        · walk_at "ev"
          exact q
        · walk_at "ev"
          exact q
        · walk_at "ev"
          refine ⟨_, rfl, ?_⟩
          walk_at "ev"
          exact q
        · walk_at "ev"
          exact q
      · obtain ⟨n, rfl⟩ : ∃ m, n = m + 1 := ⟨n - 1, by omega⟩
        walk_at "ev"
        refine isi_lst (b := false) hb (by decide +kernel) ?_
        walk_at "ev"
        refine isi_lst (b := false) hb (by decide +kernel) ?_
        walk_at "ev"
        refine isi_lst (b := false) hb (by decide +kernel) ?_
        walk_at "ev"
        refine isi_lst (b := true) hb (by decide +kernel) ?_
        walk_at "ev"
        refine isi_lst (b := true) ha (by decide +kernel) ?_
        walk_at "ev"
        refine ⟨xs, .inl (SqL.of ha), ys, .inl (SqL.of hb), ?_⟩
        rw [hlen, decide_eq_true rfl]
        walk_at "ev"
        refine ⟨ys, .inl (SqL.of hb), ⟨by omega, by omega⟩, ?_⟩
        rw [Int.toNat_natCast]
        refine for_rng (fun i σ H' => H' = H ∧ ∃ z, σ = [some (V.ref a), some (V.ref b), z]) ⟨rfl, none, rfl⟩ ?_ ?_
        · rintro i σ H' hi ⟨rfl, z, rfl⟩
          walk_at "ev"
          rw [Int.zero_add]
          refine ⟨xs, _, .inl (SqL.of ha), atI_getD (by omega), ys, _, .inl (SqL.of hb), atI_getD hi, _, _, rfl, (hall i hi).le (by omega), ?_⟩
          walk_at "ev"
          exact ⟨_, rfl⟩
        · rintro σ H' ⟨rfl, z, rfl⟩
          walk_at "ev"
          exact q
      · obtain ⟨n, rfl⟩ : ∃ m, n = m + 1 := ⟨n - 1, by omega⟩
        walk_at "ev"
        refine isi_tup (b := false) hb (by decide +kernel) ?_
        walk_at "ev"
        refine isi_tup (b := false) hb (by decide +kernel) ?_
        walk_at "ev"
        refine isi_tup (b := true) hb (by decide +kernel) ?_
        walk_at "ev"
        refine isi_tup (b := true) ha (by decide +kernel) ?_
        walk_at "ev"
        refine isi_tup (b := false) hb (by decide +kernel) ?_
        walk_at "ev"
        refine ⟨xs, .inr (SqT.of ha), ys, .inr (SqT.of hb), ?_⟩
        rw [hlen, decide_eq_true rfl]
        walk_at "ev"
        refine ⟨ys, .inr (SqT.of hb), ⟨by omega, by omega⟩, ?_⟩
        rw [Int.toNat_natCast]
        refine for_rng (fun i σ H' => H' = H ∧ ∃ z, σ = [some (V.ref a), some (V.ref b), z]) ⟨rfl, none, rfl⟩ ?_ ?_
        · rintro i σ H' hi ⟨rfl, z, rfl⟩
          walk_at "ev"
          rw [Int.zero_add]
          refine ⟨xs, _, .inr (SqT.of ha), atI_getD (by omega), ys, _, .inr (SqT.of hb), atI_getD hi, _, _, rfl, (hall i hi).le (by omega), ?_⟩
          walk_at "ev"
          exact ⟨_, rfl⟩
        · rintro σ H' ⟨rfl, z, rfl⟩
          walk_at "ev"
          exact q

def sp_is_number {K : PySem.W.Frag} {mg : Str → Option Value} (W : Wd K mg) : Sp := fun vs H Q _ => ∃ v, vs = [v] ∧ tyN v ≠ none ∧ Q (.bl (isI v)) H
theorem ok_is_number (W : Wd K mg) : FnOk P w K mg base CX0 1 W.f_is_number W.d_is_number ["thing"] (sp_is_number W) := by
  refine W.F_is_number.ok sc_is_number (fun vs H Q E h => ?_) (fun cdv A outer s H vs Q E hr h => ?_)
  · obtain ⟨v, rfl, hv, q⟩ := h
    rfl
  · obtain ⟨v, rfl, hv, q⟩ := h
    refine ⟨_, (pss_one (ps_ret (pe_and (pe_callB y_isi (by rfl) W.z_isinstance (by decide +kernel) (pa_cons (pv 0) (pa_cons (pe_bltn (v := .ty "int") (by rfl) W.z_int (by decide +kernel) rfl) pa_nil))) (pe_one (pe_not (pe_callB y_isi (by rfl) W.z_isinstance (by decide +kernel) (pa_cons (pv 0) (pa_cons (pe_bltn (v := .ty "bool") (by rfl) W.z_bool (by decide +kernel) rfl) pa_nil)))))))), ?_⟩
    cases v <;> first | (exact absurd rfl hv) | skip
    · walk_at "ev"
      rw [isi_mk (a := "NoneType") (b := false) rfl (by decide +kernel)]
      walk_at "ev"
      exact q
    · walk_at "ev"
      exact q
    · walk_at "ev"
      exact q
    · walk_at "ev"
      exact q
def sp_Stock__is_kept {K : PySem.W.Frag} {mg : Str → Option Value} (W : Wd K mg) : Sp := fun vs H Q _ => ∃ r S v, vs = [.ref r.k, v] ∧ (StAt W.c_Stock H r S ∧ tyN v ≠ none) ∧ Q (.bl (S.find v).isSome) H
theorem ok_Stock__is_kept (W : Wd K mg) : FnOk P w K mg base CX0 2 W.f_Stock__is_kept W.d_Stock__is_kept ["self", "number"] (sp_Stock__is_kept W) := by
  refine W.F_Stock__is_kept.ok sc_Stock__is_kept (fun vs H Q E h => ?_) (fun cdv A outer s H vs Q E hr h => ?_)
  · obtain ⟨r, S, v, rfl, ⟨hS, hv⟩, q⟩ := h
    rfl
  · obtain ⟨r, S, v, rfl, ⟨hS, hv⟩, q⟩ := h
    refine ⟨_, (pss_one (ps_ret (pe_and (pe_callS (E := (fun _ => E0)) (ok_is_number W) (hr.mono (by first | decide | omega)) (by rfl) W.m_is_number W.F_is_number.kp W.b_is_number (fun _ => pass0S) (pa_cons (pv 1) pa_nil)) (pe_one (pe_cmp (pc_din (hu_of hr) (pv 1) (y_fld (K := K) (pv 0))) (by rfl)))))), ?_⟩
    walk_at "ev"
    refine ⟨v, rfl, hv, ?_⟩
    walk_at "ev"
    cases v <;> first | (exact absurd rfl hv) | skip
    · exact q
    · exact q
    · rename_i n
      show brE true _ _ _ _ _
      walk_at "ev"
      rw [fT W hS.ob]
      walk_at "ev"
      refine ⟨_, dgI hS.tx (valV_mp _), ?_⟩
      rw [Option.isSome_map]
      exact q
    · exact q
def sp_Stock_count {K : PySem.W.Frag} {mg : Str → Option Value} (W : Wd K mg) : Sp := fun vs H Q _ => ∃ r S v, vs = [.ref r.k, v] ∧ (StAt W.c_Stock H r S ∧ tyN v ≠ none) ∧ Q (natV (((S.find v).map (·.cnt)).getD 0)) H
theorem ok_Stock_count (W : Wd K mg) : FnOk P w K mg base CX0 3 W.f_Stock_count W.d_Stock_count ["self", "number"] (sp_Stock_count W) := by
  refine W.F_Stock_count.ok sc_Stock_count (fun vs H Q E h => ?_) (fun cdv A outer s H vs Q E hr h => ?_)
  · obtain ⟨r, S, v, rfl, ⟨hS, hv⟩, q⟩ := h
    rfl
  · obtain ⟨r, S, v, rfl, ⟨hS, hv⟩, q⟩ := h
    refine ⟨_, (pss_one (ps_ret (pe_ifExp (pt_val (pe_methE (E := (fun _ => E0)) (pv 0) W.T_Stock W.q_Stock__is_kept (ok_Stock__is_kept W) (hr.mono (by first | decide | omega)) W.b_Stock__is_kept (fun _ => pass0S) (pa_cons (pv 1) pa_nil))) (pe_dget (hu_of hr) (y_fld (K := K) (pv 0)) (pv 1) (fun _ _ => rfl)) pe_int))), ?_⟩
    walk_at "ev"
    rw [fM W hS.ob (by decide +kernel)]
    walk_at "ev"
    refine ⟨r, S, v, rfl, ⟨hS, hv⟩, ?_⟩
    walk_at "ev"
    cases e : S.find v with
    | some i =>
      rw [e] at q
      walk_at "ev"
      rw [fC W hS.ob]
      walk_at "ev"
      obtain ⟨ev, _⟩ := StM.find_some e
      subst ev
      refine ⟨_, dgI hS.ct (by rw [valV_mp, show S.its.find? _ = some i from e]; rfl), ?_⟩
      exact q
    | none =>
      rw [e] at q
      walk_at "ev"
      exact q
def sp__law_counted {K : PySem.W.Frag} {mg : Str → Option Value} (W : Wd K mg) : Sp := fun vs H Q _ => ∃ r rp S, ∃ n : Int, vs = [.ref r.k, .ref rp.d, .int n] ∧ (StAt W.c_Stock H r S ∧ PlAt H rp S) ∧ Q (.bl true) H
theorem ok__law_counted (W : Wd K mg) : FnOk P w K mg base CX0 8 W.f__law_counted W.d__law_counted ["_law_stock", "_law_plain", "_law_number"] (sp__law_counted W) := by
  refine W.F__law_counted.ok sc__law_counted (fun vs H Q E h => ?_) (fun cdv A outer s H vs Q E hr h => ?_)
  · obtain ⟨r, rp, S, n, rfl, ⟨hS, hP⟩, q⟩ := h
    rfl
  · obtain ⟨r, rp, S, n, rfl, ⟨hS, hP⟩, q⟩ := h
    refine ⟨_, (pss_one (ps_ret (pe_callS (E := (fun _ => E0)) (ok__law_alike W 6) (hr.mono (by first | decide | omega)) (by rfl) W.m__law_alike W.F__law_alike.kp W.b__law_alike (fun _ => pass0S) (pa_cons (pe_methE (E := (fun _ => E0)) (pv 0) W.T_Stock W.q_Stock_count (ok_Stock_count W) (hr.mono (by first | decide | omega)) W.b_Stock_count (fun _ => pass0S) (pa_cons (pv 2) pa_nil)) (pa_cons (pe_dget2 (hu_of hr) (pe_dget (hu_of hr) (pv 1) pe_str (fun _ _ => rfl)) (pv 2) pe_int ⟨by rfl, by rfl, by rfl, by rfl⟩) pa_nil))))), ?_⟩
    walk_at "ev"
    rw [fM W hS.ob (by decide +kernel)]
    walk_at "ev"
    refine ⟨r, S, _, rfl, ⟨hS, by simp [tyN]⟩, ?_⟩
    walk_at "ev"
    refine ⟨_, dgS hP.ob plF_c, ?_⟩
    walk_at "ev"
    refine ⟨.inl ⟨_, .inl hP.ct⟩, _, dgI hP.ct (valV_mp _), ?_⟩
    refine ⟨_, _, rfl, ?_, q⟩
    have e : (Option.map (fun i : Pc => V.int (i.cnt : Int)) (S.its.find? fun i => decide (i.ik = Sum.inl n))).getD (.int 0) = natV (((S.find (.int n)).map (·.cnt)).getD 0) := by
      show _ = natV (((S.its.find? fun i => decide (i.ik = Sum.inl n)).map (·.cnt)).getD 0)
      cases S.its.find? fun i => decide (i.ik = Sum.inl n) <;> rfl
    rw [e]
    exact Al.int _
def sp_Stock__check_kept {K : PySem.W.Frag} {mg : Str → Option Value} (W : Wd K mg) : Sp := fun vs H Q E => ∃ r S v, vs = [.ref r.k, v] ∧ (StAt W.c_Stock H r S ∧ tyN v ≠ none) ∧ ((S.find v).isSome = true → Q .non H) ∧ (S.find v = none → E (.ref W.e_NotThere) none H)
theorem ok_Stock__check_kept (W : Wd K mg) : FnOk P w K mg base (L2.CX P w) 3 W.f_Stock__check_kept W.d_Stock__check_kept ["self", "number"] (sp_Stock__check_kept W) := by
  refine W.F_Stock__check_kept.okX sc_Stock__check_kept (fun vs H Q E h => ?_) (fun cdv A outer s H vs Q E hr h => ?_)
  · obtain ⟨r, S, v, rfl, ⟨hS, hv⟩, q1, q2⟩ := h
    rfl
  · obtain ⟨r, S, v, rfl, ⟨hS, hv⟩, q1, q2⟩ := h
    refine ⟨_, (pss_one (ps_if (pt_not (pt_val (pe_methE (E := (fun _ => E0)) (pv 0) W.T_Stock W.q_Stock__is_kept (ok_Stock__is_kept W) (hr.mono (by first | decide | omega)) W.b_Stock__is_kept (fun _ => pass0S) (pa_cons (pv 1) pa_nil)))) (pss_one (ps_raiseE rfl (takes_of rfl rfl rfl rfl) W.E_NotThere)) pss_nil)), ?_⟩
    walk_at "ev"
    rw [fM W hS.ob (by decide +kernel)]
    walk_at "ev"
    refine ⟨r, S, v, rfl, ⟨hS, hv⟩, ?_⟩
    walk_at "ev"
    cases e : S.find v with
    | some i =>
      walk_at "ev"
      exact q1 (by rw [e]; rfl)
    | none =>
      walk_at "ev"
      exact q2 e
def sp_Stock_piece {K : PySem.W.Frag} {mg : Str → Option Value} (W : Wd K mg) : Sp := fun vs H Q E => ∃ r S v, vs = [.ref r.k, v] ∧ (StAt W.c_Stock H r S ∧ tyN v ≠ none) ∧ (∀ i, S.find v = some i → Q (txtV i.txt) H) ∧ (S.find v = none → E (.ref W.e_NotThere) none H)
theorem ok_Stock_piece (W : Wd K mg) : FnOk P w K mg base (L2.CX P w) 4 W.f_Stock_piece W.d_Stock_piece ["self", "number"] (sp_Stock_piece W) := by
  refine W.F_Stock_piece.okX sc_Stock_piece (fun vs H Q E h => ?_) (fun cdv A outer s H vs Q E hr h => ?_)
  · obtain ⟨r, S, v, rfl, ⟨hS, hv⟩, q1, q2⟩ := h
    rfl
  · obtain ⟨r, S, v, rfl, ⟨hS, hv⟩, q1, q2⟩ := h
    refine ⟨_, (pss_cons (ps_expr (pe_methE (E := (WE (fun cls d _ H => E cls d H))) (pv 0) W.T_Stock W.q_Stock__check_kept (ok_Stock__check_kept W) (hr.mono (by first | decide | omega)) W.b_Stock__check_kept (fun σ => passAt (takes_of rfl rfl rfl rfl) σ) (pa_cons (pv 1) pa_nil)))
      (pss_one (ps_ret (pe_dget (hu_of hr) (y_fld (K := K) (pv 0)) (pv 1) (fun _ _ => rfl))))), ?_⟩
    walk_at "ev"
    rw [fM W hS.ob (by decide +kernel)]
    walk_at "ev"
    refine ⟨r, S, v, rfl, ⟨hS, hv⟩, fun h => ?_, q2⟩
    obtain ⟨i, e⟩ := Option.isSome_iff_exists.mp h
    walk_at "ev"
    rw [fT W hS.ob]
    walk_at "ev"
    obtain ⟨ev, _⟩ := StM.find_some e
    subst ev
    refine ⟨_, dgI hS.tx (by rw [valV_mp, show S.its.find? _ = some i from e]; rfl), ?_⟩
    exact q1 i e
def errW {K : PySem.W.Frag} {mg : Str → Option Value} (W : Wd K mg) (cls : Value) (wd : Str) : Prop := (cls = .ref W.e_NotThere ∧ wd = "not there")
theorem err_NotThere {K : PySem.W.Frag} {mg : Str → Option Value} (W : Wd K mg) : errW W (.ref W.e_NotThere) "not there" := by
  unfold errW
  simp
def sp__law_word_of {K : PySem.W.Frag} {mg : Str → Option Value} (W : Wd K mg) : Addr → Value → Option Addr → Sp := fun a cls d vs H Q _ => d = none ∧ vs = [.ref a] ∧ ∃ wd, errW W cls wd ∧ ∀ H' p, Same H H' → H p = none → H' p = some (.tup [.str wd, .bl true]) → Q (.ref p) H'
theorem ok__law_word_of (W : Wd K mg) : FnE P w K mg base 1 W.f__law_word_of W.d__law_word_of ["_law_e"] (sp__law_word_of W) := by
  refine W.F__law_word_of.okE sc__law_word_of (fun a cls d vs H Q E h => ?_) (fun cdv A outer s H vs Q E a oe cls d hz hf hr h => ?_)
  · obtain ⟨_, rfl, _⟩ := h
    rfl
  · obtain ⟨rfl, rfl, wd, he, q⟩ := h
    rcases he with ⟨rfl, rfl⟩
    · refine ⟨_, (pss_cons (ps_set (i := 1) sc__law_word_of.nd rfl (by first | exact Or.inl rfl | exact Or.inr rfl) (pe_lst pa_nil))
      (pss_cons (ps_if (pt_val (pe_callB (call_isH (K := K) List.mem_cons_self W.x_NotThere hz hf) (by rfl) W.z_isinstance (by decide +kernel) (pa_cons (pv 0) (pa_cons (pe_glob (v := .ref W.e_NoSize) (by rfl) W.E_NoSize.g rfl) pa_nil)))) (pss_one (ps_expr (pe_bm PySem.F.plainAttrs_list PySem.F.slot_list_append PySem.F.type_list_append mt_append (pv 1) (pa_cons pe_str pa_nil)))) pss_nil)
      (pss_cons (ps_if (pt_val (pe_callB (call_isH (K := K) List.mem_cons_self W.x_NotThere hz hf) (by rfl) W.z_isinstance (by decide +kernel) (pa_cons (pv 0) (pa_cons (pe_glob (v := .ref W.e_NoName) (by rfl) W.E_NoName.g rfl) pa_nil)))) (pss_one (ps_expr (pe_bm PySem.F.plainAttrs_list PySem.F.slot_list_append PySem.F.type_list_append mt_append (pv 1) (pa_cons pe_str pa_nil)))) pss_nil)
      (pss_cons (ps_if (pt_val (pe_callB (call_isH (K := K) List.mem_cons_self W.x_NotThere hz hf) (by rfl) W.z_isinstance (by decide +kernel) (pa_cons (pv 0) (pa_cons (pe_glob (v := .ref W.e_NotThere) (by rfl) W.E_NotThere.g rfl) pa_nil)))) (pss_one (ps_expr (pe_bm PySem.F.plainAttrs_list PySem.F.slot_list_append PySem.F.type_list_append mt_append (pv 1) (pa_cons pe_str pa_nil)))) pss_nil)
      (pss_cons (ps_if (pt_val (pe_callB (call_isH (K := K) List.mem_cons_self W.x_NotThere hz hf) (by rfl) W.z_isinstance (by decide +kernel) (pa_cons (pv 0) (pa_cons (pe_glob (v := .ref W.e_NoPlace) (by rfl) W.E_NoPlace.g rfl) pa_nil)))) (pss_one (ps_expr (pe_bm PySem.F.plainAttrs_list PySem.F.slot_list_append PySem.F.type_list_append mt_append (pv 1) (pa_cons pe_str pa_nil)))) pss_nil)
      (pss_cons (ps_if (pt_val (pe_callB (call_isH (K := K) List.mem_cons_self W.x_NotThere hz hf) (by rfl) W.z_isinstance (by decide +kernel) (pa_cons (pv 0) (pa_cons (pe_glob (v := .ref W.e_NoText) (by rfl) W.E_NoText.g rfl) pa_nil)))) (pss_one (ps_expr (pe_bm PySem.F.plainAttrs_list PySem.F.slot_list_append PySem.F.type_list_append mt_append (pv 1) (pa_cons pe_str pa_nil)))) pss_nil)
      (pss_cons (ps_if (pt_val (pe_callB (call_isH (K := K) List.mem_cons_self W.x_NotThere hz hf) (by rfl) W.z_isinstance (by decide +kernel) (pa_cons (pv 0) (pa_cons (pe_glob (v := .ref W.e_TooLong) (by rfl) W.E_TooLong.g rfl) pa_nil)))) (pss_one (ps_expr (pe_bm PySem.F.plainAttrs_list PySem.F.slot_list_append PySem.F.type_list_append mt_append (pv 1) (pa_cons pe_str pa_nil)))) pss_nil)
      (pss_cons (ps_if (pt_val (pe_callB (call_isH (K := K) List.mem_cons_self W.x_NotThere hz hf) (by rfl) W.z_isinstance (by decide +kernel) (pa_cons (pv 0) (pa_cons (pe_glob (v := .ref W.e_TooMany) (by rfl) W.E_TooMany.g rfl) pa_nil)))) (pss_one (ps_expr (pe_bm PySem.F.plainAttrs_list PySem.F.slot_list_append PySem.F.type_list_append mt_append (pv 1) (pa_cons pe_str pa_nil)))) pss_nil)
      (pss_cons (ps_if (pt_val (pe_callB (call_isH (K := K) List.mem_cons_self W.x_NotThere hz hf) (by rfl) W.z_isinstance (by decide +kernel) (pa_cons (pv 0) (pa_cons (pe_glob (v := .ref W.e_NoNote) (by rfl) W.E_NoNote.g rfl) pa_nil)))) (pss_one (ps_expr (pe_bm PySem.F.plainAttrs_list PySem.F.slot_list_append PySem.F.type_list_append mt_append (pv 1) (pa_cons pe_str pa_nil)))) pss_nil)
      (pss_one (ps_ret (pe_tup (pa_cons (y_join (K := K) pe_str (pv 1)) (pa_cons (pe_callB (call_isH (K := K) List.mem_cons_self W.x_NotThere hz hf) (by rfl) W.z_isinstance (by decide +kernel) (pa_cons (pv 0) (pa_cons (pe_bltn (v := .ty "ValueError") (by rfl) W.z_ValueError (by decide +kernel) rfl) pa_nil))) pa_nil)))))))))))))), ?_⟩
      walk_at "ev"
      intro l hl
      refine isE_of (W.E_NoSize.kit W.s_NotThere_NoSize (fun e => absurd e W.u_NotThere_NoSize)) ?_
      walk_at "ev"
      refine isE_of (W.E_NoName.kit W.s_NotThere_NoName (fun e => absurd e W.u_NotThere_NoName)) ?_
      walk_at "ev"
      refine isE_of (W.E_NotThere.kit W.s_NotThere_NotThere (fun _ => rfl)) ?_
      walk_at "ev"
      refine ⟨.inl ⟨rfl, _, SqL.of upd_same⟩, l, _, _, rfl, rfl, upd_same, by rw [line_eq]; decide, ?_⟩
      rw [upd_upd]
      walk_at "ev"
      refine isE_of (W.E_NoPlace.kit W.s_NotThere_NoPlace (fun e => absurd e W.u_NotThere_NoPlace)) ?_
      walk_at "ev"
      refine isE_of (W.E_NoText.kit W.s_NotThere_NoText (fun e => absurd e W.u_NotThere_NoText)) ?_
      walk_at "ev"
      refine isE_of (W.E_TooLong.kit W.s_NotThere_TooLong (fun e => absurd e W.u_NotThere_TooLong)) ?_
      walk_at "ev"
      refine isE_of (W.E_TooMany.kit W.s_NotThere_TooMany (fun e => absurd e W.u_NotThere_TooMany)) ?_
      walk_at "ev"
      refine isE_of (W.E_NoNote.kit W.s_NotThere_NoNote (fun e => absurd e W.u_NotThere_NoNote)) ?_
      walk_at "ev"
      refine ⟨[_], .inl (SqL.of upd_same), ?_, ?_⟩
      · decide +kernel
      rw [join_one]
      walk_at "ev"
      refine isE_ty W.v_NotThere ?_
      walk_at "ev"
      intro p hp
      exact q _ p (same_upd (same_grow (Same.refl H) hl) hp) (same_grow (Same.refl H) hl |>.free hp) upd_same
def sp_Stock_free {K : PySem.W.Frag} {mg : Str → Option Value} (W : Wd K mg) : Sp := fun vs H Q E => ∃ r S v, vs = [.ref r.k, v] ∧ (StAt W.c_Stock H r S ∧ S.Ok ∧ S.its.length < 1000000 ∧ tyN v ≠ none) ∧ (∀ i, S.find v = some i → ∀ H', StAt W.c_Stock H' r (S.free i) → Fr r.F H H' → Q .non H') ∧ (S.find v = none → E (.ref W.e_NotThere) none H)
theorem ok_Stock_free (W : Wd K mg) : FnOk P w K mg base (L2.CX P w) 4 W.f_Stock_free W.d_Stock_free ["self", "number"] (sp_Stock_free W) := by
  refine W.F_Stock_free.okX sc_Stock_free (fun vs H Q E h => ?_) (fun cdv A outer s H vs Q E hr h => ?_)
  · obtain ⟨r, S, v, rfl, ⟨hS, ok, hl, hv⟩, q1, q2⟩ := h
    rfl
  · obtain ⟨r, S, v, rfl, ⟨hS, ok, hl, hv⟩, q1, q2⟩ := h
    refine ⟨_, (pss_cons (ps_expr (pe_methE (E := (WE (fun cls d _ H => E cls d H))) (pv 0) W.T_Stock W.q_Stock__check_kept (ok_Stock__check_kept W) (hr.mono (by first | decide | omega)) W.b_Stock__check_kept (fun σ => passAt (takes_of rfl rfl rfl rfl) σ) (pa_cons (pv 1) pa_nil)))
      (pss_cons (ps_daug (hu_of hr) (y_fld (K := K) (pv 0)) (pv 1) pe_int y_insub (fun _ _ _ => rfl))
      (pss_one (ps_if (pt_cmpR (y_eq (K := K) hr.units) (pe_dget (hu_of hr) (y_fld (K := K) (pv 0)) (pv 1) (fun _ _ => rfl)) pe_int (nomark _)) (pss_cons (ps_ddel (y_fld (K := K) (pv 0)) (pe_dget (hu_of hr) (y_fld (K := K) (pv 0)) (pv 1) (fun _ _ => rfl)))
      (pss_cons (ps_ddel (y_fld (K := K) (pv 0)) (pv 1))
      (pss_one (ps_ddel (y_fld (K := K) (pv 0)) (pv 1))))) pss_nil)))), ?_⟩
    walk_at "ev"
    rw [fM W hS.ob (by decide +kernel)]
    walk_at "ev"
    refine ⟨r, S, v, rfl, ⟨hS, hv⟩, fun h => ?_, q2⟩
    obtain ⟨i, e⟩ := Option.isSome_iff_exists.mp h
    have q := q1 i e
    obtain ⟨ev, hi⟩ := StM.find_some e
    subst ev
    have e' : S.its.find? (fun j => decide (j.ik = Sum.inl (i.num : Int))) = some i := e
    walk_at "ev"
    rw [fC W hS.ob]
    walk_at "ev"
    refine ⟨_, dgI hS.ct (by rw [valV_mp, e']; rfl), ?_⟩
    walk_at "ev"
    refine ⟨_, dpI hS.ct (by rw [mp_len]; omega), ?_⟩
    obtain ⟨d1, d2, d3⟩ := hS.ne
    have hc1 := ok.cnt i hi
    have h1 : StAt W.c_Stock (upd H r.c (.dK (putK (mp Pc.ik (fun i => V.int (i.cnt : Int)) S.its) (Sum.inl (i.num : Int)) (V.int ((i.cnt : Int) - 1))))) r (S.at i.num (· - 1)) := by
      rw [putK_mp_at e']
      refine ⟨?_, ?_, ?_, ?_, hS.ne⟩
      · rw [upd_ne hS.kc]
        exact hS.ob
      · rw [upd_ne d1, hS.tx]
        unfold StM.at
        rw [mp_map]
        congr 2
        apply mp_congr
        intro j _
        split <;> exact ⟨rfl, rfl⟩
      · rw [upd_same]
        unfold StM.at
        rw [mp_map]
        congr 2
        apply mp_congr
        intro j hj
        by_cases z : j.num = i.num
        · rw [if_pos z, if_pos (Pc.ik_inj.mpr z)]
          have e2 : j = i := nodup_inj ok.nn hj hi z
          rw [e2]
          refine ⟨rfl, ?_⟩
          show V.int ((i.cnt : Int) - 1) = V.int ((i.cnt - 1 : Nat) : Int)
          congr 1
          omega
        · rw [if_neg z, if_neg (fun e => z (Pc.ik_inj.mp e))]
          exact ⟨rfl, rfl⟩
      · rw [upd_ne d3.symm, hS.nm]
        unfold StM.at
        rw [mp_map]
        congr 2
        apply mp_congr
        intro j _
        split <;> exact ⟨rfl, rfl⟩
    have s1 : Fr r.F H (upd H r.c (.dK (putK (mp Pc.ik (fun i => V.int (i.cnt : Int)) S.its) (Sum.inl (i.num : Int)) (V.int ((i.cnt : Int) - 1))))) := Fr.upd (by simp [StR.F]) hS.ct rfl
    generalize upd H r.c (.dK (putK (mp Pc.ik (fun i => V.int (i.cnt : Int)) S.its) (Sum.inl (i.num : Int)) (V.int ((i.cnt : Int) - 1)))) = H1 at h1 s1 ⊢
    have hm : (⟨i.num, i.txt, i.cnt - 1⟩ : Pc) ∈ (S.at i.num (· - 1)).its := List.mem_map.mpr ⟨i, hi, by rw [if_pos rfl]⟩
    have nn1 : ((S.at i.num (· - 1)).its.map (·.num)).Nodup := by rw [at_num]; exact ok.nn
    have nt1 : ((S.at i.num (· - 1)).its.map (·.txt)).Nodup := by rw [at_txt]; exact ok.ntx
    generalize hT : S.at i.num (· - 1) = T at h1 hm nn1 nt1 ⊢
    have fI : T.its.find? (fun j => decide (j.ik = Sum.inl (i.num : Int))) = some ⟨i.num, i.txt, i.cnt - 1⟩ := by
      refine find_inj (key := Pc.ik) (a := (⟨i.num, i.txt, i.cnt - 1⟩ : Pc)) ?_ hm
      rw [List.nodup_iff_pairwise_ne, List.pairwise_map] at nn1 ⊢
      exact nn1.imp fun h e => h (by
        have := Sum.inl.inj e
        omega)
    have fX : T.its.find? (fun j => decide (j.tk = Sum.inr (st i.txt))) = some ⟨i.num, i.txt, i.cnt - 1⟩ := by
      refine find_inj (key := Pc.tk) (a := (⟨i.num, i.txt, i.cnt - 1⟩ : Pc)) ?_ hm
      rw [List.nodup_iff_pairwise_ne, List.pairwise_map] at nt1 ⊢
      exact nt1.imp fun h e => h (st_inj.mp (Sum.inr.inj e))
    rw [fC W h1.ob]
    walk_at "ev"
    refine ⟨_, dgI h1.ct (by rw [valV_mp, fI]; rfl), ?_⟩
    walk_at "ev"
    unfold StM.free at q
    rw [hT] at q
    by_cases hc : i.cnt = 1
    · rw [if_pos hc] at q
      rw [decide_eq_true (show ((i.cnt - 1 : Nat) : Int) = 0 by omega)]
      walk_at "ev"
      obtain ⟨d1, d2, d3⟩ := h1.ne
      rw [fN W h1.ob]
      walk_at "ev"
      rw [fT W h1.ob]
      walk_at "ev"
      refine ⟨_, dgI h1.tx (by rw [valV_mp, fI]; rfl), ?_⟩
      refine ⟨_, Sum.inr (st i.txt), h1.nm, rfl, by rw [valV_mp, fX]; rfl, ?_⟩
      rw [fT W (by rw [upd_ne h1.kn]; exact h1.ob)]
      walk_at "ev"
      refine ⟨_, Sum.inl (i.num : Int), by rw [upd_ne d2]; exact h1.tx, rfl, by rw [valV_mp, fI]; rfl, ?_⟩
      rw [fC W (by rw [upd_ne h1.kt, upd_ne h1.kn]; exact h1.ob)]
      walk_at "ev"
      refine ⟨_, Sum.inl (i.num : Int), by rw [upd_ne d1.symm, upd_ne d3]; exact h1.ct, rfl, by rw [valV_mp, fI]; rfl, ?_⟩
      rw [dropK_mp, dropK_mp, dropK_mp]
      have fi : ∀ j ∈ T.its, decide (j.ik ≠ Sum.inl (i.num : Int)) = decide (j.num ≠ i.num) := fun j _ => decide_eq_decide.mpr ⟨fun h e => h (Pc.ik_inj.mpr e), fun h e => h (Pc.ik_inj.mp e)⟩
      have ft : ∀ j ∈ T.its, decide (j.tk ≠ Sum.inr (st i.txt)) = decide (j.num ≠ i.num) := fun j hj => decide_eq_decide.mpr
        ⟨fun h e => h (by rw [nodup_inj nn1 hj hm e]; rfl), fun h e => h (by rw [nodup_inj nt1 hj hm (Pc.tk_inj.mp e)])⟩
      rw [List.filter_congr fi, List.filter_congr ft]
      refine q _ ⟨?_, ?_, ?_, ?_, h1.ne⟩ ?_
      · rw [upd_ne h1.kc, upd_ne h1.kt, upd_ne h1.kn]
        exact h1.ob
      · rw [upd_ne d1, upd_same]
        rfl
      · rw [upd_same]
        rfl
      · rw [upd_ne d3.symm, upd_ne d2.symm, upd_same]
        rfl
      · exact ((s1.upd2 (by simp [StR.F]) h1.nm rfl).upd2 (by simp [StR.F]) (by rw [upd_ne d2]; exact h1.tx) rfl).upd2 (by simp [StR.F]) (by rw [upd_ne d1.symm, upd_ne d3]; exact h1.ct) rfl
    · rw [if_neg hc] at q
      rw [decide_eq_false (show ¬ ((i.cnt - 1 : Nat) : Int) = 0 by omega)]
      walk_at "ev"
      exact q _ h1 s1
    
def sp__law_answer {K : PySem.W.Frag} {mg : Str → Option Value} (W : Wd K mg) : Sp := fun vs H Q _ => ∃ r S v, ∃ w : Int, vs = [.ref r.k, .int w, v] ∧ (StAt W.c_Stock H r S ∧ S.Ok ∧ S.its.length < 1000000 ∧ tyN v ≠ none) ∧
  (w = 0 → ∀ i, S.find v = some i → ∀ H' p, StAt W.c_Stock H' r (S.free i) → Fr r.F H H' → H p = none → H' p = some (.tup [.str "told", .non]) → Q (.ref p) H') ∧
  (w ≠ 0 → ∀ i, S.find v = some i → ∀ H' p, Same H H' → H p = none → H' p = some (.tup [.str "told", txtV i.txt]) → Q (.ref p) H') ∧
  (S.find v = none → ∀ H' p, Same H H' → H p = none → H' p = some (.tup [.str "not there", .bl true]) → Q (.ref p) H')
theorem ok__law_answer (W : Wd K mg) : FnOk P w K mg base CX0 5 W.f__law_answer W.d__law_answer ["_law_stock", "_law_way", "_law_number"] (sp__law_answer W) := by
  refine W.F__law_answer.ok sc__law_answer (fun vs H Q E h => ?_) (fun cdv A outer s H vs Q E hr h => ?_)
  · obtain ⟨r, S, v, w, rfl, ⟨hS, ok, hl, hv⟩, q1, q2, q3⟩ := h
    rfl
  · obtain ⟨r, S, v, w, rfl, ⟨hS, ok, hl, hv⟩, q1, q2, q3⟩ := h
    refine ⟨_, (pss_one (ps_try_as (i := 3) (Wout := fun _ _ _ _ => False) rfl rfl sc__law_answer.nd rfl rfl ⟨rfl, by decide, .inl W.E_ShelfError.g⟩ takes0 (fun W' pn' xe' tk' po' => (pss_cons (ps_if (pt_cmpR (y_eq (K := K) hr.units) (pv 1) pe_int (nomark _)) (pss_one (ps_ret (pe_tup (pa_cons pe_str (pa_cons (pe_methE (E := (WE W')) (pv 0) W.T_Stock W.q_Stock_free (ok_Stock_free W) (hr.mono (by first | decide | omega)) W.b_Stock_free (fun σ => passAt tk' σ) (pa_cons (pv 2) pa_nil)) pa_nil))))) pss_nil)
      (pss_one (ps_ret (pe_tup (pa_cons pe_str (pa_cons (pe_methE (E := (WE W')) (pv 0) W.T_Stock W.q_Stock_piece (ok_Stock_piece W) (hr.mono (by first | decide | omega)) W.b_Stock_piece (fun σ => passAt tk' σ) (pa_cons (pv 2) pa_nil)) pa_nil))))))) (fun a oe cls d pn hz hf => (pss_one (ps_ret (pe_callE hz hf (ok__law_word_of W) (roomE hr (by first | decide | omega)) (List.mem_cons_self) (by rfl) W.m__law_word_of W.F__law_word_of.kp W.b__law_word_of (pa_cons (pv 3) pa_nil))))))), ?_⟩
    have no : S.find v = none → wAs K (Value.ref W.e_ShelfError) 3 (fun a cls d => tRet (tCallE (sp__law_word_of W) a cls d (tCons (tVar 3) tNil))) (fun _ _ _ _ => False) { nx := fun _ H' => Q .non H', rt := Q } (.ref W.e_NotThere) none [some (.ref r.k), some (.int w), some v, none] H := fun e => by
      refine wAs_of (W.E_ShelfError.exm W.s_NotThere_ShelfError) fun a ha => ?_
      walk_at "ev"
      exact ⟨rfl, rfl, _, err_NotThere W, fun H' p s hp h => q3 e H' p s hp h⟩
    walk_at "ev"
    refine brS_of (fun hc => ?_) (fun hc => ?_) <;> walk_at "ev"
    · rw [fM W hS.ob (by decide +kernel)]
      walk_at "ev"
      refine ⟨r, S, v, rfl, ⟨hS, ok, hl, hv⟩, fun i e H' h' s' p hp => ?_, no⟩
      refine q1 (of_decide_eq_true hc) i e _ p (h'.same (same_new hp)) (s'.new hp) (s'.live p hp) upd_same
    · rw [fM W hS.ob (by decide +kernel)]
      walk_at "ev"
      refine ⟨r, S, v, rfl, ⟨hS, hv⟩, fun i e p hp => ?_, no⟩
      exact q2 (of_decide_eq_false hc) i e _ p (same_new hp) hp upd_same
def sp__law_look {K : PySem.W.Frag} {mg : Str → Option Value} (W : Wd K mg) : Sp := fun vs H Q _ => ∃ r rp S, ∃ n : Int, ∃ kp kl, vs = [.ref r.k, .ref rp.d, .int n, .ref kp] ∧ (StAt W.c_Stock H r S ∧ PlAt H rp S ∧ S.Ok ∧ S.its.length < 1000 ∧ H kp = some (.lst kl) ∧ kl.length < 1000 ∧ kp ∉ r.F ∧ kp ∉ rp.F) ∧
  ∀ H' p a b, Fr [kp] H H' → H' kp = some (.lst (kl ++ [.ref p])) → (H p = none ∧ H a = none ∧ H b = none) → H' p = some (.tup [.ref a, .ref b]) → H' a = some (.lst (S.its.map fun i => natV i.num)) → H' b = some (.lst (S.its.map fun i => natV i.num)) → Q (.bl true) H'
theorem ok__law_look (W : Wd K mg) : FnOk P w K mg base CX0 9 W.f__law_look W.d__law_look ["_law_stock", "_law_plain", "_law_number", "_law_kept"] (sp__law_look W) := by
  refine W.F__law_look.ok sc__law_look (fun vs H Q E h => ?_) (fun cdv A outer s H vs Q E hr h => ?_)
  · obtain ⟨r, rp, S, n, kp, kl, rfl, ⟨hS, hP, ok, hl, hk, hkl, kn1, kn2⟩, q⟩ := h
    rfl
  · obtain ⟨r, rp, S, n, kp, kl, rfl, ⟨hS, hP, ok, hl, hk, hkl, kn1, kn2⟩, q⟩ := h
    refine ⟨_, (pss_cons (ps_set (i := 4) sc__law_look.nd rfl (by first | exact Or.inl rfl | exact Or.inr rfl) (pe_methE0 (E := (fun _ => E0)) (pv 0) W.T_Stock W.q_Stock_numbers (ok_Stock_numbers W) (hr.mono (by first | decide | omega)) W.b_Stock_numbers (fun _ => pass0S)))
      (pss_cons (ps_expr (pe_bm PySem.F.plainAttrs_list PySem.F.slot_list_append PySem.F.type_list_append mt_append (pv 3) (pa_cons (pe_tup (pa_cons (pv 4) (pa_cons (pe_callTy (y_list (K := K)) (by rfl) W.z_list (by decide +kernel) (pa_cons (pv 4) pa_nil)) pa_nil))) pa_nil)))
      (pss_cons (ps_set (i := 5) sc__law_look.nd rfl (by first | exact Or.inl rfl | exact Or.inr rfl) (pe_tup (pa_cons pe_str (pa_cons pe_bl pa_nil))))
      (pss_cons (ps_if (pt_cmp (pc_din (hu_of hr) (pv 2) (pe_dget (hu_of hr) (pv 1) pe_str (fun _ _ => rfl)))) (pss_one (ps_set (i := 5) sc__law_look.nd rfl (by first | exact Or.inl rfl | exact Or.inr rfl) (pe_tup (pa_cons pe_str (pa_cons (pe_dget (hu_of hr) (pe_dget (hu_of hr) (pv 1) pe_str (fun _ _ => rfl)) (pv 2) (fun _ _ => rfl)) pa_nil))))) pss_nil)
      (pss_cons (ps_if (PW.pt (pw_or (pt_not (pt_val (pe_callS (E := (fun _ => E0)) (ok__law_alike W 6) (hr.mono (by first | decide | omega)) (by rfl) W.m__law_alike W.F__law_alike.kp W.b__law_alike (fun _ => pass0S) (pa_cons (pv 4) (pa_cons (pe_callB (y_sortedDI rfl) (by rfl) W.z_sorted (by decide +kernel) (pa_cons (pe_dget (hu_of hr) (pv 1) pe_str (fun _ _ => rfl)) pa_nil)) pa_nil))))) (pw_or1 (pt_not (pt_val (pe_callS (E := (fun _ => E0)) (ok__law_alike W 6) (hr.mono (by first | decide | omega)) (by rfl) W.m__law_alike W.F__law_alike.kp W.b__law_alike (fun _ => pass0S) (pa_cons (pe_callS (E := (fun _ => E0)) (ok__law_answer W) (hr.mono (by first | decide | omega)) (by rfl) W.m__law_answer W.F__law_answer.kp W.b__law_answer (fun _ => pass0S) (pa_cons (pv 0) (pa_cons pe_int (pa_cons (pv 2) pa_nil)))) (pa_cons (pv 5) pa_nil)))))))) (pss_one (ps_ret pe_bl)) pss_nil)
      (pss_one (ps_ret (pe_callS (E := (fun _ => E0)) (ok__law_counted W) (hr.mono (by first | decide | omega)) (by rfl) W.m__law_counted W.F__law_counted.kp W.b__law_counted (fun _ => pass0S) (pa_cons (pv 0) (pa_cons (pv 1) (pa_cons (pv 2) pa_nil))))))))))), ?_⟩
    walk_at "ev"
    rw [fM W hS.ob (by decide +kernel)]
    walk_at "ev"
    refine ⟨r, S, rfl, ⟨hS, ok⟩, fun a ha => ?_⟩
    walk_at "ev"
    have lk : ∀ {H'}, H' kp = some (.lst kl) → tyV K "list" (.ref kp) H' := fun h => .inl ⟨rfl, _, SqL.of h⟩
    refine ⟨lk (upd_of hk ha), _, .inl (SqL.of upd_same), fun b hb p hp => ?_⟩
    have s1 := same_upd (o := .tup [.ref a, .ref b]) (same_upd (o := .lst (S.its.map fun i => natV i.num)) (same_new (o := .lst (S.its.map fun i => natV i.num)) ha) hb) hp
    have hp1 : upd (upd (upd H a (.lst (S.its.map fun i => natV i.num))) b (.lst (S.its.map fun i => natV i.num))) p (.tup [.ref a, .ref b]) p = some (.tup [.ref a, .ref b]) := upd_same
    have hb1 := upd_of (o' := .tup [.ref a, .ref b]) (upd_same (H := upd H a (.lst (S.its.map fun i => natV i.num))) (a := b) (o := .lst (S.its.map fun i => natV i.num))) hp
    have ha1 := upd_of (o' := .tup [.ref a, .ref b]) (upd_of (o' := .lst (S.its.map fun i => natV i.num)) (upd_same (H := H) (a := a) (o := .lst (S.its.map fun i => natV i.num))) hb) hp
    have hb0 : H b = none := (same_new ha).free hb
    have hp0 : H p = none := (same_upd (same_new ha) hb).free hp
    generalize upd (upd (upd H a (.lst (S.its.map fun i => natV i.num))) b (.lst (S.its.map fun i => natV i.num))) p (.tup [.ref a, .ref b]) = H1 at s1 hp1 hb1 ha1 ⊢
    have hk1 := s1 _ _ hk
    refine ⟨kp, kl, _, rfl, rfl, hk1, by rw [line_eq]; omega, ?_⟩
    have kp1 : p ≠ kp := fun z => by rw [z, hk] at hp0; cases hp0
    have ka1 : a ≠ kp := fun z => by rw [z, hk] at ha; cases ha
    have kb1 : b ≠ kp := fun z => by rw [z, hk] at hb0; cases hb0
    have s2 : Fr [kp] H (upd H1 kp (.lst (kl ++ [.ref p]))) := (frS s1).upd2 (by simp) hk1 rfl
    have hS2 : StAt W.c_Stock (upd H1 kp (.lst (kl ++ [.ref p]))) r S := hS.fr s2 fun x hx hz => kn1 (by rw [List.mem_singleton] at hz; rw [← hz]; exact hx)
    have hP2 : PlAt (upd H1 kp (.lst (kl ++ [.ref p]))) rp S := hP.fr s2 fun x hx hz => kn2 (by rw [List.mem_singleton] at hz; rw [← hz]; exact hx)
    have hk2 : upd H1 kp (.lst (kl ++ [.ref p])) kp = some (.lst (kl ++ [.ref p])) := upd_same
    have hp2 : upd H1 kp (.lst (kl ++ [.ref p])) p = some (.tup [.ref a, .ref b]) := by rw [upd_ne kp1]; exact hp1
    have ha2 : upd H1 kp (.lst (kl ++ [.ref p])) a = some (.lst (S.its.map fun i => natV i.num)) := by rw [upd_ne ka1]; exact ha1
    have hb2 : upd H1 kp (.lst (kl ++ [.ref p])) b = some (.lst (S.its.map fun i => natV i.num)) := by rw [upd_ne kb1]; exact hb1
    generalize upd H1 kp (.lst (kl ++ [.ref p])) = H2 at s2 hS2 hP2 hk2 hp2 ha2 hb2 ⊢
    intro d hd
    have s3 := same_new (o := .tup [.str "not there", .bl true]) hd
    have hd3 : upd H2 d (.tup [.str "not there", .bl true]) d = some (.tup [.str "not there", .bl true]) := upd_same
    generalize upd H2 d (.tup [.str "not there", .bl true]) = H3 at s3 hd3 ⊢
    refine ⟨_, dgS (hP2.same s3).ob plF_t, ?_⟩
    walk_at "ev"
    refine ⟨_, dgI (hP2.same s3).tx (valV_mp _), ?_⟩
    refine brS_join (R := fun σ H4 => ∃ e dv, σ = [some (.ref r.k), some (.ref rp.d), some (.int n), some (.ref kp), some (.ref a), some (.ref e)] ∧ Same H2 H4 ∧ H4 e = some (.tup dv) ∧
      dv = (match S.find (.int n) with | some i => [V.str "told", txtV i.txt] | none => [V.str "not there", V.bl true])) ?_ ?_
    · rintro σ H4 ⟨e, dv, rfl, s4, he, hdv⟩
      walk_at "ev"
      have hP4 := hP2.same s4
      have hS4 := hS2.same s4
      refine ⟨_, dgS hP4.ob plF_t, ?_⟩
      refine ⟨rp.t, _, S.its.map fun i => (i.num : Int), rfl, .inl hP4.tx, ?_, fun ys c hpm hsr hc => ?_⟩
      · rw [mp_keys, List.map_map]
        rfl
      have ey : ys = S.its.map fun i => (i.num : Int) := perm_sorted hpm hsr (by
        have := ok.asc
        rw [List.pairwise_map] at this ⊢
        exact this.imp fun h => by omega)
      subst ey
      have ez : (S.its.map fun i => (i.num : Int)).map V.int = S.its.map fun i => natV i.num := by
        rw [List.map_map]
        rfl
      rw [ez]
      have hnl : (S.its.map fun i => natV i.num).length < 16777216 := by rw [List.length_map]; omega
      have s5 := same_upd (o := .lst (S.its.map fun i => natV i.num)) s4 hc
      have hc5 : upd H4 c (.lst (S.its.map fun i => natV i.num)) c = some (.lst (S.its.map fun i => natV i.num)) := upd_same
      have he5 := upd_of (o' := .lst (S.its.map fun i => natV i.num)) he hc
      generalize upd H4 c (.lst (S.its.map fun i => natV i.num)) = H5 at s5 hc5 he5 ⊢
      refine ⟨_, _, rfl, Al.ints (s5 _ _ ha2) hc5 hnl (fun v hv => ?_), ?_⟩
      · obtain ⟨j, _, e⟩ := List.mem_map.mp hv
        exact .inl ⟨_, e.symm⟩
      walk_at "ev"
      have hS5 := hS2.same s5
      have fin : ∀ H6, Same H5 H6 → ∀ x, H6 x = some (.tup dv) → Al H6 5 (.ref x) (.ref e) := fun H6 s6 x hx => by
        have he6 := s6 _ _ he5
        rw [hdv] at hx he6
        cases e : S.find (.int n) with
        | some i =>
          rw [e] at hx he6
          exact Al.tup2 hx he6 (Al.str _) (Al.str _)
        | none =>
          rw [e] at hx he6
          exact Al.tup2 hx he6 (Al.str _) Al.bt
      have go : ∀ H6, Same H5 H6 → sp__law_counted W [.ref r.k, .ref rp.d, .int n] H6 Q E0 := fun H6 s6 => by
        have s7 := s5.trans s6
        exact ⟨r, rp, S, n, rfl, ⟨hS5.same s6, (hP2.same s5).same s6⟩, q H6 p a b (s2.same s7) (s7 _ _ hk2) ⟨hp0, ha, hb0⟩ (s7 _ _ hp2) (s7 _ _ ha2) (s7 _ _ hb2)⟩
      refine ⟨r, S, .int n, 1, rfl, ⟨hS5, ok, by omega, by simp [tyN]⟩, fun z => absurd z (by decide), fun _ i e6 H6 x s6 hx0 hx => ?_, fun e6 H6 x s6 hx0 hx => ?_⟩
      · refine ⟨_, _, rfl, fin H6 s6 x (by rw [hdv, e6]; exact hx), ?_⟩
        walk_at "ev"
        exact go H6 s6
      · refine ⟨_, _, rfl, fin H6 s6 x (by rw [hdv, e6]; exact hx), ?_⟩
        walk_at "ev"
        exact go H6 s6
    · intro N k
      cases e : S.its.find? (fun i => decide (i.ik = Sum.inl n)) with
      | some i =>
        walk_at "ev"
        refine ⟨_, dgS (hP2.same s3).ob plF_t, ?_⟩
        walk_at "ev"
        refine ⟨_, dgI (hP2.same s3).tx (by rw [valV_mp, e]; rfl), ?_⟩
        walk_at "ev"
        intro e2 he2
        exact k _ _ ⟨e2, _, rfl, same_upd s3 he2, upd_same, by rw [show S.find (.int n) = some i from e]⟩
      | none =>
        walk_at "ev"
        exact k _ _ ⟨d, _, rfl, s3, hd3, by rw [show S.find (.int n) = none from e]⟩
def sp__law_sign_by {K : PySem.W.Frag} {mg : Str → Option Value} (W : Wd K mg) : Sp := fun vs H Q _ => ∃ (i : Int), vs = [.int i] ∧ Q (.str (st [sgn i])) H
theorem ok__law_sign_by (W : Wd K mg) : FnOk P w K mg base CX0 1 W.f__law_sign_by W.d__law_sign_by ["_law_cell"] (sp__law_sign_by W) := by
  refine W.F__law_sign_by.ok sc__law_sign_by (fun vs H Q E h => ?_) (fun cdv A outer s H vs Q E hr h => ?_)
  · obtain ⟨i, rfl, q⟩ := h
    rfl
  · obtain ⟨i, rfl, q⟩ := h
    refine ⟨_, (pss_cons (ps_set (i := 1) sc__law_sign_by.nd rfl (by first | exact Or.inl rfl | exact Or.inr rfl) pe_str)
      (pss_cons (ps_set (i := 1) sc__law_sign_by.nd rfl (by first | exact Or.inl rfl | exact Or.inr rfl) (pe_op (y_add (K := K)) (pv 1) pe_str))
      (pss_one (ps_ret (pe_ix (y_ix (K := K)) (pv 1) (pe_op y_mod (pv 0) pe_int) (fun _ _ => rfl)))))), ?_⟩
    walk_at "ev"
    refine ⟨by decide +kernel, sgn i, by decide +kernel, sgn_at i, q⟩
def sp__law_text_by {K : PySem.W.Frag} {mg : Str → Option Value} (W : Wd K mg) : Sp := fun vs H Q _ => ∃ (c : Int) (n : Nat), vs = [.int c, .int (n : Int)] ∧ n ≤ 4000 ∧ ∀ H', Same H H' → Q (.str (st (textBy c n))) H'
theorem ok__law_text_by (W : Wd K mg) : FnOk P w K mg base CX0 2 W.f__law_text_by W.d__law_text_by ["_law_cell", "_law_size"] (sp__law_text_by W) := by
  refine W.F__law_text_by.ok sc__law_text_by (fun vs H Q E h => ?_) (fun cdv A outer s H vs Q E hr h => ?_)
  · obtain ⟨c, n, rfl, hn, q⟩ := h
    rfl
  · obtain ⟨c, n, rfl, hn, q⟩ := h
    refine ⟨_, (pss_cons (ps_set (i := 2) sc__law_text_by.nd rfl (by first | exact Or.inl rfl | exact Or.inr rfl) (pe_ix (y_ix (K := K)) (pe_lst (pa_cons pe_int (pa_cons pe_int (pa_cons pe_int (pa_cons pe_int pa_nil))))) (pe_op y_mod (pv 0) pe_int) (fun _ _ => rfl)))
      (pss_cons (ps_set (i := 3) sc__law_text_by.nd rfl (by first | exact Or.inl rfl | exact Or.inr rfl) (pv 1))
      (pss_cons (ps_if (pt_cmpR (y_eq (K := K) hr.units) (pe_op y_mod (pv 0) pe_int) pe_int (nomark _)) (pss_one (ps_set (i := 3) sc__law_text_by.nd rfl (by first | exact Or.inl rfl | exact Or.inr rfl) (pe_callB (y_min rfl) (by rfl) W.z_min (by decide +kernel) (pa_cons (pv 1) (pa_cons (pe_op (y_add (K := K)) pe_int (pe_op y_mod (pe_op y_fdiv (pv 0) pe_int) pe_int)) pa_nil))))) pss_nil)
      (pss_cons (ps_if (pt_cmpR (y_eq (K := K) hr.units) (pv 3) pe_int (nomark _)) (pss_one (ps_ret pe_str)) pss_nil)
      (pss_cons (ps_set (i := 4) sc__law_text_by.nd rfl (by first | exact Or.inl rfl | exact Or.inr rfl) pe_str)
      (pss_cons (ps_set (i := 5) sc__law_text_by.nd rfl (by first | exact Or.inl rfl | exact Or.inr rfl) (pv 0))
      (pss_cons (ps_for PassesOwn.never rfl (pi_range1 (by rfl) W.z_range (pa_cons (pv 3) pa_nil)) (pg_name (i := 6) sc__law_text_by.nd rfl (by first | exact Or.inl rfl | exact Or.inr rfl)) (pss_cons (ps_set (i := 5) sc__law_text_by.nd rfl (by first | exact Or.inl rfl | exact Or.inr rfl) (pe_op y_mod (pe_op (y_add (K := K)) (pe_op y_mul (pv 5) pe_int) pe_int) pe_int))
      (pss_one (ps_set (i := 4) sc__law_text_by.nd rfl (by first | exact Or.inl rfl | exact Or.inr rfl) (pe_op (y_add (K := K)) (pv 4) (pe_callS (E := (fun _ => E0)) (ok__law_sign_by W) (hr.mono (by first | decide | omega)) (by rfl) W.m__law_sign_by W.F__law_sign_by.kp W.b__law_sign_by (fun _ => pass0S) (pa_cons (pe_op (y_add (K := K)) pe_int (pe_op y_mod (pe_op y_fdiv (pv 5) pe_int) (pv 2))) pa_nil)))))))
      (pss_one (ps_ret (pe_slice (y_sl (K := K)) (pe_op y_mul (pv 4) (pe_op (y_add (K := K)) (pe_op y_fdiv (pv 1) (pv 3)) pe_int)) po_none (po_some (pv 1)))))))))))), ?_⟩
    walk_at "ev"
    intro p hp
    refine ⟨_, _, .inl (SqL.of upd_same), sgs_at c, ?_⟩
    have sm := same_new (o := .lst [V.int 2, V.int 95, V.int 95, V.int 1]) hp
    generalize upd H p (.lst [V.int 2, V.int 95, V.int 95, V.int 1]) = H1 at sm ⊢
    have hs := sgs_pos c
    refine brS_join (R := fun σ H => H = H1 ∧ σ = [some (V.int c), some (V.int (n : Int)), some (V.int (sgs c)), some (V.int (blkN c n : Nat)), none, none, none]) ?_ ?_
    · rintro σ H2 ⟨rfl, rfl⟩
      walk_at "ev"
      refine brS_of (fun hc => ?_) (fun hc => ?_) <;> walk_at "ev"
      · have h0 : blkN c n = 0 := by
          have := of_decide_eq_true hc
          omega
        have hn0 : n = 0 := by
          refine Nat.eq_zero_of_not_pos fun hp => ?_
          have := blkN_pos (c := c) hp
          omega
        have := q _ sm
        rw [hn0] at this
        exact this
      · have h0 : 0 < blkN c n := by
          have := of_decide_eq_false hc
          omega
        have hle := blkN_le c n
        refine ⟨by omega, ?_⟩
        rw [Int.toNat_natCast]
        refine for_rng (fun i σ H' => H' = H2 ∧ ∃ x, σ = [some (V.int c), some (V.int (n : Int)), some (V.int (sgs c)), some (V.int (blkN c n : Nat)), some (V.str (st (blk c i))), some (V.int (numS c i)), x]) ⟨rfl, none, rfl⟩ ?_ ?_
        · rintro i σ H' hi ⟨rfl, x, rfl⟩
          walk_at "ev"
          refine ⟨hs, _, rfl, ?_⟩
          walk_at "ev"
          refine ⟨?_, ?_⟩
          · rw [blk_len]
            omega
          · rw [blk_succ]
            exact ⟨_, rfl⟩
        · rintro σ H' ⟨rfl, x, rfl⟩
          walk_at "ev"
          have hd : (n : Int) / (blkN c n : Int) = ((n / blkN c n : Nat) : Int) := rfl
          have hd2 : n / blkN c n ≤ n := Nat.div_le_self _ _
          have hl : (repS (blk c (blkN c n)) (n / blkN c n + 1)).length ≤ 8000 := by
            rw [repS_len, blk_len, Nat.add_mul]
            have hm : n / blkN c n * blkN c n ≤ n := Nat.div_mul_le_self n _
            omega
          have hg : n ≤ (repS (blk c (blkN c n)) (n / blkN c n + 1)).length := by
            have := textBy_len c n
            unfold textBy at this
            rw [List.length_take] at this
            omega
          have hq := q _ sm
          unfold textBy at hq
          rw [hd]
          generalize n / blkN c n = m at hd2 hl hg hq ⊢
          have hk : ((m : Int) + 1).toNat = m + 1 := by omega
          rw [hk, blk_len]
          rw [repS_len, blk_len, Nat.mul_comm] at hl
          refine ⟨⟨by omega, by omega⟩, ⟨by omega, by omega, by omega⟩, ?_⟩
          rw [cut_take hg]
          refine ⟨?_, hq⟩
          rw [repS_len, blk_len, Nat.mul_comm]
          omega
    · intro N k
      refine brS_of (fun hc => ?_) (fun hc => ?_) <;> walk_at "ev"
      · refine k _ _ ⟨rfl, ?_⟩
        have hc' := of_decide_eq_true hc
        unfold blkN
        rw [if_pos hc']
        have e : min (n : Int) (1 + c / 4 % 50) = ((min n (1 + (c / 4 % 50).toNat) : Nat) : Int) := by omega
        rw [e]
      · refine k _ _ ⟨rfl, ?_⟩
        unfold blkN
        rw [if_neg (of_decide_eq_false hc)]
def sp_Stock_put {K : PySem.W.Frag} {mg : Str → Option Value} (W : Wd K mg) : Sp := fun vs H Q _ => ∃ r S n t c, vs = [.ref r.k, natV n, txtV t, natV c] ∧ (StAt W.c_Stock H r S ∧ S.byN n = none ∧ S.byT t = none ∧ S.its.length < 1000000) ∧ ∀ H', StAt W.c_Stock H' r (S.put n t c) → Fr r.F H H' → Q .non H'
theorem ok_Stock_put (W : Wd K mg) : FnOk P w K mg base CX0 1 W.f_Stock_put W.d_Stock_put ["self", "number", "text", "count"] (sp_Stock_put W) := by
  refine W.F_Stock_put.ok sc_Stock_put (fun vs H Q E h => ?_) (fun cdv A outer s H vs Q E hr h => ?_)
  · obtain ⟨r, S, n, t, c, rfl, ⟨hS, hn, ht, hl⟩, q⟩ := h
    rfl
  · obtain ⟨r, S, n, t, c, rfl, ⟨hS, hn, ht, hl⟩, q⟩ := h
    refine ⟨_, (pss_cons (ps_dput (hu_of hr) (y_fld (K := K) (pv 0)) (pv 1) (pv 2) rfl)
      (pss_cons (ps_dput (hu_of hr) (y_fld (K := K) (pv 0)) (pv 1) (pv 3) rfl)
      (pss_one (ps_dput (hu_of hr) (y_fld (K := K) (pv 0)) (pv 2) (pv 1) rfl)))), ?_⟩
    walk_at "ev"
    rw [fT W hS.ob]
    walk_at "ev"
    refine ⟨_, dpI hS.tx (by rw [mp_len]; omega), ?_⟩
    rw [putK_mp_new hn]
    have k1 := hS.kt
    have k2 := hS.kc
    have k3 := hS.kn
    obtain ⟨d1, d2, d3⟩ := hS.ne
    rw [fC W (by rw [upd_ne k1]; exact hS.ob)]
    walk_at "ev"
    refine ⟨_, dpI (by rw [upd_ne d1.symm]; exact hS.ct) (by rw [mp_len]; omega), ?_⟩
    rw [putK_mp_new hn]
    rw [fN W (by rw [upd_ne k2, upd_ne k1]; exact hS.ob)]
    walk_at "ev"
    refine ⟨_, dpS (by rw [upd_ne d3.symm, upd_ne d2.symm]; exact hS.nm) (by rw [mp_len]; omega), ?_⟩
    rw [putK_mp_new ht]
    refine q _ ⟨?_, ?_, ?_, ?_, hS.ne⟩ ?_
    · rw [upd_ne k3, upd_ne k2, upd_ne k1]
      exact hS.ob
    · rw [upd_ne d2, upd_ne d1, upd_same]
      unfold StM.put
      rw [mp_snoc]
      rfl
    · rw [upd_ne d3, upd_same]
      unfold StM.put
      rw [mp_snoc]
      rfl
    · rw [upd_same]
      unfold StM.put
      rw [mp_snoc]
      rfl
    · exact ((Fr.upd (by simp [StR.F]) hS.tx rfl).upd2 (by simp [StR.F]) (by rw [upd_ne d1.symm]; exact hS.ct) rfl).upd2 (by simp [StR.F]) (by rw [upd_ne d3.symm, upd_ne d2.symm]; exact hS.nm) rfl
def sp_Stock_need {K : PySem.W.Frag} {mg : Str → Option Value} (W : Wd K mg) : Sp := fun vs H Q _ => ∃ r S t, vs = [.ref r.k, txtV t] ∧ (StAt W.c_Stock H r S ∧ S.Ok ∧ S.its.length < 999999) ∧ ∀ H', StAt W.c_Stock H' r (S.need t).1 → Fr r.F H H' → Q (natV (S.need t).2) H'
theorem ok_Stock_need (W : Wd K mg) : FnOk P w K mg base CX0 2 W.f_Stock_need W.d_Stock_need ["self", "text"] (sp_Stock_need W) := by
  refine W.F_Stock_need.ok sc_Stock_need (fun vs H Q E h => ?_) (fun cdv A outer s H vs Q E hr h => ?_)
  · obtain ⟨r, S, t, rfl, ⟨hS, ok, hl⟩, q⟩ := h
    rfl
  · obtain ⟨r, S, t, rfl, ⟨hS, ok, hl⟩, q⟩ := h
    refine ⟨_, (pss_cons (ps_if (pt_cmp (pc_dnotin (hu_of hr) (pv 1) (y_fld (K := K) (pv 0)))) (pss_cons (y_fldaug (K := K) (pv 0) pe_int y_inadd)
      (pss_one (ps_expr (pe_methE (E := (fun _ => E0)) (pv 0) W.T_Stock W.q_Stock_put (ok_Stock_put W) (hr.mono (by first | decide | omega)) W.b_Stock_put (fun _ => pass0S) (pa_cons (y_fld (K := K) (pv 0)) (pa_cons (pv 1) (pa_cons pe_int pa_nil))))))) pss_nil)
      (pss_cons (ps_set (i := 2) sc_Stock_need.nd rfl (by first | exact Or.inl rfl | exact Or.inr rfl) (pe_dget (hu_of hr) (y_fld (K := K) (pv 0)) (pv 1) (fun _ _ => rfl)))
      (pss_cons (ps_daug (hu_of hr) (y_fld (K := K) (pv 0)) (pv 2) pe_int y_inadd (fun _ _ _ => rfl))
      (pss_one (ps_ret (pv 2)))))), ?_⟩
    walk_at "ev"
    rw [fN W hS.ob]
    walk_at "ev"
    refine ⟨_, dgS hS.nm (valV_mp _), ?_⟩
    refine brS_join (R := fun σ H1 => ∃ S1 i, σ = [some (.ref r.k), some (txtV t), none] ∧ StAt W.c_Stock H1 r S1 ∧ Fr r.F H H1 ∧ S1.byT t = some i ∧ S1.byN i.num = some i ∧ S1.its.length < 16000000 ∧ (S1.its.map (·.num)).Nodup ∧ S1.at i.num (· + 1) = (S.need t).1 ∧ i.num = (S.need t).2) ?_ ?_
    · rintro σ H1 ⟨S1, i, rfl, h1, s1, b1, b2, b3, bn, b4, b5⟩
      walk_at "ev"
      rw [fN W h1.ob]
      walk_at "ev"
      refine ⟨_, dgS h1.nm (by rw [valV_mp, show S1.its.find? _ = some i from b1]; rfl), ?_⟩
      rw [fC W h1.ob]
      walk_at "ev"
      refine ⟨_, dgI h1.ct (by rw [valV_mp, show S1.its.find? _ = some i from b2]; rfl), ?_⟩
      walk_at "ev"
      refine ⟨_, dpI h1.ct (by rw [mp_len]; omega), ?_⟩
      rw [putK_mp_at b2]
      have q' := q
      rw [← b5] at q'
      refine q' _ ?_ (s1.upd2 (by simp [StR.F]) h1.ct rfl)
      rw [← b4]
      obtain ⟨d1, d2, d3⟩ := h1.ne
      refine ⟨?_, ?_, ?_, ?_, h1.ne⟩
      · rw [upd_ne h1.kc]
        exact h1.ob
      · rw [upd_ne d1, h1.tx]
        unfold StM.at
        rw [mp_map]
        congr 2
        apply mp_congr
        intro j _
        split <;> exact ⟨rfl, rfl⟩
      · rw [upd_same]
        unfold StM.at
        rw [mp_map]
        congr 2
        apply mp_congr
        intro j hj
        by_cases z : j.num = i.num
        · rw [if_pos z, if_pos (Pc.ik_inj.mpr z)]
          have e2 : j = i := nodup_inj bn hj (StM.byN_some b2).1 z
          rw [e2]
          exact ⟨rfl, rfl⟩
        · rw [if_neg z, if_neg (fun e => z (Pc.ik_inj.mp e))]
          exact ⟨rfl, rfl⟩
      · rw [upd_ne d3.symm, h1.nm]
        unfold StM.at
        rw [mp_map]
        congr 2
        apply mp_congr
        intro j _
        split <;> exact ⟨rfl, rfl⟩
    · intro N k
      cases e : S.its.find? (fun i => decide (i.tk = Sum.inr (st t))) with
      | some i =>
        walk_at "ev"
        have hn : S.need t = (S.at i.num (· + 1), i.num) := by unfold StM.need; rw [show S.byT t = some i from e]
        exact k _ _ ⟨S, i, rfl, hS, Fr.refl, e, StM.byN_of ok (StM.byT_some e).1, by omega, ok.nn, by rw [hn], by rw [hn]⟩
      | none =>
        walk_at "ev"
        have hn : S.need t = (StM.at ⟨S.last + 1, S.its ++ [⟨S.last + 1, t, 0⟩]⟩ (S.last + 1) (· + 1), S.last + 1) := by unfold StM.need; rw [show S.byT t = none from e]
        rw [fG W hS.ob]
        walk_at "ev"
        rw [pG W hS.ob, stF_put]
        have s1 : Fr r.F H (upd H r.k (.ins W.c_Stock r.dx (stF (S.last + 1 : Int) r.t r.c r.n))) := Fr.upd (by simp [StR.F]) hS.ob rfl
        have h1 : StAt W.c_Stock (upd H r.k (.ins W.c_Stock r.dx (stF (S.last + 1 : Int) r.t r.c r.n))) r ⟨S.last + 1, S.its⟩ := ⟨upd_same, by rw [upd_ne hS.kt.symm]; exact hS.tx, by rw [upd_ne hS.kc.symm]; exact hS.ct, by rw [upd_ne hS.kn.symm]; exact hS.nm, hS.ne⟩
        generalize upd H r.k (.ins W.c_Stock r.dx (stF (S.last + 1 : Int) r.t r.c r.n)) = H1 at s1 h1 ⊢
        walk_at "ev"
        rw [fM W h1.ob (by decide +kernel)]
        walk_at "ev"
        rw [fG W h1.ob]
        walk_at "ev"
        refine ⟨r, _, S.last + 1, t, 0, rfl, ⟨h1, ok.fresh, e, by show S.its.length < _; omega⟩, fun H' h2 s2 => ?_⟩
        exact k _ _ ⟨_, _, rfl, h2, s1.trans s2, byT_add e, byN_add ok.fresh, by show (S.its ++ [_]).length < _; rw [List.length_append]; simp; omega, nn_add ok e, by rw [hn]; rfl, by rw [hn]⟩
def sp__law_needed {K : PySem.W.Frag} {mg : Str → Option Value} (W : Wd K mg) : Sp := fun vs H Q _ => ∃ r rp S t, vs = [.ref r.k, .ref rp.d, txtV t] ∧ (StAt W.c_Stock H r S ∧ PlAt H rp S ∧ S.Ok ∧ S.its.length < 1000 ∧ (∀ a ∈ r.F, a ∉ rp.F)) ∧ ∀ H', StAt W.c_Stock H' r (S.need t).1 → PlAt H' rp (S.need t).1 → Fr (r.F ++ rp.F) H H' → Q (.bl true) H'
theorem ok__law_needed (W : Wd K mg) : FnOk P w K mg base CX0 8 W.f__law_needed W.d__law_needed ["_law_stock", "_law_plain", "_law_text"] (sp__law_needed W) := by
  refine W.F__law_needed.ok sc__law_needed (fun vs H Q E h => ?_) (fun cdv A outer s H vs Q E hr h => ?_)
  · obtain ⟨r, rp, S, t, rfl, ⟨hS, hP, ok, hl, dj⟩, q⟩ := h
    rfl
  · obtain ⟨r, rp, S, t, rfl, ⟨hS, hP, ok, hl, dj⟩, q⟩ := h
    refine ⟨_, (pss_cons (ps_lock (ps_setLc (i := 3) (own := [("_law_number", 4)]) (g := gName 4) (by rfl) sc__law_needed.nd rfl rfl (sw_true rfl rfl rfl (by decide +kernel)) (pi_keys (pe_dget (hu_of hr) (pv 1) pe_str (fun _ _ => rfl))) (blkOk_by (own := [("_law_number", 4)]) (N := N__law_needed) (sc := defScope s__law_needed) (by decide +kernel)) (fun _ _ _ _ _ => pg_name (i := 4) sc__law_needed.nd rfl (Or.inl rfl)) (fun _ _ _ _ _ => pts_one (pt_cmpR (y_eq (K := K) hr.units) (pe_dget (hu_of hr) (pe_dget (hu_of hr) (pv 1) pe_str (fun _ _ => rfl)) (pv 4) (fun _ _ => rfl)) (pv 2) (nomark _))) (fun _ _ _ _ _ => (pv 4))))
      (pss_cons (ps_if (pt_cmpR (y_eq (K := K) hr.units) (pv 3) (pe_lst pa_nil) (nomark _)) (pss_cons (ps_dput (hu_of hr) (pv 1) pe_str (pe_op (y_add (K := K)) (pe_dget (hu_of hr) (pv 1) pe_str (fun _ _ => rfl)) pe_int) rfl)
      (pss_cons (ps_set (i := 3) sc__law_needed.nd rfl (by first | exact Or.inl rfl | exact Or.inr rfl) (pe_lst (pa_cons (pe_dget (hu_of hr) (pv 1) pe_str (fun _ _ => rfl)) pa_nil)))
      (pss_one (ps_dput (hu_of hr) (pe_dget (hu_of hr) (pv 1) pe_str (fun _ _ => rfl)) (pe_ix (y_ix (K := K)) (pv 3) pe_int (fun _ _ => rfl)) (pv 2) rfl)))) pss_nil)
      (pss_cons (ps_dput (hu_of hr) (pe_dget (hu_of hr) (pv 1) pe_str (fun _ _ => rfl)) (pe_ix (y_ix (K := K)) (pv 3) pe_int (fun _ _ => rfl)) (pe_op (y_add (K := K)) (pe_dget2 (hu_of hr) (pe_dget (hu_of hr) (pv 1) pe_str (fun _ _ => rfl)) (pe_ix (y_ix (K := K)) (pv 3) pe_int (fun _ _ => rfl)) pe_int ⟨by rfl, by rfl, by rfl, by rfl⟩) pe_int) rfl)
      (pss_one (ps_ret (pe_callS (E := (fun _ => E0)) (ok__law_alike W 6) (hr.mono (by first | decide | omega)) (by rfl) W.m__law_alike W.F__law_alike.kp W.b__law_alike (fun _ => pass0S) (pa_cons (pe_methE (E := (fun _ => E0)) (pv 0) W.T_Stock W.q_Stock_need (ok_Stock_need W) (hr.mono (by first | decide | omega)) W.b_Stock_need (fun _ => pass0S) (pa_cons (pv 2) pa_nil)) (pa_cons (pe_ix (y_ix (K := K)) (pv 3) pe_int (fun _ _ => rfl)) pa_nil)))))))), ?_⟩
    walk_at "ev"
    refine ⟨rp.t, _, hP.tx, trivial, fun od => ?_⟩
    obtain ⟨d1, d2, d3⟩ := hP.ne
    refine ⟨_, dgS (by rw [upd_ne d1]; exact hP.ob) plF_t, ?_⟩
    refine keysK upd_same fun D hD => ?_
    refine lc_keysK (f := fun i : Pc => if i.txt = t then some (natV i.num) else none) upd_same hD (by omega) (fun i H1 hi sm Ny Nn h1 h2 => ?_) (fun H1 sm hl1 => ?_)
    · walk_at "ev"
      refine ⟨_, dgS (sm _ _ (by rw [upd_ne d1]; exact hP.ob)) plF_t, ?_⟩
      refine ⟨_, dgRI (.inr ⟨_, sm _ _ upd_same⟩) (by
        show valV (mp Pc.ik _ S.its) (Sum.inl (i.num : Int)) = some (txtV i.txt)
        rw [valV_mp, show S.its.find? _ = some i from StM.byN_of ok hi]; rfl), ?_⟩
      walk_at "ev"
      by_cases e : i.txt = t
      · rw [decide_eq_true (show st i.txt = st t by rw [e]), br_t]
        exact h1 _ _ (Same.refl _) (by rw [if_pos e]; rfl)
      · rw [decide_eq_false (fun z => e (st_inj.mp z)), br_f]
        exact h2 _ (Same.refl _) (by rw [if_neg e])
    · have hDt : D ≠ rp.t := fun z => by rw [z, upd_same] at hD; cases hD
      rw [upd_ne hDt] at hD
      refine ⟨sm _ _ upd_same, ?_⟩
      have s2 := lock_same hP.tx sm
      have hl2 := lock_get (u := .dK (mp Pc.ik (fun i => txtV i.txt) S.its)) (sm _ _ upd_same) hl1 (by intro _ _ z; cases z)
      generalize upd H1 rp.t (.dK (mp Pc.ik (fun i => txtV i.txt) S.its)) = H2 at s2 hl2 ⊢
      intro p hp
      have s3 := same_upd (o := .lst []) s2 hp
      have hl3 := upd_of (o' := .lst []) hl2 hp
      have hp3 : upd H2 p (.lst []) p = some (.lst []) := upd_same
      generalize upd H2 p (.lst []) = H3 at s3 hl3 hp3 ⊢
      have hP3 := hP.same s3
      have hS3 := hS.same s3
      refine eq_lst (SqL.of hl3) (SqL.of hp3) ?_ rfl ?_
      · rw [List.all_eq_true]
        intro v hv
        obtain ⟨j, _, e⟩ := List.mem_filterMap.mp hv
        split at e
        · cases e
          rfl
        · cases e
      walk_at "ev"
      have cl : (S.need t).1.its.length < 2000 := by
        cases e : S.byT t with
        | some i => rw [need_old e]; show (S.its.map _).length < _; rw [List.length_map]; omega
        | none => rw [need_new ok e]; show (S.its ++ [_]).length < _; rw [List.length_append]; simp; omega
      refine brS_join (R := fun σ H4 => ∃ D', σ = [some (.ref r.k), some (.ref rp.d), some (txtV t), some (.ref D'), none] ∧ H4 D' = some (.lst [natV (S.need t).2]) ∧ StAt W.c_Stock H4 r S ∧ H4 rp.d = some (.dK (plF (S.need t).1.last rp.t rp.c)) ∧
        H4 rp.t = some (.dK (mp Pc.ik (fun i => txtV i.txt) (S.need t).1.its)) ∧ H4 rp.c = some (.dK (mp Pc.ik (fun i => .int (i.cnt : Int)) S.its)) ∧ Fr (r.F ++ rp.F) H H4 ∧ D' ∉ rp.F ∧ D' ∉ r.F) ?_ ?_
      · rintro σ H4 ⟨D', rfl, k1, k2, k3, k4, k5, k6, k7, k8⟩
        walk_at "ev"
        refine ⟨_, dgS k3 plF_c, ?_⟩
        walk_at "ev"
        refine ⟨.inl ⟨_, .inl k5⟩, _, _, .inl (SqL.of k1), rfl, ?_⟩
        refine ⟨_, dgI k5 rfl, ?_⟩
        have hv : ∃ c : Nat, (valV (mp Pc.ik (fun i => V.int (i.cnt : Int)) S.its) (Sum.inl ((S.need t).2 : Int))).getD (.int 0) = .int (c : Int) ∧ putK (mp Pc.ik (fun i => V.int (i.cnt : Int)) S.its) (Sum.inl ((S.need t).2 : Int)) (.int ((c : Int) + 1)) = mp Pc.ik (fun i => V.int (i.cnt : Int)) (S.need t).1.its := by
          cases e : S.byT t with
          | some i =>
            rw [need_old e]
            have hi := (StM.byT_some e).1
            refine ⟨i.cnt, ?_, (mp_at_ct ok.nn hi (· + 1)).symm⟩
            rw [valV_mp, show S.its.find? _ = some i from StM.byN_of ok hi]
            rfl
          | none =>
            rw [need_new ok e]
            refine ⟨0, ?_, ?_⟩
            · rw [valV_mp, show S.its.find? _ = none from ok.fresh]
              rfl
            · show putK _ _ _ = mp _ _ (S.its ++ [_])
              rw [putK_mp_new ok.fresh, mp_snoc]
              rfl
        obtain ⟨c, hv1, hv2⟩ := hv
        rw [hv1]
        walk_at "ev"
        refine ⟨_, dgS k3 plF_c, _, _, .inl (SqL.of k1), rfl, _, dpI k5 (by rw [mp_len]; omega), ?_⟩
        rw [hv2]
        have kD : D' ≠ rp.c := fun z => k7 (by rw [z]; simp [PlR.F])
        have hP5 : PlAt (upd H4 rp.c (.dK (mp Pc.ik (fun i => V.int (i.cnt : Int)) (S.need t).1.its))) rp (S.need t).1 := ⟨by rw [upd_ne d2]; exact k3, by rw [upd_ne d3]; exact k4, upd_same, hP.ne⟩
        have hS5 : StAt W.c_Stock (upd H4 rp.c (.dK (mp Pc.ik (fun i => V.int (i.cnt : Int)) (S.need t).1.its))) r S := k2.fr (F := rp.F) (Fr.upd (by simp [PlR.F]) k5 rfl) dj
        have s5 := k6.upd2 (a := rp.c) (o := .dK (mp Pc.ik (fun i => V.int (i.cnt : Int)) (S.need t).1.its)) (by simp [PlR.F]) k5 rfl
        have k1' : upd H4 rp.c (.dK (mp Pc.ik (fun i => V.int (i.cnt : Int)) (S.need t).1.its)) D' = some (.lst [natV (S.need t).2]) := by rw [upd_ne kD]; exact k1
        generalize upd H4 rp.c (.dK (mp Pc.ik (fun i => V.int (i.cnt : Int)) (S.need t).1.its)) = H5 at hP5 hS5 s5 k1' ⊢
        walk_at "ev"
        rw [fM W hS5.ob (by decide +kernel)]
        walk_at "ev"
        refine ⟨r, S, t, rfl, ⟨hS5, ok, by omega⟩, fun H6 hS6 s6 => ?_⟩
        refine ⟨_, _, .inl (SqL.of (s6.lst k1' k8)), rfl, ?_⟩
        refine ⟨_, _, rfl, Al.int _, ?_⟩
        exact q _ hS6 (hP5.fr s6 fun a ha hb => dj a hb ha) (s5.trans (s6.mono fun a ha => List.mem_append_left _ ha))
      · intro N k
        have hDn : D ∉ rp.F := fun z => by
          simp only [PlR.F, List.mem_cons, List.not_mem_nil, or_false] at z
          rcases z with z | z | z
          · rw [z, hP.ob] at hD; cases hD
          · exact hDt z
          · rw [z, hP.ct] at hD; cases hD
        have hDs : D ∉ r.F := fun z => hS.live z hD
        cases e : S.byT t with
        | some i =>
          have e0 := held_some (fun i => natV i.num) ok e
          rw [e0] at hl3 ⊢
          rw [decide_eq_false (by simp)]
          walk_at "ev"
          refine k _ _ ⟨D, rfl, by rw [need_old e]; exact hl3, hS3, by rw [need_old e]; exact hP3.ob, by rw [need_old e, mp_at_tx]; exact hP3.tx, hP3.ct, frS s3, hDn, hDs⟩
        | none =>
          have e0 := held_none (fun i => natV i.num) e
          rw [e0] at hl3 ⊢
          rw [decide_eq_true rfl]
          walk_at "ev"
          refine ⟨_, dgS hP3.ob plF_l, ?_⟩
          walk_at "ev"
          refine ⟨_, dpS hP3.ob (by show 3 < _; omega), ?_⟩
          rw [plF_p]
          have s4 : Fr (r.F ++ rp.F) H (upd H3 rp.d (.dK (plF ((S.last : Int) + 1) rp.t rp.c))) := (frS s3).upd2 (by simp [PlR.F]) hP3.ob rfl
          have hS4 : StAt W.c_Stock (upd H3 rp.d (.dK (plF ((S.last : Int) + 1) rp.t rp.c))) r S := hS3.fr (F := rp.F) (Fr.upd (by simp [PlR.F]) hP3.ob rfl) dj
          have o4 : upd H3 rp.d (.dK (plF ((S.last : Int) + 1) rp.t rp.c)) rp.d = some (.dK (plF ((S.last : Int) + 1) rp.t rp.c)) := upd_same
          have t4 : upd H3 rp.d (.dK (plF ((S.last : Int) + 1) rp.t rp.c)) rp.t = some (.dK (mp Pc.ik (fun i => txtV i.txt) S.its)) := by rw [upd_ne d1.symm]; exact hP3.tx
          have c4 : upd H3 rp.d (.dK (plF ((S.last : Int) + 1) rp.t rp.c)) rp.c = some (.dK (mp Pc.ik (fun i => V.int (i.cnt : Int)) S.its)) := by rw [upd_ne d2.symm]; exact hP3.ct
          generalize upd H3 rp.d (.dK (plF ((S.last : Int) + 1) rp.t rp.c)) = H4 at s4 hS4 o4 t4 c4 ⊢
          refine ⟨_, dgS o4 plF_l, ?_⟩
          intro p5 hp5
          have s5 := s4.new (o := .lst [.int ((S.last : Int) + 1)]) hp5
          have hS5 := hS4.same (same_new (o := .lst [.int ((S.last : Int) + 1)]) hp5)
          have o5 := upd_of (o' := .lst [.int ((S.last : Int) + 1)]) o4 hp5
          have t5 := upd_of (o' := .lst [.int ((S.last : Int) + 1)]) t4 hp5
          have c5 := upd_of (o' := .lst [.int ((S.last : Int) + 1)]) c4 hp5
          have l5 : upd H4 p5 (.lst [.int ((S.last : Int) + 1)]) p5 = some (.lst [natV (S.last + 1)]) := upd_same
          have n5 : p5 ∉ rp.F := fun z => by
            simp only [PlR.F, List.mem_cons, List.not_mem_nil, or_false] at z
            rcases z with z | z | z
            · rw [z, o4] at hp5; cases hp5
            · rw [z, t4] at hp5; cases hp5
            · rw [z, c4] at hp5; cases hp5
          have m5 : p5 ∉ r.F := fun z => hS4.live z hp5
          generalize upd H4 p5 (.lst [.int ((S.last : Int) + 1)]) = H5 at s5 hS5 o5 t5 c5 l5 ⊢
          refine ⟨_, dgS o5 plF_t, _, _, .inl (SqL.of l5), rfl, _, dpI t5 (by rw [mp_len]; omega), ?_⟩
          have k5 : p5 ≠ rp.t := fun z => n5 (by rw [z]; simp [PlR.F])
          have nn := need_new ok e
          refine k _ _ ⟨p5, rfl, by rw [upd_ne k5, nn]; exact l5, hS5.fr (F := rp.F) (Fr.upd (by simp [PlR.F]) t5 rfl) dj, by rw [upd_ne d1, nn]; exact o5, ?_, by rw [upd_ne d3.symm]; exact c5, s5.upd2 (by simp [PlR.F]) t5 rfl, n5, m5⟩
          rw [upd_same, nn]
          show _ = some (HO.dK (mp Pc.ik (fun i => txtV i.txt) (S.its ++ [_])))
          rw [mp_snoc, putK_mp_new ok.fresh]
          rfl
def sp__law_freed {K : PySem.W.Frag} {mg : Str → Option Value} (W : Wd K mg) : Sp := fun vs H Q _ => ∃ r rp S, ∃ n : Int, vs = [.ref r.k, .ref rp.d, .int n] ∧ (StAt W.c_Stock H r S ∧ PlAt H rp S ∧ S.Ok ∧ S.its.length < 1000 ∧ (∀ a ∈ r.F, a ∉ rp.F)) ∧ ∀ S' H', S' = ((S.byN n).map S.free).getD S → StAt W.c_Stock H' r S' → PlAt H' rp S' → Fr (r.F ++ rp.F) H H' → Q (.bl true) H'
theorem ok__law_freed (W : Wd K mg) : FnOk P w K mg base CX0 8 W.f__law_freed W.d__law_freed ["_law_stock", "_law_plain", "_law_number"] (sp__law_freed W) := by
  refine W.F__law_freed.ok sc__law_freed (fun vs H Q E h => ?_) (fun cdv A outer s H vs Q E hr h => ?_)
  · obtain ⟨r, rp, S, n, rfl, ⟨hS, hP, ok, hl, dj⟩, q⟩ := h
    rfl
  · obtain ⟨r, rp, S, n, rfl, ⟨hS, hP, ok, hl, dj⟩, q⟩ := h
    refine ⟨_, (pss_cons (ps_set (i := 3) sc__law_freed.nd rfl (by first | exact Or.inl rfl | exact Or.inr rfl) (pe_callS (E := (fun _ => E0)) (ok__law_answer W) (hr.mono (by first | decide | omega)) (by rfl) W.m__law_answer W.F__law_answer.kp W.b__law_answer (fun _ => pass0S) (pa_cons (pv 0) (pa_cons pe_int (pa_cons (pv 2) pa_nil)))))
      (pss_cons (ps_if (pt_cmp (pc_dnotin (hu_of hr) (pv 2) (pe_dget (hu_of hr) (pv 1) pe_str (fun _ _ => rfl)))) (pss_one (ps_ret (pe_callS (E := (fun _ => E0)) (ok__law_alike W 6) (hr.mono (by first | decide | omega)) (by rfl) W.m__law_alike W.F__law_alike.kp W.b__law_alike (fun _ => pass0S) (pa_cons (pv 3) (pa_cons (pe_tup (pa_cons pe_str (pa_cons pe_bl pa_nil))) pa_nil))))) pss_nil)
      (pss_cons (ps_dput (hu_of hr) (pe_dget (hu_of hr) (pv 1) pe_str (fun _ _ => rfl)) (pv 2) (pe_op y_sub (pe_dget (hu_of hr) (pe_dget (hu_of hr) (pv 1) pe_str (fun _ _ => rfl)) (pv 2) (fun _ _ => rfl)) pe_int) rfl)
      (pss_cons (ps_if (pt_cmpR (y_eq (K := K) hr.units) (pe_dget (hu_of hr) (pe_dget (hu_of hr) (pv 1) pe_str (fun _ _ => rfl)) (pv 2) (fun _ _ => rfl)) pe_int (nomark _)) (pss_cons (ps_expr (pe_dpop1 (pe_dget (hu_of hr) (pv 1) pe_str (fun _ _ => rfl)) (pv 2) ⟨by rfl, by rfl, by rfl, by rfl⟩))
      (pss_one (ps_expr (pe_dpop1 (pe_dget (hu_of hr) (pv 1) pe_str (fun _ _ => rfl)) (pv 2) ⟨by rfl, by rfl, by rfl, by rfl⟩)))) pss_nil)
      (pss_one (ps_ret (pe_callS (E := (fun _ => E0)) (ok__law_alike W 6) (hr.mono (by first | decide | omega)) (by rfl) W.m__law_alike W.F__law_alike.kp W.b__law_alike (fun _ => pass0S) (pa_cons (pv 3) (pa_cons (pe_tup (pa_cons pe_str (pa_cons pe_non pa_nil))) pa_nil))))))))), ?_⟩
    walk_at "ev"
    obtain ⟨d1, d2, d3⟩ := hP.ne
    refine ⟨r, S, .int n, 0, rfl, ⟨hS, ok, by omega, by simp [tyN]⟩, fun _ i e H1 p1 hS1 s1 hp0 hp1 => ?_, fun z => absurd rfl z, fun e H1 p1 s1 hp0 hp1 => ?_⟩
    · have e' : S.byN n = some i := e
      rw [e'] at q
      have q := q (S.free i)
      obtain ⟨hi, hn⟩ := StM.byN_some e'
      have hP1 := hP.fr s1 fun a ha hb => dj a hb ha
      walk_at "ev"
      refine ⟨_, dgS hP1.ob plF_t, ?_⟩
      walk_at "ev"
      refine ⟨_, dgI hP1.tx (by rw [valV_mp, show S.its.find? _ = some i from e']), ?_⟩
      walk_at "ev"
      refine ⟨_, dgS hP1.ob plF_c, ?_⟩
      walk_at "ev"
      refine ⟨_, dgI hP1.ct (by rw [valV_mp, show S.its.find? _ = some i from e']; rfl), ?_⟩
      walk_at "ev"
      refine ⟨_, dgS hP1.ob plF_c, _, dpI hP1.ct (by rw [mp_len]; omega), ?_⟩
      have hc1 := ok.cnt i hi
      have ez : (i.cnt : Int) - 1 = ((i.cnt - 1 : Nat) : Int) := by omega
      subst hn
      rw [ez, ← mp_at_ct ok.nn hi (· - 1)]
      have hP2 : PlAt (upd H1 rp.c (.dK (mp Pc.ik (fun i => V.int (i.cnt : Int)) (S.at i.num (· - 1)).its))) rp (S.at i.num (· - 1)) := ⟨by rw [upd_ne d2]; exact hP1.ob, by rw [upd_ne d3, mp_at_tx]; exact hP1.tx, upd_same, hP.ne⟩
      have s2 : Fr rp.F H1 (upd H1 rp.c (.dK (mp Pc.ik (fun i => V.int (i.cnt : Int)) (S.at i.num (· - 1)).its))) := Fr.upd (by simp [PlR.F]) hP1.ct rfl
      generalize upd H1 rp.c (.dK (mp Pc.ik (fun i => V.int (i.cnt : Int)) (S.at i.num (· - 1)).its)) = H2 at hP2 s2 ⊢
      have nn1 : ((S.at i.num (· - 1)).its.map (·.num)).Nodup := by rw [at_num]; exact ok.nn
      have hm : (⟨i.num, i.txt, i.cnt - 1⟩ : Pc) ∈ (S.at i.num (· - 1)).its := List.mem_map.mpr ⟨i, hi, by rw [if_pos rfl]⟩
      have hfree : S.free i = if i.cnt = 1 then (S.at i.num (· - 1)).out i.num else S.at i.num (· - 1) := rfl
      have hlen : (S.at i.num (· - 1)).its.length < 1000 := by show (S.its.map _).length < _; rw [List.length_map]; exact hl
      generalize hT : S.at i.num (· - 1) = T at hP2 nn1 hm hfree hlen ⊢
      have fI : T.its.find? (fun j => decide (j.ik = Sum.inl (i.num : Int))) = some ⟨i.num, i.txt, i.cnt - 1⟩ := by
        refine find_inj (key := Pc.ik) (a := (⟨i.num, i.txt, i.cnt - 1⟩ : Pc)) ?_ hm
        rw [List.nodup_iff_pairwise_ne, List.pairwise_map] at nn1 ⊢
        exact nn1.imp fun h e => h (by
          have := Sum.inl.inj e
          omega)
      refine ⟨_, dgS hP2.ob plF_c, ?_⟩
      walk_at "ev"
      refine ⟨_, dgI hP2.ct (by rw [valV_mp, fI]; rfl), ?_⟩
      walk_at "ev"
    
      refine brS_join (R := fun σ H4 => σ = [some (.ref r.k), some (.ref rp.d), some (.int (i.num : Int)), some (.ref p1)] ∧ PlAt H4 rp (S.free i) ∧ Fr rp.F H1 H4) ?_ ?_
      · rintro σ H4 ⟨rfl, hP4, s4⟩
        walk_at "ev"
        intro p2 hp2
        have n1 : p1 ∉ rp.F := fun z => by
          simp only [PlR.F, List.mem_cons, List.not_mem_nil, or_false] at z
          rcases z with z | z | z
          · rw [z, hP.ob] at hp0; cases hp0
          · rw [z, hP.tx] at hp0; cases hp0
          · rw [z, hP.ct] at hp0; cases hp0
        refine ⟨_, _, rfl, Al.tup2 (upd_of (s4.tup hp1 n1) hp2) upd_same (Al.str _) Al.non, ?_⟩
        refine q _ rfl ((hS1.fr s4 dj).same (same_new hp2)) (hP4.same (same_new hp2)) ?_
        exact ((s1.mono fun a ha => List.mem_append_left _ ha).trans (s4.mono fun a ha => List.mem_append_right _ ha)).new hp2
      · intro N k
        by_cases hc : i.cnt = 1
        · rw [if_pos hc] at hfree
          rw [decide_eq_true (show ((i.cnt - 1 : Nat) : Int) = 0 by omega)]
          walk_at "ev"
          refine ⟨_, dgS hP2.ob plF_c, ?_⟩
          walk_at "ev"
          refine ⟨.inl ⟨_, .inl hP2.ct⟩, _, Sum.inl (i.num : Int), _, hP2.ct, rfl, by rw [valV_mp, fI]; rfl, ?_⟩
          refine ⟨_, dgS (by rw [upd_ne d2]; exact hP2.ob) plF_t, ?_⟩
          walk_at "ev"
          have ht3 := hP2.tx
          rw [← upd_ne (H := H2) (a := rp.c) (o := .dK (dropK (mp Pc.ik (fun i => V.int (i.cnt : Int)) T.its) (Sum.inl (i.num : Int)))) d3] at ht3
          refine ⟨.inl ⟨_, .inl ht3⟩, _, Sum.inl (i.num : Int), _, ht3, rfl, by rw [valV_mp, fI]; rfl, ?_⟩
          have ek : ∀ {val : Pc → V}, dropK (mp Pc.ik val T.its) (Sum.inl (i.num : Int)) = mp Pc.ik val (T.out i.num).its := fun {val} => (mp_out (key := Pc.ik) (S := T) (i := ⟨i.num, i.txt, i.cnt - 1⟩) fun j _ => Pc.ik_inj).symm
          rw [ek, ek] at ⊢
          refine k _ _ ⟨rfl, ⟨?_, ?_, ?_, hP.ne⟩, ?_⟩
          · rw [upd_ne d1, upd_ne d2, hfree]
            exact hP2.ob
          · rw [upd_same, hfree]
          · rw [upd_ne d3.symm, upd_same, hfree]
          · refine (s2.upd2 (by simp [PlR.F]) hP2.ct rfl).upd2 (by simp [PlR.F]) (by rw [upd_ne d3]; exact hP2.tx) rfl
        · rw [if_neg hc] at hfree
          rw [decide_eq_false (show ¬ ((i.cnt - 1 : Nat) : Int) = 0 by omega)]
          walk_at "ev"
          exact k _ _ ⟨rfl, by rw [hfree]; exact hP2, s2⟩
    · have e' : S.byN n = none := e
      rw [e'] at q
      have q := q S
      have hP1 := hP.same s1
      walk_at "ev"
      refine ⟨_, dgS hP1.ob plF_t, ?_⟩
      walk_at "ev"
      refine ⟨_, dgI hP1.tx (by rw [valV_mp, show S.its.find? _ = none from e']), ?_⟩
      walk_at "ev"
      intro p2 hp2
      refine ⟨_, _, rfl, Al.tup2 (upd_of hp1 hp2) upd_same (Al.str _) Al.bt, ?_⟩
      exact q _ rfl ((hS.same s1).same (same_new hp2)) (hP1.same (same_new hp2)) (frS (same_upd s1 hp2))
def sp_law (K : PySem.W.Frag) : Sp := fun vs H Q _ => ∃ (a : Addr) (ns : List Int), vs = [.ref a] ∧ SqL K H a (ns.map V.int) ∧ ns.length ≤ 63 ∧ ∀ H', Q (.bl true) H'
theorem ok_law (W : Wd K mg) : FnOk P w K mg base CX0 10 W.f_law W.d_law ["_law_script"] (sp_law K) := by
  refine W.F_law.ok sc_law (fun vs H Q E h => ?_) (fun cdv A outer s H vs Q E hr h => ?_)
  · obtain ⟨a, ns, rfl, hS, hl, q⟩ := h
    rfl
  · obtain ⟨a, ns, rfl, hS, hl, q⟩ := h
    refine ⟨_, (pss_cons (ps_set (i := 1) sc_law.nd rfl (by first | exact Or.inl rfl | exact Or.inr rfl) (pe_lst (pa_cons (pe_makeE0 (E := (fun _ => E0)) W.k_Stock (ok_Stock___init__ W) (hr.mono (by first | decide | omega)) (by rfl) W.g_Stock W.b_Stock___init__ (fun _ => pass0S)) (pa_cons (pe_makeE0 (E := (fun _ => E0)) W.k_Stock (ok_Stock___init__ W) (hr.mono (by first | decide | omega)) (by rfl) W.g_Stock W.b_Stock___init__ (fun _ => pass0S)) pa_nil))))
      (pss_cons (ps_set (i := 2) sc_law.nd rfl (by first | exact Or.inl rfl | exact Or.inr rfl) (pe_lst (pa_cons (pe_disp (pps_cons pe_str pe_int (pps_cons pe_str pe_dnewK (pps_cons pe_str pe_dnewK pps_nil))) (by rfl) (by rfl) (fun z => by cases z) (by decide)) (pa_cons (pe_disp (pps_cons pe_str pe_int (pps_cons pe_str pe_dnewK (pps_cons pe_str pe_dnewK pps_nil))) (by rfl) (by rfl) (fun z => by cases z) (by decide)) pa_nil))))
      (pss_cons (ps_set (i := 3) sc_law.nd rfl (by first | exact Or.inl rfl | exact Or.inr rfl) (pe_lst pa_nil))
      (pss_cons (ps_set (i := 4) sc_law.nd rfl (by first | exact Or.inl rfl | exact Or.inr rfl) (pe_lst (pa_cons pe_str pa_nil)))
      (pss_cons (ps_for PassesOwn.never rfl (pi_list (pe_slice (y_sl (K := K)) (pv 0) po_none (po_some (pe_ix (y_ix (K := K)) (pe_lst (pa_cons pe_int (pa_cons pe_int pa_nil))) (pe_callTy y_int1 (by rfl) W.z_int (by decide +kernel) (pa_cons (pe_cmpR y_gt (pe_callB (y_len (K := K)) (by rfl) W.z_len (by decide +kernel) (pa_cons (pv 0) pa_nil)) pe_int (nomark _)) pa_nil)) (fun _ _ => rfl))))) (pg_name (i := 5) sc_law.nd rfl (by first | exact Or.inl rfl | exact Or.inr rfl)) (pss_cons (ps_set (i := 7) sc_law.nd rfl (by first | exact Or.inl rfl | exact Or.inr rfl) (pe_callTy y_int1 (by rfl) W.z_int (by decide +kernel) (pa_cons (pe_cmpR (y_eq (K := K) hr.units) (pe_op y_mod (pe_op y_mod (pe_op y_mul (pv 5) pe_int) pe_int) pe_int) pe_int (nomark _)) pa_nil)))
      (pss_cons (ps_set (i := 8) sc_law.nd rfl (by first | exact Or.inl rfl | exact Or.inr rfl) (pe_op y_mod (pe_op y_fdiv (pv 5) pe_int) (pe_op (y_add (K := K)) (pe_dget (hu_of hr) (pe_ix (y_ix (K := K)) (pv 2) (pv 7) (fun _ _ => rfl)) pe_str (fun _ _ => rfl)) pe_int)))
      (pss_cons (ps_if (pt_cmpR y_lt (pe_op y_mod (pv 5) pe_int) pe_int (nomark _)) (pss_one (ps_expr (pe_bm PySem.F.plainAttrs_list PySem.F.slot_list_append PySem.F.type_list_append mt_append (pv 4) (pa_cons (pe_callS (E := (fun _ => E0)) (ok__law_text_by W) (hr.mono (by first | decide | omega)) (by rfl) W.m__law_text_by W.F__law_text_by.kp W.b__law_text_by (fun _ => pass0S) (pa_cons (pe_op y_fdiv (pv 5) pe_int) (pa_cons (pe_op (y_add (K := K)) pe_int (pe_op y_mod (pe_op y_fdiv (pv 5) pe_int) pe_int)) pa_nil))) pa_nil)))) pss_nil)
      (pss_cons (ps_if (PW.pt (pw_and (pt_cmpR (y_eq (K := K) hr.units) (pe_op y_mod (pe_op y_fdiv (pv 5) pe_int) pe_int) pe_int (nomark _)) (pw_and1 (pt_not (pt_val (pe_callS (E := (fun _ => E0)) (ok__law_counted W) (hr.mono (by first | decide | omega)) (by rfl) W.m__law_counted W.F__law_counted.kp W.b__law_counted (fun _ => pass0S) (pa_cons (pe_ix (y_ix (K := K)) (pv 1) (pv 7) (fun _ _ => rfl)) (pa_cons (pe_ix (y_ix (K := K)) (pv 2) (pv 7) (fun _ _ => rfl)) (pa_cons (pv 8) pa_nil))))))))) (pss_one (ps_ret pe_bl)) pss_nil)
      (pss_cons (ps_if (pt_cmpR y_lt (pe_op y_mod (pv 5) pe_int) pe_int (nomark _)) (pss_cons (ps_set (i := 10) sc_law.nd rfl (by first | exact Or.inl rfl | exact Or.inr rfl) (pe_ix (y_ix (K := K)) (pv 4) (pe_ix (y_ix (K := K)) (pe_lst (pa_cons (pe_op y_sub (pe_callB (y_len (K := K)) (by rfl) W.z_len (by decide +kernel) (pa_cons (pv 4) pa_nil)) pe_int) (pa_cons (pe_op y_mod (pe_op y_fdiv (pv 5) pe_int) (pe_callB (y_len (K := K)) (by rfl) W.z_len (by decide +kernel) (pa_cons (pv 4) pa_nil))) pa_nil))) (pe_callTy y_int1 (by rfl) W.z_int (by decide +kernel) (pa_cons (pe_cmpR y_gt (pe_op y_mod (pv 5) pe_int) pe_int (nomark _)) pa_nil)) (fun _ _ => rfl)) (fun _ _ => rfl)))
      (pss_one (ps_if (pt_not (pt_val (pe_callS (E := (fun _ => E0)) (ok__law_needed W) (hr.mono (by first | decide | omega)) (by rfl) W.m__law_needed W.F__law_needed.kp W.b__law_needed (fun _ => pass0S) (pa_cons (pe_ix (y_ix (K := K)) (pv 1) (pv 7) (fun _ _ => rfl)) (pa_cons (pe_ix (y_ix (K := K)) (pv 2) (pv 7) (fun _ _ => rfl)) (pa_cons (pv 10) pa_nil)))))) (pss_one (ps_ret pe_bl)) pss_nil))) (pss_one (ps_if (pt_not (pt_val (pe_callS (E := (fun _ => E0)) (ok__law_freed W) (hr.mono (by first | decide | omega)) (by rfl) W.m__law_freed W.F__law_freed.kp W.b__law_freed (fun _ => pass0S) (pa_cons (pe_ix (y_ix (K := K)) (pv 1) (pv 7) (fun _ _ => rfl)) (pa_cons (pe_ix (y_ix (K := K)) (pv 2) (pv 7) (fun _ _ => rfl)) (pa_cons (pv 8) pa_nil)))))) (pss_one (ps_ret pe_bl)) pss_nil)))
      (pss_cons (ps_if (PW.pt (pw_and (pt_cmpR (y_eq (K := K) hr.units) (pe_op y_mod (pe_op y_fdiv (pv 5) pe_int) pe_int) pe_int (nomark _)) (pw_and1 (pt_not (pt_val (pe_callS (E := (fun _ => E0)) (ok__law_counted W) (hr.mono (by first | decide | omega)) (by rfl) W.m__law_counted W.F__law_counted.kp W.b__law_counted (fun _ => pass0S) (pa_cons (pe_ix (y_ix (K := K)) (pv 1) (pv 7) (fun _ _ => rfl)) (pa_cons (pe_ix (y_ix (K := K)) (pv 2) (pv 7) (fun _ _ => rfl)) (pa_cons (pv 8) pa_nil))))))))) (pss_one (ps_ret pe_bl)) pss_nil)
      (pss_one (ps_if (pt_not (pt_val (pe_callS (E := (fun _ => E0)) (ok__law_look W) (hr.mono (by first | decide | omega)) (by rfl) W.m__law_look W.F__law_look.kp W.b__law_look (fun _ => pass0S) (pa_cons (pe_ix (y_ix (K := K)) (pv 1) (pv 7) (fun _ _ => rfl)) (pa_cons (pe_ix (y_ix (K := K)) (pv 2) (pv 7) (fun _ _ => rfl)) (pa_cons (pv 8) (pa_cons (pv 3) pa_nil))))))) (pss_one (ps_ret pe_bl)) pss_nil)))))))))
      (pss_cons (ps_for PassesOwn.never rfl (pi_list (pe_lst (pa_cons pe_bl (pa_cons pe_non (pa_cons pe_str pa_nil))))) (pg_name (i := 6) sc_law.nd rfl (by first | exact Or.inl rfl | exact Or.inr rfl)) (pss_cons (ps_for PassesOwn.never rfl (pi_range1 (by rfl) W.z_range (pa_cons pe_int pa_nil)) (pg_name (i := 9) sc_law.nd rfl (by first | exact Or.inl rfl | exact Or.inr rfl)) (pss_one (ps_if (pt_not (pt_val (pe_callS (E := (fun _ => E0)) (ok__law_alike W 6) (hr.mono (by first | decide | omega)) (by rfl) W.m__law_alike W.F__law_alike.kp W.b__law_alike (fun _ => pass0S) (pa_cons (pe_callS (E := (fun _ => E0)) (ok__law_answer W) (hr.mono (by first | decide | omega)) (by rfl) W.m__law_answer W.F__law_answer.kp W.b__law_answer (fun _ => pass0S) (pa_cons (pe_ix (y_ix (K := K)) (pv 1) pe_int (fun _ _ => rfl)) (pa_cons (pv 9) (pa_cons (pv 6) pa_nil)))) (pa_cons (pe_tup (pa_cons pe_str (pa_cons pe_bl pa_nil))) pa_nil))))) (pss_one (ps_ret pe_bl)) pss_nil)))
      (pss_one (ps_if (pt_not (pt_val (pe_callS (E := (fun _ => E0)) (ok__law_alike W 6) (hr.mono (by first | decide | omega)) (by rfl) W.m__law_alike W.F__law_alike.kp W.b__law_alike (fun _ => pass0S) (pa_cons (pe_methE (E := (fun _ => E0)) (pe_ix (y_ix (K := K)) (pv 1) pe_int (fun _ _ => rfl)) W.T_Stock W.q_Stock_count (ok_Stock_count W) (hr.mono (by first | decide | omega)) W.b_Stock_count (fun _ => pass0S) (pa_cons (pv 6) pa_nil)) (pa_cons pe_int pa_nil))))) (pss_one (ps_ret pe_bl)) pss_nil))))
      (pss_one (ps_ret (pe_cmpR (y_eq (K := K) hr.units) (pe_lc (own := [("_law_pair", 11)]) (g := gName 11) (by rfl) sc_law.nd (pi_list (pv 3)) (blkOk_by (own := [("_law_pair", 11)]) (N := N_law) (sc := defScope s_law) (by decide +kernel)) (fun _ _ _ _ _ => pg_name (i := 11) sc_law.nd rfl (Or.inl rfl)) (fun _ _ _ _ _ => pts_one (pt_cmpR (y_ne (K := K) hr.units) (pe_ix (y_ix (K := K)) (pv 11) pe_int (fun _ _ => rfl)) (pe_ix (y_ix (K := K)) (pv 11) pe_int (fun _ _ => rfl)) (nomark _))) (fun _ _ _ _ _ => (pv 11))) (pe_lst pa_nil) (nomark _)))))))))), ?_⟩
    walk_at "ev"
    intro x0 dx0 nx0 ndx0 nex0
    refine ⟨x0, dx0, rfl, upd_same, fun r0 H1 e1 e2 t0 c0 n0 hS1 s1 => ⟨rfl, ?_⟩⟩
    have N0 := st_new nx0 ndx0 e1 t0 c0 n0 hS1 s1
    clear s1 hS1 t0 c0 n0 nx0 ndx0 nex0 e2
    subst e1
    have hs1 := sqlFr hS N0.fr List.not_mem_nil
    have w1 : Own H1 (paint (fun _ => 0) r0.F 1) := own0.paint N0.fr.live fun a ha => N0.at_.live ha
    intro x1 dx1 nx1 ndx1 nex1
    refine ⟨x1, dx1, rfl, upd_same, fun r1 H2 e1 e2 t0 c0 n0 hS2 s2 => ⟨rfl, ?_⟩⟩
    have N1 := st_new nx1 ndx1 e1 t0 c0 n0 hS2 s2
    clear s2 hS2 t0 c0 n0 nx1 ndx1 nex1 e2
    subst e1
    have hs2 := sqlFr hs1 N1.fr List.not_mem_nil
    have w2 : Own H2 (paint (paint (fun _ => 0) r0.F 1) r1.F 2) := w1.paint N1.fr.live fun a ha => N1.at_.live ha
    have A0 := N0.at_.fr N1.fr (fun _ _ => List.not_mem_nil)
    have A1 := N1.at_
    have g0 : ∀ a ∈ r0.F, paint (paint (fun _ => 0) r0.F 1) r1.F 2 a = 1 := fun a ha => (paint_old N1.new (N0.at_.live ha)).trans (paint_in ha)
    have g1 : ∀ a ∈ r1.F, paint (paint (fun _ => 0) r0.F 1) r1.F 2 a = 2 := fun a ha => paint_in ha
    generalize paint (paint (fun _ => 0) r0.F 1) r1.F 2 = g2 at w2 g0 g1
    clear N0 N1 w1 hs1 hS
    intro ps hps
    have f3 : Fr [] H2 (upd H2 ps (.lst [.ref r0.k, .ref r1.k])) := frS (same_new hps)
    have hs3 := sqlFr hs2 f3 List.not_mem_nil
    have gps : g2 ps = 0 := w2 _ hps
    have w3 := w2.live f3.live
    have B0 := A0.fr f3 (fun _ _ => List.not_mem_nil)
    have B1 := A1.fr f3 (fun _ _ => List.not_mem_nil)
    have hps3 : upd H2 ps (.lst [.ref r0.k, .ref r1.k]) ps = some (.lst [.ref r0.k, .ref r1.k]) := upd_same
    generalize upd H2 ps (.lst [.ref r0.k, .ref r1.k]) = H3 at hs3 w3 B0 B1 hps3 ⊢
    clear A0 A1 f3 w2 hs2
    intro d0 hd0 t0 ht0 c0 hc0
    have M0 := pl_new hd0 ht0 hc0
    refine ⟨M0.1, [(Sum.inr "last", .int 0), (Sum.inr "texts", .ref t0), (Sum.inr "counts", .ref c0)], rfl, (by show 3 ≤ 15; decide), ?_⟩
    rw [merge_pl]
    have M0 := M0.2
    generalize upd (upd (upd (upd H3 d0 (.dK [])) t0 (.dK [])) c0 (.dK [])) d0 (.dK (plF 0 t0 c0)) = H4 at M0 ⊢
    intro d1 hd1 t1 ht1 c1 hc1
    have M1 := pl_new hd1 ht1 hc1
    refine ⟨M1.1, [(Sum.inr "last", .int 0), (Sum.inr "texts", .ref t1), (Sum.inr "counts", .ref c1)], rfl, (by show 3 ≤ 15; decide), ?_⟩
    rw [merge_pl]
    have M1 := M1.2
    generalize upd (upd (upd (upd H4 d1 (.dK [])) t1 (.dK [])) c1 (.dK [])) d1 (.dK (plF 0 t1 c1)) = H5 at M1 ⊢
    have live3 : ∀ {H' : Hp} {d t c : Addr} {S : StM}, PlAt H' ⟨d, t, c⟩ S → ∀ x ∈ [d, t, c], H' x ≠ none := fun h x hx => by
      simp only [List.mem_cons, List.not_mem_nil, or_false] at hx
      rcases hx with e | e | e <;> rw [e]
      · rw [h.ob]; intro z; cases z
      · rw [h.tx]; intro z; cases z
      · rw [h.ct]; intro z; cases z
    have new3 : ∀ {H' : Hp} {d t c : Addr}, H' d = none → H' t = none → H' c = none → ∀ x ∈ [d, t, c], H' x = none := fun h1 h2 h3 x hx => by
      simp only [List.mem_cons, List.not_mem_nil, or_false] at hx
      rcases hx with e | e | e <;> rw [e] <;> assumption
    have w4 : Own H4 (paint g2 [d0, t0, c0] 3) := w3.paint (fun x h => M0.sm.free h) (live3 M0.at_)
    have w5 : Own H5 (paint (paint g2 [d0, t0, c0] 3) [d1, t1, c1] 4) := w4.paint (fun x h => M1.sm.free h) (live3 M1.at_)
    have old5 : ∀ x, H3 x ≠ none → paint (paint g2 [d0, t0, c0] 3) [d1, t1, c1] 4 x = g2 x := fun x hx => (paint_old (new3 M1.nd M1.nt M1.nc) (fun z => hx (M0.sm.free z))).trans (paint_old (new3 M0.nd M0.nt M0.nc) hx)
    have c0' : ∀ x ∈ [d0, t0, c0], paint (paint g2 [d0, t0, c0] 3) [d1, t1, c1] 4 x = 3 := fun x hx => (paint_old (new3 M1.nd M1.nt M1.nc) (live3 M0.at_ x hx)).trans (paint_in hx)
    have c1' : ∀ x ∈ [d1, t1, c1], paint (paint g2 [d0, t0, c0] 3) [d1, t1, c1] 4 x = 4 := fun x hx => paint_in hx
    have g0' := fun x hx => (old5 x (B0.live hx)).trans (g0 x hx)
    have g1' := fun x hx => (old5 x (B1.live hx)).trans (g1 x hx)
    have gps' := (old5 ps (by rw [hps3]; intro z; cases z)).trans gps
    generalize paint (paint g2 [d0, t0, c0] 3) [d1, t1, c1] 4 = g5 at w5 c0' c1' g0' g1' gps'
    have f5 : Same H3 H5 := M0.sm.trans M1.sm
    have P0 := M0.at_.same M1.sm
    have P1 := M1.at_
    have hs5 := sqlFr hs3 (frS (F := []) f5) List.not_mem_nil
    have D0 := B0.same f5
    have D1 := B1.same f5
    have hps5 := f5 _ _ hps3
    clear M0 M1 w4 old5 g0 g1 gps B0 B1 hs3 hps3 w3
    intro pp hpp kp hkp kn hkn
    have f6 : Same H5 (upd (upd (upd H5 pp (.lst [.ref d0, .ref d1])) kp (.lst [])) kn (.lst [.str "a"])) := same_upd (same_upd (same_new hpp) hkp) hkn
    have kp0 : H5 kp = none := (same_new hpp).free hkp
    have kn0 : H5 kn = none := (same_upd (same_new hpp) hkp).free hkn
    have e1 : kn ≠ kp := fun z => by rw [z, upd_same] at hkn; cases hkn
    have e2 : kp ≠ pp := fun z => by rw [z, upd_same] at hkp; cases hkp
    have e3 : kn ≠ pp := fun z => by rw [z, upd_ne e2.symm, upd_same] at hkn; cases hkn
    have hpp6 : upd (upd (upd H5 pp (.lst [.ref d0, .ref d1])) kp (.lst [])) kn (.lst [.str "a"]) pp = some (.lst [.ref d0, .ref d1]) := by rw [upd_ne e3.symm, upd_ne e2.symm, upd_same]
    have hkp6 : upd (upd (upd H5 pp (.lst [.ref d0, .ref d1])) kp (.lst [])) kn (.lst [.str "a"]) kp = some (.lst []) := by rw [upd_ne e1.symm, upd_same]
    have hkn6 : upd (upd (upd H5 pp (.lst [.ref d0, .ref d1])) kp (.lst [])) kn (.lst [.str "a"]) kn = some (.lst [.str "a"]) := upd_same
    generalize upd (upd (upd H5 pp (.lst [.ref d0, .ref d1])) kp (.lst [])) kn (.lst [.str "a"]) = H6 at f6 hpp6 hkp6 hkn6 ⊢
    have I0 : LInv W.c_Stock H6 (paint (paint g5 [kp] 5) [kn] 6) (fun j => if j = 0 then r0 else r1) (fun j => if j = 0 then ⟨d0, t0, c0⟩ else ⟨d1, t1, c1⟩) (fun _ => ⟨0, []⟩) ps pp kp kn [] [[97]] 0 := by
      have one : ∀ {H' : Hp} {x : Addr}, H' x = none → ∀ y ∈ [x], H' y = none := fun h y hy => by rw [List.mem_singleton.mp hy]; exact h
      have ol : ∀ x, H5 x ≠ none → paint (paint g5 [kp] 5) [kn] 6 x = g5 x := fun x hx => (paint_old (one kn0) hx).trans (paint_old (one kp0) hx)
      have wn : Own H6 (paint (paint g5 [kp] 5) [kn] 6) := (w5.paint (F := [kp]) (c := 5) (fun x h => f6.free h) (fun x hx => by rw [List.mem_singleton.mp hx, hkp6]; intro z; cases z)).paint (fun x h => h) (fun x hx => by rw [List.mem_singleton.mp hx, hkn6]; intro z; cases z)
      refine ⟨wn, fun j hj => ?_, fun j hj => ?_, fun j _ => ⟨List.Pairwise.nil, fun i hi => (List.not_mem_nil hi).elim, List.Pairwise.nil, fun i hi => (List.not_mem_nil hi).elim⟩, fun j _ => Nat.le_refl _, fun j hj x hx => ?_, fun j hj x hx => ?_, f6 _ _ hps5, hpp6, hkp6, hkn6, ?_, fun v hv => (List.not_mem_nil hv).elim, Nat.le_refl _, ⟨Nat.le_refl _, Nat.le_refl _⟩⟩
      · rcases (by omega : j = 0 ∨ j = 1) with rfl | rfl
        · exact D0.same f6
        · exact D1.same f6
      · rcases (by omega : j = 0 ∨ j = 1) with rfl | rfl
        · exact P0.same f6
        · exact P1.same f6
      · rcases (by omega : j = 0 ∨ j = 1) with rfl | rfl
        · exact (ol x (D0.live hx)).trans (g0' x hx)
        · exact (ol x (D1.live hx)).trans (g1' x hx)
      · rcases (by omega : j = 0 ∨ j = 1) with rfl | rfl
        · exact (ol x (live3 P0 x hx)).trans (c0' x hx)
        · exact (ol x (live3 P1 x hx)).trans (c1' x hx)
      · refine ⟨(ol ps (by rw [hps5]; intro z; cases z)).trans gps', ?_, ?_, paint_in (List.mem_singleton.mpr rfl)⟩
        · show paint (paint g5 [kp] 5) [kn] 6 pp = 0
          unfold paint
          rw [if_neg (fun z => e3 (List.mem_singleton.mp z).symm), if_neg (fun z => e2 (List.mem_singleton.mp z).symm)]
          exact w5 _ hpp
        · show paint (paint g5 [kp] 5) [kn] 6 kp = 5
          unfold paint
          rw [if_neg (fun z => e1 (List.mem_singleton.mp z).symm), if_pos (List.mem_singleton.mpr rfl)]
    generalize paint (paint g5 [kp] 5) [kn] 6 = g at I0
    generalize her : (fun j : Nat => if j = 0 then r0 else r1) = r at I0
    generalize herp : (fun j : Nat => if j = 0 then (⟨d0, t0, c0⟩ : PlR) else ⟨d1, t1, c1⟩) = rp at I0
    have hs6 := sqlFr hs5 (frS (F := []) f6) List.not_mem_nil
    clear D0 D1 P0 P1 c0' c1' g0' g1' gps' w5 hps5 hpp6 hkp6 hkn6 hs5 live3 new3 f5 f6
    intro tl htl
    refine ⟨_, .inl (sqlFr hs6 (frS (F := []) (same_new htl)) List.not_mem_nil), _, _, .inl (SqL.of upd_same), (by rw [List.length_map, if_neg (by omega)]; rfl), ?_⟩
    walk_at "ev"
    refine ⟨_, sqlFr hs6 (frS (F := []) (same_new htl)) List.not_mem_nil, fun sl hsl => ?_⟩
    have ec := cutV_take (ns.map V.int) 30
    rw [show ((30 : Nat) : Int) = 30 from rfl] at ec
    rw [ec, ← List.map_take]
    have s7 : Same H6 (upd (upd H6 tl (.lst [.int 30, .int 60])) sl (.lst ((ns.take 30).map V.int))) := same_upd (same_new htl) hsl
    have hsl7 : upd (upd H6 tl (.lst [.int 30, .int 60])) sl (.lst ((ns.take 30).map V.int)) sl = some (.lst ((ns.take 30).map V.int)) := upd_same
    have sl0 : H6 sl = none := (same_new htl).free hsl
    generalize upd (upd H6 tl (.lst [.int 30, .int 60])) sl (.lst ((ns.take 30).map V.int)) = H7 at s7 hsl7 ⊢
    refine ⟨⟨_, SqL.of hsl7⟩, ?_⟩
    have gsl := I0.own _ sl0
    have I1 := I0.mono s7
    clear I0 s7 hs6
    have hnl : (ns.take 30).length ≤ 30 := by rw [List.length_take]; omega
    generalize ns.take 30 = ms at hsl7 hnl ⊢
    refine L2.for_list (K := K) (a := sl) (xs := ms.map V.int) (fun i σ H' => ∃ S kl zs v5 v7 v8 v10, σ = [some (.ref a), some (.ref ps), some (.ref pp), some (.ref kp), some (.ref kn), v5, none, v7, v8, none, v10, none] ∧ LInv W.c_Stock H' g r rp S ps pp kp kn kl zs (3 * i) ∧ H' sl = some (.lst (ms.map V.int)))
      ⟨_, _, _, none, none, none, none, rfl, I1, hsl7⟩ (fun i σ H' _ ⟨_, _, _, _, _, _, _, _, _, h⟩ => SqL.of h) ?_ ?_
    · rintro i y σ H' hi ⟨S, kl, zs, v5, v7, v8, v10, rfl, I, hsl'⟩
      obtain ⟨n, hn, rfl⟩ : ∃ n, ms[i]? = some n ∧ y = V.int n := by
        rw [List.getElem?_map] at hi
        obtain ⟨n, h1, h2⟩ := Option.map_eq_some_iff.mp hi
        exact ⟨n, h1, h2.symm⟩
      have hi30 : i < 30 := by
        have := (List.getElem?_eq_some_iff.mp hn).1
        omega
      have nsl : ∀ c : Nat, c ≠ 0 → ∀ x, g x = c → sl ≠ x := fun c hc x hx z => hc (by rw [← hx, ← z]; exact gsl)
      walk_at "ev"
      obtain ⟨j, ej, hj⟩ := bit (n * 16807 % 2147483587 % 4 = 3)
      rw [ej]
      refine ⟨_, _, .inl (SqL.of I.hpp), at2 (f := fun j => V.ref (rp j).d) hj, ?_⟩
      walk_at "ev"
      refine ⟨_, dgS (I.pl j hj).ob plF_l, ?_⟩
      walk_at "ev"
      refine ⟨by omega, ?_⟩
      generalize n / 7 % ((S j).last + 2) = nm
      -- known
      refine brS_join (R := fun σ H1 => ∃ zs, σ = [some (.ref a), some (.ref ps), some (.ref pp), some (.ref kp), some (.ref kn), some (.int n), none, some (natV j), some (.int nm), none, v10, none] ∧ LInv W.c_Stock H1 g r rp S ps pp kp kn kl zs (3 * i + 1) ∧ H1 sl = some (.lst (ms.map V.int))) ?_ ?_
      · rintro σ H1 ⟨zs, rfl, I, hsl1⟩
        -- counted ahead
        have cnt : ∀ (H2 : Hp) (m : Nat) (S : Nat → StM) (kl : List V) (zs : List (List Nat)), LInv W.c_Stock H2 g r rp S ps pp kp kn kl zs m → ∀ Q' : VK, Q' (.bl true) H2 → sp__law_counted W [.ref (r j).k, .ref (rp j).d, .int nm] H2 Q' E0 := fun H2 m S kl zs I Q' h => ⟨r j, rp j, S j, nm, rfl, ⟨I.st j hj, I.pl j hj⟩, h⟩
        have pick : ∀ (H2 : Hp) (m : Nat) (S : Nat → StM) (kl : List V) (zs : List (List Nat)), LInv W.c_Stock H2 g r rp S ps pp kp kn kl zs m → ∀ P : V → Prop, (P (.ref (r j).k) → ∃ xs v, (SqL K H2 ps xs ∨ SqT K H2 ps xs) ∧ atI xs (j : Int) = some v ∧ P v) := fun H2 m S kl zs I P h => ⟨_, _, .inl (SqL.of I.hps), at2 (f := fun j => V.ref (r j).k) hj, h⟩
        have pickp : ∀ (H2 : Hp) (m : Nat) (S : Nat → StM) (kl : List V) (zs : List (List Nat)), LInv W.c_Stock H2 g r rp S ps pp kp kn kl zs m → ∀ P : V → Prop, (P (.ref (rp j).d) → ∃ xs v, (SqL K H2 pp xs ∨ SqT K H2 pp xs) ∧ atI xs (j : Int) = some v ∧ P v) := fun H2 m S kl zs I P h => ⟨_, _, .inl (SqL.of I.hpp), at2 (f := fun j => V.ref (rp j).d) hj, h⟩
        walk_at "ev"
        refine brT_join (fun c H2 => c = false ∧ H2 = H1) ?_ ?_
        · rintro c H2 ⟨rfl, rfl⟩
          walk_at "ev"
          refine brS_join (R := fun σ H2 => ∃ S v10, σ = [some (.ref a), some (.ref ps), some (.ref pp), some (.ref kp), some (.ref kn), some (.int n), none, some (natV j), some (.int nm), none, v10, none] ∧ LInv W.c_Stock H2 g r rp S ps pp kp kn kl zs (3 * i + 2) ∧ H2 sl = some (.lst (ms.map V.int))) ?_ ?_
          · rintro σ H2 ⟨S, v10, rfl, I, hsl2⟩
            walk_at "ev"
            refine brT_join (fun c H3 => c = false ∧ H3 = H2) ?_ ?_
            · rintro c H3 ⟨rfl, rfl⟩
              walk_at "ev"
              refine pick _ _ _ _ _ I _ ?_
              refine pickp _ _ _ _ _ I _ ?_
              have gF : ∀ x ∈ (r j).F, g x = 1 + j := I.gs j hj
              refine ⟨r j, rp j, S j, nm, kp, kl, rfl, ⟨I.st j hj, I.pl j hj, I.ok j hj, by have := I.sz j hj; omega, I.hkp, by have := I.ksz; omega, fun z => by have := I.gs j hj _ z; rw [I.g0.2.2.1] at this; omega, fun z => by have := I.gp j hj _ z; rw [I.g0.2.2.1] at this; omega⟩, fun H4 p a' b' s4 h1 h2 h3 h4 h5 => ?_⟩
              walk_at "ev"
              have ex : ((S j).its.map fun i => natV i.num) = ((S j).its.map (·.num)).map natV := by rw [List.map_map]; rfl
              rw [ex] at h4 h5
              exact ⟨S, _, zs, _, _, _, v10, rfl, I.kept s4 h1 h2 h3 h4 h5, s4.lst hsl2 (fun z => by have := gsl; rw [List.mem_singleton.mp z, I.g0.2.2.1] at this; omega)⟩
            · intro R' k
              refine brT_of (fun _ => ?_) (fun _ => ?_) <;> walk_at "ev"
              · refine pick _ _ _ _ _ I _ ?_
                refine pickp _ _ _ _ _ I _ ?_
                refine cnt _ _ _ _ _ I _ ?_
                walk_at "ev"
                exact k _ _ ⟨rfl, rfl⟩
              · exact k _ _ ⟨rfl, rfl⟩
          · intro N k
            have sz := I.sz j hj
            have dj : ∀ x ∈ (r j).F, x ∉ (rp j).F := fun x hx hz => by
              have h1 := I.gs j hj x hx
              have h2 := I.gp j hj x hz
              omega
            refine brS_of (fun hc => ?_) (fun hc => ?_) <;> walk_at "ev"
            · refine ⟨_, .inl (SqL.of I.hkn), _, .inl (SqL.of I.hkn), ?_⟩
              have hz := I.zsz
              rw [List.length_map]
              refine ⟨by omega, fun tp htp => ?_⟩
              have I2 := I.mono (same_new (o := .lst [.int ((zs.length : Int) - 1), .int (n / 14 % (zs.length : Int))]) htp)
              have hsl2 := same_new (o := .lst [.int ((zs.length : Int) - 1), .int (n / 14 % (zs.length : Int))]) htp _ _ hsl1
              have ht2 : upd H2 tp (.lst [.int ((zs.length : Int) - 1), .int (n / 14 % (zs.length : Int))]) tp = some (.lst [.int ((zs.length : Int) - 1), .int (n / 14 % (zs.length : Int))]) := upd_same
              generalize upd H2 tp (.lst [.int ((zs.length : Int) - 1), .int (n / 14 % (zs.length : Int))]) = H3 at I2 hsl2 ht2 ⊢
              obtain ⟨j2, ej2, hj2⟩ := bit (2 < n % 7)
              rw [ej2]
              have pos : (0 : Int) < zs.length := by omega
              obtain ⟨ix, hix, hx⟩ : ∃ ix : Nat, ix < zs.length ∧ atI [V.int ((zs.length : Int) - 1), V.int (n / 14 % (zs.length : Int))] (j2 : Int) = some (natV ix) := by
                have h0 := Int.emod_nonneg (n / 14) (show (zs.length : Int) ≠ 0 by omega)
                have h1 := Int.emod_lt_of_pos (n / 14) pos
                rcases (by omega : j2 = 0 ∨ j2 = 1) with rfl | rfl
                · exact ⟨zs.length - 1, by omega, by
                    show some (V.int ((zs.length : Int) - 1)) = some (V.int ((zs.length - 1 : Nat) : Int))
                    congr 2
                    omega⟩
                · exact ⟨(n / 14 % (zs.length : Int)).toNat, by omega, by
                    show some (V.int (n / 14 % (zs.length : Int))) = some (V.int (((n / 14 % (zs.length : Int)).toNat : Nat) : Int))
                    congr 2
                    omega⟩
              have hz2 : (zs.map txtV)[ix]? = some (txtV zs[ix]) := by rw [List.getElem?_map, List.getElem?_eq_getElem hix]; rfl
              refine ⟨_, natV ix, .inl (SqL.of ht2), hx, ?_⟩
              walk_at "ev"
              refine ⟨_, txtV zs[ix], .inl (SqL.of I2.hkn), atI_nat hz2, ?_⟩
              generalize zs[ix] = t
              walk_at "ev"
              refine pick _ _ _ _ _ I2 _ ?_
              refine pickp _ _ _ _ _ I2 _ ?_
              refine ⟨r j, rp j, S j, t, rfl, ⟨I2.st j hj, I2.pl j hj, I2.ok j hj, by omega, dj⟩, fun H4 h1 h2 s3 => ?_⟩
              walk_at "ev"
              refine k _ _ ⟨_, some (txtV t), rfl, I2.step hj s3 _ h1 h2 ((I2.ok j hj).need t) (Nat.le_trans (need_len (I2.ok j hj) t) (by omega)), s3.lst hsl2 (fun z => ?_)⟩
              rcases List.mem_append.mp z with z | z
              · have := I.gs j hj _ z
                omega
              · have := I.gp j hj _ z
                omega
            · refine pick _ _ _ _ _ I _ ?_
              refine pickp _ _ _ _ _ I _ ?_
              refine ⟨r j, rp j, S j, nm, rfl, ⟨I.st j hj, I.pl j hj, I.ok j hj, by omega, dj⟩, fun S' H2 e2 h1 h2 s2 => ?_⟩
              walk_at "ev"
              refine k _ _ ⟨_, v10, rfl, I.step hj s2 S' h1 h2 ?_ ?_, s2.lst hsl1 (fun z => ?_)⟩
              · rw [e2]
                cases e : (S j).byN nm with
                | some x => exact (I.ok j hj).free (StM.byN_some e).1
                | none => exact I.ok j hj
              · rw [e2]
                cases e : (S j).byN nm with
                | some x => exact Nat.le_trans (free_len _ _) (by omega)
                | none => show (S j).its.length ≤ _; omega
              · rcases List.mem_append.mp z with z | z
                · have := I.gs j hj _ z
                  omega
                · have := I.gp j hj _ z
                  omega
        · intro R' k
          refine brT_of (fun _ => ?_) (fun _ => ?_) <;> walk_at "ev"
          · refine pick _ _ _ _ _ I _ ?_
            refine pickp _ _ _ _ _ I _ ?_
            refine cnt _ _ _ _ _ I _ ?_
            walk_at "ev"
            exact k _ _ ⟨rfl, rfl⟩
          · exact k _ _ ⟨rfl, rfl⟩
      · intro N k
        refine brS_of (fun hc => ?_) (fun hc => ?_) <;> walk_at "ev"
        · refine ⟨.inl ⟨rfl, _, SqL.of I.hkn⟩, ?_⟩
          obtain ⟨m, em, hm⟩ : ∃ m : Nat, 1 + n / 28 % 40 = (m : Int) ∧ m ≤ 40 := ⟨(1 + n / 28 % 40).toNat, by omega, by omega⟩
          rw [em]
          refine ⟨_, m, rfl, by omega, fun H2 s2 => ?_⟩
          have I2 := I.mono s2
          have hz := I.zsz
          refine ⟨kn, _, _, rfl, rfl, I2.hkn, by rw [line_eq, List.length_map]; omega, ?_⟩
          refine k _ _ ⟨zs ++ [textBy (n / 7) m], rfl, I2.add (Fr.upd (by simp) I2.hkn rfl) _ (by rw [upd_same, List.map_append]; rfl), ?_⟩
          rw [upd_ne (nsl 6 (by decide) _ I.g0.2.2.2)]
          exact s2 _ _ hsl'
        · exact k _ _ ⟨zs, rfl, I.up, hsl'⟩
    · rintro σ H' ⟨S, kl, zs, v5, v7, v8, v10, rfl, I, hsl'⟩
      rw [List.length_map] at I
      walk_at "ev"
      intro tp htp
      have st0 : ∀ (H2 : Hp) (m : Nat) (S : Nat → StM) (kl : List V) (zs : List (List Nat)), LInv W.c_Stock H2 g r rp S ps pp kp kn kl zs m → ∀ P : V → Prop, (P (.ref (r 0).k) → ∃ xs v, (SqL K H2 ps xs ∨ SqT K H2 ps xs) ∧ atI xs 0 = some v ∧ P v) := fun H2 m S kl zs I P h => ⟨_, _, .inl (SqL.of I.hps), rfl, h⟩
      have I2 := I.mono (same_new (o := .lst [.bl true, .non, .str "1"]) htp)
      have ht2 : upd H' tp (.lst [.bl true, .non, .str "1"]) tp = some (.lst [.bl true, .non, .str "1"]) := upd_same
      generalize upd H' tp (.lst [.bl true, .non, .str "1"]) = H2 at I2 ht2 ⊢
      refine ⟨⟨_, SqL.of ht2⟩, ?_⟩
      have sz := I2.sz 0 (by decide)
      refine L2.for_list (K := K) (a := tp) (xs := [.bl true, .non, .str "1"]) (fun i σ H3 => ∃ v6 v9, σ = [some (.ref a), some (.ref ps), some (.ref pp), some (.ref kp), some (.ref kn), v5, v6, v7, v8, v9, v10, none] ∧ Same H2 H3) ⟨_, _, rfl, Same.refl _⟩ (fun i σ H3 _ ⟨_, _, _, s⟩ => SqL.of (s _ _ ht2)) ?_ ?_
      · rintro i v σ H3 hi ⟨v6, v9, rfl, s3⟩
        have hv : (tyN v ≠ none) ∧ isI v = false := by
          match i, hi with
          | 0, hi => cases hi; exact ⟨by simp [tyN], rfl⟩
          | 1, hi => cases hi; exact ⟨by simp [tyN], rfl⟩
          | 2, hi => cases hi; exact ⟨by simp [tyN], rfl⟩
          | i + 3, hi => simp at hi
        have hf : ∀ T : StM, T.find v = none := fun T => by cases v <;> first | rfl | (cases hv.2)
        walk_at "ev"
        refine for_rng (fun i σ H4 => ∃ v9, σ = [some (.ref a), some (.ref ps), some (.ref pp), some (.ref kp), some (.ref kn), v5, some v, v7, v8, v9, v10, none] ∧ Same H2 H4) ⟨_, rfl, s3⟩ ?_ ?_
        · rintro i σ H4 hi ⟨v9, rfl, s4⟩
          walk_at "ev"
          have I4 := I2.mono s4
          refine st0 _ _ _ _ _ I4 _ ?_
          refine ⟨r 0, S 0, v, _, rfl, ⟨I4.st 0 (by decide), I4.ok 0 (by decide), by omega, hv.1⟩, fun _ i e => ?_, fun _ i e => ?_, fun _ H5 p s5 h0 h1 => ?_⟩
          · rw [hf] at e; cases e
          · rw [hf] at e; cases e
          · intro p2 hp2
            refine ⟨_, _, rfl, Al.tup2 (upd_of h1 hp2) upd_same (Al.str _) Al.bt, ?_⟩
            walk_at "ev"
            exact ⟨_, rfl, s4.trans (same_upd s5 hp2)⟩
        · rintro σ H4 ⟨v9, rfl, s4⟩
          walk_at "ev"
          have I4 := I2.mono s4
          refine st0 _ _ _ _ _ I4 _ ?_
          walk_at "ev"
          rw [fM W (I4.st 0 (by decide)).ob (by decide +kernel)]
          walk_at "ev"
          refine ⟨r 0, S 0, v, rfl, ⟨I4.st 0 (by decide), hv.1⟩, ?_⟩
          rw [hf]
          walk_at "ev"
          refine ⟨_, _, rfl, Al.int _, ?_⟩
          walk_at "ev"
          exact ⟨_, _, rfl, s4⟩
      · rintro σ H3 ⟨v6, v9, rfl, s3⟩
        walk_at "ev"
        have I3 := I2.mono s3
        refine ⟨⟨_, SqL.of I3.hkp⟩, fun D hD => ?_⟩
        refine lc_lst (K := K) (xs := kl) (fun _ => none) hD (SqL.of I3.hkp) (by have := I3.ksz; have h2 : ms.length ≤ 30 := hnl; omega) ?_ ?_
        · intro i x H4 hx s4 Ny Nn h1 h2
          obtain ⟨p, b, c, xs, rfl, k1, k2, k3, _⟩ := I3.kok x (List.mem_of_getElem? hx)
          walk_at "ev"
          refine ⟨_, _, .inr (SqT.of (s4 _ _ k1)), rfl, _, _, .inr (SqT.of (s4 _ _ k1)), rfl, ?_⟩
          refine ne_lst (SqL.of (s4 _ _ k2)) (SqL.of (s4 _ _ k3)) (plain_nat xs) (plain_nat xs) ?_
          rw [decide_eq_true rfl]
          walk_at "ev"
          exact h2 _ (Same.refl _) rfl
        · intro H4 s4 h4
          have e0 : kl.filterMap (fun _ => (none : Option V)) = [] := by simp
          rw [e0] at h4
          intro p hp
          refine eq_lst (SqL.of (upd_of h4 hp)) (SqL.of upd_same) rfl rfl ?_
          exact q _
    
end
theorem all_mk {P : Program} {w : World} {K : PySem.W.Frag} {h : Heap} {mg : Str → Option Value} {fa : Addr} (X : K.In h) (G : h.Ns mainGlobals mg) (hfa : mg "law" = some (.ref fa))
    {f0 f1 f2 f3 f4 f5 f6 f7 f8 f9 f10 f11 f12 f13 f14 f15 f16 f17 f18 f19 f20 c_Stock e_ShelfError e_NoSize e_NoName e_NotThere e_NoPlace e_NoText e_TooLong e_TooMany e_NoNote : Addr}
    {od0 an0 od1 an1 od2 an2 od3 an3 od4 an4 od5 an5 od6 an6 od7 an7 od8 an8 od9 an9 od10 an10 od11 an11 od12 an12 od13 an13 od14 an14 od15 an15 od16 an16 od17 an17 od18 an18 od19 an19 od20 an20 : Option Addr}
    {sl0 sl1 sl2 sl3 sl4 sl5 sl6 sl7 sl8 sl9 sl10 sl11 sl12 sl13 sl14 sl15 sl16 sl17 sl18 sl19 sl20 : Array (Option Value)}
    {oc0 kV0 dc0 pm0 cd0 ct0 oc1 kV1 dc1 pm1 cd1 ct1 oc2 kV2 dc2 pm2 cd2 ct2 oc3 kV3 dc3 pm3 cd3 ct3 oc4 kV4 dc4 pm4 cd4 ct4 oc5 kV5 dc5 pm5 cd5 ct5 oc6 kV6 dc6 pm6 cd6 ct6 oc7 kV7 dc7 pm7 cd7 ct7 oc8 kV8 dc8 pm8 cd8 ct8 oc9 kV9 dc9 pm9 cd9 ct9 oc10 kV10 dc10 pm10 cd10 ct10 oc11 kV11 dc11 pm11 cd11 ct11 oc12 kV12 dc12 pm12 cd12 ct12 oc13 kV13 dc13 pm13 cd13 ct13 oc14 kV14 dc14 pm14 cd14 ct14 oc15 kV15 dc15 pm15 cd15 ct15 oc16 kV16 dc16 pm16 cd16 ct16 oc17 kV17 dc17 pm17 cd17 ct17 oc18 kV18 dc18 pm18 cd18 ct18 oc19 kV19 dc19 pm19 cd19 ct19 oc20 kV20 dc20 pm20 cd20 ct20 : Value}
    (a0 : PySem.W.nsIn K mainGlobals "is_number" = some (some (.ref f0)))
    (l0 : K.lookup f0 = some ⟨oc0, od0, .func (PySem.W.fnOf "is_number" "is_number" (defArgs s_is_number) (defBody s_is_number) (defScope s_is_number) .none kV0 dc0 pm0 an0 cd0 ct0), sl0⟩)
    (y0 : PySem.W.codeIn K cd0 "is_number" = true)
    (k0 : PySem.W.keepIn K (.ref f0) = true)
    (a1 : PySem.W.findIn K (.ref c_Stock) "__init__" = some (some (.ref f1)))
    (i1 : PySem.W.isFn K (.ref f1) = true)
    (l1 : K.lookup f1 = some ⟨oc1, od1, .func (PySem.W.fnOf "__init__" "Stock.__init__" (defArgs s_Stock___init__) (defBody s_Stock___init__) (defScope s_Stock___init__) .none kV1 dc1 pm1 an1 cd1 ct1), sl1⟩)
    (y1 : PySem.W.codeIn K cd1 "Stock.__init__" = true)
    (k1 : PySem.W.keepIn K (.ref f1) = true)
    (a2 : PySem.W.findIn K (.ref c_Stock) "need" = some (some (.ref f2)))
    (i2 : PySem.W.isFn K (.ref f2) = true)
    (l2 : K.lookup f2 = some ⟨oc2, od2, .func (PySem.W.fnOf "need" "Stock.need" (defArgs s_Stock_need) (defBody s_Stock_need) (defScope s_Stock_need) .none kV2 dc2 pm2 an2 cd2 ct2), sl2⟩)
    (y2 : PySem.W.codeIn K cd2 "Stock.need" = true)
    (k2 : PySem.W.keepIn K (.ref f2) = true)
    (a3 : PySem.W.findIn K (.ref c_Stock) "free" = some (some (.ref f3)))
    (i3 : PySem.W.isFn K (.ref f3) = true)
    (l3 : K.lookup f3 = some ⟨oc3, od3, .func (PySem.W.fnOf "free" "Stock.free" (defArgs s_Stock_free) (defBody s_Stock_free) (defScope s_Stock_free) .none kV3 dc3 pm3 an3 cd3 ct3), sl3⟩)
    (y3 : PySem.W.codeIn K cd3 "Stock.free" = true)
    (k3 : PySem.W.keepIn K (.ref f3) = true)
    (a4 : PySem.W.findIn K (.ref c_Stock) "count" = some (some (.ref f4)))
    (i4 : PySem.W.isFn K (.ref f4) = true)
    (l4 : K.lookup f4 = some ⟨oc4, od4, .func (PySem.W.fnOf "count" "Stock.count" (defArgs s_Stock_count) (defBody s_Stock_count) (defScope s_Stock_count) .none kV4 dc4 pm4 an4 cd4 ct4), sl4⟩)
    (y4 : PySem.W.codeIn K cd4 "Stock.count" = true)
    (k4 : PySem.W.keepIn K (.ref f4) = true)
    (a5 : PySem.W.findIn K (.ref c_Stock) "piece" = some (some (.ref f5)))
    (i5 : PySem.W.isFn K (.ref f5) = true)
    (l5 : K.lookup f5 = some ⟨oc5, od5, .func (PySem.W.fnOf "piece" "Stock.piece" (defArgs s_Stock_piece) (defBody s_Stock_piece) (defScope s_Stock_piece) .none kV5 dc5 pm5 an5 cd5 ct5), sl5⟩)
    (y5 : PySem.W.codeIn K cd5 "Stock.piece" = true)
    (k5 : PySem.W.keepIn K (.ref f5) = true)
    (a6 : PySem.W.findIn K (.ref c_Stock) "numbers" = some (some (.ref f6)))
    (i6 : PySem.W.isFn K (.ref f6) = true)
    (l6 : K.lookup f6 = some ⟨oc6, od6, .func (PySem.W.fnOf "numbers" "Stock.numbers" (defArgs s_Stock_numbers) (defBody s_Stock_numbers) (defScope s_Stock_numbers) .none kV6 dc6 pm6 an6 cd6 ct6), sl6⟩)
    (y6 : PySem.W.codeIn K cd6 "Stock.numbers" = true)
    (k6 : PySem.W.keepIn K (.ref f6) = true)
    (a7 : PySem.W.findIn K (.ref c_Stock) "put" = some (some (.ref f7)))
    (i7 : PySem.W.isFn K (.ref f7) = true)
    (l7 : K.lookup f7 = some ⟨oc7, od7, .func (PySem.W.fnOf "put" "Stock.put" (defArgs s_Stock_put) (defBody s_Stock_put) (defScope s_Stock_put) .none kV7 dc7 pm7 an7 cd7 ct7), sl7⟩)
    (y7 : PySem.W.codeIn K cd7 "Stock.put" = true)
    (k7 : PySem.W.keepIn K (.ref f7) = true)
    (a8 : PySem.W.findIn K (.ref c_Stock) "_is_kept" = some (some (.ref f8)))
    (i8 : PySem.W.isFn K (.ref f8) = true)
    (l8 : K.lookup f8 = some ⟨oc8, od8, .func (PySem.W.fnOf "_is_kept" "Stock._is_kept" (defArgs s_Stock__is_kept) (defBody s_Stock__is_kept) (defScope s_Stock__is_kept) .none kV8 dc8 pm8 an8 cd8 ct8), sl8⟩)
    (y8 : PySem.W.codeIn K cd8 "Stock._is_kept" = true)
    (k8 : PySem.W.keepIn K (.ref f8) = true)
    (a9 : PySem.W.findIn K (.ref c_Stock) "_check_kept" = some (some (.ref f9)))
    (i9 : PySem.W.isFn K (.ref f9) = true)
    (l9 : K.lookup f9 = some ⟨oc9, od9, .func (PySem.W.fnOf "_check_kept" "Stock._check_kept" (defArgs s_Stock__check_kept) (defBody s_Stock__check_kept) (defScope s_Stock__check_kept) .none kV9 dc9 pm9 an9 cd9 ct9), sl9⟩)
    (y9 : PySem.W.codeIn K cd9 "Stock._check_kept" = true)
    (k9 : PySem.W.keepIn K (.ref f9) = true)
    (a10 : PySem.W.nsIn K mainGlobals "_law_whole" = some (some (.ref f10)))
    (l10 : K.lookup f10 = some ⟨oc10, od10, .func (PySem.W.fnOf "_law_whole" "_law_whole" (defArgs s__law_whole) (defBody s__law_whole) (defScope s__law_whole) .none kV10 dc10 pm10 an10 cd10 ct10), sl10⟩)
    (y10 : PySem.W.codeIn K cd10 "_law_whole" = true)
    (k10 : PySem.W.keepIn K (.ref f10) = true)
    (a11 : PySem.W.nsIn K mainGlobals "_law_sign_by" = some (some (.ref f11)))
    (l11 : K.lookup f11 = some ⟨oc11, od11, .func (PySem.W.fnOf "_law_sign_by" "_law_sign_by" (defArgs s__law_sign_by) (defBody s__law_sign_by) (defScope s__law_sign_by) .none kV11 dc11 pm11 an11 cd11 ct11), sl11⟩)
    (y11 : PySem.W.codeIn K cd11 "_law_sign_by" = true)
    (k11 : PySem.W.keepIn K (.ref f11) = true)
    (a12 : PySem.W.nsIn K mainGlobals "_law_text_by" = some (some (.ref f12)))
    (l12 : K.lookup f12 = some ⟨oc12, od12, .func (PySem.W.fnOf "_law_text_by" "_law_text_by" (defArgs s__law_text_by) (defBody s__law_text_by) (defScope s__law_text_by) .none kV12 dc12 pm12 an12 cd12 ct12), sl12⟩)
    (y12 : PySem.W.codeIn K cd12 "_law_text_by" = true)
    (k12 : PySem.W.keepIn K (.ref f12) = true)
    (a13 : PySem.W.nsIn K mainGlobals "_law_alike" = some (some (.ref f13)))
    (l13 : K.lookup f13 = some ⟨oc13, od13, .func (PySem.W.fnOf "_law_alike" "_law_alike" (defArgs s__law_alike) (defBody s__law_alike) (defScope s__law_alike) .none kV13 dc13 pm13 an13 cd13 ct13), sl13⟩)
    (y13 : PySem.W.codeIn K cd13 "_law_alike" = true)
    (k13 : PySem.W.keepIn K (.ref f13) = true)
    (a14 : PySem.W.nsIn K mainGlobals "_law_word_of" = some (some (.ref f14)))
    (l14 : K.lookup f14 = some ⟨oc14, od14, .func (PySem.W.fnOf "_law_word_of" "_law_word_of" (defArgs s__law_word_of) (defBody s__law_word_of) (defScope s__law_word_of) .none kV14 dc14 pm14 an14 cd14 ct14), sl14⟩)
    (y14 : PySem.W.codeIn K cd14 "_law_word_of" = true)
    (k14 : PySem.W.keepIn K (.ref f14) = true)
    (a15 : PySem.W.nsIn K mainGlobals "_law_answer" = some (some (.ref f15)))
    (l15 : K.lookup f15 = some ⟨oc15, od15, .func (PySem.W.fnOf "_law_answer" "_law_answer" (defArgs s__law_answer) (defBody s__law_answer) (defScope s__law_answer) .none kV15 dc15 pm15 an15 cd15 ct15), sl15⟩)
    (y15 : PySem.W.codeIn K cd15 "_law_answer" = true)
    (k15 : PySem.W.keepIn K (.ref f15) = true)
    (a16 : PySem.W.nsIn K mainGlobals "_law_counted" = some (some (.ref f16)))
    (l16 : K.lookup f16 = some ⟨oc16, od16, .func (PySem.W.fnOf "_law_counted" "_law_counted" (defArgs s__law_counted) (defBody s__law_counted) (defScope s__law_counted) .none kV16 dc16 pm16 an16 cd16 ct16), sl16⟩)
    (y16 : PySem.W.codeIn K cd16 "_law_counted" = true)
    (k16 : PySem.W.keepIn K (.ref f16) = true)
    (a17 : PySem.W.nsIn K mainGlobals "_law_look" = some (some (.ref f17)))
    (l17 : K.lookup f17 = some ⟨oc17, od17, .func (PySem.W.fnOf "_law_look" "_law_look" (defArgs s__law_look) (defBody s__law_look) (defScope s__law_look) .none kV17 dc17 pm17 an17 cd17 ct17), sl17⟩)
    (y17 : PySem.W.codeIn K cd17 "_law_look" = true)
    (k17 : PySem.W.keepIn K (.ref f17) = true)
    (a18 : PySem.W.nsIn K mainGlobals "_law_needed" = some (some (.ref f18)))
    (l18 : K.lookup f18 = some ⟨oc18, od18, .func (PySem.W.fnOf "_law_needed" "_law_needed" (defArgs s__law_needed) (defBody s__law_needed) (defScope s__law_needed) .none kV18 dc18 pm18 an18 cd18 ct18), sl18⟩)
    (y18 : PySem.W.codeIn K cd18 "_law_needed" = true)
    (k18 : PySem.W.keepIn K (.ref f18) = true)
    (a19 : PySem.W.nsIn K mainGlobals "_law_freed" = some (some (.ref f19)))
    (l19 : K.lookup f19 = some ⟨oc19, od19, .func (PySem.W.fnOf "_law_freed" "_law_freed" (defArgs s__law_freed) (defBody s__law_freed) (defScope s__law_freed) .none kV19 dc19 pm19 an19 cd19 ct19), sl19⟩)
    (y19 : PySem.W.codeIn K cd19 "_law_freed" = true)
    (k19 : PySem.W.keepIn K (.ref f19) = true)
    (a20 : PySem.W.nsIn K mainGlobals "law" = some (some (.ref f20)))
    (l20 : K.lookup f20 = some ⟨oc20, od20, .func (PySem.W.fnOf "law" "law" (defArgs s_law) (defBody s_law) (defScope s_law) .none kV20 dc20 pm20 an20 cd20 ct20), sl20⟩)
    (y20 : PySem.W.codeIn K cd20 "law" = true)
    (k20 : PySem.W.keepIn K (.ref f20) = true)
    (ca_Stock : PySem.W.nsIn K mainGlobals "Stock" = some (some (.ref c_Stock)))
    (cp_Stock : PySem.W.plainGet K c_Stock Str.empty = true)
    (ch_Stock : PySem.W.hasDictIn K c_Stock = true)
    (co_Stock : PySem.W.plainOver K c_Stock = true)
    (cs_Stock : PySem.W.findIn K (.ref c_Stock) "__setattr__" = some (some (.builtin "object.__setattr__")))
    (cm_Stock : PySem.W.makesIn K c_Stock = true)
    (ck_Stock : PySem.W.keepIn K (.ref c_Stock) = true)
    (cn_Stock_greatest : PySem.W.findIn K (.ref c_Stock) "greatest" = some none)
    (cn_Stock__texts : PySem.W.findIn K (.ref c_Stock) "_texts" = some none)
    (cn_Stock__counts : PySem.W.findIn K (.ref c_Stock) "_counts" = some none)
    (cn_Stock__numbers : PySem.W.findIn K (.ref c_Stock) "_numbers" = some none)
    (ea_ShelfError : PySem.W.nsIn K mainGlobals "ShelfError" = some (some (.ref e_ShelfError)))
    (ex_ShelfError : PySem.W.excIn K e_ShelfError [.type "ValueError", .type "Exception", .type "BaseException", .type "object"] "ValueError.__new__" = true)
    (ek_ShelfError : PySem.W.keepIn K (.ref e_ShelfError) = true)
    (eb_ShelfError : PySem.W.subIn K (.ref e_ShelfError) (.type "BaseException") = some true)
    (et_ShelfError : PySem.W.typeIn K (.ref e_ShelfError) = some (.type "type"))
    (eh_ShelfError : PySem.W.hasDictIn K e_ShelfError = true)
    (ea_NoSize : PySem.W.nsIn K mainGlobals "NoSize" = some (some (.ref e_NoSize)))
    (ex_NoSize : PySem.W.excIn K e_NoSize [.type "ValueError", .type "Exception", .type "BaseException", .type "object"] "ValueError.__new__" = true)
    (ek_NoSize : PySem.W.keepIn K (.ref e_NoSize) = true)
    (eb_NoSize : PySem.W.subIn K (.ref e_NoSize) (.type "BaseException") = some true)
    (et_NoSize : PySem.W.typeIn K (.ref e_NoSize) = some (.type "type"))
    (eh_NoSize : PySem.W.hasDictIn K e_NoSize = true)
    (ea_NoName : PySem.W.nsIn K mainGlobals "NoName" = some (some (.ref e_NoName)))
    (ex_NoName : PySem.W.excIn K e_NoName [.type "ValueError", .type "Exception", .type "BaseException", .type "object"] "ValueError.__new__" = true)
    (ek_NoName : PySem.W.keepIn K (.ref e_NoName) = true)
    (eb_NoName : PySem.W.subIn K (.ref e_NoName) (.type "BaseException") = some true)
    (et_NoName : PySem.W.typeIn K (.ref e_NoName) = some (.type "type"))
    (eh_NoName : PySem.W.hasDictIn K e_NoName = true)
    (ea_NotThere : PySem.W.nsIn K mainGlobals "NotThere" = some (some (.ref e_NotThere)))
    (ex_NotThere : PySem.W.excIn K e_NotThere [.type "ValueError", .type "Exception", .type "BaseException", .type "object"] "ValueError.__new__" = true)
    (ek_NotThere : PySem.W.keepIn K (.ref e_NotThere) = true)
    (eb_NotThere : PySem.W.subIn K (.ref e_NotThere) (.type "BaseException") = some true)
    (et_NotThere : PySem.W.typeIn K (.ref e_NotThere) = some (.type "type"))
    (eh_NotThere : PySem.W.hasDictIn K e_NotThere = true)
    (ea_NoPlace : PySem.W.nsIn K mainGlobals "NoPlace" = some (some (.ref e_NoPlace)))
    (ex_NoPlace : PySem.W.excIn K e_NoPlace [.type "ValueError", .type "Exception", .type "BaseException", .type "object"] "ValueError.__new__" = true)
    (ek_NoPlace : PySem.W.keepIn K (.ref e_NoPlace) = true)
    (eb_NoPlace : PySem.W.subIn K (.ref e_NoPlace) (.type "BaseException") = some true)
    (et_NoPlace : PySem.W.typeIn K (.ref e_NoPlace) = some (.type "type"))
    (eh_NoPlace : PySem.W.hasDictIn K e_NoPlace = true)
    (ea_NoText : PySem.W.nsIn K mainGlobals "NoText" = some (some (.ref e_NoText)))
    (ex_NoText : PySem.W.excIn K e_NoText [.type "ValueError", .type "Exception", .type "BaseException", .type "object"] "ValueError.__new__" = true)
    (ek_NoText : PySem.W.keepIn K (.ref e_NoText) = true)
    (eb_NoText : PySem.W.subIn K (.ref e_NoText) (.type "BaseException") = some true)
    (et_NoText : PySem.W.typeIn K (.ref e_NoText) = some (.type "type"))
    (eh_NoText : PySem.W.hasDictIn K e_NoText = true)
    (ea_TooLong : PySem.W.nsIn K mainGlobals "TooLong" = some (some (.ref e_TooLong)))
    (ex_TooLong : PySem.W.excIn K e_TooLong [.type "ValueError", .type "Exception", .type "BaseException", .type "object"] "ValueError.__new__" = true)
    (ek_TooLong : PySem.W.keepIn K (.ref e_TooLong) = true)
    (eb_TooLong : PySem.W.subIn K (.ref e_TooLong) (.type "BaseException") = some true)
    (et_TooLong : PySem.W.typeIn K (.ref e_TooLong) = some (.type "type"))
    (eh_TooLong : PySem.W.hasDictIn K e_TooLong = true)
    (ea_TooMany : PySem.W.nsIn K mainGlobals "TooMany" = some (some (.ref e_TooMany)))
    (ex_TooMany : PySem.W.excIn K e_TooMany [.type "ValueError", .type "Exception", .type "BaseException", .type "object"] "ValueError.__new__" = true)
    (ek_TooMany : PySem.W.keepIn K (.ref e_TooMany) = true)
    (eb_TooMany : PySem.W.subIn K (.ref e_TooMany) (.type "BaseException") = some true)
    (et_TooMany : PySem.W.typeIn K (.ref e_TooMany) = some (.type "type"))
    (eh_TooMany : PySem.W.hasDictIn K e_TooMany = true)
    (ea_NoNote : PySem.W.nsIn K mainGlobals "NoNote" = some (some (.ref e_NoNote)))
    (ex_NoNote : PySem.W.excIn K e_NoNote [.type "ValueError", .type "Exception", .type "BaseException", .type "object"] "ValueError.__new__" = true)
    (ek_NoNote : PySem.W.keepIn K (.ref e_NoNote) = true)
    (eb_NoNote : PySem.W.subIn K (.ref e_NoNote) (.type "BaseException") = some true)
    (et_NoNote : PySem.W.typeIn K (.ref e_NoNote) = some (.type "type"))
    (eh_NoNote : PySem.W.hasDictIn K e_NoNote = true)
    (xn : PySem.W.specialIn K (.builtin "object.__class__") "__get__" = some (some (.builtin "getset_descriptor.__get__")))
    (xt : PySem.W.takesIn K (.builtin "object.__class__") = some true)
    (xhg_NotThere : PySem.W.findIn K (.ref e_NotThere) "__getattribute__" = some (some (.builtin "BaseException.__getattribute__")))
    (xhk_NotThere : PySem.W.findIn K (.ref e_NotThere) "__getattr__" = some none)
    (xha_NotThere : PySem.W.findIn K (.ref e_NotThere) "__class__" = some (some (.builtin "object.__class__")))
    (xhm_NotThere : PySem.W.mroIn K e_NotThere (.type "object") = some true)
    (xv_NotThere : PySem.W.subIn K (.ref e_NotThere) (.type "ValueError") = some true)
    (s_NotThere_NoSize : PySem.W.subIn K (.ref e_NotThere) (.ref e_NoSize) = some false)
    (u_NotThere_NoSize : e_NotThere ≠ e_NoSize)
    (s_NotThere_NoName : PySem.W.subIn K (.ref e_NotThere) (.ref e_NoName) = some false)
    (u_NotThere_NoName : e_NotThere ≠ e_NoName)
    (s_NotThere_NotThere : PySem.W.subIn K (.ref e_NotThere) (.ref e_NotThere) = some true)
    (s_NotThere_NoPlace : PySem.W.subIn K (.ref e_NotThere) (.ref e_NoPlace) = some false)
    (u_NotThere_NoPlace : e_NotThere ≠ e_NoPlace)
    (s_NotThere_NoText : PySem.W.subIn K (.ref e_NotThere) (.ref e_NoText) = some false)
    (u_NotThere_NoText : e_NotThere ≠ e_NoText)
    (s_NotThere_TooLong : PySem.W.subIn K (.ref e_NotThere) (.ref e_TooLong) = some false)
    (u_NotThere_TooLong : e_NotThere ≠ e_TooLong)
    (s_NotThere_TooMany : PySem.W.subIn K (.ref e_NotThere) (.ref e_TooMany) = some false)
    (u_NotThere_TooMany : e_NotThere ≠ e_TooMany)
    (s_NotThere_NoNote : PySem.W.subIn K (.ref e_NotThere) (.ref e_NoNote) = some false)
    (u_NotThere_NoNote : e_NotThere ≠ e_NoNote)
    (s_NotThere_ShelfError : PySem.W.subIn K (.ref e_NotThere) (.ref e_ShelfError) = some true)
    (z_bool : PySem.W.nsIn K mainGlobals "bool" = some none)
    (z_int : PySem.W.nsIn K mainGlobals "int" = some none)
    (z_isinstance : PySem.W.nsIn K mainGlobals "isinstance" = some none)
    (z_len : PySem.W.nsIn K mainGlobals "len" = some none)
    (z_list : PySem.W.nsIn K mainGlobals "list" = some none)
    (z_min : PySem.W.nsIn K mainGlobals "min" = some none)
    (z_range : PySem.W.nsIn K mainGlobals "range" = some none)
    (z_sorted : PySem.W.nsIn K mainGlobals "sorted" = some none)
    (z_str : PySem.W.nsIn K mainGlobals "str" = some none)
    (z_tuple : PySem.W.nsIn K mainGlobals "tuple" = some none)
    (z_ValueError : PySem.W.nsIn K mainGlobals "ValueError" = some none)
    : ∃ fd : FuncData, (∀ (s : Shared) (v : Value), BindsTo s fd ⟨[v], []⟩ [("_law_script", v)]) ∧ ∀ base : Heap, K.In base → base.Ns mainGlobals mg → FnOk P w K mg base CX0 10 fa fd ["_law_script"] (sp_law K) := by
  have e := hfa.symm.trans (PySem.W.mg_of X G a20)
  cases e
  have F0 := fun_mk (st := s_is_number) l0 y0 k0
  have b0 := F0.binds (ps := ["thing"]) fun _ _ _ _ _ _ us hl => match us, hl with | [_], _ => rfl
  have F1 := fun_mk (st := s_Stock___init__) l1 y1 k1
  have b1 := F1.binds (ps := ["self"]) fun _ _ _ _ _ _ us hl => match us, hl with | [_], _ => rfl
  have F2 := fun_mk (st := s_Stock_need) l2 y2 k2
  have b2 := F2.binds (ps := ["self", "text"]) fun _ _ _ _ _ _ us hl => match us, hl with | [_, _], _ => rfl
  have F3 := fun_mk (st := s_Stock_free) l3 y3 k3
  have b3 := F3.binds (ps := ["self", "number"]) fun _ _ _ _ _ _ us hl => match us, hl with | [_, _], _ => rfl
  have F4 := fun_mk (st := s_Stock_count) l4 y4 k4
  have b4 := F4.binds (ps := ["self", "number"]) fun _ _ _ _ _ _ us hl => match us, hl with | [_, _], _ => rfl
  have F5 := fun_mk (st := s_Stock_piece) l5 y5 k5
  have b5 := F5.binds (ps := ["self", "number"]) fun _ _ _ _ _ _ us hl => match us, hl with | [_, _], _ => rfl
  have F6 := fun_mk (st := s_Stock_numbers) l6 y6 k6
  have b6 := F6.binds (ps := ["self"]) fun _ _ _ _ _ _ us hl => match us, hl with | [_], _ => rfl
  have F7 := fun_mk (st := s_Stock_put) l7 y7 k7
  have b7 := F7.binds (ps := ["self", "number", "text", "count"]) fun _ _ _ _ _ _ us hl => match us, hl with | [_, _, _, _], _ => rfl
  have F8 := fun_mk (st := s_Stock__is_kept) l8 y8 k8
  have b8 := F8.binds (ps := ["self", "number"]) fun _ _ _ _ _ _ us hl => match us, hl with | [_, _], _ => rfl
  have F9 := fun_mk (st := s_Stock__check_kept) l9 y9 k9
  have b9 := F9.binds (ps := ["self", "number"]) fun _ _ _ _ _ _ us hl => match us, hl with | [_, _], _ => rfl
  have F10 := fun_mk (st := s__law_whole) l10 y10 k10
  have b10 := F10.binds (ps := ["_law_got"]) fun _ _ _ _ _ _ us hl => match us, hl with | [_], _ => rfl
  have F11 := fun_mk (st := s__law_sign_by) l11 y11 k11
  have b11 := F11.binds (ps := ["_law_cell"]) fun _ _ _ _ _ _ us hl => match us, hl with | [_], _ => rfl
  have F12 := fun_mk (st := s__law_text_by) l12 y12 k12
  have b12 := F12.binds (ps := ["_law_cell", "_law_size"]) fun _ _ _ _ _ _ us hl => match us, hl with | [_, _], _ => rfl
  have F13 := fun_mk (st := s__law_alike) l13 y13 k13
  have b13 := F13.binds (ps := ["_law_got", "_law_due"]) fun _ _ _ _ _ _ us hl => match us, hl with | [_, _], _ => rfl
  have F14 := fun_mk (st := s__law_word_of) l14 y14 k14
  have b14 := F14.binds (ps := ["_law_e"]) fun _ _ _ _ _ _ us hl => match us, hl with | [_], _ => rfl
  have F15 := fun_mk (st := s__law_answer) l15 y15 k15
  have b15 := F15.binds (ps := ["_law_stock", "_law_way", "_law_number"]) fun _ _ _ _ _ _ us hl => match us, hl with | [_, _, _], _ => rfl
  have F16 := fun_mk (st := s__law_counted) l16 y16 k16
  have b16 := F16.binds (ps := ["_law_stock", "_law_plain", "_law_number"]) fun _ _ _ _ _ _ us hl => match us, hl with | [_, _, _], _ => rfl
  have F17 := fun_mk (st := s__law_look) l17 y17 k17
  have b17 := F17.binds (ps := ["_law_stock", "_law_plain", "_law_number", "_law_kept"]) fun _ _ _ _ _ _ us hl => match us, hl with | [_, _, _, _], _ => rfl
  have F18 := fun_mk (st := s__law_needed) l18 y18 k18
  have b18 := F18.binds (ps := ["_law_stock", "_law_plain", "_law_text"]) fun _ _ _ _ _ _ us hl => match us, hl with | [_, _, _], _ => rfl
  have F19 := fun_mk (st := s__law_freed) l19 y19 k19
  have b19 := F19.binds (ps := ["_law_stock", "_law_plain", "_law_number"]) fun _ _ _ _ _ _ us hl => match us, hl with | [_, _, _], _ => rfl
  have F20 := fun_mk (st := s_law) l20 y20 k20
  have b20 := F20.binds (ps := ["_law_script"]) fun _ _ _ _ _ _ us hl => match us, hl with | [_], _ => rfl
  exact ⟨PySem.W.fnOf "law" "law" (defArgs s_law) (defBody s_law) (defScope s_law) .none kV20 dc20 pm20 an20 cd20 ct20, fun s v => .of_eq rfl, fun base _ _ => ok_law (⟨_, _, F0, b0, PySem.W.mg_of X G a0, _, _, F1, b1, _, _, F2, b2, _, _, F3, b3, _, _, F4, b4, _, _, F5, b5, _, _, F6, b6, _, _, F7, b7, _, _, F8, b8, _, _, F9, b9, _, _, F10, b10, PySem.W.mg_of X G a10, _, _, F11, b11, PySem.W.mg_of X G a11, _, _, F12, b12, PySem.W.mg_of X G a12, _, _, F13, b13, PySem.W.mg_of X G a13, _, _, F14, b14, PySem.W.mg_of X G a14, _, _, F15, b15, PySem.W.mg_of X G a15, _, _, F16, b16, PySem.W.mg_of X G a16, _, _, F17, b17, PySem.W.mg_of X G a17, _, _, F18, b18, PySem.W.mg_of X G a18, _, _, F19, b19, PySem.W.mg_of X G a19, _, _, F20, b20, PySem.W.mg_of X G a20, _, ⟨cp_Stock, ch_Stock, co_Stock, cs_Stock⟩, PySem.W.mg_of X G ca_Stock, ⟨cm_Stock, a1, i1, ck_Stock⟩, cn_Stock_greatest, cn_Stock__texts, cn_Stock__counts, cn_Stock__numbers, ⟨a2, i2, k2⟩, ⟨a3, i3, k3⟩, ⟨a4, i4, k4⟩, ⟨a5, i5, k5⟩, ⟨a6, i6, k6⟩, ⟨a7, i7, k7⟩, ⟨a8, i8, k8⟩, ⟨a9, i9, k9⟩, _, ⟨PySem.W.mg_of X G ea_ShelfError, ex_ShelfError, ek_ShelfError, eb_ShelfError, et_ShelfError, eh_ShelfError⟩, _, ⟨PySem.W.mg_of X G ea_NoSize, ex_NoSize, ek_NoSize, eb_NoSize, et_NoSize, eh_NoSize⟩, _, ⟨PySem.W.mg_of X G ea_NoName, ex_NoName, ek_NoName, eb_NoName, et_NoName, eh_NoName⟩, _, ⟨PySem.W.mg_of X G ea_NotThere, ex_NotThere, ek_NotThere, eb_NotThere, et_NotThere, eh_NotThere⟩, _, ⟨PySem.W.mg_of X G ea_NoPlace, ex_NoPlace, ek_NoPlace, eb_NoPlace, et_NoPlace, eh_NoPlace⟩, _, ⟨PySem.W.mg_of X G ea_NoText, ex_NoText, ek_NoText, eb_NoText, et_NoText, eh_NoText⟩, _, ⟨PySem.W.mg_of X G ea_TooLong, ex_TooLong, ek_TooLong, eb_TooLong, et_TooLong, eh_TooLong⟩, _, ⟨PySem.W.mg_of X G ea_TooMany, ex_TooMany, ek_TooMany, eb_TooMany, et_TooMany, eh_TooMany⟩, _, ⟨PySem.W.mg_of X G ea_NoNote, ex_NoNote, ek_NoNote, eb_NoNote, et_NoNote, eh_NoNote⟩, ⟨xhg_NotThere, xhk_NotThere, eb_NotThere, eh_NotThere, xha_NotThere, xn, xt, xhm_NotThere⟩, kit_VE xv_NotThere, s_NotThere_NoSize, u_NotThere_NoSize, s_NotThere_NoName, u_NotThere_NoName, s_NotThere_NotThere, s_NotThere_NoPlace, u_NotThere_NoPlace, s_NotThere_NoText, u_NotThere_NoText, s_NotThere_TooLong, u_NotThere_TooLong, s_NotThere_TooMany, u_NotThere_TooMany, s_NotThere_NoNote, u_NotThere_NoNote, s_NotThere_ShelfError, PySem.W.mg_none_of X G z_bool, PySem.W.mg_none_of X G z_int, PySem.W.mg_none_of X G z_isinstance, PySem.W.mg_none_of X G z_len, PySem.W.mg_none_of X G z_list, PySem.W.mg_none_of X G z_min, PySem.W.mg_none_of X G z_range, PySem.W.mg_none_of X G z_sorted, PySem.W.mg_none_of X G z_str, PySem.W.mg_none_of X G z_tuple, PySem.W.mg_none_of X G z_ValueError⟩ : Wd K mg)⟩
end My
open PySem PySem.W PyProof.Rows
set_option maxHeartbeats 0 in
theorem PySem.Challenge.cw_chunkshelf_k05_stock_counted_holds : PySem.Challenge.rw_chunkshelf_k05_stock_counted.Holds := by
  w_on; o_law; k_head; (case hw => w_witness2)
  k_fill
  refine L2.walk_of (l := PySem.Challenge.rw_chunkshelf_k05_stock_counted) (n := 63) (k := 10) (x := "_law_script") (CX := fun _ => L2.CX0) (sp := fun w => My.sp_law _) rfl (by decide) rfl ⟨rfl, by decide, by decide⟩ (fun w h Y => PySem.W.kIn_of Y) ?F (fun _ _ a ns hl _ hS => ⟨a, ns, rfl, hS, hl, fun _ => rfl⟩) (fun _ _ _ _ _ h => h)
  case F =>
    intro w mg fa h KX G hmg
    refine' My.all_mk KX G hmg ?a0 ?l0 ?y0 ?k0 ?a1 ?i1 ?l1 ?y1 ?k1 ?a2 ?i2 ?l2 ?y2 ?k2 ?a3 ?i3 ?l3 ?y3 ?k3 ?a4 ?i4 ?l4 ?y4 ?k4 ?a5 ?i5 ?l5 ?y5 ?k5 ?a6 ?i6 ?l6 ?y6 ?k6 ?a7 ?i7 ?l7 ?y7 ?k7 ?a8 ?i8 ?l8 ?y8 ?k8 ?a9 ?i9 ?l9 ?y9 ?k9 ?a10 ?l10 ?y10 ?k10 ?a11 ?l11 ?y11 ?k11 ?a12 ?l12 ?y12 ?k12 ?a13 ?l13 ?y13 ?k13 ?a14 ?l14 ?y14 ?k14 ?a15 ?l15 ?y15 ?k15 ?a16 ?l16 ?y16 ?k16 ?a17 ?l17 ?y17 ?k17 ?a18 ?l18 ?y18 ?k18 ?a19 ?l19 ?y19 ?k19 ?a20 ?l20 ?y20 ?k20 ?ca_Stock ?cp_Stock ?ch_Stock ?co_Stock ?cs_Stock ?cm_Stock ?ck_Stock ?cn_Stock_greatest ?cn_Stock__texts ?cn_Stock__counts ?cn_Stock__numbers ?ea_ShelfError ?ex_ShelfError ?ek_ShelfError ?eb_ShelfError ?et_ShelfError ?eh_ShelfError ?ea_NoSize ?ex_NoSize ?ek_NoSize ?eb_NoSize ?et_NoSize ?eh_NoSize ?ea_NoName ?ex_NoName ?ek_NoName ?eb_NoName ?et_NoName ?eh_NoName ?ea_NotThere ?ex_NotThere ?ek_NotThere ?eb_NotThere ?et_NotThere ?eh_NotThere ?ea_NoPlace ?ex_NoPlace ?ek_NoPlace ?eb_NoPlace ?et_NoPlace ?eh_NoPlace ?ea_NoText ?ex_NoText ?ek_NoText ?eb_NoText ?et_NoText ?eh_NoText ?ea_TooLong ?ex_TooLong ?ek_TooLong ?eb_TooLong ?et_TooLong ?eh_TooLong ?ea_TooMany ?ex_TooMany ?ek_TooMany ?eb_TooMany ?et_TooMany ?eh_TooMany ?ea_NoNote ?ex_NoNote ?ek_NoNote ?eb_NoNote ?et_NoNote ?eh_NoNote ?xn ?xt ?xhg_NotThere ?xhk_NotThere ?xha_NotThere ?xhm_NotThere ?xv_NotThere ?s_NotThere_NoSize ?u_NotThere_NoSize ?s_NotThere_NoName ?u_NotThere_NoName ?s_NotThere_NotThere ?s_NotThere_NoPlace ?u_NotThere_NoPlace ?s_NotThere_NoText ?u_NotThere_NoText ?s_NotThere_TooLong ?u_NotThere_TooLong ?s_NotThere_TooMany ?u_NotThere_TooMany ?s_NotThere_NoNote ?u_NotThere_NoNote ?s_NotThere_ShelfError ?z_bool ?z_int ?z_isinstance ?z_len ?z_list ?z_min ?z_range ?z_sorted ?z_str ?z_tuple ?z_ValueError
    (case a0 => k_is)
    (case a10 => k_is)
    (case a11 => k_is)
    (case a12 => k_is)
    (case a13 => k_is)
    (case a14 => k_is)
    (case a15 => k_is)
    (case a16 => k_is)
    (case a17 => k_is)
    (case a18 => k_is)
    (case a19 => k_is)
    (case a20 => k_is)
    (case ca_Stock => k_is)
    (case ea_ShelfError => k_is)
    (case ea_NoSize => k_is)
    (case ea_NoName => k_is)
    (case ea_NotThere => k_is)
    (case ea_NoPlace => k_is)
    (case ea_NoText => k_is)
    (case ea_TooLong => k_is)
    (case ea_TooMany => k_is)
    (case ea_NoNote => k_is)
    (case a1 => k_is)
    (case a2 => k_is)
    (case a3 => k_is)
    (case a4 => k_is)
    (case a5 => k_is)
    (case a6 => k_is)
    (case a7 => k_is)
    (case a8 => k_is)
    (case a9 => k_is)
    (case l0 => k_is)
    (case l1 => k_is)
    (case l2 => k_is)
    (case l3 => k_is)
    (case l4 => k_is)
    (case l5 => k_is)
    (case l6 => k_is)
    (case l7 => k_is)
    (case l8 => k_is)
    (case l9 => k_is)
    (case l10 => k_is)
    (case l11 => k_is)
    (case l12 => k_is)
    (case l13 => k_is)
    (case l14 => k_is)
    (case l15 => k_is)
    (case l16 => k_is)
    (case l17 => k_is)
    (case l18 => k_is)
    (case l19 => k_is)
    (case l20 => k_is)
    (case y0 => k_is)
    (case k0 => k_is)
    (case i1 => k_is)
    (case y1 => k_is)
    (case k1 => k_is)
    (case i2 => k_is)
    (case y2 => k_is)
    (case k2 => k_is)
    (case i3 => k_is)
    (case y3 => k_is)
    (case k3 => k_is)
    (case i4 => k_is)
    (case y4 => k_is)
    (case k4 => k_is)
    (case i5 => k_is)
    (case y5 => k_is)
    (case k5 => k_is)
    (case i6 => k_is)
    (case y6 => k_is)
    (case k6 => k_is)
    (case i7 => k_is)
    (case y7 => k_is)
    (case k7 => k_is)
    (case i8 => k_is)
    (case y8 => k_is)
    (case k8 => k_is)
    (case i9 => k_is)
    (case y9 => k_is)
    (case k9 => k_is)
    (case y10 => k_is)
    (case k10 => k_is)
    (case y11 => k_is)
    (case k11 => k_is)
    (case y12 => k_is)
    (case k12 => k_is)
    (case y13 => k_is)
    (case k13 => k_is)
    (case y14 => k_is)
    (case k14 => k_is)
    (case y15 => k_is)
    (case k15 => k_is)
    (case y16 => k_is)
    (case k16 => k_is)
    (case y17 => k_is)
    (case k17 => k_is)
    (case y18 => k_is)
    (case k18 => k_is)
    (case y19 => k_is)
    (case k19 => k_is)
    (case y20 => k_is)
    (case k20 => k_is)
    (case cp_Stock => k_is)
    (case ch_Stock => k_is)
    (case co_Stock => k_is)
    (case cs_Stock => k_is)
    (case cm_Stock => k_is)
    (case ck_Stock => k_is)
    (case cn_Stock_greatest => k_is)
    (case cn_Stock__texts => k_is)
    (case cn_Stock__counts => k_is)
    (case cn_Stock__numbers => k_is)
    (case ex_ShelfError => k_exc)
    (case ek_ShelfError => k_is)
    (case eb_ShelfError => k_is)
    (case et_ShelfError => k_is)
    (case eh_ShelfError => k_is)
    (case ex_NoSize => k_exc)
    (case ek_NoSize => k_is)
    (case eb_NoSize => k_is)
    (case et_NoSize => k_is)
    (case eh_NoSize => k_is)
    (case ex_NoName => k_exc)
    (case ek_NoName => k_is)
    (case eb_NoName => k_is)
    (case et_NoName => k_is)
    (case eh_NoName => k_is)
    (case ex_NotThere => k_exc)
    (case ek_NotThere => k_is)
    (case eb_NotThere => k_is)
    (case et_NotThere => k_is)
    (case eh_NotThere => k_is)
    (case ex_NoPlace => k_exc)
    (case ek_NoPlace => k_is)
    (case eb_NoPlace => k_is)
    (case et_NoPlace => k_is)
    (case eh_NoPlace => k_is)
    (case ex_NoText => k_exc)
    (case ek_NoText => k_is)
    (case eb_NoText => k_is)
    (case et_NoText => k_is)
    (case eh_NoText => k_is)
    (case ex_TooLong => k_exc)
    (case ek_TooLong => k_is)
    (case eb_TooLong => k_is)
    (case et_TooLong => k_is)
    (case eh_TooLong => k_is)
    (case ex_TooMany => k_exc)
    (case ek_TooMany => k_is)
    (case eb_TooMany => k_is)
    (case et_TooMany => k_is)
    (case eh_TooMany => k_is)
    (case ex_NoNote => k_exc)
    (case ek_NoNote => k_is)
    (case eb_NoNote => k_is)
    (case et_NoNote => k_is)
    (case eh_NoNote => k_is)
    (case xn => k_is)
    (case xt => k_is)
    (case xhg_NotThere => k_is)
    (case xhk_NotThere => k_is)
    (case xha_NotThere => k_is)
    (case xhm_NotThere => k_is)
    (case xv_NotThere => k_is)
    (case s_NotThere_NoSize => first | rfl | k_is)
    (case u_NotThere_NoSize => decide)
    (case s_NotThere_NoName => first | rfl | k_is)
    (case u_NotThere_NoName => decide)
    (case s_NotThere_NotThere => first | rfl | k_is)
    (case s_NotThere_NoPlace => first | rfl | k_is)
    (case u_NotThere_NoPlace => decide)
    (case s_NotThere_NoText => first | rfl | k_is)
    (case u_NotThere_NoText => decide)
    (case s_NotThere_TooLong => first | rfl | k_is)
    (case u_NotThere_TooLong => decide)
    (case s_NotThere_TooMany => first | rfl | k_is)
    (case u_NotThere_TooMany => decide)
    (case s_NotThere_NoNote => first | rfl | k_is)
    (case u_NotThere_NoNote => decide)
    (case s_NotThere_ShelfError => first | rfl | k_is)
    (case z_bool => k_is)
    (case z_int => k_is)
    (case z_isinstance => k_is)
    (case z_len => k_is)
    (case z_list => k_is)
    (case z_min => k_is)
    (case z_range => k_is)
    (case z_sorted => k_is)
    (case z_str => k_is)
    (case z_tuple => k_is)
    (case z_ValueError => k_is)
