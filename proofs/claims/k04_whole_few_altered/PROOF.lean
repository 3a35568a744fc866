import PyProof.Rows.All
import Wide.All
import OpenK.AllK
import Wide.FinOn
import HandS.ForMost
import HandS.IsInst
import HandS.Walk
import HandS.DictComp
import HandS.Codes
import PySem.Challenge.RW_chunkshelf_k04_whole_few_altered
set_option Elab.async false
set_option linter.all false
set_option maxRecDepth 100000
/-! Our own short layer: readings that evaluate by simp. -/
namespace Y
open PySem PySem.Spec PyProof.Rows L2

/-! ### texts as lists of codes -/
def st (l : List Nat) : Str := ⟨l.toArray⟩
theorem codes_st (l : List Nat) : (st l).cps.toList = l := rfl
theorem st_codes (z : Str) : st z.cps.toList = z := rfl
theorem len_st (l : List Nat) : (st l).length = l.length := by simp [st, Str.length]
theorem len_cps (z : Str) : z.length = z.cps.toList.length := by simp [Str.length]
theorem st_inj {a b : List Nat} : (st a = st b) ↔ a = b := by
  constructor
  · intro h
    have := congrArg (fun z => z.cps.toList) h
    simpa [codes_st] using this
  · intro h; rw [h]
theorem st_app (a b : List Nat) : st a ++ st b = st (a ++ b) := by
  show Str.mk (a.toArray ++ b.toArray) = Str.mk (a ++ b).toArray
  simp
theorem app_st (x y : Str) : x ++ y = st (x.cps.toList ++ y.cps.toList) := by
  show Str.mk (x.cps ++ y.cps) = Str.mk (x.cps.toList ++ y.cps.toList).toArray
  simp
theorem one_st (c : Nat) : (⟨#[c]⟩ : Str) = st [c] := rfl
theorem mk_st (l : List Nat) : (⟨l.toArray⟩ : Str) = st l := rfl
theorem emp_st : Str.ofString "" = st [] := by decide +kernel
theorem line_eq : sizeLine = 16777216 := sizeLine_eq

theorem cxOf_K {CX : CXT} {P : Program} {w : World} {K : PySem.W.Frag} {mg : Str → Option Value} {base : Heap} {N : List Str} {qual : Str} {scope : Scope} {f : Addr} {cd : Value} {A : Around} {outer : List Env} {s : Shared} {H : Hp} {E : XK} :
    (cxOf CX P w K mg base N qual scope f cd A outer s H E).K = K := rfl
/-! ### the combinators, applied -/
section
variable {ta tb te : TE} {t u : TS} {D : Ends} {σ : L2.St} {H : Hp} {Q : VK} {v : V}
/-- a slot that holds a value -/
def look (o : Option (Option V)) (P : V → Prop) : Prop := match o with
  | some (some v) => P v
  | _ => False
theorem look_some (P : V → Prop) : look (some (some v)) P = P v := rfl
theorem tVar_ap {i : Nat} : tVar i σ H Q = look σ[i]? fun v => Q v H := by
  unfold tVar look
  apply propext
  constructor
  · rintro ⟨v, e, q⟩
    rw [e]
    exact q
  · intro h
    split at h
    · rename_i v e
      exact ⟨v, e, h⟩
    · exact h.elim
theorem tC_ap : tC v σ H Q = Q v H := rfl
theorem tSeq_ap : tSeq t u D σ H = t { D with nx := u D } σ H := rfl
theorem tNext_ap : tNext D σ H = D.nx σ H := rfl
theorem tAsg_ap {g : TG} : tAsg te g D σ H = te σ H fun x H1 => g x σ H1 D.nx := rfl
theorem gName_ap {i : Nat} {N : L2.St → Hp → Prop} : gName i v σ H N = N (σ.set i (some v)) H := rfl
theorem tRet_ap : tRet te D σ H = te σ H D.rt := rfl
theorem tRetN_ap : tRetN D σ H = D.rt .non H := rfl
theorem tDrop_ap : tDrop te D σ H = te σ H fun _ H1 => D.nx σ H1 := rfl
theorem tBreak_ap : tBreak D σ H = D.bk σ H := rfl
theorem tCont_ap : tCont D σ H = D.ct σ H := rfl
theorem tOp_ap {r : R2} : tOp r ta tb σ H Q = ta σ H fun x H1 => tb σ H1 fun y H2 => r x y H2 Q := rfl
theorem tUn_ap {r : V → Hp → VK → Prop} : tUn r ta σ H Q = ta σ H fun x H1 => r x H1 Q := rfl
theorem tNil_ap {R : List V → Hp → Prop} : tNil σ H R = R [] H := rfl
theorem tCons_ap {tr : TA} {R : List V → Hp → Prop} : tCons ta tr σ H R = ta σ H fun x H1 => tr σ H1 fun xs H2 => R (x :: xs) H2 := rfl
theorem tCB_ap {r : List V → Hp → VK → Prop} {tt : TA} : tCB r tt σ H Q = tt σ H fun vs H1 => r vs H1 Q := rfl
theorem tCall_ap {sp : Sp} {dvs : List V} {E : XK} {tt : TA} : tCall sp dvs E tt σ H Q = tt σ H fun vs H1 => sp (vs ++ dvs) H1 Q E := rfl
theorem tBM_ap {K : PySem.W.Frag} {T : String} {r : V → List V → Hp → VK → Prop} {tt : TA} : tBM K T r te tt σ H Q = te σ H fun x H1 => tyV K T x H1 ∧ tt σ H1 fun xs H2 => r x xs H2 Q := rfl
theorem tM1_ap {r : V → List V → Hp → VK → Prop} : tM1 r ta tb σ H Q = ta σ H fun x H1 => (∃ a, x = .str a) ∧ tb σ H1 fun y H2 => r x [y] H2 Q := rfl
theorem tLst_ap {tt : TA} : tLst tt σ H Q = tt σ H fun xs H1 => xs.length ≤ sizeLine ∧ ∀ p, H1 p = none → Q (.ref p) (upd H1 p (.lst xs)) := rfl
theorem tTup_ap {tt : TA} : tTup tt σ H Q = tt σ H fun xs H1 => xs.length ≤ sizeLine ∧ ∀ p, H1 p = none → Q (.ref p) (upd H1 p (.tup xs)) := rfl
theorem tSl_ap {r : V → Option Int → Option Int → Hp → VK → Prop} {tl th : TO} : tSl r te tl th σ H Q = te σ H fun x H1 => tl σ H1 fun l H2 => th σ H2 fun u H3 => r x l u H3 Q := rfl
theorem tNoPart_ap {R : Option Int → Hp → Prop} : tNoPart σ H R = R none H := rfl
/-- an int, else nothing holds -/
def asInt (v : V) (P : Int → Prop) : Prop := match v with
  | .int i => P i
  | _ => False
def asBl (v : V) (P : Bool → Prop) : Prop := match v with
  | .bl i => P i
  | _ => False
theorem asInt_int {i : Int} {P : Int → Prop} : asInt (.int i) P = P i := rfl
theorem asBl_bl {i : Bool} {P : Bool → Prop} : asBl (.bl i) P = P i := rfl
theorem asInt_ex {v : V} {P : Int → Prop} : asInt v P = ∃ i, v = .int i ∧ P i := by
  apply propext
  cases v <;> simp [asInt]
theorem asBl_ex {v : V} {P : Bool → Prop} : asBl v P = ∃ i, v = .bl i ∧ P i := by
  apply propext
  cases v <;> simp [asBl]
theorem tPart_ap {R : Option Int → Hp → Prop} : tPart te σ H R = te σ H fun x H1 => asInt x fun i => R (some i) H1 := by
  unfold tPart
  simp only [asInt_ex]
/-- a branch, folded -/
def br (b : Bool) (A B : Prop) : Prop := if b = true then A else B
theorem br_t {A B : Prop} : br true A B = A := by simp [br]
theorem br_f {A B : Prop} : br false A B = B := by simp [br]
theorem br_of {b : Bool} {A B : Prop} (h1 : b = true → A) (h2 : b = false → B) : br b A B := by
  cases b
  · exact (br_f (A := A)).symm ▸ h2 rfl
  · exact (br_t (B := B)).symm ▸ h1 rfl
/-- a branch of statements, folded -/
def brS (b : Bool) (t u : TS) (D : Ends) (σ : L2.St) (H : Hp) : Prop := if b = true then t D σ H else u D σ H
theorem brS_t : brS true t u D σ H = t D σ H := by simp [brS]
theorem brS_f : brS false t u D σ H = u D σ H := by simp [brS]
theorem brS_of {b : Bool} (h1 : b = true → t D σ H) (h2 : b = false → u D σ H) : brS b t u D σ H := by
  cases b
  · exact brS_f.symm ▸ h2 rfl
  · exact brS_t.symm ▸ h1 rfl
theorem brS_join {b : Bool} (R : L2.St → Hp → Prop) (hk : ∀ σ H, R σ H → D.nx σ H) (h : ∀ N : L2.St → Hp → Prop, (∀ σ H, R σ H → N σ H) → brS b t u { D with nx := N } σ H) : brS b t u D σ H := h D.nx hk
theorem brS_ite {b : Bool} : (if b = true then t D σ H else u D σ H) = brS b t u D σ H := rfl
theorem tIfS_ap {c : TT} : tIfS c t u D σ H = c σ H fun b H1 => brS b t u D σ H1 := rfl
/-- a branch of expressions -/
def brE (b : Bool) (ta tb : TE) (σ : L2.St) (H : Hp) (Q : VK) : Prop := if b = true then ta σ H Q else tb σ H Q
theorem brE_t : brE true ta tb σ H Q = ta σ H Q := by simp [brE]
theorem brE_f : brE false ta tb σ H Q = tb σ H Q := by simp [brE]
theorem brE_of {b : Bool} (h1 : b = true → ta σ H Q) (h2 : b = false → tb σ H Q) : brE b ta tb σ H Q := by
  cases b
  · exact brE_f.symm ▸ h2 rfl
  · exact brE_t.symm ▸ h1 rfl
theorem tIf_ap {c : TT} : tIf c ta tb σ H Q = c σ H fun b H1 => brE b ta tb σ H1 Q := rfl
theorem tAndV_ap : tAndV ta tb σ H Q = ta σ H fun x H1 => asBl x fun c => brE c tb (tC (.bl false)) σ H1 Q := by
  unfold tAndV
  simp only [asBl_ex, brE, tC]
theorem tOrV_ap : tOrV ta tb σ H Q = ta σ H fun x H1 => asBl x fun c => brE c (tC (.bl true)) tb σ H1 Q := by
  unfold tOrV
  simp only [asBl_ex, brE, tC]
theorem tNotV_ap : tNotV ta σ H Q = ta σ H fun x H1 => asBl x fun c => Q (.bl (!c)) H1 := by
  unfold tNotV
  simp only [asBl_ex]
/-- a branch of tests -/
def brT (b : Bool) (ta tb : TT) (σ : L2.St) (H : Hp) (R : Bool → Hp → Prop) : Prop := if b = true then ta σ H R else tb σ H R
variable {tA tB' : TT} {R : Bool → Hp → Prop}
theorem brT_t : brT true tA tB' σ H R = tA σ H R := by simp [brT]
theorem brT_f : brT false tA tB' σ H R = tB' σ H R := by simp [brT]
theorem brT_of {b : Bool} (h1 : b = true → tA σ H R) (h2 : b = false → tB' σ H R) : brT b tA tB' σ H R := by
  cases b
  · exact brT_f.symm ▸ h2 rfl
  · exact brT_t.symm ▸ h1 rfl
def tK (b : Bool) : TT := fun _ H R => R b H
theorem tK_ap {b : Bool} : tK b σ H R = R b H := rfl
theorem tAnd_ap : tAnd tA tB' σ H R = tA σ H fun c H1 => brT c tB' (tK false) σ H1 R := rfl
theorem tOr_ap : tOr tA tB' σ H R = tA σ H fun c H1 => brT c (tK true) tB' σ H1 R := rfl
theorem tNot_ap : tNot tA σ H R = tA σ H fun c H1 => R (!c) H1 := rfl
theorem tB_ap : tB te σ H R = te σ H fun x H1 => asBl x fun c => R c H1 := by
  unfold tB
  simp only [asBl_ex]
theorem tTest_ap : tTest te σ H R = te σ H fun x H1 => asBl x fun c => R c H1 := by
  unfold tTest
  simp only [asBl_ex]
/-- a loop, folded -/
def forW (J : It) (g : TG) (tb : TS) (D : Ends) (σ : L2.St) (H1 : Hp) : Prop := ∃ W : Nat → Nat → L2.St → Hp → Prop, (∃ m, W 0 m σ H1) ∧ ∀ i m σ H, W i m σ H →
  (J.stop i H ∧ D.nx σ H) ∨ (J.go i H ∧ ∃ N : L2.St → Hp → Prop, (∀ σ' H', N σ' H' → ∃ m', m' < m ∧ W (i + 1) m' σ' H') ∧ ∀ x H', J.yld i H x H' → g x σ H' fun σ2 H2 => tb { D with nx := N, ct := N, bk := D.nx } σ2 H2)
theorem tFor_ap {wi : TI} {g : TG} : tFor wi g t D σ H = wi σ H fun J H1 => forW J g t D σ H1 := rfl
theorem iRng1_ap {tt : TA} {R : It → Hp → Prop} : iRng1 tt σ H R = tt σ H fun vs H1 => ∃ j : Int, vs = [.int j] ∧ -(2 ^ 62) ≤ j ∧ j < 2 ^ 62 ∧ R (Itr 0 j.toNat) H1 := rfl
/-- the arguments of a range, looked at -/
def rng1 (vs : List V) (k : Int → Prop) : Prop := match vs with
  | [.int j] => (-(2 ^ 62) ≤ j ∧ j < 2 ^ 62) ∧ k j
  | _ => False
def rng2 (vs : List V) (k : Int → Int → Prop) : Prop := match vs with
  | [.int i, .int j] => (-(2 ^ 62) ≤ i ∧ i < 2 ^ 62 ∧ -(2 ^ 62) ≤ j ∧ j < 2 ^ 62) ∧ k i j
  | _ => False
theorem rng1_ap {j : Int} {k : Int → Prop} : rng1 [.int j] k = ((-(2 ^ 62) ≤ j ∧ j < 2 ^ 62) ∧ k j) := rfl
theorem rng2_ap {i j : Int} {k : Int → Int → Prop} : rng2 [.int i, .int j] k = ((-(2 ^ 62) ≤ i ∧ i < 2 ^ 62 ∧ -(2 ^ 62) ≤ j ∧ j < 2 ^ 62) ∧ k i j) := rfl
theorem rng1_ex {vs : List V} {k : Int → Prop} : rng1 vs k ↔ ∃ j : Int, vs = [.int j] ∧ -(2 ^ 62) ≤ j ∧ j < 2 ^ 62 ∧ k j := by
  constructor
  · intro h
    unfold rng1 at h
    split at h
    · exact ⟨_, rfl, h.1.1, h.1.2, h.2⟩
    · exact h.elim
  · rintro ⟨j, rfl, h1, h2, h3⟩
    exact ⟨⟨h1, h2⟩, h3⟩
theorem rng2_ex {vs : List V} {k : Int → Int → Prop} : rng2 vs k ↔ ∃ i j : Int, vs = [.int i, .int j] ∧ (-(2 ^ 62) ≤ i ∧ i < 2 ^ 62 ∧ -(2 ^ 62) ≤ j ∧ j < 2 ^ 62) ∧ k i j := by
  constructor
  · intro h
    unfold rng2 at h
    split at h
    · exact ⟨_, _, rfl, h.1, h.2⟩
    · exact h.elim
  · rintro ⟨i, j, rfl, h1, h3⟩
    exact ⟨h1, h3⟩
theorem tFor1_ap {tt : TA} {g : TG} : tFor (iRng1 tt) g t D σ H = tt σ H fun vs H1 => rng1 vs fun j => forW (Itr 0 j.toNat) g t D σ H1 := by
  show (tt σ H fun vs H1 => ∃ j : Int, vs = [.int j] ∧ -(2 ^ 62) ≤ j ∧ j < 2 ^ 62 ∧ forW (Itr 0 j.toNat) g t D σ H1) = _
  congr 1
  funext vs H1
  exact propext rng1_ex.symm
theorem tFor2_ap {tt : TA} {g : TG} : tFor (iRng2 tt) g t D σ H = tt σ H fun vs H1 => rng2 vs fun i j => forW (Itr i (j - i).toNat) g t D σ H1 := by
  show (tt σ H fun vs H1 => ∃ i j : Int, vs = [.int i, .int j] ∧ (-(2 ^ 62) ≤ i ∧ i < 2 ^ 62 ∧ -(2 ^ 62) ≤ j ∧ j < 2 ^ 62) ∧ forW (Itr i (j - i).toNat) g t D σ H1) = _
  congr 1
  funext vs H1
  exact propext rng2_ex.symm
/-- a comprehension, folded -/
def lcW (J : It) (g : TG) (tt : TT) (te : TE) (vs : List Nat) (σ : L2.St) (D : Addr) (H1 : Hp) (Qd : Hp → Prop) : Prop := ∃ W : Nat → Nat → Hp → Prop, (∃ m, W 0 m (upd H1 D (.lst []))) ∧ ∀ i m H, W i m H →
  (J.stop i H ∧ Qd H) ∨ (J.go i H ∧ ∃ Nx : Hp → Prop, (∀ H', Nx H' → ∃ m', m' < m ∧ W (i + 1) m' H') ∧ ∀ x H', J.yld i H x H' → g x (wipe σ vs) H' fun σ2 H2 => wipe σ2 vs = wipe σ vs ∧ tt σ2 H2 fun b H3 =>
    if b = true then te σ2 H3 fun y H4 => ∃ acc, H4 D = some (.lst acc) ∧ acc.length < sizeLine ∧ Nx (upd H4 D (.lst (acc ++ [y]))) else Nx H3)
def dcW (J : It) (g : TG) (tt : TT) (tk tv : TE) (vs : List Nat) (σ : L2.St) (D : Addr) (H1 : Hp) (Qd : Hp → Prop) : Prop := ∃ W : Nat → Nat → Hp → Prop, (∃ m, W 0 m (upd H1 D (.dK []))) ∧ ∀ i m H, W i m H →
  (J.stop i H ∧ Qd H) ∨ (J.go i H ∧ ∃ Nx : Hp → Prop, (∀ H', Nx H' → ∃ m', m' < m ∧ W (i + 1) m' H') ∧ ∀ x H', J.yld i H x H' → g x (wipe σ vs) H' fun σ2 H2 => wipe σ2 vs = wipe σ vs ∧ tt σ2 H2 fun b H3 =>
    if b = true then tk σ2 H3 fun y H4 => tv σ2 H4 fun z H5 => ∃ kvs k, y = kV k ∧ H5 D = some (.dK kvs) ∧ kvs.length < sizeLine ∧ Nx (upd H5 D (.dK (putK kvs k z))) else Nx H3)
theorem tYes_ap : tYes σ H R = R true H := rfl
theorem tLc1_ap {ts : TA} {g : TG} {tt : TT} {vs : List Nat} : tLc (iRng1 ts) g tt te vs σ H Q = ts σ H fun xs H1 => rng1 xs fun j => ∀ D, H1 D = none → lcW (Itr 0 j.toNat) g tt te vs σ D H1 fun H' => Q (.ref D) H' := by
  show (ts σ H fun xs H1 => ∃ j : Int, xs = [.int j] ∧ -(2 ^ 62) ≤ j ∧ j < 2 ^ 62 ∧ ∀ D, H1 D = none → lcW (Itr 0 j.toNat) g tt te vs σ D H1 fun H' => Q (.ref D) H') = _
  congr 1
  funext xs H1
  exact propext rng1_ex.symm
theorem tLc2_ap {ts : TA} {g : TG} {tt : TT} {vs : List Nat} : tLc (iRng2 ts) g tt te vs σ H Q = ts σ H fun xs H1 => rng2 xs fun i j => ∀ D, H1 D = none → lcW (Itr i (j - i).toNat) g tt te vs σ D H1 fun H' => Q (.ref D) H' := by
  show (ts σ H fun xs H1 => ∃ i j : Int, xs = [.int i, .int j] ∧ (-(2 ^ 62) ≤ i ∧ i < 2 ^ 62 ∧ -(2 ^ 62) ≤ j ∧ j < 2 ^ 62) ∧ ∀ D, H1 D = none → lcW (Itr i (j - i).toNat) g tt te vs σ D H1 fun H' => Q (.ref D) H') = _
  congr 1
  funext xs H1
  exact propext rng2_ex.symm
theorem tDc2_ap {ts : TA} {g : TG} {tt : TT} {vs : List Nat} : tDc (iRng2 ts) g tt te tb vs σ H Q = ts σ H fun xs H1 => rng2 xs fun i j => ∀ D, H1 D = none → dcW (Itr i (j - i).toNat) g tt te tb vs σ D H1 fun H' => Q (.ref D) H' := by
  show (ts σ H fun xs H1 => ∃ i j : Int, xs = [.int i, .int j] ∧ (-(2 ^ 62) ≤ i ∧ i < 2 ^ 62 ∧ -(2 ^ 62) ≤ j ∧ j < 2 ^ 62) ∧ ∀ D, H1 D = none → dcW (Itr i (j - i).toNat) g tt te tb vs σ D H1 fun H' => Q (.ref D) H') = _
  congr 1
  funext xs H1
  exact propext rng2_ex.symm
/-- a text, else nothing holds -/
def asStr (v : V) (P : Str → Prop) : Prop := match v with
  | .str i => P i
  | _ => False
theorem asStr_str {i : Str} {P : Str → Prop} : asStr (.str i) P = P i := rfl
theorem asStr_ex {v : V} {P : Str → Prop} : asStr v P = ∃ i, v = .str i ∧ P i := by
  apply propext
  cases v <;> simp [asStr]
def asRef (v : V) (P : Addr → Prop) : Prop := match v with
  | .ref i => P i
  | _ => False
theorem asRef_ref {i : Addr} {P : Addr → Prop} : asRef (.ref i) P = P i := rfl
theorem asRef_ex {v : V} {P : Addr → Prop} : asRef v P = ∃ i, v = .ref i ∧ P i := by
  apply propext
  cases v <;> simp [asRef]
theorem tForS_ap {g : TG} : tFor (iStr te) g t D σ H = te σ H fun v H1 => asStr v fun x => forW (Its x) g t D σ H1 := by
  simp only [asStr_ex]
  rfl
theorem tLcZ_ap {K : PySem.W.Frag} {ts : TA} {g : TG} {tt : TT} {tf : TE} {vs : List Nat} : tLc (iZip K ts) g tt tf vs σ H Q = ts σ H fun us H1 => ∃ a b xs ys, us = [.ref a, .ref b] ∧ SqL K H1 a xs ∧ SqL K H1 b ys ∧ ∀ D, H1 D = none → lcW (Itz K a b) g tt tf vs σ D H1 fun H' => Q (.ref D) H' := rfl
theorem tForZ_ap {K : PySem.W.Frag} {ts : TA} {g : TG} : tFor (iZip K ts) g t D σ H = ts σ H fun us H1 => ∃ a b xs ys, us = [.ref a, .ref b] ∧ SqL K H1 a xs ∧ SqL K H1 b ys ∧ forW (Itz K a b) g t D σ H1 := rfl
theorem tLcL_ap {K : PySem.W.Frag} {g : TG} {tt : TT} {tf : TE} {vs : List Nat} : tLc (iList K te) g tt tf vs σ H Q = te σ H fun v H1 => asRef v fun a => (∃ xs, SqL K H1 a xs) ∧ ∀ D, H1 D = none → lcW (Itl K a) g tt tf vs σ D H1 fun H' => Q (.ref D) H' := by
  simp only [asRef_ex]
  rfl
theorem tDGet_ap : tDGet te tb σ H Q = te σ H fun x H1 => tb σ H1 fun y H2 => asRef x fun a => ∃ v, DGet H2 a y (some v) ∧ Q v H2 := by
  simp only [asRef_ex]
  unfold tDGet
  congr 1
  funext x H1
  congr 1
  funext y H2
  apply propext
  constructor
  · rintro ⟨a, v, h1, h2, h3⟩
    exact ⟨a, h1, v, h2, h3⟩
  · rintro ⟨a, h1, v, h2, h3⟩
    exact ⟨a, v, h1, h2, h3⟩
theorem tForL_ap {K : PySem.W.Frag} {g : TG} : tFor (iList K te) g t D σ H = te σ H fun v H1 => asRef v fun a => (∃ xs, SqL K H1 a xs) ∧ forW (Itl K a) g t D σ H1 := by
  simp only [asRef_ex]
  rfl
end
/-- range(lo, lo + n) -/
theorem for_rng {lo : Int} {n : Nat} {g : TG} {tb : TS} {D : Ends} {σ : L2.St} {H : Hp} (Pv : Nat → L2.St → Hp → Prop) (h0 : Pv 0 σ H)
    (hs : ∀ i σ H, i < n → Pv i σ H → g (.int (lo + i)) σ H fun σ2 H2 => tb { D with nx := Pv (i + 1), ct := Pv (i + 1), bk := D.nx } σ2 H2) (hd : ∀ σ H, Pv n σ H → D.nx σ H) : forW (Itr lo n) g tb D σ H :=
  for_range Pv h0 hs hd
/-- the signs of a text -/
theorem for_sgn {l : List Nat} {g : TG} {tb : TS} {D : Ends} {σ : L2.St} {H : Hp} (Pv : Nat → L2.St → Hp → Prop) (h0 : Pv 0 σ H)
    (hs : ∀ i c σ H, l[i]? = some c → Pv i σ H → g (.str (st [c])) σ H fun σ2 H2 => tb { D with nx := Pv (i + 1), ct := Pv (i + 1), bk := D.nx } σ2 H2) (hd : ∀ σ H, Pv l.length σ H → D.nx σ H) : forW (Its (st l)) g tb D σ H := by
  have w : Walk (Its (st l)) l.length (fun _ => True) (fun i H x H' => H' = H ∧ ∃ c, l[i]? = some c ∧ x = .str (st [c])) :=
    ⟨fun i H hi _ => by show i < (st l).cps.size; simpa [st] using hi, fun H _ => by show (st l).cps.size ≤ l.length; simp [st], fun i H x H' hi _ y => by
      obtain ⟨e, c, h1, h2⟩ := y
      refine ⟨e, c, ?_, h2⟩
      simpa [st] using h1⟩
  refine for_it w Pv h0 (fun _ _ _ _ _ => trivial) (fun i x σ H H' hi p y => ?_) hd
  obtain ⟨e, c, h1, h2⟩ := y
  subst e h2
  exact hs i c σ _ h1 p

/-! ### operators over all kinds -/
def rAdd (K : PySem.W.Frag) (x y : V) (H : Hp) (Q : VK) : Prop := match x, y with
  | .int i, .int j => Q (.int (i + j)) H
  | .str a, .str b => a.length + b.length ≤ sizeLine ∧ Q (.str (st (a.cps.toList ++ b.cps.toList))) H
  | .ref l, .ref b => ∃ xs zs, H l = some (.lst xs) ∧ H b = some (.lst zs) ∧ xs.length + zs.length ≤ sizeLine ∧ ∀ p, H p = none → Q (.ref p) (upd H p (.lst (xs ++ zs)))
  | _, _ => False
def rSub (x y : V) (H : Hp) (Q : VK) : Prop := match x, y with
  | .int i, .int j => Q (.int (i - j)) H
  | _, _ => False
def repS (z : List Nat) (k : Nat) : List Nat := (List.replicate k z).flatten
def rMul (x y : V) (H : Hp) (Q : VK) : Prop := match x, y with
  | .int i, .int j => CMul i j ∧ Q (.int (i * j)) H
  | .str a, .int k => (0 ≤ k ∧ k ≤ sizeLine ∧ a.length * k.toNat ≤ sizeLine) ∧ Q (.str (st (repS a.cps.toList k.toNat))) H
  | _, _ => False
def rMod (x y : V) (H : Hp) (Q : VK) : Prop := match x, y with
  | .int i, .int j => 0 < j ∧ Q (.int (i % j)) H
  | _, _ => False
def rDiv (x y : V) (H : Hp) (Q : VK) : Prop := match x, y with
  | .int i, .int j => CDiv i j ∧ Q (.int (i / j)) H
  | _, _ => False
def rPow (x y : V) (H : Hp) (Q : VK) : Prop := match x, y with
  | .int i, .int j => CPow i j ∧ Q (.int (i ^ j.toNat)) H
  | _, _ => False
def rCmp (p : Int → Int → Bool) (x y : V) (H : Hp) (Q : VK) : Prop := match x, y with
  | .int i, .int j => Q (.bl (p i j)) H
  | _, _ => False
def eqB (x y : V) : Option Bool := match x, y with
  | .int i, .int j => some (decide (i = j))
  | .str i, .str j => some (decide (i = j))
  | .bl i, .bl j => some (decide (i = j))
  | .non, .non => some true
  | _, _ => if scal x y = true then some false else none
def rEqS (K : PySem.W.Frag) (x y : V) (H : Hp) (Q : VK) : Prop := match x, y with
  | .int i, .int j => Q (.bl (decide (i = j))) H
  | .str i, .str j => Q (.bl (decide (i = j))) H
  | .bl i, .bl j => Q (.bl (decide (i = j))) H
  | .ref a, .ref b => rEqD K (.ref a) (.ref b) H Q
  | x, y => scal x y = true ∧ Q (.bl (decide (x = y))) H
def rNeS (K : PySem.W.Frag) (x y : V) (H : Hp) (Q : VK) : Prop := match x, y with
  | .int i, .int j => Q (.bl (!decide (i = j))) H
  | .str i, .str j => Q (.bl (!decide (i = j))) H
  | .bl i, .bl j => Q (.bl (!decide (i = j))) H
  | .ref a, .ref b => rNeD K (.ref a) (.ref b) H Q
  | x, y => scal x y = true ∧ Q (.bl (!decide (x = y))) H
/-- a flat value as data -/
def pyV : V → PyData
  | .bl b => .bool b
  | .int i => .int i
  | .str x => .str x
  | _ => .none
def plainV : V → Bool
  | .int _ => true
  | .str x => x.cps.all (· < 0x110000)
  | _ => false
theorem dp_all {K : PySem.W.Frag} {H : Hp} : ∀ {xs : List V}, xs.all plainV = true → DpAll K H xs (xs.map pyV)
  | [], _ => .nil
  | x :: r, h => by
    rw [List.all_cons, Bool.and_eq_true] at h
    refine .cons ?_ (dp_all h.2)
    cases x <;> first | (exact Bool.noConfusion (show false = true from h.1)) | constructor
theorem lay_all : ∀ {xs : List V}, xs.all plainV = true → PyData.canLayAll0 (xs.map pyV) = true ∧ PyData.depthAll (xs.map pyV) ≤ 1
  | [], _ => ⟨rfl, by simp [PyData.depthAll]⟩
  | x :: r, h => by
    rw [List.all_cons, Bool.and_eq_true] at h
    have ⟨h1, h2⟩ := lay_all h.2
    rw [List.map_cons]
    cases x <;> first | (exact Bool.noConfusion (show false = true from h.1)) | skip
    · refine ⟨by simpa [PyData.canLayAll0, PyData.canLay0, pyV] using h1, ?_⟩
      simp only [PyData.depthAll, pyV, PyData.depth]
      omega
    · refine ⟨?_, ?_⟩
      · simp only [PyData.canLayAll0, PyData.canLay0, pyV, h1, Bool.and_true]
        exact h.1
      · simp only [PyData.depthAll, pyV, PyData.depth]
        omega
theorem eqv_all : ∀ {xs ys : List V}, xs.all plainV = true → ys.all plainV = true → PyData.eqvAll (xs.map pyV) (ys.map pyV) = decide (xs = ys)
  | [], [], _, _ => by simp [PyData.eqvAll]
  | [], y :: s, _, _ => by simp [PyData.eqvAll]
  | x :: r, [], _, _ => by simp [PyData.eqvAll]
  | x :: r, y :: s, h, g => by
    rw [List.all_cons, Bool.and_eq_true] at h g
    have ih := eqv_all h.2 g.2
    rw [List.map_cons, List.map_cons]
    show (PyData.eqv (pyV x) (pyV y) && PyData.eqvAll (r.map pyV) (s.map pyV)) = _
    rw [ih]
    cases x <;> first | (exact Bool.noConfusion (show false = true from h.1)) | skip
    all_goals
      cases y <;> first | (exact Bool.noConfusion (show false = true from g.1)) | skip
      all_goals
        simp only [pyV, PyData.eqv, List.cons.injEq, V.int.injEq, V.str.injEq, reduceCtorEq, false_and, decide_false, Bool.false_and]
        try rw [Bool.eq_iff_iff]
        try simp
theorem dp_lst {K : PySem.W.Frag} {H : Hp} {a : Addr} {xs : List V} (h : SqL K H a xs) (p : xs.all plainV = true) : Dp K H (.ref a) (.list (xs.map pyV)) ∧ SeqAt.shaped (.list (xs.map pyV)) = true := by
  have ⟨h1, h2⟩ := lay_all p
  refine ⟨.lst h (dp_all p), ?_⟩
  unfold SeqAt.shaped
  rw [Bool.and_eq_true]
  refine ⟨by simpa [PyData.canLay0] using h1, decide_eq_true ?_⟩
  simp only [PyData.depth]
  omega
theorem dp_tup {K : PySem.W.Frag} {H : Hp} {a : Addr} {xs : List V} (h : SqT K H a xs) (p : xs.all plainV = true) : Dp K H (.ref a) (.tuple (xs.map pyV)) ∧ SeqAt.shaped (.tuple (xs.map pyV)) = true := by
  have ⟨h1, h2⟩ := lay_all p
  refine ⟨.tup h (dp_all p), ?_⟩
  unfold SeqAt.shaped
  rw [Bool.and_eq_true]
  refine ⟨by simpa [PyData.canLay0] using h1, decide_eq_true ?_⟩
  simp only [PyData.depth]
  omega
theorem eq_lst {K : PySem.W.Frag} {H : Hp} {a b : Addr} {xs ys : List V} {Q : VK} (ha : SqL K H a xs) (hb : SqL K H b ys) (p : xs.all plainV = true) (p' : ys.all plainV = true) (q : Q (.bl (decide (xs = ys))) H) : rEqD K (.ref a) (.ref b) H Q := by
  refine ⟨_, _, (dp_lst ha p).1, (dp_lst hb p').1, (dp_lst ha p).2, (dp_lst hb p').2, ?_⟩
  rw [show PyData.eqv (.list (xs.map pyV)) (.list (ys.map pyV)) = PyData.eqvAll (xs.map pyV) (ys.map pyV) from rfl, eqv_all p p']
  exact q
theorem ne_lst {K : PySem.W.Frag} {H : Hp} {a b : Addr} {xs ys : List V} {Q : VK} (ha : SqL K H a xs) (hb : SqL K H b ys) (p : xs.all plainV = true) (p' : ys.all plainV = true) (q : Q (.bl (!decide (xs = ys))) H) : rNeD K (.ref a) (.ref b) H Q := by
  refine ⟨_, _, (dp_lst ha p).1, (dp_lst hb p').1, (dp_lst ha p).2, (dp_lst hb p').2, ?_⟩
  rw [show PyData.eqv (.list (xs.map pyV)) (.list (ys.map pyV)) = PyData.eqvAll (xs.map pyV) (ys.map pyV) from rfl, eqv_all p p']
  exact q
theorem eq_tup {K : PySem.W.Frag} {H : Hp} {a b : Addr} {xs ys : List V} {Q : VK} (ha : SqT K H a xs) (hb : SqT K H b ys) (p : xs.all plainV = true) (p' : ys.all plainV = true) (q : Q (.bl (decide (xs = ys))) H) : rEqD K (.ref a) (.ref b) H Q := by
  refine ⟨_, _, (dp_tup ha p).1, (dp_tup hb p').1, (dp_tup ha p).2, (dp_tup hb p').2, ?_⟩
  rw [show PyData.eqv (.tuple (xs.map pyV)) (.tuple (ys.map pyV)) = PyData.eqvAll (xs.map pyV) (ys.map pyV) from rfl, eqv_all p p']
  exact q
/-- x in y, by the kind of y -/
def rInA (K : PySem.W.Frag) (x y : V) (H : Hp) (Q : VK) : Prop := match y with
  | .ref p => ∃ xs, (SqL K H p xs ∨ SqT K H p xs) ∧ flatV x = true ∧ xs.all flatV = true ∧ Q (.bl (inV x xs)) H
  | _ => False
def rNotInA (K : PySem.W.Frag) (x y : V) (H : Hp) (Q : VK) : Prop := match y with
  | .ref p => ∃ xs, (SqL K H p xs ∨ SqT K H p xs) ∧ flatV x = true ∧ xs.all flatV = true ∧ Q (.bl (!inV x xs)) H
  | _ => False
section
variable {X : Cx}
theorem op_weak {f : Value → Value → Sem Value} {r r' : R2} (h : OpR X f r) (w : ∀ x y H Q, r' x y H Q → r x y H Q) : OpR X f r' := fun pins s σ H x y v u Q I rx ry q => h pins s σ H x y v u Q I rx ry (w x y H Q q)
theorem y_add {K : PySem.W.Frag} (hK : X.K = K := by rfl) : OpR X (binaryOp .Add) (rAdd K) := by
  subst hK
  refine op_weak (op_add.or (op_add_str.or op_cat)) fun x y H Q q => ?_
  cases x <;> cases y <;> first | exact q.elim | skip
  · exact .inl ⟨_, _, rfl, rfl, q⟩
  · refine .inr (.inl ⟨_, _, rfl, rfl, q.1, ?_⟩)
    rw [app_st]
    exact q.2
  · obtain ⟨xs, zs, h1, h2, h3, h4⟩ := q
    exact .inr (.inr ⟨_, _, xs, zs, rfl, rfl, h1, h2, h3, h4⟩)
theorem y_sub : OpR X (binaryOp .Sub) rSub := by
  refine op_weak op_sub fun x y H Q q => ?_
  cases x <;> cases y <;> first | exact q.elim | skip
  exact ⟨_, _, rfl, rfl, q⟩
theorem foldl_app (a : Array Nat) : ∀ (k : Nat) (acc : Array Nat), ((List.replicate k a).foldl (· ++ ·) acc).toList = acc.toList ++ (List.replicate k a.toList).flatten
  | 0, acc => by simp
  | k + 1, acc => by
    rw [List.replicate_succ, List.foldl_cons, foldl_app a k, List.replicate_succ, List.flatten_cons]
    simp
theorem op_rep_str : OpR X (binaryOp .Mult) (fun x y H Q => ∃ a k, x = .str a ∧ y = .int k ∧ (0 ≤ k ∧ k ≤ sizeLine ∧ a.length * k.toNat ≤ sizeLine) ∧ Q (.str (st (repS a.cps.toList k.toNat))) H) := by
  intro pins s σ H x y v u Q I rx ry h
  obtain ⟨a, k, rfl, rfl, ⟨h0, h1, h2⟩, q⟩ := h
  obtain ⟨t, rfl⟩ := rx
  obtain ⟨t', rfl⟩ := ry
  have hz := line_eq
  rw [hz] at h1 h2
  refine PySem.P.mul_str ?_ (fun g1 g2 => ?_) (fun g1 g2 => ?_) ?_
  · rw [decide_eq_false (by omega), decide_eq_false (by omega)]; rfl
  · have hk : k ≤ 16777216 := h1
    have hk1 : 1 ≤ k := by omega
    have hl : (a.length : Int) ≤ 16777216 := by
      have : a.length * 1 ≤ a.length * k.toNat := Nat.mul_le_mul_left _ (by omega)
      omega
    have : (16777216 : Int) ≤ (2 ^ 63 - 1) / k := by
      rw [Int.le_ediv_iff_mul_le (by omega)]
      have : 16777216 * k ≤ 16777216 * 16777216 := Int.mul_le_mul_of_nonneg_left hk (by omega)
      omega
    omega
  · unfold Builtin.Str.tooLong
    rw [decide_eq_false]
    rw [hz]
    omega
  · by_cases c0 : k < 1
    · rw [if_pos c0]
      have e : k.toNat = 0 := by omega
      have q' : Q (.str Str.empty) H := by
        rw [e] at q
        exact q
      exact ⟨by decide, .str Str.empty, H, I.tok _, ⟨_, rfl⟩, q'⟩
    · rw [if_neg c0]
      by_cases c1 : (k == 1 || a.length == 0) = true
      · rw [if_pos c1]
        refine ⟨.str a, H, I, ⟨t, rfl⟩, ?_⟩
        have e : st (repS a.cps.toList k.toNat) = a := by
          rw [Bool.or_eq_true] at c1
          rcases c1 with c1 | c1
          · have : k = 1 := eq_of_beq c1
            subst this
            show st (List.replicate 1 a.cps.toList).flatten = a
            simp [st_codes]
          · have e0 : a.length = 0 := eq_of_beq c1
            rw [len_cps] at e0
            have e1 : a.cps.toList = [] := List.eq_nil_of_length_eq_zero e0
            rw [e1]
            have : repS [] k.toNat = [] := by simp [repS]
            rw [this, ← e1]
            exact st_codes a
        rw [e] at q
        exact q
      · rw [if_neg c1]
        have e : (⟨(List.replicate k.toNat a.cps).foldl (· ++ ·) #[]⟩ : Str) = st (repS a.cps.toList k.toNat) := by
          have := foldl_app a.cps k.toNat #[]
          show Str.mk _ = Str.mk _
          congr 1
          apply Array.toList_inj.mp
          rw [this]
          simp [repS]
        rw [e]
        refine ⟨?_, .str _, H, I.tok _, ⟨_, rfl⟩, q⟩
        rw [len_st]
        unfold repS
        rw [List.length_flatten, List.map_replicate, List.sum_replicate_nat]
        rw [← len_cps, Nat.mul_comm, hz]
        exact h2
theorem y_mul : OpR X (binaryOp .Mult) rMul := by
  refine op_weak (op_mul.or op_rep_str) fun x y H Q q => ?_
  cases x <;> cases y <;> first | exact q.elim | skip
  · exact .inl ⟨_, _, rfl, rfl, q⟩
  · exact .inr ⟨_, _, rfl, rfl, q⟩
theorem y_mod : OpR X (binaryOp .Mod) rMod := by
  refine op_weak op_mod fun x y H Q q => ?_
  cases x <;> cases y <;> first | exact q.elim | skip
  exact ⟨_, _, rfl, rfl, q⟩
theorem y_fdiv : OpR X (binaryOp .FloorDiv) rDiv := by
  refine op_weak op_fdiv fun x y H Q q => ?_
  cases x <;> cases y <;> first | exact q.elim | skip
  exact ⟨_, _, rfl, rfl, q⟩
theorem y_pow : OpR X (binaryOp .Pow) rPow := by
  refine op_weak op_pow fun x y H Q q => ?_
  cases x <;> cases y <;> first | exact q.elim | skip
  exact ⟨_, _, rfl, rfl, q⟩
theorem cmp_weak {f : Value → Value → Sem Value} {p : Int → Int → Bool} (h : OpR X f (rI0 fun i j => .bl (p i j))) : OpR X f (rCmp p) := by
  refine op_weak h fun x y H Q q => ?_
  cases x <;> cases y <;> first | exact q.elim | skip
  exact ⟨_, _, rfl, rfl, q⟩
theorem y_lt : OpR X (compareOp .Lt) (rCmp fun i j => decide (i < j)) := cmp_weak op_lt
theorem y_le : OpR X (compareOp .LtE) (rCmp fun i j => decide (i ≤ j)) := cmp_weak op_le
theorem y_gt : OpR X (compareOp .Gt) (rCmp fun i j => decide (j < i)) := cmp_weak op_gt
theorem y_ge : OpR X (compareOp .GtE) (rCmp fun i j => decide (j ≤ i)) := cmp_weak op_ge
theorem y_eq {K : PySem.W.Frag} (hu : X.A.units + 64 < cLine) (hK : X.K = K := by rfl) : OpR X (compareOp .Eq) (rEqS K) := by
  subst hK
  refine op_weak (op_eq.or (op_eqD hu)) fun x y H Q q => ?_
  cases x <;> cases y <;> first
    | exact .inl q
    | exact .inl ⟨rfl, by simpa [rEqS] using q⟩
    | exact .inr q
theorem y_ne {K : PySem.W.Frag} (hu : X.A.units + 64 < cLine) (hK : X.K = K := by rfl) : OpR X (compareOp .NotEq) (rNeS K) := by
  subst hK
  refine op_weak (op_ne.or (op_neD hu)) fun x y H Q q => ?_
  cases x <;> cases y <;> first
    | exact .inl q
    | exact .inl ⟨rfl, by simpa [rNeS] using q⟩
    | exact .inr q
theorem y_in {K : PySem.W.Frag} (hK : X.K = K := by rfl) : OpR X (compareOp .In) (rInA K) := by
  subst hK
  refine op_weak op_in_seq fun x y H Q q => ?_
  cases y <;> first | exact q.elim | skip
  obtain ⟨xs, h1, h2, h3, h4⟩ := q
  exact ⟨_, xs, rfl, h1, h2, h3, h4⟩
theorem y_notin {K : PySem.W.Frag} (hK : X.K = K := by rfl) : OpR X (compareOp .NotIn) (rNotInA K) := by
  subst hK
  refine op_weak op_notIn_seq fun x y H Q q => ?_
  cases y <;> first | exact q.elim | skip
  obtain ⟨xs, h1, h2, h3, h4⟩ := q
  exact ⟨_, xs, rfl, h1, h2, h3, h4⟩
/-- a[i] by its kind -/
def rIxA (K : PySem.W.Frag) (x y : V) (H : Hp) (Q : VK) : Prop := match x, y with
  | .ref p, .int i => ∃ xs v, (SqL K H p xs ∨ SqT K H p xs) ∧ atI xs i = some v ∧ Q v H
  | .str z, .int i => ∃ c, z.length ≤ sizeLine ∧ atI z.cps.toList i = some c ∧ Q (.str (st [c])) H
  | _, _ => False
theorem ix_weak {r r' : R2} (h : IxR X r) (w : ∀ x y H Q, r' x y H Q → r x y H Q) : IxR X r' := fun a b pins s σ H x y v u Q I rx ry q => h a b pins s σ H x y v u Q I rx ry (w x y H Q q)
theorem y_ix {K : PySem.W.Frag} (hK : X.K = K := by rfl) : IxR X (rIxA K) := by
  subst hK
  refine ix_weak ix_seq fun x y H Q q => ?_
  cases x <;> cases y <;> first | exact q.elim | skip
  · obtain ⟨c, h1, h2, h3⟩ := q
    exact .inr (.inr ⟨_, _, c, rfl, rfl, h1, h2, h3⟩)
  · obtain ⟨xs, v, h1, h2, h3⟩ := q
    rcases h1 with h1 | h1
    · exact .inl ⟨_, xs, _, v, rfl, rfl, h1, h2, h3⟩
    · exact .inr (.inl ⟨_, xs, _, v, rfl, rfl, h1, h2, h3⟩)
/-- a[i:j] by its kind -/
def rSlA (K : PySem.W.Frag) (x : V) (lo hi : Option Int) (H : Hp) (Q : VK) : Prop := match x with
  | .str z => z.length ≤ sizeLine ∧ Q (.str (cutS z lo hi)) H
  | .ref a => ∃ xs, SqL K H a xs ∧ ∀ p, H p = none → Q (.ref p) (upd H p (.lst (cutV xs lo hi)))
  | _ => False
theorem y_sl {K : PySem.W.Frag} (hK : X.K = K := by rfl) : SlR X (rSlA K) := by
  subst hK
  intro pins s σ H x v vl vu lo hi sl Q I rx hs pl pu h
  cases x <;> first | exact h.elim | skip
  · exact sl_str pins s σ H _ v vl vu lo hi sl Q I rx hs pl pu ⟨_, rfl, h⟩
  · obtain ⟨xs, h1, h2⟩ := h
    exact sl_list pins s σ H _ v vl vu lo hi sl Q I rx hs pl pu ⟨_, xs, rfl, h1, h2⟩

/-! ### built-ins -/
def rLen (K : PySem.W.Frag) (xs : List V) (H : Hp) (Q : VK) : Prop := match xs with
  | [.str z] => z.length ≤ sizeLine ∧ Q (.int (z.cps.toList.length : Nat)) H
  | [.ref p] => ∃ ys, (SqL K H p ys ∨ SqT K H p ys) ∧ Q (.int (ys.length : Nat)) H
  | _ => False
theorem call_weak {f : Value} {r r' : List V → Hp → VK → Prop} (h : CallR X f r) (w : ∀ x H Q, r' x H Q → r x H Q) : CallR X f r' := fun pins s σ H x us Q I rx q => h pins s σ H x us Q I rx (w x H Q q)
theorem y_len {K : PySem.W.Frag} (hK : X.K = K := by rfl) : CallR X (.builtin "len") (rLen K) := by
  subst hK
  refine call_weak call_len fun x H Q q => ?_
  unfold rLen at q
  split at q
  · rename_i z
    refine ⟨.str z, z.length, rfl, ⟨q.1, rfl⟩, ?_⟩
    rw [len_cps]
    exact q.2
  · rename_i p
    obtain ⟨ys, h, q⟩ := q
    refine ⟨.ref p, ys.length, rfl, ?_, q⟩
    rcases h with h | h
    · exact .inl ⟨ys, h, rfl⟩
    · exact .inr ⟨ys, h, rfl⟩
  · exact q.elim
def rOrd (xs : List V) (H : Hp) (Q : VK) : Prop := match xs with
  | [.str z] => z.cps.toList.length = 1 ∧ Q (.int (z.cps.toList.headD 0 : Nat)) H
  | _ => False
theorem y_ord : CallR X (.builtin "ord") rOrd := by
  refine call_weak call_ord fun x H Q q => ?_
  unfold rOrd at q
  split at q
  · rename_i z
    refine ⟨z, rfl, by rw [len_cps]; exact q.1, ?_⟩
    have e : z.cps.getD 0 0 = z.cps.toList.headD 0 := by
      obtain ⟨⟨l⟩⟩ := z
      cases l <;> simp
    rw [e]
    exact q.2
  · exact q.elim
def rMin (xs : List V) (H : Hp) (Q : VK) : Prop := match xs with
  | [.int i, .int j] => Q (.int (min i j)) H
  | _ => False
theorem y_min (hc : X.calm = true) : CallR X (.builtin "min") rMin := by
  refine call_weak (call_min2 hc) fun x H Q q => ?_
  unfold rMin at q
  split at q
  · rename_i i j
    refine ⟨i, j, rfl, ?_⟩
    have e : (if j < i then j else i) = min i j := by
      split <;> omega
    rw [e]
    exact q
  · exact q.elim
/-- isinstance(x, T) of a scalar and a built-in type -/
def tyN (v : V) : Option String := match v with
  | .non => some "NoneType"
  | .bl _ => some "bool"
  | .int _ => some "int"
  | .str _ => some "str"
  | _ => none
/-- the built-in type of a value -/
def TyS (H : Hp) (v : V) (t : String) : Prop := tyN v = some t ∨ (∃ p xs, v = .ref p ∧ H p = some (.lst xs) ∧ t = "list") ∨ (∃ p xs, v = .ref p ∧ H p = some (.tup xs) ∧ t = "tuple") ∨ ∃ p kvs, v = .ref p ∧ H p = some (.dK kvs) ∧ t = "dict"
def rIsiS (xs : List V) (H : Hp) (Q : VK) : Prop := match xs with
  | [x, .ty n] => ∃ a b, TyS H x a ∧ kitB a n = some b ∧ Q (.bl b) H
  | _ => False
theorem TyS.base {K : PySem.W.Frag} {H : Hp} {x : V} {t : String} (h : TyS H x t) : TyX K H x (.type t) := by
  rcases h with h1 | ⟨p, xs, rfl, h, rfl⟩ | ⟨p, xs, rfl, h, rfl⟩ | ⟨p, xs, rfl, h, rfl⟩
  · cases x <;> first | (cases h1; done) | skip
    all_goals (cases h1; refine .base ?_; constructor)
  · exact .base (.lst h)
  · exact .base (.tup h)
  · exact .base (.dK h)
theorem y_isi : CallR X (.builtin "isinstance") rIsiS := by
  refine call_weak call_isi fun x H Q q => ?_
  unfold rIsiS at q
  split at q
  · rename_i x n
    obtain ⟨a, b, h1, h2, q⟩ := q
    exact ⟨x, .ty n, .type a, .type n, b, rfl, .ty n, h1.base, kit_ty h2, q⟩
  · exact q.elim
theorem isi_mk {x : V} {n a : String} {b : Bool} {H : Hp} {Q : VK} (h1 : tyN x = some a) (h2 : kitB a n = some b) : rIsiS [x, .ty n] H Q = Q (.bl b) H := by
  apply propext
  show (∃ a b, TyS H x a ∧ kitB a n = some b ∧ Q (.bl b) H) ↔ _
  constructor
  · rintro ⟨a', b', h1', h2', q⟩
    rcases h1' with h1' | ⟨p, xs, rfl, _⟩ | ⟨p, xs, rfl, _⟩ | ⟨p, xs, rfl, _⟩
    · rw [h1] at h1'
      cases h1'
      rw [h2] at h2'
      cases h2'
      exact q
    all_goals cases h1
  · intro q
    exact ⟨a, b, .inl h1, h2, q⟩
theorem isi_lst {p : Addr} {xs : List V} {n : String} {b : Bool} {H : Hp} {Q : VK} (h : H p = some (.lst xs)) (h2 : kitB "list" n = some b) (q : Q (.bl b) H) : rIsiS [.ref p, .ty n] H Q :=
  ⟨"list", b, .inr (.inl ⟨p, xs, rfl, h, rfl⟩), h2, q⟩
theorem isi_tup {p : Addr} {xs : List V} {n : String} {b : Bool} {H : Hp} {Q : VK} (h : H p = some (.tup xs)) (h2 : kitB "tuple" n = some b) (q : Q (.bl b) H) : rIsiS [.ref p, .ty n] H Q :=
  ⟨"tuple", b, .inr (.inr (.inl ⟨p, xs, rfl, h, rfl⟩)), h2, q⟩
/-- is, of a value and None, True or False -/
def rIs (x y : V) (H : Hp) (Q : VK) : Prop := match y with
  | .non => Q (.bl (decide (x = .non))) H
  | .bl b => (∀ n, x ≠ .ty n) ∧ Q (.bl (decide (x = .bl b))) H
  | _ => False
def rIsNot (x y : V) (H : Hp) (Q : VK) : Prop := match y with
  | .non => Q (.bl (!decide (x = .non))) H
  | _ => False
section
variable {H : Hp} {Q : VK} {i : Int} {s : Str} {a b : Bool} {p : Addr}
theorem rIs_1 : rIs .non .non H Q = Q (.bl true) H := rfl
theorem rIs_2 : rIs (.int i) .non H Q = Q (.bl false) H := rfl
theorem rIs_3 : rIs (.str s) .non H Q = Q (.bl false) H := rfl
theorem rIs_4 : rIs (.bl a) .non H Q = Q (.bl false) H := rfl
theorem rIs_5 : rIs (.ref p) .non H Q = Q (.bl false) H := rfl
theorem rIs_6 : rIs .non (.bl b) H Q = Q (.bl false) H := by simp [rIs]
theorem rIs_7 : rIs (.int i) (.bl b) H Q = Q (.bl false) H := by simp [rIs]
theorem rIs_8 : rIs (.str s) (.bl b) H Q = Q (.bl false) H := by simp [rIs]
theorem rIs_9 : rIs (.bl a) (.bl b) H Q = Q (.bl (decide (a = b))) H := by simp [rIs]
theorem rIs_10 : rIs (.ref p) (.bl b) H Q = Q (.bl false) H := by simp [rIs]
theorem rIsN_1 : rIsNot .non .non H Q = Q (.bl false) H := rfl
theorem rIsN_2 : rIsNot (.int i) .non H Q = Q (.bl true) H := rfl
theorem rIsN_3 : rIsNot (.str s) .non H Q = Q (.bl true) H := rfl
theorem rIsN_4 : rIsNot (.bl a) .non H Q = Q (.bl true) H := rfl
theorem rIsN_5 : rIsNot (.ref p) .non H Q = Q (.bl true) H := rfl
end
theorem y_is : OpR X (compareOp .Is) rIs := by
  intro pins s σ H x y v u Q I rx ry h
  cases y <;> first | exact h.elim | skip
  · exact op_isN pins s σ H x _ v u Q I rx ry ⟨rfl, h⟩
  · rename_i b
    obtain ⟨hn, q⟩ := h
    cases (show u = Value.bool b from ry)
    cases x with
    | bl a =>
      cases (show v = Value.bool a from rx)
      by_cases e : a = b
      · subst e
        exact wpAny_is_self rfl (fin_bl I q (by simp))
      · exact wpAny_is_other rfl (fun z => e (Value.bool.inj z)) (fin_bl I q (by simp [e]))
    | non => cases rx; exact wpAny_is_other rfl (fun z => nomatch z) (fin_bl I q (by simp))
    | int i => obtain ⟨t, rfl⟩ := rx; exact wpAny_is_other rfl (fun z => nomatch z) (fin_bl I q (by simp))
    | str i => obtain ⟨t, rfl⟩ := rx; exact wpAny_is_other rfl (fun z => nomatch z) (fin_bl I q (by simp))
    | byt i => obtain ⟨t, rfl⟩ := rx; exact wpAny_is_other rfl (fun z => nomatch z) (fin_bl I q (by simp))
    | flt i => obtain ⟨t, rfl⟩ := rx; exact wpAny_is_other rfl (fun z => nomatch z) (fin_bl I q (by simp))
    | ref i => cases rx; exact wpAny_is_other rfl (fun z => nomatch z) (fin_bl I q (by simp))
    | ty n => exact absurd rfl (hn n)
theorem y_isnot : OpR X (compareOp .IsNot) rIsNot := by
  intro pins s σ H x y v u Q I rx ry h
  cases y <;> first | exact h.elim | skip
  exact op_notN pins s σ H x _ v u Q I rx ry ⟨rfl, h⟩
section
variable {H : Hp} {Q : VK}
theorem isi_int_int {i : Int} : rIsiS [.int i, .ty "int"] H Q = Q (.bl true) H := isi_mk rfl (by decide +kernel)
theorem isi_int_bool {i : Int} : rIsiS [.int i, .ty "bool"] H Q = Q (.bl false) H := isi_mk rfl (by decide +kernel)
theorem isi_int_str {i : Int} : rIsiS [.int i, .ty "str"] H Q = Q (.bl false) H := isi_mk rfl (by decide +kernel)
theorem isi_bl_int {i : Bool} : rIsiS [.bl i, .ty "int"] H Q = Q (.bl true) H := isi_mk rfl (by decide +kernel)
theorem isi_bl_bool {i : Bool} : rIsiS [.bl i, .ty "bool"] H Q = Q (.bl true) H := isi_mk rfl (by decide +kernel)
theorem isi_str_str {i : Str} : rIsiS [.str i, .ty "str"] H Q = Q (.bl true) H := isi_mk rfl (by decide +kernel)
theorem isi_str_int {i : Str} : rIsiS [.str i, .ty "int"] H Q = Q (.bl false) H := isi_mk rfl (by decide +kernel)
end
theorem same_new {H : Hp} {p : Addr} {o : HO} (h : H p = none) : Same H (upd H p o) := fun b x e => by
  rw [upd_ne (ne_of_none e h)]
  exact e
theorem upd_of {H : Hp} {a p : Addr} {o o' : HO} (h : H a = some o) (hp : H p = none) : upd H p o' a = some o := by
  rw [upd_ne (ne_of_none h hp)]
  exact h
theorem same_upd {H H' : Hp} {p : Addr} {o : HO} (s : Same H H') (h : H' p = none) : Same H (upd H' p o) := s.trans (same_new h)
/-- a comprehension whose items are known: over any walk -/
theorem wipe_one {σ : L2.St} {s : Nat} {x : V} : wipe ((wipe σ [s]).set s (some x)) [s] = wipe σ [s] := by
  show (((σ.set s none).set s (some x)).set s none) = σ.set s none
  rw [List.set_set, List.set_set]
theorem set_wipe {σ : L2.St} {s : Nat} {x : V} : (wipe σ [s]).set s (some x) = σ.set s (some x) := by
  show ((σ.set s none).set s (some x)) = σ.set s (some x)
  rw [List.set_set]
theorem fm_succ {α : Type} (f : Nat → Option α) (i : Nat) : (List.range (i + 1)).filterMap f = (List.range i).filterMap f ++ (f i).toList := by
  rw [List.range_succ, List.filterMap_append]
  cases e : f i <;> simp [e]
theorem lc_gen {J : It} {n s : Nat} {G : Hp → Prop} {xs : Nat → V} (w : Walk J n G (fun i H x H' => H' = H ∧ x = xs i)) {tt : TT} {te : TE} {σ : L2.St} {D : Addr} {H1 : Hp} {Qd : Hp → Prop} (f : Nat → Option V) (hD : H1 D = none) (hn : n < 16777216)
    (hG : ∀ H, Same H1 H → G H)
    (hs : ∀ i H, i < n → Same H1 H → ∀ (Ny : V → Hp → Prop) (Nn : Hp → Prop), (∀ y H4, Same H H4 → f i = some y → Ny y H4) → (∀ H3, Same H H3 → f i = none → Nn H3) → tt (σ.set s (some (xs i))) H fun b H3 => br b (te (σ.set s (some (xs i))) H3 Ny) (Nn H3))
    (hd : ∀ H, Same H1 H → H D = some (.lst ((List.range n).filterMap f)) → Qd H) : lcW J (gName s) tt te [s] σ D H1 Qd := by
  have hl : ∀ i, ((List.range i).filterMap f).length ≤ i := fun i => Nat.le_trans (List.length_filterMap_le _ _) (by rw [List.length_range]; exact Nat.le_refl _)
  have up := fm_succ f
  refine lc_it w (fun i H => Same H1 H ∧ H D = some (.lst ((List.range i).filterMap f))) ⟨same_new hD, upd_same⟩ (fun i H _ p => hG H p.1) (fun i x H H' hi p y => ?_) (fun H p => hd H p.1 p.2)
  obtain ⟨rfl, rfl⟩ := y
  obtain ⟨sm, hH⟩ := p
  refine ⟨wipe_one, ?_⟩
  rw [set_wipe]
  refine hs i H' hi sm _ _ (fun y H4 s4 e => ?_) (fun H3 s3 e => ?_)
  · refine ⟨_, s4 _ _ hH, by have := hl i; rw [line_eq]; omega, ?_⟩
    refine ⟨fun b o hb => ?_, ?_⟩
    · have nb : b ≠ D := fun z => by
        rw [z, hD] at hb
        cases hb
      rw [upd_ne nb]
      exact s4 _ _ (sm _ _ hb)
    · rw [upd_same, up, e]
      rfl
  · refine ⟨sm.trans s3, ?_⟩
    rw [up, e]
    rw [show (none : Option V).toList = [] from rfl, List.append_nil]
    exact s3 _ _ hH
theorem lc_rng {lo : Int} {n s : Nat} {tt : TT} {te : TE} {σ : L2.St} {D : Addr} {H1 : Hp} {Qd : Hp → Prop} (f : Nat → Option V) (hD : H1 D = none) (hn : n < 16777216)
    (hs : ∀ i H, i < n → Same H1 H → ∀ (Ny : V → Hp → Prop) (Nn : Hp → Prop), (∀ y H4, Same H H4 → f i = some y → Ny y H4) → (∀ H3, Same H H3 → f i = none → Nn H3) → tt (σ.set s (some (.int (lo + i)))) H fun b H3 => br b (te (σ.set s (some (.int (lo + i)))) H3 Ny) (Nn H3))
    (hd : ∀ H, Same H1 H → H D = some (.lst ((List.range n).filterMap f)) → Qd H) : lcW (Itr lo n) (gName s) tt te [s] σ D H1 Qd :=
  lc_gen (G := fun _ => True) (xs := fun i => .int (lo + i)) ⟨fun _ _ h _ => h, fun _ _ => Nat.le_refl _, fun _ _ _ _ _ _ y => y⟩ f hD hn (fun _ _ => trivial) hs hd
theorem lc_lst {K : PySem.W.Frag} {a : Addr} {xs : List V} {s : Nat} {tt : TT} {te : TE} {σ : L2.St} {D : Addr} {H1 : Hp} {Qd : Hp → Prop} (f : V → Option V) (hD : H1 D = none) (ha : SqL K H1 a xs) (hn : xs.length < 16777216)
    (hs : ∀ (i : Nat) (x : V) (H : Hp), xs[i]? = some x → Same H1 H → ∀ (Ny : V → Hp → Prop) (Nn : Hp → Prop), (∀ y H4, Same H H4 → f x = some y → Ny y H4) → (∀ H3, Same H H3 → f x = none → Nn H3) → tt (σ.set s (some x)) H fun b H3 => br b (te (σ.set s (some x)) H3 Ny) (Nn H3))
    (hd : ∀ H, Same H1 H → H D = some (.lst (xs.filterMap f)) → Qd H) : lcW (Itl K a) (gName s) tt te [s] σ D H1 Qd := by
  have w : Walk (Itl K a) xs.length (fun H => SqL K H a xs) (fun i H x H' => H' = H ∧ x = xs.getD i .non) :=
    ⟨fun i H hi g => ⟨xs, xs[i], g, List.getElem?_eq_getElem hi⟩, fun H g => ⟨xs, g, Nat.le_refl _⟩, fun i H x H' hi g y => by
      refine ⟨y.1, ?_⟩
      have := y.2 xs g
      rw [List.getD_eq_getElem?_getD, this]
      rfl⟩
  refine lc_gen w (fun i => f (xs.getD i .non)) hD hn (fun H s4 => Same.seq s4 ha) (fun i H hi sm Ny Nn h1 h2 => ?_) (fun H sm h => hd H sm ?_)
  · exact hs i _ H (by rw [List.getD_eq_getElem?_getD, List.getElem?_eq_getElem hi]; rfl) sm Ny Nn h1 h2
  · rw [h]
    congr 2
    have e : xs = (List.range xs.length).map fun i => xs.getD i .non := by
      apply List.ext_getElem
      · simp
      · intro i h1 h2
        simp [List.getD_eq_getElem?_getD, h1]
    conv => rhs; rw [e]
    rw [List.filterMap_map]
    rfl
/-- a comprehension over a zip of two lists -/
theorem set_pair {σ : L2.St} {s t : Nat} {x y : V} (h : s ≠ t) : (((wipe σ [s, t]).set s (some x)).set t (some y)) = (σ.set s (some x)).set t (some y) := by
  show ((((σ.set t none).set s none).set s (some x)).set t (some y)) = (σ.set s (some x)).set t (some y)
  rw [List.set_set, List.set_comm _ _ h, List.set_set, List.set_comm _ _ h.symm]
theorem wipe_pair {σ : L2.St} {s t : Nat} {x y : V} (h : s ≠ t) : wipe ((σ.set s (some x)).set t (some y)) [s, t] = wipe σ [s, t] := by
  show ((((σ.set s (some x)).set t (some y)).set t none).set s none) = ((σ.set t none).set s none)
  rw [List.set_set, List.set_comm _ _ h, List.set_set]
theorem lc_zip {K : PySem.W.Frag} {a b : Addr} {xs ys : List V} {s t : Nat} {tt : TT} {te : TE} {σ : L2.St} {D : Addr} {H1 : Hp} {Qd : Hp → Prop} (f : V → V → Option V) (hst : s ≠ t) (hD : H1 D = none) (ha : SqL K H1 a xs) (hb : SqL K H1 b ys) (n : Nat) (hn : n = min xs.length ys.length) (hz : n < 16777216)
    (hs : ∀ (i : Nat) (x y : V) (H : Hp), xs[i]? = some x → ys[i]? = some y → Same H1 H → ∀ (Ny : V → Hp → Prop) (Nn : Hp → Prop), (∀ v H4, Same H H4 → f x y = some v → Ny v H4) → (∀ H3, Same H H3 → f x y = none → Nn H3) → tt ((σ.set s (some x)).set t (some y)) H fun c H3 => br c (te ((σ.set s (some x)).set t (some y)) H3 Ny) (Nn H3))
    (hd : ∀ H, Same H1 H → H D = some (.lst ((List.range n).filterMap fun i => f (xs.getD i .non) (ys.getD i .non))) → Qd H) : lcW (Itz K a b) (gTup K 2 (gCons (gName s) (gCons (gName t) gNil))) tt te [s, t] σ D H1 Qd := by
  have hl : ∀ i, ((List.range i).filterMap fun i => f (xs.getD i .non) (ys.getD i .non)).length ≤ i := fun i => Nat.le_trans (List.length_filterMap_le _ _) (by rw [List.length_range]; exact Nat.le_refl _)
  have up := fun i => fm_succ (fun i => f (xs.getD i .non) (ys.getD i .non)) i
  refine lc_it (walk_zip hn) (fun i H => Same H1 H ∧ H D = some (.lst ((List.range i).filterMap fun i => f (xs.getD i .non) (ys.getD i .non)))) ⟨same_new hD, upd_same⟩ (fun i H _ p => ⟨p.1.seq ha, p.1.seq hb⟩) (fun i v H H' hi p hy => ?_) (fun H p => hd H p.1 p.2)
  obtain ⟨T, x, y, rfl, hT, rfl, hx, hy⟩ := hy
  obtain ⟨sm, hH⟩ := p
  have sT : Same H (upd H T (.tup [x, y])) := same_new hT
  refine ⟨T, [x, y], rfl, SqT.of upd_same, rfl, x, [y], rfl, y, [], rfl, rfl, ?_⟩
  rw [set_pair hst]
  refine ⟨by rw [wipe_pair hst], ?_⟩
  have gx : xs.getD i .non = x := by
    rw [List.getD_eq_getElem?_getD]
    show (xs[i]?).getD .non = x
    rw [show xs[i]? = some x from hx]
    rfl
  have gy : ys.getD i .non = y := by
    rw [List.getD_eq_getElem?_getD]
    rw [show ys[i]? = some y from hy]
    rfl
  refine hs i x y _ hx hy (sm.trans sT) _ _ (fun v H4 s4 e => ?_) (fun H3 s3 e => ?_)
  · refine ⟨_, s4 _ _ (sT _ _ hH), by have := hl i; rw [line_eq]; omega, ?_⟩
    refine ⟨fun c o hc => ?_, ?_⟩
    · have nb : c ≠ D := fun z => by
        rw [z, hD] at hc
        cases hc
      rw [upd_ne nb]
      exact s4 _ _ (sT _ _ (sm _ _ hc))
    · rw [upd_same, up i, gx, gy, e]
      rfl
  · refine ⟨sm.trans (sT.trans s3), ?_⟩
    rw [up i, gx, gy, e]
    rw [show (none : Option V).toList = [] from rfl, List.append_nil]
    exact s3 _ _ (sT _ _ hH)
/-- {k: v for ..} over a range, the keys new ints -/
theorem dc_rng {lo : Int} {n s : Nat} {tk tv : TE} {σ : L2.St} {D : Addr} {H1 : Hp} {Qd : Hp → Prop} (key : Nat → Key) (val : Nat → V) (hk : ∀ i j, key i = key j → i = j) (hD : H1 D = none) (hn : n < 16777216)
    (hs : ∀ i H, i < n → Same H1 H → ∀ (N : V → V → Hp → Prop), (∀ H4, Same H H4 → N (kV (key i)) (val i) H4) → tk (σ.set s (some (.int (lo + i)))) H fun y H3 => tv (σ.set s (some (.int (lo + i)))) H3 fun z H4 => N y z H4)
    (hd : ∀ H, Same H1 H → H D = some (.dK ((List.range n).map fun i => (key i, val i))) → Qd H) : dcW (Itr lo n) (gName s) tYes tk tv [s] σ D H1 Qd := by
  have nov : ∀ i, valV ((List.range i).map fun j => (key j, val j)) (key i) = none := fun i => by
    cases e : valV ((List.range i).map fun j => (key j, val j)) (key i) with
    | none => rfl
    | some v =>
      exfalso
      have q : (((List.range i).map fun j => (key j, val j)).any fun kv => decide (kv.1 = key i)) = true := by
        rw [valV_any, e]
        rfl
      obtain ⟨p, hp, e2⟩ := List.any_eq_true.mp q
      obtain ⟨j, hj, rfl⟩ := List.mem_map.mp hp
      have := hk _ _ (of_decide_eq_true e2)
      rw [List.mem_range] at hj
      omega
  refine ⟨fun i m H => m = n - i ∧ i ≤ n ∧ Same H1 H ∧ H D = some (.dK ((List.range i).map fun j => (key j, val j))), ⟨n, by simp, Nat.zero_le _, same_new hD, upd_same⟩, ?_⟩
  rintro i m H ⟨rfl, hi, sm, hH⟩
  by_cases hlt : i < n
  · refine .inr ⟨hlt, fun H' => Same H1 H' ∧ H' D = some (.dK ((List.range (i + 1)).map fun j => (key j, val j))), fun H' p' => ⟨n - (i + 1), by omega, rfl, hlt, p'.1, p'.2⟩, ?_⟩
    rintro x H' ⟨rfl, rfl⟩
    refine ⟨wipe_one, ?_⟩
    rw [set_wipe]
    show tk _ _ _
    refine hs i H' hlt sm (fun y z H5 => ∃ kvs k, y = kV k ∧ H5 D = some (.dK kvs) ∧ kvs.length < sizeLine ∧ Same H1 (upd H5 D (.dK (putK kvs k z))) ∧ (upd H5 D (.dK (putK kvs k z))) D = some (.dK ((List.range (i + 1)).map fun j => (key j, val j)))) fun H4 s4 => ?_
    refine ⟨_, key i, rfl, s4 _ _ hH, by rw [List.length_map, List.length_range, line_eq]; omega, fun b o hb => ?_, ?_⟩
    · have nb : b ≠ D := fun z => by
        rw [z, hD] at hb
        cases hb
      rw [upd_ne nb]
      exact s4 _ _ (sm _ _ hb)
    · rw [upd_same, putK_new _ (nov i), List.range_succ, List.map_append]
      rfl
  · have e : i = n := by omega
    subst e
    exact .inl ⟨Nat.le_refl _, hd H sm hH⟩
theorem valV_rng {n i : Nat} {key : Nat → Key} {val : Nat → V} (hk : ∀ i j, key i = key j → i = j) (hi : i < n) : valV ((List.range n).map fun j => (key j, val j)) (key i) = some (val i) := by
  induction n with
  | zero => omega
  | succ n ih =>
    rw [List.range_succ, List.map_append]
    by_cases e : i < n
    · have h := ih e
      unfold valV at h ⊢
      rw [List.find?_append]
      cases q : ((List.range n).map fun j => (key j, val j)).find? fun kv => decide (kv.1 = key i) with
      | none => rw [q] at h; cases h
      | some p => rw [q] at h; exact h
    · have e2 : i = n := by omega
      subst e2
      unfold valV
      rw [List.find?_append]
      have q : ((List.range i).map fun j => (key j, val j)).find? (fun kv => decide (kv.1 = key i)) = none := by
        rw [List.find?_eq_none]
        intro p hp
        obtain ⟨j, hj, rfl⟩ := List.mem_map.mp hp
        rw [List.mem_range] at hj
        intro z
        have := hk _ _ (of_decide_eq_true z)
        omega
      rw [q]
      simp
theorem cut_mid {z : List Nat} {a b : Nat} (h : a ≤ b) (hb : b ≤ z.length) : cutS (st z) (some (a : Int)) (some (b : Int)) = st ((z.drop a).take (b - a)) := by
  unfold cutS
  rw [codes_st, HT.sIx_nat, HT.sIx_nat, len_st, Nat.min_eq_left (Nat.le_trans h hb), Nat.min_eq_left hb]
  rfl
abbrev natV (n : Nat) : V := .int (n : Int)
abbrev txtV (z : List Nat) : V := .str (st z)
theorem inV_txt (z : List Nat) (zs : List (List Nat)) : inV (txtV z) (zs.map txtV) = decide (z ∈ zs) := by
  unfold inV
  rw [List.any_map, Bool.eq_iff_iff, List.any_eq_true, decide_eq_true_eq]
  constructor
  · rintro ⟨y, hy, e⟩
    have e2 : (st y == st z) = true := e
    have := st_inj.mp (eq_of_beq e2)
    rw [← this]
    exact hy
  · intro h
    exact ⟨z, h, (beq_self_eq_true (st z) : (st z == st z) = true)⟩
theorem flat_txt (zs : List (List Nat)) : (zs.map txtV).all flatV = true := by
  rw [List.all_map, List.all_eq_true]
  intro _ _
  rfl
theorem plain_nat (zs : List Nat) : (zs.map natV).all plainV = true := by
  rw [List.all_map, List.all_eq_true]
  intro _ _
  rfl
theorem join_txt (zs : List (List Nat)) : Txt.join (st []) (zs.map st) = st zs.flatten := by
  have h : Txt.join (st []) (zs.map st) = st (TL.joinL [] zs) := SX.join_S [] zs
  rw [h]
  congr 1
  clear h
  induction zs with
  | nil => rfl
  | cons z r ih =>
    cases r with
    | nil => simp [TL.joinL]
    | cons y r =>
      show z ++ ([] ++ TL.joinL [] (y :: r)) = z ++ (y :: r).flatten
      rw [List.nil_append, ih]
theorem cutV_one (xs : List V) : cutV xs (some 1) none = xs.drop 1 := by
  unfold cutV
  rw [HT.sIx_none, show (some (1 : Int)) = some ((1 : Nat) : Int) from rfl, HT.sIx_nat]
  rcases xs with _ | ⟨x, r⟩
  · rfl
  · rw [show min 1 (x :: r).length = 1 by rw [List.length_cons]; omega]
    rw [List.take_of_length_le]
    rw [List.length_drop]
    exact Nat.le_refl _
/-- a list's neighbours -/
def pairsOf {β : Type} (g : Nat → Nat → Option β) : List Nat → List β
  | a :: b :: r => (g a b).toList ++ pairsOf g (b :: r)
  | _ => []
theorem pairs_range {β γ : Type} (g : Nat → Nat → Option β) (k : β → γ) (F : V → V → Option γ) (hF : ∀ a b, F (natV a) (natV b) = (g a b).map k) : ∀ B : List Nat, ((List.range (B.length - 1)).filterMap fun i => F ((B.map natV).getD i .non) (((B.map natV).drop 1).getD i .non)) = (pairsOf g B).map k
  | [] => rfl
  | [_] => rfl
  | a :: b :: r => by
    have ih := pairs_range g k F hF (b :: r)
    rw [show (a :: b :: r).length - 1 = (b :: r).length - 1 + 1 by simp, List.range_succ_eq_map, List.filterMap_cons]
    have e0 : F (((a :: b :: r).map natV).getD 0 .non) ((((a :: b :: r).map natV).drop 1).getD 0 .non) = (g a b).map k := hF a b
    have e1 : ((List.range ((b :: r).length - 1)).map Nat.succ).filterMap (fun i => F (((a :: b :: r).map natV).getD i .non) ((((a :: b :: r).map natV).drop 1).getD i .non)) = (pairsOf g (b :: r)).map k := by
      rw [List.filterMap_map, ← ih]
      rfl
    rw [e0, e1]
    show _ = ((g a b).toList ++ pairsOf g (b :: r)).map k
    cases g a b <;> simp
/-- a script's cell, 0 behind its end -/
def cel (ns : List Int) (j : Nat) : Int := ns.getD j 0
theorem atI_map {α : Type} (f : α → V) (ns : List α) {j : Nat} {x : α} (h : ns[j]? = some x) : atI (ns.map f) (j : Int) = some (f x) := atI_nat (by rw [List.getElem?_map, h]; rfl)
theorem cel_in {ns : List Int} {j : Nat} (h : j < ns.length) : ns[j]? = some (cel ns j) := by
  unfold cel
  rw [List.getD_eq_getElem?_getD, List.getElem?_eq_getElem h]
  rfl
theorem cel_out {ns : List Int} {j : Nat} (h : ¬ j < ns.length) : cel ns j = 0 := by
  unfold cel
  rw [List.getD_eq_getElem?_getD, List.getElem?_eq_none (by omega)]
  rfl
end
end Y
namespace My
open PySem L2 Y
local macro_rules | `(tactic| walk_at "ev") => `(tactic| try simp only [L2.start, List.map_cons, List.map_nil, List.length_cons, List.length_nil, Nat.reduceAdd, Nat.reduceSub, List.replicate_succ, List.replicate_zero, List.cons_append, List.nil_append, List.append_nil,
  tVar_ap, look_some, List.getElem?_cons_zero, List.getElem?_cons_succ, List.set_cons_zero, List.set_cons_succ, tC_ap, tSeq_ap, tNext_ap, tAsg_ap, gName_ap, tRet_ap, tRetN_ap, tDrop_ap, tBreak_ap, tCont_ap, tYes_ap, tLc1_ap, tLc2_ap, tLcL_ap, tLcZ_ap, tForZ_ap, tDc2_ap, tDGet_ap, tBM_ap, tM1_ap, emp_st, rIs_1, rIs_2, rIs_3, rIs_4, rIs_5, rIs_6, rIs_7, rIs_8, rIs_9, rIs_10, rIsN_1, rIsN_2, rIsN_3, rIsN_4, rIsN_5, tOp_ap, tUn_ap, tNil_ap, tCons_ap, tCB_ap, tCall_ap, tLst_ap, tTup_ap, tSl_ap, tNoPart_ap, tPart_ap,
  asInt_int, asBl_bl, isi_int_int, isi_int_bool, isi_bl_int, isi_bl_bool, isi_str_str, isi_str_int, isi_int_str, asStr_str, asRef_ref, br_t, br_f, brS_t, brS_f, tIfS_ap, brE_t, brE_f, tIf_ap, tAndV_ap, tOrV_ap, tNotV_ap, brT_t, brT_f, tK_ap, tAnd_ap, tOr_ap, tNot_ap, tB_ap, tTest_ap, tFor1_ap, tFor2_ap, tForS_ap, tForL_ap, rng1_ap, rng2_ap,
  Y.rAdd, Y.rSub, Y.rMul, Y.rMod, Y.rDiv, Y.rPow, Y.rCmp, Y.rEqS, Y.rNeS, Y.rInA, Y.rNotInA, Y.rIxA, Y.rSlA, Y.rLen, Y.rOrd, Y.rMin, codes_st, len_st, one_st, mk_st, Bool.not_true, Bool.not_false, cxOf_K, line_eq, Nat.reduceLeDiff, Nat.reduceLT, Int.reduceLT, Int.reduceLE, Int.reduceNeg, Int.reducePow, CDiv, CMul, CPow, Int.reduceAbs, Int.reduceToNat, Nat.reducePow, true_and, and_true, or_true, true_or, decide_eq_true_eq, decide_true, decide_false])
def topS (i : Nat) : Stmt := PySem.Challenge.pw_chunkshelf_k04_whole_few_altered.main.body.getD i (.Pass ⟨0, 0, 0, 0⟩)
abbrev s_weight : Stmt := topS 4
abbrev N_weight : List Str := ["signs", "total", "sign"]
theorem sc_weight : FnScope N_weight ["signs"] (defScope s_weight) := ⟨rfl, rfl, rfl, by decide +kernel, rfl, by decide +kernel, by decide +kernel⟩
abbrev s_few : Stmt := topS 5
abbrev N_few : List Str := ["count", "width", "reach"]
theorem sc_few : FnScope N_few ["count", "width", "reach"] (defScope s_few) := ⟨rfl, rfl, rfl, by decide +kernel, rfl, by decide +kernel, by decide +kernel⟩
abbrev s_cuts : Stmt := topS 6
abbrev N_cuts : List Str := ["text", "width", "reach", "weights", "place"]
theorem sc_cuts : FnScope N_cuts ["text", "width", "reach"] (defScope s_cuts) := ⟨rfl, rfl, rfl, by decide +kernel, rfl, by decide +kernel, by decide +kernel⟩
abbrev s_pieces : Stmt := topS 7
abbrev N_pieces : List Str := ["text", "width", "reach", "bounds", "start", "end"]
theorem sc_pieces : FnScope N_pieces ["text", "width", "reach"] (defScope s_pieces) := ⟨rfl, rfl, rfl, by decide +kernel, rfl, by decide +kernel, by decide +kernel⟩
abbrev s__weights_by_place : Stmt := topS 8
abbrev N__weights_by_place : List Str := ["text", "width", "place"]
theorem sc__weights_by_place : FnScope N__weights_by_place ["text", "width"] (defScope s__weights_by_place) := ⟨rfl, rfl, rfl, by decide +kernel, rfl, by decide +kernel, by decide +kernel⟩
abbrev s__is_lightest : Stmt := topS 9
abbrev N__is_lightest : List Str := ["weights", "place", "reach", "other"]
theorem sc__is_lightest : FnScope N__is_lightest ["weights", "place", "reach"] (defScope s__is_lightest) := ⟨rfl, rfl, rfl, by decide +kernel, rfl, by decide +kernel, by decide +kernel⟩
abbrev s__law_cell_at : Stmt := topS 11
abbrev N__law_cell_at : List Str := ["_law_script", "_law_k"]
theorem sc__law_cell_at : FnScope N__law_cell_at ["_law_script", "_law_k"] (defScope s__law_cell_at) := ⟨rfl, rfl, rfl, by decide +kernel, rfl, by decide +kernel, by decide +kernel⟩
abbrev s__law_whole : Stmt := topS 12
abbrev N__law_whole : List Str := ["_law_got"]
theorem sc__law_whole : FnScope N__law_whole ["_law_got"] (defScope s__law_whole) := ⟨rfl, rfl, rfl, by decide +kernel, rfl, by decide +kernel, by decide +kernel⟩
abbrev s__law_sign_by : Stmt := topS 13
abbrev N__law_sign_by : List Str := ["_law_cell", "_law_some"]
theorem sc__law_sign_by : FnScope N__law_sign_by ["_law_cell"] (defScope s__law_sign_by) := ⟨rfl, rfl, rfl, by decide +kernel, rfl, by decide +kernel, by decide +kernel⟩
abbrev s__law_text_by : Stmt := topS 14
abbrev N__law_text_by : List Str := ["_law_cell", "_law_size", "_law_signs", "_law_block", "_law_got", "_law_number", "_law_k"]
theorem sc__law_text_by : FnScope N__law_text_by ["_law_cell", "_law_size"] (defScope s__law_text_by) := ⟨rfl, rfl, rfl, by decide +kernel, rfl, by decide +kernel, by decide +kernel⟩
abbrev s__law_alike : Stmt := topS 15
abbrev N__law_alike : List Str := ["_law_got", "_law_due", "_law_k"]
theorem sc__law_alike : FnScope N__law_alike ["_law_got", "_law_due"] (defScope s__law_alike) := ⟨rfl, rfl, rfl, by decide +kernel, rfl, by decide +kernel, by decide +kernel⟩
abbrev s__law_size_by : Stmt := topS 16
abbrev N__law_size_by : List Str := ["_law_cell"]
theorem sc__law_size_by : FnScope N__law_size_by ["_law_cell"] (defScope s__law_size_by) := ⟨rfl, rfl, rfl, by decide +kernel, rfl, by decide +kernel, by decide +kernel⟩
abbrev s__law_reach_by : Stmt := topS 17
abbrev N__law_reach_by : List Str := ["_law_cell"]
theorem sc__law_reach_by : FnScope N__law_reach_by ["_law_cell"] (defScope s__law_reach_by) := ⟨rfl, rfl, rfl, by decide +kernel, rfl, by decide +kernel, by decide +kernel⟩
abbrev s__law_ahead : Stmt := topS 18
abbrev N__law_ahead : List Str := ["_law_places", "_law_start", "_law_reach", "_law_place"]
theorem sc__law_ahead : FnScope N__law_ahead ["_law_places", "_law_start", "_law_reach"] (defScope s__law_ahead) := ⟨rfl, rfl, rfl, by decide +kernel, rfl, by decide +kernel, by decide +kernel⟩
abbrev s__law_behind : Stmt := topS 19
abbrev N__law_behind : List Str := ["_law_places", "_law_end", "_law_width", "_law_reach", "_law_place"]
theorem sc__law_behind : FnScope N__law_behind ["_law_places", "_law_end", "_law_width", "_law_reach"] (defScope s__law_behind) := ⟨rfl, rfl, rfl, by decide +kernel, rfl, by decide +kernel, by decide +kernel⟩
abbrev s_law : Stmt := topS 20
abbrev N_law : List Str := ["_law_script", "_law_old", "_law_width", "_law_reach", "_law_start", "_law_end", "_law_new", "_law_text", "_law_most", "_law_count", "_law_ones", "_law_others", "_law_one", "_law_other", "_law_piece"]
theorem sc_law : FnScope N_law ["_law_script"] (defScope s_law) := ⟨rfl, rfl, rfl, by decide +kernel, rfl, by decide +kernel, by decide +kernel⟩
structure Wd (K : PySem.W.Frag) (mg : Str → Option Value) where
  f_weight : Addr
  d_weight : FuncData
  F_weight : Fun K "weight" "weight" s_weight f_weight d_weight
  b_weight : Binds K d_weight ["signs"] []
  m_weight : mg "weight" = some (.ref f_weight)
  f_few : Addr
  d_few : FuncData
  F_few : Fun K "few" "few" s_few f_few d_few
  b_few : Binds K d_few ["count", "width", "reach"] []
  m_few : mg "few" = some (.ref f_few)
  f_cuts : Addr
  d_cuts : FuncData
  F_cuts : Fun K "cuts" "cuts" s_cuts f_cuts d_cuts
  b_cuts : Binds K d_cuts ["text", "width", "reach"] []
  m_cuts : mg "cuts" = some (.ref f_cuts)
  f_pieces : Addr
  d_pieces : FuncData
  F_pieces : Fun K "pieces" "pieces" s_pieces f_pieces d_pieces
  b_pieces : Binds K d_pieces ["text", "width", "reach"] []
  m_pieces : mg "pieces" = some (.ref f_pieces)
  f__weights_by_place : Addr
  d__weights_by_place : FuncData
  F__weights_by_place : Fun K "_weights_by_place" "_weights_by_place" s__weights_by_place f__weights_by_place d__weights_by_place
  b__weights_by_place : Binds K d__weights_by_place ["text", "width"] []
  m__weights_by_place : mg "_weights_by_place" = some (.ref f__weights_by_place)
  f__is_lightest : Addr
  d__is_lightest : FuncData
  F__is_lightest : Fun K "_is_lightest" "_is_lightest" s__is_lightest f__is_lightest d__is_lightest
  b__is_lightest : Binds K d__is_lightest ["weights", "place", "reach"] []
  m__is_lightest : mg "_is_lightest" = some (.ref f__is_lightest)
  f__law_cell_at : Addr
  d__law_cell_at : FuncData
  F__law_cell_at : Fun K "_law_cell_at" "_law_cell_at" s__law_cell_at f__law_cell_at d__law_cell_at
  b__law_cell_at : Binds K d__law_cell_at ["_law_script", "_law_k"] []
  m__law_cell_at : mg "_law_cell_at" = some (.ref f__law_cell_at)
  f__law_whole : Addr
  d__law_whole : FuncData
  F__law_whole : Fun K "_law_whole" "_law_whole" s__law_whole f__law_whole d__law_whole
  b__law_whole : Binds K d__law_whole ["_law_got"] []
  m__law_whole : mg "_law_whole" = some (.ref f__law_whole)
  f__law_sign_by : Addr
  d__law_sign_by : FuncData
  F__law_sign_by : Fun K "_law_sign_by" "_law_sign_by" s__law_sign_by f__law_sign_by d__law_sign_by
  b__law_sign_by : Binds K d__law_sign_by ["_law_cell"] []
  m__law_sign_by : mg "_law_sign_by" = some (.ref f__law_sign_by)
  f__law_text_by : Addr
  d__law_text_by : FuncData
  F__law_text_by : Fun K "_law_text_by" "_law_text_by" s__law_text_by f__law_text_by d__law_text_by
  b__law_text_by : Binds K d__law_text_by ["_law_cell", "_law_size"] []
  m__law_text_by : mg "_law_text_by" = some (.ref f__law_text_by)
  f__law_alike : Addr
  d__law_alike : FuncData
  F__law_alike : Fun K "_law_alike" "_law_alike" s__law_alike f__law_alike d__law_alike
  b__law_alike : Binds K d__law_alike ["_law_got", "_law_due"] []
  m__law_alike : mg "_law_alike" = some (.ref f__law_alike)
  f__law_size_by : Addr
  d__law_size_by : FuncData
  F__law_size_by : Fun K "_law_size_by" "_law_size_by" s__law_size_by f__law_size_by d__law_size_by
  b__law_size_by : Binds K d__law_size_by ["_law_cell"] []
  m__law_size_by : mg "_law_size_by" = some (.ref f__law_size_by)
  f__law_reach_by : Addr
  d__law_reach_by : FuncData
  F__law_reach_by : Fun K "_law_reach_by" "_law_reach_by" s__law_reach_by f__law_reach_by d__law_reach_by
  b__law_reach_by : Binds K d__law_reach_by ["_law_cell"] []
  m__law_reach_by : mg "_law_reach_by" = some (.ref f__law_reach_by)
  f__law_ahead : Addr
  d__law_ahead : FuncData
  F__law_ahead : Fun K "_law_ahead" "_law_ahead" s__law_ahead f__law_ahead d__law_ahead
  b__law_ahead : Binds K d__law_ahead ["_law_places", "_law_start", "_law_reach"] []
  m__law_ahead : mg "_law_ahead" = some (.ref f__law_ahead)
  f__law_behind : Addr
  d__law_behind : FuncData
  F__law_behind : Fun K "_law_behind" "_law_behind" s__law_behind f__law_behind d__law_behind
  b__law_behind : Binds K d__law_behind ["_law_places", "_law_end", "_law_width", "_law_reach"] []
  m__law_behind : mg "_law_behind" = some (.ref f__law_behind)
  f_law : Addr
  d_law : FuncData
  F_law : Fun K "law" "law" s_law f_law d_law
  b_law : Binds K d_law ["_law_script"] []
  m_law : mg "law" = some (.ref f_law)
  t_WEIGHT_START : Tok
  m_WEIGHT_START : mg "WEIGHT_START" = some (.int 7 t_WEIGHT_START)
  t_WEIGHT_FACTOR : Tok
  m_WEIGHT_FACTOR : mg "WEIGHT_FACTOR" = some (.int 131 t_WEIGHT_FACTOR)
  t_WEIGHT_DIVISOR : Tok
  m_WEIGHT_DIVISOR : mg "WEIGHT_DIVISOR" = some (.int 65521 t_WEIGHT_DIVISOR)
  z_bool : mg "bool" = none
  z_int : mg "int" = none
  z_isinstance : mg "isinstance" = none
  z_len : mg "len" = none
  z_list : mg "list" = none
  z_min : mg "min" = none
  z_ord : mg "ord" = none
  z_range : mg "range" = none
  z_str : mg "str" = none
  z_tuple : mg "tuple" = none
  z_zip : mg "zip" = none
/-! ### the law's own readers -/
def alpha : List Nat := ((" !\"#$&'()*+,-./0123456789:;<=>?@ABCDEFGHIJKLMNOPQRSTUVWXYZ[\\]^_`" : Str)).cps.toList ++ (("abcdefghijklmnopqrstuvwxyz{|}~\n" : Str)).cps.toList
theorem alpha_len : alpha.length = 95 := by decide +kernel
def sgn (i : Int) : Nat := alpha.getD (i % 95).toNat 0
theorem sgn_at (i : Int) : atI alpha (i % 95) = some (sgn i) := by
  have h0 : 0 ≤ i % 95 := Int.emod_nonneg _ (by omega)
  have h1 : i % 95 < 95 := Int.emod_lt_of_pos _ (by omega)
  have e : i % 95 = (((i % 95).toNat : Nat) : Int) := (Int.toNat_of_nonneg h0).symm
  have hl : (i % 95).toNat < alpha.length := by rw [alpha_len]; omega
  have : alpha[(i % 95).toNat]? = some (sgn i) := by
    unfold sgn
    rw [List.getD_eq_getElem?_getD, List.getElem?_eq_getElem hl]
    rfl
  rw [e]
  exact atI_nat this
theorem sgn_mem (i : Int) : sgn i ∈ alpha := by
  have h0 : 0 ≤ i % 95 := Int.emod_nonneg _ (by omega)
  have h1 : i % 95 < 95 := Int.emod_lt_of_pos _ (by omega)
  have hl : (i % 95).toNat < alpha.length := by rw [alpha_len]; omega
  unfold sgn
  rw [List.getD_eq_getElem?_getD, List.getElem?_eq_getElem hl]
  exact List.getElem_mem hl
def sgs (c : Int) : Int := if c % 4 = 0 then 2 else if c % 4 = 3 then 1 else 95
theorem sgs_at (c : Int) : atI [V.int 2, V.int 95, V.int 95, V.int 1] (c % 4) = some (V.int (sgs c)) := by
  have h0 : 0 ≤ c % 4 := Int.emod_nonneg _ (by omega)
  have h1 : c % 4 < 4 := Int.emod_lt_of_pos _ (by omega)
  have : c % 4 = 0 ∨ c % 4 = 1 ∨ c % 4 = 2 ∨ c % 4 = 3 := by omega
  rcases this with e | e | e | e <;> (unfold sgs; rw [e]; rfl)
theorem sgs_pos (c : Int) : 0 < sgs c := by
  unfold sgs
  split
  · omega
  · split <;> omega
def nxt (x : Int) : Int := (x * 48271 + 11) % 2147483647
def numS (c : Int) : Nat → Int
  | 0 => c
  | k + 1 => nxt (numS c k)
def blk (c : Int) (b : Nat) : List Nat := (List.range b).map fun k => sgn (65 + numS c (k + 1) / 7 % sgs c)
theorem blk_succ (c : Int) (b : Nat) : blk c (b + 1) = blk c b ++ [sgn (65 + numS c (b + 1) / 7 % sgs c)] := by
  unfold blk
  rw [List.range_succ, List.map_append]
  rfl
theorem blk_len (c : Int) (b : Nat) : (blk c b).length = b := by simp [blk]
def blkN (c : Int) (n : Nat) : Nat := if c % 4 = 2 then min n (1 + (c / 4 % 50).toNat) else n
def textBy (c : Int) (n : Nat) : List Nat := (repS (blk c (blkN c n)) (n / blkN c n + 1)).take n
theorem repS_len (z : List Nat) (k : Nat) : (repS z k).length = k * z.length := by
  unfold repS
  rw [List.length_flatten, List.map_replicate, List.sum_replicate_nat]
theorem blkN_pos {c : Int} {n : Nat} (h : 0 < n) : 0 < blkN c n := by
  unfold blkN
  split
  · exact Nat.lt_min.mpr ⟨h, by omega⟩
  · exact h
theorem blkN_le (c : Int) (n : Nat) : blkN c n ≤ n := by
  unfold blkN
  split
  · exact Nat.min_le_left _ _
  · exact Nat.le_refl _
theorem textBy_len (c : Int) (n : Nat) : (textBy c n).length = n := by
  unfold textBy
  rw [List.length_take, repS_len, blk_len]
  by_cases h : n = 0
  · subst h
    simp
  · have hb := blkN_pos (c := c) (Nat.pos_of_ne_zero h)
    have := Nat.div_add_mod n (blkN c n)
    have hm := Nat.mod_lt n hb
    have : n < (n / blkN c n + 1) * blkN c n := by
      rw [Nat.add_mul, Nat.mul_comm (n / blkN c n)]
      omega
    omega
theorem mem_repS {z : List Nat} {k x : Nat} (h : x ∈ repS z k) : x ∈ z := by
  unfold repS at h
  obtain ⟨l, h1, h2⟩ := List.mem_flatten.mp h
  rw [(List.mem_replicate.mp h1).2] at h2
  exact h2
theorem textBy_mem {c : Int} {n x : Nat} (h : x ∈ textBy c n) : x ∈ alpha := by
  have h1 := mem_repS (List.mem_of_mem_take h)
  unfold blk at h1
  obtain ⟨k, _, e⟩ := List.mem_map.mp h1
  subst e
  exact sgn_mem _
theorem cut_take {z : List Nat} {n : Nat} (h : n ≤ z.length) : cutS (st z) none (some (n : Int)) = st (z.take n) := by
  unfold cutS
  rw [codes_st, HT.sIx_none, HT.sIx_nat, len_st, Nat.min_eq_left h]
  rfl
def sizeBy (c : Int) : Nat := if c % 8 = 7 then (c / 8 % 300).toNat else (c / 8 % 60).toNat
theorem sizeBy_le (c : Int) : sizeBy c ≤ 299 := by
  unfold sizeBy
  split <;> omega
def reachBy (c : Int) : Nat := if c % 9 = 8 then 1 + (c / 9 % 40).toNat else 1 + (c / 9 % 5).toNat
theorem reachBy_le (c : Int) : 1 ≤ reachBy c ∧ reachBy c ≤ 40 := by
  unfold reachBy
  split <;> omega
def widthBy (c : Int) : Nat := 1 + (c % 8).toNat
theorem widthBy_le (c : Int) : 1 ≤ widthBy c ∧ widthBy c ≤ 8 := by
  unfold widthBy
  omega
theorem widthBy_eq (c : Int) : 1 + c % 8 = ((widthBy c : Nat) : Int) := by
  unfold widthBy
  omega
/-! ### where a text is cut -/
def wt (l : List Nat) : Int := l.foldl (fun (t : Int) (c : Nat) => (t * 131 + (c : Int)) % 65521) 7
theorem wt_take {l : List Nat} {i c : Nat} (h : l[i]? = some c) : wt (l.take (i + 1)) = (wt (l.take i) * 131 + (c : Int)) % 65521 := by
  rw [List.take_add_one, h]
  unfold wt
  rw [List.foldl_append]
  rfl
/-- the weight of a place -/
def wAt (l : List Nat) (w p : Nat) : Int := wt ((l.drop (p - w)).take w)
/-- less than each other one within reach -/
def lowB (l : List Nat) (w r p : Nat) : Bool := (List.range (2 * r + 1)).all fun j => decide (j = r) || decide (wAt l w p < wAt l w (p - r + j))
def cutF (l : List Nat) (w r i : Nat) : Option Nat := if lowB l w r (w + r + i) = true then some (w + r + i) else none
def cutsOf (l : List Nat) (w r : Nat) : List Nat := (List.range (l.length + 1 - (w + 2 * r))).filterMap (cutF l w r)
theorem cutV_map (l : List Nat) (w r : Nat) : ((List.range (l.length + 1 - (w + 2 * r))).filterMap fun i => (cutF l w r i).map natV) = (cutsOf l w r).map natV := by
  unfold cutsOf
  rw [List.map_filterMap]
def wKey (w i : Nat) : Key := Sum.inl ((w + i : Nat) : Int)
def wVal (l : List Nat) (w i : Nat) : V := .int (wAt l w (w + i))
def wDict (l : List Nat) (w : Nat) : List (Key × V) := (List.range (l.length + 1 - w)).map fun i => (wKey w i, wVal l w i)
theorem wKey_inj (w i j : Nat) (h : wKey w i = wKey w j) : i = j := by
  have := Sum.inl.inj h
  omega
theorem wDict_at {l : List Nat} {w p : Nat} (h1 : w ≤ p) (h2 : p ≤ l.length) : valV (wDict l w) (Sum.inl (p : Int)) = some (.int (wAt l w p)) := by
  have h := valV_rng (n := l.length + 1 - w) (i := p - w) (key := wKey w) (val := wVal l w) (wKey_inj w) (by omega)
  have e : w + (p - w) = p := by omega
  unfold wKey wVal at h
  rw [e] at h
  exact h
theorem lowB_iff {l : List Nat} {w r p : Nat} : lowB l w r p = true ↔ ∀ j, j < 2 * r + 1 → j ≠ r → wAt l w p < wAt l w (p - r + j) := by
  unfold lowB
  rw [List.all_eq_true]
  constructor
  · intro h j hj hr
    have := h j (List.mem_range.mpr hj)
    rw [Bool.or_eq_true] at this
    rcases this with h1 | h1
    · exact absurd (of_decide_eq_true h1) hr
    · exact of_decide_eq_true h1
  · intro h j hj
    rw [Bool.or_eq_true]
    by_cases e : j = r
    · exact .inl (decide_eq_true e)
    · exact .inr (decide_eq_true (h j (List.mem_range.mp hj) e))
theorem lowB_no {l : List Nat} {w r p j : Nat} (hj : j < 2 * r + 1) (hr : j ≠ r) (h : wAt l w (p - r + j) ≤ wAt l w p) : lowB l w r p = false := by
  cases e : lowB l w r p with
  | false => rfl
  | true =>
    have := lowB_iff.mp e j hj hr
    omega
theorem cutF_some {l : List Nat} {w r i p : Nat} (h : cutF l w r i = some p) : p = w + r + i ∧ lowB l w r p = true := by
  unfold cutF at h
  split at h
  · rename_i hc
    cases h
    exact ⟨rfl, hc⟩
  · cases h
theorem low_far {l : List Nat} {w r p q : Nat} (hp : lowB l w r p = true) (hq : lowB l w r q = true) (h : p < q) (hr : r ≤ p) : p + r < q := by
  by_cases hf : p + r < q
  · exact hf
  exfalso
  have h1 := lowB_iff.mp hp (q - p + r) (by omega) (by omega)
  have h2 := lowB_iff.mp hq (p + r - q) (by omega) (by omega)
  have e1 : p - r + (q - p + r) = q := by omega
  have e2 : q - r + (p + r - q) = p := by omega
  rw [e1] at h1
  rw [e2] at h2
  omega
theorem cuts_far (l : List Nat) (w r : Nat) : (cutsOf l w r).Pairwise fun p q => p + r < q := by
  unfold cutsOf
  rw [List.pairwise_filterMap]
  refine List.Pairwise.imp ?_ List.pairwise_lt_range
  intro i j hij p hp q hq
  obtain ⟨e1, l1⟩ := cutF_some hp
  obtain ⟨e2, l2⟩ := cutF_some hq
  exact low_far l1 l2 (by omega) (by omega)
theorem cuts_mem {l : List Nat} {w r p : Nat} (h : p ∈ cutsOf l w r) : w + r ≤ p ∧ p + r ≤ l.length ∧ lowB l w r p = true := by
  unfold cutsOf at h
  obtain ⟨i, hi, e⟩ := List.mem_filterMap.mp h
  rw [List.mem_range] at hi
  obtain ⟨e1, l1⟩ := cutF_some e
  exact ⟨by omega, by omega, l1⟩
theorem cuts_count (l : List Nat) (w r : Nat) : (cutsOf l w r).length ≤ l.length + 1 := by
  unfold cutsOf
  refine Nat.le_trans (List.length_filterMap_le _ _) ?_
  rw [List.length_range]
  omega

/-! ### two values that are alike, to a depth -/
def Al (H : Hp) : Nat → V → V → Prop
  | 0, x, y => x = y ∧ (y = .non ∨ y = .bl true ∨ (∃ i, y = .int i) ∨ ∃ s, y = .str s)
  | n + 1, x, y => Al H n x y ∨
      (∃ a b xs ys, x = .ref a ∧ y = .ref b ∧ H a = some (.lst xs) ∧ H b = some (.lst ys) ∧ xs.length = ys.length ∧ xs.length < 16777216 ∧ ∀ i, i < ys.length → Al H n (xs.getD i .non) (ys.getD i .non)) ∨
      ∃ a b xs ys, x = .ref a ∧ y = .ref b ∧ H a = some (.tup xs) ∧ H b = some (.tup ys) ∧ xs.length = ys.length ∧ xs.length < 16777216 ∧ ∀ i, i < ys.length → Al H n (xs.getD i .non) (ys.getD i .non)
theorem Al.up {H : Hp} {x y : V} : ∀ {n : Nat}, Al H n x y → Al H (n + 1) x y := fun h => Or.inl h
theorem Al.le {H : Hp} {x y : V} {n m : Nat} (h : Al H n x y) (l : n ≤ m) : Al H m x y := by
  induction l with
  | refl => exact h
  | step _ ih => exact Or.inl ih
theorem Al.int {H : Hp} {n : Nat} (i : Int) : Al H n (.int i) (.int i) := Al.le (n := 0) ⟨rfl, .inr (.inr (.inl ⟨i, rfl⟩))⟩ (Nat.zero_le _)
theorem Al.str {H : Hp} {n : Nat} (i : Str) : Al H n (.str i) (.str i) := Al.le (n := 0) ⟨rfl, .inr (.inr (.inr ⟨i, rfl⟩))⟩ (Nat.zero_le _)
theorem Al.ints {H : Hp} {n : Nat} {a b : Addr} {xs : List V} (ha : H a = some (.lst xs)) (hb : H b = some (.lst xs)) (hl : xs.length < 16777216) (hx : ∀ v ∈ xs, (∃ i, v = V.int i) ∨ ∃ s, v = V.str s) : Al H (n + 1) (.ref a) (.ref b) := by
  refine Or.inr (Or.inl ⟨a, b, xs, xs, rfl, rfl, ha, hb, rfl, hl, fun i hi => ?_⟩)
  have hm : xs.getD i .non ∈ xs := by
    rw [List.getD_eq_getElem?_getD, List.getElem?_eq_getElem hi]
    exact List.getElem_mem hi
  rcases hx _ hm with ⟨j, e⟩ | ⟨j, e⟩
  · rw [e]; exact Al.int j
  · rw [e]; exact Al.str j
theorem atI_getD {xs : List V} {i : Nat} (h : i < xs.length) : atI xs (i : Int) = some (xs.getD i .non) := by
  refine atI_nat ?_
  rw [List.getD_eq_getElem?_getD, List.getElem?_eq_getElem h]
  rfl
def spAl : Nat → Sp
  | 0 => fun _ _ _ _ => False
  | n + 1 => fun vs H Q _ => ∃ x y, vs = [x, y] ∧ Al H n x y ∧ Q (.bl true) H
/-! ### pieces -/
def pieceG (l : List Nat) (a b : Nat) : Option (List Nat) := if a < b then some ((l.drop a).take (b - a)) else none
def bounds (l : List Nat) (w r : Nat) : List Nat := 0 :: (cutsOf l w r ++ [l.length])
def piecesOf (l : List Nat) (w r : Nat) : List (List Nat) := pairsOf (pieceG l) (bounds l w r)
def pieceV (l : List Nat) (x y : V) : Option V := match x, y with
  | .int a, .int b => (pieceG l a.toNat b.toNat).map txtV
  | _, _ => none
/-! ### pieces joined -/
theorem pieceG_pos {l : List Nat} {a b : Nat} (h : a < b) : pieceG l a b = some ((l.drop a).take (b - a)) := by
  unfold pieceG
  rw [if_pos h]
theorem pieceG_eq {l : List Nat} {a b : Nat} (h : ¬ a < b) : pieceG l a b = none := by
  unfold pieceG
  rw [if_neg h]
theorem pairs_join (l : List Nat) : ∀ (B : List Nat) (a : Nat), (a :: B).Pairwise (· ≤ ·) → (∀ b ∈ a :: B, b ≤ l.length) → (a :: B).getLast (List.cons_ne_nil _ _) = l.length → (pairsOf (pieceG l) (a :: B)).flatten = l.drop a
  | [], a, _, _, h => by
    have : a = l.length := h
    rw [this]
    simp [pairsOf]
  | b :: r, a, hp, hm, hl => by
    have hp2 := List.pairwise_cons.mp hp
    have ih := pairs_join l r b hp2.2 (fun c hc => hm c (List.mem_cons_of_mem _ hc)) (by rw [← hl]; exact (List.getLast_cons _).symm)
    have hab : a ≤ b := hp2.1 b List.mem_cons_self
    show ((pieceG l a b).toList ++ pairsOf (pieceG l) (b :: r)).flatten = l.drop a
    rw [List.flatten_append, ih]
    by_cases h : a < b
    · rw [pieceG_pos h]
      simp only [Option.toList, List.flatten_cons, List.flatten_nil, List.append_nil]
      have e : l.drop b = (l.drop a).drop (b - a) := by
        rw [List.drop_drop]
        congr 1
        omega
      rw [e, List.take_append_drop]
    · rw [pieceG_eq h]
      have : a = b := by omega
      rw [this]
      rfl
theorem pairs_mem (l : List Nat) : ∀ (B : List Nat), (∀ b ∈ B, b ≤ l.length) → ∀ z ∈ pairsOf (pieceG l) B, z ≠ []
  | [], _, z, hz => by cases hz
  | [_], _, z, hz => by cases hz
  | a :: b :: r, hm, z, hz => by
    rcases List.mem_append.mp (show z ∈ (pieceG l a b).toList ++ pairsOf (pieceG l) (b :: r) from hz) with h | h
    · by_cases c : a < b
      · rw [pieceG_pos c] at h
        have e : z = (l.drop a).take (b - a) := by simpa using h
        have hb := hm b (List.mem_cons_of_mem _ List.mem_cons_self)
        intro z0
        have : ((l.drop a).take (b - a)).length = 0 := by rw [← e, z0]; rfl
        rw [List.length_take, List.length_drop] at this
        omega
      · rw [pieceG_eq c] at h
        cases h
    · exact pairs_mem l (b :: r) (fun c hc => hm c (List.mem_cons_of_mem _ hc)) z h
/-- where pieces end -/
def runs (t : Nat) : List (List Nat) → List Nat
  | [] => []
  | z :: r => (t + z.length) :: runs (t + z.length) r
theorem runs_snoc (z : List Nat) : ∀ (zs : List (List Nat)) (t : Nat), runs t (zs ++ [z]) = runs t zs ++ [t + (zs ++ [z]).flatten.length]
  | [], t => by simp [runs]
  | y :: r, t => by
    show (t + y.length) :: runs (t + y.length) (r ++ [z]) = _
    rw [runs_snoc z r]
    show _ = (t + y.length) :: (runs (t + y.length) r ++ [_])
    congr 3
    rw [List.cons_append, List.flatten_cons, List.length_append]
    omega
theorem runs_len : ∀ (zs : List (List Nat)) (t : Nat), (runs t zs).length = zs.length
  | [], _ => rfl
  | z :: r, t => by
    show (runs (t + z.length) r).length + 1 = r.length + 1
    rw [runs_len r]
theorem pairs_runs (l : List Nat) : ∀ (B : List Nat) (a : Nat), (a :: B).Pairwise (· < ·) → (∀ b ∈ a :: B, b ≤ l.length) → runs a (pairsOf (pieceG l) (a :: B)) = B
  | [], a, _, _ => rfl
  | b :: r, a, hp, hm => by
    have hp2 := List.pairwise_cons.mp hp
    have hab : a < b := hp2.1 b List.mem_cons_self
    have ih := pairs_runs l r b hp2.2 (fun c hc => hm c (List.mem_cons_of_mem _ hc))
    show runs a ((pieceG l a b).toList ++ pairsOf (pieceG l) (b :: r)) = b :: r
    rw [pieceG_pos hab]
    show (a + ((l.drop a).take (b - a)).length) :: runs (a + ((l.drop a).take (b - a)).length) (pairsOf (pieceG l) (b :: r)) = b :: r
    have hb := hm b (List.mem_cons_of_mem _ List.mem_cons_self)
    have e : a + ((l.drop a).take (b - a)).length = b := by
      rw [List.length_take, List.length_drop]
      omega
    rw [e, ih]
theorem cuts_rise (l : List Nat) (w r : Nat) : (cutsOf l w r).Pairwise (· < ·) := (cuts_far l w r).imp fun h => by omega
theorem bounds_lt {l : List Nat} {w r : Nat} (h : 0 < l.length) (hr : 1 ≤ r) : (bounds l w r).Pairwise (· < ·) := by
  unfold bounds
  rw [List.pairwise_cons, List.pairwise_append]
  refine ⟨fun b hb => ?_, cuts_rise l w r, List.pairwise_singleton _ _, fun a ha b hb => ?_⟩
  · rcases List.mem_append.mp hb with hb | hb
    · have := cuts_mem hb
      omega
    · rw [List.mem_singleton] at hb
      omega
  · rw [List.mem_singleton] at hb
    have := cuts_mem ha
    omega
theorem bounds_le' {l : List Nat} {w r b : Nat} (h : b ∈ bounds l w r) : b ≤ l.length := by
  unfold bounds at h
  rcases List.mem_cons.mp h with rfl | h
  · exact Nat.zero_le _
  rcases List.mem_append.mp h with h | h
  · have := cuts_mem h
    omega
  · rw [List.mem_singleton] at h
    omega
theorem cuts_nil {l : List Nat} {w r : Nat} (h : l.length = 0) (hr : 1 ≤ r) : cutsOf l w r = [] := by
  unfold cutsOf
  have : l.length + 1 - (w + 2 * r) = 0 := by omega
  rw [this]
  rfl
theorem pieces_nil {l : List Nat} {w r : Nat} (h : l.length = 0) (hr : 1 ≤ r) : piecesOf l w r = [] := by
  unfold piecesOf bounds
  rw [cuts_nil h hr, h]
  show (pieceG l 0 0).toList ++ [] = []
  rw [pieceG_eq (by omega)]
  rfl
theorem pieces_join {l : List Nat} {w r : Nat} (hr : 1 ≤ r) : (piecesOf l w r).flatten = l := by
  by_cases h : l.length = 0
  · rw [pieces_nil h hr]
    have : l = [] := List.eq_nil_of_length_eq_zero h
    rw [this]
    rfl
  · unfold piecesOf
    have e := pairs_join l (cutsOf l w r ++ [l.length]) 0 ((bounds_lt (by omega) hr).imp fun h => by omega) (fun b hb => bounds_le' (w := w) (r := r) hb) (by rw [List.getLast_cons (List.append_ne_nil_of_right_ne_nil _ (List.cons_ne_nil _ _)), List.getLast_append_of_ne_nil _ (List.cons_ne_nil _ _), List.getLast_singleton])
    rw [List.drop_zero] at e
    exact e
theorem pieces_ne {l : List Nat} {w r : Nat} {z : List Nat} (h : z ∈ piecesOf l w r) : z ≠ [] := pairs_mem l _ (fun b hb => bounds_le' hb) z h
theorem pieces_runs {l : List Nat} {w r : Nat} (h : 0 < l.length) (hr : 1 ≤ r) : runs 0 (piecesOf l w r) = cutsOf l w r ++ [l.length] :=
  pairs_runs l _ 0 (bounds_lt h hr) fun b hb => bounds_le' (w := w) (r := r) hb
theorem pairs_count {β : Type} (g : Nat → Nat → Option β) : ∀ B : List Nat, (pairsOf g B).length ≤ B.length - 1
  | [] => Nat.le_refl _
  | [_] => Nat.le_refl _
  | a :: b :: r => by
    have ih := pairs_count g (b :: r)
    show ((g a b).toList ++ pairsOf g (b :: r)).length ≤ (r.length + 1 + 1) - 1
    rw [List.length_append]
    have : (g a b).toList.length ≤ 1 := by cases g a b <;> simp
    rw [List.length_cons] at ih
    omega
theorem pieces_count (l : List Nat) (w r : Nat) : (piecesOf l w r).length ≤ l.length + 2 := by
  refine Nat.le_trans (pairs_count _ _) ?_
  have := cuts_count l w r
  unfold bounds
  rw [List.length_cons, List.length_append, List.length_singleton]
  omega
theorem piece_short {l z : List Nat} {w r : Nat} (h : z ∈ piecesOf l w r) (hr : 1 ≤ r) : z.length ≤ l.length := by
  have e := pieces_join (l := l) (w := w) hr
  obtain ⟨a, b, e2⟩ := List.append_of_mem h
  have e3 := congrArg List.length e
  rw [e2, List.flatten_append, List.flatten_cons, List.length_append, List.length_append] at e3
  omega
theorem flat_take {zs : List (List Nat)} {i : Nat} : ((zs.take i).flatten).length ≤ zs.flatten.length := by
  conv => rhs; rw [← List.take_append_drop i zs]
  rw [List.flatten_append, List.length_append]
  omega

/-! ### a change alters few pieces -/
theorem cuts_iff {l : List Nat} {w r p : Nat} : p ∈ cutsOf l w r ↔ w + r ≤ p ∧ p + r ≤ l.length ∧ lowB l w r p = true := by
  constructor
  · exact cuts_mem
  · rintro ⟨h1, h2, h3⟩
    unfold cutsOf
    refine List.mem_filterMap.mpr ⟨p - (w + r), List.mem_range.mpr (by omega), ?_⟩
    unfold cutF
    have e : w + r + (p - (w + r)) = p := by omega
    rw [e, if_pos h3]
theorem low_same {l m : List Nat} {w r p q : Nat} (hp : r ≤ p) (hq : r ≤ q) (h : ∀ j, j < 2 * r + 1 → wAt l w (p - r + j) = wAt m w (q - r + j)) : lowB l w r p = lowB m w r q := by
  have h0 := h r (by omega)
  have e1 : p - r + r = p := by omega
  have e2 : q - r + r = q := by omega
  rw [e1, e2] at h0
  rw [Bool.eq_iff_iff, lowB_iff, lowB_iff]
  constructor
  · intro k j hj hr
    rw [← h0, ← h j hj]
    exact k j hj hr
  · intro k j hj hr
    rw [h0, h j hj]
    exact k j hj hr
/-- weights in the same beginning -/
theorem wAt_ahead {A U Z : List Nat} {w q : Nat} (hw : w ≤ q) (h : q ≤ A.length) : wAt (A ++ U) w q = wAt (A ++ Z) w q := by
  have key : ∀ Z : List Nat, wAt (A ++ Z) w q = wt ((A.drop (q - w)).take w) := by
    intro Z
    unfold wAt
    rw [List.drop_append_of_le_length (by omega), List.take_append_of_le_length (by rw [List.length_drop]; omega)]
  rw [key, key]
/-- weights in the same end -/
theorem wAt_behind {A C B : List Nat} {w q : Nat} (h : w ≤ q) : wAt (A ++ B) w (A.length + q) = wAt (C ++ B) w (C.length + q) := by
  have key : ∀ Z : List Nat, wAt (Z ++ B) w (Z.length + q) = wt ((B.drop (q - w)).take w) := by
    intro Z
    unfold wAt
    congr 2
    rw [List.drop_append]
    have e : Z.length + q - w - Z.length = q - w := by omega
    rw [List.drop_eq_nil_of_le (by omega), e]
    rfl
  rw [key, key]
/-- strictly rising lists with the same members are one -/
theorem rise_ext : ∀ {L M : List Nat}, L.Pairwise (· < ·) → M.Pairwise (· < ·) → (∀ x, x ∈ L ↔ x ∈ M) → L = M
  | [], [], _, _, _ => rfl
  | [], y :: s, _, _, h => by cases (h y).mpr List.mem_cons_self
  | x :: r, [], _, _, h => by cases (h x).mp List.mem_cons_self
  | x :: r, y :: s, hl, hm, h => by
    have l2 := List.pairwise_cons.mp hl
    have m2 := List.pairwise_cons.mp hm
    have e : x = y := by
      rcases List.mem_cons.mp ((h x).mp List.mem_cons_self) with e | e
      · exact e
      · rcases List.mem_cons.mp ((h y).mpr List.mem_cons_self) with f | f
        · exact f.symm
        · have := m2.1 x e
          have := l2.1 y f
          omega
    subst e
    congr 1
    refine rise_ext l2.2 m2.2 fun z => ?_
    constructor
    · intro hz
      rcases List.mem_cons.mp ((h z).mp (List.mem_cons_of_mem _ hz)) with e | e
      · have := l2.1 z hz
        omega
      · exact e
    · intro hz
      rcases List.mem_cons.mp ((h z).mpr (List.mem_cons_of_mem _ hz)) with e | e
      · have := m2.1 z hz
        omega
      · exact e
/-- a rising list, parted at a threshold -/
theorem rise_part (t : Nat) : ∀ {L : List Nat}, L.Pairwise (· < ·) → L = L.filter (fun p => decide (p < t)) ++ L.filter (fun p => !decide (p < t))
  | [], _ => rfl
  | x :: r, h => by
    have h2 := List.pairwise_cons.mp h
    have ih := rise_part t h2.2
    by_cases c : x < t
    · rw [List.filter_cons_of_pos (p := fun p => decide (p < t)) (decide_eq_true c), List.filter_cons_of_neg (p := fun p => !decide (p < t)) (by show ¬ (!decide (x < t)) = true; rw [decide_eq_true c]; exact Bool.false_ne_true), List.cons_append, ← ih]
    · have none : r.filter (fun p => decide (p < t)) = [] := by
        rw [List.filter_eq_nil_iff]
        intro a ha
        have := h2.1 a ha
        simp only [decide_eq_true_eq]
        omega
      have all : r.filter (fun p => !decide (p < t)) = r := by
        rw [List.filter_eq_self]
        intro a ha
        have := h2.1 a ha
        rw [decide_eq_false (by omega)]
        rfl
      rw [List.filter_cons_of_neg (p := fun p => decide (p < t)) (by show ¬ decide (x < t) = true; rw [decide_eq_false c]; exact Bool.false_ne_true), List.filter_cons_of_pos (p := fun p => !decide (p < t)) (by show (!decide (x < t)) = true; rw [decide_eq_false c]; rfl), none, all]
      rfl
/-- places far apart within bounds are few -/
theorem spread (r hi : Nat) : ∀ (L : List Nat) (lo : Nat), L.Pairwise (fun p q => p + r < q) → (∀ p ∈ L, lo ≤ p ∧ p ≤ hi) → L.length * (r + 1) ≤ hi + r + 1 - lo
  | [], lo, _, _ => by simp
  | p :: L, lo, h, hm => by
    have h2 := List.pairwise_cons.mp h
    have hp := hm p List.mem_cons_self
    have ih := spread r hi L (p + r + 1) h2.2 fun q hq => ⟨by have := h2.1 q hq; omega, (hm q (List.mem_cons_of_mem _ hq)).2⟩
    rw [List.length_cons, Nat.add_mul]
    omega
theorem pairs_app {β : Type} (g : Nat → Nat → Option β) (x : Nat) (B : List Nat) : ∀ A : List Nat, pairsOf g (A ++ x :: B) = pairsOf g (A ++ [x]) ++ pairsOf g (x :: B)
  | [] => rfl
  | [a] => by
    show (g a x).toList ++ pairsOf g (x :: B) = ((g a x).toList ++ []) ++ pairsOf g (x :: B)
    rw [List.append_nil]
  | a :: b :: r => by
    have ih := pairs_app g x B (b :: r)
    show (g a b).toList ++ pairsOf g ((b :: r) ++ x :: B) = ((g a b).toList ++ pairsOf g ((b :: r) ++ [x])) ++ pairsOf g (x :: B)
    rw [ih, List.append_assoc]
theorem pairs_cong {β : Type} {g k : Nat → Nat → Option β} (f : Nat → Nat) : ∀ (B : List Nat), (∀ a ∈ B, ∀ b ∈ B, g a b = k (f a) (f b)) → pairsOf g B = pairsOf k (B.map f)
  | [], _ => rfl
  | [_], _ => rfl
  | a :: b :: r, h => by
    have ih := pairs_cong f (b :: r) fun x hx y hy => h x (List.mem_cons_of_mem _ hx) y (List.mem_cons_of_mem _ hy)
    show (g a b).toList ++ pairsOf g (b :: r) = (k (f a) (f b)).toList ++ pairsOf k ((b :: r).map f)
    rw [ih, h a List.mem_cons_self b (List.mem_cons_of_mem _ List.mem_cons_self)]
/-- the cuts a reach ahead of a place; those a width and a reach behind one, as far behind it -/
def aheadOf (l : List Nat) (w r s : Nat) : List Nat := (cutsOf l w r).filter fun p => decide (p < s + 1 - r)
def behindOf (l : List Nat) (w r e : Nat) : List Nat := ((cutsOf l w r).filter fun p => !decide (p < e + r + w)).map (· - e)
theorem ahead_same {A U Z : List Nat} {w r : Nat} (hr : 1 ≤ r) : aheadOf (A ++ U) w r A.length = aheadOf (A ++ Z) w r A.length := by
  have key : ∀ U Z : List Nat, ∀ p, p ∈ aheadOf (A ++ U) w r A.length → p ∈ aheadOf (A ++ Z) w r A.length := by
    intro U Z p hp
    unfold aheadOf at hp ⊢
    rw [List.mem_filter] at hp ⊢
    obtain ⟨hc, ht⟩ := hp
    have ht' := of_decide_eq_true ht
    obtain ⟨h1, h2, h3⟩ := cuts_iff.mp hc
    refine ⟨cuts_iff.mpr ⟨h1, by rw [List.length_append]; omega, ?_⟩, ht⟩
    rw [← h3]
    exact low_same (by omega) (by omega) fun j hj => wAt_ahead (by omega) (by omega)
  exact rise_ext ((cuts_rise _ _ _).filter _) ((cuts_rise _ _ _).filter _) fun x => ⟨key U Z x, key Z U x⟩
theorem behind_same {A C B : List Nat} {w r : Nat} (hr : 1 ≤ r) : behindOf (A ++ B) w r A.length = behindOf (C ++ B) w r C.length := by
  have up : ∀ A : List Nat, (behindOf (A ++ B) w r A.length).Pairwise (· < ·) := by
    intro A
    unfold behindOf
    rw [List.pairwise_map]
    refine List.Pairwise.imp_of_mem ?_ ((cuts_rise (A ++ B) w r).filter _)
    intro a b ha hb hab
    have h1 := (List.mem_filter.mp ha).2
    have h2 := (List.mem_filter.mp hb).2
    have h1' : ¬ a < A.length + r + w := of_decide_eq_false (by simpa using h1)
    omega
  have key : ∀ A C : List Nat, ∀ p, p ∈ behindOf (A ++ B) w r A.length → p ∈ behindOf (C ++ B) w r C.length := by
    intro A C p hp
    unfold behindOf at hp ⊢
    obtain ⟨q, hq, rfl⟩ := List.mem_map.mp hp
    rw [List.mem_filter] at hq
    obtain ⟨hc, ht⟩ := hq
    have ht' : ¬ q < A.length + r + w := of_decide_eq_false (by simpa using ht)
    obtain ⟨h1, h2, h3⟩ := cuts_iff.mp hc
    rw [List.length_append] at h2
    refine List.mem_map.mpr ⟨C.length + (q - A.length), List.mem_filter.mpr ⟨cuts_iff.mpr ⟨by omega, by rw [List.length_append]; omega, ?_⟩, ?_⟩, by omega⟩
    · rw [← h3]
      refine low_same (by omega) (by omega) fun j hj => ?_
      have e1 : C.length + (q - A.length) - r + j = C.length + (q - A.length - r + j) := by omega
      have e2 : q - r + j = A.length + (q - A.length - r + j) := by omega
      rw [e1, e2]
      exact wAt_behind (by omega)
    · rw [decide_eq_false (by omega)]
      rfl
  exact rise_ext (up A) (up C) fun x => ⟨key A C x, key C A x⟩
/-- the cuts between -/
def midOf (l : List Nat) (w r s e : Nat) : List Nat := ((cutsOf l w r).filter fun p => !decide (p < s + 1 - r)).filter fun p => decide (p < e + r + w)
theorem cuts_parts {l : List Nat} {w r s e : Nat} (hr : 1 ≤ r) (h : s ≤ e) : cutsOf l w r = aheadOf l w r s ++ (midOf l w r s e ++ (cutsOf l w r).filter fun p => !decide (p < e + r + w)) := by
  have h1 := rise_part (s + 1 - r) (cuts_rise l w r)
  have h2 := rise_part (e + r + w) ((cuts_rise l w r).filter fun p => !decide (p < s + 1 - r))
  have h3 : ((cutsOf l w r).filter fun p => !decide (p < s + 1 - r)).filter (fun p => !decide (p < e + r + w)) = (cutsOf l w r).filter fun p => !decide (p < e + r + w) := by
    rw [List.filter_filter]
    congr 1
    funext p
    by_cases c : p < e + r + w
    · rw [decide_eq_true c]
      simp
    · rw [decide_eq_false c, decide_eq_false (by omega)]
      rfl
  rw [h3] at h2
  unfold aheadOf midOf
  rw [← h2]
  exact h1
theorem mid_few {l : List Nat} {w r s e : Nat} (h : s ≤ e) (hr : 1 ≤ r) (hw : 1 ≤ w) : (midOf l w r s e).length ≤ (e - s + 3 * r + w - 1) / (r + 1) := by
  rw [Nat.le_div_iff_mul_le (by omega)]
  have hp : ((midOf l w r s e).map (· + r)).Pairwise fun p q => p + r < q := by
    rw [List.pairwise_map]
    unfold midOf
    exact (((cuts_far l w r).filter _).filter _).imp fun h => by omega
  have := spread r (e + r + w - 1 + r) ((midOf l w r s e).map (· + r)) (s + 1) hp fun p hp => by
    obtain ⟨q, hq, rfl⟩ := List.mem_map.mp hp
    unfold midOf at hq
    rw [List.mem_filter, List.mem_filter] at hq
    have h1 : ¬ q < s + 1 - r := of_decide_eq_false (by simpa using hq.1.2)
    have h2 : q < e + r + w := of_decide_eq_true hq.2
    omega
  rw [List.length_map] at this
  omega
theorem pieceG_ahead {A U Z : List Nat} {a b : Nat} (hb : b ≤ A.length) : pieceG (A ++ U) a b = pieceG (A ++ Z) a b := by
  by_cases h : a < b
  · rw [pieceG_pos h, pieceG_pos h]
    congr 1
    rw [List.drop_append_of_le_length (by omega), List.drop_append_of_le_length (by omega), List.take_append_of_le_length (by rw [List.length_drop]; omega), List.take_append_of_le_length (by rw [List.length_drop]; omega)]
  · rw [pieceG_eq h, pieceG_eq h]
theorem pieceG_behind {A C B : List Nat} {a b : Nat} : pieceG (A ++ B) (A.length + a) (A.length + b) = pieceG (C ++ B) (C.length + a) (C.length + b) := by
  by_cases h : a < b
  · rw [pieceG_pos (by omega), pieceG_pos (by omega)]
    congr 1
    have k : ∀ Z : List Nat, (Z ++ B).drop (Z.length + a) = B.drop a := by
      intro Z
      rw [List.drop_append, List.drop_eq_nil_of_le (by omega)]
      have : Z.length + a - Z.length = a := by omega
      rw [this]
      rfl
    rw [k, k]
    congr 1
    omega
  · rw [pieceG_eq (by omega), pieceG_eq (by omega)]
/-- the boundaries a change leaves, by the place where it ends -/
def tailOf (l : List Nat) (w r e : Nat) : List Nat := (cutsOf l w r).filter (fun p => !decide (p < e + r + w)) ++ [l.length]
theorem tail_same {A C B : List Nat} {w r : Nat} (hr : 1 ≤ r) : ∃ R : List Nat, tailOf (A ++ B) w r A.length = R.map (A.length + ·) ∧ tailOf (C ++ B) w r C.length = R.map (C.length + ·) := by
  have k : ∀ Z : List Nat, tailOf (Z ++ B) w r Z.length = (behindOf (Z ++ B) w r Z.length ++ [B.length]).map (Z.length + ·) := by
    intro Z
    unfold tailOf behindOf
    rw [List.map_append, List.map_map]
    congr 1
    · conv => lhs; rw [← List.map_id ((cutsOf (Z ++ B) w r).filter fun p => !decide (p < Z.length + r + w))]
      apply List.map_congr_left
      intro p hp
      have h2 : ¬ p < Z.length + r + w := of_decide_eq_false (by simpa using (List.mem_filter.mp hp).2)
      show p = Z.length + (p - Z.length)
      omega
    · rw [List.length_append]
      rfl
  refine ⟨behindOf (A ++ B) w r A.length ++ [B.length], k A, ?_⟩
  rw [k C, behind_same hr]
/-- THE TOLD FEW: of the pieces of A Y B at most so many are no pieces of A X B -/
theorem few_new (A X Y B : List Nat) {w r : Nat} (hr : 1 ≤ r) (hw : 1 ≤ w) :
    ((piecesOf (A ++ (Y ++ B)) w r).filter fun z => decide (z ∉ piecesOf (A ++ (X ++ B)) w r)).length ≤ (Y.length + 3 * r + w - 1) / (r + 1) + 1 := by
  have parts : ∀ X : List Nat, ∃ hd tl : List Nat, ∃ x y : Nat, (hd ++ [x] = 0 :: aheadOf (A ++ (X ++ B)) w r A.length) ∧ (y :: tl = tailOf (A ++ (X ++ B)) w r (A ++ X).length) ∧
      piecesOf (A ++ (X ++ B)) w r = pairsOf (pieceG (A ++ (X ++ B))) (0 :: aheadOf (A ++ (X ++ B)) w r A.length) ++ (pairsOf (pieceG (A ++ (X ++ B))) (x :: (midOf (A ++ (X ++ B)) w r A.length (A ++ X).length ++ [y])) ++ pairsOf (pieceG (A ++ (X ++ B))) (tailOf (A ++ (X ++ B)) w r (A ++ X).length)) := by
    intro X
    have hb : bounds (A ++ (X ++ B)) w r = (0 :: aheadOf (A ++ (X ++ B)) w r A.length) ++ (midOf (A ++ (X ++ B)) w r A.length (A ++ X).length ++ tailOf (A ++ (X ++ B)) w r (A ++ X).length) := by
      unfold bounds tailOf
      conv => lhs; rw [cuts_parts (l := A ++ (X ++ B)) (w := w) (r := r) (s := A.length) (e := (A ++ X).length) hr (by rw [List.length_append]; omega)]
      simp only [List.append_assoc, List.cons_append]
    obtain ⟨hd, x, e1⟩ : ∃ hd x, 0 :: aheadOf (A ++ (X ++ B)) w r A.length = hd ++ [x] := by
      rcases List.eq_nil_or_concat (0 :: aheadOf (A ++ (X ++ B)) w r A.length) with h | ⟨hd, x, h⟩
      · cases h
      · exact ⟨hd, x, by rw [h, List.concat_eq_append]⟩
    obtain ⟨y, tl, e2⟩ : ∃ y tl, tailOf (A ++ (X ++ B)) w r (A ++ X).length = y :: tl := by
      cases e : tailOf (A ++ (X ++ B)) w r (A ++ X).length with
      | nil =>
        unfold tailOf at e
        exact absurd e (by simp)
      | cons y tl => exact ⟨y, tl, rfl⟩
    refine ⟨hd, tl, x, y, e1.symm, e2.symm, ?_⟩
    unfold piecesOf
    rw [hb, e1, e2, List.append_assoc]
    rw [show hd ++ ([x] ++ (midOf (A ++ (X ++ B)) w r A.length (A ++ X).length ++ y :: tl)) = hd ++ x :: (midOf (A ++ (X ++ B)) w r A.length (A ++ X).length ++ y :: tl) from rfl, pairs_app]
    congr 1
    rw [show x :: (midOf (A ++ (X ++ B)) w r A.length (A ++ X).length ++ y :: tl) = (x :: midOf (A ++ (X ++ B)) w r A.length (A ++ X).length) ++ y :: tl from rfl, pairs_app]
    rfl
  obtain ⟨hdY, tlY, xY, yY, _, _, pY⟩ := parts Y
  obtain ⟨hdX, tlX, xX, yX, _, _, pX⟩ := parts X
  have eA : pairsOf (pieceG (A ++ (Y ++ B))) (0 :: aheadOf (A ++ (Y ++ B)) w r A.length) = pairsOf (pieceG (A ++ (X ++ B))) (0 :: aheadOf (A ++ (X ++ B)) w r A.length) := by
    have h := pairs_cong (g := pieceG (A ++ (Y ++ B))) (k := pieceG (A ++ (X ++ B))) id (0 :: aheadOf (A ++ (Y ++ B)) w r A.length) fun a ha b hb => by
      refine pieceG_ahead ?_
      rcases List.mem_cons.mp hb with rfl | hb
      · exact Nat.zero_le _
      · have := of_decide_eq_true (List.mem_filter.mp hb).2
        have := (cuts_mem (List.mem_filter.mp hb).1).1
        omega
    rw [List.map_id] at h
    rw [h, ahead_same hr]
  have eB : pairsOf (pieceG (A ++ (Y ++ B))) (tailOf (A ++ (Y ++ B)) w r (A ++ Y).length) = pairsOf (pieceG (A ++ (X ++ B))) (tailOf (A ++ (X ++ B)) w r (A ++ X).length) := by
    obtain ⟨R, h1, h2⟩ := tail_same (A := A ++ Y) (C := A ++ X) (B := B) (w := w) hr
    rw [← List.append_assoc, ← List.append_assoc, h1, h2]
    have a1 := pairs_cong (g := fun a b => pieceG (A ++ X ++ B) ((A ++ X).length + a) ((A ++ X).length + b)) (k := pieceG (A ++ X ++ B)) ((A ++ X).length + ·) R fun _ _ _ _ => rfl
    have a2 := pairs_cong (g := fun a b => pieceG (A ++ X ++ B) ((A ++ X).length + a) ((A ++ X).length + b)) (k := pieceG (A ++ Y ++ B)) ((A ++ Y).length + ·) R fun a _ b _ => pieceG_behind
    rw [← a1, ← a2]
  rw [pY, List.filter_append, List.filter_append, List.length_append, List.length_append]
  have none : ∀ Z : List (List Nat), (∀ z ∈ Z, z ∈ piecesOf (A ++ (X ++ B)) w r) → (Z.filter fun z => decide (z ∉ piecesOf (A ++ (X ++ B)) w r)).length = 0 := by
    intro Z hZ
    rw [List.length_eq_zero_iff, List.filter_eq_nil_iff]
    intro z hz
    rw [decide_eq_true_eq]
    exact fun h => h (hZ z hz)
  rw [none _ fun z hz => by
      rw [eA] at hz
      rw [pX]
      exact List.mem_append_left _ hz]
  rw [none (pairsOf (pieceG (A ++ (Y ++ B))) (tailOf (A ++ (Y ++ B)) w r (A ++ Y).length)) fun z hz => by
      rw [eB] at hz
      rw [pX]
      exact List.mem_append_right _ (List.mem_append_right _ hz)]
  have h1 := List.length_filter_le (fun z => decide (z ∉ piecesOf (A ++ (X ++ B)) w r)) (pairsOf (pieceG (A ++ (Y ++ B))) (xY :: (midOf (A ++ (Y ++ B)) w r A.length (A ++ Y).length ++ [yY])))
  have h2 := pairs_count (pieceG (A ++ (Y ++ B))) (xY :: (midOf (A ++ (Y ++ B)) w r A.length (A ++ Y).length ++ [yY]))
  have h3 := mid_few (l := A ++ (Y ++ B)) (w := w) (r := r) (s := A.length) (e := (A ++ Y).length) (by rw [List.length_append]; omega) hr hw
  simp only [List.length_cons, List.length_append (bs := [yY]), List.length_nil] at h2
  have e : (A ++ Y).length - A.length = Y.length := by rw [List.length_append]; omega
  rw [e] at h3
  omega

def fewI (c : Int) (w r : Nat) : Int := (c + 3 * (r : Int) + (w : Int) - 1) / ((r : Int) + 1) + 1
theorem few_nat (c w r : Nat) (hr : 1 ≤ r) : fewI (c : Int) w r = (((c + 3 * r + w - 1) / (r + 1) + 1 : Nat) : Int) := by
  unfold fewI
  have e : (c : Int) + 3 * (r : Int) + (w : Int) - 1 = ((c + 3 * r + w - 1 : Nat) : Int) := by omega
  rw [e]
  rfl
def aheadF (s r : Nat) (v : V) : Option V := match v with
  | .int i => if i + (r : Int) ≤ (s : Int) then some (.int i) else none
  | _ => none
theorem aheadF_map (s r : Nat) : ∀ ps : List Nat, (ps.map natV).filterMap (aheadF s r) = (ps.filter fun p => decide (p < s + 1 - r)).map natV
  | [] => rfl
  | p :: ps => by
    have ih := aheadF_map s r ps
    rw [List.map_cons, List.filterMap_cons]
    by_cases c : p < s + 1 - r
    · have e : aheadF s r (natV p) = some (natV p) := by
        show (if ((p : Nat) : Int) + (r : Int) ≤ (s : Int) then _ else _) = _
        rw [if_pos (by omega)]
      rw [e, List.filter_cons_of_pos (p := fun p => decide (p < s + 1 - r)) (decide_eq_true c), List.map_cons, ih]
    · have e : aheadF s r (natV p) = none := by
        show (if ((p : Nat) : Int) + (r : Int) ≤ (s : Int) then _ else _) = _
        rw [if_neg (by omega)]
      rw [e, List.filter_cons_of_neg (p := fun p => decide (p < s + 1 - r)) (by simpa using c), ih]
def behindF (e w r : Nat) (v : V) : Option V := match v with
  | .int i => if (e : Int) ≤ i - (r : Int) - (w : Int) then some (.int (i - (e : Int))) else none
  | _ => none
theorem behindF_map (e w r : Nat) : ∀ ps : List Nat, (ps.map natV).filterMap (behindF e w r) = ((ps.filter fun p => !decide (p < e + r + w)).map (· - e)).map natV
  | [] => rfl
  | p :: ps => by
    have ih := behindF_map e w r ps
    rw [List.map_cons, List.filterMap_cons]
    by_cases c : p < e + r + w
    · have q : behindF e w r (natV p) = none := by
        show (if (e : Int) ≤ ((p : Nat) : Int) - (r : Int) - (w : Int) then _ else _) = _
        rw [if_neg (by omega)]
      rw [q, List.filter_cons_of_neg (p := fun p => !decide (p < e + r + w)) (by simpa using c), ih]
    · have q : behindF e w r (natV p) = some (natV (p - e)) := by
        show (if (e : Int) ≤ ((p : Nat) : Int) - (r : Int) - (w : Int) then some (V.int (((p : Nat) : Int) - (e : Int))) else _) = _
        rw [if_pos (by omega)]
        congr 2
        omega
      rw [q, List.filter_cons_of_pos (p := fun p => !decide (p < e + r + w)) (by simpa using c), List.map_cons, List.map_cons, ih]
theorem cut_drop {z : List Nat} {n : Nat} (h : n ≤ z.length) : cutS (st z) (some (n : Int)) none = st (z.drop n) := by
  unfold cutS
  rw [codes_st, HT.sIx_none, HT.sIx_nat, len_st, Nat.min_eq_left h]
  rw [List.take_of_length_le (by rw [List.length_drop]; omega)]
  rfl
/-- the pieces that are not among others -/
def newF (ys : List (List Nat)) (v : V) : Option V := if inV v (ys.map txtV) = true then none else some v
theorem newF_map (ys : List (List Nat)) : ∀ zs : List (List Nat), ((zs.map txtV).filterMap (newF ys)).length = (zs.filter fun z => decide (z ∉ ys)).length
  | [] => rfl
  | z :: zs => by
    have ih := newF_map ys zs
    rw [List.map_cons, List.filterMap_cons]
    by_cases c : z ∈ ys
    · have e : newF ys (txtV z) = none := by
        unfold newF
        rw [inV_txt, decide_eq_true c]
        rfl
      rw [e, List.filter_cons_of_neg (p := fun z => decide (z ∉ ys)) (by simpa using c), ih]
    · have e : newF ys (txtV z) = some (txtV z) := by
        unfold newF
        rw [inV_txt, decide_eq_false c]
        rfl
      rw [e, List.filter_cons_of_pos (p := fun z => decide (z ∉ ys)) (by simpa using c), List.length_cons, List.length_cons, ih]
section
variable {P : Program} {w : World} {K : PySem.W.Frag} {mg : Str → Option Value} {base : Heap}
def sp_weight (K : PySem.W.Frag) : Sp := fun vs H Q _ => ∃ (l : List Nat), vs = [.str (st l)] ∧ Q (.int (wt l)) H
theorem ok_weight (W : Wd K mg) : FnOk P w K mg base CX0 1 W.f_weight W.d_weight ["signs"] (sp_weight K) := by
  refine W.F_weight.ok sc_weight (fun vs H Q E h => ?_) (fun cdv A outer s H vs Q E hr h => ?_)
  · obtain ⟨l, rfl, q⟩ := h
    rfl
  · obtain ⟨l, rfl, q⟩ := h
    refine ⟨_, (pss_cons (ps_set (i := 1) sc_weight.nd rfl (by first | exact Or.inl rfl | exact Or.inr rfl) (pe_glob (v := .int 7) (by rfl) W.m_WEIGHT_START ⟨_, rfl⟩))
      (pss_cons (ps_for PassesOwn.never rfl (pi_str (pv 0)) (pg_name (i := 2) sc_weight.nd rfl (by first | exact Or.inl rfl | exact Or.inr rfl)) (pss_one (ps_set (i := 1) sc_weight.nd rfl (by first | exact Or.inl rfl | exact Or.inr rfl) (pe_op y_mod (pe_op (y_add (K := K)) (pe_op y_mul (pv 1) (pe_glob (v := .int 131) (by rfl) W.m_WEIGHT_FACTOR ⟨_, rfl⟩)) (pe_callB y_ord (by rfl) W.z_ord (by decide +kernel) (pa_cons (pv 2) pa_nil))) (pe_glob (v := .int 65521) (by rfl) W.m_WEIGHT_DIVISOR ⟨_, rfl⟩)))))
      (pss_one (ps_ret (pv 1))))), ?_⟩
    walk_at "ev"
    refine for_sgn (fun i σ' H' => H' = H ∧ ∃ x, σ' = [some (V.str (st l)), some (V.int (wt (l.take i))), x]) ⟨rfl, none, rfl⟩ ?_ ?_
    · rintro i c σ' H' hi ⟨rfl, x, rfl⟩
      walk_at "ev"
      rw [wt_take hi]
      exact ⟨_, rfl⟩
    · rintro σ' H' ⟨rfl, x, rfl⟩
      walk_at "ev"
      rw [List.take_length]
      exact q
def sp_few (K : PySem.W.Frag) : Sp := fun vs H Q _ => ∃ (c : Int) (w r : Nat), vs = [.int c, .int (w : Int), .int (r : Int)] ∧ r ≤ 1000 ∧ Q (.int (fewI c w r)) H
theorem ok_few (W : Wd K mg) : FnOk P w K mg base CX0 1 W.f_few W.d_few ["count", "width", "reach"] (sp_few K) := by
  refine W.F_few.ok sc_few (fun vs H Q E h => ?_) (fun cdv A outer s H vs Q E hr h => ?_)
  · obtain ⟨c, w, r, rfl, hb, q⟩ := h
    rfl
  · obtain ⟨c, w, r, rfl, hb, q⟩ := h
    refine ⟨_, (pss_one (ps_ret (pe_op (y_add (K := K)) (pe_op y_fdiv (pe_op y_sub (pe_op (y_add (K := K)) (pe_op (y_add (K := K)) (pv 0) (pe_op y_mul pe_int (pv 2))) (pv 1)) pe_int) (pe_op (y_add (K := K)) (pv 2) pe_int)) pe_int))), ?_⟩
    walk_at "ev"
    refine ⟨⟨by omega, by omega⟩, q⟩
def sp__weights_by_place (K : PySem.W.Frag) : Sp := fun vs H Q _ => ∃ (l : List Nat) (w : Nat), vs = [.str (st l), .int (w : Int)] ∧ (l.length ≤ 8000000 ∧ w ≤ 8) ∧ ∀ D H', Same H H' → H D = none → H' D = some (.dK (wDict l w)) → Q (.ref D) H'
theorem ok__weights_by_place (W : Wd K mg) : FnOk P w K mg base CX0 2 W.f__weights_by_place W.d__weights_by_place ["text", "width"] (sp__weights_by_place K) := by
  refine W.F__weights_by_place.ok sc__weights_by_place (fun vs H Q E h => ?_) (fun cdv A outer s H vs Q E hr h => ?_)
  · obtain ⟨l, w, rfl, hb, q⟩ := h
    rfl
  · obtain ⟨l, w, rfl, hb, q⟩ := h
    refine ⟨_, (pss_one (ps_ret (pe_dc (own := [("place", 2)]) (g := gName 2) (by rfl) sc__weights_by_place.nd (pi_range2 (by rfl) W.z_range (pa_cons (pv 1) (pa_cons (pe_op (y_add (K := K)) (pe_callB (y_len (K := K)) (by rfl) W.z_len (by decide +kernel) (pa_cons (pv 0) pa_nil)) pe_int) pa_nil))) (blkOk_by (own := [("place", 2)]) (N := N__weights_by_place) (sc := defScope s__weights_by_place) (by decide +kernel)) (fun _ _ _ _ _ => pg_name (i := 2) sc__weights_by_place.nd rfl (Or.inl rfl)) (fun _ _ _ _ _ => pts_nil) (fun _ _ _ _ _ => (pv 2)) (fun _ _ _ _ _ => (pe_call (ok_weight W) (hr.mono (by first | decide | omega)) (by rfl) W.m_weight W.F_weight.kp W.b_weight .nil pass0 (pa_cons (pe_slice (y_sl (K := K)) (pv 0) (po_some (pe_op y_sub (pv 2) (pv 1))) (po_some (pv 2))) pa_nil)))))), ?_⟩
    walk_at "ev"
    refine ⟨by omega, by omega, fun D hD => ?_⟩
    have hn : ((l.length : Int) + 1 - (w : Int)).toNat = l.length + 1 - w := by omega
    rw [hn]
    refine dc_rng (wKey w) (wVal l w) (wKey_inj w) hD (by omega) (fun i H1 hi sm N hN => ?_) (fun H1 sm h => q D H1 sm hD h)
    walk_at "ev"
    have e1 : (w : Int) + (i : Int) - (w : Int) = (i : Int) := by omega
    have e2 : (w : Int) + (i : Int) = ((w + i : Nat) : Int) := by omega
    rw [e1, e2]
    rw [cut_mid (by omega) (by omega)]
    refine ⟨by omega, _, rfl, ?_⟩
    have h := hN H1 (Same.refl H1)
    unfold wVal wAt at h
    rw [Nat.add_sub_cancel_left] at h
    have e3 : w + i - i = w := by omega
    rw [e3]
    exact h
def sp__is_lightest (K : PySem.W.Frag) : Sp := fun vs H Q _ => ∃ (D : Addr) (p r : Nat) (l : List Nat) (w : Nat), vs = [.ref D, .int (p : Int), .int (r : Int)] ∧ (H D = some (.dK (wDict l w)) ∧ w + r ≤ p ∧ p + r ≤ l.length ∧ l.length ≤ 8000000) ∧ Q (.bl (lowB l w r p)) H
theorem ok__is_lightest (W : Wd K mg) : FnOk P w K mg base CX0 1 W.f__is_lightest W.d__is_lightest ["weights", "place", "reach"] (sp__is_lightest K) := by
  refine W.F__is_lightest.ok sc__is_lightest (fun vs H Q E h => ?_) (fun cdv A outer s H vs Q E hr h => ?_)
  · obtain ⟨D, p, r, l, w, rfl, ⟨hD, h1, h2, h3⟩, q⟩ := h
    rfl
  · obtain ⟨D, p, r, l, w, rfl, ⟨hD, h1, h2, h3⟩, q⟩ := h
    refine ⟨_, (pss_cons (ps_for PassesOwn.never rfl (pi_range2 (by rfl) W.z_range (pa_cons (pe_op y_sub (pv 1) (pv 2)) (pa_cons (pe_op (y_add (K := K)) (pe_op (y_add (K := K)) (pv 1) (pv 2)) pe_int) pa_nil))) (pg_name (i := 3) sc__is_lightest.nd rfl (by first | exact Or.inl rfl | exact Or.inr rfl)) (pss_one (ps_if (PW.pt (pw_and (pt_cmpR (y_ne (K := K) hr.units) (pv 3) (pv 1) (nomark _)) (pw_and1 (pt_cmpR y_le (pe_dget (hu_of hr) (pv 0) (pv 3) (fun _ _ => rfl)) (pe_dget (hu_of hr) (pv 0) (pv 1) (fun _ _ => rfl)) (nomark _))))) (pss_one (ps_ret pe_bl)) pss_nil)))
      (pss_one (ps_ret pe_bl))), ?_⟩
    walk_at "ev"
    refine ⟨by omega, ?_⟩
    have hn : ((p : Int) + (r : Int) + 1 - ((p : Int) - (r : Int))).toNat = 2 * r + 1 := by omega
    rw [hn]
    refine for_rng (fun i σ H' => H' = H ∧ (∀ j, j < i → j ≠ r → wAt l w p < wAt l w (p - r + j)) ∧ ∃ x, σ = [some (V.ref D), some (V.int (p : Int)), some (V.int (r : Int)), x]) ⟨rfl, fun j hj => absurd hj (Nat.not_lt_zero j), none, rfl⟩ ?_ ?_
    · rintro i σ H' hi ⟨rfl, hall, x, rfl⟩
      have e : (p : Int) - (r : Int) + (i : Int) = ((p - r + i : Nat) : Int) := by omega
      have hp : DGet H' D (.int ((p - r + i : Nat) : Int)) (some (.int (wAt l w (p - r + i)))) := by
        have := DGet.k (k := Sum.inl ((p - r + i : Nat) : Int)) hD
        rw [wDict_at (by omega) (by omega)] at this
        exact this
      have hq : DGet H' D (.int (p : Int)) (some (.int (wAt l w p))) := by
        have := DGet.k (k := Sum.inl (p : Int)) hD
        rw [wDict_at (by omega) (by omega)] at this
        exact this
      walk_at "ev"
      rw [e]
      refine brT_of (fun hc => ?_) (fun hc => ?_) <;> walk_at "ev"
      · refine ⟨_, hp, _, hq, ?_⟩
        walk_at "ev"
        refine brS_of (fun hd => ?_) (fun hd => ?_) <;> walk_at "ev"
        · rw [lowB_no hi (by
            have := of_decide_eq_false (by simpa using hc)
            omega) (of_decide_eq_true hd)] at q
          exact q
        · refine ⟨fun j hj hr => ?_, _, rfl⟩
          by_cases ej : j = i
          · rw [ej]
            have := of_decide_eq_false hd
            omega
          · exact hall j (by omega) hr
      · refine ⟨fun j hj hr => ?_, _, rfl⟩
        by_cases ej : j = i
        · have := of_decide_eq_true (by simpa using hc)
          omega
        · exact hall j (by omega) hr
    · rintro σ H' ⟨rfl, hall, x, rfl⟩
      walk_at "ev"
      rw [lowB_iff.mpr hall] at q
      exact q
def sp_cuts (K : PySem.W.Frag) : Sp := fun vs H Q _ => ∃ (l : List Nat) (w r : Nat), vs = [.str (st l), .int (w : Int), .int (r : Int)] ∧ (l.length ≤ 8000000 ∧ w ≤ 8 ∧ r ≤ 40) ∧ ∀ D H', Same H H' → H D = none → H' D = some (.lst ((cutsOf l w r).map natV)) → Q (.ref D) H'
theorem ok_cuts (W : Wd K mg) : FnOk P w K mg base CX0 3 W.f_cuts W.d_cuts ["text", "width", "reach"] (sp_cuts K) := by
  refine W.F_cuts.ok sc_cuts (fun vs H Q E h => ?_) (fun cdv A outer s H vs Q E hr h => ?_)
  · obtain ⟨l, w, r, rfl, hb, q⟩ := h
    rfl
  · obtain ⟨l, w, r, rfl, hb, q⟩ := h
    refine ⟨_, (pss_cons (ps_set (i := 3) sc_cuts.nd rfl (by first | exact Or.inl rfl | exact Or.inr rfl) (pe_call (ok__weights_by_place W) (hr.mono (by first | decide | omega)) (by rfl) W.m__weights_by_place W.F__weights_by_place.kp W.b__weights_by_place .nil pass0 (pa_cons (pv 0) (pa_cons (pv 1) pa_nil))))
      (pss_one (ps_ret (pe_lc (own := [("place", 4)]) (g := gName 4) (by rfl) sc_cuts.nd (pi_range2 (by rfl) W.z_range (pa_cons (pe_op (y_add (K := K)) (pv 1) (pv 2)) (pa_cons (pe_op (y_add (K := K)) (pe_op y_sub (pe_callB (y_len (K := K)) (by rfl) W.z_len (by decide +kernel) (pa_cons (pv 0) pa_nil)) (pv 2)) pe_int) pa_nil))) (blkOk_by (own := [("place", 4)]) (N := N_cuts) (sc := defScope s_cuts) (by decide +kernel)) (fun _ _ _ _ _ => pg_name (i := 4) sc_cuts.nd rfl (Or.inl rfl)) (fun _ _ _ _ _ => pts_one (pt_val (pe_call (ok__is_lightest W) (hr.mono (by first | decide | omega)) (by rfl) W.m__is_lightest W.F__is_lightest.kp W.b__is_lightest .nil pass0 (pa_cons (pv 3) (pa_cons (pv 4) (pa_cons (pv 2) pa_nil)))))) (fun _ _ _ _ _ => (pv 4)))))), ?_⟩
    walk_at "ev"
    refine ⟨l, w, rfl, ⟨by omega, by omega⟩, fun D1 H1 sm1 hn1 hd1 => ?_⟩
    walk_at "ev"
    refine ⟨by omega, ⟨by omega, by omega, by omega, by omega⟩, fun D hD => ?_⟩
    have hn : ((l.length : Int) - (r : Int) + 1 - ((w : Int) + (r : Int))).toNat = l.length + 1 - (w + 2 * r) := by omega
    rw [hn]
    refine lc_rng (fun i => (cutF l w r i).map natV) hD (by omega) (fun i H2 hi sm Ny Nn hy hz => ?_) (fun H2 sm h => ?_)
    · walk_at "ev"
      have e : (w : Int) + (r : Int) + (i : Int) = ((w + r + i : Nat) : Int) := by omega
      rw [e]
      refine ⟨D1, w + r + i, r, l, w, rfl, ⟨sm _ _ hd1, by omega, by omega, by omega⟩, ?_⟩
      walk_at "ev"
      refine br_of (fun hc => ?_) (fun hc => ?_)
      · exact hy _ _ (Same.refl _) (by unfold cutF; rw [if_pos hc]; rfl)
      · exact hz _ (Same.refl _) (by unfold cutF; rw [hc]; rfl)
    · rw [cutV_map] at h
      exact q D H2 (sm1.trans sm) (sm1.free hD) h
    
def sp_pieces (K : PySem.W.Frag) : Sp := fun vs H Q _ => ∃ (l : List Nat) (w r : Nat), vs = [.str (st l), .int (w : Int), .int (r : Int)] ∧ (l.length ≤ 8000000 ∧ w ≤ 8 ∧ r ≤ 40) ∧ ∀ D H', Same H H' → H D = none → H' D = some (.lst ((piecesOf l w r).map txtV)) → Q (.ref D) H'
theorem ok_pieces (W : Wd K mg) : FnOk P w K mg base CX0 4 W.f_pieces W.d_pieces ["text", "width", "reach"] (sp_pieces K) := by
  refine W.F_pieces.ok sc_pieces (fun vs H Q E h => ?_) (fun cdv A outer s H vs Q E hr h => ?_)
  · obtain ⟨l, w, r, rfl, hb, q⟩ := h
    rfl
  · obtain ⟨l, w, r, rfl, hb, q⟩ := h
    refine ⟨_, (pss_cons (ps_set (i := 3) sc_pieces.nd rfl (by first | exact Or.inl rfl | exact Or.inr rfl) (pe_op (y_add (K := K)) (pe_op (y_add (K := K)) (pe_lst (pa_cons pe_int pa_nil)) (pe_call (ok_cuts W) (hr.mono (by first | decide | omega)) (by rfl) W.m_cuts W.F_cuts.kp W.b_cuts .nil pass0 (pa_cons (pv 0) (pa_cons (pv 1) (pa_cons (pv 2) pa_nil))))) (pe_lst (pa_cons (pe_callB (y_len (K := K)) (by rfl) W.z_len (by decide +kernel) (pa_cons (pv 0) pa_nil)) pa_nil))))
      (pss_one (ps_ret (pe_lc (own := [("start", 4), ("end", 5)]) (g := gTup K 2 (gCons (gName 4) (gCons (gName 5) (gNil)))) (by rfl) sc_pieces.nd (pi_zip (by rfl) W.z_zip (pa_cons (pv 3) (pa_cons (pe_slice (y_sl (K := K)) (pv 3) (po_some pe_int) po_none) pa_nil))) (blkOk_by (own := [("start", 4), ("end", 5)]) (N := N_pieces) (sc := defScope s_pieces) (by decide +kernel)) (fun _ _ _ _ _ => pg_tup (by rfl) (pgs_cons (pg_name (i := 4) sc_pieces.nd rfl (Or.inl rfl)) (pgs_cons (pg_name (i := 5) sc_pieces.nd rfl (Or.inl rfl)) (pgs_nil)))) (fun _ _ _ _ _ => pts_one (pt_cmpR y_lt (pv 4) (pv 5) (nomark _))) (fun _ _ _ _ _ => (pe_slice (y_sl (K := K)) (pv 0) (po_some (pv 4)) (po_some (pv 5)))))))), ?_⟩
    walk_at "ev"
    intro p0 hp0
    refine ⟨l, w, r, rfl, hb, fun D1 H1 sm1 hn1 hd1 => ?_⟩
    walk_at "ev"
    have hcl : (cutsOf l w r).length ≤ l.length + 1 := cuts_count l w r
    have h0 : H1 p0 = some (.lst [V.int 0]) := sm1 _ _ upd_same
    refine ⟨_, _, h0, hd1, by rw [List.length_map]; simp only [List.length_cons, List.length_nil]; omega, fun p1 hp1 => ?_⟩
    refine ⟨by omega, fun p2 hp2 => ?_⟩
    have h1 : upd (upd H1 p1 (.lst ([V.int 0] ++ (cutsOf l w r).map natV))) p2 (.lst [V.int l.length]) p1 = some (.lst ([V.int 0] ++ (cutsOf l w r).map natV)) := upd_of upd_same hp2
    refine ⟨_, _, h1, upd_same, by rw [List.length_append, List.length_map]; simp only [List.length_cons, List.length_nil]; omega, fun p3 hp3 => ?_⟩
    have hB : [V.int 0] ++ (cutsOf l w r).map natV ++ [V.int l.length] = (bounds l w r).map natV := by
      unfold bounds
      rw [List.map_cons, List.map_append]
      rfl
    rw [hB]
    have s0 : Same H (upd H p0 (.lst [V.int 0])) := same_new hp0
    have s3 := same_upd (o := .lst ((bounds l w r).map natV)) (same_upd (o := .lst [V.int l.length]) (same_upd (o := .lst ([V.int 0] ++ (cutsOf l w r).map natV)) (s0.trans sm1) hp1) hp2) hp3
    have hb3 : upd (upd (upd H1 p1 (.lst ([V.int 0] ++ (cutsOf l w r).map natV))) p2 (.lst [V.int l.length])) p3 (.lst ((bounds l w r).map natV)) p3 = some (.lst ((bounds l w r).map natV)) := upd_same
    generalize upd (upd (upd H1 p1 (.lst ([V.int 0] ++ (cutsOf l w r).map natV))) p2 (.lst [V.int l.length])) p3 (.lst ((bounds l w r).map natV)) = H4 at s3 hb3 ⊢
    refine ⟨_, SqL.of hb3, fun p4 hp4 => ?_⟩
    rw [cutV_one]
    refine ⟨p3, p4, _, _, rfl, SqL.of (upd_of hb3 hp4), SqL.of upd_same, fun D hD => ?_⟩
    have hlen : ((bounds l w r).map natV).length = (bounds l w r).length := List.length_map _
    have hbl : (bounds l w r).length = (cutsOf l w r).length + 2 := by simp [bounds]
    refine lc_zip (pieceV l) (by decide) hD (SqL.of (upd_of hb3 hp4)) (SqL.of upd_same) ((bounds l w r).length - 1) (by rw [List.length_drop, hlen]; omega) (by omega) ?_ ?_
    · intro i x y H6 hx hy sm6 Ny Nn h1 h2
      obtain ⟨a, ha, rfl⟩ : ∃ a, (bounds l w r)[i]? = some a ∧ natV a = x := by
        rw [List.getElem?_map] at hx
        exact Option.map_eq_some_iff.mp hx
      obtain ⟨b, hb', rfl⟩ : ∃ b, (bounds l w r)[1 + i]? = some b ∧ natV b = y := by
        rw [List.getElem?_drop, List.getElem?_map] at hy
        exact Option.map_eq_some_iff.mp hy
      walk_at "ev"
      have hle : ∀ c, c ∈ bounds l w r → c ≤ l.length := by
        intro c hc
        unfold bounds at hc
        rcases List.mem_cons.mp hc with rfl | hc
        · exact Nat.zero_le _
        rcases List.mem_append.mp hc with hc | hc
        · have := cuts_mem hc
          omega
        · rw [List.mem_singleton] at hc
          omega
      have hb2 := hle b (List.mem_of_getElem? hb')
      refine br_of (fun hc => ?_) (fun hc => ?_)
      · have hab : a < b := by
          have := of_decide_eq_true hc
          omega
        rw [cut_mid (by omega) hb2]
        refine ⟨by omega, h1 _ _ (Same.refl _) ?_⟩
        show (pieceG l ((a : Int).toNat) ((b : Int).toNat)).map txtV = _
        rw [Int.toNat_natCast, Int.toNat_natCast]
        unfold pieceG
        rw [if_pos hab]
        rfl
      · refine h2 _ (Same.refl _) ?_
        show (pieceG l ((a : Int).toNat) ((b : Int).toNat)).map txtV = _
        rw [Int.toNat_natCast, Int.toNat_natCast]
        unfold pieceG
        have := of_decide_eq_false hc
        rw [if_neg (by omega)]
        rfl
    · intro H6 sm6 h6
      have e := pairs_range (pieceG l) txtV (pieceV l) (fun a b => by
        show (pieceG l ((a : Int).toNat) ((b : Int).toNat)).map txtV = _
        rw [Int.toNat_natCast, Int.toNat_natCast]) (bounds l w r)
      rw [e] at h6
      exact q D H6 ((same_upd s3 hp4).trans sm6) ((same_upd s3 hp4).free hD) h6
    
def sp__law_cell_at (K : PySem.W.Frag) : Sp := fun vs H Q _ => ∃ (l : Addr) (ns : List Int) (j : Nat), vs = [.ref l, .int (j : Int)] ∧ SqL K H l (ns.map V.int) ∧ Q (.int (cel ns j)) H
theorem ok__law_cell_at (W : Wd K mg) : FnOk P w K mg base CX0 1 W.f__law_cell_at W.d__law_cell_at ["_law_script", "_law_k"] (sp__law_cell_at K) := by
  refine W.F__law_cell_at.ok sc__law_cell_at (fun vs H Q E h => ?_) (fun cdv A outer s H vs Q E hr h => ?_)
  · obtain ⟨l, ns, j, rfl, hS, q⟩ := h
    rfl
  · obtain ⟨l, ns, j, rfl, hS, q⟩ := h
    refine ⟨_, (pss_cons (ps_if (pt_cmpR y_lt (pv 1) (pe_callB (y_len (K := K)) (by rfl) W.z_len (by decide +kernel) (pa_cons (pv 0) pa_nil)) (nomark _)) (pss_one (ps_ret (pe_ix (y_ix (K := K)) (pv 0) (pv 1) (fun _ _ => rfl)))) pss_nil)
      (pss_one (ps_ret pe_int))), ?_⟩
    walk_at "ev"
    refine ⟨_, .inl hS, brS_of (fun hc => ?_) (fun hc => ?_)⟩ <;> walk_at "ev"
    · have hj : j < ns.length := by
        have := of_decide_eq_true hc
        rw [List.length_map] at this
        omega
      exact ⟨_, _, .inl hS, atI_map V.int ns (cel_in hj), q⟩
    · have hj : ¬ j < ns.length := by
        have := of_decide_eq_false hc
        rw [List.length_map] at this
        omega
      rw [cel_out hj] at q
      exact q
def sp__law_whole (K : PySem.W.Frag) : Sp := fun vs H Q _ => ∃ (i : Int), vs = [.int i] ∧ Q (.bl true) H
theorem ok__law_whole (W : Wd K mg) : FnOk P w K mg base CX0 1 W.f__law_whole W.d__law_whole ["_law_got"] (sp__law_whole K) := by
  refine W.F__law_whole.ok sc__law_whole (fun vs H Q E h => ?_) (fun cdv A outer s H vs Q E hr h => ?_)
  · obtain ⟨i, rfl, q⟩ := h
    rfl
  · obtain ⟨i, rfl, q⟩ := h
    refine ⟨_, (pss_one (ps_ret (pe_and (pe_callB y_isi (by rfl) W.z_isinstance (by decide +kernel) (pa_cons (pv 0) (pa_cons (pe_bltn (v := .ty "int") (by rfl) W.z_int (by decide +kernel) rfl) pa_nil))) (pe_one (pe_not (pe_callB y_isi (by rfl) W.z_isinstance (by decide +kernel) (pa_cons (pv 0) (pa_cons (pe_bltn (v := .ty "bool") (by rfl) W.z_bool (by decide +kernel) rfl) pa_nil)))))))), ?_⟩
    walk_at "ev"
    exact q
def sp__law_sign_by (K : PySem.W.Frag) : Sp := fun vs H Q _ => ∃ (i : Int), vs = [.int i] ∧ Q (.str (st [sgn i])) H
theorem ok__law_sign_by (W : Wd K mg) : FnOk P w K mg base CX0 1 W.f__law_sign_by W.d__law_sign_by ["_law_cell"] (sp__law_sign_by K) := by
  refine W.F__law_sign_by.ok sc__law_sign_by (fun vs H Q E h => ?_) (fun cdv A outer s H vs Q E hr h => ?_)
  · obtain ⟨i, rfl, q⟩ := h
    rfl
  · obtain ⟨i, rfl, q⟩ := h
    refine ⟨_, (pss_cons (ps_set (i := 1) sc__law_sign_by.nd rfl (by first | exact Or.inl rfl | exact Or.inr rfl) pe_str)
      (pss_cons (ps_set (i := 1) sc__law_sign_by.nd rfl (by first | exact Or.inl rfl | exact Or.inr rfl) (pe_op (y_add (K := K)) (pv 1) pe_str))
      (pss_one (ps_ret (pe_ix (y_ix (K := K)) (pv 1) (pe_op y_mod (pv 0) pe_int) (fun _ _ => rfl)))))), ?_⟩
    walk_at "ev"
    refine ⟨by decide +kernel, sgn i, by decide +kernel, sgn_at i, q⟩
def sp__law_text_by (K : PySem.W.Frag) : Sp := fun vs H Q _ => ∃ (c : Int) (n : Nat), vs = [.int c, .int (n : Int)] ∧ n ≤ 4000 ∧ ∀ H', Same H H' → Q (.str (st (textBy c n))) H'
theorem ok__law_text_by (W : Wd K mg) : FnOk P w K mg base CX0 2 W.f__law_text_by W.d__law_text_by ["_law_cell", "_law_size"] (sp__law_text_by K) := by
  refine W.F__law_text_by.ok sc__law_text_by (fun vs H Q E h => ?_) (fun cdv A outer s H vs Q E hr h => ?_)
  · obtain ⟨c, n, rfl, hn, q⟩ := h
    rfl
  · obtain ⟨c, n, rfl, hn, q⟩ := h
    refine ⟨_, (pss_cons (ps_set (i := 2) sc__law_text_by.nd rfl (by first | exact Or.inl rfl | exact Or.inr rfl) (pe_ix (y_ix (K := K)) (pe_lst (pa_cons pe_int (pa_cons pe_int (pa_cons pe_int (pa_cons pe_int pa_nil))))) (pe_op y_mod (pv 0) pe_int) (fun _ _ => rfl)))
      (pss_cons (ps_set (i := 3) sc__law_text_by.nd rfl (by first | exact Or.inl rfl | exact Or.inr rfl) (pv 1))
      (pss_cons (ps_if (pt_cmpR (y_eq (K := K) hr.units) (pe_op y_mod (pv 0) pe_int) pe_int (nomark _)) (pss_one (ps_set (i := 3) sc__law_text_by.nd rfl (by first | exact Or.inl rfl | exact Or.inr rfl) (pe_callB (y_min rfl) (by rfl) W.z_min (by decide +kernel) (pa_cons (pv 1) (pa_cons (pe_op (y_add (K := K)) pe_int (pe_op y_mod (pe_op y_fdiv (pv 0) pe_int) pe_int)) pa_nil))))) pss_nil)
      (pss_cons (ps_if (pt_cmpR (y_eq (K := K) hr.units) (pv 3) pe_int (nomark _)) (pss_one (ps_ret pe_str)) pss_nil)
      (pss_cons (ps_set (i := 4) sc__law_text_by.nd rfl (by first | exact Or.inl rfl | exact Or.inr rfl) pe_str)
      (pss_cons (ps_set (i := 5) sc__law_text_by.nd rfl (by first | exact Or.inl rfl | exact Or.inr rfl) (pv 0))
      (pss_cons (ps_for PassesOwn.never rfl (pi_range1 (by rfl) W.z_range (pa_cons (pv 3) pa_nil)) (pg_name (i := 6) sc__law_text_by.nd rfl (by first | exact Or.inl rfl | exact Or.inr rfl)) (pss_cons (ps_set (i := 5) sc__law_text_by.nd rfl (by first | exact Or.inl rfl | exact Or.inr rfl) (pe_op y_mod (pe_op (y_add (K := K)) (pe_op y_mul (pv 5) pe_int) pe_int) pe_int))
      (pss_one (ps_set (i := 4) sc__law_text_by.nd rfl (by first | exact Or.inl rfl | exact Or.inr rfl) (pe_op (y_add (K := K)) (pv 4) (pe_call (ok__law_sign_by W) (hr.mono (by first | decide | omega)) (by rfl) W.m__law_sign_by W.F__law_sign_by.kp W.b__law_sign_by .nil pass0 (pa_cons (pe_op (y_add (K := K)) pe_int (pe_op y_mod (pe_op y_fdiv (pv 5) pe_int) (pv 2))) pa_nil)))))))
      (pss_one (ps_ret (pe_slice (y_sl (K := K)) (pe_op y_mul (pv 4) (pe_op (y_add (K := K)) (pe_op y_fdiv (pv 1) (pv 3)) pe_int)) po_none (po_some (pv 1)))))))))))), ?_⟩
    walk_at "ev"
    intro p hp
    refine ⟨_, _, .inl (SqL.of upd_same), sgs_at c, ?_⟩
    have sm := same_new (o := .lst [V.int 2, V.int 95, V.int 95, V.int 1]) hp
    generalize upd H p (.lst [V.int 2, V.int 95, V.int 95, V.int 1]) = H1 at sm ⊢
    have hs := sgs_pos c
    refine brS_join (R := fun σ H => H = H1 ∧ σ = [some (V.int c), some (V.int (n : Int)), some (V.int (sgs c)), some (V.int (blkN c n : Nat)), none, none, none]) ?_ ?_
    · rintro σ H2 ⟨rfl, rfl⟩
      walk_at "ev"
      refine brS_of (fun hc => ?_) (fun hc => ?_) <;> walk_at "ev"
      · have h0 : blkN c n = 0 := by
          have := of_decide_eq_true hc
          omega
        have hn0 : n = 0 := by
          refine Nat.eq_zero_of_not_pos fun hp => ?_
          have := blkN_pos (c := c) hp
          omega
        have := q _ sm
        rw [hn0] at this
        exact this
      · have h0 : 0 < blkN c n := by
          have := of_decide_eq_false hc
          omega
        have hle := blkN_le c n
        refine ⟨by omega, ?_⟩
        rw [Int.toNat_natCast]
        refine for_rng (fun i σ H' => H' = H2 ∧ ∃ x, σ = [some (V.int c), some (V.int (n : Int)), some (V.int (sgs c)), some (V.int (blkN c n : Nat)), some (V.str (st (blk c i))), some (V.int (numS c i)), x]) ⟨rfl, none, rfl⟩ ?_ ?_
        · rintro i σ H' hi ⟨rfl, x, rfl⟩
          walk_at "ev"
          refine ⟨hs, _, rfl, ?_⟩
          walk_at "ev"
          refine ⟨?_, ?_⟩
          · rw [blk_len]
            omega
          · rw [blk_succ]
            exact ⟨_, rfl⟩
        · rintro σ H' ⟨rfl, x, rfl⟩
          walk_at "ev"
          have hd : (n : Int) / (blkN c n : Int) = ((n / blkN c n : Nat) : Int) := rfl
          have hd2 : n / blkN c n ≤ n := Nat.div_le_self _ _
          have hl : (repS (blk c (blkN c n)) (n / blkN c n + 1)).length ≤ 8000 := by
            rw [repS_len, blk_len, Nat.add_mul]
            have hm : n / blkN c n * blkN c n ≤ n := Nat.div_mul_le_self n _
            omega
          have hg : n ≤ (repS (blk c (blkN c n)) (n / blkN c n + 1)).length := by
            have := textBy_len c n
            unfold textBy at this
            rw [List.length_take] at this
            omega
          have hq := q _ sm
          unfold textBy at hq
          rw [hd]
          generalize n / blkN c n = m at hd2 hl hg hq ⊢
          have hk : ((m : Int) + 1).toNat = m + 1 := by omega
          rw [hk, blk_len]
          rw [repS_len, blk_len, Nat.mul_comm] at hl
          refine ⟨⟨by omega, by omega⟩, ⟨by omega, by omega, by omega⟩, ?_⟩
          rw [cut_take hg]
          refine ⟨?_, hq⟩
          rw [repS_len, blk_len, Nat.mul_comm]
          omega
    · intro N k
      refine brS_of (fun hc => ?_) (fun hc => ?_) <;> walk_at "ev"
      · refine k _ _ ⟨rfl, ?_⟩
        have hc' := of_decide_eq_true hc
        unfold blkN
        rw [if_pos hc']
        have e : min (n : Int) (1 + c / 4 % 50) = ((min n (1 + (c / 4 % 50).toNat) : Nat) : Int) := by omega
        rw [e]
      · refine k _ _ ⟨rfl, ?_⟩
        unfold blkN
        rw [if_neg (of_decide_eq_false hc)]
theorem ok__law_alike (W : Wd K mg) : ∀ n, FnOk P w K mg base CX0 (n + 1) W.f__law_alike W.d__law_alike ["_law_got", "_law_due"] (spAl n)
  | 0 => ⟨fun _ _ _ _ h => h.elim, fun _ _ _ _ _ _ _ _ _ _ _ _ _ h => h.elim⟩
  | n + 1 => by
    have ih := ok__law_alike W n
    refine W.F__law_alike.ok sc__law_alike (fun vs H Q E h => ?_) (fun cdv A outer s H vs Q E hr h => ?_)
    · obtain ⟨x, y, rfl, _⟩ := h
      rfl
    · obtain ⟨x, y, rfl, hA, q⟩ := h
      refine ⟨_, (pss_cons (ps_if (pt_cmpR y_is (pv 1) pe_non (nomark _)) (pss_one (ps_ret (pe_cmpR y_is (pv 0) pe_non (nomark _)))) pss_nil)
      (pss_cons (ps_if (pt_cmpR y_is (pv 1) pe_bl (nomark _)) (pss_one (ps_ret (pe_cmpR y_is (pv 0) pe_bl (nomark _)))) pss_nil)
      (pss_cons (ps_if (pt_val (pe_callB y_isi (by rfl) W.z_isinstance (by decide +kernel) (pa_cons (pv 1) (pa_cons (pe_bltn (v := .ty "str") (by rfl) W.z_str (by decide +kernel) rfl) pa_nil)))) (pss_one (ps_ret (pe_and (pe_callB y_isi (by rfl) W.z_isinstance (by decide +kernel) (pa_cons (pv 0) (pa_cons (pe_bltn (v := .ty "str") (by rfl) W.z_str (by decide +kernel) rfl) pa_nil))) (pe_one (pe_cmpR (y_eq (K := K) hr.units) (pv 0) (pv 1) (nomark _)))))) pss_nil)
      (pss_cons (ps_if (pt_val (pe_callB y_isi (by rfl) W.z_isinstance (by decide +kernel) (pa_cons (pv 1) (pa_cons (pe_bltn (v := .ty "int") (by rfl) W.z_int (by decide +kernel) rfl) pa_nil)))) (pss_one (ps_ret (pe_and (pe_call (ok__law_whole W) (hr.mono (by first | decide | omega)) (by rfl) W.m__law_whole W.F__law_whole.kp W.b__law_whole .nil pass0 (pa_cons (pv 0) pa_nil)) (pe_one (pe_cmpR (y_eq (K := K) hr.units) (pv 0) (pv 1) (nomark _)))))) pss_nil)
      (pss_cons (ps_if (PW.pt (pw_and (pt_val (pe_callB y_isi (by rfl) W.z_isinstance (by decide +kernel) (pa_cons (pv 1) (pa_cons (pe_bltn (v := .ty "tuple") (by rfl) W.z_tuple (by decide +kernel) rfl) pa_nil)))) (pw_and1 (pt_not (pt_val (pe_callB y_isi (by rfl) W.z_isinstance (by decide +kernel) (pa_cons (pv 0) (pa_cons (pe_bltn (v := .ty "tuple") (by rfl) W.z_tuple (by decide +kernel) rfl) pa_nil)))))))) (pss_one (ps_ret pe_bl)) pss_nil)
      (pss_cons (ps_if (PW.pt (pw_and (pt_val (pe_callB y_isi (by rfl) W.z_isinstance (by decide +kernel) (pa_cons (pv 1) (pa_cons (pe_bltn (v := .ty "list") (by rfl) W.z_list (by decide +kernel) rfl) pa_nil)))) (pw_and1 (pt_not (pt_val (pe_callB y_isi (by rfl) W.z_isinstance (by decide +kernel) (pa_cons (pv 0) (pa_cons (pe_bltn (v := .ty "list") (by rfl) W.z_list (by decide +kernel) rfl) pa_nil)))))))) (pss_one (ps_ret pe_bl)) pss_nil)
      (pss_cons (ps_if (pt_cmpR (y_ne (K := K) hr.units) (pe_callB (y_len (K := K)) (by rfl) W.z_len (by decide +kernel) (pa_cons (pv 0) pa_nil)) (pe_callB (y_len (K := K)) (by rfl) W.z_len (by decide +kernel) (pa_cons (pv 1) pa_nil)) (nomark _)) (pss_one (ps_ret pe_bl)) pss_nil)
      (pss_cons (ps_for PassesOwn.never rfl (pi_range1 (by rfl) W.z_range (pa_cons (pe_callB (y_len (K := K)) (by rfl) W.z_len (by decide +kernel) (pa_cons (pv 1) pa_nil)) pa_nil)) (pg_name (i := 2) sc__law_alike.nd rfl (by first | exact Or.inl rfl | exact Or.inr rfl)) (pss_one (ps_if (pt_not (pt_val (pe_call ih (hr.mono (by first | decide | omega)) (by rfl) W.m__law_alike W.F__law_alike.kp W.b__law_alike .nil pass0 (pa_cons (pe_ix (y_ix (K := K)) (pv 0) (pv 2) (fun _ _ => rfl)) (pa_cons (pe_ix (y_ix (K := K)) (pv 1) (pv 2) (fun _ _ => rfl)) pa_nil))))) (pss_one (ps_ret pe_bl)) pss_nil)))
      (pss_one (ps_ret pe_bl)))))))))), ?_⟩
      have hA0 := hA
      have scalar : ∀ m, Al H m x y → (y = .non ∨ y = .bl true ∨ (∃ i, y = .int i) ∨ ∃ s, y = .str s) → x = y := by
        intro m
        induction m with
        | zero => intro h _; exact h.1
        | succ m im =>
          intro h hy
          rcases h with h | ⟨a, b, xs, ys, rfl, rfl, _⟩ | ⟨a, b, xs, ys, rfl, rfl, _⟩
          · exact im h hy
          · rcases hy with e | e | ⟨_, e⟩ | ⟨_, e⟩ <;> cases e
          · rcases hy with e | e | ⟨_, e⟩ | ⟨_, e⟩ <;> cases e
      have kinds : ∀ m, Al H m x y → (y = .non ∨ y = .bl true ∨ (∃ i, y = .int i) ∨ ∃ s, y = .str s) ∨ (∃ k, k < m ∧ ∃ a b xs ys, x = .ref a ∧ y = .ref b ∧ H a = some (.lst xs) ∧ H b = some (.lst ys) ∧ xs.length = ys.length ∧ xs.length < 16777216 ∧ ∀ i, i < ys.length → Al H k (xs.getD i .non) (ys.getD i .non)) ∨
          ∃ k, k < m ∧ ∃ a b xs ys, x = .ref a ∧ y = .ref b ∧ H a = some (.tup xs) ∧ H b = some (.tup ys) ∧ xs.length = ys.length ∧ xs.length < 16777216 ∧ ∀ i, i < ys.length → Al H k (xs.getD i .non) (ys.getD i .non) := by
        intro m
        induction m with
        | zero => intro h; exact .inl h.2
        | succ m im =>
          intro h
          rcases h with h | h | h
          · rcases im h with h | ⟨k, hk, h⟩ | ⟨k, hk, h⟩
            · exact .inl h
            · exact .inr (.inl ⟨k, by omega, h⟩)
            · exact .inr (.inr ⟨k, by omega, h⟩)
          · exact .inr (.inl ⟨m, by omega, h⟩)
          · exact .inr (.inr ⟨m, by omega, h⟩)
      rcases kinds n hA with hy | ⟨k, hk, a, b, xs, ys, rfl, rfl, ha, hb, hlen, hl, hall⟩ | ⟨k, hk, a, b, xs, ys, rfl, rfl, ha, hb, hlen, hl, hall⟩
      · have e := scalar n hA hy
        subst e
        rcases hy with rfl | rfl | ⟨i, rfl⟩ | ⟨i, rfl⟩
        · walk_at "ev"
          exact q
        · walk_at "ev"
          exact q
        · walk_at "ev"
          refine ⟨_, rfl, ?_⟩
          walk_at "ev"
          exact q
        · walk_at "ev"
          exact q
      · obtain ⟨n, rfl⟩ : ∃ m, n = m + 1 := ⟨n - 1, by omega⟩
        walk_at "ev"
        refine isi_lst (b := false) hb (by decide +kernel) ?_
        walk_at "ev"
        refine isi_lst (b := false) hb (by decide +kernel) ?_
        walk_at "ev"
        refine isi_lst (b := false) hb (by decide +kernel) ?_
        walk_at "ev"
        refine isi_lst (b := true) hb (by decide +kernel) ?_
        walk_at "ev"
        refine isi_lst (b := true) ha (by decide +kernel) ?_
        walk_at "ev"
        refine ⟨xs, .inl (SqL.of ha), ys, .inl (SqL.of hb), ?_⟩
        rw [hlen, decide_eq_true rfl]
        walk_at "ev"
        refine ⟨ys, .inl (SqL.of hb), ⟨by omega, by omega⟩, ?_⟩
        rw [Int.toNat_natCast]
        refine for_rng (fun i σ H' => H' = H ∧ ∃ z, σ = [some (V.ref a), some (V.ref b), z]) ⟨rfl, none, rfl⟩ ?_ ?_
        · rintro i σ H' hi ⟨rfl, z, rfl⟩
          walk_at "ev"
          rw [Int.zero_add]
          refine ⟨xs, _, .inl (SqL.of ha), atI_getD (by omega), ys, _, .inl (SqL.of hb), atI_getD hi, _, _, rfl, (hall i hi).le (by omega), ?_⟩
          walk_at "ev"
          exact ⟨_, rfl⟩
        · rintro σ H' ⟨rfl, z, rfl⟩
          walk_at "ev"
          exact q
      · obtain ⟨n, rfl⟩ : ∃ m, n = m + 1 := ⟨n - 1, by omega⟩
        walk_at "ev"
        refine isi_tup (b := false) hb (by decide +kernel) ?_
        walk_at "ev"
        refine isi_tup (b := false) hb (by decide +kernel) ?_
        walk_at "ev"
        refine isi_tup (b := true) hb (by decide +kernel) ?_
        walk_at "ev"
        refine isi_tup (b := true) ha (by decide +kernel) ?_
        walk_at "ev"
        refine isi_tup (b := false) hb (by decide +kernel) ?_
        walk_at "ev"
        refine ⟨xs, .inr (SqT.of ha), ys, .inr (SqT.of hb), ?_⟩
        rw [hlen, decide_eq_true rfl]
        walk_at "ev"
        refine ⟨ys, .inr (SqT.of hb), ⟨by omega, by omega⟩, ?_⟩
        rw [Int.toNat_natCast]
        refine for_rng (fun i σ H' => H' = H ∧ ∃ z, σ = [some (V.ref a), some (V.ref b), z]) ⟨rfl, none, rfl⟩ ?_ ?_
        · rintro i σ H' hi ⟨rfl, z, rfl⟩
          walk_at "ev"
          rw [Int.zero_add]
          refine ⟨xs, _, .inr (SqT.of ha), atI_getD (by omega), ys, _, .inr (SqT.of hb), atI_getD hi, _, _, rfl, (hall i hi).le (by omega), ?_⟩
          walk_at "ev"
          exact ⟨_, rfl⟩
        · rintro σ H' ⟨rfl, z, rfl⟩
          walk_at "ev"
          exact q

def sp__law_size_by (K : PySem.W.Frag) : Sp := fun vs H Q _ => ∃ (i : Int), vs = [.int i] ∧ Q (.int (sizeBy i : Nat)) H
theorem ok__law_size_by (W : Wd K mg) : FnOk P w K mg base CX0 1 W.f__law_size_by W.d__law_size_by ["_law_cell"] (sp__law_size_by K) := by
  refine W.F__law_size_by.ok sc__law_size_by (fun vs H Q E h => ?_) (fun cdv A outer s H vs Q E hr h => ?_)
  · obtain ⟨i, rfl, q⟩ := h
    rfl
  · obtain ⟨i, rfl, q⟩ := h
    refine ⟨_, (pss_cons (ps_if (pt_cmpR (y_eq (K := K) hr.units) (pe_op y_mod (pv 0) pe_int) pe_int (nomark _)) (pss_one (ps_ret (pe_op y_mod (pe_op y_fdiv (pv 0) pe_int) pe_int))) pss_nil)
      (pss_one (ps_ret (pe_op y_mod (pe_op y_fdiv (pv 0) pe_int) pe_int)))), ?_⟩
    unfold sizeBy at q
    walk_at "ev"
    refine brS_of (fun hc => ?_) (fun hc => ?_) <;> walk_at "ev"
    · rw [if_pos (of_decide_eq_true hc)] at q
      rw [Int.toNat_of_nonneg (Int.emod_nonneg _ (by decide))] at q
      exact q
    · rw [if_neg (of_decide_eq_false hc)] at q
      rw [Int.toNat_of_nonneg (Int.emod_nonneg _ (by decide))] at q
      exact q
def sp__law_reach_by (K : PySem.W.Frag) : Sp := fun vs H Q _ => ∃ (i : Int), vs = [.int i] ∧ Q (.int (reachBy i : Nat)) H
theorem ok__law_reach_by (W : Wd K mg) : FnOk P w K mg base CX0 1 W.f__law_reach_by W.d__law_reach_by ["_law_cell"] (sp__law_reach_by K) := by
  refine W.F__law_reach_by.ok sc__law_reach_by (fun vs H Q E h => ?_) (fun cdv A outer s H vs Q E hr h => ?_)
  · obtain ⟨i, rfl, q⟩ := h
    rfl
  · obtain ⟨i, rfl, q⟩ := h
    refine ⟨_, (pss_cons (ps_if (pt_cmpR (y_eq (K := K) hr.units) (pe_op y_mod (pv 0) pe_int) pe_int (nomark _)) (pss_one (ps_ret (pe_op (y_add (K := K)) pe_int (pe_op y_mod (pe_op y_fdiv (pv 0) pe_int) pe_int)))) pss_nil)
      (pss_one (ps_ret (pe_op (y_add (K := K)) pe_int (pe_op y_mod (pe_op y_fdiv (pv 0) pe_int) pe_int))))), ?_⟩
    unfold reachBy at q
    walk_at "ev"
    refine brS_of (fun hc => ?_) (fun hc => ?_) <;> walk_at "ev"
    · rw [if_pos (of_decide_eq_true hc)] at q
      have e : ((1 + (i / 9 % 40).toNat : Nat) : Int) = 1 + i / 9 % 40 := by omega
      rw [e] at q
      exact q
    · rw [if_neg (of_decide_eq_false hc)] at q
      have e : ((1 + (i / 9 % 5).toNat : Nat) : Int) = 1 + i / 9 % 5 := by omega
      rw [e] at q
      exact q
    
def sp__law_ahead (K : PySem.W.Frag) : Sp := fun vs H Q _ => ∃ (D : Addr) (ps : List Nat) (s r : Nat), vs = [.ref D, .int (s : Int), .int (r : Int)] ∧ (H D = some (.lst (ps.map natV)) ∧ ps.length ≤ 8000001) ∧ ∀ D' H', Same H H' → H D' = none → H' D' = some (.lst ((ps.filter fun p => decide (p < s + 1 - r)).map natV)) → Q (.ref D') H'
theorem ok__law_ahead (W : Wd K mg) : FnOk P w K mg base CX0 1 W.f__law_ahead W.d__law_ahead ["_law_places", "_law_start", "_law_reach"] (sp__law_ahead K) := by
  refine W.F__law_ahead.ok sc__law_ahead (fun vs H Q E h => ?_) (fun cdv A outer s H vs Q E hr h => ?_)
  · obtain ⟨D, ps, s0, r, rfl, ⟨hD, hl⟩, q⟩ := h
    rfl
  · obtain ⟨D, ps, s0, r, rfl, ⟨hD, hl⟩, q⟩ := h
    refine ⟨_, (pss_one (ps_ret (pe_lc (own := [("_law_place", 3)]) (g := gName 3) (by rfl) sc__law_ahead.nd (pi_list (pv 0)) (blkOk_by (own := [("_law_place", 3)]) (N := N__law_ahead) (sc := defScope s__law_ahead) (by decide +kernel)) (fun _ _ _ _ _ => pg_name (i := 3) sc__law_ahead.nd rfl (Or.inl rfl)) (fun _ _ _ _ _ => pts_one (pt_cmpR y_le (pe_op (y_add (K := K)) (pv 3) (pv 2)) (pv 1) (nomark _))) (fun _ _ _ _ _ => (pv 3))))), ?_⟩
    walk_at "ev"
    refine ⟨⟨_, SqL.of hD⟩, fun D' hD' => ?_⟩
    refine lc_lst (aheadF s0 r) hD' (SqL.of hD) (by rw [List.length_map]; omega) ?_ ?_
    · intro i x H1 hx sm Ny Nn hy hn
      obtain ⟨p, hp, rfl⟩ : ∃ p, ps[i]? = some p ∧ natV p = x := by
        rw [List.getElem?_map] at hx
        exact Option.map_eq_some_iff.mp hx
      walk_at "ev"
      refine br_of (fun hc => ?_) (fun hc => ?_)
      · refine hy _ _ (Same.refl _) ?_
        show (if ((p : Nat) : Int) + (r : Int) ≤ (s0 : Int) then _ else _) = _
        rw [if_pos (of_decide_eq_true hc)]
      · refine hn _ (Same.refl _) ?_
        show (if ((p : Nat) : Int) + (r : Int) ≤ (s0 : Int) then _ else _) = _
        rw [if_neg (of_decide_eq_false hc)]
    · intro H1 sm h
      rw [aheadF_map] at h
      exact q D' H1 sm hD' h
def sp__law_behind (K : PySem.W.Frag) : Sp := fun vs H Q _ => ∃ (D : Addr) (ps : List Nat) (e w r : Nat), vs = [.ref D, .int (e : Int), .int (w : Int), .int (r : Int)] ∧ (H D = some (.lst (ps.map natV)) ∧ ps.length ≤ 8000001) ∧ ∀ D' H', Same H H' → H D' = none → H' D' = some (.lst (((ps.filter fun p => !decide (p < e + r + w)).map (· - e)).map natV)) → Q (.ref D') H'
theorem ok__law_behind (W : Wd K mg) : FnOk P w K mg base CX0 1 W.f__law_behind W.d__law_behind ["_law_places", "_law_end", "_law_width", "_law_reach"] (sp__law_behind K) := by
  refine W.F__law_behind.ok sc__law_behind (fun vs H Q E h => ?_) (fun cdv A outer s H vs Q E hr h => ?_)
  · obtain ⟨D, ps, e0, w, r, rfl, ⟨hD, hl⟩, q⟩ := h
    rfl
  · obtain ⟨D, ps, e0, w, r, rfl, ⟨hD, hl⟩, q⟩ := h
    refine ⟨_, (pss_one (ps_ret (pe_lc (own := [("_law_place", 4)]) (g := gName 4) (by rfl) sc__law_behind.nd (pi_list (pv 0)) (blkOk_by (own := [("_law_place", 4)]) (N := N__law_behind) (sc := defScope s__law_behind) (by decide +kernel)) (fun _ _ _ _ _ => pg_name (i := 4) sc__law_behind.nd rfl (Or.inl rfl)) (fun _ _ _ _ _ => pts_one (pt_cmpR y_ge (pe_op y_sub (pe_op y_sub (pv 4) (pv 3)) (pv 2)) (pv 1) (nomark _))) (fun _ _ _ _ _ => (pe_op y_sub (pv 4) (pv 1)))))), ?_⟩
    walk_at "ev"
    refine ⟨⟨_, SqL.of hD⟩, fun D' hD' => ?_⟩
    refine lc_lst (behindF e0 w r) hD' (SqL.of hD) (by rw [List.length_map]; omega) ?_ ?_
    · intro i x H1 hx sm Ny Nn hy hn
      obtain ⟨p, hp, rfl⟩ : ∃ p, ps[i]? = some p ∧ natV p = x := by
        rw [List.getElem?_map] at hx
        exact Option.map_eq_some_iff.mp hx
      walk_at "ev"
      refine br_of (fun hc => ?_) (fun hc => ?_)
      · refine hy _ _ (Same.refl _) ?_
        show (if (e0 : Int) ≤ ((p : Nat) : Int) - (r : Int) - (w : Int) then _ else _) = _
        rw [if_pos (of_decide_eq_true hc)]
      · refine hn _ (Same.refl _) ?_
        show (if (e0 : Int) ≤ ((p : Nat) : Int) - (r : Int) - (w : Int) then _ else _) = _
        rw [if_neg (of_decide_eq_false hc)]
    · intro H1 sm h
      rw [behindF_map] at h
      exact q D' H1 sm hD' h
def sp_law (K : PySem.W.Frag) : Sp := fun vs H Q _ => ∃ (a : Addr) (ns : List Int), vs = [.ref a] ∧ SqL K H a (ns.map V.int) ∧ ns.length ≤ 63 ∧ ∀ H', Q (.bl true) H'
theorem ok_law (W : Wd K mg) : FnOk P w K mg base CX0 5 W.f_law W.d_law ["_law_script"] (sp_law K) := by
  refine W.F_law.ok sc_law (fun vs H Q E h => ?_) (fun cdv A outer s H vs Q E hr h => ?_)
  · obtain ⟨a, ns, rfl, hS, hlen, q⟩ := h
    rfl
  · obtain ⟨a, ns, rfl, hS, hlen, q⟩ := h
    refine ⟨_, (pss_cons (ps_set (i := 1) sc_law.nd rfl (by first | exact Or.inl rfl | exact Or.inr rfl) (pe_call (ok__law_text_by W) (hr.mono (by first | decide | omega)) (by rfl) W.m__law_text_by W.F__law_text_by.kp W.b__law_text_by .nil pass0 (pa_cons (pe_call (ok__law_cell_at W) (hr.mono (by first | decide | omega)) (by rfl) W.m__law_cell_at W.F__law_cell_at.kp W.b__law_cell_at .nil pass0 (pa_cons (pv 0) (pa_cons pe_int pa_nil))) (pa_cons (pe_call (ok__law_size_by W) (hr.mono (by first | decide | omega)) (by rfl) W.m__law_size_by W.F__law_size_by.kp W.b__law_size_by .nil pass0 (pa_cons (pe_call (ok__law_cell_at W) (hr.mono (by first | decide | omega)) (by rfl) W.m__law_cell_at W.F__law_cell_at.kp W.b__law_cell_at .nil pass0 (pa_cons (pv 0) (pa_cons pe_int pa_nil))) pa_nil)) pa_nil))))
      (pss_cons (ps_set (i := 2) sc_law.nd rfl (by first | exact Or.inl rfl | exact Or.inr rfl) (pe_op (y_add (K := K)) pe_int (pe_op y_mod (pe_call (ok__law_cell_at W) (hr.mono (by first | decide | omega)) (by rfl) W.m__law_cell_at W.F__law_cell_at.kp W.b__law_cell_at .nil pass0 (pa_cons (pv 0) (pa_cons pe_int pa_nil))) pe_int)))
      (pss_cons (ps_set (i := 3) sc_law.nd rfl (by first | exact Or.inl rfl | exact Or.inr rfl) (pe_call (ok__law_reach_by W) (hr.mono (by first | decide | omega)) (by rfl) W.m__law_reach_by W.F__law_reach_by.kp W.b__law_reach_by .nil pass0 (pa_cons (pe_call (ok__law_cell_at W) (hr.mono (by first | decide | omega)) (by rfl) W.m__law_cell_at W.F__law_cell_at.kp W.b__law_cell_at .nil pass0 (pa_cons (pv 0) (pa_cons pe_int pa_nil))) pa_nil)))
      (pss_cons (ps_set (i := 4) sc_law.nd rfl (by first | exact Or.inl rfl | exact Or.inr rfl) (pe_op y_mod (pe_op y_fdiv (pe_call (ok__law_cell_at W) (hr.mono (by first | decide | omega)) (by rfl) W.m__law_cell_at W.F__law_cell_at.kp W.b__law_cell_at .nil pass0 (pa_cons (pv 0) (pa_cons pe_int pa_nil))) pe_int) (pe_op (y_add (K := K)) (pe_callB (y_len (K := K)) (by rfl) W.z_len (by decide +kernel) (pa_cons (pv 1) pa_nil)) pe_int)))
      (pss_cons (ps_if (pt_cmpR (y_eq (K := K) hr.units) (pe_op y_mod (pe_call (ok__law_cell_at W) (hr.mono (by first | decide | omega)) (by rfl) W.m__law_cell_at W.F__law_cell_at.kp W.b__law_cell_at .nil pass0 (pa_cons (pv 0) (pa_cons pe_int pa_nil))) pe_int) pe_int (nomark _)) (pss_one (ps_set (i := 4) sc_law.nd rfl (by first | exact Or.inl rfl | exact Or.inr rfl) (pe_ix (y_ix (K := K)) (pe_lst (pa_cons pe_int (pa_cons (pe_callB (y_len (K := K)) (by rfl) W.z_len (by decide +kernel) (pa_cons (pv 1) pa_nil)) pa_nil))) (pe_op y_mod (pe_op y_fdiv (pe_call (ok__law_cell_at W) (hr.mono (by first | decide | omega)) (by rfl) W.m__law_cell_at W.F__law_cell_at.kp W.b__law_cell_at .nil pass0 (pa_cons (pv 0) (pa_cons pe_int pa_nil))) pe_int) pe_int) (fun _ _ => rfl)))) pss_nil)
      (pss_cons (ps_set (i := 5) sc_law.nd rfl (by first | exact Or.inl rfl | exact Or.inr rfl) (pe_op (y_add (K := K)) (pv 4) (pe_op y_mod (pe_call (ok__law_cell_at W) (hr.mono (by first | decide | omega)) (by rfl) W.m__law_cell_at W.F__law_cell_at.kp W.b__law_cell_at .nil pass0 (pa_cons (pv 0) (pa_cons pe_int pa_nil))) (pe_op (y_add (K := K)) (pe_op y_sub (pe_callB (y_len (K := K)) (by rfl) W.z_len (by decide +kernel) (pa_cons (pv 1) pa_nil)) (pv 4)) pe_int))))
      (pss_cons (ps_set (i := 6) sc_law.nd rfl (by first | exact Or.inl rfl | exact Or.inr rfl) (pe_call (ok__law_text_by W) (hr.mono (by first | decide | omega)) (by rfl) W.m__law_text_by W.F__law_text_by.kp W.b__law_text_by .nil pass0 (pa_cons (pe_call (ok__law_cell_at W) (hr.mono (by first | decide | omega)) (by rfl) W.m__law_cell_at W.F__law_cell_at.kp W.b__law_cell_at .nil pass0 (pa_cons (pv 0) (pa_cons pe_int pa_nil))) (pa_cons (pe_op y_mod (pe_call (ok__law_cell_at W) (hr.mono (by first | decide | omega)) (by rfl) W.m__law_cell_at W.F__law_cell_at.kp W.b__law_cell_at .nil pass0 (pa_cons (pv 0) (pa_cons pe_int pa_nil))) pe_int) pa_nil))))
      (pss_cons (ps_set (i := 7) sc_law.nd rfl (by first | exact Or.inl rfl | exact Or.inr rfl) (pe_op (y_add (K := K)) (pe_op (y_add (K := K)) (pe_slice (y_sl (K := K)) (pv 1) po_none (po_some (pv 4))) (pv 6)) (pe_slice (y_sl (K := K)) (pv 1) (po_some (pv 5)) po_none)))
      (pss_cons (ps_set (i := 8) sc_law.nd rfl (by first | exact Or.inl rfl | exact Or.inr rfl) (pe_call (ok_few W) (hr.mono (by first | decide | omega)) (by rfl) W.m_few W.F_few.kp W.b_few .nil pass0 (pa_cons (pe_callB (y_len (K := K)) (by rfl) W.z_len (by decide +kernel) (pa_cons (pv 6) pa_nil)) (pa_cons (pv 2) (pa_cons (pv 3) pa_nil)))))
      (pss_cons (ps_if (PW.pt (pw_or (pt_not (pt_val (pe_call (ok__law_whole W) (hr.mono (by first | decide | omega)) (by rfl) W.m__law_whole W.F__law_whole.kp W.b__law_whole .nil pass0 (pa_cons (pv 8) pa_nil)))) (pw_or1 (pt_cmpR (y_ne (K := K) hr.units) (pv 8) (pe_op (y_add (K := K)) (pe_op y_fdiv (pe_op y_sub (pe_op (y_add (K := K)) (pe_op (y_add (K := K)) (pe_callB (y_len (K := K)) (by rfl) W.z_len (by decide +kernel) (pa_cons (pv 6) pa_nil)) (pe_op y_mul pe_int (pv 3))) (pv 2)) pe_int) (pe_op (y_add (K := K)) (pv 3) pe_int)) pe_int) (nomark _))))) (pss_one (ps_ret pe_bl)) pss_nil)
      (pss_cons (ps_set (i := 9) sc_law.nd rfl (by first | exact Or.inl rfl | exact Or.inr rfl) (pe_op y_mod (pe_call (ok__law_cell_at W) (hr.mono (by first | decide | omega)) (by rfl) W.m__law_cell_at W.F__law_cell_at.kp W.b__law_cell_at .nil pass0 (pa_cons (pv 0) (pa_cons pe_int pa_nil))) (pe_op y_pow pe_int pe_int)))
      (pss_cons (ps_if (pt_cmpR (y_ne (K := K) hr.units) (pe_call (ok_few W) (hr.mono (by first | decide | omega)) (by rfl) W.m_few W.F_few.kp W.b_few .nil pass0 (pa_cons (pv 9) (pa_cons (pv 2) (pa_cons (pv 3) pa_nil)))) (pe_op (y_add (K := K)) (pe_op y_fdiv (pe_op y_sub (pe_op (y_add (K := K)) (pe_op (y_add (K := K)) (pv 9) (pe_op y_mul pe_int (pv 3))) (pv 2)) pe_int) (pe_op (y_add (K := K)) (pv 3) pe_int)) pe_int) (nomark _)) (pss_one (ps_ret pe_bl)) pss_nil)
      (pss_cons (ps_set (i := 10) sc_law.nd rfl (by first | exact Or.inl rfl | exact Or.inr rfl) (pe_call (ok_pieces W) (hr.mono (by first | decide | omega)) (by rfl) W.m_pieces W.F_pieces.kp W.b_pieces .nil pass0 (pa_cons (pv 1) (pa_cons (pv 2) (pa_cons (pv 3) pa_nil)))))
      (pss_cons (ps_set (i := 11) sc_law.nd rfl (by first | exact Or.inl rfl | exact Or.inr rfl) (pe_call (ok_pieces W) (hr.mono (by first | decide | omega)) (by rfl) W.m_pieces W.F_pieces.kp W.b_pieces .nil pass0 (pa_cons (pv 7) (pa_cons (pv 2) (pa_cons (pv 3) pa_nil)))))
      (pss_cons (ps_if (pt_cmpR y_gt (pe_callB (y_len (K := K)) (by rfl) W.z_len (by decide +kernel) (pa_cons (pe_lc (own := [("_law_piece", 14)]) (g := gName 14) (by rfl) sc_law.nd (pi_list (pv 11)) (blkOk_by (own := [("_law_piece", 14)]) (N := N_law) (sc := defScope s_law) (by decide +kernel)) (fun _ _ _ _ _ => pg_name (i := 14) sc_law.nd rfl (Or.inl rfl)) (fun _ _ _ _ _ => pts_one (pt_cmpR (y_notin (K := K)) (pv 14) (pv 10) (by rfl))) (fun _ _ _ _ _ => (pv 14))) pa_nil)) (pv 8) (nomark _)) (pss_one (ps_ret pe_bl)) pss_nil)
      (pss_cons (ps_if (pt_cmpR y_gt (pe_callB (y_len (K := K)) (by rfl) W.z_len (by decide +kernel) (pa_cons (pe_lc (own := [("_law_piece", 14)]) (g := gName 14) (by rfl) sc_law.nd (pi_list (pv 10)) (blkOk_by (own := [("_law_piece", 14)]) (N := N_law) (sc := defScope s_law) (by decide +kernel)) (fun _ _ _ _ _ => pg_name (i := 14) sc_law.nd rfl (Or.inl rfl)) (fun _ _ _ _ _ => pts_one (pt_cmpR (y_notin (K := K)) (pv 14) (pv 11) (by rfl))) (fun _ _ _ _ _ => (pv 14))) pa_nil)) (pe_call (ok_few W) (hr.mono (by first | decide | omega)) (by rfl) W.m_few W.F_few.kp W.b_few .nil pass0 (pa_cons (pe_op y_sub (pv 5) (pv 4)) (pa_cons (pv 2) (pa_cons (pv 3) pa_nil)))) (nomark _)) (pss_one (ps_ret pe_bl)) pss_nil)
      (pss_cons (ps_set (i := 12) sc_law.nd rfl (by first | exact Or.inl rfl | exact Or.inr rfl) (pe_call (ok_cuts W) (hr.mono (by first | decide | omega)) (by rfl) W.m_cuts W.F_cuts.kp W.b_cuts .nil pass0 (pa_cons (pv 1) (pa_cons (pv 2) (pa_cons (pv 3) pa_nil)))))
      (pss_cons (ps_set (i := 13) sc_law.nd rfl (by first | exact Or.inl rfl | exact Or.inr rfl) (pe_call (ok_cuts W) (hr.mono (by first | decide | omega)) (by rfl) W.m_cuts W.F_cuts.kp W.b_cuts .nil pass0 (pa_cons (pv 7) (pa_cons (pv 2) (pa_cons (pv 3) pa_nil)))))
      (pss_cons (ps_if (pt_cmpR (y_ne (K := K) hr.units) (pe_call (ok__law_ahead W) (hr.mono (by first | decide | omega)) (by rfl) W.m__law_ahead W.F__law_ahead.kp W.b__law_ahead .nil pass0 (pa_cons (pv 12) (pa_cons (pv 4) (pa_cons (pv 3) pa_nil)))) (pe_call (ok__law_ahead W) (hr.mono (by first | decide | omega)) (by rfl) W.m__law_ahead W.F__law_ahead.kp W.b__law_ahead .nil pass0 (pa_cons (pv 13) (pa_cons (pv 4) (pa_cons (pv 3) pa_nil)))) (nomark _)) (pss_one (ps_ret pe_bl)) pss_nil)
      (pss_one (ps_ret (pe_cmpR (y_eq (K := K) hr.units) (pe_call (ok__law_behind W) (hr.mono (by first | decide | omega)) (by rfl) W.m__law_behind W.F__law_behind.kp W.b__law_behind .nil pass0 (pa_cons (pv 12) (pa_cons (pv 5) (pa_cons (pv 2) (pa_cons (pv 3) pa_nil))))) (pe_call (ok__law_behind W) (hr.mono (by first | decide | omega)) (by rfl) W.m__law_behind W.F__law_behind.kp W.b__law_behind .nil pass0 (pa_cons (pv 13) (pa_cons (pe_op (y_add (K := K)) (pv 4) (pe_callB (y_len (K := K)) (by rfl) W.z_len (by decide +kernel) (pa_cons (pv 6) pa_nil))) (pa_cons (pv 2) (pa_cons (pv 3) pa_nil))))) (nomark _))))))))))))))))))))))), ?_⟩
    walk_at "ev"
    refine ⟨_, ns, 0, rfl, hS, _, ns, 1, rfl, hS, _, rfl, _, _, rfl, by have := sizeBy_le (cel ns 1); omega, fun H1 sm => ?_⟩
    have hl := textBy_len (cel ns 0) (sizeBy (cel ns 1))
    have hz := sizeBy_le (cel ns 1)
    generalize sizeBy (cel ns 1) = n at hl hz ⊢
    generalize textBy (cel ns 0) n = l at hl ⊢
    walk_at "ev"
    refine ⟨_, ns, 2, rfl, sm.seq hS, ?_⟩
    walk_at "ev"
    rw [widthBy_eq]
    have hw := widthBy_le (cel ns 2)
    generalize widthBy (cel ns 2) = w at hw ⊢
    refine ⟨_, ns, 3, rfl, sm.seq hS, _, rfl, ?_⟩
    have hr := reachBy_le (cel ns 3)
    generalize reachBy (cel ns 3) = r at hr ⊢
    walk_at "ev"
    refine ⟨_, ns, 4, rfl, sm.seq hS, ?_⟩
    walk_at "ev"
    refine ⟨by omega, by omega, _, ns, 4, rfl, sm.seq hS, ?_⟩
    generalize cel ns 4 = c4
    walk_at "ev"
    -- where the stretch begins
    refine brS_join (R := fun σ H => ∃ (s0 : Nat), s0 ≤ l.length ∧ Same H1 H ∧ σ = [some (V.ref a), some (V.str (st l)), some (V.int w), some (V.int r), some (V.int s0), none, none, none, none, none, none, none, none, none, none]) ?_ ?_
    case refine_2 =>
      intro N k
      refine brS_of (fun hc => ?_) (fun hc => ?_) <;> walk_at "ev"
      · refine ⟨by omega, fun p hp => ?_⟩
        have s2 := same_new (o := .lst [V.int 0, V.int (l.length : Int)]) hp
        refine ⟨_, ns, 4, rfl, (sm.trans s2).seq hS, ?_⟩
        walk_at "ev"
        have hb : cel ns 4 / 3 % 2 = 0 ∨ cel ns 4 / 3 % 2 = 1 := by omega
        rcases hb with e | e <;> rw [e]
        · exact ⟨_, _, .inl (SqL.of upd_same), rfl, k _ _ ⟨0, Nat.zero_le _, s2, rfl⟩⟩
        · exact ⟨_, _, .inl (SqL.of upd_same), rfl, k _ _ ⟨l.length, Nat.le_refl _, s2, rfl⟩⟩
      · have h0 : 0 ≤ c4 / 3 % ((l.length : Int) + 1) := Int.emod_nonneg _ (by omega)
        have h1 : c4 / 3 % ((l.length : Int) + 1) < (l.length : Int) + 1 := Int.emod_lt_of_pos _ (by omega)
        refine k _ _ ⟨(c4 / 3 % ((l.length : Int) + 1)).toNat, by omega, Same.refl _, ?_⟩
        rw [Int.toNat_of_nonneg h0]
    rintro σ H2 ⟨s0, hs0, sm2, rfl⟩
    have sm12 := sm.trans sm2
    -- where it ends
    walk_at "ev"
    refine ⟨_, ns, 5, rfl, sm12.seq hS, ?_⟩
    walk_at "ev"
    refine ⟨by omega, by omega, ?_⟩
    obtain ⟨e0, he0, he1, he2⟩ : ∃ e0 : Nat, s0 ≤ e0 ∧ e0 ≤ l.length ∧ (s0 : Int) + cel ns 5 % ((l.length : Int) - (s0 : Int) + 1) = (e0 : Int) := by
      have h0 : 0 ≤ cel ns 5 % ((l.length : Int) - (s0 : Int) + 1) := Int.emod_nonneg _ (by omega)
      have h1 : cel ns 5 % ((l.length : Int) - (s0 : Int) + 1) < (l.length : Int) - (s0 : Int) + 1 := Int.emod_lt_of_pos _ (by omega)
      exact ⟨((s0 : Int) + cel ns 5 % ((l.length : Int) - (s0 : Int) + 1)).toNat, by omega, by omega, by omega⟩
    rw [he2]
    refine ⟨_, ns, 6, rfl, sm12.seq hS, _, ns, 7, rfl, sm12.seq hS, ?_⟩
    walk_at "ev"
    have hk0 : 0 ≤ cel ns 7 % 30 := Int.emod_nonneg _ (by decide)
    have hk1 : cel ns 7 % 30 < 30 := Int.emod_lt_of_pos _ (by decide)
    refine ⟨cel ns 6, (cel ns 7 % 30).toNat, by rw [Int.toNat_of_nonneg hk0], by omega, fun H3 sm3 => ?_⟩
    have hy := textBy_len (cel ns 6) (cel ns 7 % 30).toNat
    generalize textBy (cel ns 6) (cel ns 7 % 30).toNat = y at hy ⊢
    have hy2 : y.length ≤ 30 := by omega
    have sm13 := sm12.trans sm3
    -- the new text
    walk_at "ev"
    rw [cut_take hs0, cut_drop he1]
    refine ⟨by omega, ?_⟩
    rw [codes_st, codes_st]
    walk_at "ev"
    have hA : (l.take s0).length = s0 := by rw [List.length_take]; omega
    have hB : (l.drop e0).length = l.length - e0 := List.length_drop
    refine ⟨by omega, by omega, by rw [List.length_append]; omega, ?_⟩
    rw [List.append_assoc]
    have hX : l = l.take s0 ++ ((l.drop s0).take (e0 - s0) ++ l.drop e0) := by
      have e1 : l.drop e0 = (l.drop s0).drop (e0 - s0) := by
        rw [List.drop_drop]
        congr 1
        omega
      rw [e1, List.take_append_drop, List.take_append_drop]
    have hXl : ((l.drop s0).take (e0 - s0)).length = e0 - s0 := by
      rw [List.length_take, List.length_drop]
      omega
    generalize hm : l.take s0 ++ (y ++ l.drop e0) = m
    have hml : m.length ≤ 700 := by
      rw [← hm, List.length_append, List.length_append]
      omega
    -- few
    refine ⟨by omega, _, w, r, rfl, by omega, ?_⟩
    walk_at "ev"
    refine ⟨_, rfl, ?_⟩
    walk_at "ev"
    refine ⟨by omega, ⟨by omega, by omega⟩, ?_⟩
    have hf1 : fewI (y.length : Int) w r = ((y.length : Int) + 3 * (r : Int) + (w : Int) - 1) / ((r : Int) + 1) + 1 := rfl
    rw [← hf1, decide_eq_true rfl]
    walk_at "ev"
    refine ⟨_, ns, 8, rfl, sm13.seq hS, ?_⟩
    walk_at "ev"
    refine ⟨_, w, r, rfl, by omega, ?_⟩
    walk_at "ev"
    refine ⟨⟨by omega, by omega⟩, ?_⟩
    have hf2 : ∀ c : Int, fewI c w r = (c + 3 * (r : Int) + (w : Int) - 1) / ((r : Int) + 1) + 1 := fun _ => rfl
    rw [← hf2, decide_eq_true rfl]
    walk_at "ev"
    -- pieces
    refine ⟨l, w, r, rfl, ⟨by omega, by omega, by omega⟩, fun D1 H4 sm4 n4 h4 => ?_⟩
    walk_at "ev"
    refine ⟨m, w, r, rfl, ⟨by omega, by omega, by omega⟩, fun D2 H5 sm5 n5 h5 => ?_⟩
    have h4' := sm5 _ _ h4
    walk_at "ev"
    have cm := pieces_count m w r
    have cl := pieces_count l w r
    refine ⟨⟨_, SqL.of h5⟩, fun D3 hD3 => ?_⟩
    refine lc_lst (newF (piecesOf l w r)) hD3 (SqL.of h5) (by rw [List.length_map]; omega) ?_ ?_
    · intro i x H6 hx sm6 Ny Nn hy hn
      obtain ⟨z, hz, rfl⟩ : ∃ z, (piecesOf m w r)[i]? = some z ∧ txtV z = x := by
        rw [List.getElem?_map] at hx
        exact Option.map_eq_some_iff.mp hx
      walk_at "ev"
      refine ⟨_, .inl (SqL.of (sm6 _ _ h4')), rfl, flat_txt _, ?_⟩
      walk_at "ev"
      refine br_of (fun hc => ?_) (fun hc => ?_)
      · refine hy _ _ (Same.refl _) ?_
        unfold newF
        rw [if_neg (by rw [show inV (txtV z) ((piecesOf l w r).map txtV) = false by simpa using hc]; exact Bool.false_ne_true)]
      · refine hn _ (Same.refl _) ?_
        unfold newF
        rw [if_pos (by simpa using hc)]
    intro H6 sm6 h6
    walk_at "ev"
    refine ⟨_, .inl (SqL.of h6), ?_⟩
    rw [newF_map]
    have w1 := few_new (l.take s0) ((l.drop s0).take (e0 - s0)) y (l.drop e0) (w := w) (r := r) (by omega) (by omega)
    rw [← hX, hm] at w1
    rw [few_nat _ _ _ (by omega)]
    rw [decide_eq_false (by omega)]
    walk_at "ev"
    have h4'' := sm6 _ _ h4'
    have h5'' := sm6 _ _ h5
    refine ⟨⟨_, SqL.of h4''⟩, fun D4 hD4 => ?_⟩
    refine lc_lst (newF (piecesOf m w r)) hD4 (SqL.of h4'') (by rw [List.length_map]; omega) ?_ ?_
    · intro i x H7 hx sm7 Ny Nn hy hn
      obtain ⟨z, hz, rfl⟩ : ∃ z, (piecesOf l w r)[i]? = some z ∧ txtV z = x := by
        rw [List.getElem?_map] at hx
        exact Option.map_eq_some_iff.mp hx
      walk_at "ev"
      refine ⟨_, .inl (SqL.of (sm7 _ _ h5'')), rfl, flat_txt _, ?_⟩
      walk_at "ev"
      refine br_of (fun hc => ?_) (fun hc => ?_)
      · refine hy _ _ (Same.refl _) ?_
        unfold newF
        rw [if_neg (by rw [show inV (txtV z) ((piecesOf m w r).map txtV) = false by simpa using hc]; exact Bool.false_ne_true)]
      · refine hn _ (Same.refl _) ?_
        unfold newF
        rw [if_pos (by simpa using hc)]
    intro H7 sm7 h7
    walk_at "ev"
    refine ⟨_, .inl (SqL.of h7), _, w, r, rfl, by omega, ?_⟩
    walk_at "ev"
    rw [newF_map]
    have w2 := few_new (l.take s0) y ((l.drop s0).take (e0 - s0)) (l.drop e0) (w := w) (r := r) (by omega) (by omega)
    rw [← hX, hm, hXl] at w2
    have e3 : (e0 : Int) - (s0 : Int) = ((e0 - s0 : Nat) : Int) := by omega
    rw [e3, few_nat _ _ _ (by omega)]
    rw [decide_eq_false (by omega)]
    walk_at "ev"
    -- cuts
    refine ⟨l, w, r, rfl, ⟨by omega, by omega, by omega⟩, fun D5 H8 sm8 n8 h8 => ?_⟩
    walk_at "ev"
    refine ⟨m, w, r, rfl, ⟨by omega, by omega, by omega⟩, fun D6 H9 sm9 n9 h9 => ?_⟩
    have h8' := sm9 _ _ h8
    have kl := cuts_count l w r
    have km := cuts_count m w r
    walk_at "ev"
    refine ⟨D5, cutsOf l w r, s0, r, rfl, ⟨h8', by omega⟩, fun D7 H10 sm10 n10 h10 => ?_⟩
    walk_at "ev"
    refine ⟨D6, cutsOf m w r, s0, r, rfl, ⟨sm10 _ _ h9, by omega⟩, fun D8 H11 sm11 n11 h11 => ?_⟩
    have a1 := ahead_same (A := l.take s0) (U := (l.drop s0).take (e0 - s0) ++ l.drop e0) (Z := y ++ l.drop e0) (w := w) (r := r) (by omega)
    rw [← hX, hm, hA] at a1
    unfold aheadOf at a1
    walk_at "ev"
    refine ne_lst (SqL.of (sm11 _ _ h10)) (SqL.of h11) (plain_nat _) (plain_nat _) ?_
    rw [a1, decide_eq_true rfl]
    walk_at "ev"
    refine ⟨D5, cutsOf l w r, e0, w, r, rfl, ⟨sm11 _ _ (sm10 _ _ h8'), by omega⟩, fun D9 H12 sm12' n12 h12 => ?_⟩
    walk_at "ev"
    refine ⟨by omega, D6, cutsOf m w r, s0 + y.length, w, r, by rw [Int.natCast_add], ⟨sm12' _ _ (sm11 _ _ (sm10 _ _ h9)), by omega⟩, fun D10 H13 sm14 n13 h13 => ?_⟩
    have b1 := behind_same (A := l.take s0 ++ (l.drop s0).take (e0 - s0)) (C := l.take s0 ++ y) (B := l.drop e0) (w := w) (r := r) (by omega)
    rw [List.append_assoc, List.append_assoc, ← hX, hm] at b1
    rw [List.length_append, List.length_append, hA, hXl] at b1
    have e4 : s0 + (e0 - s0) = e0 := by omega
    rw [e4] at b1
    unfold behindOf at b1
    walk_at "ev"
    refine eq_lst (SqL.of (sm14 _ _ h12)) (SqL.of h13) (plain_nat _) (plain_nat _) ?_
    rw [b1, decide_eq_true rfl]
    exact q _
    
end
theorem all_mk {l : PySem.W.OpenLaw} {w : World} {K : PySem.W.Frag} {h : Heap} {mg : Str → Option Value} {fa : Addr} (X : K.In h) (G : h.Ns mainGlobals mg) (hfa : mg "law" = some (.ref fa))
    {f0 f1 f2 f3 f4 f5 f6 f7 f8 f9 f10 f11 f12 f13 f14 f15 : Addr}
    {od0 an0 od1 an1 od2 an2 od3 an3 od4 an4 od5 an5 od6 an6 od7 an7 od8 an8 od9 an9 od10 an10 od11 an11 od12 an12 od13 an13 od14 an14 od15 an15 : Option Addr}
    {sl0 sl1 sl2 sl3 sl4 sl5 sl6 sl7 sl8 sl9 sl10 sl11 sl12 sl13 sl14 sl15 : Array (Option Value)}
    {oc0 kV0 dc0 pm0 cd0 ct0 oc1 kV1 dc1 pm1 cd1 ct1 oc2 kV2 dc2 pm2 cd2 ct2 oc3 kV3 dc3 pm3 cd3 ct3 oc4 kV4 dc4 pm4 cd4 ct4 oc5 kV5 dc5 pm5 cd5 ct5 oc6 kV6 dc6 pm6 cd6 ct6 oc7 kV7 dc7 pm7 cd7 ct7 oc8 kV8 dc8 pm8 cd8 ct8 oc9 kV9 dc9 pm9 cd9 ct9 oc10 kV10 dc10 pm10 cd10 ct10 oc11 kV11 dc11 pm11 cd11 ct11 oc12 kV12 dc12 pm12 cd12 ct12 oc13 kV13 dc13 pm13 cd13 ct13 oc14 kV14 dc14 pm14 cd14 ct14 oc15 kV15 dc15 pm15 cd15 ct15 : Value}
    {tk_WEIGHT_START tk_WEIGHT_FACTOR tk_WEIGHT_DIVISOR : Tok}
    (a0 : PySem.W.nsIn K mainGlobals "weight" = some (some (.ref f0))) (l0 : K.lookup f0 = some ⟨oc0, od0, .func (PySem.W.fnOf "weight" "weight" (defArgs s_weight) (defBody s_weight) (defScope s_weight) .none kV0 dc0 pm0 an0 cd0 ct0), sl0⟩) (c0 : PySem.W.codeIn K cd0 "weight" = true) (k0 : PySem.W.keepIn K (.ref f0) = true)
    (a1 : PySem.W.nsIn K mainGlobals "few" = some (some (.ref f1))) (l1 : K.lookup f1 = some ⟨oc1, od1, .func (PySem.W.fnOf "few" "few" (defArgs s_few) (defBody s_few) (defScope s_few) .none kV1 dc1 pm1 an1 cd1 ct1), sl1⟩) (c1 : PySem.W.codeIn K cd1 "few" = true) (k1 : PySem.W.keepIn K (.ref f1) = true)
    (a2 : PySem.W.nsIn K mainGlobals "cuts" = some (some (.ref f2))) (l2 : K.lookup f2 = some ⟨oc2, od2, .func (PySem.W.fnOf "cuts" "cuts" (defArgs s_cuts) (defBody s_cuts) (defScope s_cuts) .none kV2 dc2 pm2 an2 cd2 ct2), sl2⟩) (c2 : PySem.W.codeIn K cd2 "cuts" = true) (k2 : PySem.W.keepIn K (.ref f2) = true)
    (a3 : PySem.W.nsIn K mainGlobals "pieces" = some (some (.ref f3))) (l3 : K.lookup f3 = some ⟨oc3, od3, .func (PySem.W.fnOf "pieces" "pieces" (defArgs s_pieces) (defBody s_pieces) (defScope s_pieces) .none kV3 dc3 pm3 an3 cd3 ct3), sl3⟩) (c3 : PySem.W.codeIn K cd3 "pieces" = true) (k3 : PySem.W.keepIn K (.ref f3) = true)
    (a4 : PySem.W.nsIn K mainGlobals "_weights_by_place" = some (some (.ref f4))) (l4 : K.lookup f4 = some ⟨oc4, od4, .func (PySem.W.fnOf "_weights_by_place" "_weights_by_place" (defArgs s__weights_by_place) (defBody s__weights_by_place) (defScope s__weights_by_place) .none kV4 dc4 pm4 an4 cd4 ct4), sl4⟩) (c4 : PySem.W.codeIn K cd4 "_weights_by_place" = true) (k4 : PySem.W.keepIn K (.ref f4) = true)
    (a5 : PySem.W.nsIn K mainGlobals "_is_lightest" = some (some (.ref f5))) (l5 : K.lookup f5 = some ⟨oc5, od5, .func (PySem.W.fnOf "_is_lightest" "_is_lightest" (defArgs s__is_lightest) (defBody s__is_lightest) (defScope s__is_lightest) .none kV5 dc5 pm5 an5 cd5 ct5), sl5⟩) (c5 : PySem.W.codeIn K cd5 "_is_lightest" = true) (k5 : PySem.W.keepIn K (.ref f5) = true)
    (a6 : PySem.W.nsIn K mainGlobals "_law_cell_at" = some (some (.ref f6))) (l6 : K.lookup f6 = some ⟨oc6, od6, .func (PySem.W.fnOf "_law_cell_at" "_law_cell_at" (defArgs s__law_cell_at) (defBody s__law_cell_at) (defScope s__law_cell_at) .none kV6 dc6 pm6 an6 cd6 ct6), sl6⟩) (c6 : PySem.W.codeIn K cd6 "_law_cell_at" = true) (k6 : PySem.W.keepIn K (.ref f6) = true)
    (a7 : PySem.W.nsIn K mainGlobals "_law_whole" = some (some (.ref f7))) (l7 : K.lookup f7 = some ⟨oc7, od7, .func (PySem.W.fnOf "_law_whole" "_law_whole" (defArgs s__law_whole) (defBody s__law_whole) (defScope s__law_whole) .none kV7 dc7 pm7 an7 cd7 ct7), sl7⟩) (c7 : PySem.W.codeIn K cd7 "_law_whole" = true) (k7 : PySem.W.keepIn K (.ref f7) = true)
    (a8 : PySem.W.nsIn K mainGlobals "_law_sign_by" = some (some (.ref f8))) (l8 : K.lookup f8 = some ⟨oc8, od8, .func (PySem.W.fnOf "_law_sign_by" "_law_sign_by" (defArgs s__law_sign_by) (defBody s__law_sign_by) (defScope s__law_sign_by) .none kV8 dc8 pm8 an8 cd8 ct8), sl8⟩) (c8 : PySem.W.codeIn K cd8 "_law_sign_by" = true) (k8 : PySem.W.keepIn K (.ref f8) = true)
    (a9 : PySem.W.nsIn K mainGlobals "_law_text_by" = some (some (.ref f9))) (l9 : K.lookup f9 = some ⟨oc9, od9, .func (PySem.W.fnOf "_law_text_by" "_law_text_by" (defArgs s__law_text_by) (defBody s__law_text_by) (defScope s__law_text_by) .none kV9 dc9 pm9 an9 cd9 ct9), sl9⟩) (c9 : PySem.W.codeIn K cd9 "_law_text_by" = true) (k9 : PySem.W.keepIn K (.ref f9) = true)
    (a10 : PySem.W.nsIn K mainGlobals "_law_alike" = some (some (.ref f10))) (l10 : K.lookup f10 = some ⟨oc10, od10, .func (PySem.W.fnOf "_law_alike" "_law_alike" (defArgs s__law_alike) (defBody s__law_alike) (defScope s__law_alike) .none kV10 dc10 pm10 an10 cd10 ct10), sl10⟩) (c10 : PySem.W.codeIn K cd10 "_law_alike" = true) (k10 : PySem.W.keepIn K (.ref f10) = true)
    (a11 : PySem.W.nsIn K mainGlobals "_law_size_by" = some (some (.ref f11))) (l11 : K.lookup f11 = some ⟨oc11, od11, .func (PySem.W.fnOf "_law_size_by" "_law_size_by" (defArgs s__law_size_by) (defBody s__law_size_by) (defScope s__law_size_by) .none kV11 dc11 pm11 an11 cd11 ct11), sl11⟩) (c11 : PySem.W.codeIn K cd11 "_law_size_by" = true) (k11 : PySem.W.keepIn K (.ref f11) = true)
    (a12 : PySem.W.nsIn K mainGlobals "_law_reach_by" = some (some (.ref f12))) (l12 : K.lookup f12 = some ⟨oc12, od12, .func (PySem.W.fnOf "_law_reach_by" "_law_reach_by" (defArgs s__law_reach_by) (defBody s__law_reach_by) (defScope s__law_reach_by) .none kV12 dc12 pm12 an12 cd12 ct12), sl12⟩) (c12 : PySem.W.codeIn K cd12 "_law_reach_by" = true) (k12 : PySem.W.keepIn K (.ref f12) = true)
    (a13 : PySem.W.nsIn K mainGlobals "_law_ahead" = some (some (.ref f13))) (l13 : K.lookup f13 = some ⟨oc13, od13, .func (PySem.W.fnOf "_law_ahead" "_law_ahead" (defArgs s__law_ahead) (defBody s__law_ahead) (defScope s__law_ahead) .none kV13 dc13 pm13 an13 cd13 ct13), sl13⟩) (c13 : PySem.W.codeIn K cd13 "_law_ahead" = true) (k13 : PySem.W.keepIn K (.ref f13) = true)
    (a14 : PySem.W.nsIn K mainGlobals "_law_behind" = some (some (.ref f14))) (l14 : K.lookup f14 = some ⟨oc14, od14, .func (PySem.W.fnOf "_law_behind" "_law_behind" (defArgs s__law_behind) (defBody s__law_behind) (defScope s__law_behind) .none kV14 dc14 pm14 an14 cd14 ct14), sl14⟩) (c14 : PySem.W.codeIn K cd14 "_law_behind" = true) (k14 : PySem.W.keepIn K (.ref f14) = true)
    (a15 : PySem.W.nsIn K mainGlobals "law" = some (some (.ref f15))) (l15 : K.lookup f15 = some ⟨oc15, od15, .func (PySem.W.fnOf "law" "law" (defArgs s_law) (defBody s_law) (defScope s_law) .none kV15 dc15 pm15 an15 cd15 ct15), sl15⟩) (c15 : PySem.W.codeIn K cd15 "law" = true) (k15 : PySem.W.keepIn K (.ref f15) = true)
    (g_WEIGHT_START : PySem.W.nsIn K mainGlobals "WEIGHT_START" = some (some (.int 7 tk_WEIGHT_START)))
    (g_WEIGHT_FACTOR : PySem.W.nsIn K mainGlobals "WEIGHT_FACTOR" = some (some (.int 131 tk_WEIGHT_FACTOR)))
    (g_WEIGHT_DIVISOR : PySem.W.nsIn K mainGlobals "WEIGHT_DIVISOR" = some (some (.int 65521 tk_WEIGHT_DIVISOR)))
    (z_bool : PySem.W.nsIn K mainGlobals "bool" = some none)
    (z_int : PySem.W.nsIn K mainGlobals "int" = some none)
    (z_isinstance : PySem.W.nsIn K mainGlobals "isinstance" = some none)
    (z_len : PySem.W.nsIn K mainGlobals "len" = some none)
    (z_list : PySem.W.nsIn K mainGlobals "list" = some none)
    (z_min : PySem.W.nsIn K mainGlobals "min" = some none)
    (z_ord : PySem.W.nsIn K mainGlobals "ord" = some none)
    (z_range : PySem.W.nsIn K mainGlobals "range" = some none)
    (z_str : PySem.W.nsIn K mainGlobals "str" = some none)
    (z_tuple : PySem.W.nsIn K mainGlobals "tuple" = some none)
    (z_zip : PySem.W.nsIn K mainGlobals "zip" = some none)
    : ∃ fd : FuncData, (∀ (s : Shared) (v : Value), BindsTo s fd ⟨[v], []⟩ [("_law_script", v)]) ∧ ∀ base : Heap, K.In base → base.Ns mainGlobals mg → FnOk l.prog w K mg base CX0 5 fa fd ["_law_script"] (sp_law K) := by
  have e := hfa.symm.trans (PySem.W.mg_of X G a15)
  cases e
  have F0 := fun_mk (st := s_weight) l0 c0 k0
  have b0 := F0.binds (ps := ["signs"]) fun _ _ _ _ _ _ us hl => match us, hl with | [_], _ => rfl
  have F1 := fun_mk (st := s_few) l1 c1 k1
  have b1 := F1.binds (ps := ["count", "width", "reach"]) fun _ _ _ _ _ _ us hl => match us, hl with | [_, _, _], _ => rfl
  have F2 := fun_mk (st := s_cuts) l2 c2 k2
  have b2 := F2.binds (ps := ["text", "width", "reach"]) fun _ _ _ _ _ _ us hl => match us, hl with | [_, _, _], _ => rfl
  have F3 := fun_mk (st := s_pieces) l3 c3 k3
  have b3 := F3.binds (ps := ["text", "width", "reach"]) fun _ _ _ _ _ _ us hl => match us, hl with | [_, _, _], _ => rfl
  have F4 := fun_mk (st := s__weights_by_place) l4 c4 k4
  have b4 := F4.binds (ps := ["text", "width"]) fun _ _ _ _ _ _ us hl => match us, hl with | [_, _], _ => rfl
  have F5 := fun_mk (st := s__is_lightest) l5 c5 k5
  have b5 := F5.binds (ps := ["weights", "place", "reach"]) fun _ _ _ _ _ _ us hl => match us, hl with | [_, _, _], _ => rfl
  have F6 := fun_mk (st := s__law_cell_at) l6 c6 k6
  have b6 := F6.binds (ps := ["_law_script", "_law_k"]) fun _ _ _ _ _ _ us hl => match us, hl with | [_, _], _ => rfl
  have F7 := fun_mk (st := s__law_whole) l7 c7 k7
  have b7 := F7.binds (ps := ["_law_got"]) fun _ _ _ _ _ _ us hl => match us, hl with | [_], _ => rfl
  have F8 := fun_mk (st := s__law_sign_by) l8 c8 k8
  have b8 := F8.binds (ps := ["_law_cell"]) fun _ _ _ _ _ _ us hl => match us, hl with | [_], _ => rfl
  have F9 := fun_mk (st := s__law_text_by) l9 c9 k9
  have b9 := F9.binds (ps := ["_law_cell", "_law_size"]) fun _ _ _ _ _ _ us hl => match us, hl with | [_, _], _ => rfl
  have F10 := fun_mk (st := s__law_alike) l10 c10 k10
  have b10 := F10.binds (ps := ["_law_got", "_law_due"]) fun _ _ _ _ _ _ us hl => match us, hl with | [_, _], _ => rfl
  have F11 := fun_mk (st := s__law_size_by) l11 c11 k11
  have b11 := F11.binds (ps := ["_law_cell"]) fun _ _ _ _ _ _ us hl => match us, hl with | [_], _ => rfl
  have F12 := fun_mk (st := s__law_reach_by) l12 c12 k12
  have b12 := F12.binds (ps := ["_law_cell"]) fun _ _ _ _ _ _ us hl => match us, hl with | [_], _ => rfl
  have F13 := fun_mk (st := s__law_ahead) l13 c13 k13
  have b13 := F13.binds (ps := ["_law_places", "_law_start", "_law_reach"]) fun _ _ _ _ _ _ us hl => match us, hl with | [_, _, _], _ => rfl
  have F14 := fun_mk (st := s__law_behind) l14 c14 k14
  have b14 := F14.binds (ps := ["_law_places", "_law_end", "_law_width", "_law_reach"]) fun _ _ _ _ _ _ us hl => match us, hl with | [_, _, _, _], _ => rfl
  have F15 := fun_mk (st := s_law) l15 c15 k15
  have b15 := F15.binds (ps := ["_law_script"]) fun _ _ _ _ _ _ us hl => match us, hl with | [_], _ => rfl
  exact ⟨PySem.W.fnOf "law" "law" (defArgs s_law) (defBody s_law) (defScope s_law) .none kV15 dc15 pm15 an15 cd15 ct15, fun s v => .of_eq rfl, fun base _ _ => ok_law (⟨_, _, F0, b0, PySem.W.mg_of X G a0, _, _, F1, b1, PySem.W.mg_of X G a1, _, _, F2, b2, PySem.W.mg_of X G a2, _, _, F3, b3, PySem.W.mg_of X G a3, _, _, F4, b4, PySem.W.mg_of X G a4, _, _, F5, b5, PySem.W.mg_of X G a5, _, _, F6, b6, PySem.W.mg_of X G a6, _, _, F7, b7, PySem.W.mg_of X G a7, _, _, F8, b8, PySem.W.mg_of X G a8, _, _, F9, b9, PySem.W.mg_of X G a9, _, _, F10, b10, PySem.W.mg_of X G a10, _, _, F11, b11, PySem.W.mg_of X G a11, _, _, F12, b12, PySem.W.mg_of X G a12, _, _, F13, b13, PySem.W.mg_of X G a13, _, _, F14, b14, PySem.W.mg_of X G a14, _, _, F15, b15, PySem.W.mg_of X G a15, _, PySem.W.mg_of X G g_WEIGHT_START, _, PySem.W.mg_of X G g_WEIGHT_FACTOR, _, PySem.W.mg_of X G g_WEIGHT_DIVISOR, PySem.W.mg_none_of X G z_bool, PySem.W.mg_none_of X G z_int, PySem.W.mg_none_of X G z_isinstance, PySem.W.mg_none_of X G z_len, PySem.W.mg_none_of X G z_list, PySem.W.mg_none_of X G z_min, PySem.W.mg_none_of X G z_ord, PySem.W.mg_none_of X G z_range, PySem.W.mg_none_of X G z_str, PySem.W.mg_none_of X G z_tuple, PySem.W.mg_none_of X G z_zip⟩ : Wd K mg)⟩
end My
open PySem PySem.W PyProof.Rows
set_option maxHeartbeats 0 in
theorem PySem.Challenge.cw_chunkshelf_k04_whole_few_altered_holds : PySem.Challenge.rw_chunkshelf_k04_whole_few_altered.Holds := by
  w_on; o_law; k_head; (case hw => w_witness2)
  k_fill
  refine L2.walk_of (l := PySem.Challenge.rw_chunkshelf_k04_whole_few_altered) (n := 63) (k := 5) (x := "_law_script") (CX := fun _ => L2.CX0) (sp := fun w => My.sp_law _) rfl (by decide) rfl ⟨rfl, by decide, by decide⟩ (fun w h Y => PySem.W.kIn_of Y) ?F (fun _ _ a ns hl _ hS => ⟨a, ns, rfl, hS, hl, fun _ => rfl⟩) (fun _ _ _ _ _ h => h)
  case F =>
    intro w mg fa h KX G hmg
    refine' My.all_mk KX G hmg ?a0 ?l0 ?c0 ?k0 ?a1 ?l1 ?c1 ?k1 ?a2 ?l2 ?c2 ?k2 ?a3 ?l3 ?c3 ?k3 ?a4 ?l4 ?c4 ?k4 ?a5 ?l5 ?c5 ?k5 ?a6 ?l6 ?c6 ?k6 ?a7 ?l7 ?c7 ?k7 ?a8 ?l8 ?c8 ?k8 ?a9 ?l9 ?c9 ?k9 ?a10 ?l10 ?c10 ?k10 ?a11 ?l11 ?c11 ?k11 ?a12 ?l12 ?c12 ?k12 ?a13 ?l13 ?c13 ?k13 ?a14 ?l14 ?c14 ?k14 ?a15 ?l15 ?c15 ?k15 ?g_WEIGHT_START ?g_WEIGHT_FACTOR ?g_WEIGHT_DIVISOR ?z_bool ?z_int ?z_isinstance ?z_len ?z_list ?z_min ?z_ord ?z_range ?z_str ?z_tuple ?z_zip
    (case a0 => k_is); (case l0 => k_is); (case c0 => k_is); (case k0 => k_is); (case a1 => k_is); (case l1 => k_is); (case c1 => k_is); (case k1 => k_is); (case a2 => k_is); (case l2 => k_is); (case c2 => k_is); (case k2 => k_is); (case a3 => k_is); (case l3 => k_is); (case c3 => k_is); (case k3 => k_is); (case a4 => k_is); (case l4 => k_is); (case c4 => k_is); (case k4 => k_is); (case a5 => k_is); (case l5 => k_is); (case c5 => k_is); (case k5 => k_is); (case a6 => k_is); (case l6 => k_is); (case c6 => k_is); (case k6 => k_is); (case a7 => k_is); (case l7 => k_is); (case c7 => k_is); (case k7 => k_is); (case a8 => k_is); (case l8 => k_is); (case c8 => k_is); (case k8 => k_is); (case a9 => k_is); (case l9 => k_is); (case c9 => k_is); (case k9 => k_is); (case a10 => k_is); (case l10 => k_is); (case c10 => k_is); (case k10 => k_is); (case a11 => k_is); (case l11 => k_is); (case c11 => k_is); (case k11 => k_is); (case a12 => k_is); (case l12 => k_is); (case c12 => k_is); (case k12 => k_is); (case a13 => k_is); (case l13 => k_is); (case c13 => k_is); (case k13 => k_is); (case a14 => k_is); (case l14 => k_is); (case c14 => k_is); (case k14 => k_is); (case a15 => k_is); (case l15 => k_is); (case c15 => k_is); (case k15 => k_is); (case g_WEIGHT_START => k_is); (case g_WEIGHT_FACTOR => k_is); (case g_WEIGHT_DIVISOR => k_is); (case z_bool => k_is); (case z_int => k_is); (case z_isinstance => k_is); (case z_len => k_is); (case z_list => k_is); (case z_min => k_is); (case z_ord => k_is); (case z_range => k_is); (case z_str => k_is); (case z_tuple => k_is); (case z_zip => k_is)
