import PyProof.Rows.All
import Wide.All
import OpenK.AllK
import Wide.FinOn
import HandS.ForMost
import HandS.IsInst
import HandS.Walk
import HandS.DictComp
import HandS.Codes
import HandS.Exc
import HandS.ExcOwn
import HandS.WordsExc
import HandS.WordsDict
import HandS.TryOnly
import HandS.HotCalls
import HandS.ExcIs
import HandS.More
import HandS.SortInts
import HandS.AnyAll
import HandS.Conv
import HandS.SortOrd
import HandS.AnyAll
import HandS.EndTab
import PyProof.GenCompD
import PyProof.WalksMore
import PyProof.SumAny
import HandS.RaiseMore
import HandS.FStr
import HandS.TupLen
import HandS.Set
import HandS.Strs
import HandS.SetBool
import HandS.SortInts
import HandS.Keys
import KE.KSortTup
import HandS.SetFor
import HandS.DictTup
import PyProof.DictMoreH
import PyProof.SetRoads
import HandS.Style
import HandS.Star
import HandS.Replace
import HandS.ReplaceLit
import HandS.ReplaceList
import HandS.ReplaceDef
import HandS.StrSplit
import PySem.Challenge.RW_chunkshelf_k09_refused
set_option Elab.async false
set_option linter.all false
set_option maxRecDepth 100000
/-! Our own short layer: readings that evaluate by simp. -/
namespace Y
open PySem PySem.Spec PyProof.Rows L2

/-! ### texts as lists of codes -/
def st (l : List Nat) : Str := ⟨l.toArray⟩
theorem codes_st (l : List Nat) : (st l).cps.toList = l := rfl
theorem st_codes (z : Str) : st z.cps.toList = z := rfl
theorem len_st (l : List Nat) : (st l).length = l.length := by simp [st, Str.length]
theorem len_cps (z : Str) : z.length = z.cps.toList.length := by simp [Str.length]
theorem st_inj {a b : List Nat} : (st a = st b) ↔ a = b := by
  constructor
  · intro h
    have := congrArg (fun z => z.cps.toList) h
    simpa [codes_st] using this
  · intro h; rw [h]
theorem st_app (a b : List Nat) : st a ++ st b = st (a ++ b) := by
  show Str.mk (a.toArray ++ b.toArray) = Str.mk (a ++ b).toArray
  simp
theorem app_st (x y : Str) : x ++ y = st (x.cps.toList ++ y.cps.toList) := by
  show Str.mk (x.cps ++ y.cps) = Str.mk (x.cps.toList ++ y.cps.toList).toArray
  simp
theorem one_st (c : Nat) : (⟨#[c]⟩ : Str) = st [c] := rfl
theorem mk_st (l : List Nat) : (⟨l.toArray⟩ : Str) = st l := rfl
theorem emp_st : Str.ofString "" = st [] := by decide +kernel
theorem line_eq : sizeLine = 16777216 := sizeLine_eq

theorem cxOf_K {CX : CXT} {P : Program} {w : World} {K : PySem.W.Frag} {mg : Str → Option Value} {base : Heap} {N : List Str} {qual : Str} {scope : Scope} {f : Addr} {cd : Value} {A : Around} {outer : List Env} {s : Shared} {H : Hp} {E : XK} :
    (cxOf CX P w K mg base N qual scope f cd A outer s H E).K = K := rfl
/-! ### the combinators, applied -/
section
variable {ta tb te : TE} {t u : TS} {D : Ends} {σ : L2.St} {H : Hp} {Q : VK} {v : V}
/-- a slot that holds a value -/
def look (o : Option (Option V)) (P : V → Prop) : Prop := match o with
  | some (some v) => P v
  | _ => False
theorem look_some (P : V → Prop) : look (some (some v)) P = P v := rfl
theorem tVar_ap {i : Nat} : tVar i σ H Q = look σ[i]? fun v => Q v H := by
  unfold tVar look
  apply propext
  constructor
  · rintro ⟨v, e, q⟩
    rw [e]
    exact q
  · intro h
    split at h
    · rename_i v e
      exact ⟨v, e, h⟩
    · exact h.elim
theorem tC_ap : tC v σ H Q = Q v H := rfl
theorem tSeq_ap : tSeq t u D σ H = t { D with nx := u D } σ H := rfl
theorem tNext_ap : tNext D σ H = D.nx σ H := rfl
theorem tAsg_ap {g : TG} : tAsg te g D σ H = te σ H fun x H1 => g x σ H1 D.nx := rfl
theorem gName_ap {i : Nat} {N : L2.St → Hp → Prop} : gName i v σ H N = N (σ.set i (some v)) H := rfl
theorem tRet_ap : tRet te D σ H = te σ H D.rt := rfl
theorem tRetN_ap : tRetN D σ H = D.rt .non H := rfl
theorem tDrop_ap : tDrop te D σ H = te σ H fun _ H1 => D.nx σ H1 := rfl
theorem tBreak_ap : tBreak D σ H = D.bk σ H := rfl
theorem tCont_ap : tCont D σ H = D.ct σ H := rfl
theorem tOp_ap {r : R2} : tOp r ta tb σ H Q = ta σ H fun x H1 => tb σ H1 fun y H2 => r x y H2 Q := rfl
theorem tUn_ap {r : V → Hp → VK → Prop} : tUn r ta σ H Q = ta σ H fun x H1 => r x H1 Q := rfl
theorem tNil_ap {R : List V → Hp → Prop} : tNil σ H R = R [] H := rfl
theorem tCons_ap {tr : TA} {R : List V → Hp → Prop} : tCons ta tr σ H R = ta σ H fun x H1 => tr σ H1 fun xs H2 => R (x :: xs) H2 := rfl
theorem tCB_ap {r : List V → Hp → VK → Prop} {tt : TA} : tCB r tt σ H Q = tt σ H fun vs H1 => r vs H1 Q := rfl
theorem tCall_ap {sp : Sp} {dvs : List V} {E : XK} {tt : TA} : tCall sp dvs E tt σ H Q = tt σ H fun vs H1 => sp (vs ++ dvs) H1 Q E := rfl
theorem tBM_ap {K : PySem.W.Frag} {T : String} {r : V → List V → Hp → VK → Prop} {tt : TA} : tBM K T r te tt σ H Q = te σ H fun x H1 => tyV K T x H1 ∧ tt σ H1 fun xs H2 => r x xs H2 Q := rfl
theorem tM1_ap {r : V → List V → Hp → VK → Prop} : tM1 r ta tb σ H Q = ta σ H fun x H1 => (∃ a, x = .str a) ∧ tb σ H1 fun y H2 => r x [y] H2 Q := rfl
theorem tLst_ap {tt : TA} : tLst tt σ H Q = tt σ H fun xs H1 => xs.length ≤ sizeLine ∧ ∀ p, H1 p = none → Q (.ref p) (upd H1 p (.lst xs)) := rfl
theorem tTup_ap {tt : TA} : tTup tt σ H Q = tt σ H fun xs H1 => xs.length ≤ sizeLine ∧ ∀ p, H1 p = none → Q (.ref p) (upd H1 p (.tup xs)) := rfl
theorem tSl_ap {r : V → Option Int → Option Int → Hp → VK → Prop} {tl th : TO} : tSl r te tl th σ H Q = te σ H fun x H1 => tl σ H1 fun l H2 => th σ H2 fun u H3 => r x l u H3 Q := rfl
theorem tNoPart_ap {R : Option Int → Hp → Prop} : tNoPart σ H R = R none H := rfl
/-- an int, else nothing holds -/
def asInt (v : V) (P : Int → Prop) : Prop := match v with
  | .int i => P i
  | _ => False
def asBl (v : V) (P : Bool → Prop) : Prop := match v with
  | .bl i => P i
  | _ => False
theorem asInt_int {i : Int} {P : Int → Prop} : asInt (.int i) P = P i := rfl
theorem asBl_bl {i : Bool} {P : Bool → Prop} : asBl (.bl i) P = P i := rfl
theorem asInt_ex {v : V} {P : Int → Prop} : asInt v P = ∃ i, v = .int i ∧ P i := by
  apply propext
  cases v <;> simp [asInt]
theorem asBl_ex {v : V} {P : Bool → Prop} : asBl v P = ∃ i, v = .bl i ∧ P i := by
  apply propext
  cases v <;> simp [asBl]
theorem tPart_ap {R : Option Int → Hp → Prop} : tPart te σ H R = te σ H fun x H1 => asInt x fun i => R (some i) H1 := by
  unfold tPart
  simp only [asInt_ex]
/-- a branch, folded -/
def br (b : Bool) (A B : Prop) : Prop := if b = true then A else B
theorem br_t {A B : Prop} : br true A B = A := by simp [br]
theorem br_f {A B : Prop} : br false A B = B := by simp [br]
theorem br_of {b : Bool} {A B : Prop} (h1 : b = true → A) (h2 : b = false → B) : br b A B := by
  cases b
  · exact (br_f (A := A)).symm ▸ h2 rfl
  · exact (br_t (B := B)).symm ▸ h1 rfl
/-- a branch of statements, folded -/
def brS (b : Bool) (t u : TS) (D : Ends) (σ : L2.St) (H : Hp) : Prop := if b = true then t D σ H else u D σ H
theorem brS_t : brS true t u D σ H = t D σ H := by simp [brS]
theorem brS_f : brS false t u D σ H = u D σ H := by simp [brS]
theorem brS_of {b : Bool} (h1 : b = true → t D σ H) (h2 : b = false → u D σ H) : brS b t u D σ H := by
  cases b
  · exact brS_f.symm ▸ h2 rfl
  · exact brS_t.symm ▸ h1 rfl
theorem brS_join {b : Bool} (R : L2.St → Hp → Prop) (hk : ∀ σ H, R σ H → D.nx σ H) (h : ∀ N : L2.St → Hp → Prop, (∀ σ H, R σ H → N σ H) → brS b t u { D with nx := N } σ H) : brS b t u D σ H := h D.nx hk
theorem brS_ite {b : Bool} : (if b = true then t D σ H else u D σ H) = brS b t u D σ H := rfl
theorem tIfS_ap {c : TT} : tIfS c t u D σ H = c σ H fun b H1 => brS b t u D σ H1 := rfl
/-- a branch of expressions -/
def brE (b : Bool) (ta tb : TE) (σ : L2.St) (H : Hp) (Q : VK) : Prop := if b = true then ta σ H Q else tb σ H Q
theorem brE_t : brE true ta tb σ H Q = ta σ H Q := by simp [brE]
theorem brE_f : brE false ta tb σ H Q = tb σ H Q := by simp [brE]
theorem brE_of {b : Bool} (h1 : b = true → ta σ H Q) (h2 : b = false → tb σ H Q) : brE b ta tb σ H Q := by
  cases b
  · exact brE_f.symm ▸ h2 rfl
  · exact brE_t.symm ▸ h1 rfl
theorem tIf_ap {c : TT} : tIf c ta tb σ H Q = c σ H fun b H1 => brE b ta tb σ H1 Q := rfl
theorem tAndV_ap : tAndV ta tb σ H Q = ta σ H fun x H1 => asBl x fun c => brE c tb (tC (.bl false)) σ H1 Q := by
  unfold tAndV
  simp only [asBl_ex, brE, tC]
theorem tOrV_ap : tOrV ta tb σ H Q = ta σ H fun x H1 => asBl x fun c => brE c (tC (.bl true)) tb σ H1 Q := by
  unfold tOrV
  simp only [asBl_ex, brE, tC]
theorem tNotV_ap : tNotV ta σ H Q = ta σ H fun x H1 => asBl x fun c => Q (.bl (!c)) H1 := by
  unfold tNotV
  simp only [asBl_ex]
/-- a branch of tests -/
def brT (b : Bool) (ta tb : TT) (σ : L2.St) (H : Hp) (R : Bool → Hp → Prop) : Prop := if b = true then ta σ H R else tb σ H R
variable {tA tB' : TT} {R : Bool → Hp → Prop}
theorem brT_t : brT true tA tB' σ H R = tA σ H R := by simp [brT]
theorem brT_f : brT false tA tB' σ H R = tB' σ H R := by simp [brT]
theorem brT_of {b : Bool} (h1 : b = true → tA σ H R) (h2 : b = false → tB' σ H R) : brT b tA tB' σ H R := by
  cases b
  · exact brT_f.symm ▸ h2 rfl
  · exact brT_t.symm ▸ h1 rfl
def tK (b : Bool) : TT := fun _ H R => R b H
theorem tK_ap {b : Bool} : tK b σ H R = R b H := rfl
theorem tAnd_ap : tAnd tA tB' σ H R = tA σ H fun c H1 => brT c tB' (tK false) σ H1 R := rfl
theorem tOr_ap : tOr tA tB' σ H R = tA σ H fun c H1 => brT c (tK true) tB' σ H1 R := rfl
theorem tNot_ap : tNot tA σ H R = tA σ H fun c H1 => R (!c) H1 := rfl
theorem tB_ap : tB te σ H R = te σ H fun x H1 => asBl x fun c => R c H1 := by
  unfold tB
  simp only [asBl_ex]
theorem tTest_ap : tTest te σ H R = te σ H fun x H1 => asBl x fun c => R c H1 := by
  unfold tTest
  simp only [asBl_ex]
/-- a loop, folded -/
def forW (J : It) (g : TG) (tb : TS) (D : Ends) (σ : L2.St) (H1 : Hp) : Prop := ∃ W : Nat → Nat → L2.St → Hp → Prop, (∃ m, W 0 m σ H1) ∧ ∀ i m σ H, W i m σ H →
  (J.stop i H ∧ D.nx σ H) ∨ (J.go i H ∧ ∃ N : L2.St → Hp → Prop, (∀ σ' H', N σ' H' → ∃ m', m' < m ∧ W (i + 1) m' σ' H') ∧ ∀ x H', J.yld i H x H' → g x σ H' fun σ2 H2 => tb { D with nx := N, ct := N, bk := D.nx } σ2 H2)
theorem tFor_ap {wi : TI} {g : TG} : tFor wi g t D σ H = wi σ H fun J H1 => forW J g t D σ H1 := rfl
theorem iRng1_ap {tt : TA} {R : It → Hp → Prop} : iRng1 tt σ H R = tt σ H fun vs H1 => ∃ j : Int, vs = [.int j] ∧ -(2 ^ 62) ≤ j ∧ j < 2 ^ 62 ∧ R (Itr 0 j.toNat) H1 := rfl
/-- the arguments of a range, looked at -/
def rng1 (vs : List V) (k : Int → Prop) : Prop := match vs with
  | [.int j] => (-(2 ^ 62) ≤ j ∧ j < 2 ^ 62) ∧ k j
  | _ => False
def rng2 (vs : List V) (k : Int → Int → Prop) : Prop := match vs with
  | [.int i, .int j] => (-(2 ^ 62) ≤ i ∧ i < 2 ^ 62 ∧ -(2 ^ 62) ≤ j ∧ j < 2 ^ 62) ∧ k i j
  | _ => False
theorem rng1_ap {j : Int} {k : Int → Prop} : rng1 [.int j] k = ((-(2 ^ 62) ≤ j ∧ j < 2 ^ 62) ∧ k j) := rfl
theorem rng2_ap {i j : Int} {k : Int → Int → Prop} : rng2 [.int i, .int j] k = ((-(2 ^ 62) ≤ i ∧ i < 2 ^ 62 ∧ -(2 ^ 62) ≤ j ∧ j < 2 ^ 62) ∧ k i j) := rfl
theorem rng1_ex {vs : List V} {k : Int → Prop} : rng1 vs k ↔ ∃ j : Int, vs = [.int j] ∧ -(2 ^ 62) ≤ j ∧ j < 2 ^ 62 ∧ k j := by
  constructor
  · intro h
    unfold rng1 at h
    split at h
    · exact ⟨_, rfl, h.1.1, h.1.2, h.2⟩
    · exact h.elim
  · rintro ⟨j, rfl, h1, h2, h3⟩
    exact ⟨⟨h1, h2⟩, h3⟩
theorem rng2_ex {vs : List V} {k : Int → Int → Prop} : rng2 vs k ↔ ∃ i j : Int, vs = [.int i, .int j] ∧ (-(2 ^ 62) ≤ i ∧ i < 2 ^ 62 ∧ -(2 ^ 62) ≤ j ∧ j < 2 ^ 62) ∧ k i j := by
  constructor
  · intro h
    unfold rng2 at h
    split at h
    · exact ⟨_, _, rfl, h.1, h.2⟩
    · exact h.elim
  · rintro ⟨i, j, rfl, h1, h3⟩
    exact ⟨h1, h3⟩
theorem tFor1_ap {tt : TA} {g : TG} : tFor (iRng1 tt) g t D σ H = tt σ H fun vs H1 => rng1 vs fun j => forW (Itr 0 j.toNat) g t D σ H1 := by
  show (tt σ H fun vs H1 => ∃ j : Int, vs = [.int j] ∧ -(2 ^ 62) ≤ j ∧ j < 2 ^ 62 ∧ forW (Itr 0 j.toNat) g t D σ H1) = _
  congr 1
  funext vs H1
  exact propext rng1_ex.symm
theorem tFor2_ap {tt : TA} {g : TG} : tFor (iRng2 tt) g t D σ H = tt σ H fun vs H1 => rng2 vs fun i j => forW (Itr i (j - i).toNat) g t D σ H1 := by
  show (tt σ H fun vs H1 => ∃ i j : Int, vs = [.int i, .int j] ∧ (-(2 ^ 62) ≤ i ∧ i < 2 ^ 62 ∧ -(2 ^ 62) ≤ j ∧ j < 2 ^ 62) ∧ forW (Itr i (j - i).toNat) g t D σ H1) = _
  congr 1
  funext vs H1
  exact propext rng2_ex.symm
/-- a comprehension, folded -/
def lcW (J : It) (g : TG) (tt : TT) (te : TE) (vs : List Nat) (σ : L2.St) (D : Addr) (H1 : Hp) (Qd : Hp → Prop) : Prop := ∃ W : Nat → Nat → Hp → Prop, (∃ m, W 0 m (upd H1 D (.lst []))) ∧ ∀ i m H, W i m H →
  (J.stop i H ∧ Qd H) ∨ (J.go i H ∧ ∃ Nx : Hp → Prop, (∀ H', Nx H' → ∃ m', m' < m ∧ W (i + 1) m' H') ∧ ∀ x H', J.yld i H x H' → g x (wipe σ vs) H' fun σ2 H2 => wipe σ2 vs = wipe σ vs ∧ tt σ2 H2 fun b H3 =>
    if b = true then te σ2 H3 fun y H4 => ∃ acc, H4 D = some (.lst acc) ∧ acc.length < sizeLine ∧ Nx (upd H4 D (.lst (acc ++ [y]))) else Nx H3)
def dcW (J : It) (g : TG) (tt : TT) (tk tv : TE) (vs : List Nat) (σ : L2.St) (D : Addr) (H1 : Hp) (Qd : Hp → Prop) : Prop := ∃ W : Nat → Nat → Hp → Prop, (∃ m, W 0 m (upd H1 D (.dK []))) ∧ ∀ i m H, W i m H →
  (J.stop i H ∧ Qd H) ∨ (J.go i H ∧ ∃ Nx : Hp → Prop, (∀ H', Nx H' → ∃ m', m' < m ∧ W (i + 1) m' H') ∧ ∀ x H', J.yld i H x H' → g x (wipe σ vs) H' fun σ2 H2 => wipe σ2 vs = wipe σ vs ∧ tt σ2 H2 fun b H3 =>
    if b = true then tk σ2 H3 fun y H4 => tv σ2 H4 fun z H5 => ∃ kvs k, y = kV k ∧ H5 D = some (.dK kvs) ∧ kvs.length < sizeLine ∧ Nx (upd H5 D (.dK (putK kvs k z))) else Nx H3)
theorem tYes_ap : tYes σ H R = R true H := rfl
theorem tLc1_ap {ts : TA} {g : TG} {tt : TT} {vs : List Nat} : tLc (iRng1 ts) g tt te vs σ H Q = ts σ H fun xs H1 => rng1 xs fun j => ∀ D, H1 D = none → lcW (Itr 0 j.toNat) g tt te vs σ D H1 fun H' => Q (.ref D) H' := by
  show (ts σ H fun xs H1 => ∃ j : Int, xs = [.int j] ∧ -(2 ^ 62) ≤ j ∧ j < 2 ^ 62 ∧ ∀ D, H1 D = none → lcW (Itr 0 j.toNat) g tt te vs σ D H1 fun H' => Q (.ref D) H') = _
  congr 1
  funext xs H1
  exact propext rng1_ex.symm
theorem tLc2_ap {ts : TA} {g : TG} {tt : TT} {vs : List Nat} : tLc (iRng2 ts) g tt te vs σ H Q = ts σ H fun xs H1 => rng2 xs fun i j => ∀ D, H1 D = none → lcW (Itr i (j - i).toNat) g tt te vs σ D H1 fun H' => Q (.ref D) H' := by
  show (ts σ H fun xs H1 => ∃ i j : Int, xs = [.int i, .int j] ∧ (-(2 ^ 62) ≤ i ∧ i < 2 ^ 62 ∧ -(2 ^ 62) ≤ j ∧ j < 2 ^ 62) ∧ ∀ D, H1 D = none → lcW (Itr i (j - i).toNat) g tt te vs σ D H1 fun H' => Q (.ref D) H') = _
  congr 1
  funext xs H1
  exact propext rng2_ex.symm
theorem tDc2_ap {ts : TA} {g : TG} {tt : TT} {vs : List Nat} : tDc (iRng2 ts) g tt te tb vs σ H Q = ts σ H fun xs H1 => rng2 xs fun i j => ∀ D, H1 D = none → dcW (Itr i (j - i).toNat) g tt te tb vs σ D H1 fun H' => Q (.ref D) H' := by
  show (ts σ H fun xs H1 => ∃ i j : Int, xs = [.int i, .int j] ∧ (-(2 ^ 62) ≤ i ∧ i < 2 ^ 62 ∧ -(2 ^ 62) ≤ j ∧ j < 2 ^ 62) ∧ ∀ D, H1 D = none → dcW (Itr i (j - i).toNat) g tt te tb vs σ D H1 fun H' => Q (.ref D) H') = _
  congr 1
  funext xs H1
  exact propext rng2_ex.symm
/-- a text, else nothing holds -/
def asStr (v : V) (P : Str → Prop) : Prop := match v with
  | .str i => P i
  | _ => False
theorem asStr_str {i : Str} {P : Str → Prop} : asStr (.str i) P = P i := rfl
theorem asStr_ex {v : V} {P : Str → Prop} : asStr v P = ∃ i, v = .str i ∧ P i := by
  apply propext
  cases v <;> simp [asStr]
def asRef (v : V) (P : Addr → Prop) : Prop := match v with
  | .ref i => P i
  | _ => False
theorem asRef_ref {i : Addr} {P : Addr → Prop} : asRef (.ref i) P = P i := rfl
theorem asRef_ex {v : V} {P : Addr → Prop} : asRef v P = ∃ i, v = .ref i ∧ P i := by
  apply propext
  cases v <;> simp [asRef]
theorem tForS_ap {g : TG} : tFor (iStr te) g t D σ H = te σ H fun v H1 => asStr v fun x => forW (Its x) g t D σ H1 := by
  simp only [asStr_ex]
  rfl
theorem tLcZ_ap {K : PySem.W.Frag} {ts : TA} {g : TG} {tt : TT} {tf : TE} {vs : List Nat} : tLc (iZip K ts) g tt tf vs σ H Q = ts σ H fun us H1 => ∃ a b xs ys, us = [.ref a, .ref b] ∧ SqL K H1 a xs ∧ SqL K H1 b ys ∧ ∀ D, H1 D = none → lcW (Itz K a b) g tt tf vs σ D H1 fun H' => Q (.ref D) H' := rfl
theorem tForZ_ap {K : PySem.W.Frag} {ts : TA} {g : TG} : tFor (iZip K ts) g t D σ H = ts σ H fun us H1 => ∃ a b xs ys, us = [.ref a, .ref b] ∧ SqL K H1 a xs ∧ SqL K H1 b ys ∧ forW (Itz K a b) g t D σ H1 := rfl
theorem tLcL_ap {K : PySem.W.Frag} {g : TG} {tt : TT} {tf : TE} {vs : List Nat} : tLc (iList K te) g tt tf vs σ H Q = te σ H fun v H1 => asRef v fun a => (∃ xs, SqL K H1 a xs) ∧ ∀ D, H1 D = none → lcW (Itl K a) g tt tf vs σ D H1 fun H' => Q (.ref D) H' := by
  simp only [asRef_ex]
  rfl
theorem tDGet_ap : tDGet te tb σ H Q = te σ H fun x H1 => tb σ H1 fun y H2 => asRef x fun a => ∃ v, DGet H2 a y (some v) ∧ Q v H2 := by
  simp only [asRef_ex]
  unfold tDGet
  congr 1
  funext x H1
  congr 1
  funext y H2
  apply propext
  constructor
  · rintro ⟨a, v, h1, h2, h3⟩
    exact ⟨a, h1, v, h2, h3⟩
  · rintro ⟨a, h1, v, h2, h3⟩
    exact ⟨a, v, h1, h2, h3⟩
theorem tForL_ap {K : PySem.W.Frag} {g : TG} : tFor (iList K te) g t D σ H = te σ H fun v H1 => asRef v fun a => (∃ xs, SqL K H1 a xs) ∧ forW (Itl K a) g t D σ H1 := by
  simp only [asRef_ex]
  rfl
end
/-- range(lo, lo + n) -/
theorem for_rng {lo : Int} {n : Nat} {g : TG} {tb : TS} {D : Ends} {σ : L2.St} {H : Hp} (Pv : Nat → L2.St → Hp → Prop) (h0 : Pv 0 σ H)
    (hs : ∀ i σ H, i < n → Pv i σ H → g (.int (lo + i)) σ H fun σ2 H2 => tb { D with nx := Pv (i + 1), ct := Pv (i + 1), bk := D.nx } σ2 H2) (hd : ∀ σ H, Pv n σ H → D.nx σ H) : forW (Itr lo n) g tb D σ H :=
  for_range Pv h0 hs hd
/-- the signs of a text -/
theorem for_sgn {l : List Nat} {g : TG} {tb : TS} {D : Ends} {σ : L2.St} {H : Hp} (Pv : Nat → L2.St → Hp → Prop) (h0 : Pv 0 σ H)
    (hs : ∀ i c σ H, l[i]? = some c → Pv i σ H → g (.str (st [c])) σ H fun σ2 H2 => tb { D with nx := Pv (i + 1), ct := Pv (i + 1), bk := D.nx } σ2 H2) (hd : ∀ σ H, Pv l.length σ H → D.nx σ H) : forW (Its (st l)) g tb D σ H := by
  have w : Walk (Its (st l)) l.length (fun _ => True) (fun i H x H' => H' = H ∧ ∃ c, l[i]? = some c ∧ x = .str (st [c])) :=
    ⟨fun i H hi _ => by show i < (st l).cps.size; simpa [st] using hi, fun H _ => by show (st l).cps.size ≤ l.length; simp [st], fun i H x H' hi _ y => by
      obtain ⟨e, c, h1, h2⟩ := y
      refine ⟨e, c, ?_, h2⟩
      simpa [st] using h1⟩
  refine for_it w Pv h0 (fun _ _ _ _ _ => trivial) (fun i x σ H H' hi p y => ?_) hd
  obtain ⟨e, c, h1, h2⟩ := y
  subst e h2
  exact hs i c σ _ h1 p

/-! ### operators over all kinds -/
def rAdd (K : PySem.W.Frag) (x y : V) (H : Hp) (Q : VK) : Prop := match x, y with
  | .int i, .int j => Q (.int (i + j)) H
  | .str a, .str b => a.length + b.length ≤ sizeLine ∧ Q (.str (st (a.cps.toList ++ b.cps.toList))) H
  | .ref l, .ref b => ∃ xs zs, H l = some (.lst xs) ∧ H b = some (.lst zs) ∧ xs.length + zs.length ≤ sizeLine ∧ ∀ p, H p = none → Q (.ref p) (upd H p (.lst (xs ++ zs)))
  | _, _ => False
def rSub (x y : V) (H : Hp) (Q : VK) : Prop := match x, y with
  | .int i, .int j => Q (.int (i - j)) H
  | _, _ => False
def repS (z : List Nat) (k : Nat) : List Nat := (List.replicate k z).flatten
def rMul (x y : V) (H : Hp) (Q : VK) : Prop := match x, y with
  | .int i, .int j => CMul i j ∧ Q (.int (i * j)) H
  | .str a, .int k => (0 ≤ k ∧ k ≤ sizeLine ∧ a.length * k.toNat ≤ sizeLine) ∧ Q (.str (st (repS a.cps.toList k.toNat))) H
  | _, _ => False
def rMod (x y : V) (H : Hp) (Q : VK) : Prop := match x, y with
  | .int i, .int j => 0 < j ∧ Q (.int (i % j)) H
  | _, _ => False
def rDiv (x y : V) (H : Hp) (Q : VK) : Prop := match x, y with
  | .int i, .int j => CDiv i j ∧ Q (.int (i / j)) H
  | _, _ => False
def rPow (x y : V) (H : Hp) (Q : VK) : Prop := match x, y with
  | .int i, .int j => CPow i j ∧ Q (.int (i ^ j.toNat)) H
  | _, _ => False
def rCmp (p : Int → Int → Bool) (x y : V) (H : Hp) (Q : VK) : Prop := match x, y with
  | .int i, .int j => Q (.bl (p i j)) H
  | _, _ => False
def eqB (x y : V) : Option Bool := match x, y with
  | .int i, .int j => some (decide (i = j))
  | .str i, .str j => some (decide (i = j))
  | .bl i, .bl j => some (decide (i = j))
  | .non, .non => some true
  | _, _ => if scal x y = true then some false else none
def rEqS (K : PySem.W.Frag) (x y : V) (H : Hp) (Q : VK) : Prop := match x, y with
  | .int i, .int j => Q (.bl (decide (i = j))) H
  | .str i, .str j => Q (.bl (decide (i = j))) H
  | .bl i, .bl j => Q (.bl (decide (i = j))) H
  | .ref a, .ref b => rEqD K (.ref a) (.ref b) H Q
  | x, y => scal x y = true ∧ Q (.bl (decide (x = y))) H
def rNeS (K : PySem.W.Frag) (x y : V) (H : Hp) (Q : VK) : Prop := match x, y with
  | .int i, .int j => Q (.bl (!decide (i = j))) H
  | .str i, .str j => Q (.bl (!decide (i = j))) H
  | .bl i, .bl j => Q (.bl (!decide (i = j))) H
  | .ref a, .ref b => rNeD K (.ref a) (.ref b) H Q
  | x, y => scal x y = true ∧ Q (.bl (!decide (x = y))) H
/-- a flat value as data -/
def pyV : V → PyData
  | .bl b => .bool b
  | .int i => .int i
  | .str x => .str x
  | _ => .none
def plainV : V → Bool
  | .int _ => true
  | .str x => x.cps.all (· < 0x110000)
  | _ => false
theorem dp_all {K : PySem.W.Frag} {H : Hp} : ∀ {xs : List V}, xs.all plainV = true → DpAll K H xs (xs.map pyV)
  | [], _ => .nil
  | x :: r, h => by
    rw [List.all_cons, Bool.and_eq_true] at h
    refine .cons ?_ (dp_all h.2)
    cases x <;> first | (exact Bool.noConfusion (show false = true from h.1)) | constructor
theorem lay_all : ∀ {xs : List V}, xs.all plainV = true → PyData.canLayAll0 (xs.map pyV) = true ∧ PyData.depthAll (xs.map pyV) ≤ 1
  | [], _ => ⟨rfl, by simp [PyData.depthAll]⟩
  | x :: r, h => by
    rw [List.all_cons, Bool.and_eq_true] at h
    have ⟨h1, h2⟩ := lay_all h.2
    rw [List.map_cons]
    cases x <;> first | (exact Bool.noConfusion (show false = true from h.1)) | skip
    · refine ⟨by simpa [PyData.canLayAll0, PyData.canLay0, pyV] using h1, ?_⟩
      simp only [PyData.depthAll, pyV, PyData.depth]
      omega
    · refine ⟨?_, ?_⟩
      · simp only [PyData.canLayAll0, PyData.canLay0, pyV, h1, Bool.and_true]
        exact h.1
      · simp only [PyData.depthAll, pyV, PyData.depth]
        omega
theorem eqv_all : ∀ {xs ys : List V}, xs.all plainV = true → ys.all plainV = true → PyData.eqvAll (xs.map pyV) (ys.map pyV) = decide (xs = ys)
  | [], [], _, _ => by simp [PyData.eqvAll]
  | [], y :: s, _, _ => by simp [PyData.eqvAll]
  | x :: r, [], _, _ => by simp [PyData.eqvAll]
  | x :: r, y :: s, h, g => by
    rw [List.all_cons, Bool.and_eq_true] at h g
    have ih := eqv_all h.2 g.2
    rw [List.map_cons, List.map_cons]
    show (PyData.eqv (pyV x) (pyV y) && PyData.eqvAll (r.map pyV) (s.map pyV)) = _
    rw [ih]
    cases x <;> first | (exact Bool.noConfusion (show false = true from h.1)) | skip
    all_goals
      cases y <;> first | (exact Bool.noConfusion (show false = true from g.1)) | skip
      all_goals
        simp only [pyV, PyData.eqv, List.cons.injEq, V.int.injEq, V.str.injEq, reduceCtorEq, false_and, decide_false, Bool.false_and]
        try rw [Bool.eq_iff_iff]
        try simp
theorem dp_lst {K : PySem.W.Frag} {H : Hp} {a : Addr} {xs : List V} (h : SqL K H a xs) (p : xs.all plainV = true) : Dp K H (.ref a) (.list (xs.map pyV)) ∧ SeqAt.shaped (.list (xs.map pyV)) = true := by
  have ⟨h1, h2⟩ := lay_all p
  refine ⟨.lst h (dp_all p), ?_⟩
  unfold SeqAt.shaped
  rw [Bool.and_eq_true]
  refine ⟨by simpa [PyData.canLay0] using h1, decide_eq_true ?_⟩
  simp only [PyData.depth]
  omega
theorem dp_tup {K : PySem.W.Frag} {H : Hp} {a : Addr} {xs : List V} (h : SqT K H a xs) (p : xs.all plainV = true) : Dp K H (.ref a) (.tuple (xs.map pyV)) ∧ SeqAt.shaped (.tuple (xs.map pyV)) = true := by
  have ⟨h1, h2⟩ := lay_all p
  refine ⟨.tup h (dp_all p), ?_⟩
  unfold SeqAt.shaped
  rw [Bool.and_eq_true]
  refine ⟨by simpa [PyData.canLay0] using h1, decide_eq_true ?_⟩
  simp only [PyData.depth]
  omega
theorem eq_lst {K : PySem.W.Frag} {H : Hp} {a b : Addr} {xs ys : List V} {Q : VK} (ha : SqL K H a xs) (hb : SqL K H b ys) (p : xs.all plainV = true) (p' : ys.all plainV = true) (q : Q (.bl (decide (xs = ys))) H) : rEqD K (.ref a) (.ref b) H Q := by
  refine ⟨_, _, (dp_lst ha p).1, (dp_lst hb p').1, (dp_lst ha p).2, (dp_lst hb p').2, ?_⟩
  rw [show PyData.eqv (.list (xs.map pyV)) (.list (ys.map pyV)) = PyData.eqvAll (xs.map pyV) (ys.map pyV) from rfl, eqv_all p p']
  exact q
theorem ne_lst {K : PySem.W.Frag} {H : Hp} {a b : Addr} {xs ys : List V} {Q : VK} (ha : SqL K H a xs) (hb : SqL K H b ys) (p : xs.all plainV = true) (p' : ys.all plainV = true) (q : Q (.bl (!decide (xs = ys))) H) : rNeD K (.ref a) (.ref b) H Q := by
  refine ⟨_, _, (dp_lst ha p).1, (dp_lst hb p').1, (dp_lst ha p).2, (dp_lst hb p').2, ?_⟩
  rw [show PyData.eqv (.list (xs.map pyV)) (.list (ys.map pyV)) = PyData.eqvAll (xs.map pyV) (ys.map pyV) from rfl, eqv_all p p']
  exact q
theorem eq_tup {K : PySem.W.Frag} {H : Hp} {a b : Addr} {xs ys : List V} {Q : VK} (ha : SqT K H a xs) (hb : SqT K H b ys) (p : xs.all plainV = true) (p' : ys.all plainV = true) (q : Q (.bl (decide (xs = ys))) H) : rEqD K (.ref a) (.ref b) H Q := by
  refine ⟨_, _, (dp_tup ha p).1, (dp_tup hb p').1, (dp_tup ha p).2, (dp_tup hb p').2, ?_⟩
  rw [show PyData.eqv (.tuple (xs.map pyV)) (.tuple (ys.map pyV)) = PyData.eqvAll (xs.map pyV) (ys.map pyV) from rfl, eqv_all p p']
  exact q
/-- x in y, by the kind of y -/
def rInA (K : PySem.W.Frag) (x y : V) (H : Hp) (Q : VK) : Prop := match y with
  | .ref p => ∃ xs, (SqL K H p xs ∨ SqT K H p xs) ∧ flatV x = true ∧ xs.all flatV = true ∧ Q (.bl (inV x xs)) H
  | _ => False
def rNotInA (K : PySem.W.Frag) (x y : V) (H : Hp) (Q : VK) : Prop := match y with
  | .ref p => ∃ xs, (SqL K H p xs ∨ SqT K H p xs) ∧ flatV x = true ∧ xs.all flatV = true ∧ Q (.bl (!inV x xs)) H
  | _ => False
section
variable {X : Cx}
theorem op_weak {f : Value → Value → Sem Value} {r r' : R2} (h : OpR X f r) (w : ∀ x y H Q, r' x y H Q → r x y H Q) : OpR X f r' := fun pins s σ H x y v u Q I rx ry q => h pins s σ H x y v u Q I rx ry (w x y H Q q)
theorem y_add {K : PySem.W.Frag} (hK : X.K = K := by rfl) : OpR X (binaryOp .Add) (rAdd K) := by
  subst hK
  refine op_weak (op_add.or (op_add_str.or op_cat)) fun x y H Q q => ?_
  cases x <;> cases y <;> first | exact q.elim | skip
  · exact .inl ⟨_, _, rfl, rfl, q⟩
  · refine .inr (.inl ⟨_, _, rfl, rfl, q.1, ?_⟩)
    rw [app_st]
    exact q.2
  · obtain ⟨xs, zs, h1, h2, h3, h4⟩ := q
    exact .inr (.inr ⟨_, _, xs, zs, rfl, rfl, h1, h2, h3, h4⟩)
theorem y_sub : OpR X (binaryOp .Sub) rSub := by
  refine op_weak op_sub fun x y H Q q => ?_
  cases x <;> cases y <;> first | exact q.elim | skip
  exact ⟨_, _, rfl, rfl, q⟩
theorem foldl_app (a : Array Nat) : ∀ (k : Nat) (acc : Array Nat), ((List.replicate k a).foldl (· ++ ·) acc).toList = acc.toList ++ (List.replicate k a.toList).flatten
  | 0, acc => by simp
  | k + 1, acc => by
    rw [List.replicate_succ, List.foldl_cons, foldl_app a k, List.replicate_succ, List.flatten_cons]
    simp
theorem op_rep_str : OpR X (binaryOp .Mult) (fun x y H Q => ∃ a k, x = .str a ∧ y = .int k ∧ (0 ≤ k ∧ k ≤ sizeLine ∧ a.length * k.toNat ≤ sizeLine) ∧ Q (.str (st (repS a.cps.toList k.toNat))) H) := by
  intro pins s σ H x y v u Q I rx ry h
  obtain ⟨a, k, rfl, rfl, ⟨h0, h1, h2⟩, q⟩ := h
  obtain ⟨t, rfl⟩ := rx
  obtain ⟨t', rfl⟩ := ry
  have hz := line_eq
  rw [hz] at h1 h2
  refine PySem.P.mul_str ?_ (fun g1 g2 => ?_) (fun g1 g2 => ?_) ?_
  · rw [decide_eq_false (by omega), decide_eq_false (by omega)]; rfl
  · have hk : k ≤ 16777216 := h1
    have hk1 : 1 ≤ k := by omega
    have hl : (a.length : Int) ≤ 16777216 := by
      have : a.length * 1 ≤ a.length * k.toNat := Nat.mul_le_mul_left _ (by omega)
      omega
    have : (16777216 : Int) ≤ (2 ^ 63 - 1) / k := by
      rw [Int.le_ediv_iff_mul_le (by omega)]
      have : 16777216 * k ≤ 16777216 * 16777216 := Int.mul_le_mul_of_nonneg_left hk (by omega)
      omega
    omega
  · unfold Builtin.Str.tooLong
    rw [decide_eq_false]
    rw [hz]
    omega
  · by_cases c0 : k < 1
    · rw [if_pos c0]
      have e : k.toNat = 0 := by omega
      have q' : Q (.str Str.empty) H := by
        rw [e] at q
        exact q
      exact ⟨by decide, .str Str.empty, H, I.tok _, ⟨_, rfl⟩, q'⟩
    · rw [if_neg c0]
      by_cases c1 : (k == 1 || a.length == 0) = true
      · rw [if_pos c1]
        refine ⟨.str a, H, I, ⟨t, rfl⟩, ?_⟩
        have e : st (repS a.cps.toList k.toNat) = a := by
          rw [Bool.or_eq_true] at c1
          rcases c1 with c1 | c1
          · have : k = 1 := eq_of_beq c1
            subst this
            show st (List.replicate 1 a.cps.toList).flatten = a
            simp [st_codes]
          · have e0 : a.length = 0 := eq_of_beq c1
            rw [len_cps] at e0
            have e1 : a.cps.toList = [] := List.eq_nil_of_length_eq_zero e0
            rw [e1]
            have : repS [] k.toNat = [] := by simp [repS]
            rw [this, ← e1]
            exact st_codes a
        rw [e] at q
        exact q
      · rw [if_neg c1]
        have e : (⟨(List.replicate k.toNat a.cps).foldl (· ++ ·) #[]⟩ : Str) = st (repS a.cps.toList k.toNat) := by
          have := foldl_app a.cps k.toNat #[]
          show Str.mk _ = Str.mk _
          congr 1
          apply Array.toList_inj.mp
          rw [this]
          simp [repS]
        rw [e]
        refine ⟨?_, .str _, H, I.tok _, ⟨_, rfl⟩, q⟩
        rw [len_st]
        unfold repS
        rw [List.length_flatten, List.map_replicate, List.sum_replicate_nat]
        rw [← len_cps, Nat.mul_comm, hz]
        exact h2
theorem y_mul : OpR X (binaryOp .Mult) rMul := by
  refine op_weak (op_mul.or op_rep_str) fun x y H Q q => ?_
  cases x <;> cases y <;> first | exact q.elim | skip
  · exact .inl ⟨_, _, rfl, rfl, q⟩
  · exact .inr ⟨_, _, rfl, rfl, q⟩
theorem y_mod : OpR X (binaryOp .Mod) rMod := by
  refine op_weak op_mod fun x y H Q q => ?_
  cases x <;> cases y <;> first | exact q.elim | skip
  exact ⟨_, _, rfl, rfl, q⟩
theorem y_fdiv : OpR X (binaryOp .FloorDiv) rDiv := by
  refine op_weak op_fdiv fun x y H Q q => ?_
  cases x <;> cases y <;> first | exact q.elim | skip
  exact ⟨_, _, rfl, rfl, q⟩
theorem y_pow : OpR X (binaryOp .Pow) rPow := by
  refine op_weak op_pow fun x y H Q q => ?_
  cases x <;> cases y <;> first | exact q.elim | skip
  exact ⟨_, _, rfl, rfl, q⟩
theorem cmp_weak {f : Value → Value → Sem Value} {p : Int → Int → Bool} (h : OpR X f (rI0 fun i j => .bl (p i j))) : OpR X f (rCmp p) := by
  refine op_weak h fun x y H Q q => ?_
  cases x <;> cases y <;> first | exact q.elim | skip
  exact ⟨_, _, rfl, rfl, q⟩
theorem y_lt : OpR X (compareOp .Lt) (rCmp fun i j => decide (i < j)) := cmp_weak op_lt
theorem y_le : OpR X (compareOp .LtE) (rCmp fun i j => decide (i ≤ j)) := cmp_weak op_le
theorem y_gt : OpR X (compareOp .Gt) (rCmp fun i j => decide (j < i)) := cmp_weak op_gt
theorem y_ge : OpR X (compareOp .GtE) (rCmp fun i j => decide (j ≤ i)) := cmp_weak op_ge
theorem y_eq {K : PySem.W.Frag} (hu : X.A.units + 64 < cLine) (hK : X.K = K := by rfl) : OpR X (compareOp .Eq) (rEqS K) := by
  subst hK
  refine op_weak (op_eq.or (op_eqD hu)) fun x y H Q q => ?_
  cases x <;> cases y <;> first
    | exact .inl q
    | exact .inl ⟨rfl, by simpa [rEqS] using q⟩
    | exact .inr q
theorem y_ne {K : PySem.W.Frag} (hu : X.A.units + 64 < cLine) (hK : X.K = K := by rfl) : OpR X (compareOp .NotEq) (rNeS K) := by
  subst hK
  refine op_weak (op_ne.or (op_neD hu)) fun x y H Q q => ?_
  cases x <;> cases y <;> first
    | exact .inl q
    | exact .inl ⟨rfl, by simpa [rNeS] using q⟩
    | exact .inr q
theorem y_in {K : PySem.W.Frag} (hK : X.K = K := by rfl) : OpR X (compareOp .In) (rInA K) := by
  subst hK
  refine op_weak op_in_seq fun x y H Q q => ?_
  cases y <;> first | exact q.elim | skip
  obtain ⟨xs, h1, h2, h3, h4⟩ := q
  exact ⟨_, xs, rfl, h1, h2, h3, h4⟩
theorem y_notin {K : PySem.W.Frag} (hK : X.K = K := by rfl) : OpR X (compareOp .NotIn) (rNotInA K) := by
  subst hK
  refine op_weak op_notIn_seq fun x y H Q q => ?_
  cases y <;> first | exact q.elim | skip
  obtain ⟨xs, h1, h2, h3, h4⟩ := q
  exact ⟨_, xs, rfl, h1, h2, h3, h4⟩
/-- a[i] by its kind -/
def rIxA (K : PySem.W.Frag) (x y : V) (H : Hp) (Q : VK) : Prop := match x, y with
  | .ref p, .int i => ∃ xs v, (SqL K H p xs ∨ SqT K H p xs) ∧ atI xs i = some v ∧ Q v H
  | .str z, .int i => ∃ c, z.length ≤ sizeLine ∧ atI z.cps.toList i = some c ∧ Q (.str (st [c])) H
  | _, _ => False
theorem ix_weak {r r' : R2} (h : IxR X r) (w : ∀ x y H Q, r' x y H Q → r x y H Q) : IxR X r' := fun a b pins s σ H x y v u Q I rx ry q => h a b pins s σ H x y v u Q I rx ry (w x y H Q q)
theorem y_ix {K : PySem.W.Frag} (hK : X.K = K := by rfl) : IxR X (rIxA K) := by
  subst hK
  refine ix_weak ix_seq fun x y H Q q => ?_
  cases x <;> cases y <;> first | exact q.elim | skip
  · obtain ⟨c, h1, h2, h3⟩ := q
    exact .inr (.inr ⟨_, _, c, rfl, rfl, h1, h2, h3⟩)
  · obtain ⟨xs, v, h1, h2, h3⟩ := q
    rcases h1 with h1 | h1
    · exact .inl ⟨_, xs, _, v, rfl, rfl, h1, h2, h3⟩
    · exact .inr (.inl ⟨_, xs, _, v, rfl, rfl, h1, h2, h3⟩)
/-- a[i:j] by its kind -/
def rSlA (K : PySem.W.Frag) (x : V) (lo hi : Option Int) (H : Hp) (Q : VK) : Prop := match x with
  | .str z => z.length ≤ sizeLine ∧ Q (.str (cutS z lo hi)) H
  | .ref a => ∃ xs, SqL K H a xs ∧ ∀ p, H p = none → Q (.ref p) (upd H p (.lst (cutV xs lo hi)))
  | _ => False
theorem y_sl {K : PySem.W.Frag} (hK : X.K = K := by rfl) : SlR X (rSlA K) := by
  subst hK
  intro pins s σ H x v vl vu lo hi sl Q I rx hs pl pu h
  cases x <;> first | exact h.elim | skip
  · exact sl_str pins s σ H _ v vl vu lo hi sl Q I rx hs pl pu ⟨_, rfl, h⟩
  · obtain ⟨xs, h1, h2⟩ := h
    exact sl_list pins s σ H _ v vl vu lo hi sl Q I rx hs pl pu ⟨_, xs, rfl, h1, h2⟩

/-! ### built-ins -/
def rLen (K : PySem.W.Frag) (xs : List V) (H : Hp) (Q : VK) : Prop := match xs with
  | [.str z] => z.length ≤ sizeLine ∧ Q (.int (z.cps.toList.length : Nat)) H
  | [.ref p] => ∃ ys, (SqL K H p ys ∨ SqT K H p ys) ∧ Q (.int (ys.length : Nat)) H
  | _ => False
theorem call_weak {f : Value} {r r' : List V → Hp → VK → Prop} (h : CallR X f r) (w : ∀ x H Q, r' x H Q → r x H Q) : CallR X f r' := fun pins s σ H x us Q I rx q => h pins s σ H x us Q I rx (w x H Q q)
theorem y_len {K : PySem.W.Frag} (hK : X.K = K := by rfl) : CallR X (.builtin "len") (rLen K) := by
  subst hK
  refine call_weak call_len fun x H Q q => ?_
  unfold rLen at q
  split at q
  · rename_i z
    refine ⟨.str z, z.length, rfl, ⟨q.1, rfl⟩, ?_⟩
    rw [len_cps]
    exact q.2
  · rename_i p
    obtain ⟨ys, h, q⟩ := q
    refine ⟨.ref p, ys.length, rfl, ?_, q⟩
    rcases h with h | h
    · exact .inl ⟨ys, h, rfl⟩
    · exact .inr ⟨ys, h, rfl⟩
  · exact q.elim
def rOrd (xs : List V) (H : Hp) (Q : VK) : Prop := match xs with
  | [.str z] => z.cps.toList.length = 1 ∧ Q (.int (z.cps.toList.headD 0 : Nat)) H
  | _ => False
theorem y_ord : CallR X (.builtin "ord") rOrd := by
  refine call_weak call_ord fun x H Q q => ?_
  unfold rOrd at q
  split at q
  · rename_i z
    refine ⟨z, rfl, by rw [len_cps]; exact q.1, ?_⟩
    have e : z.cps.getD 0 0 = z.cps.toList.headD 0 := by
      obtain ⟨⟨l⟩⟩ := z
      cases l <;> simp
    rw [e]
    exact q.2
  · exact q.elim
def rMin (xs : List V) (H : Hp) (Q : VK) : Prop := match xs with
  | [.int i, .int j] => Q (.int (min i j)) H
  | _ => False
theorem y_min (hc : X.calm = true) : CallR X (.builtin "min") rMin := by
  refine call_weak (call_min2 hc) fun x H Q q => ?_
  unfold rMin at q
  split at q
  · rename_i i j
    refine ⟨i, j, rfl, ?_⟩
    have e : (if j < i then j else i) = min i j := by
      split <;> omega
    rw [e]
    exact q
  · exact q.elim
/-- isinstance(x, T) of a scalar and a built-in type -/
def tyN (v : V) : Option String := match v with
  | .non => some "NoneType"
  | .bl _ => some "bool"
  | .int _ => some "int"
  | .str _ => some "str"
  | _ => none
/-- the built-in type of a value -/
def TyS (H : Hp) (v : V) (t : String) : Prop := tyN v = some t ∨ (∃ p xs, v = .ref p ∧ H p = some (.lst xs) ∧ t = "list") ∨ (∃ p xs, v = .ref p ∧ H p = some (.tup xs) ∧ t = "tuple") ∨ ∃ p kvs, v = .ref p ∧ H p = some (.dK kvs) ∧ t = "dict"
def rIsiS (xs : List V) (H : Hp) (Q : VK) : Prop := match xs with
  | [x, .ty n] => ∃ a b, TyS H x a ∧ kitB a n = some b ∧ Q (.bl b) H
  | _ => False
theorem TyS.base {K : PySem.W.Frag} {H : Hp} {x : V} {t : String} (h : TyS H x t) : TyX K H x (.type t) := by
  rcases h with h1 | ⟨p, xs, rfl, h, rfl⟩ | ⟨p, xs, rfl, h, rfl⟩ | ⟨p, xs, rfl, h, rfl⟩
  · cases x <;> first | (cases h1; done) | skip
    all_goals (cases h1; refine .base ?_; constructor)
  · exact .base (.lst h)
  · exact .base (.tup h)
  · exact .base (.dK h)
theorem y_isi : CallR X (.builtin "isinstance") rIsiS := by
  refine call_weak call_isi fun x H Q q => ?_
  unfold rIsiS at q
  split at q
  · rename_i x n
    obtain ⟨a, b, h1, h2, q⟩ := q
    exact ⟨x, .ty n, .type a, .type n, b, rfl, .ty n, h1.base, kit_ty h2, q⟩
  · exact q.elim
theorem isi_mk {x : V} {n a : String} {b : Bool} {H : Hp} {Q : VK} (h1 : tyN x = some a) (h2 : kitB a n = some b) : rIsiS [x, .ty n] H Q = Q (.bl b) H := by
  apply propext
  show (∃ a b, TyS H x a ∧ kitB a n = some b ∧ Q (.bl b) H) ↔ _
  constructor
  · rintro ⟨a', b', h1', h2', q⟩
    rcases h1' with h1' | ⟨p, xs, rfl, _⟩ | ⟨p, xs, rfl, _⟩ | ⟨p, xs, rfl, _⟩
    · rw [h1] at h1'
      cases h1'
      rw [h2] at h2'
      cases h2'
      exact q
    all_goals cases h1
  · intro q
    exact ⟨a, b, .inl h1, h2, q⟩
theorem isi_lst {p : Addr} {xs : List V} {n : String} {b : Bool} {H : Hp} {Q : VK} (h : H p = some (.lst xs)) (h2 : kitB "list" n = some b) (q : Q (.bl b) H) : rIsiS [.ref p, .ty n] H Q :=
  ⟨"list", b, .inr (.inl ⟨p, xs, rfl, h, rfl⟩), h2, q⟩
theorem isi_tup {p : Addr} {xs : List V} {n : String} {b : Bool} {H : Hp} {Q : VK} (h : H p = some (.tup xs)) (h2 : kitB "tuple" n = some b) (q : Q (.bl b) H) : rIsiS [.ref p, .ty n] H Q :=
  ⟨"tuple", b, .inr (.inr (.inl ⟨p, xs, rfl, h, rfl⟩)), h2, q⟩
/-- is, of a value and None, True or False -/
def rIs (x y : V) (H : Hp) (Q : VK) : Prop := match y with
  | .non => Q (.bl (decide (x = .non))) H
  | .bl b => (∀ n, x ≠ .ty n) ∧ Q (.bl (decide (x = .bl b))) H
  | _ => False
def rIsNot (x y : V) (H : Hp) (Q : VK) : Prop := match y with
  | .non => Q (.bl (!decide (x = .non))) H
  | _ => False
section
variable {H : Hp} {Q : VK} {i : Int} {s : Str} {a b : Bool} {p : Addr}
theorem rIs_1 : rIs .non .non H Q = Q (.bl true) H := rfl
theorem rIs_2 : rIs (.int i) .non H Q = Q (.bl false) H := rfl
theorem rIs_3 : rIs (.str s) .non H Q = Q (.bl false) H := rfl
theorem rIs_4 : rIs (.bl a) .non H Q = Q (.bl false) H := rfl
theorem rIs_5 : rIs (.ref p) .non H Q = Q (.bl false) H := rfl
theorem rIs_6 : rIs .non (.bl b) H Q = Q (.bl false) H := by simp [rIs]
theorem rIs_7 : rIs (.int i) (.bl b) H Q = Q (.bl false) H := by simp [rIs]
theorem rIs_8 : rIs (.str s) (.bl b) H Q = Q (.bl false) H := by simp [rIs]
theorem rIs_9 : rIs (.bl a) (.bl b) H Q = Q (.bl (decide (a = b))) H := by simp [rIs]
theorem rIs_10 : rIs (.ref p) (.bl b) H Q = Q (.bl false) H := by simp [rIs]
theorem rIsN_1 : rIsNot .non .non H Q = Q (.bl false) H := rfl
theorem rIsN_2 : rIsNot (.int i) .non H Q = Q (.bl true) H := rfl
theorem rIsN_3 : rIsNot (.str s) .non H Q = Q (.bl true) H := rfl
theorem rIsN_4 : rIsNot (.bl a) .non H Q = Q (.bl true) H := rfl
theorem rIsN_5 : rIsNot (.ref p) .non H Q = Q (.bl true) H := rfl
end
theorem y_is : OpR X (compareOp .Is) rIs := by
  intro pins s σ H x y v u Q I rx ry h
  cases y <;> first | exact h.elim | skip
  · exact op_isN pins s σ H x _ v u Q I rx ry ⟨rfl, h⟩
  · rename_i b
    obtain ⟨hn, q⟩ := h
    cases (show u = Value.bool b from ry)
    cases x with
    | bl a =>
      cases (show v = Value.bool a from rx)
      by_cases e : a = b
      · subst e
        exact wpAny_is_self rfl (fin_bl I q (by simp))
      · exact wpAny_is_other rfl (fun z => e (Value.bool.inj z)) (fin_bl I q (by simp [e]))
    | non => cases rx; exact wpAny_is_other rfl (fun z => nomatch z) (fin_bl I q (by simp))
    | int i => obtain ⟨t, rfl⟩ := rx; exact wpAny_is_other rfl (fun z => nomatch z) (fin_bl I q (by simp))
    | str i => obtain ⟨t, rfl⟩ := rx; exact wpAny_is_other rfl (fun z => nomatch z) (fin_bl I q (by simp))
    | byt i => obtain ⟨t, rfl⟩ := rx; exact wpAny_is_other rfl (fun z => nomatch z) (fin_bl I q (by simp))
    | flt i => obtain ⟨t, rfl⟩ := rx; exact wpAny_is_other rfl (fun z => nomatch z) (fin_bl I q (by simp))
    | ref i => cases rx; exact wpAny_is_other rfl (fun z => nomatch z) (fin_bl I q (by simp))
    | ty n => exact absurd rfl (hn n)
theorem y_isnot : OpR X (compareOp .IsNot) rIsNot := by
  intro pins s σ H x y v u Q I rx ry h
  cases y <;> first | exact h.elim | skip
  exact op_notN pins s σ H x _ v u Q I rx ry ⟨rfl, h⟩
section
variable {H : Hp} {Q : VK}
theorem isi_int_int {i : Int} : rIsiS [.int i, .ty "int"] H Q = Q (.bl true) H := isi_mk rfl (by decide +kernel)
theorem isi_int_bool {i : Int} : rIsiS [.int i, .ty "bool"] H Q = Q (.bl false) H := isi_mk rfl (by decide +kernel)
theorem isi_int_str {i : Int} : rIsiS [.int i, .ty "str"] H Q = Q (.bl false) H := isi_mk rfl (by decide +kernel)
theorem isi_bl_int {i : Bool} : rIsiS [.bl i, .ty "int"] H Q = Q (.bl true) H := isi_mk rfl (by decide +kernel)
theorem isi_bl_bool {i : Bool} : rIsiS [.bl i, .ty "bool"] H Q = Q (.bl true) H := isi_mk rfl (by decide +kernel)
theorem isi_str_str {i : Str} : rIsiS [.str i, .ty "str"] H Q = Q (.bl true) H := isi_mk rfl (by decide +kernel)
theorem isi_str_int {i : Str} : rIsiS [.str i, .ty "int"] H Q = Q (.bl false) H := isi_mk rfl (by decide +kernel)
end
theorem same_new {H : Hp} {p : Addr} {o : HO} (h : H p = none) : Same H (upd H p o) := fun b x e => by
  rw [upd_ne (ne_of_none e h)]
  exact e
theorem upd_of {H : Hp} {a p : Addr} {o o' : HO} (h : H a = some o) (hp : H p = none) : upd H p o' a = some o := by
  rw [upd_ne (ne_of_none h hp)]
  exact h
theorem same_upd {H H' : Hp} {p : Addr} {o : HO} (s : Same H H') (h : H' p = none) : Same H (upd H' p o) := s.trans (same_new h)
/-- a comprehension whose items are known: over any walk -/
theorem wipe_one {σ : L2.St} {s : Nat} {x : V} : wipe ((wipe σ [s]).set s (some x)) [s] = wipe σ [s] := by
  show (((σ.set s none).set s (some x)).set s none) = σ.set s none
  rw [List.set_set, List.set_set]
theorem set_wipe {σ : L2.St} {s : Nat} {x : V} : (wipe σ [s]).set s (some x) = σ.set s (some x) := by
  show ((σ.set s none).set s (some x)) = σ.set s (some x)
  rw [List.set_set]
theorem fm_succ {α : Type} (f : Nat → Option α) (i : Nat) : (List.range (i + 1)).filterMap f = (List.range i).filterMap f ++ (f i).toList := by
  rw [List.range_succ, List.filterMap_append]
  cases e : f i <;> simp [e]
theorem lc_gen {J : It} {n s : Nat} {G : Hp → Prop} {xs : Nat → V} (w : Walk J n G (fun i H x H' => H' = H ∧ x = xs i)) {tt : TT} {te : TE} {σ : L2.St} {D : Addr} {H1 : Hp} {Qd : Hp → Prop} (f : Nat → Option V) (hD : H1 D = none) (hn : n < 16777216)
    (hG : ∀ H, Same H1 H → G H)
    (hs : ∀ i H, i < n → Same H1 H → ∀ (Ny : V → Hp → Prop) (Nn : Hp → Prop), (∀ y H4, Same H H4 → f i = some y → Ny y H4) → (∀ H3, Same H H3 → f i = none → Nn H3) → tt (σ.set s (some (xs i))) H fun b H3 => br b (te (σ.set s (some (xs i))) H3 Ny) (Nn H3))
    (hd : ∀ H, Same H1 H → H D = some (.lst ((List.range n).filterMap f)) → Qd H) : lcW J (gName s) tt te [s] σ D H1 Qd := by
  have hl : ∀ i, ((List.range i).filterMap f).length ≤ i := fun i => Nat.le_trans (List.length_filterMap_le _ _) (by rw [List.length_range]; exact Nat.le_refl _)
  have up := fm_succ f
  refine lc_it w (fun i H => Same H1 H ∧ H D = some (.lst ((List.range i).filterMap f))) ⟨same_new hD, upd_same⟩ (fun i H _ p => hG H p.1) (fun i x H H' hi p y => ?_) (fun H p => hd H p.1 p.2)
  obtain ⟨rfl, rfl⟩ := y
  obtain ⟨sm, hH⟩ := p
  refine ⟨wipe_one, ?_⟩
  rw [set_wipe]
  refine hs i H' hi sm _ _ (fun y H4 s4 e => ?_) (fun H3 s3 e => ?_)
  · refine ⟨_, s4 _ _ hH, by have := hl i; rw [line_eq]; omega, ?_⟩
    refine ⟨fun b o hb => ?_, ?_⟩
    · have nb : b ≠ D := fun z => by
        rw [z, hD] at hb
        cases hb
      rw [upd_ne nb]
      exact s4 _ _ (sm _ _ hb)
    · rw [upd_same, up, e]
      rfl
  · refine ⟨sm.trans s3, ?_⟩
    rw [up, e]
    rw [show (none : Option V).toList = [] from rfl, List.append_nil]
    exact s3 _ _ hH
theorem lc_rng {lo : Int} {n s : Nat} {tt : TT} {te : TE} {σ : L2.St} {D : Addr} {H1 : Hp} {Qd : Hp → Prop} (f : Nat → Option V) (hD : H1 D = none) (hn : n < 16777216)
    (hs : ∀ i H, i < n → Same H1 H → ∀ (Ny : V → Hp → Prop) (Nn : Hp → Prop), (∀ y H4, Same H H4 → f i = some y → Ny y H4) → (∀ H3, Same H H3 → f i = none → Nn H3) → tt (σ.set s (some (.int (lo + i)))) H fun b H3 => br b (te (σ.set s (some (.int (lo + i)))) H3 Ny) (Nn H3))
    (hd : ∀ H, Same H1 H → H D = some (.lst ((List.range n).filterMap f)) → Qd H) : lcW (Itr lo n) (gName s) tt te [s] σ D H1 Qd :=
  lc_gen (G := fun _ => True) (xs := fun i => .int (lo + i)) ⟨fun _ _ h _ => h, fun _ _ => Nat.le_refl _, fun _ _ _ _ _ _ y => y⟩ f hD hn (fun _ _ => trivial) hs hd
theorem lc_lst {K : PySem.W.Frag} {a : Addr} {xs : List V} {s : Nat} {tt : TT} {te : TE} {σ : L2.St} {D : Addr} {H1 : Hp} {Qd : Hp → Prop} (f : V → Option V) (hD : H1 D = none) (ha : SqL K H1 a xs) (hn : xs.length < 16777216)
    (hs : ∀ (i : Nat) (x : V) (H : Hp), xs[i]? = some x → Same H1 H → ∀ (Ny : V → Hp → Prop) (Nn : Hp → Prop), (∀ y H4, Same H H4 → f x = some y → Ny y H4) → (∀ H3, Same H H3 → f x = none → Nn H3) → tt (σ.set s (some x)) H fun b H3 => br b (te (σ.set s (some x)) H3 Ny) (Nn H3))
    (hd : ∀ H, Same H1 H → H D = some (.lst (xs.filterMap f)) → Qd H) : lcW (Itl K a) (gName s) tt te [s] σ D H1 Qd := by
  have w : Walk (Itl K a) xs.length (fun H => SqL K H a xs) (fun i H x H' => H' = H ∧ x = xs.getD i .non) :=
    ⟨fun i H hi g => ⟨xs, xs[i], g, List.getElem?_eq_getElem hi⟩, fun H g => ⟨xs, g, Nat.le_refl _⟩, fun i H x H' hi g y => by
      refine ⟨y.1, ?_⟩
      have := y.2 xs g
      rw [List.getD_eq_getElem?_getD, this]
      rfl⟩
  refine lc_gen w (fun i => f (xs.getD i .non)) hD hn (fun H s4 => Same.seq s4 ha) (fun i H hi sm Ny Nn h1 h2 => ?_) (fun H sm h => hd H sm ?_)
  · exact hs i _ H (by rw [List.getD_eq_getElem?_getD, List.getElem?_eq_getElem hi]; rfl) sm Ny Nn h1 h2
  · rw [h]
    congr 2
    have e : xs = (List.range xs.length).map fun i => xs.getD i .non := by
      apply List.ext_getElem
      · simp
      · intro i h1 h2
        simp [List.getD_eq_getElem?_getD, h1]
    conv => rhs; rw [e]
    rw [List.filterMap_map]
    rfl
/-- a comprehension over a zip of two lists -/
theorem set_pair {σ : L2.St} {s t : Nat} {x y : V} (h : s ≠ t) : (((wipe σ [s, t]).set s (some x)).set t (some y)) = (σ.set s (some x)).set t (some y) := by
  show ((((σ.set t none).set s none).set s (some x)).set t (some y)) = (σ.set s (some x)).set t (some y)
  rw [List.set_set, List.set_comm _ _ h, List.set_set, List.set_comm _ _ h.symm]
theorem wipe_pair {σ : L2.St} {s t : Nat} {x y : V} (h : s ≠ t) : wipe ((σ.set s (some x)).set t (some y)) [s, t] = wipe σ [s, t] := by
  show ((((σ.set s (some x)).set t (some y)).set t none).set s none) = ((σ.set t none).set s none)
  rw [List.set_set, List.set_comm _ _ h, List.set_set]
theorem lc_zip {K : PySem.W.Frag} {a b : Addr} {xs ys : List V} {s t : Nat} {tt : TT} {te : TE} {σ : L2.St} {D : Addr} {H1 : Hp} {Qd : Hp → Prop} (f : V → V → Option V) (hst : s ≠ t) (hD : H1 D = none) (ha : SqL K H1 a xs) (hb : SqL K H1 b ys) (n : Nat) (hn : n = min xs.length ys.length) (hz : n < 16777216)
    (hs : ∀ (i : Nat) (x y : V) (H : Hp), xs[i]? = some x → ys[i]? = some y → Same H1 H → ∀ (Ny : V → Hp → Prop) (Nn : Hp → Prop), (∀ v H4, Same H H4 → f x y = some v → Ny v H4) → (∀ H3, Same H H3 → f x y = none → Nn H3) → tt ((σ.set s (some x)).set t (some y)) H fun c H3 => br c (te ((σ.set s (some x)).set t (some y)) H3 Ny) (Nn H3))
    (hd : ∀ H, Same H1 H → H D = some (.lst ((List.range n).filterMap fun i => f (xs.getD i .non) (ys.getD i .non))) → Qd H) : lcW (Itz K a b) (gTup K 2 (gCons (gName s) (gCons (gName t) gNil))) tt te [s, t] σ D H1 Qd := by
  have hl : ∀ i, ((List.range i).filterMap fun i => f (xs.getD i .non) (ys.getD i .non)).length ≤ i := fun i => Nat.le_trans (List.length_filterMap_le _ _) (by rw [List.length_range]; exact Nat.le_refl _)
  have up := fun i => fm_succ (fun i => f (xs.getD i .non) (ys.getD i .non)) i
  refine lc_it (walk_zip hn) (fun i H => Same H1 H ∧ H D = some (.lst ((List.range i).filterMap fun i => f (xs.getD i .non) (ys.getD i .non)))) ⟨same_new hD, upd_same⟩ (fun i H _ p => ⟨p.1.seq ha, p.1.seq hb⟩) (fun i v H H' hi p hy => ?_) (fun H p => hd H p.1 p.2)
  obtain ⟨T, x, y, rfl, hT, rfl, hx, hy⟩ := hy
  obtain ⟨sm, hH⟩ := p
  have sT : Same H (upd H T (.tup [x, y])) := same_new hT
  refine ⟨T, [x, y], rfl, SqT.of upd_same, rfl, x, [y], rfl, y, [], rfl, rfl, ?_⟩
  rw [set_pair hst]
  refine ⟨by rw [wipe_pair hst], ?_⟩
  have gx : xs.getD i .non = x := by
    rw [List.getD_eq_getElem?_getD]
    show (xs[i]?).getD .non = x
    rw [show xs[i]? = some x from hx]
    rfl
  have gy : ys.getD i .non = y := by
    rw [List.getD_eq_getElem?_getD]
    rw [show ys[i]? = some y from hy]
    rfl
  refine hs i x y _ hx hy (sm.trans sT) _ _ (fun v H4 s4 e => ?_) (fun H3 s3 e => ?_)
  · refine ⟨_, s4 _ _ (sT _ _ hH), by have := hl i; rw [line_eq]; omega, ?_⟩
    refine ⟨fun c o hc => ?_, ?_⟩
    · have nb : c ≠ D := fun z => by
        rw [z, hD] at hc
        cases hc
      rw [upd_ne nb]
      exact s4 _ _ (sT _ _ (sm _ _ hc))
    · rw [upd_same, up i, gx, gy, e]
      rfl
  · refine ⟨sm.trans (sT.trans s3), ?_⟩
    rw [up i, gx, gy, e]
    rw [show (none : Option V).toList = [] from rfl, List.append_nil]
    exact s3 _ _ (sT _ _ hH)
/-- {k: v for ..} over a range, the keys new ints -/
theorem dc_rng {lo : Int} {n s : Nat} {tk tv : TE} {σ : L2.St} {D : Addr} {H1 : Hp} {Qd : Hp → Prop} (key : Nat → Key) (val : Nat → V) (hk : ∀ i j, key i = key j → i = j) (hD : H1 D = none) (hn : n < 16777216)
    (hs : ∀ i H, i < n → Same H1 H → ∀ (N : V → V → Hp → Prop), (∀ H4, Same H H4 → N (kV (key i)) (val i) H4) → tk (σ.set s (some (.int (lo + i)))) H fun y H3 => tv (σ.set s (some (.int (lo + i)))) H3 fun z H4 => N y z H4)
    (hd : ∀ H, Same H1 H → H D = some (.dK ((List.range n).map fun i => (key i, val i))) → Qd H) : dcW (Itr lo n) (gName s) tYes tk tv [s] σ D H1 Qd := by
  have nov : ∀ i, valV ((List.range i).map fun j => (key j, val j)) (key i) = none := fun i => by
    cases e : valV ((List.range i).map fun j => (key j, val j)) (key i) with
    | none => rfl
    | some v =>
      exfalso
      have q : (((List.range i).map fun j => (key j, val j)).any fun kv => decide (kv.1 = key i)) = true := by
        rw [valV_any, e]
        rfl
      obtain ⟨p, hp, e2⟩ := List.any_eq_true.mp q
      obtain ⟨j, hj, rfl⟩ := List.mem_map.mp hp
      have := hk _ _ (of_decide_eq_true e2)
      rw [List.mem_range] at hj
      omega
  refine ⟨fun i m H => m = n - i ∧ i ≤ n ∧ Same H1 H ∧ H D = some (.dK ((List.range i).map fun j => (key j, val j))), ⟨n, by simp, Nat.zero_le _, same_new hD, upd_same⟩, ?_⟩
  rintro i m H ⟨rfl, hi, sm, hH⟩
  by_cases hlt : i < n
  · refine .inr ⟨hlt, fun H' => Same H1 H' ∧ H' D = some (.dK ((List.range (i + 1)).map fun j => (key j, val j))), fun H' p' => ⟨n - (i + 1), by omega, rfl, hlt, p'.1, p'.2⟩, ?_⟩
    rintro x H' ⟨rfl, rfl⟩
    refine ⟨wipe_one, ?_⟩
    rw [set_wipe]
    show tk _ _ _
    refine hs i H' hlt sm (fun y z H5 => ∃ kvs k, y = kV k ∧ H5 D = some (.dK kvs) ∧ kvs.length < sizeLine ∧ Same H1 (upd H5 D (.dK (putK kvs k z))) ∧ (upd H5 D (.dK (putK kvs k z))) D = some (.dK ((List.range (i + 1)).map fun j => (key j, val j)))) fun H4 s4 => ?_
    refine ⟨_, key i, rfl, s4 _ _ hH, by rw [List.length_map, List.length_range, line_eq]; omega, fun b o hb => ?_, ?_⟩
    · have nb : b ≠ D := fun z => by
        rw [z, hD] at hb
        cases hb
      rw [upd_ne nb]
      exact s4 _ _ (sm _ _ hb)
    · rw [upd_same, putK_new _ (nov i), List.range_succ, List.map_append]
      rfl
  · have e : i = n := by omega
    subst e
    exact .inl ⟨Nat.le_refl _, hd H sm hH⟩
theorem valV_rng {n i : Nat} {key : Nat → Key} {val : Nat → V} (hk : ∀ i j, key i = key j → i = j) (hi : i < n) : valV ((List.range n).map fun j => (key j, val j)) (key i) = some (val i) := by
  induction n with
  | zero => omega
  | succ n ih =>
    rw [List.range_succ, List.map_append]
    by_cases e : i < n
    · have h := ih e
      unfold valV at h ⊢
      rw [List.find?_append]
      cases q : ((List.range n).map fun j => (key j, val j)).find? fun kv => decide (kv.1 = key i) with
      | none => rw [q] at h; cases h
      | some p => rw [q] at h; exact h
    · have e2 : i = n := by omega
      subst e2
      unfold valV
      rw [List.find?_append]
      have q : ((List.range i).map fun j => (key j, val j)).find? (fun kv => decide (kv.1 = key i)) = none := by
        rw [List.find?_eq_none]
        intro p hp
        obtain ⟨j, hj, rfl⟩ := List.mem_map.mp hp
        rw [List.mem_range] at hj
        intro z
        have := hk _ _ (of_decide_eq_true z)
        omega
      rw [q]
      simp
theorem cut_mid {z : List Nat} {a b : Nat} (h : a ≤ b) (hb : b ≤ z.length) : cutS (st z) (some (a : Int)) (some (b : Int)) = st ((z.drop a).take (b - a)) := by
  unfold cutS
  rw [codes_st, HT.sIx_nat, HT.sIx_nat, len_st, Nat.min_eq_left (Nat.le_trans h hb), Nat.min_eq_left hb]
  rfl
abbrev natV (n : Nat) : V := .int (n : Int)
abbrev txtV (z : List Nat) : V := .str (st z)
theorem inV_txt (z : List Nat) (zs : List (List Nat)) : inV (txtV z) (zs.map txtV) = decide (z ∈ zs) := by
  unfold inV
  rw [List.any_map, Bool.eq_iff_iff, List.any_eq_true, decide_eq_true_eq]
  constructor
  · rintro ⟨y, hy, e⟩
    have e2 : (st y == st z) = true := e
    have := st_inj.mp (eq_of_beq e2)
    rw [← this]
    exact hy
  · intro h
    exact ⟨z, h, (beq_self_eq_true (st z) : (st z == st z) = true)⟩
theorem flat_txt (zs : List (List Nat)) : (zs.map txtV).all flatV = true := by
  rw [List.all_map, List.all_eq_true]
  intro _ _
  rfl
theorem plain_nat (zs : List Nat) : (zs.map natV).all plainV = true := by
  rw [List.all_map, List.all_eq_true]
  intro _ _
  rfl
theorem join_txt (zs : List (List Nat)) : Txt.join (st []) (zs.map st) = st zs.flatten := by
  have h : Txt.join (st []) (zs.map st) = st (TL.joinL [] zs) := SX.join_S [] zs
  rw [h]
  congr 1
  clear h
  induction zs with
  | nil => rfl
  | cons z r ih =>
    cases r with
    | nil => simp [TL.joinL]
    | cons y r =>
      show z ++ ([] ++ TL.joinL [] (y :: r)) = z ++ (y :: r).flatten
      rw [List.nil_append, ih]
theorem cutV_one (xs : List V) : cutV xs (some 1) none = xs.drop 1 := by
  unfold cutV
  rw [HT.sIx_none, show (some (1 : Int)) = some ((1 : Nat) : Int) from rfl, HT.sIx_nat]
  rcases xs with _ | ⟨x, r⟩
  · rfl
  · rw [show min 1 (x :: r).length = 1 by rw [List.length_cons]; omega]
    rw [List.take_of_length_le]
    rw [List.length_drop]
    exact Nat.le_refl _
/-- a list's neighbours -/
def pairsOf {β : Type} (g : Nat → Nat → Option β) : List Nat → List β
  | a :: b :: r => (g a b).toList ++ pairsOf g (b :: r)
  | _ => []
theorem pairs_range {β γ : Type} (g : Nat → Nat → Option β) (k : β → γ) (F : V → V → Option γ) (hF : ∀ a b, F (natV a) (natV b) = (g a b).map k) : ∀ B : List Nat, ((List.range (B.length - 1)).filterMap fun i => F ((B.map natV).getD i .non) (((B.map natV).drop 1).getD i .non)) = (pairsOf g B).map k
  | [] => rfl
  | [_] => rfl
  | a :: b :: r => by
    have ih := pairs_range g k F hF (b :: r)
    rw [show (a :: b :: r).length - 1 = (b :: r).length - 1 + 1 by simp, List.range_succ_eq_map, List.filterMap_cons]
    have e0 : F (((a :: b :: r).map natV).getD 0 .non) ((((a :: b :: r).map natV).drop 1).getD 0 .non) = (g a b).map k := hF a b
    have e1 : ((List.range ((b :: r).length - 1)).map Nat.succ).filterMap (fun i => F (((a :: b :: r).map natV).getD i .non) ((((a :: b :: r).map natV).drop 1).getD i .non)) = (pairsOf g (b :: r)).map k := by
      rw [List.filterMap_map, ← ih]
      rfl
    rw [e0, e1]
    show _ = ((g a b).toList ++ pairsOf g (b :: r)).map k
    cases g a b <;> simp
/-- a script's cell, 0 behind its end -/
def cel (ns : List Int) (j : Nat) : Int := ns.getD j 0
theorem atI_map {α : Type} (f : α → V) (ns : List α) {j : Nat} {x : α} (h : ns[j]? = some x) : atI (ns.map f) (j : Int) = some (f x) := atI_nat (by rw [List.getElem?_map, h]; rfl)
theorem cel_in {ns : List Int} {j : Nat} (h : j < ns.length) : ns[j]? = some (cel ns j) := by
  unfold cel
  rw [List.getD_eq_getElem?_getD, List.getElem?_eq_getElem h]
  rfl
theorem cel_out {ns : List Int} {j : Nat} (h : ¬ j < ns.length) : cel ns j = 0 := by
  unfold cel
  rw [List.getD_eq_getElem?_getD, List.getElem?_eq_none (by omega)]
  rfl
end
end Y
set_option Elab.async false
set_option linter.all false
set_option maxRecDepth 100000
/-! Objects, errors, dicts: our layer's second half. -/
namespace Y
open PySem PySem.Spec PyProof.Rows L2

/-! ### calls whose errors are wished for at the slots -/
section
variable {X : Cx} {CX : CXT} {k : Nat} {f C : Addr} {fd : FuncData} {ps : List Str} {sp : Sp} {E : L2.St → XK} {x m : Str} {p pos apos : Pos} {e o : Expr} {es : List Expr} {ta : TE} {t : TA}
theorem pass0S {X : Cx} {σ : L2.St} {E : XK} : PassesAt CX0 X σ E := fun _ _ _ _ _ _ h => h.elim
theorem passLS {X : Cx} {σ : L2.St} : PassesAt (L2.CX X.prog X.w) X σ E0 := fun _ _ _ _ _ _ h => by
  obtain ⟨_, _, _, _, _, _, _, _, _, _, _, _, z⟩ := h
  exact z.elim
theorem pe_callS0 (F : FnOk X.prog X.w X.K X.mg X.base CX k f fd ps sp) (hr : Room k X.A) (hg : Gl X x) (hm : X.mg x = some (.ref f)) (hk : PySem.W.keepIn X.K (.ref f) = true) (hb : Binds X.K fd ps []) (hx : ∀ σ, PassesAt CX X σ (E σ))
    (hdb : (x == ("__debug__" : Str)) = false := by decide) : PE X (.Call (.Name x p) [] [] pos) (tCallS sp E tNil) := by
  refine ⟨fun pins s σ H Q I h => ?_⟩
  refine wpAny_Call_Name_kw (ld_glob I hg hm ?_ hdb)
  exact PySem.W.callWith_K0 I.kIn hk (run_fnS (us := []) F hr hb (hx σ) I .nil h)
/-- the instance at a, its class C, whose own m is no attribute -/
def insAt (H : Hp) (a C : Addr) (m : Str) (P : Prop) : Prop := ∃ dx fs, H a = some (.ins C dx fs) ∧ fs.lookup m = none ∧ P
def tMethE (C : Addr) (m : Str) (sp : Sp) (E : L2.St → XK) (ta : TE) (t : TA) : TE := fun σ H Q => ta σ H fun x H1 => asRef x fun a => insAt H1 a C m (t σ H1 fun vs H2 => sp (.ref a :: vs) H2 Q (E σ))
theorem tMethE_ap {C : Addr} {m : Str} {sp : Sp} {E : L2.St → XK} {ta : TE} {t : TA} {σ : L2.St} {H : Hp} {Q : VK} : tMethE C m sp E ta t σ H Q = ta σ H fun x H1 => asRef x fun a => insAt H1 a C m (t σ H1 fun vs H2 => sp (.ref a :: vs) H2 Q (E σ)) := rfl
theorem tCallS_ap {sp : Sp} {E : L2.St → XK} {t : TA} {σ : L2.St} {H : Hp} {Q : VK} : tCallS sp E t σ H Q = t σ H fun vs H1 => sp vs H1 Q (E σ) := rfl
theorem pe_methE {pl : Sem Bool} (he : PE X o ta) (c : Cls X.K C) (hm : Meth X.K C m f) (F : FnOk X.prog X.w X.K X.mg X.base CX k f fd ps sp) (hr : Room k X.A) (hb : Binds X.K fd ps []) (hx : ∀ σ, PassesAt CX X σ (E σ)) (ha : PA X (e :: es) t)
    (hst : starEach (e :: es) X.env = (false, eval e X.env) :: starEach es X.env := by rfl) (hpl : (backTo pos (starEach es X.env)).any (·.1) = false := by rfl)
    (ht : eval (.Call (.Attribute o m apos) (e :: es) [] pos) X.env = (do
      let ov ← eval o X.env
      standAt apos.atName
      let (f, first) ← holding [ov] (getMethod ov m pl)
      callWith pos f first (backTo pos (starEach (e :: es) X.env)) (backToKw pos (keywordEach [] X.env))) := by rfl) :
    PE X (.Call (.Attribute o m apos) (e :: es) [] pos) (tMethE C m sp E ta t) := by
  refine ⟨fun pins s σ H Q I h => ?_⟩
  refine PySem.W.methodCall_KW (pl := pl) (thn (he.run pins s σ H _ I h) fun u s1 ⟨x, H1, I1, rx, q0⟩ => ?_) ht
  obtain ⟨a, ex, dx, fs, ea, l, q⟩ := Eq.mp asRef_ex q0
  subst ex
  obtain rfl : u = Value.ref a := rx
  refine getmeth_ok I1 ea c hm l ?_
  refine PySem.W.callWith_K (first := [.ref a]) (h₀ := X.base) I.ok.mod.kin hm.kp (thn (ha.run pos pins s1 σ H1 _ I1 q) fun us s2 ⟨vs, H2, I2, r, q2⟩ => ⟨I2.kIn, ?_⟩) hst hpl
  exact run_fnS (us := .ref a :: us) (vs := .ref a :: vs) F hr hb (hx σ) I2 (.cons rfl r) q2
theorem pe_methE0 {pl : Sem Bool} (he : PE X o ta) (c : Cls X.K C) (hm : Meth X.K C m f) (F : FnOk X.prog X.w X.K X.mg X.base CX k f fd ps sp) (hr : Room k X.A) (hb : Binds X.K fd ps []) (hx : ∀ σ, PassesAt CX X σ (E σ))
    (ht : eval (.Call (.Attribute o m apos) [] [] pos) X.env = (do
      let ov ← eval o X.env
      standAt apos.atName
      let (f, first) ← holding [ov] (getMethod ov m pl)
      callWith pos f first (backTo pos (starEach [] X.env)) (backToKw pos (keywordEach [] X.env))) := by rfl) :
    PE X (.Call (.Attribute o m apos) [] [] pos) (tMethE C m sp E ta tNil) := by
  refine ⟨fun pins s σ H Q I h => ?_⟩
  refine PySem.W.methodCall_KW (pl := pl) (thn (he.run pins s σ H _ I h) fun u s1 ⟨x, H1, I1, rx, q0⟩ => ?_) ht
  obtain ⟨a, ex, dx, fs, ea, l, q⟩ := Eq.mp asRef_ex q0
  subst ex
  obtain rfl : u = Value.ref a := rx
  refine getmeth_ok I1 ea c hm l ?_
  exact PySem.W.callWith_K0 (first := [.ref a]) I1.kIn hm.kp (run_fnS (us := [.ref a]) (vs := [.ref a]) F hr hb (hx σ) I1 (.cons rfl .nil) q)
/-- C(..): a new instance, then its __init__ -/
def tMakeE (C : Addr) (sp : Sp) (E : L2.St → XK) (t : TA) : TE := fun σ H Q => t σ H fun vs H1 => ∀ x dx, H1 x = none → H1 dx = none → dx ≠ x →
  sp (.ref x :: vs) (upd (upd H1 dx (.own x)) x (.ins C dx [])) (fun v H2 => v = .non ∧ Q (.ref x) H2) (E σ)
theorem tMakeE_ap {C : Addr} {sp : Sp} {E : L2.St → XK} {t : TA} {σ : L2.St} {H : Hp} {Q : VK} : tMakeE C sp E t σ H Q = t σ H fun vs H1 => ∀ x dx, H1 x = none → H1 dx = none → dx ≠ x →
  sp (.ref x :: vs) (upd (upd H1 dx (.own x)) x (.ins C dx [])) (fun v H2 => v = .non ∧ Q (.ref x) H2) (E σ) := rfl
/-- what a make may let out, told of the heap ahead of it -/
def PassesMk (CX : CXT) (X : Cx) (σ : L2.St) (E : XK) : Prop := ∀ (pins : List (Addr × Obj)) (H : Hp) (s : Shared) (e : Value) (s' : Shared), Inv X pins σ H s → CX X.stack H s E e s' → X.xe e s'
theorem run_makeS {pins : List (Addr × Obj)} {σ : L2.St} {H : Hp} {s : Shared} {Q : VK} {us : List Value} {vs : List V} {E : XK} (M : Mk X.K C f) (F : FnOk X.prog X.w X.K X.mg X.base CX k f fd ps sp) (hr : Room (k + 1) X.A) (hb : Binds X.K fd ps [])
    (hx : PassesAt CX X σ E) (I : Inv X pins σ H s) (r : Vals vs us)
    (h : ∀ x dx, H x = none → H dx = none → dx ≠ x → sp (.ref x :: vs) (upd (upd H dx (.own x)) x (.ins C dx [])) (fun v H2 => v = .non ∧ Q (.ref x) H2) E) :
    wpAny (model X.prog X.w) X.A (call (.ref C) us) (EP X pins σ Q) X.xe s := by
  have hq := h (s.heap.objs.size + 1) s.heap.objs.size (I.hok.fresh (Nat.le_succ _)) (I.hok.fresh (Nat.le_refl _)) (Nat.ne_of_lt (Nat.lt_succ_self _))
  have I2 := Inv.made (C := C) I
  have r2 : Vals (V.ref (s.heap.objs.size + 1) :: vs) (Value.ref (s.heap.objs.size + 1) :: us) := .cons rfl r
  have hl : (Value.ref (s.heap.objs.size + 1) :: us).length = ps.length := by
    have e := r2.length
    rw [F.len _ _ _ _ hq] at e
    exact e.symm
  have b := hb _ (Value.ref (s.heap.objs.size + 1) :: us) I2.kIn (by rw [List.append_nil]; exact hl)
  rw [List.append_nil] at b
  refine wpAny_call (make_map (f := f) I.kIn M.makes M.init (beq_iff_eq.mp M.fn) (codeAny_mono (F.run _ X.stack _ _ ⟨Value.ref (s.heap.objs.size + 1) :: us, []⟩ (Value.ref (s.heap.objs.size + 1) :: us) _ _ E (hr.make C us [])
    (I2.env0.make C us []) b r2 hq) fun r s' hq' => ?_))
  cases r with
  | error e => exact hx pins _ _ e s' I2 hq'
  | ok fl =>
    cases fl with
    | ret u =>
      obtain ⟨v, H', I3, rv, ev, q3⟩ := I2.after hq'
      subst ev
      exact ⟨rv, ⟨V.ref (s.heap.objs.size + 1), H', I3, rfl, q3⟩⟩
    | next => exact False.elim hq'
    | brk => exact False.elim hq'
    | cont => exact False.elim hq'
theorem pe_makeE (M : Mk X.K C f) (F : FnOk X.prog X.w X.K X.mg X.base CX k f fd ps sp) (hr : Room (k + 1) X.A) (hg : Gl X x) (hm : X.mg x = some (.ref C)) (hb : Binds X.K fd ps []) (hx : ∀ σ, PassesAt CX X σ (E σ))
    (ha : PA X (e :: es) t) (hdb : (x == ("__debug__" : Str)) = false := by decide) (he : starEach (e :: es) X.env = (false, eval e X.env) :: starEach es X.env := by rfl) (hpl : (backTo pos (starEach es X.env)).any (·.1) = false := by rfl) :
    PE X (.Call (.Name x p) (e :: es) [] pos) (tMakeE C sp E t) := by
  refine ⟨fun pins s σ H Q I h => ?_⟩
  refine wpAny_Call_Name_kw (ld_glob I hg hm ?_ hdb)
  refine PySem.W.callWith_K (h₀ := X.base) I.ok.mod.kin M.kp (thn (ha.run pos pins s σ H _ I h) fun us s1 ⟨vs, H1, I1, r, q⟩ => ⟨I1.kIn, ?_⟩) he hpl
  exact run_makeS M F hr hb (hx σ) I1 r q
theorem pe_makeE0 (M : Mk X.K C f) (F : FnOk X.prog X.w X.K X.mg X.base CX k f fd ps sp) (hr : Room (k + 1) X.A) (hg : Gl X x) (hm : X.mg x = some (.ref C)) (hb : Binds X.K fd ps []) (hx : ∀ σ, PassesAt CX X σ (E σ))
    (hdb : (x == ("__debug__" : Str)) = false := by decide) : PE X (.Call (.Name x p) [] [] pos) (tMakeE C sp E tNil) := by
  refine ⟨fun pins s σ H Q I h => ?_⟩
  refine wpAny_Call_Name_kw (ld_glob I hg hm ?_ hdb)
  exact PySem.W.callWith_K0 I.kIn M.kp (run_makeS (us := []) M F hr hb (hx σ) I .nil h)
end

/-! ### fields, for a K that is told -/
section
variable {X : Cx} {o e value : Expr} {f : Str} {pos pos' tpos : Pos} {ta tv : TE} {K : PySem.W.Frag}
/-- the attribute f of the instance at a -/
def fldAt (K : PySem.W.Frag) (H : Hp) (a : Addr) (f : Str) (P : V → Prop) : Prop := ∃ C dx fs v, H a = some (.ins C dx fs) ∧ Cls K C ∧ NoAttr K C f ∧ fs.lookup f = some v ∧ P v
theorem fldAt_of {H : Hp} {a C dx : Addr} {fs : List (Str × V)} {v : V} (h : H a = some (.ins C dx fs)) (c : Cls K C) (n : NoAttr K C f) (l : fs.lookup f = some v) (P : V → Prop) : fldAt K H a f P = P v := by
  apply propext
  constructor
  · rintro ⟨C', dx', fs', v', h', _, _, l', p⟩
    rw [h] at h'
    cases h'
    rw [l] at l'
    cases l'
    exact p
  · intro p
    exact ⟨C, dx, fs, v, h, c, n, l, p⟩
theorem insAt_of {H : Hp} {a C dx : Addr} {fs : List (Str × V)} {m : Str} (h : H a = some (.ins C dx fs)) (l : fs.lookup m = none) (P : Prop) : insAt H a C m P = P := by
  apply propext
  constructor
  · rintro ⟨dx', fs', h', _, p⟩
    exact p
  · intro p
    exact ⟨dx, fs, h, l, p⟩
def tFldE (K : PySem.W.Frag) (ta : TE) (f : Str) : TE := fun σ H Q => ta σ H fun x H1 => asRef x fun a => fldAt K H1 a f fun v => Q v H1
theorem tFldE_ap {σ : L2.St} {H : Hp} {Q : VK} : tFldE K ta f σ H Q = ta σ H fun x H1 => asRef x fun a => fldAt K H1 a f fun v => Q v H1 := rfl
theorem y_fld (he : PE X e ta) (hb : attributeBase e f X.env (eval e X.env) = eval e X.env := by rfl) (hK : X.K = K := by rfl) : PE X (.Attribute e f pos) (tFldE K ta f) := by
  subst hK
  refine ⟨fun pins s σ H Q I h => (pe_fld he hb).run pins s σ H Q I ?_⟩
  show ta σ H _
  have h' : ta σ H fun x H1 => asRef x fun a => fldAt X.K H1 a f fun v => Q v H1 := h
  have e1 : (fun (x : V) (H1 : Hp) => asRef x fun a => fldAt X.K H1 a f fun v => Q v H1) = fun x H1 => ∃ a C dx fs v, x = .ref a ∧ H1 a = some (.ins C dx fs) ∧ Cls X.K C ∧ NoAttr X.K C f ∧ fs.lookup f = some v ∧ Q v H1 := by
    funext x H1
    rw [asRef_ex]
    apply propext
    constructor
    · rintro ⟨a, ex, C, dx, fs, v, h1, h2, h3, h4, h5⟩
      exact ⟨a, C, dx, fs, v, ex, h1, h2, h3, h4, h5⟩
    · rintro ⟨a, C, dx, fs, v, ex, h1, h2, h3, h4, h5⟩
      exact ⟨a, ex, C, dx, fs, v, h1, h2, h3, h4, h5⟩
  rw [e1] at h'
  exact h'
/-- e.f = v: where the instance stands -/
def putAt (K : PySem.W.Frag) (H : Hp) (a : Addr) (f : Str) (P : Addr → Addr → List (Str × V) → Prop) : Prop := ∃ C dx fs, H a = some (.ins C dx fs) ∧ Cls K C ∧ NoAttr K C f ∧ fs.length < 1000 ∧ P C dx fs
theorem putAt_of {H : Hp} {a C dx : Addr} {fs : List (Str × V)} (h : H a = some (.ins C dx fs)) (c : Cls K C) (n : NoAttr K C f) (l : fs.length < 1000) (P : Addr → Addr → List (Str × V) → Prop) : putAt K H a f P = P C dx fs := by
  apply propext
  constructor
  · rintro ⟨C', dx', fs', h', _, _, l', p⟩
    rw [h] at h'
    cases h'
    exact p
  · intro p
    exact ⟨C, dx, fs, h, c, n, l, p⟩
def sFldE (K : PySem.W.Frag) (ta tv : TE) (f : Str) : TS := fun D σ H => tv σ H fun y H1 => ta σ H1 fun x H2 => asRef x fun a => putAt K H2 a f fun C dx fs => D.nx σ (upd H2 a (.ins C dx (putF f y fs)))
theorem sFldE_ap {D : Ends} {σ : L2.St} {H : Hp} : sFldE K ta tv f D σ H = tv σ H fun y H1 => ta σ H1 fun x H2 => asRef x fun a => putAt K H2 a f fun C dx fs => D.nx σ (upd H2 a (.ins C dx (putF f y fs))) := rfl
theorem y_sfld (ha : PE X o ta) (hv : PE X value tv) (hs : swapsWith value (some (.Attribute o f pos')) pos.line X.env = pure false := by rfl) (hK : X.K = K := by rfl) : PS X (.Assign [.Attribute o f pos'] value pos) (sFldE K ta tv f) := by
  subst hK
  refine ⟨fun pins s σ H D I h => (ps_fld ha hv hs).run pins s σ H D I ?_⟩
  show tv σ H _
  have h' : tv σ H fun y H1 => ta σ H1 fun x H2 => asRef x fun a => putAt X.K H2 a f fun C dx fs => D.nx σ (upd H2 a (.ins C dx (putF f y fs))) := h
  have e1 : ∀ y : V, (fun (x : V) (H2 : Hp) => asRef x fun a => putAt X.K H2 a f fun C dx fs => D.nx σ (upd H2 a (.ins C dx (putF f y fs)))) = fun x H2 => ∃ a C dx fs, x = .ref a ∧ H2 a = some (.ins C dx fs) ∧ Cls X.K C ∧ NoAttr X.K C f ∧ fs.length < 1000 ∧ D.nx σ (upd H2 a (.ins C dx (putF f y fs))) := fun y => by
    funext x H1
    rw [asRef_ex]
    apply propext
    constructor
    · rintro ⟨a, ex, C, dx, fs, h1, h2, h3, h4, h5⟩
      exact ⟨a, C, dx, fs, ex, h1, h2, h3, h4, h5⟩
    · rintro ⟨a, C, dx, fs, ex, h1, h2, h3, h4, h5⟩
      exact ⟨a, ex, C, dx, fs, h1, h2, h3, h4, h5⟩
  simp only [e1] at h'
  exact h'
/-- e.f op= v -/
def sFldAugE (K : PySem.W.Frag) (ta tv : TE) (rd : V → V → Hp → VK → Prop) (f : Str) : TS := fun D σ H => ta σ H fun x H1 => asRef x fun a => fldAt K H1 a f fun v =>
  tv σ H1 fun y H2 => rd v y H2 fun z H3 => putAt K H3 a f fun C dx fs => D.nx σ (upd H3 a (.ins C dx (putF f z fs)))
theorem sFldAugE_ap {rd : V → V → Hp → VK → Prop} {D : Ends} {σ : L2.St} {H : Hp} : sFldAugE K ta tv rd f D σ H = ta σ H fun x H1 => asRef x fun a => fldAt K H1 a f fun v =>
  tv σ H1 fun y H2 => rd v y H2 fun z H3 => putAt K H3 a f fun C dx fs => D.nx σ (upd H3 a (.ins C dx (putF f z fs))) := rfl
theorem y_fldaug {op : Operator} {rd : V → V → Hp → VK → Prop} (ha : PE X o ta) (hv : PE X value tv) (hop : InOp X op rd) (hK : X.K = K := by rfl) : PS X (.AugAssign (.Attribute o f tpos) op value pos) (sFldAugE K ta tv rd f) := by
  subst hK
  refine ⟨fun pins s σ H D I h => ?_⟩
  refine wpAny_AugAssign_AttributeAny (thn (ha.run pins s σ H _ I h) fun ov s1 ⟨x, H1, I1, rx, q0⟩ => ?_)
  obtain ⟨a, ex, C, dx, fs, v, ea, c, n, l, q⟩ := Eq.mp asRef_ex q0
  subst ex
  obtain rfl : ov = Value.ref a := rx
  refine getattr_ok I1 ea c n l fun u s2 I2 ru => thn (hv.run pins s2 σ H1 _ I2 q) fun w3 s3 ⟨y, H2, I3, ry, q3⟩ => thn (hop pins s3 σ H2 v y u w3 _ I3 ru ry q3) fun w4 s4 ⟨z, H3, I4, rz, C', dx', fs', ea', c', n', l', q4⟩ => ?_
  exact setattr_ok I4 ea' c' n' l' rz fun s5 I5 => ⟨σ, _, I5, q4⟩
def riAdd (x y : V) (H : Hp) (Q : VK) : Prop := match x, y with
  | .int i, .int j => Q (.int (i + j)) H
  | _, _ => False
def riSub (x y : V) (H : Hp) (Q : VK) : Prop := match x, y with
  | .int i, .int j => Q (.int (i - j)) H
  | _, _ => False
theorem y_inadd : InOp X .Add riAdd := fun pins s σ H x y u v Q I rx ry h => in_add pins s σ H x y u v Q I rx ry (by
  cases x <;> cases y <;> first | exact h.elim | exact ⟨_, _, rfl, rfl, h⟩)
theorem y_insub : InOp X .Sub riSub := fun pins s σ H x y u v Q I rx ry h => in_sub pins s σ H x y u v Q I rx ry (by
  cases x <;> cases y <;> first | exact h.elim | exact ⟨_, _, rfl, rfl, h⟩)
end

/-! ### error classes of one's own -/
structure ErrC (K : PySem.W.Frag) (mg : Str → Option Value) (x : Str) (C : Addr) : Prop where
  g : mg x = some (.ref C)
  ex : PySem.W.excIn K C [.type "ValueError", .type "Exception", .type "BaseException", .type "object"] "ValueError.__new__" = true
  kp : PySem.W.keepIn K (.ref C) = true
  b : PySem.W.subIn K (.ref C) (.type "BaseException") = some true
  t : PySem.W.typeIn K (.ref C) = some (.type "type")
  hd : PySem.W.hasDictIn K C = true
theorem ErrC.raises {X : Cx} {x : Str} {C : Addr} (e : ErrC X.K X.mg x C) : Raises X (.ref C) := raises_own e.b e.t
theorem ErrC.exm {K : PySem.W.Frag} {mg : Str → Option Value} {x : Str} {C D : Addr} {b : Bool} (e : ErrC K mg x C) (h : PySem.W.subIn K (.ref D) (.ref C) = some b) : PySem.W.exmOne K (.ref D) (.ref C) = some b := PySem.W.exm_ref e.b e.hd e.t h
theorem ErrC.kit {K : PySem.W.Frag} {mg : Str → Option Value} {x : Str} {C D : Addr} {b : Bool} (e : ErrC K mg x C) (h : PySem.W.subIn K (.ref D) (.ref C) = some b) (hb : D = C → b = true) : PySem.W.kitOne K (.ref D) (.ref C) = some b := by
  unfold PySem.W.kitOne
  by_cases q : D = C
  · subst q
    rw [if_pos (by simp), hb rfl]
  · rw [if_neg (by simpa using q)]
    unfold PySem.W.kitCls
    have e1 : ((PySem.W.clsIn K C).isSome && PySem.W.typeIn K (.ref C) == some (.type "type")) = true := by
      obtain ⟨cd, hc, _⟩ := PySem.W.any_some e.hd
      rw [hc, e.t]
      rfl
    show (if ((PySem.W.clsIn K C).isSome && PySem.W.typeIn K (.ref C) == some (.type "type")) = true then _ else _) = _
    rw [if_pos e1]
    exact h
theorem kit_VE {K : PySem.W.Frag} {D : Addr} (h : PySem.W.subIn K (.ref D) (.type "ValueError") = some true) : PySem.W.kitOne K (.ref D) (.type "ValueError") = some true := by
  unfold PySem.W.kitOne
  rw [if_neg (by simp)]
  unfold PySem.W.kitCls
  have e1 : PySem.W.kitMeta "ValueError" = true := by decide +kernel
  show (if PySem.W.kitMeta "ValueError" = true then _ else _) = _
  rw [if_pos e1]
  exact h
/-- raise x('m') -/
theorem ps_raiseE {X : Cx} {W : WX} {x m : Str} {j : Nat} {C : Addr} {p p2 pos pos2 : Pos} (hc : X.calm = true) (tk : Takes X W) (e : ErrC X.K X.mg x C) (hg : Gl X x := by rfl) (hdb : (x == ("__debug__" : Str)) = false := by decide) :
    PS X (.Raise (some (.Call (.Name x p) [.Constant (.str m) j p2] [] pos)) none pos2) (fun _ σ H => W (.ref C) none σ H) :=
  ps_raise hc tk (pmk_own PySem.F.excBase_ValueError e.ex e.g e.kp e.raises hg hdb)

/-! ### a def that is handed the exception that is handled -/
structure FnE (P : Program) (w : World) (K : PySem.W.Frag) (mg : Str → Option Value) (base : Heap) (k : Nat) (f : Addr) (fd : FuncData) (ps : List Str) (sp : Addr → Value → Option Addr → Sp) : Prop where
  len : ∀ a cls d vs H Q E, sp a cls d vs H Q E → vs.length = ps.length
  run : ∀ (A : Around) (outer : List Env) (s : Shared) (H : Hp) (args : Args) (us : List Value) (vs : List V) (Q : VK) (E : XK) (p : Addr × Obj) (cls : Value) (d : Option Addr), L2H.RoomH k A → Zc cls d p.2 → (∃ fs, p.2.data = .fields fs) → L2H.PinOk outer H s p → Env0 P w K mg base A outer s H →
    BindsTo s fd args (ps.zip us) → Vals vs us → sp p.1 cls d vs H Q E → codeAny (model P w) A (.call (.ref f) args) (CR CX0 outer P w H s Q E) s
theorem fn_ofE {P : Program} {w : World} {K : PySem.W.Frag} {mg : Str → Option Value} {base : Heap} {k : Nat} {f : Addr} {name qual : Str} {params : Arguments} {body : List Stmt} {scope : Scope} {dV kV doc pm cdv ct oc : Value} {an od : Option Addr}
    {osl : Array (Option Value)} {N ps : List Str} {sp : Addr → Value → Option Addr → Sp} (lk : K.lookup f = some ⟨oc, od, .func (PySem.W.fnOf name qual params body scope dV kV doc pm an cdv ct), osl⟩) (hcd : PySem.W.codeIn K cdv qual = true) (S : FnScope N ps scope)
    (len : ∀ a cls d vs H Q E, sp a cls d vs H Q E → vs.length = ps.length)
    (hbody : ∀ (A : Around) (outer : List Env) (s : Shared) (H : Hp) (vs : List V) (Q : VK) (E : XK) (a : Addr) (oe : Obj) (cls : Value) (d : Option Addr), Zc cls d oe → (∃ fs, oe.data = .fields fs) → L2H.RoomH k (A.deeper (envOfC qual scope s.heap.objs.size f cdv)) → sp a cls d vs H Q E →
      ∃ t, PSs (L2H.cxH CX0 P w K mg base N qual scope f cdv A outer s H E (a, oe)) body t ∧ t { nx := fun _ H' => Q .non H', rt := Q } (L2.start N vs) H) :
    FnE P w K mg base (k + 1) f (PySem.W.fnOf name qual params body scope dV kV doc pm an cdv ct) ps sp := by
  refine ⟨len, fun A outer s H args us vs Q E p cls d hr hz hf hpin e0 hb r hsp => ?_⟩
  have hl := len _ _ _ _ _ _ _ hsp
  have KX : K.In s.heap := e0.mod.kin.keeps fun b o e => (e0.bs b o e).1
  have lim : s.heap.NoLimit := e0.mod.nolimit.keeps fun b o e => (e0.bs b o e).1
  have hkind : ∀ y ∈ ps.zip us, scope.names.lookup y.1 = some .local ∨ (scope.names.lookup y.1 = some .cell ∧ ((cellsFrom (s.heap.objs.size + 1) scope.names []).lookup y.1).isSome = true) := fun ⟨n, v⟩ hy => by
    rcases S.par n (List.of_mem_zip hy).1 with q | q
    · exact .inl q
    · exact .inr ⟨q, PySem.W.cellsFrom_some _ _ _ (.inl q)⟩
  refine codeAny_call_function hr.depth (KX _ _ lk) rfl S.co S.gen rfl (PySem.W.codeRec_of KX hcd) (hb _ _ _ _ ?_)
  refine wpAny_newFunctionEnv_cells S.kind hkind fun env he s1 x => ?_
  subst he
  refine ⟨lim.keeps x.toInCall.keep, codeAny_func ?_⟩
  obtain ⟨t, ht, hq⟩ := hbody A outer s H vs Q E p.1 p.2 cls d hz hf (hr.deeper _) hsp
  have I : L2.Inv (L2H.cxH CX0 P w K mg base N qual scope f cdv A outer s H E p) [] (L2.start N vs) H s1 := L2H.inv_startH S hpin e0 hl r x
  refine wpAny_mono (ht.run [] s1 (L2.start N vs) H _ I hq) (fun fl s' hs => ?_) fun e s' hs => hs
  have fin : ∀ {σ' : L2.St} {H' : Hp} {v : V} {u : Value}, L2.Inv (L2H.cxH CX0 P w K mg base N qual scope f cdv A outer s H E p) [] σ' H' s' → RelV v u → Q v H' → CE outer P w H s Q u s' :=
    fun {σ' H' v u} J rv q => ⟨v, H', J.os, J.bare, J.base, J.hok, rv, q⟩
  cases fl with
  | ret u =>
    obtain ⟨v, σ', H', J, rv, q⟩ := hs
    exact fin J rv q
  | next =>
    obtain ⟨σ', H', J, q⟩ := hs
    exact fin (v := V.non) (u := Value.none) J rfl q
  | brk =>
    obtain ⟨_, _, _, q⟩ := hs
    exact False.elim q
  | cont =>
    obtain ⟨_, _, _, q⟩ := hs
    exact False.elim q
theorem _root_.L2.Fun.okE {P : Program} {w : World} {K : PySem.W.Frag} {mg : Str → Option Value} {base : Heap} {x qual : Str} {st : Stmt} {f : Addr} {fd : FuncData} {N ps : List Str} {k : Nat} {sp : Addr → Value → Option Addr → Sp} (F : Fun K x qual st f fd) (S : FnScope N ps (defScope st))
    (len : ∀ a cls d vs H Q E, sp a cls d vs H Q E → vs.length = ps.length)
    (hbody : ∀ (cdv : Value) (A : Around) (outer : List Env) (s : Shared) (H : Hp) (vs : List V) (Q : VK) (E : XK) (a : Addr) (oe : Obj) (cls : Value) (d : Option Addr), Zc cls d oe → (∃ fs, oe.data = .fields fs) → L2H.RoomH k (A.deeper (envOfC qual (defScope st) s.heap.objs.size f cdv)) → sp a cls d vs H Q E →
      ∃ t, PSs (L2H.cxH CX0 P w K mg base N qual (defScope st) f cdv A outer s H E (a, oe)) (defBody st) t ∧ t { nx := fun _ H' => Q .non H', rt := Q } (L2.start N vs) H) : FnE P w K mg base (k + 1) f fd ps sp := by
  obtain ⟨oc, od, kV, doc, pm, an, cdv, ct, osl, rfl, lk, hcd⟩ := F.ex
  exact fn_ofE lk hcd S len fun A outer s H vs Q E a oe cls d hz hf hr hsp => hbody cdv A outer s H vs Q E a oe cls d hz hf hr hsp
section
variable {X : Cx} {k : Nat} {f : Addr} {fd : FuncData} {ps : List Str} {sp : Addr → Value → Option Addr → Sp} {x : Str} {q pos : Pos} {e : Expr} {es : List Expr} {t : TA} {a : Addr} {oe : Obj} {cls : Value} {d : Option Addr} {pn : List (Addr × Obj)}
def tCallE (sp : Addr → Value → Option Addr → Sp) (a : Addr) (cls : Value) (d : Option Addr) (t : TA) : TE := fun σ H Q => t σ H fun vs H1 => sp a cls d vs H1 Q E0
theorem tCallE_ap {σ : L2.St} {H : Hp} {Q : VK} : tCallE sp a cls d t σ H Q = t σ H fun vs H1 => sp a cls d vs H1 Q E0 := rfl
theorem pe_callE (hz : Zc cls d oe) (hf : ∃ fs, oe.data = .fields fs) (F : FnE X.prog X.w X.K X.mg X.base k f fd ps sp) (hr : L2H.RoomH k X.A) (hp : (a, oe) ∈ X.pn) (hg : Gl X x) (hm : X.mg x = some (.ref f)) (hk : PySem.W.keepIn X.K (.ref f) = true) (hb : Binds X.K fd ps [])
    (ha : PA X (e :: es) t) (hdb : (x == ("__debug__" : Str)) = false := by decide) (he : starEach (e :: es) X.env = (false, eval e X.env) :: starEach es X.env := by rfl) (hpl : (backTo pos (starEach es X.env)).any (·.1) = false := by rfl) :
    PE X (.Call (.Name x q) (e :: es) [] pos) (tCallE sp a cls d t) := by
  refine ⟨fun pins s σ H Q I h => ?_⟩
  refine wpAny_Call_Name_kw (ld_glob I hg hm ?_ hdb)
  refine PySem.W.callWith_K (h₀ := X.base) I.ok.mod.kin hk (thn (ha.run pos pins s σ H _ I h) fun us s1 ⟨vs, H1, I1, r, h1⟩ => ⟨I1.kIn, ?_⟩) he hpl
  have hl : us.length = ps.length := by rw [← r.length]; exact F.len _ _ _ _ _ _ _ h1
  have b := hb s1 us I1.kIn (by rw [List.append_nil]; exact hl)
  rw [List.append_nil] at b
  have P1 := I1.pin (a, oe) (List.mem_append_left _ hp)
  have hpin : L2H.PinOk X.stack H1 s1 (a, oe) := ⟨P1.1, P1.2.1, fun hm => (List.mem_cons.mp (I1.stkSub a hm)).elim P1.2.2.1 P1.2.2.2.1, P1.2.2.2.2⟩
  refine wpAny_call (codeAny_mono (F.run X.A X.stack s1 H1 ⟨us, []⟩ us vs Q E0 (a, oe) cls d hr hz hf hpin I1.env0 b r h1) fun r s' hq => ?_)
  cases r with
  | error e => exact hq.elim
  | ok fl =>
    cases fl with
    | ret u => exact I1.after hq
    | next => exact False.elim hq
    | brk => exact False.elim hq
    | cont => exact False.elim hq
end
/-- isinstance(e, c), e the exception that is handled -/
theorem call_isH {X : Cx} {a D : Addr} {oe : Obj} (hp : (a, oe) ∈ X.pn) {K : PySem.W.Frag} (C : ExcC X.K D) (hz : Zc (.ref D) none oe) (hf : ∃ vs, oe.data = .fields vs) (hK : X.K = K := by rfl) : CallR X (.builtin "isinstance") (rIsE K D a) := by
  subst hK
  intro pins s σ H xs us Q I r h
  obtain ⟨c, cv, b, rfl, hcv, e, q⟩ := h
  cases r with
  | cons rx rr =>
    cases rr with
    | cons rt rr =>
      cases rr
      cases rx
      have ec := hcv _ rt
      subst ec
      obtain ⟨hget, _⟩ := I.pin (a, oe) (List.mem_append.mpr (.inl hp))
      obtain ⟨vs, hv⟩ := hf
      have J : PySem.W.InstAt s.heap a oe D none := by
        obtain ⟨oc, od, oda, osl⟩ := oe
        obtain ⟨h1, h2⟩ := hz
        dsimp only at h1 h2 hv
        subst h1 h2 hv
        exact ⟨hget, rfl, rfl, trivial⟩
      exact PySem.W.kia_one (PySem.W.handS_kitx_exc C.hg C.hk C.hs C.hd C.ha C.hn C.ht C.hm) I.kIn J e (fun z => nomatch z) fun tk => ⟨.bl b, H, I.kept (t' := tk) fun _ _ z => z, rfl, q⟩
theorem isE_of {K : PySem.W.Frag} {D a C : Addr} {b : Bool} {H : Hp} {Q : VK} (h : PySem.W.kitOne K (.ref D) (.ref C) = some b) (q : Q (.bl b) H) : rIsE K D a [.ref a, .ref C] H Q := ⟨.ref C, .ref C, b, rfl, fun _ r => r, h, q⟩
theorem isE_ty {K : PySem.W.Frag} {D a : Addr} {n : String} {b : Bool} {H : Hp} {Q : VK} (h : PySem.W.kitOne K (.ref D) (.type n) = some b) (q : Q (.bl b) H) : rIsE K D a [.ref a, .ty n] H Q := ⟨.ty n, .type n, b, rfl, fun _ r => r, h, q⟩
/-- what an except clause over an own class wishes, of an error of one's own under it -/
theorem wAs_of {K : PySem.W.Frag} {C D : Addr} {i : Nat} {ts : Addr → Value → Option Addr → TS} {Wout : WX} {Dn : Ends} {σ : L2.St} {H : Hp} (h : PySem.W.exmOne K (.ref D) (.ref C) = some true)
    (q : ∀ a, H a = none → ts a (.ref D) none { nx := fun σ' H' => Dn.nx (σ'.set i none) H', rt := Dn.rt, bk := fun σ' H' => Dn.bk (σ'.set i none) H', ct := fun σ' H' => Dn.ct (σ'.set i none) H' } (σ.set i (some (.ref a))) H) :
    wAs K (.ref C) i ts Wout Dn (.ref D) none σ H := ⟨true, h, fun _ => q, fun z => nomatch z⟩

theorem roomE {j k : Nat} {A : Around} {a : Addr} (r : Room k A) (h : j ≤ k) : L2H.RoomH j (A.mark (some (.ref a))) := ⟨(r.mono h).dp, (r.mono h).un⟩
/-! ### frames: what stays -/
def nt : HO → Bool
  | .tbl _ => false
  | _ => true
/-- all that stood stays but what F says; tables may grow -/
structure Fr (F : List Addr) (H H' : Hp) : Prop where
  keep : ∀ a o, H a = some o → a ∉ F → nt o = true → H' a = some o
  tabs : ∀ P, GxR.TabG H P → GxR.TabG H' P
  live : ∀ a, H' a = none → H a = none
theorem frS {F : List Addr} {H H' : Hp} (s : Same H H') : Fr F H H' := ⟨fun a o h _ _ => s a o h, fun P ⟨ps, h1, h2⟩ => ⟨ps, s _ _ h1, h2⟩, fun a h => s.free h⟩
theorem Fr.refl {F : List Addr} {H : Hp} : Fr F H H := frS (Same.refl H)
theorem Fr.trans {F : List Addr} {H H1 H2 : Hp} (s : Fr F H H1) (t : Fr F H1 H2) : Fr F H H2 :=
  ⟨fun a o h f n => t.keep a o (s.keep a o h f n) f n, fun P h => t.tabs P (s.tabs P h), fun a h => s.live a (t.live a h)⟩
theorem Fr.mono {F G : List Addr} {H H' : Hp} (s : Fr F H H') (h : ∀ a, a ∈ F → a ∈ G) : Fr G H H' := ⟨fun a o e f n => s.keep a o e (fun z => f (h a z)) n, s.tabs, s.live⟩
theorem Fr.upd {F : List Addr} {H : Hp} {a : Addr} {o o' : HO} (h : a ∈ F) (e : H a = some o') (n : nt o' = true) : Fr F H (upd H a o) := by
  refine ⟨fun b u hb f _ => ?_, fun P ⟨ps, h1, h2⟩ => ⟨ps, ?_, h2⟩, fun b hb => ?_⟩
  · rw [upd_ne (fun z => f (by rw [z]; exact h))]
    exact hb
  · rw [upd_ne (fun z => ?_)]
    · exact h1
    · rw [z, e] at h1
      cases h1
      cases n
  · by_cases z : b = a
    · rw [z, upd_same] at hb
      cases hb
    · rw [upd_ne z] at hb
      exact hb
theorem Fr.same {F : List Addr} {H H1 H2 : Hp} (s : Fr F H H1) (t : Same H1 H2) : Fr F H H2 := s.trans (frS t)
theorem Fr.new {F : List Addr} {H H1 : Hp} {p : Addr} {o : HO} (s : Fr F H H1) (h : H1 p = none) : Fr F H (L2.upd H1 p o) := s.trans (frS (same_new h))
theorem Fr.upd2 {F : List Addr} {H H1 : Hp} {a : Addr} {o o' : HO} (s : Fr F H H1) (h : a ∈ F) (e : H1 a = some o') (n : nt o' = true) : Fr F H (L2.upd H1 a o) := s.trans (Fr.upd h e n)
theorem Fr.lst {F : List Addr} {H H' : Hp} {a : Addr} {xs : List V} (s : Fr F H H') (h : H a = some (.lst xs)) (n : a ∉ F) : H' a = some (.lst xs) := s.keep a _ h n rfl
theorem Fr.tup {F : List Addr} {H H' : Hp} {a : Addr} {xs : List V} (s : Fr F H H') (h : H a = some (.tup xs)) (n : a ∉ F) : H' a = some (.tup xs) := s.keep a _ h n rfl

theorem putF_le (f : Str) (v : V) : ∀ fs : List (Str × V), (putF f v fs).length ≤ fs.length + 1
  | [] => Nat.le_refl _
  | (g, x) :: r => by
    show (if g = f then _ else _ : List (Str × V)).length ≤ _
    split
    · rw [List.length_cons, List.length_cons]; omega
    · have := putF_le f v r
      rw [List.length_cons, List.length_cons]; omega
/-! ### readings, applied -/
section
variable {ta tb tc : TE} {D : Ends} {σ : L2.St} {H : Hp} {Q : VK} {td ty tv tx : TE} {t : TS}
theorem sDPut_ap : sDPut td ty tv D σ H = tv σ H fun v H1 => td σ H1 fun x H2 => ty σ H2 fun y H3 => asRef x fun a => ∃ H4, DPut H3 a y v H4 ∧ D.nx σ H4 := by
  simp only [asRef_ex]
  unfold sDPut
  congr 1; funext v H1; congr 1; funext x H2; congr 1; funext y H3
  apply propext
  constructor
  · rintro ⟨a, H4, h1, h2, h3⟩
    exact ⟨a, h1, H4, h2, h3⟩
  · rintro ⟨a, h1, H4, h2, h3⟩
    exact ⟨a, H4, h1, h2, h3⟩
theorem sDAug_ap {rd : V → V → Hp → VK → Prop} : sDAug td ty tv rd D σ H = td σ H fun x H1 => ty σ H1 fun y H2 => asRef x fun a => ∃ v, DGet H2 a y (some v) ∧ tv σ H2 fun y2 H3 => rd v y2 H3 fun z H4 => ∃ H5, DPut H4 a y z H5 ∧ D.nx σ H5 := by
  simp only [asRef_ex]
  unfold sDAug
  congr 1; funext x H1; congr 1; funext y H2
  apply propext
  constructor
  · rintro ⟨a, v, h1, h2, h3⟩
    exact ⟨a, h1, v, h2, h3⟩
  · rintro ⟨a, h1, v, h2, h3⟩
    exact ⟨a, v, h1, h2, h3⟩
theorem sDDel_ap : sDDel td ty D σ H = td σ H fun x H1 => ty σ H1 fun y H2 => asRef x fun a => ∃ kvs k, H2 a = some (.dK kvs) ∧ y = kV k ∧ (valV kvs k).isSome = true ∧ D.nx σ (upd H2 a (.dK (dropK kvs k))) := by
  simp only [asRef_ex]
  unfold sDDel
  congr 1; funext x H1; congr 1; funext y H2
  apply propext
  constructor
  · rintro ⟨a, kvs, k, h1, h2⟩
    exact ⟨a, h1, kvs, k, h2⟩
  · rintro ⟨a, h1, kvs, k, h2⟩
    exact ⟨a, kvs, k, h1, h2⟩
theorem tDIn_ap : tDIn ty td σ H Q = ty σ H fun y H1 => td σ H1 fun x H2 => asRef x fun a => ∃ o, DGet H2 a y o ∧ Q (.bl o.isSome) H2 := by
  simp only [asRef_ex]
  unfold tDIn
  congr 1; funext x H1; congr 1; funext y H2
  apply propext
  constructor
  · rintro ⟨a, v, h1, h2, h3⟩
    exact ⟨a, h1, v, h2, h3⟩
  · rintro ⟨a, h1, v, h2, h3⟩
    exact ⟨a, v, h1, h2, h3⟩
theorem tDNotIn_ap : tDNotIn ty td σ H Q = ty σ H fun y H1 => td σ H1 fun x H2 => asRef x fun a => ∃ o, DGet H2 a y o ∧ Q (.bl (!o.isSome)) H2 := by
  simp only [asRef_ex]
  unfold tDNotIn
  congr 1; funext x H1; congr 1; funext y H2
  apply propext
  constructor
  · rintro ⟨a, v, h1, h2, h3⟩
    exact ⟨a, h1, v, h2, h3⟩
  · rintro ⟨a, h1, v, h2, h3⟩
    exact ⟨a, v, h1, h2, h3⟩
theorem tDGet2_ap : tDGet2 td ty tx σ H Q = td σ H fun x H1 => asRef x fun a => IsD H1 a ∧ ty σ H1 fun y H2 => tx σ H2 fun z H3 => ∃ o, DGet H3 a y o ∧ Q (o.getD z) H3 := by
  simp only [asRef_ex]
  rfl
theorem tDPop1_ap : tDPop1 td ty σ H Q = td σ H fun x H1 => asRef x fun a => IsD H1 a ∧ ty σ H1 fun y H2 => ∃ kvs k v, H2 a = some (.dK kvs) ∧ y = kV k ∧ valV kvs k = some v ∧ Q v (upd H2 a (.dK (dropK kvs k))) := by
  simp only [asRef_ex]
  rfl
theorem tDNewK_ap : tDNewK σ H Q = ∀ p, H p = none → Q (.ref p) (upd H p (.dK [])) := rfl
theorem tDNewT_ap : tDNewT σ H Q = ∀ p, H p = none → Q (.ref p) (upd H p (.dT [])) := rfl
theorem tDisp_ap {trs : List (TE × TE)} : tDisp trs σ H Q = ∀ p, H p = none → tPairs trs σ (upd H p (.dK [])) fun ps H2 => H2 p = some (.dK []) ∧ ∃ kvs : List (Key × V), ps = kvs.map (fun kv => (kV kv.1, kv.2)) ∧ kvs.length ≤ 15 ∧ Q (.ref p) (upd H2 p (.dK (mergeK [] kvs))) := rfl
theorem tPairs_nil {R : List (V × V) → Hp → Prop} : tPairs [] σ H R = R [] H := rfl
theorem tPairs_cons {r : List (TE × TE)} {R : List (V × V) → Hp → Prop} : tPairs ((ta, tb) :: r) σ H R = ta σ H fun x H1 => tb σ H1 fun y H2 => tPairs r σ H2 fun ps H3 => R ((x, y) :: ps) H3 := rfl
variable {i j : Int}
theorem riAdd_ap : riAdd (.int i) (.int j) H Q = Q (.int (i + j)) H := rfl
theorem riSub_ap : riSub (.int i) (.int j) H Q = Q (.int (i - j)) H := rfl
/-- the dict at d, locked while te reads it -/
theorem tLockE_ap {t : TE} : tLockE t σ H Q = ∃ d u, H d = some u ∧ Mut (some u) ∧ ∀ od, t σ (upd H d (.frz od u)) fun v H' => H' d = some (.frz od u) ∧ Q v (upd H' d u) := rfl
theorem tLock_ap : tLock t D σ H = ∃ d u, H d = some u ∧ Mut (some u) ∧ ∀ od, t ⟨fun σ' H' => H' d = some (.frz od u) ∧ D.nx σ' (upd H' d u), fun v H' => H' d = some (.frz od u) ∧ D.rt v (upd H' d u), fun σ' H' => H' d = some (.frz od u) ∧ D.bk σ' (upd H' d u), fun σ' H' => H' d = some (.frz od u) ∧ D.ct σ' (upd H' d u)⟩ σ (upd H d (.frz od u)) := rfl
/-- what walks over a dict's keys -/
def keysAt (H : Hp) (x : V) (P : L2.It → Prop) : Prop := ∃ d o, x = .ref d ∧ ((∃ kvs, H d = some (.frz o (.dK kvs)) ∧ P (Itk d o kvs)) ∨ ∃ kvs, H d = some (.frz o (.dT kvs)) ∧ P (Itkt d o kvs))
theorem tForK_ap {g : TG} : tFor (iKeys td) g t D σ H = td σ H fun v H1 => keysAt H1 v fun J => forW J g t D σ H1 := rfl
theorem tLcK_ap {g : TG} {tt : TT} {tf : TE} {vs : List Nat} : tLc (iKeys td) g tt tf vs σ H Q = td σ H fun v H1 => keysAt H1 v fun J => ∀ D, H1 D = none → lcW J g tt tf vs σ D H1 fun H' => Q (.ref D) H' := rfl
end
theorem keysK {H : Hp} {d : Addr} {o : Obj} {kvs : List (Key × V)} {P : L2.It → Prop} (h : H d = some (.frz o (.dK kvs))) (p : P (Itk d o kvs)) : keysAt H (.ref d) P := ⟨d, o, rfl, .inl ⟨kvs, h, p⟩⟩
theorem keysT {H : Hp} {d : Addr} {o : Obj} {kvs : List (List Key × V)} {P : L2.It → Prop} (h : H d = some (.frz o (.dT kvs))) (p : P (Itkt d o kvs)) : keysAt H (.ref d) P := ⟨d, o, rfl, .inr ⟨kvs, h, p⟩⟩
theorem dgI {H : Hp} {a : Addr} {kvs : List (Key × V)} {i : Int} {r : Option V} (h : H a = some (.dK kvs)) (e : valV kvs (Sum.inl i) = r) : DGet H a (.int i) r := e ▸ DGet.k (k := Sum.inl i) h
theorem dgS {H : Hp} {a : Addr} {kvs : List (Key × V)} {i : Str} {r : Option V} (h : H a = some (.dK kvs)) (e : valV kvs (Sum.inr i) = r) : DGet H a (.str i) r := e ▸ DGet.k (k := Sum.inr i) h
theorem dgRI {H : Hp} {a : Addr} {kvs : List (Key × V)} {i : Int} {r : Option V} (h : Rd H a (.dK kvs)) (e : valV kvs (Sum.inl i) = r) : DGet H a (.int i) r := .inl ⟨kvs, Sum.inl i, h, rfl, e.symm⟩
theorem dgRS {H : Hp} {a : Addr} {kvs : List (Key × V)} {i : Str} {r : Option V} (h : Rd H a (.dK kvs)) (e : valV kvs (Sum.inr i) = r) : DGet H a (.str i) r := .inl ⟨kvs, Sum.inr i, h, rfl, e.symm⟩
theorem dgRT {H : Hp} {a b : Addr} {kvs : List (List Key × V)} {k : List Key} {r : Option V} (h : Rd H a (.dT kvs)) (hb : H b = some (.tup (k.map kV))) (e : valV kvs k = r) : DGet H a (.ref b) r := .inr ⟨kvs, k, b, h, rfl, hb, e.symm⟩
theorem dpI {H : Hp} {a : Addr} {kvs : List (Key × V)} {i : Int} {v : V} (h : H a = some (.dK kvs)) (hl : kvs.length < 16777216) : DPut H a (.int i) v (upd H a (.dK (putK kvs (Sum.inl i) v))) := DPut.k (k := Sum.inl i) h (by rw [line_eq]; exact hl)
theorem dpS {H : Hp} {a : Addr} {kvs : List (Key × V)} {i : Str} {v : V} (h : H a = some (.dK kvs)) (hl : kvs.length < 16777216) : DPut H a (.str i) v (upd H a (.dK (putK kvs (Sum.inr i) v))) := DPut.k (k := Sum.inr i) h (by rw [line_eq]; exact hl)
theorem dpT {H : Hp} {a b : Addr} {kvs : List (List Key × V)} {k : List Key} {v : V} (h : H a = some (.dT kvs)) (hb : H b = some (.tup (k.map kV))) (hl : kvs.length < 16777216) : DPut H a (.ref b) v (upd H a (.dT (putK kvs k v))) := DPut.t h hb (by rw [line_eq]; exact hl)
/-! ### int, list, tuple, sorted as calls -/
def rInt1 (xs : List V) (H : Hp) (Q : VK) : Prop := match xs with
  | [.int i] => Q (.int i) H
  | [.bl k] => Q (.int (if k then 1 else 0)) H
  | _ => False
theorem rInt1_i {i : Int} {H : Hp} {Q : VK} : rInt1 [.int i] H Q = Q (.int i) H := rfl
theorem rInt1_b {k : Bool} {H : Hp} {Q : VK} : rInt1 [.bl k] H Q = Q (.int (if k then 1 else 0)) H := rfl
section
variable {X : Cx} {K : PySem.W.Frag}
theorem y_int1 : CallR X (.type "int") rInt1 := call_weak call_int1 fun xs H Q q => by
  unfold rInt1 at q
  split at q
  · exact .inl ⟨_, rfl, q⟩
  · exact .inr ⟨_, rfl, q⟩
  · exact q.elim
def rListC (K : PySem.W.Frag) (xs : List V) (H : Hp) (Q : VK) : Prop := match xs with
  | [.ref p] => ∃ ys, (SqL K H p ys ∨ SqT K H p ys) ∧ ∀ l, H l = none → Q (.ref l) (upd H l (.lst ys))
  | _ => False
theorem y_list (hK : X.K = K := by rfl) : CallR X (.type "list") (rListC K) := by
  subst hK
  refine call_weak call_list_of fun xs H Q q => ?_
  unfold rListC at q
  split at q
  · obtain ⟨ys, h, q⟩ := q
    exact ⟨_, ys, rfl, h, q⟩
  · exact q.elim
theorem rListC_ap {p : Addr} {H : Hp} {Q : VK} : rListC K [.ref p] H Q = ∃ ys, (SqL K H p ys ∨ SqT K H p ys) ∧ ∀ l, H l = none → Q (.ref l) (upd H l (.lst ys)) := rfl
/-- sorted(d) of a dict whose keys are ints, any number of them -/
theorem y_sortedDI (hcalm : X.calm = true) : CallR X (.builtin "sorted") (fun xs H Q => ∃ (a : Addr) (kvs : List (Key × V)) (ks : List Int), xs = [.ref a] ∧ Rd H a (.dK kvs) ∧ kvs.map (·.1) = ks.map Sum.inl ∧
    ∀ (ys : List Int) (p : Addr), ys.Perm ks → ys.Pairwise (· ≤ ·) → H p = none → Q (.ref p) (upd H p (.lst (ys.map V.int)))) := by
  intro pins s σ H xs us Q I r q
  obtain ⟨a, kvs, ks, ex, hd, hks, q⟩ := q
  subst ex
  obtain ⟨u, eu, rx⟩ := vals1 r
  subst eu
  cases rx
  obtain ⟨z, lo, vs, rel, dd⟩ := dk_rd I.hok hd
  obtain ⟨ep, hat⟩ := dd.dictAt
  have hkeys : vs.map (·.1) = ks.map Sum.inl := rel.keys.symm.trans hks
  have hl : vs.length = ks.length := by
    have e := congrArg List.length hkeys
    rw [List.length_map, List.length_map] at e
    exact e
  have h16 : vs.length ≤ sizeLine := by rw [← rel.length]; exact z
  refine Calls.call_function_entry PyProof.Rows.kind_sorted PyProof.Rows.plain_sorted PyProof.Rows.entry_sorted (PyProof.Rows.args_sorted1 _) ?_
  unfold Builtin.«sorted»
  refine wpAny_bind (m := checkCount "sorted" 1 1 _) (wpAny_pure ?_)
  refine wpAny_bind (PySem.W.kdu_collect (A := X.A.in1) (PySem.W.kdl_dict (knd := mixKind X.prog X.w) (kvs := vs) (ep := ep) lo) (I.ok.hd hcalm) hat h16 fun h' tk acc hk hacc => ?_)
  have hal : acc.toList.length = ks.length := by rw [Array.length_toList, hacc.1, hl]
  have hS : IntsAre acc.toList ks := ints_each hal fun j v e => by
    obtain ⟨k, x, e1, e2⟩ := hacc.2 j v (by rw [← Array.getElem?_toList]; exact e)
    have e3 : (vs.map (·.1))[j]? = some k := by rw [List.getElem?_map, e1]; rfl
    rw [hkeys, List.getElem?_map] at e3
    cases e4 : ks[j]? with
    | none => rw [e4] at e3; cases e3
    | some y =>
      rw [e4] at e3
      have e5 : Sum.inl y = k := Option.some.inj e3
      subst e5
      rcases keyIs_shape (show keyIs (Sum.inl y) v = true from e2) with ⟨i, t, ek, ev⟩ | ⟨z, t, ek, ev⟩
      · cases ek
        exact ⟨y, t, rfl, ev⟩
      · cases ek
  have I1 : L2.Inv X pins σ H { s with heap := h', toks := tk } := I.kept hk
  have hz : acc.toList.length ≤ sizeLine := by rw [hal, ← hl]; exact h16
  refine wpAny_bind (wpAny_newList ?_ hz)
  have hoL : (h'.push (seqObj "list" acc.toList.toArray 0)).get? h'.objs.size = some (seqObj "list" acc.toList.toArray 0) := Heap.get?_push_size _ rfl
  show wpAny _ _ _ _ _ { s with heap := h'.push (seqObj "list" acc.toList.toArray 0), toks := tk }
  refine wpAny_bind (wpAny_holding (wpAny_call_entry PyProof.Rows.slot_list_sort ⟨_, hoL, rfl⟩ PyProof.Rows.entry_list_sort
    (SrtO.list_sort_ord (s := { s with heap := h'.push (seqObj "list" acc.toList.toArray 0), toks := tk }) SrtO.swo_int hoL hz (fun h2 => SrtO.ints_sortable hS h2) fun out h1 h2 => ⟨_, rfl, ?_⟩) (PyProof.Rows.args_list_sort _)))
  obtain ⟨k1, k2, k3⟩ := SrtO.ints_out hS h1 h2
  obtain ⟨e', he'⟩ := PyProof.Rows.sortedHeap_at (vs := acc.toList) (out := out.toArray) hoL
  have hlen : ((out.map SrtO.iv).map V.int).length ≤ sizeLine := by
    rw [List.length_map, k2.length_eq, ← hl]
    exact h16
  refine wpAny_pure ⟨_, rfl, .ref h'.objs.size, upd H h'.objs.size (.lst ((out.map SrtO.iv).map V.int)), I1.laid (t' := tk) (fun b u e => ?_) (Nat.le_refl _)
    (show ObjOk X.prog X.w _ _ _ (.lst ((out.map SrtO.iv).map V.int)) from ⟨hlen, out, e', vals_of_ints k1, he'⟩), rfl, q _ _ k2 k3 (I1.hok.fresh (Nat.le_refl _))⟩
  have hb : b < h'.objs.size := Heap.lt_size e
  rw [PyProof.Rows.sortedHeap_old (Nat.ne_of_lt hb) (by rw [size_push']; exact Nat.lt_succ_of_lt hb)]
  exact Heap.get?_push_of_some _ e
end

/-- sep.join(xs), for a K that is told -/
def tJoin (K : PySem.W.Frag) (ta tb : TE) : TE := fun σ H Q => ta σ H fun x H1 => asStr x fun a => tb σ H1 fun y H2 => asRef y fun p => ∃ ys : List Str, (SqL K H2 p (ys.map V.str) ∨ SqT K H2 p (ys.map V.str)) ∧ (ys.map (·.length)).sum + ys.length * a.length ≤ 16777216 ∧ Q (.str (Txt.join a ys)) H2
theorem tJoin_ap {K : PySem.W.Frag} {ta tb : TE} {σ : L2.St} {H : Hp} {Q : VK} : tJoin K ta tb σ H Q = ta σ H fun x H1 => asStr x fun a => tb σ H1 fun y H2 => asRef y fun p => ∃ ys : List Str, (SqL K H2 p (ys.map V.str) ∨ SqT K H2 p (ys.map V.str)) ∧ (ys.map (·.length)).sum + ys.length * a.length ≤ 16777216 ∧ Q (.str (Txt.join a ys)) H2 := rfl
theorem y_join {X : Cx} {K : PySem.W.Frag} {o e : Expr} {to te : TE} {apos pos : Pos} (ho : PE X o to) (he : PE X e te) (hs : starEach [e] X.env = [(false, eval e X.env)] := by rfl) (hbase : attributeBase o "join" X.env (eval o X.env) = eval o X.env := by rfl) (hline : (apos.endLine == pos.line) = true := by rfl) (hK : X.K = K := by rfl) :
    PE X (.Call (.Attribute o "join" apos) [e] [] pos) (tJoin K to te) := by
  subst hK
  refine ⟨fun pins s σ H Q I h => (pe_join ho he hs hbase hline).run pins s σ H Q I ?_⟩
  show to σ H _
  have h' : to σ H fun x H1 => asStr x fun a => te σ H1 fun y H2 => asRef y fun p => ∃ ys : List Str, (SqL X.K H2 p (ys.map V.str) ∨ SqT X.K H2 p (ys.map V.str)) ∧ (ys.map (·.length)).sum + ys.length * a.length ≤ 16777216 ∧ Q (.str (Txt.join a ys)) H2 := h
  have e1 : (fun (x : V) (H1 : Hp) => asStr x fun a => te σ H1 fun y H2 => asRef y fun p => ∃ ys : List Str, (SqL X.K H2 p (ys.map V.str) ∨ SqT X.K H2 p (ys.map V.str)) ∧ (ys.map (·.length)).sum + ys.length * a.length ≤ 16777216 ∧ Q (.str (Txt.join a ys)) H2) =
      fun x H1 => (∃ a, x = .str a) ∧ te σ H1 fun y H2 => ∃ a p, ∃ ys : List Str, x = .str a ∧ [y] = [V.ref p] ∧ (SqL X.K H2 p (ys.map V.str) ∨ SqT X.K H2 p (ys.map V.str)) ∧ (ys.map (·.length)).sum + ys.length * a.length ≤ 16777216 ∧ Q (.str (Txt.join a ys)) H2 := by
    funext x H1
    rw [asStr_ex]
    apply propext
    constructor
    · rintro ⟨a, ex, q⟩
      subst ex
      refine ⟨⟨a, rfl⟩, ?_⟩
      have e2 : (fun (y : V) (H2 : Hp) => asRef y fun p => ∃ ys : List Str, (SqL X.K H2 p (ys.map V.str) ∨ SqT X.K H2 p (ys.map V.str)) ∧ (ys.map (·.length)).sum + ys.length * a.length ≤ 16777216 ∧ Q (.str (Txt.join a ys)) H2) =
          fun y H2 => ∃ a' p, ∃ ys : List Str, V.str a = .str a' ∧ [y] = [V.ref p] ∧ (SqL X.K H2 p (ys.map V.str) ∨ SqT X.K H2 p (ys.map V.str)) ∧ (ys.map (·.length)).sum + ys.length * a'.length ≤ 16777216 ∧ Q (.str (Txt.join a' ys)) H2 := by
        funext y H2
        rw [asRef_ex]
        apply propext
        constructor
        · rintro ⟨p, ey, ys, h1, h2, h3⟩
          subst ey
          exact ⟨a, p, ys, rfl, rfl, h1, h2, h3⟩
        · rintro ⟨a', p, ys, ea, ey, h1, h2, h3⟩
          cases ea
          cases ey
          exact ⟨p, rfl, ys, h1, h2, h3⟩
      rw [← e2]
      exact q
    · rintro ⟨⟨a, ex⟩, q⟩
      subst ex
      refine ⟨a, rfl, ?_⟩
      have e2 : (fun (y : V) (H2 : Hp) => asRef y fun p => ∃ ys : List Str, (SqL X.K H2 p (ys.map V.str) ∨ SqT X.K H2 p (ys.map V.str)) ∧ (ys.map (·.length)).sum + ys.length * a.length ≤ 16777216 ∧ Q (.str (Txt.join a ys)) H2) =
          fun y H2 => ∃ a' p, ∃ ys : List Str, V.str a = .str a' ∧ [y] = [V.ref p] ∧ (SqL X.K H2 p (ys.map V.str) ∨ SqT X.K H2 p (ys.map V.str)) ∧ (ys.map (·.length)).sum + ys.length * a'.length ≤ 16777216 ∧ Q (.str (Txt.join a' ys)) H2 := by
        funext y H2
        rw [asRef_ex]
        apply propext
        constructor
        · rintro ⟨p, ey, ys, h1, h2, h3⟩
          subst ey
          exact ⟨a, p, ys, rfl, rfl, h1, h2, h3⟩
        · rintro ⟨a', p, ys, ea, ey, h1, h2, h3⟩
          cases ea
          cases ey
          exact ⟨p, rfl, ys, h1, h2, h3⟩
      rw [e2]
      exact q
  rw [e1] at h'
  exact h'
theorem join_one (a : Str) : Txt.join (st []) [a] = a := by
  have h := join_txt [a.cps.toList]
  simpa [st_codes] using h
theorem same_grow {H H' : Hp} {a : Addr} {o : HO} (s : Same H H') (h : H a = none) : Same H (upd H' a o) := fun b u e => by
  rw [upd_ne (ne_of_none e h)]
  exact s b u e

/-! ### dicts walked -/
theorem lock_same {H H' : Hp} {d : Addr} {u : HO} {od : Obj} (h : H d = some u) (s : Same (upd H d (.frz od u)) H') : Same H (upd H' d u) := fun b o e => by
  by_cases z : b = d
  · subst z
    rw [upd_same, ← h, e]
  · rw [upd_ne z]
    exact s b o (by rw [upd_ne z]; exact e)
theorem lock_get {H' : Hp} {d a : Addr} {u o : HO} {od : Obj} (hd : H' d = some (.frz od u)) (h : H' a = some o) (hn : ∀ o' u', o ≠ .frz o' u') : upd H' d u a = some o := by
  rw [upd_ne (fun z => by
    rw [z, hd] at h
    exact hn _ _ (Option.some.inj h).symm)]
  exact h
theorem walk_keysL {d : Addr} {o : Obj} {kvs : List (Key × V)} : Walk (Itk d o kvs) kvs.length (fun H => H d = some (.frz o (.dK kvs))) (fun i H x H' => H' = H ∧ x = (kvs.map fun kv => kV kv.1).getD i .non) :=
  ⟨fun _ _ hi q => ⟨q, hi⟩, fun _ q => ⟨q, Nat.le_refl _⟩, fun i _ _ _ _ _ y => by
    obtain ⟨e, k, v, h1, h2⟩ := y
    refine ⟨e, ?_⟩
    rw [List.getD_eq_getElem?_getD, List.getElem?_map, h1, h2]
    rfl⟩
theorem range_fm {α β : Type} (f : α → Option β) : ∀ (l : List α) (g : Nat → Option β), (∀ i (h : i < l.length), g i = f l[i]) → (List.range l.length).filterMap g = l.filterMap f := by
  intro l
  induction l with
  | nil => intro g _; rfl
  | cons a r ih =>
    intro g h
    rw [List.length_cons, List.range_succ_eq_map, List.filterMap_cons, List.filterMap_cons, List.filterMap_map]
    rw [h 0 (by simp)]
    have := ih (g ∘ Nat.succ) (fun i hi => h (i + 1) (by simpa using hi))
    show (match f a with | none => _ | some b => b :: _) = _
    cases f a <;> simp [this]
/-- [e for k in d if t] over a locked dict -/
theorem lc_keysK {α : Type} {l : List α} {key : α → Key} {val : α → V} {d : Addr} {o : Obj} {s : Nat} {tt : TT} {te : TE} {σ : L2.St} {D : Addr} {H1 : Hp} {Qd : Hp → Prop} (f : α → Option V) (hk : H1 d = some (.frz o (.dK (l.map fun i => (key i, val i))))) (hD : H1 D = none) (hn : l.length < 16777216)
    (hs : ∀ (a : α) (H : Hp), a ∈ l → Same H1 H → ∀ (Ny : V → Hp → Prop) (Nn : Hp → Prop), (∀ y H4, Same H H4 → f a = some y → Ny y H4) → (∀ H3, Same H H3 → f a = none → Nn H3) → tt (σ.set s (some (kV (key a)))) H fun b H3 => br b (te (σ.set s (some (kV (key a)))) H3 Ny) (Nn H3))
    (hd : ∀ H, Same H1 H → H D = some (.lst (l.filterMap f)) → Qd H) : lcW (Itk d o (l.map fun i => (key i, val i))) (gName s) tt te [s] σ D H1 Qd := by
  have hlen : (l.map fun i => (key i, val i)).length = l.length := List.length_map _
  have hg : ∀ i (h : i < l.length), ((l.map fun i => (key i, val i)).map fun kv => kV kv.1).getD i .non = kV (key l[i]) := fun i h => by
    rw [List.getD_eq_getElem?_getD, List.getElem?_map, List.getElem?_map, List.getElem?_eq_getElem h]
    rfl
  refine lc_gen (n := (l.map fun i => (key i, val i)).length) walk_keysL (fun i => if h : i < l.length then f l[i] else none) hD (by rw [hlen]; exact hn) (fun H s4 => s4 _ _ hk) (fun i H hi sm Ny Nn h1 h2 => ?_) (fun H sm h => hd H sm ?_)
  · rw [hlen] at hi
    rw [hg i hi]
    refine hs l[i] H (List.getElem_mem hi) sm Ny Nn (fun y H4 s4 e => h1 y H4 s4 (by rw [dif_pos hi]; exact e)) (fun H3 s3 e => h2 H3 s3 (by rw [dif_pos hi]; exact e))
  · rw [h, hlen]
    rw [range_fm f l _ (fun i hi => by rw [dif_pos hi])]

theorem flatB_of {v : V} (h : plainV v = true) : (∃ i, v = V.int i) ∨ ∃ s, v = V.str s := by
  cases v <;> first | (cases h; done) | skip
  · exact .inl ⟨_, rfl⟩
  · exact .inr ⟨_, rfl⟩
theorem plain_ints (ns : List Nat) : ((ns.map natV)).all plainV = true := plain_nat ns

theorem frMade {H H1 : Hp} {x dx C : Addr} {F : List Addr} (nx : H x = none) (ndx : H dx = none) (hF : ∀ a ∈ F, a = x) (s : Fr F (upd (upd H dx (.own x)) x (.ins C dx [])) H1) : Fr [] H H1 := by
  have s0 : Same H (upd (upd H dx (.own x)) x (.ins C dx [])) := same_grow (same_new ndx) nx
  have t0 : Fr F H (upd (upd H dx (.own x)) x (.ins C dx [])) := frS s0
  have t1 := t0.trans s
  exact ⟨fun b o hb _ n => t1.keep b o hb (fun z => by rw [hF b z, nx] at hb; cases hb) n, t1.tabs, t1.live⟩
theorem made_none {H : Hp} {x dx C a : Addr} (nx : H x = none) (ndx : H dx = none) (h : upd (upd H dx (.own x)) x (.ins C dx []) a = none) : H a = none := (same_grow (same_new ndx) nx : Same H _).free h
theorem sqlFr {K : PySem.W.Frag} {F : List Addr} {H H' : Hp} {a : Addr} {xs : List V} (h : SqL K H a xs) (s : Fr F H H') (n : a ∉ F) : SqL K H' a xs := by
  rcases h with h | h
  · left
    rcases h with h | ⟨o, h⟩
    · exact .inl (s.keep _ _ h n rfl)
    · exact .inr ⟨o, s.keep _ _ h n rfl⟩
  · exact .inr h

theorem brT_join {b : Bool} {tA tB : TT} {σ : L2.St} {H : Hp} {R : Bool → Hp → Prop} (P : Bool → Hp → Prop) (hk : ∀ c H, P c H → R c H) (h : ∀ R' : Bool → Hp → Prop, (∀ c H, P c H → R' c H) → brT b tA tB σ H R') : brT b tA tB σ H R := h R hk
theorem brE_join {b : Bool} {tA tB : TE} {σ : L2.St} {H : Hp} {Q : VK} (P : V → Hp → Prop) (hk : ∀ c H, P c H → Q c H) (h : ∀ Q' : VK, (∀ c H, P c H → Q' c H) → brE b tA tB σ H Q') : brE b tA tB σ H Q := h Q hk
end Y
set_option Elab.async false
set_option linter.all false
set_option maxRecDepth 100000
/-! Mathematics without Python: lists of pairs as dicts, the stock. -/
namespace Y
open PySem PySem.Spec PyProof.Rows L2

/-! ### a dict made of a list -/
section
variable {α κ : Type} [DecidableEq κ] {key : α → κ} {val : α → V} {k : κ} {v : V}
def mp (key : α → κ) (val : α → V) (l : List α) : List (κ × V) := l.map fun i => (key i, val i)
theorem valV_mp : ∀ l : List α, valV (mp key val l) k = (l.find? fun i => decide (key i = k)).map val
  | [] => rfl
  | a :: r => by
    have ih := valV_mp r
    by_cases e : key a = k
    · rw [List.find?_cons_of_pos (by simpa using e)]
      exact valV_pos (p := (key a, val a)) (r := mp key val r) e
    · rw [List.find?_cons_of_neg (by simpa using e), ← ih]
      exact valV_neg (p := (key a, val a)) (r := mp key val r) e
theorem putK_mp_new {l : List α} (h : (l.find? fun i => decide (key i = k)) = none) : putK (mp key val l) k v = mp key val l ++ [(k, v)] := putK_new _ (by rw [valV_mp, h]; rfl)
theorem any_of_val {kvs : List (κ × V)} {x : V} (h : valV kvs k = some x) : (kvs.any fun kv => decide (kv.1 = k)) = true := by rw [valV_any, h]; rfl
theorem putK_at {kvs : List (κ × V)} {x : V} (h : valV kvs k = some x) : putK kvs k v = kvs.map fun kv => if kv.1 = k then (kv.1, v) else kv := by
  unfold putK
  rw [if_pos (any_of_val h)]
theorem putK_mp_at {l : List α} {i : α} (h : (l.find? fun i => decide (key i = k)) = some i) : putK (mp key val l) k v = mp key (fun i => if key i = k then v else val i) l := by
  rw [putK_at (x := val i) (by rw [valV_mp, h]; rfl)]
  unfold mp
  rw [List.map_map]
  apply List.map_congr_left
  intro j _
  show (if key j = k then (key j, v) else (key j, val j)) = _
  by_cases e : key j = k
  · simp [e]
  · simp [e]
theorem dropK_mp (l : List α) : dropK (mp key val l) k = mp key val (l.filter fun i => decide (key i ≠ k)) := by
  unfold dropK mp
  rw [List.filter_map]
  rfl
theorem mp_keys (l : List α) : (mp key val l).map (·.1) = l.map key := by
  unfold mp
  rw [List.map_map]
  rfl
theorem mp_len (l : List α) : (mp key val l).length = l.length := List.length_map _
theorem mp_snoc (l : List α) (a : α) : mp key val (l ++ [a]) = mp key val l ++ [(key a, val a)] := by
  unfold mp
  rw [List.map_append]
  rfl
theorem mp_map {β : Type} (f : β → α) (l : List β) : mp key val (l.map f) = mp (fun b => key (f b)) (fun b => val (f b)) l := by
  unfold mp
  rw [List.map_map]
  rfl
theorem mp_congr {key' : α → κ} {val' : α → V} {l : List α} (h : ∀ a ∈ l, key a = key' a ∧ val a = val' a) : mp key val l = mp key' val' l := by
  unfold mp
  apply List.map_congr_left
  intro a ha
  rw [(h a ha).1, (h a ha).2]
end
theorem find_inj {α κ : Type} [DecidableEq κ] {key : α → κ} : ∀ {l : List α} {a : α}, (l.map key).Nodup → a ∈ l → (l.find? fun i => decide (key i = key a)) = some a
  | [], _, _, h => by cases h
  | b :: r, a, nd, h => by
    rw [List.map_cons, List.nodup_cons] at nd
    rcases List.mem_cons.mp h with e | h
    · subst e
      exact List.find?_cons_of_pos (by simp)
    · rw [List.find?_cons_of_neg]
      · exact find_inj nd.2 h
      · intro z
        have z' : key b = key a := by simpa using z
        exact nd.1 (List.mem_map.mpr ⟨a, h, z'.symm⟩)
theorem find_mem {α κ : Type} [DecidableEq κ] {key : α → κ} {l : List α} {k : κ} {a : α} (h : (l.find? fun i => decide (key i = k)) = some a) : a ∈ l ∧ key a = k :=
  ⟨List.mem_of_find?_eq_some h, by simpa using List.find?_some h⟩
theorem find_no {α κ : Type} [DecidableEq κ] {key : α → κ} {l : List α} {k : κ} : (l.find? fun i => decide (key i = k)) = none ↔ ∀ a ∈ l, key a ≠ k := by
  rw [List.find?_eq_none]
  constructor
  · intro h a ha e
    exact h a ha (by simpa using e)
  · intro h a ha e
    exact h a ha (by simpa using e)
theorem filter_none {α : Type} {p : α → Bool} {l : List α} (h : ∀ a ∈ l, p a = true) : l.filter p = l := List.filter_eq_self.mpr h
theorem nodup_inj {α β : Type} {f : α → β} {l : List α} (nd : (l.map f).Nodup) {a b : α} (ha : a ∈ l) (hb : b ∈ l) (e : f a = f b) : a = b := by
  induction l with
  | nil => cases ha
  | cons c r ih =>
    rw [List.map_cons, List.nodup_cons] at nd
    rcases List.mem_cons.mp ha with e1 | ha1
    · rcases List.mem_cons.mp hb with e2 | hb1
      · rw [e1, e2]
      · exact (nd.1 (List.mem_map.mpr ⟨b, hb1, by rw [← e1, e]⟩)).elim
    · rcases List.mem_cons.mp hb with e2 | hb1
      · exact (nd.1 (List.mem_map.mpr ⟨a, ha1, by rw [← e2, e]⟩)).elim
      · exact ih nd.2 ha1 hb1
/-- ints in order, one way alone -/
theorem perm_sorted {l m : List Int} (h : l.Perm m) (hl : l.Pairwise (· ≤ ·)) (hm : m.Pairwise (· ≤ ·)) : l = m := h.eq_of_pairwise (fun _ _ _ _ h1 h2 => Int.le_antisymm h1 h2) hl hm

/-! ### the stock -/
/-- a piece: its number, its text, its count -/
structure Pc where
  num : Nat
  txt : List Nat
  cnt : Nat
structure StM where
  last : Nat
  its : List Pc
def Pc.ik (i : Pc) : Key := Sum.inl (i.num : Int)
def Pc.tk (i : Pc) : Key := Sum.inr (st i.txt)
theorem Pc.ik_inj {i : Pc} {n : Nat} : i.ik = Sum.inl (n : Int) ↔ i.num = n := by
  unfold Pc.ik
  constructor
  · intro h
    have := Sum.inl.inj h
    omega
  · intro h
    rw [h]
theorem Pc.tk_inj {i : Pc} {t : List Nat} : i.tk = Sum.inr (st t) ↔ i.txt = t := by
  unfold Pc.tk
  constructor
  · intro h
    exact st_inj.mp (Sum.inr.inj h)
  · intro h
    rw [h]
structure StM.Ok (S : StM) : Prop where
  asc : (S.its.map (·.num)).Pairwise (· < ·)
  pos : ∀ i ∈ S.its, 1 ≤ i.num ∧ i.num ≤ S.last
  ntx : (S.its.map (·.txt)).Nodup
  cnt : ∀ i ∈ S.its, 1 ≤ i.cnt
def StM.byN (S : StM) (n : Int) : Option Pc := S.its.find? fun i => decide (i.ik = Sum.inl n)
def StM.byT (S : StM) (t : List Nat) : Option Pc := S.its.find? fun i => decide (i.tk = Sum.inr (st t))
def StM.put (S : StM) (n : Nat) (t : List Nat) (c : Nat) : StM := ⟨S.last, S.its ++ [⟨n, t, c⟩]⟩
/-- the counts at a number changed -/
def StM.at (S : StM) (n : Nat) (d : Nat → Nat) : StM := ⟨S.last, S.its.map fun i => if i.num = n then ⟨i.num, i.txt, d i.cnt⟩ else i⟩
def StM.out (S : StM) (n : Nat) : StM := ⟨S.last, S.its.filter fun i => decide (i.num ≠ n)⟩
def StM.need (S : StM) (t : List Nat) : StM × Nat := match S.byT t with
  | some i => (S.at i.num (· + 1), i.num)
  | none => (StM.at ⟨S.last + 1, S.its ++ [⟨S.last + 1, t, 0⟩]⟩ (S.last + 1) (· + 1), S.last + 1)
def StM.free (S : StM) (i : Pc) : StM := if i.cnt = 1 then (S.at i.num (· - 1)).out i.num else S.at i.num (· - 1)
theorem asc_nodup {l : List Nat} (h : l.Pairwise (· < ·)) : l.Nodup := h.imp fun h => Nat.ne_of_lt h
theorem StM.Ok.nn {S : StM} (h : S.Ok) : (S.its.map (·.num)).Nodup := asc_nodup h.asc
theorem StM.Ok.nk {S : StM} (h : S.Ok) : (S.its.map Pc.ik).Nodup := by
  have := h.nn
  rw [List.nodup_iff_pairwise_ne, List.pairwise_map] at this ⊢
  exact this.imp fun {a b} h e => h (by
    unfold Pc.ik at e
    have := Sum.inl.inj e
    omega)
theorem StM.Ok.nt {S : StM} (h : S.Ok) : (S.its.map Pc.tk).Nodup := by
  have := h.ntx
  rw [List.nodup_iff_pairwise_ne, List.pairwise_map] at this ⊢
  exact this.imp fun {a b} h e => h (st_inj.mp (Sum.inr.inj e))
theorem StM.byN_some {S : StM} {n : Int} {i : Pc} (h : S.byN n = some i) : i ∈ S.its ∧ (i.num : Int) = n := by
  obtain ⟨h1, h2⟩ := find_mem h
  exact ⟨h1, Sum.inl.inj h2⟩
theorem StM.byT_some {S : StM} {t : List Nat} {i : Pc} (h : S.byT t = some i) : i ∈ S.its ∧ i.txt = t := by
  obtain ⟨h1, h2⟩ := find_mem h
  exact ⟨h1, Pc.tk_inj.mp h2⟩
theorem StM.byN_of {S : StM} (h : S.Ok) {i : Pc} (m : i ∈ S.its) : S.byN i.num = some i := find_inj (key := Pc.ik) h.nk m
theorem StM.byT_of {S : StM} (h : S.Ok) {i : Pc} (m : i ∈ S.its) : S.byT i.txt = some i := find_inj (key := Pc.tk) h.nt m
theorem StM.byN_none {S : StM} {n : Int} (h : S.byN n = none) : ∀ i ∈ S.its, (i.num : Int) ≠ n := fun i hi e => find_no.mp h i hi (by unfold Pc.ik; rw [e])
theorem StM.byT_none {S : StM} {t : List Nat} (h : S.byT t = none) : ∀ i ∈ S.its, i.txt ≠ t := fun i hi e => find_no.mp h i hi (Pc.tk_inj.mpr e)
theorem at_num (S : StM) (n : Nat) (d : Nat → Nat) : (S.at n d).its.map (·.num) = S.its.map (·.num) := by
  unfold StM.at
  rw [List.map_map]
  apply List.map_congr_left
  intro i _
  show (if i.num = n then _ else i : Pc).num = i.num
  split <;> rfl
theorem at_txt (S : StM) (n : Nat) (d : Nat → Nat) : (S.at n d).its.map (·.txt) = S.its.map (·.txt) := by
  unfold StM.at
  rw [List.map_map]
  apply List.map_congr_left
  intro i _
  show (if i.num = n then _ else i : Pc).txt = i.txt
  split <;> rfl
theorem mem_at {S : StM} {n : Nat} {d : Nat → Nat} {i : Pc} (h : i ∈ (S.at n d).its) : ∃ j ∈ S.its, i.num = j.num ∧ i.txt = j.txt ∧ i.cnt = if j.num = n then d j.cnt else j.cnt := by
  obtain ⟨j, hj, e⟩ := List.mem_map.mp h
  refine ⟨j, hj, ?_⟩
  subst e
  split <;> simp_all
theorem StM.Ok.at {S : StM} (h : S.Ok) (n : Nat) (d : Nat → Nat) (hd : ∀ i ∈ S.its, i.num = n → 1 ≤ d i.cnt) : (S.at n d).Ok := by
  refine ⟨by rw [at_num]; exact h.asc, fun i hi => ?_, by rw [at_txt]; exact h.ntx, fun i hi => ?_⟩
  · obtain ⟨j, hj, e1, _, _⟩ := mem_at hi
    rw [e1]
    exact h.pos j hj
  · obtain ⟨j, hj, e1, _, e2⟩ := mem_at hi
    rw [e2]
    split
    · rename_i z
      exact hd j hj z
    · exact h.cnt j hj
theorem StM.Ok.add {S : StM} (h : S.Ok) {t : List Nat} (hn : S.byT t = none) (c : Nat) (hc : 1 ≤ c) : (StM.mk (S.last + 1) (S.its ++ [⟨S.last + 1, t, c⟩])).Ok := by
  refine ⟨?_, fun i hi => ?_, ?_, fun i hi => ?_⟩
  · show ((S.its ++ [(⟨S.last + 1, t, c⟩ : Pc)]).map (·.num)).Pairwise (· < ·)
    rw [List.map_append, List.pairwise_append]
    refine ⟨h.asc, List.pairwise_singleton _ _, fun (a : Nat) ha (b : Nat) hb => ?_⟩
    obtain ⟨i, hi, e⟩ := List.mem_map.mp ha
    have hb' : b = S.last + 1 := by simpa using hb
    have := (h.pos i hi).2
    omega
  · rcases List.mem_append.mp hi with hi | hi
    · have := h.pos i hi
      exact ⟨this.1, Nat.le_succ_of_le this.2⟩
    · have e : i = ⟨S.last + 1, t, c⟩ := by simpa using hi
      subst e
      exact ⟨Nat.succ_pos _, Nat.le_refl _⟩
  · show ((S.its ++ [(⟨S.last + 1, t, c⟩ : Pc)]).map (·.txt)).Nodup
    rw [List.map_append, List.nodup_append]
    refine ⟨h.ntx, by simp, fun (a : List Nat) ha (b : List Nat) hb e => ?_⟩
    obtain ⟨i, hi, e2⟩ := List.mem_map.mp ha
    have hb' : b = t := by simpa using hb
    exact StM.byT_none hn i hi (by rw [e2, e, hb'])
  · rcases List.mem_append.mp hi with hi | hi
    · exact h.cnt i hi
    · have e : i = ⟨S.last + 1, t, c⟩ := by simpa using hi
      subst e
      exact hc
theorem nn_add {S : StM} (h : S.Ok) {t : List Nat} (hn : S.byT t = none) : ((S.its ++ [(⟨S.last + 1, t, 0⟩ : Pc)]).map (·.num)).Nodup := by
  have := (h.add hn 1 (Nat.le_refl _)).nn
  rw [List.map_append] at this ⊢
  exact this
theorem at_add {S : StM} (h : S.Ok) (t : List Nat) : StM.at ⟨S.last + 1, S.its ++ [⟨S.last + 1, t, 0⟩]⟩ (S.last + 1) (· + 1) = ⟨S.last + 1, S.its ++ [⟨S.last + 1, t, 1⟩]⟩ := by
  unfold StM.at
  rw [List.map_append]
  congr 2
  · conv => rhs; rw [← List.map_id S.its]
    apply List.map_congr_left
    intro i hi
    have := (h.pos i hi).2
    rw [if_neg (by omega)]
    rfl
  · simp
theorem byT_add {S : StM} {t : List Nat} {n c g : Nat} (h : S.byT t = none) : StM.byT ⟨g, S.its ++ [⟨n, t, c⟩]⟩ t = some ⟨n, t, c⟩ := by
  unfold StM.byT
  rw [List.find?_append]
  have h' : S.its.find? (fun i => decide (i.tk = Sum.inr (st t))) = none := h
  show (S.its.find? (fun i => decide (i.tk = Sum.inr (st t)))).or _ = _
  rw [h', Option.none_or]
  exact List.find?_cons_of_pos (by simp [Pc.tk])
theorem byN_add {S : StM} {t : List Nat} {n c g : Nat} (h : S.byN n = none) : StM.byN ⟨g, S.its ++ [⟨n, t, c⟩]⟩ n = some ⟨n, t, c⟩ := by
  unfold StM.byN
  rw [List.find?_append]
  have h' : S.its.find? (fun i => decide (i.ik = Sum.inl (n : Int))) = none := h
  show (S.its.find? (fun i => decide (i.ik = Sum.inl (n : Int)))).or _ = _
  rw [h', Option.none_or]
  exact List.find?_cons_of_pos (by simp [Pc.ik])
theorem StM.Ok.fresh {S : StM} (h : S.Ok) : S.byN ((S.last + 1 : Nat) : Int) = none := find_no.mpr fun i hi e => by
  have := (h.pos i hi).2
  have e' := Pc.ik_inj.mp e
  omega
theorem StM.Ok.need {S : StM} (h : S.Ok) (t : List Nat) : (S.need t).1.Ok := by
  unfold StM.need
  split
  · exact h.at _ _ fun i _ _ => Nat.succ_pos _
  · rename_i e
    rw [at_add h]
    exact h.add e 1 (Nat.le_refl _)
theorem StM.Ok.out {S : StM} (h : S.Ok) (n : Nat) : (S.out n).Ok := by
  have sub : (S.out n).its.Sublist S.its := List.filter_sublist
  exact ⟨h.asc.sublist (sub.map _), fun i hi => h.pos i (sub.subset hi), h.ntx.sublist (sub.map _), fun i hi => h.cnt i (sub.subset hi)⟩
theorem out_at (S : StM) (n : Nat) (d : Nat → Nat) : (S.at n d).out n = S.out n := by
  unfold StM.out StM.at
  congr 1
  rw [List.filter_map]
  have : S.its.filter ((fun i => decide (i.num ≠ n)) ∘ fun i => if i.num = n then ⟨i.num, i.txt, d i.cnt⟩ else i) = S.its.filter fun i => decide (i.num ≠ n) := by
    apply List.filter_congr
    intro i _
    show decide ((if i.num = n then _ else i : Pc).num ≠ n) = _
    split <;> rfl
  rw [this]
  conv => rhs; rw [← List.map_id (S.its.filter _)]
  apply List.map_congr_left
  intro i hi
  have := of_decide_eq_true (List.mem_filter.mp hi).2
  rw [if_neg this]
  rfl
theorem StM.Ok.free {S : StM} (h : S.Ok) {i : Pc} (hi : i ∈ S.its) : (S.free i).Ok := by
  unfold StM.free
  split
  · rw [out_at]
    exact h.out _
  · rename_i hc
    refine h.at _ _ fun j hj e => ?_
    have e2 : j = i := nodup_inj h.nn hj hi e
    rw [e2]
    have := h.cnt i hi
    omega
end Y
namespace Y
open PySem PySem.Spec PyProof.Rows L2
/-! ### the stock in the heap -/
structure StR where
  k : Addr
  dx : Addr
  t : Addr
  c : Addr
  n : Addr
def stF (g : Int) (t c n : Addr) : List (Str × V) := [("greatest", .int g), ("_texts", .ref t), ("_counts", .ref c), ("_numbers", .ref n)]
theorem nm1 : ¬ (("greatest" : Str) = "_texts") := by decide +kernel
theorem nm2 : ¬ (("greatest" : Str) = "_counts") := by decide +kernel
theorem nm3 : ¬ (("greatest" : Str) = "_numbers") := by decide +kernel
theorem nm4 : ¬ (("_texts" : Str) = "_counts") := by decide +kernel
theorem nm5 : ¬ (("_texts" : Str) = "_numbers") := by decide +kernel
theorem nm6 : ¬ (("_counts" : Str) = "_numbers") := by decide +kernel
section
variable {g : Int} {t c n : Addr} {K : PySem.W.Frag} {mg : Str → Option Value} {H : Hp} {k C dx : Addr}
theorem look_ne {f g : Str} {v : V} {r : List (Str × V)} (h : ¬ f = g) : List.lookup f ((g, v) :: r) = List.lookup f r := by
  have hb : (f == g) = false := beq_eq_false_iff_ne.mpr h
  simp only [List.lookup, hb]
theorem look_eq {f : Str} {v : V} {r : List (Str × V)} : List.lookup f ((f, v) :: r) = some v := by simp [List.lookup]
theorem put_ne {f g : Str} {v x : V} {r : List (Str × V)} (h : ¬ g = f) : putF f v ((g, x) :: r) = (g, x) :: putF f v r := by
  show (if g = f then _ else _) = _
  rw [if_neg h]
theorem put_eq {f : Str} {v x : V} {r : List (Str × V)} : putF f v ((f, x) :: r) = (f, v) :: r := by
  show (if f = f then _ else _) = _
  rw [if_pos rfl]
theorem put_nil {f : Str} {v : V} : putF f v [] = [(f, v)] := rfl
theorem stF_g : (stF g t c n).lookup ("greatest" : Str) = some (.int g) := look_eq
theorem stF_t : (stF g t c n).lookup ("_texts" : Str) = some (.ref t) := by
  unfold stF
  rw [look_ne (Ne.symm nm1), look_eq]
theorem stF_c : (stF g t c n).lookup ("_counts" : Str) = some (.ref c) := by
  unfold stF
  rw [look_ne (Ne.symm nm2), look_ne (Ne.symm nm4), look_eq]
theorem stF_n : (stF g t c n).lookup ("_numbers" : Str) = some (.ref n) := by
  unfold stF
  rw [look_ne (Ne.symm nm3), look_ne (Ne.symm nm5), look_ne (Ne.symm nm6), look_eq]
theorem stF_m {m : Str} (h : ¬ m = "greatest" ∧ ¬ m = "_texts" ∧ ¬ m = "_counts" ∧ ¬ m = "_numbers") : (stF g t c n).lookup m = none := by
  unfold stF
  rw [look_ne h.1, look_ne h.2.1, look_ne h.2.2.1, look_ne h.2.2.2]
  rfl
theorem stF_put {z : Int} : putF "greatest" (.int z) (stF g t c n) = stF z t c n := put_eq
theorem stF_mk : putF "_numbers" (.ref n) (putF "_counts" (.ref c) (putF "_texts" (.ref t) (putF "greatest" (.int g) []))) = stF g t c n := by
  rw [put_nil, put_ne nm1, put_nil, put_ne nm2, put_ne nm4, put_nil, put_ne nm3, put_ne nm5, put_ne nm6, put_nil]
  rfl
end
structure StAt (C : Addr) (H : Hp) (r : StR) (S : StM) : Prop where
  ob : H r.k = some (.ins C r.dx (stF S.last r.t r.c r.n))
  tx : H r.t = some (.dK (mp Pc.ik (fun i => txtV i.txt) S.its))
  ct : H r.c = some (.dK (mp Pc.ik (fun i => .int (i.cnt : Int)) S.its))
  nm : H r.n = some (.dK (mp Pc.tk (fun i => .int (i.num : Int)) S.its))
  ne : r.t ≠ r.c ∧ r.t ≠ r.n ∧ r.c ≠ r.n
def StR.F (r : StR) : List Addr := [r.k, r.t, r.c, r.n]
section
variable {C : Addr} {H H' : Hp} {r : StR} {S : StM} {F : List Addr}
theorem StAt.kt (h : StAt C H r S) : r.k ≠ r.t := ne_of h.ob h.tx (by intro z; cases z)
theorem StAt.kc (h : StAt C H r S) : r.k ≠ r.c := ne_of h.ob h.ct (by intro z; cases z)
theorem StAt.kn (h : StAt C H r S) : r.k ≠ r.n := ne_of h.ob h.nm (by intro z; cases z)
theorem StAt.fr (h : StAt C H r S) (s : Fr F H H') (d : ∀ a ∈ r.F, a ∉ F) : StAt C H' r S :=
  ⟨s.keep _ _ h.ob (d _ (by simp [StR.F])) rfl, s.keep _ _ h.tx (d _ (by simp [StR.F])) rfl, s.keep _ _ h.ct (d _ (by simp [StR.F])) rfl, s.keep _ _ h.nm (d _ (by simp [StR.F])) rfl, h.ne⟩
theorem StAt.same (h : StAt C H r S) (s : Same H H') : StAt C H' r S := h.fr (F := []) (frS s) (fun _ _ => List.not_mem_nil)
theorem StAt.live (h : StAt C H r S) {a : Addr} (ha : a ∈ r.F) : H a ≠ none := by
  simp only [StR.F, List.mem_cons, List.not_mem_nil, or_false] at ha
  rcases ha with e | e | e | e <;> rw [e]
  · rw [h.ob]; intro z; cases z
  · rw [h.tx]; intro z; cases z
  · rw [h.ct]; intro z; cases z
  · rw [h.nm]; intro z; cases z
end
/-- the number that a value names -/
def StM.find (S : StM) : V → Option Pc
  | .int i => S.byN i
  | _ => none
def isI : V → Bool
  | .int _ => true
  | _ => false
theorem StM.find_some {S : StM} {v : V} {i : Pc} (h : S.find v = some i) : v = .int (i.num : Int) ∧ i ∈ S.its := by
  cases v <;> first | (cases h; done) | skip
  rename_i n
  obtain ⟨h1, h2⟩ := StM.byN_some (show S.byN n = some i from h)
  exact ⟨by rw [h2], h1⟩
end Y
namespace Y
open PySem PySem.Spec PyProof.Rows L2
theorem fm_one {β : Type} (g : Pc → β) : ∀ {l : List Pc} {i : Pc}, (l.map (·.txt)).Nodup → i ∈ l → l.filterMap (fun j => if j.txt = i.txt then some (g j) else none) = [g i]
  | [], _, _, h => by cases h
  | a :: r, i, nd, h => by
    rw [List.map_cons, List.nodup_cons] at nd
    rcases List.mem_cons.mp h with e | h
    · subst e
      rw [List.filterMap_cons, if_pos rfl]
      have : r.filterMap (fun j => if j.txt = i.txt then some (g j) else none) = [] := by
        rw [List.filterMap_eq_nil_iff]
        intro j hj
        rw [if_neg (fun e => nd.1 (List.mem_map.mpr ⟨j, hj, e⟩))]
      simp [this]
    · have ih := fm_one g nd.2 h
      rw [List.filterMap_cons, if_neg (fun e => nd.1 (List.mem_map.mpr ⟨i, h, e.symm⟩))]
      exact ih
theorem held_some {β : Type} (g : Pc → β) {S : StM} (ok : S.Ok) {t : List Nat} {i : Pc} (h : S.byT t = some i) : S.its.filterMap (fun j => if j.txt = t then some (g j) else none) = [g i] := by
  obtain ⟨h1, h2⟩ := StM.byT_some h
  subst h2
  exact fm_one g ok.ntx h1
theorem held_none {β : Type} (g : Pc → β) {S : StM} {t : List Nat} (h : S.byT t = none) : S.its.filterMap (fun j => if j.txt = t then some (g j) else none) = [] := by
  rw [List.filterMap_eq_nil_iff]
  intro j hj
  rw [if_neg (StM.byT_none h j hj)]
theorem need_old {S : StM} {t : List Nat} {i : Pc} (h : S.byT t = some i) : S.need t = (S.at i.num (· + 1), i.num) := by
  unfold StM.need
  rw [h]
theorem need_new {S : StM} (ok : S.Ok) {t : List Nat} (h : S.byT t = none) : S.need t = (⟨S.last + 1, S.its ++ [⟨S.last + 1, t, 1⟩]⟩, S.last + 1) := by
  unfold StM.need
  rw [h]
  show (StM.at ⟨S.last + 1, S.its ++ [⟨S.last + 1, t, 0⟩]⟩ (S.last + 1) (· + 1), S.last + 1) = _
  rw [at_add ok]
theorem mp_at_tx (S : StM) (n : Nat) (d : Nat → Nat) : mp Pc.ik (fun i => txtV i.txt) (S.at n d).its = mp Pc.ik (fun i => txtV i.txt) S.its := by
  unfold StM.at
  rw [mp_map]
  apply mp_congr
  intro j _
  split <;> exact ⟨rfl, rfl⟩
theorem mp_at_nm (S : StM) (n : Nat) (d : Nat → Nat) : mp Pc.tk (fun i => V.int (i.num : Int)) (S.at n d).its = mp Pc.tk (fun i => V.int (i.num : Int)) S.its := by
  unfold StM.at
  rw [mp_map]
  apply mp_congr
  intro j _
  split <;> exact ⟨rfl, rfl⟩
theorem mp_at_ct {S : StM} (nn : (S.its.map (·.num)).Nodup) {i : Pc} (hi : i ∈ S.its) (d : Nat → Nat) : mp Pc.ik (fun j => V.int (j.cnt : Int)) (S.at i.num d).its = putK (mp Pc.ik (fun j => V.int (j.cnt : Int)) S.its) (Sum.inl (i.num : Int)) (.int (d i.cnt : Nat)) := by
  have f : S.its.find? (fun j => decide (j.ik = Sum.inl (i.num : Int))) = some i := by
    refine find_inj (key := Pc.ik) ?_ hi
    rw [List.nodup_iff_pairwise_ne, List.pairwise_map] at nn ⊢
    exact nn.imp fun h e => h (by
      have := Sum.inl.inj e
      omega)
  rw [putK_mp_at f]
  unfold StM.at
  rw [mp_map]
  apply mp_congr
  intro j hj
  by_cases z : j.num = i.num
  · rw [if_pos z, if_pos (Pc.ik_inj.mpr z)]
    have e2 : j = i := nodup_inj nn hj hi z
    rw [e2]
    exact ⟨rfl, rfl⟩
  · rw [if_neg z, if_neg (fun e => z (Pc.ik_inj.mp e))]
    exact ⟨rfl, rfl⟩
theorem mp_out {κ : Type} [DecidableEq κ] {key : Pc → κ} {val : Pc → V} {S : StM} {i : Pc} (h : ∀ j ∈ S.its, key j = key i ↔ j.num = i.num) : mp key val (S.out i.num).its = dropK (mp key val S.its) (key i) := by
  rw [dropK_mp]
  unfold StM.out
  congr 1
  apply List.filter_congr
  intro j hj
  exact decide_eq_decide.mpr ⟨fun a b => a ((h j hj).mp b), fun a b => a ((h j hj).mpr b)⟩
end Y

namespace Y
open PySem PySem.Spec PyProof.Rows L2
/-! ### who owns an address: colours -/
/-- what is coloured stands -/
def Own (H : Hp) (g : Addr → Nat) : Prop := ∀ x, H x = none → g x = 0
def paint (g : Addr → Nat) (F : List Addr) (c : Nat) : Addr → Nat := fun x => if x ∈ F then c else g x
theorem paint_in {g : Addr → Nat} {F : List Addr} {c : Nat} {a : Addr} (h : a ∈ F) : paint g F c a = c := if_pos h
theorem paint_old {g : Addr → Nat} {F : List Addr} {c : Nat} {a : Addr} {H : Hp} (hF : ∀ x ∈ F, H x = none) (h : H a ≠ none) : paint g F c a = g a := if_neg fun z => h (hF a z)
theorem own0 {H : Hp} : Own H fun _ => 0 := fun _ _ => rfl
theorem Own.paint {H H' : Hp} {g : Addr → Nat} {F : List Addr} {c : Nat} (h : Own H g) (hl : ∀ a, H' a = none → H a = none) (hF : ∀ a ∈ F, H' a ≠ none) : Own H' (paint g F c) := fun x hx => by
  unfold Y.paint
  rw [if_neg fun z => hF x z hx]
  exact h x (hl x hx)
theorem Own.live {H H' : Hp} {g : Addr → Nat} (h : Own H g) (hl : ∀ a, H' a = none → H a = none) : Own H' g := fun x hx => h x (hl x hx)
theorem Own.ne {H : Hp} {g : Addr → Nat} (h : Own H g) {a x : Addr} (ha : g a ≠ 0) (hx : H x = none) : x ≠ a := fun z => ha (by rw [← z]; exact h x hx)
end Y

namespace Y
open PySem PySem.Spec PyProof.Rows L2
structure StNew (C : Addr) (H H' : Hp) (r : StR) : Prop where
  at_ : StAt C H' r ⟨0, []⟩
  fr : Fr [] H H'
  new : ∀ a ∈ r.F, H a = none
theorem st_new {C : Addr} {H H1 : Hp} {x dx : Addr} {r : StR} (nx : H x = none) (ndx : H dx = none) (ek : r.k = x) (t : upd (upd H dx (.own x)) x (.ins C dx []) r.t = none) (c : upd (upd H dx (.own x)) x (.ins C dx []) r.c = none) (n : upd (upd H dx (.own x)) x (.ins C dx []) r.n = none)
    (hS : StAt C H1 r ⟨0, []⟩) (s : Fr [x] (upd (upd H dx (.own x)) x (.ins C dx [])) H1) : StNew C H H1 r := by
  refine ⟨hS, frMade nx ndx (fun a ha => List.mem_singleton.mp ha) s, fun a ha => ?_⟩
  simp only [StR.F, List.mem_cons, List.not_mem_nil, or_false] at ha
  rcases ha with e | e | e | e <;> rw [e]
  · rw [ek]; exact nx
  · exact made_none nx ndx t
  · exact made_none nx ndx c
  · exact made_none nx ndx n
end Y

namespace Y
open PySem PySem.Spec PyProof.Rows L2
theorem cutV_take (xs : List V) (n : Nat) : cutV xs none (some (n : Int)) = xs.take n := by
  unfold cutV
  rw [HT.sIx_none, HT.sIx_nat]
  show (xs.drop 0).take (min n xs.length - 0) = _
  rw [List.drop_zero, Nat.sub_zero]
  by_cases h : n ≤ xs.length
  · rw [Nat.min_eq_left h]
  · rw [Nat.min_eq_right (by omega), List.take_of_length_le (Nat.le_refl _), List.take_of_length_le (by omega)]
end Y
set_option Elab.async false
set_option linter.all false
set_option maxRecDepth 100000
set_option maxHeartbeats 2000000
/-! Generator expressions over texts, lists, tuples: their elements may read what stands and call. -/
namespace Y
open PySem PySem.Spec PyProof.Rows L2 GxR
section
variable {X : Cx} {pins : List (Addr × Obj)} {σ : L2.St} {H : Hp} {s : Shared}
/-- what a walked value gives -/
def ItOf (prog : Program) (w : World) (A : Around) (E : Value → Shared → Prop) (xv : Value) (s1 : Shared) (P : Addr) (n : Nat) (Pv : Nat → Value → Prop) : Prop :=
  ∀ Q : Value → Shared → Prop, (∀ (o : Obj) (fp : List Addr) (St : Nat → Heap → Prop), (∀ A' : Around, A'.handled = none → Walks prog w A' s1.heap.objs.size fp [s1.heap.objs.size] n Pv St) → St 0 (s1.heap.push o) → (∀ b ∈ fp, b ≠ P ∧ b ≤ s1.heap.objs.size) →
    Q (.ref s1.heap.objs.size) { s1 with heap := s1.heap.push o }) → wpAny (model prog w) A (pyIter xv) Q E s1
/-- the element at a place, in the generator's frame -/
def EltG (X : Cx) (scope : Scope) (x : Str) (elt : Expr) (P : Addr) (s1 : Shared) (Pv F : Nat → Value → Prop) : Prop :=
  ∀ (cenv : Env) (A' : Around) (E' : Value → Shared → Prop) (i : Nat) (v : Value) (s₂ : Shared) (m₂ : Str → Option Value), cenv.scope = scope → cenv.globals = X.env.globals → cenv.builtins = builtinsNs → cenv.cells = cloFrom X.env.cells scope.names [] →
    A'.handled = none → A'.depth ≤ X.A.depth + 1 → A'.units ≤ X.A.units + 8 → Pv i v → s₂.heap.Ns cenv.locals m₂ → m₂ x = some v → (∀ b o, b ≠ P → s1.heap.get? b = some o → s₂.heap.get? b = some o) →
    wpAny (model X.prog X.w) A' (eval elt cenv) (fun y s₃ => F i y ∧ Keeps s₂ s₃) E' s₂
/-- the generator g, ready to be walked -/
def ReadyG (X : Cx) (pins : List (Addr × Obj)) (σ : L2.St) (H1 : Hp) (P : Addr) (n : Nat) (F : Nat → Value → Prop) (g : Addr) (s5 : Shared) : Prop :=
  ∃ (fp wr : List Addr) (G : Array GenState → Array GenState → Prop) (F' : Nat → Value → Prop) (St : Nat → Shared → Prop),
    WalksS X.prog X.w X.A.in1 g fp wr G n F' St ∧ St 0 s5 ∧ (∀ j y, F' j y → F j y) ∧
    ∀ s', Moved wr G s5 s' → ∃ H2, Tabbed P H1 H2 ∧ L2.Inv X pins σ H2 s'
theorem gen_any {c P : Addr} {elt iter : Expr} {x : Str} {px gpos : Pos} {scope : Scope} {k : Nat} {Q' : Value → Shared → Prop}
    (hr : Room k X.A) (TB : TabB X.base X.mg c P) (hcode : X.env.code = .ref c) (S : GenS X.env scope x)
    (hs : ∀ v, genFold iter X.env v = pure v) {R : Nat → (Nat → Value → Prop) → Hp → Prop}
    (h : wpAny (model X.prog X.w) X.A (eval iter X.env) (fun xv s1 => ∃ H1 n Pv F, L2.Inv X pins σ H1 s1 ∧ TabG H1 P ∧ ItOf X.prog X.w X.A X.xe xv s1 P n Pv ∧ EltG X scope x elt P s1 Pv F ∧ R n F H1) X.xe s)
    (hQ : ∀ n F H1 g s5, R n F H1 → ReadyG X pins σ H1 P n F g s5 → Q' (.ref g) s5) :
    wpAny (model X.prog X.w) X.A (eval (.GeneratorExp elt [⟨.Name x px, iter, [], 0⟩] scope gpos) X.env) Q' X.xe s := by
  refine wpAny_GeneratorExp_walksQD hr.hd S.co (closure_ok S.free) S.cell S.dot S.loc S.kind (by have := hr.dp; omega) ?_ hs
  refine thn h fun xv s1 ⟨H1, n, Pv, F, I1, ⟨ps, hP, ht⟩, hit, hel, q1⟩ => ?_
  refine hit _ fun o fp St W hst hfp0 => ?_
  have hPs : s1.heap.get? P = some { cls := .none, data := .fields ps } := I1.hok P _ hP
  have hPlt : P < s1.heap.objs.size := Heap.lt_size hPs
  have hP2 : (s1.heap.push o).get? P = some { cls := .none, data := .fields ps } := Heap.get?_push_of_some _ hPs
  have cd : PySem.W.CodeHd (s1.heap.push o) c P := TB.code.keeps fun b u e => Heap.get?_push_of_some _ (I1.bk b u e)
  have lim2 : (s1.heap.push o).NoLimit := I1.nolimit.push o
  have cont : ∀ (code : Value) (h3 : Heap) (tk : Nat) (ps' : Array Value), Heap.ExtBut P (s1.heap.push o) h3 → (s1.heap.push o).objs.size ≤ h3.objs.size → h3.get? P = some { cls := .none, data := .fields ps' } → (∃ more, ps' = ps ++ more) → TriplesOk ps'.toList →
      wpAny (model X.prog X.w) X.A (builtinsFor X.env.globals X.env.builtins) (fun bi s₄ =>
        ∃ Ia fp wr n₀ Pf St₀ pz F, Value.ref s1.heap.objs.size = .ref Ia ∧ (∀ A' : Around, A'.handled = none → Walks X.prog X.w A' Ia fp wr n₀ Pf St₀) ∧ St₀ 0 s₄.heap ∧ (∀ b ∈ fp, b < s₄.heap.objs.size) ∧ s₄.heap.NoLimit ∧ cStatics ∉ wr ∧
          (∀ href : Heap, (∀ b o, s₄.heap.get? b = some o → href.get? b = some o) →
            QuietGenD X.prog X.w (genEnv scope (cloFrom X.env.cells scope.names []) s₄.heap.objs.size code bi X.env) x [] elt (List.range s₄.heap.objs.size) wr Pf pz F href (X.A.depth + 1) (X.A.units + 8)) ∧
          (∀ a h₅ tk gs, gs.bare = true → s₄.heap.objs.size < a → h₅.objs.size = a + 1 → (∀ b o, s₄.heap.get? b = some o → h₅.get? b = some o) →
            WalksS X.prog X.w X.A.in4 a (a :: s₄.heap.objs.size :: List.range s₄.heap.objs.size) (s₄.heap.objs.size :: wr) (GenOnlyQ s₄.gens.size) (passing pz n₀ 0).length
              (fun j y => ∃ i, (passing pz n₀ 0)[j]? = some i ∧ F i y) (GenAt X.prog X.w X.A.in4 a s₄.gens.size s₄.heap.objs.size (List.range s₄.heap.objs.size) wr pz n₀ F) →
            GenAt X.prog X.w X.A.in4 a s₄.gens.size s₄.heap.objs.size (List.range s₄.heap.objs.size) wr pz n₀ F 0 { s₄ with gens := s₄.gens.push gs, toks := tk, heap := h₅ } →
            Q' (.ref a) { s₄ with gens := s₄.gens.push gs, toks := tk, heap := h₅ })) X.xe { s1 with heap := h3, toks := tk } := by
    intro code h3 tk ps' hx hsz hP3 hmore ht3
    obtain ⟨bm, ob, e1, e2, e3, e4, e5, e6, e7, e8⟩ := TB.bm
    have hcP : cStatics ≠ P := fun e => by
      obtain ⟨_, hns, _⟩ := I1.nolimit
      obtain ⟨o', es, ep, ho, hd, _⟩ := hns
      rw [e, hPs] at ho
      cases ho
      cases hd
    have hcl : cStatics < s1.heap.objs.size := let ⟨_, hns, _⟩ := I1.nolimit; hns.lt
    have sz2 : (s1.heap.push o).objs.size = s1.heap.objs.size + 1 := Heap.size_push ..
    have keep3 : ∀ b u, b ≠ P → s1.heap.get? b = some u → h3.get? b = some u := fun b u hb e => hx b u hb (Heap.get?_push_of_some _ e)
    refine wpAny_builtinsFor (m := X.mg) (by rw [I1.ok.glob]; exact ((I1.mod.glob.keeps I1.bk).push o).extBut hx TB.gP) e1 e2 (keep3 _ _ e4 (I1.bk _ _ e5)) e6 e7 e8 ?_
    refine ⟨s1.heap.objs.size, fp, [s1.heap.objs.size], n, Pv, St, (fun _ => true), F, rfl, W, ?_, ?_, lim2.extBut hx hcP, ?_, ?_, ?_⟩
    · exact (W X.A hr.hd).frame _ _ _ hst fun b hb u e => hx b u (hfp0 b hb).1 e
    · intro b hb
      exact Nat.lt_of_le_of_lt (hfp0 b hb).2 (by rw [sz2] at hsz; exact hsz)
    · intro z
      rcases List.mem_cons.mp z with z | z
      · exact Nat.ne_of_lt hcl z
      · cases z
    · intro href hhref
      refine ⟨fun A' E' i v s₂ m₂ hA _ _ hPv hn hm hk => ?_, fun A' E' i v s₂ m₂ hA hD hU hPv hp hn hm hk => ?_⟩
      · simp only [List.forIn_nil]
        exact wpAny_pure ⟨rfl, keeps_refl _⟩
      · refine hel _ A' E' i v s₂ m₂ rfl rfl rfl rfl hA hD hU hPv hn hm fun b u hb e => ?_
        have hlt := Heap.lt_size e
        have e3 := keep3 b u hb e
        exact hk b (List.mem_range.mpr (Heap.lt_size e3)) (fun z => Nat.ne_of_lt hlt (List.mem_singleton.mp z)) u (hhref b u e3)
    · intro g h5 tk5 gs hgb hag hsz5 hk5 W5 hat
      simp only [GxR.passing_true, List.length_range] at W5
      refine hQ n F H1 g _ q1 ⟨_, _, _, _, _, W5.in4_1, hat, ?_, fun s' hm => ?_⟩
      · rintro j y ⟨i, hij, hf⟩
        obtain ⟨hj, ej⟩ := List.getElem?_eq_some_iff.mp hij
        rw [List.getElem_range] at ej
        rw [ej]
        exact hf
      · obtain ⟨more, em⟩ := hmore
        have nwr : ∀ b u, s1.heap.get? b = some u → b ∉ h3.objs.size :: [s1.heap.objs.size] := fun b u e hb => by
          have hl := Heap.lt_size e
          rcases List.mem_cons.mp hb with z | z
          · rw [z] at hl
            have h9 : (h3.objs.size : Nat) < s1.heap.objs.size := hl
            omega
          · rcases List.mem_cons.mp z with z | z
            · rw [z] at hl
              exact Nat.lt_irrefl _ hl
            · cases z
        have J := inv_tab (more := more) (h' := s'.heap) (g' := s'.gens) (d' := s'.drawn) (t' := s'.toks) I1 hP (fun b u hb e => hm.heap b u (nwr b u e) (hk5 b u (keep3 b u hb e)))
          (by rw [← em]; exact hm.heap P _ (nwr P _ hPs) (hk5 P _ hP3)) (AllBare.movedS (I1.bare.push hgb) hm)
        rw [sh_eta s1 s' hm.os] at J
        refine ⟨upd H1 P (.tbl (ps ++ more)), ⟨⟨ps ++ more, upd_same, by rw [← em]; exact ht3⟩, fun b hb => upd_ne hb⟩, J⟩
  refine ⟨lim2, ?_⟩
  cases hf : codeAmong gpos ps.toList with
  | none =>
    refine wpAny_genexprCodeX hcode (cd.code hP2 ht) (cd.tab hP2) hf fun c' h' tk hx hge hlt hco' _ htab' _ => ?_
    obtain ⟨o1, vs, f1, tf, fl, tg, inF, tx, tt, op, _, _, _, _, _, _, _, _, _, htr, _⟩ := hco'
    exact cont _ h' tk _ hx (Nat.le_trans hge (Nat.le_of_lt hlt)) htab'.2 ⟨_, rfl⟩ htr
  | some cv =>
    refine wpAny_genexprCode_hit hcode (cd.code hP2 ht) hf ?_
    exact cont cv (s1.heap.push o) s1.toks ps (Heap.ExtBut.refl _ _) (Nat.le_refl _) hP2 ⟨#[], by simp⟩ ht

/-! ### what is walked -/
theorem it_str {a : Str} {t : Tok} {s1 : Shared} {P : Addr} (hP : P < s1.heap.objs.size) : ItOf X.prog X.w X.A X.xe (.str a t) s1 P a.cps.size (SignAt a) := fun Q q =>
  wpAny_pyIter_str fun o St W hst => q o _ St W hst fun b hb => by
    rw [List.mem_singleton.mp hb]
    exact ⟨Nat.ne_of_gt hP, Nat.le_refl _⟩
theorem it_list {l : Addr} {its : Array Value} {s1 : Shared} {P : Addr} (hP : P < s1.heap.objs.size) (hl : s1.heap.IsList l its) (hlP : l ≠ P) : ItOf X.prog X.w X.A X.xe (.ref l) s1 P its.size (fun i v => its[i]? = some v) := fun Q q => by
  have ll : l < s1.heap.objs.size := by obtain ⟨o, ho, _⟩ := hl; exact Heap.lt_size ho
  refine wpAny_pyIter_list hl (q _ _ _ (fun A' hA => Walks.list hA s1.heap.objs.size l (Nat.ne_of_lt ll) its) ⟨⟨_, Heap.get?_push_size _ rfl, rfl, rfl⟩, hl.push _⟩ fun b hb => ?_)
  rcases List.mem_cons.mp hb with e | hb
  · rw [e]
    exact ⟨Nat.ne_of_gt hP, Nat.le_refl _⟩
  · rw [List.mem_singleton.mp hb]
    exact ⟨hlP, Nat.le_of_lt ll⟩
theorem it_tup {l : Addr} {its : Array Value} {s1 : Shared} {P : Addr} (hP : P < s1.heap.objs.size) (hl : s1.heap.IsTuple l its) (hlP : l ≠ P) : ItOf X.prog X.w X.A X.xe (.ref l) s1 P its.size (fun i v => its[i]? = some v) := fun Q q => by
  have ll : l < s1.heap.objs.size := by obtain ⟨o, ho, _⟩ := hl; exact Heap.lt_size ho
  refine wpAny_pyIter_tuple hl (q _ _ _ (fun A' hA => Walks.tuple hA s1.heap.objs.size l (Nat.ne_of_lt ll) its) ⟨⟨_, Heap.get?_push_size _ rfl, rfl, rfl⟩, hl.push _⟩ fun b hb => ?_)
  rcases List.mem_cons.mp hb with e | hb
  · rw [e]
    exact ⟨Nat.ne_of_gt hP, Nat.le_refl _⟩
  · rw [List.mem_singleton.mp hb]
    exact ⟨hlP, Nat.le_of_lt ll⟩
end
end Y

namespace Y
open PySem PySem.Spec PyProof.Rows L2 GxR
/-! ### expressions that read alone, in any frame -/
structure EvOk (K : PySem.W.Frag) (mg : Str → Option Value) (env : Env) (m : Str → Option Value) (s : Shared) : Prop where
  loc : s.heap.Ns env.locals m
  glob : s.heap.Ns env.globals mg
  blt : ∃ mb, s.heap.Ns env.builtins mb ∧ ∀ x : Str, x ≠ "__name__" → mb x = bootBuiltins x
  kin : K.In s.heap
  lim : s.heap.NoLimit
theorem EvOk.keeps {K : PySem.W.Frag} {mg : Str → Option Value} {env : Env} {m : Str → Option Value} {s s' : Shared} (e : EvOk K mg env m s) (k : Keeps s s') : EvOk K mg env m s' := by
  obtain ⟨h', tk, rfl, kk⟩ := k
  obtain ⟨mb, h1, h2⟩ := e.blt
  exact ⟨e.loc.keeps kk, e.glob.keeps kk, ⟨mb, h1.keeps kk, h2⟩, e.kin.keeps kk, e.lim.keeps kk⟩
theorem keepsT {s s1 s2 : Shared} (a : Keeps s s1) (b : Keeps s1 s2) : Keeps s s2 := by
  obtain ⟨h1, t1, rfl, k1⟩ := a
  obtain ⟨h2, t2, rfl, k2⟩ := b
  exact ⟨h2, t2, rfl, fun b o e => k2 b o (k1 b o e)⟩
def Px (prog : Program) (w : World) (K : PySem.W.Frag) (mg : Str → Option Value) (D : Nat) (env : Env) (m : Str → Option Value) (e : Expr) (v : V) : Prop :=
  ∀ (A : Around) (E : Value → Shared → Prop) (s : Shared), A.handled = none → A.depth + D < recursionLimit → EvOk K mg env m s → wpAny (model prog w) A (eval e env) (fun y s₃ => RelV v y ∧ Keeps s s₃) E s
section
variable {prog : Program} {w : World} {K : PySem.W.Frag} {mg : Str → Option Value} {D : Nat} {env : Env} {m : Str → Option Value} {a b c : Expr} {rest : List Expr} {pos p0 : Pos} {x y z : Str} {p q : Bool} {v : V} {u : Value}
theorem px_local (hk : env.scope.kind = .function) (hl : env.scope.names.lookup x = some .local) (hm : m x = some u) (r : RelV v u) (hd : (x == ("__debug__" : Str)) = false := by decide) : Px prog w K mg D env m (.Name x pos) v :=
  fun A E s _ _ e => wpAny_Name (wpAny_loadName_local hk hl e.loc hm ⟨r, keeps_refl _⟩) hd
theorem px_glob (hk : env.scope.kind = .function) (hx : env.kindOf x = some .globalImplicit) (hm : mg x = some u) (r : RelV v u) (hd : (x == ("__debug__" : Str)) = false := by decide) : Px prog w K mg D env m (.Name x pos) v :=
  fun A E s _ _ e => Calls.Name_function_global hk hx (Calls.loadGlobal_global e.glob hm ⟨r, keeps_refl _⟩) hd
theorem px_str {k : Nat} : Px prog w K mg D env m (.Constant (.str x) k pos) (.str x) := fun A E s _ _ e => Calls.Constant_str ⟨⟨_, rfl⟩, keeps_tok _ _⟩
theorem px_int {k : Nat} {i : Int} : Px prog w K mg D env m (.Constant (.int i) k pos) (.int i) := fun A E s _ _ e => wpAny_Constant_int ⟨⟨_, rfl⟩, keeps_tok _ _⟩
theorem px_or (ha : Px prog w K mg D env m a (.bl p)) (hb : Px prog w K mg D env m (.BoolOp .Or (b :: rest) pos) (.bl q)) : Px prog w K mg D env m (.BoolOp .Or (a :: b :: rest) pos) (.bl (p || q)) := fun A E s h1 h2 e => by
  refine BoolOp_or (wpAny_mono (ha A E s h1 h2 e) (fun v1 s1 ⟨r1, k1⟩ => ?_) fun _ _ z => z)
  cases r1
  refine wpAny_truthy_bool ?_
  cases p with
  | true => exact ⟨rfl, k1⟩
  | false => exact wpAny_mono (hb A E s1 h1 h2 (e.keeps k1)) (fun v2 s2 ⟨r2, k2⟩ => ⟨r2, keepsT k1 k2⟩) fun _ _ z => z
theorem px_and (ha : Px prog w K mg D env m a (.bl p)) (hb : Px prog w K mg D env m (.BoolOp .And (b :: rest) pos) (.bl q)) : Px prog w K mg D env m (.BoolOp .And (a :: b :: rest) pos) (.bl (p && q)) := fun A E s h1 h2 e => by
  refine BoolOp_and (wpAny_mono (ha A E s h1 h2 e) (fun v1 s1 ⟨r1, k1⟩ => ?_) fun _ _ z => z)
  cases r1
  refine wpAny_truthy_bool ?_
  cases p with
  | false => exact ⟨rfl, k1⟩
  | true => exact wpAny_mono (hb A E s1 h1 h2 (e.keeps k1)) (fun v2 s2 ⟨r2, k2⟩ => ⟨r2, keepsT k1 k2⟩) fun _ _ z => z
theorem px_one {op : BoolOp} (ha : Px prog w K mg D env m a v) : Px prog w K mg D env m (.BoolOp op [a] pos) v := fun A E s h1 h2 e => BoolOp_one (ha A E s h1 h2 e)
theorem px_eqS (ha : Px prog w K mg D env m a (.str x)) (hb : Px prog w K mg D env m b (.str y)) (hm : behindInMarks .Eq b = false) : Px prog w K mg D env m (.Compare a [.Eq] [b] pos) (.bl (x.cps.toList == y.cps.toList)) := fun A E s h1 h2 e => by
  refine wpAny_Compare1 (wpAny_mono (ha A E s h1 h2 e) (fun v1 s1 ⟨r1, k1⟩ => wpAny_mono (hb A E s1 h1 h2 (e.keeps k1)) (fun v2 s2 ⟨r2, k2⟩ => ?_) fun _ _ z => z) fun _ _ z => z) hm
  obtain ⟨t1, rfl⟩ := r1
  obtain ⟨t2, rfl⟩ := r2
  exact PySem.P.eq_str ⟨rfl, keepsT k1 k2⟩
theorem px_neI {i j : Int} (ha : Px prog w K mg D env m a (.int i)) (hb : Px prog w K mg D env m b (.int j)) (hm : behindInMarks .NotEq b = false) : Px prog w K mg D env m (.Compare a [.NotEq] [b] pos) (.bl (i != j)) := fun A E s h1 h2 e => by
  refine wpAny_Compare1 (wpAny_mono (ha A E s h1 h2 e) (fun v1 s1 ⟨r1, k1⟩ => wpAny_mono (hb A E s1 h1 h2 (e.keeps k1)) (fun v2 s2 ⟨r2, k2⟩ => ?_) fun _ _ z => z) fun _ _ z => z) hm
  obtain ⟨t1, rfl⟩ := r1
  obtain ⟨t2, rfl⟩ := r2
  exact PySem.P.ne_int ⟨rfl, keepsT k1 k2⟩
theorem px_chainS (ha : Px prog w K mg D env m a (.str x)) (hb : Px prog w K mg D env m b (.str y)) (hc : Px prog w K mg D env m c (.str z)) (hm : lastMarks [.LtE, .LtE] [b, c] = false := by with_unfolding_all rfl) :
    Px prog w K mg D env m (.Compare a [.LtE, .LtE] [b, c] pos) (.bl (!decide (y.cps.toList < x.cps.toList) && !decide (z.cps.toList < y.cps.toList))) := fun A E s h1 h2 e => by
  refine Compare_chain (wpAny_mono (ha A E s h1 h2 e) (fun v1 s1 ⟨r1, k1⟩ => chain_link (wpAny_mono (hb A E s1 h1 h2 (e.keeps k1)) (fun v2 s2 ⟨r2, k2⟩ => ?_) fun _ _ z => z)) fun _ _ z => z) hm
  obtain ⟨t1, rfl⟩ := r1
  obtain ⟨t2, rfl⟩ := r2
  refine PySem.P.le_str (wpAny_truthy_bool ?_)
  cases hxy : !decide (y.cps.toList < x.cps.toList) with
  | false => exact ⟨rfl, keepsT k1 k2⟩
  | true =>
    refine chain_last (wpAny_mono (hc A E s2 h1 h2 ((e.keeps k1).keeps k2)) (fun v3 s3 ⟨r3, k3⟩ => ?_) fun _ _ z => z)
    obtain ⟨t3, rfl⟩ := r3
    exact PySem.P.le_str ⟨rfl, keepsT (keepsT k1 k2) k3⟩
theorem px_ord {px : Pos} (hk : env.scope.kind = .function) (hx : env.kindOf "ord" = some .globalImplicit) (hm : mg "ord" = none) (ha : Px prog w K mg D env m a (.str x)) (h1 : x.length = 1)
    (he : starEach (a :: []) env = (false, eval a env) :: starEach [] env := by rfl) (hpl : (backTo pos (starEach [] env)).any (·.1) = false := by rfl) :
    Px prog w K mg D env m (.Call (.Name "ord" px) [a] [] pos) (.int (x.cps.getD 0 0 : Nat)) := fun A E s g1 g2 e => by
  obtain ⟨mb, b1, b2⟩ := e.blt
  refine wpAny_Call_Name_kw (Calls.Name_function_global hk hx (Calls.loadGlobal_builtin e.glob hm b1 ((b2 "ord" (by decide)).trans boot_ord) ?_) (by decide))
  refine PyProof.Rows.callWith_builtin1 ?_ he hpl
  rw [he]
  refine Calls.spliced_cons ?_
  show wpAny _ _ (eval a env) _ _ _
  refine wpAny_mono (ha A E s g1 g2 e) (fun v1 s1 ⟨r1, k1⟩ => Calls.spliced_nil ?_) fun _ _ z => z
  obtain ⟨t1, rfl⟩ := r1
  exact ord_of_one h1 ⟨⟨_, rfl⟩, keepsT k1 (keeps_tok _ _)⟩
theorem bindL_one {kindOf : Str → Option NameKind} {par : Str} {u : Value} (h : kindOf par = some .local) : bindL kindOf [(par, u)] (fun _ => none) par = some u := by
  unfold bindL
  rw [if_pos h]
  unfold bindL
  exact if_pos rfl
/-- f(a): f a def that returns an expression of its parameter -/
theorem px_call {f : Addr} {fd : FuncData} {qual par : Str} {st : Stmt} {N : List Str} {va v : V} {ret : Expr} {px rpos : Pos} (F : Fun K x qual st f fd) (S : FnScope N [par] (defScope st)) (hb : Binds K fd [par] []) (hbody : defBody st = [.Return (some ret) rpos]) (hpar : (defScope st).names.lookup par = some .local)
    (hk : env.scope.kind = .function) (hx : env.kindOf x = some .globalImplicit) (hm : mg x = some (.ref f)) (hdb : (x == ("__debug__" : Str)) = false) (ha : Px prog w K mg (D + 1) env m a va)
    (hret : ∀ (L : Addr) (cd : Value) (m' : Str → Option Value) (u : Value), RelV va u → m' par = some u → Px prog w K mg D (envOfC qual (defScope st) L f cd) m' ret v)
    (hg : env.globals = mainGlobals) (hbl : env.builtins = builtinsNs) (he : starEach (a :: []) env = (false, eval a env) :: starEach [] env := by rfl) (hpl : (backTo pos (starEach [] env)).any (·.1) = false := by rfl) :
    Px prog w K mg (D + 1) env m (.Call (.Name x px) [a] [] pos) v := fun A E s g1 g2 e => by
  refine wpAny_Call_Name_kw (Calls.Name_function_global hk hx (Calls.loadGlobal_global e.glob hm ?_) hdb)
  refine PySem.W.callWith_K (h₀ := s.heap) e.kin F.kp ?_ he hpl
  rw [he]
  refine Calls.spliced_cons ?_
  show wpAny _ _ (eval a env) _ _ _
  refine wpAny_mono (ha A E s g1 g2 e) (fun u s1 ⟨r1, k1⟩ => Calls.spliced_nil ?_) fun _ _ z => z
  have e1 := e.keeps k1
  refine ⟨e1.kin, ?_⟩
  obtain ⟨oc, od, kV, doc, pm, an, cdv, ct, osl, rfl, lk, hcd⟩ := F.ex
  have b1 := hb s1 [u] e1.kin rfl
  show wpAny _ _ (call (.ref f) [u]) _ _ _
  have hkind : ∀ y ∈ [par].zip [u], (defScope st).names.lookup y.1 = some .local ∨ ((defScope st).names.lookup y.1 = some .cell ∧ ((cellsFrom (s1.heap.objs.size + 1) (defScope st).names []).lookup y.1).isSome = true) := fun ⟨n, v⟩ hy => by
    have hy' : (n, v) = (par, u) := by simpa using hy
    cases hy'
    exact .inl hpar
  refine wpAny_call (codeAny_call_function (by omega) (e1.kin _ _ lk) rfl S.co S.gen rfl (PySem.W.codeRec_of e1.kin hcd) (b1 _ _ _ _ ?_))
  refine wpAny_newFunctionEnv_cells S.kind hkind fun env' he' s2 x2 => ?_
  subst he'
  refine ⟨e1.lim.keeps x2.toInCall.keep, codeAny_func ?_⟩
  obtain ⟨h2, tk2, rfl, hk2⟩ := x2.done
  have k2 : Keeps s1 { s1 with heap := h2, toks := tk2 } := ⟨h2, tk2, rfl, hk2⟩
  have e2 := e1.keeps k2
  have hns := x2.toInCall.ns
  have hG := e2.glob
  rw [hg] at hG
  have hB := e2.blt
  rw [hbl] at hB
  show wpAny _ _ (execs (defBody st) _) _ _ _
  rw [hbody]
  refine wpAny_execs_cons (wpAny_Return_some ?_)
  refine wpAny_mono (hret s1.heap.objs.size cdv _ u r1 ?_ _ _ _ g1 (by show A.depth + 1 + D < _; omega) ⟨hns, hG, hB, e2.kin, e2.lim⟩) (fun y s3 ⟨r3, k3⟩ => ⟨r3, keepsT (keepsT k1 k2) k3⟩) fun _ _ z => z
  exact bindL_one (show (envOfC qual (defScope st) s1.heap.objs.size f cdv).kindOf par = some .local from hpar)
end
end Y

namespace Y
open PySem PySem.Spec PyProof.Rows L2 GxR
section
variable {X : Cx}
/-- the test of an element, over the signs of a text -/
def EltS (X : Cx) (scope : Scope) (x : Str) (elt : Expr) (pb : Nat → Bool) : Prop :=
  ∀ (cenv : Env) (m₂ : Str → Option Value) (c : Nat) (t : Tok), cenv.scope = scope → cenv.globals = mainGlobals → cenv.builtins = builtinsNs → m₂ x = some (.str ⟨#[c]⟩ t) → Px X.prog X.w X.K X.mg 1 cenv m₂ elt (.bl (pb c))
/-- all(test for x in e), e a text; behind it the def's table may have grown -/
def tAllT (P : Addr) (pb : Nat → Bool) (te : TE) : TE := fun σ H Q => te σ H fun v H1 => asStr v fun a => TabG H1 P ∧ ∀ H2, Tabbed P H1 H2 → Q (.bl (a.cps.toList.all pb)) H2
theorem tAllT_ap {P : Addr} {pb : Nat → Bool} {te : TE} {σ : L2.St} {H : Hp} {Q : VK} : tAllT P pb te σ H Q = te σ H fun v H1 => asStr v fun a => TabG H1 P ∧ ∀ H2, Tabbed P H1 H2 → Q (.bl (a.cps.toList.all pb)) H2 := rfl
theorem elt_str {pins : List (Addr × Obj)} {σ : L2.St} {H1 : Hp} {s1 : Shared} {scope : Scope} {x : Str} {elt : Expr} {pb : Nat → Bool} {a : Str} {P : Addr} {k : Nat} (hr : Room k X.A) (I1 : L2.Inv X pins σ H1 s1) (hT : TabG H1 P) (hel : EltS X scope x elt pb) :
    EltG X scope x elt P s1 (SignAt a) (fun i y => ∃ cc, a.cps[i]? = some cc ∧ y = .bool (pb cc)) := by
  intro cenv A' E' i v s₂ m₂ h1 h2 h3 h4 hA hD hU hPv hn hm hk
  obtain ⟨cc, u, hcc, rfl⟩ := hPv
  obtain ⟨ps, hP, ht⟩ := hT
  have hPs : s1.heap.get? P = some { cls := .none, data := .fields ps } := I1.hok P _ hP
  have nP : ∀ b o, X.base.get? b = some o → b ≠ P := fun b o e z => by
    have := (I1.bs b o e).2
    rw [z, hP] at this
    cases this
  have kb : ∀ b o, X.base.get? b = some o → s₂.heap.get? b = some o := fun b o e => hk b o (nP b o e) (I1.bk b o e)
  have ev : EvOk X.K X.mg cenv m₂ s₂ := by
    refine ⟨hn, ?_, ?_, I1.mod.kin.keeps kb, I1.mod.nolimit.keeps kb⟩
    · rw [h2, I1.ok.glob]
      exact I1.mod.glob.keeps kb
    · obtain ⟨mb, b1, b2⟩ := I1.mod.blt
      rw [h3]
      exact ⟨mb, b1.keeps kb, b2⟩
  have hd := hr.dp
  refine wpAny_mono (hel cenv m₂ cc u h1 (h2.trans I1.ok.glob) h3 hm A' E' s₂ hA (by omega) ev) (fun y s3 ⟨r3, k3⟩ => ?_) fun _ _ z => z
  cases r3
  exact ⟨⟨cc, hcc, rfl⟩, k3⟩
theorem pe_allT {c P : Addr} {elt iter : Expr} {x : Str} {px p pos gpos : Pos} {scope : Scope} {pb : Nat → Bool} {te : TE} {k : Nat}
    (hr : Room k X.A) (hg : Gl X "all") (hm : X.mg "all" = none) (TB : TabB X.base X.mg c P) (hcode : X.env.code = .ref c) (S : GenS X.env scope x) (hi : PE X iter te) (hel : EltS X scope x elt pb)
    (hs : ∀ v, genFold iter X.env v = pure v := by intro _; rfl)
    (he : starEach [.GeneratorExp elt [⟨.Name x px, iter, [], 0⟩] scope gpos] X.env = (false, eval (.GeneratorExp elt [⟨.Name x px, iter, [], 0⟩] scope gpos) X.env) :: starEach [] X.env := by rfl) :
    PE X (.Call (.Name "all" p) [.GeneratorExp elt [⟨.Name x px, iter, [], 0⟩] scope gpos] [] pos) (tAllT P pb te) := by
  refine ⟨fun pins s σ H Q I h => ?_⟩
  refine wpAny_Call_Name_kw (ld_blt (u := .builtin "all") I hg hm (by decide +kernel) ?_)
  refine PyProof.Rows.callWith_builtin1 ?_ he (by rfl)
  rw [he]
  show wpAny _ _ (spliced ((false, eval (.GeneratorExp elt [⟨.Name x px, iter, [], 0⟩] scope gpos) X.env) :: backTo pos (starEach [] X.env))) _ _ s
  refine Calls.spliced_cons (gen_any (pins := pins) (σ := σ) (R := fun n F H1 => ∃ a : Str, n = a.cps.size ∧ F = (fun i y => ∃ cc, a.cps[i]? = some cc ∧ y = .bool (pb cc)) ∧ ∀ H2, Tabbed P H1 H2 → Q (.bl (a.cps.toList.all pb)) H2) hr TB hcode S hs
    (thn (hi.run pins s σ H _ I h) fun xv s1 ⟨v, H1, I1, r1, q1⟩ => ?_) fun n F H1 g s5 hR hG => ?_)
  · obtain ⟨a, rfl, hT, q1⟩ := Eq.mp asStr_ex q1
    obtain ⟨t, rfl⟩ := r1
    obtain ⟨ps, hP, ht⟩ := id hT
    exact ⟨H1, _, _, _, I1, hT, it_str (Heap.lt_size (I1.hok P _ hP)), elt_str hr I1 hT hel, a, rfl, rfl, q1⟩
  · obtain ⟨a, rfl, rfl, hR⟩ := hR
    obtain ⟨fp, wr, G, F', St, W, hst, hF', hI⟩ := hG
    refine Calls.spliced_nil ?_
    refine call_all_walkS (W.self 0 _ _ _ hst ⟨g, fp, wr, G, _, F', St, trF pb a.cps.toList, rfl, W, hst, ?_, fun s' hmv => ?_⟩)
    · intro j y sj Qj Ej hy hQj
      obtain ⟨cc, hcc, rfl⟩ := hF' j y hy
      have e9 : a.cps.toList[j]? = some cc := by rw [Array.getElem?_toList]; exact hcc
      rw [trF_some e9] at hQj
      exact wpAny_truthy_bool hQj
    · obtain ⟨H2, hT2, J⟩ := hI s' hmv
      refine ⟨.bl _, H2, J, rfl, ?_⟩
      rw [all_signs a pb]
      exact hR H2 hT2
theorem Tabbed.fr {P : Addr} {H H' : Hp} {F : List Addr} (hT : TabG H P) (t : Tabbed P H H') : Fr F H H' := by
  obtain ⟨ps, h1, h2⟩ := hT
  refine ⟨fun a o e _ n => ?_, fun Q hQ => ?_, fun a e => ?_⟩
  · rw [t.2 a fun z => by rw [z, h1] at e; cases e; cases n]
    exact e
  · by_cases z : Q = P
    · rw [z]
      exact t.1
    · obtain ⟨qs, g1, g2⟩ := hQ
      exact ⟨qs, (t.2 Q z).trans g1, g2⟩
  · by_cases z : a = P
    · rw [z] at e
      obtain ⟨qs, g1, g2⟩ := t.1
      rw [e] at g1
      cases g1
    · rw [← t.2 a z]
      exact e
end
end Y

namespace Y
open PySem PySem.Spec PyProof.Rows L2 LamX
section
variable {P : Program} {w : World} {K : PySem.W.Frag} {mg : Str → Option Value} {base : Heap}
/-- a def whose code object is known -/
theorem okC {x qual : Str} {st : Stmt} {f c : Addr} {fd : FuncData} {N ps : List Str} {k : Nat} {sp : Sp} (F : Fun K x qual st f fd) (hc : fd.code = .ref c) (S : FnScope N ps (defScope st)) (len : ∀ vs H Q E, sp vs H Q E → vs.length = ps.length)
    (hbody : ∀ (A : Around) (outer : List Env) (s : Shared) (H : Hp) (vs : List V) (Q : VK) (E : XK), Room k (A.deeper (envOfC qual (defScope st) s.heap.objs.size f (.ref c))) → sp vs H Q E →
      ∃ t, PSs (cxOf CX0 P w K mg base N qual (defScope st) f (.ref c) A outer s H E).nox (defBody st) t ∧ t { nx := fun _ H' => Q .non H', rt := Q } (start N vs) H) : FnOk P w K mg base CX0 (k + 1) f fd ps sp := by
  obtain ⟨oc, od, kV, doc, pm, an, cdv, ct, osl, rfl, lk, hcd⟩ := F.ex
  have e : cdv = .ref c := hc
  subst e
  refine fn_of lk hcd S len fun A outer s H vs Q E hr hsp => ?_
  obtain ⟨t, h, q⟩ := hbody A outer s H vs Q E hr hsp
  exact ⟨t, h.nox, q⟩
theorem okXC {x qual : Str} {st : Stmt} {f c : Addr} {fd : FuncData} {N ps : List Str} {k : Nat} {sp : Sp} (F : Fun K x qual st f fd) (hc : fd.code = .ref c) (S : FnScope N ps (defScope st)) (len : ∀ vs H Q E, sp vs H Q E → vs.length = ps.length)
    (hbody : ∀ (A : Around) (outer : List Env) (s : Shared) (H : Hp) (vs : List V) (Q : VK) (E : XK), Room k (A.deeper (envOfC qual (defScope st) s.heap.objs.size f (.ref c))) → sp vs H Q E →
      ∃ t, PSs (cxOf (L2.CX P w) P w K mg base N qual (defScope st) f (.ref c) A outer s H E) (defBody st) t ∧ t { nx := fun _ H' => Q .non H', rt := Q } (start N vs) H) : FnOk P w K mg base (L2.CX P w) (k + 1) f fd ps sp := by
  obtain ⟨oc, od, kV, doc, pm, an, cdv, ct, osl, rfl, lk, hcd⟩ := F.ex
  have e : cdv = .ref c := hc
  subst e
  exact fn_of lk hcd S len fun A outer s H vs Q E hr hsp => hbody A outer s H vs Q E hr hsp
end
/-- the tables of the defs that stand at the top are empty -/
def TabsOf (q : Program) (K : PySem.W.Frag) (h : Heap) : Prop := ∀ (x : Str) (c P : Addr), ((recsOf q).any fun e => e.name == x) = true → PySem.W.tabIn K x = some (c, P) → PySem.W.CodeHd h c P ∧ h.get? P = some { cls := .none, data := .fields #[] }
theorem walk_ofTb {l : PySem.W.OpenLaw} {n k : Nat} {q : Program} {loose : List Str} {XP : (Str → Option Value) → Heap → Prop} {YP : World → Heap → Prop} {d : DefRec} {K : Params → PySem.W.Frag} {CX : World → CXT} {x : Str}
    (hn : l.most = some n) (hn2 : n ≤ sizeLine) (hdf : d.params.defaults = []) (hr : Room k callerA) (hY : ∀ (w : World) (h : Heap), YP w h → (K w.params).In h)
    (F : ∀ (w : World) (mg : Str → Option Value) (fa : Addr) (h : Heap), YP w h → (K w.params).In h → h.Ns mainGlobals mg → mg d.name = some (.ref fa) → TabsOf q (K w.params) h → LawAtS l w (K w.params) (CX w) k n x mg fa h)
    (hCX : ∀ (w : World) (H : Hp) (s : Shared) (e : Value) (s' : Shared), CX w [] H s (fun _ _ _ => False) e s' → False) :
    PySem.W.WalkO q loose XP YP l.row.toRowW d [] (fun f vs => PySem.call f vs) := by
  refine Att.attach_callB hn hdf fun w s₀ s₁ mg mb fa o pm cd doc a vs ns G Y ho hd hcd hmg hobj hints hlen hbits hg => ?_
  have KX := hY w _ Y
  have tb : TabsOf q (K w.params) s₁.heap := fun x c P hrec ht => by
    cases e : (recsOf q).find? (fun e => e.name == x) with
    | none =>
      obtain ⟨dL, hm, hn1⟩ := List.any_eq_true.mp hrec
      exact absurd hn1 (List.find?_eq_none.mp e dL hm)
    | some d2 => exact PySem.W.tab_of G.T KX e ht
  obtain ⟨fd, cs, sp, hT, nT, C, hb, hsp, hF⟩ := F w mg fa _ Y KX G.T.g hmg tb
  exact law_callTs KX G.T.g G.T.b G.T.builtins G.T.nolimit hg hT nT C G.T.bmain hobj hints (Nat.le_trans hlen hn2) hr hF hb (fun H hH hS => hsp H a ns hlen hbits hH hS) fun H e s' => hCX w H s₁ e s'
end Y

namespace Y
open PySem PySem.Spec PyProof.Rows L2 GxR
theorem tChain_ap {r r' : R2} {ta tb tc : TE} {σ : L2.St} {H : Hp} {Q : VK} : tChain r r' ta tb tc σ H Q = ta σ H fun x H1 => tb σ H1 fun y H2 => r x y H2 fun z H3 => asBl z fun k => brE k (fun σ H3 Q => tc σ H3 fun w' H4 => r' y w' H4 Q) (tC (.bl false)) σ H3 Q := by
  unfold tChain
  simp only [asBl_ex, brE, tC]
theorem genS_of {env : Env} {scope : Scope} {x : Str} (kind : scope.kind = .function) (co : scope.isCoroutine = false) (cell : (scope.names.all fun y => decide (y.2 ≠ .cell)) = true) (dot : scope.names.lookup (".0" : Str) = some NameKind.local) (loc : scope.names.lookup x = some .local)
    (free : (scope.names.all fun y => decide (y.2 ≠ .free)) = true) : GenS env scope x :=
  ⟨kind, co, fun y hy => of_decide_eq_true (List.all_eq_true.mp cell y hy), dot, loc, fun y hy hf => absurd hf (of_decide_eq_true (List.all_eq_true.mp free y hy))⟩
end Y
set_option Elab.async false
set_option linter.all false
set_option maxRecDepth 100000
/-! The shelf without Python: versions as rows of numbers, the stock counted by them. -/
namespace Y
open PySem PySem.Spec PyProof.Rows L2
/-- a version: its name, its number, its tuple's place, its pieces' numbers; the pieces' texts -/
structure Rw where
  nm : List Nat
  num : Nat
  at_ : Addr
  row : List Nat
  parts : List (List Nat)
def Rw.key (x : Rw) : List Key := [Sum.inr (st x.nm), Sum.inl (x.num : Int)]
theorem Rw.key_eq {x : Rw} {nm : List Nat} {n : Nat} : x.key = [Sum.inr (st nm), Sum.inl (n : Int)] ↔ x.nm = nm ∧ x.num = n := by
  unfold Rw.key
  constructor
  · intro h
    injection h with h1 h2
    injection h2 with h2 _
    exact ⟨st_inj.mp (Sum.inr.inj h1), by have := Sum.inl.inj h2; omega⟩
  · rintro ⟨rfl, rfl⟩
    rfl
structure ShM where
  w : Nat
  r : Nat
  S : StM
  wk : List (List Nat × Nat)
  rows : List Rw
def wkK (p : List Nat × Nat) : Key := Sum.inr (st p.1)
theorem wkK_eq {p : List Nat × Nat} {nm : List Nat} : wkK p = Sum.inr (st nm) ↔ p.1 = nm := by
  unfold wkK
  constructor
  · intro h
    exact st_inj.mp (Sum.inr.inj h)
  · intro h
    rw [h]
/-! ### pieces needed in turn -/
structure NdM where
  S : StM
  seen : List (List Nat × Nat)
  row : List Nat
def NdM.find (x : NdM) (p : List Nat) : Option (List Nat × Nat) := x.seen.find? fun q => decide (wkK q = Sum.inr (st p))
def NdM.step (x : NdM) (p : List Nat) : NdM := match x.find p with
  | some q => ⟨x.S, x.seen, x.row ++ [q.2]⟩
  | none => ⟨(x.S.need p).1, x.seen ++ [(p, (x.S.need p).2)], x.row ++ [(x.S.need p).2]⟩
def needs (S : StM) (ps : List (List Nat)) : NdM := ps.foldl NdM.step ⟨S, [], []⟩
theorem NdM.find_some {x : NdM} {p : List Nat} {q : List Nat × Nat} (h : x.find p = some q) : q ∈ x.seen ∧ q.1 = p := by
  obtain ⟨h1, h2⟩ := find_mem h
  exact ⟨h1, wkK_eq.mp h2⟩
theorem NdM.find_none {x : NdM} {p : List Nat} (h : x.find p = none) : p ∉ x.seen.map (·.1) := fun z => by
  obtain ⟨q, hq, e⟩ := List.mem_map.mp z
  exact find_no.mp h q hq (wkK_eq.mpr e)
def holdsP (S : StM) (n : Nat) (p : List Nat) : Prop := ∃ i ∈ S.its, i.num = n ∧ i.txt = p
/-- numbers and texts side by side -/
inductive Two {α β : Type} (R : α → β → Prop) : List α → List β → Prop where
  | nil : Two R [] []
  | cons {a b l m} : R a b → Two R l m → Two R (a :: l) (b :: m)
theorem Two.len {α β : Type} {R : α → β → Prop} : ∀ {l : List α} {m : List β}, Two R l m → l.length = m.length
  | _, _, .nil => rfl
  | _, _, .cons _ t => by rw [List.length_cons, List.length_cons, t.len]
theorem Two.imp {α β : Type} {R R' : α → β → Prop} : ∀ {l : List α} {m : List β}, Two R l m → (∀ a b, R a b → R' a b) → Two R' l m
  | _, _, .nil, _ => .nil
  | _, _, .cons r t, h => .cons (h _ _ r) (t.imp h)
theorem Two.snoc {α β : Type} {R : α → β → Prop} {a : α} {b : β} (h : R a b) : ∀ {l : List α} {m : List β}, Two R l m → Two R (l ++ [a]) (m ++ [b])
  | _, _, .nil => .cons h .nil
  | _, _, .cons r t => .cons r (Two.snoc h t)
theorem Two.get {α β : Type} {R : α → β → Prop} : ∀ {l : List α} {m : List β} {i : Nat} {a : α}, Two R l m → l[i]? = some a → ∃ b, m[i]? = some b ∧ R a b
  | _, _, _, _, .nil, h => by simp at h
  | _, _, 0, _, .cons r _, h => by
    rw [List.getElem?_cons_zero] at h
    cases h
    exact ⟨_, rfl, r⟩
  | _, _, i + 1, _, .cons _ t, h => by
    rw [List.getElem?_cons_succ] at h
    exact t.get h
theorem Two.mem {α β : Type} {R : α → β → Prop} : ∀ {l : List α} {m : List β} {a : α}, Two R l m → a ∈ l → ∃ b ∈ m, R a b
  | _, _, _, .nil, h => by cases h
  | _, _, a, .cons (a := c) (b := b) r t, h => by
    rcases List.mem_cons.mp h with e | h
    · subst e
      exact ⟨b, List.mem_cons_self, r⟩
    · obtain ⟨b, h1, h2⟩ := t.mem h
      exact ⟨b, List.mem_cons_of_mem _ h1, h2⟩
/-- what is known in the middle -/
structure NdOk (S0 : StM) (f : Nat → Nat) (x : NdM) (ps : List (List Nat)) : Prop where
  ok : x.S.Ok
  last : S0.last ≤ x.S.last
  cnt : ∀ i ∈ x.S.its, i.cnt = f i.num + (if i.txt ∈ x.seen.map (·.1) then 1 else 0)
  seen : ∀ q ∈ x.seen, holdsP x.S q.2 q.1
  row : Two (holdsP x.S) x.row ps
  mem : ∀ n, n ∈ x.row ↔ n ∈ x.seen.map (·.2)
  old : ∀ n p, holdsP S0 n p → holdsP x.S n p
  len : x.S.its.length ≤ S0.its.length + ps.length
  new : ∀ i ∈ x.S.its, holdsP S0 i.num i.txt ∨ i.txt ∈ x.seen.map (·.1)
theorem holds_at {S : StM} {m n : Nat} {p : List Nat} {d : Nat → Nat} : holdsP (S.at m d) n p ↔ holdsP S n p := by
  unfold holdsP
  constructor
  · rintro ⟨i, hi, e1, e2⟩
    obtain ⟨j, hj, g1, g2, _⟩ := mem_at hi
    exact ⟨j, hj, by rw [← g1, e1], by rw [← g2, e2]⟩
  · rintro ⟨i, hi, e1, e2⟩
    refine ⟨_, List.mem_map.mpr ⟨i, hi, rfl⟩, ?_, ?_⟩
    · split <;> exact e1
    · split <;> exact e2
theorem NdOk.step {S0 : StM} {f : Nat → Nat} {x : NdM} {ps : List (List Nat)} (hf : ∀ n, S0.last < n → f n = 0) (I : NdOk S0 f x ps) (p : List Nat) : NdOk S0 f (x.step p) (ps ++ [p]) := by
  unfold NdM.step
  split
  · rename_i q hq
    obtain ⟨h1, h2⟩ := NdM.find_some hq
    subst h2
    refine ⟨I.ok, I.last, I.cnt, I.seen, I.row.snoc (I.seen q h1), fun n => ?_, I.old, ?_, I.new⟩
    · show n ∈ x.row ++ [q.2] ↔ n ∈ x.seen.map (·.2)
      rw [List.mem_append, List.mem_singleton]
      constructor
      · rintro (h | h)
        · exact (I.mem n).mp h
        · exact List.mem_map.mpr ⟨q, h1, h.symm⟩
      · intro h
        exact .inl ((I.mem n).mpr h)
    · have := I.len
      rw [List.length_append]
      show x.S.its.length ≤ _
      omega
  · rename_i hq
    have hn := NdM.find_none hq
    have mseen : ∀ (n : Nat) (t : List Nat), t ∈ (x.seen ++ [(p, n)]).map (·.1) ↔ t ∈ x.seen.map (·.1) ∨ t = p := fun n t => by
      rw [List.map_append, List.mem_append]
      simp
    have mrow : ∀ m n : Nat, n ∈ x.row ++ [m] ↔ n ∈ (x.seen ++ [(p, m)]).map (·.2) := fun m n => by
      rw [List.map_append, List.mem_append, List.mem_append, I.mem n]
      simp
    cases e : x.S.byT p with
    | some i =>
      obtain ⟨hi, ht⟩ := StM.byT_some e
      rw [need_old e]
      refine ⟨I.ok.at _ _ fun _ _ _ => Nat.succ_pos _, I.last, fun j' hj' => ?_, fun q hq => ?_, ?_, mrow _, fun n t h => holds_at.mpr (I.old n t h), ?_, fun j' hj' => ?_⟩
      · obtain ⟨j, hj, g1, g2, g3⟩ := mem_at hj'
        rw [g3, g1, g2]
        have c := I.cnt j hj
        by_cases z : j.num = i.num
        · have ej : j = i := nodup_inj I.ok.nn hj hi z
          subst ej
          rw [if_pos rfl, if_pos ((mseen _ _).mpr (.inr ht))]
          rw [if_neg (by rw [ht]; exact hn)] at c
          omega
        · rw [if_neg z, c]
          have nt : ¬ j.txt = p := fun z2 => z (congrArg Pc.num (nodup_inj I.ok.ntx hj hi (by rw [z2, ht])))
          have iff1 : (j.txt ∈ (x.seen ++ [(p, i.num)]).map (·.1)) ↔ j.txt ∈ x.seen.map (·.1) := by
            rw [mseen]
            exact ⟨fun h => h.resolve_right nt, .inl⟩
          by_cases z3 : j.txt ∈ x.seen.map (·.1)
          · rw [if_pos z3, if_pos (iff1.mpr z3)]
          · rw [if_neg z3, if_neg (fun h => z3 (iff1.mp h))]
      · rcases List.mem_append.mp hq with h | h
        · exact holds_at.mpr (I.seen q h)
        · have eq : q = (p, i.num) := by simpa using h
          subst eq
          exact holds_at.mpr ⟨i, hi, rfl, ht⟩
      · exact (I.row.imp fun _ _ h => holds_at.mpr h).snoc (holds_at.mpr ⟨i, hi, rfl, ht⟩)
      · have := I.len
        rw [List.length_append]
        show (x.S.its.map _).length ≤ _
        rw [List.length_map]
        omega
      · obtain ⟨j, hj, g1, g2, g3⟩ := mem_at hj'
        rw [g1, g2, mseen]
        rcases I.new j hj with h | h
        · exact .inl h
        · exact .inr (.inl h)
    | none =>
      rw [need_new I.ok e]
      have up : ∀ n t, holdsP x.S n t → holdsP ⟨x.S.last + 1, x.S.its ++ [⟨x.S.last + 1, p, 1⟩]⟩ n t := fun n t ⟨i, h1, h2⟩ => ⟨i, List.mem_append_left _ h1, h2⟩
      have nw : holdsP ⟨x.S.last + 1, x.S.its ++ [⟨x.S.last + 1, p, 1⟩]⟩ (x.S.last + 1) p := ⟨⟨x.S.last + 1, p, 1⟩, List.mem_append_right _ (List.mem_singleton.mpr rfl), rfl, rfl⟩
      refine ⟨I.ok.add e 1 (Nat.le_refl _), Nat.le_succ_of_le I.last, fun j hj => ?_, fun q hq => ?_, (I.row.imp up).snoc nw, mrow _, fun n t h => up n t (I.old n t h), ?_, fun j hj => ?_⟩
      · rcases List.mem_append.mp hj with hj | hj
        · have nt : ¬ j.txt = p := StM.byT_none e j hj
          have iff1 : (j.txt ∈ (x.seen ++ [(p, x.S.last + 1)]).map (·.1)) ↔ j.txt ∈ x.seen.map (·.1) := by
            rw [mseen]
            exact ⟨fun h => h.resolve_right nt, .inl⟩
          rw [I.cnt j hj]
          by_cases z3 : j.txt ∈ x.seen.map (·.1)
          · rw [if_pos z3, if_pos (iff1.mpr z3)]
          · rw [if_neg z3, if_neg (fun h => z3 (iff1.mp h))]
        · have ej : j = ⟨x.S.last + 1, p, 1⟩ := by simpa using hj
          subst ej
          have l := I.last
          rw [if_pos ((mseen _ _).mpr (.inr rfl)), hf _ (show S0.last < x.S.last + 1 by omega)]
      · rcases List.mem_append.mp hq with h | h
        · exact up _ _ (I.seen q h)
        · have eq : q = (p, x.S.last + 1) := by simpa using h
          subst eq
          exact nw
      · have := I.len
        show (x.S.its ++ [_]).length ≤ S0.its.length + (ps ++ [p]).length
        rw [List.length_append, List.length_append]
        simp
        omega
      · rw [mseen]
        rcases List.mem_append.mp hj with hj | hj
        · rcases I.new j hj with h | h
          · exact .inl h
          · exact .inr (.inl h)
        · have ej : j = ⟨x.S.last + 1, p, 1⟩ := by simpa using hj
          subst ej
          exact .inr (.inr rfl)
theorem NdOk.start {S0 : StM} {f : Nat → Nat} (h : S0.Ok) (hc : ∀ i ∈ S0.its, i.cnt = f i.num) : NdOk S0 f ⟨S0, [], []⟩ [] :=
  ⟨h, Nat.le_refl _, fun i hi => by rw [hc i hi]; simp, fun q hq => (by cases hq), .nil, fun n => by simp, fun _ _ h => h, by simp, fun i hi => .inl ⟨i, hi, rfl, rfl⟩⟩
theorem foldl_snoc {α β : Type} (g : β → α → β) (b : β) (l : List α) (a : α) : (l ++ [a]).foldl g b = g (l.foldl g b) a := by rw [List.foldl_append]; rfl
theorem NdOk.all {S0 : StM} {f : Nat → Nat} (h : S0.Ok) (hc : ∀ i ∈ S0.its, i.cnt = f i.num) (hf : ∀ n, S0.last < n → f n = 0) (ps : List (List Nat)) : NdOk S0 f (needs S0 ps) ps := by
  have key : ∀ (qs ds : List (List Nat)) (x : NdM), NdOk S0 f x ds → NdOk S0 f (qs.foldl NdM.step x) (ds ++ qs) := by
    intro qs
    induction qs with
    | nil => intro ds x I; rw [List.append_nil]; exact I
    | cons p r ih =>
      intro ds x I
      have := ih (ds ++ [p]) (x.step p) (I.step hf p)
      rw [List.append_assoc] at this
      exact this
  have := key ps [] _ (NdOk.start h hc)
  rw [List.nil_append] at this
  exact this
/-! ### the shelf -/
def ShM.cnt (M : ShM) (n : Nat) : Nat := M.rows.countP fun x => decide (n ∈ x.row)
structure ShM.Ok (M : ShM) : Prop where
  sok : M.S.Ok
  cn : ∀ i ∈ M.S.its, i.cnt = M.cnt i.num
  wkn : (M.wk.map (·.1)).Nodup
  le : ∀ x ∈ M.rows, ∃ p ∈ M.wk, p.1 = x.nm ∧ x.num ≤ p.2
  rwn : (M.rows.map Rw.key).Nodup
  hold : ∀ x ∈ M.rows, Two (holdsP M.S) x.row x.parts
  len : ∀ x ∈ M.rows, x.parts.flatten.length ≤ 3000
  ne : ∀ x ∈ M.rows, ∀ p ∈ x.parts, p ≠ []
  w : 1 ≤ M.w ∧ M.w ≤ 8
  r : 1 ≤ M.r ∧ M.r ≤ 40
theorem ShM.Ok.nums {M : ShM} (h : M.Ok) {x : Rw} (hx : x ∈ M.rows) {n : Nat} (hn : n ∈ x.row) : 1 ≤ n ∧ n ≤ M.S.last := by
  obtain ⟨p, _, i, hi, e, _⟩ := (h.hold x hx).mem hn
  have := h.sok.pos i hi
  omega
theorem ShM.Ok.cnt0 {M : ShM} (h : M.Ok) {n : Nat} (hn : M.S.last < n) : M.cnt n = 0 := by
  unfold ShM.cnt
  rw [List.countP_eq_zero]
  intro x hx z
  have := h.nums hx (of_decide_eq_true z)
  omega
theorem flat_len : ∀ {l : List (List Nat)}, (∀ p ∈ l, p ≠ []) → l.length ≤ l.flatten.length
  | [], _ => Nat.le_refl _
  | p :: r, h => by
    have ih := flat_len (l := r) fun q hq => h q (List.mem_cons_of_mem _ hq)
    have : p.length ≠ 0 := fun z => h p List.mem_cons_self (List.length_eq_zero_iff.mp z)
    rw [List.flatten_cons, List.length_append, List.length_cons]
    omega
theorem ShM.Ok.rlen {M : ShM} (h : M.Ok) {x : Rw} (hx : x ∈ M.rows) : x.row.length ≤ 3000 := by
  rw [(h.hold x hx).len]
  exact Nat.le_trans (flat_len (h.ne x hx)) (h.len x hx)
/-- the version of a name and a number -/
def ShM.at_ (M : ShM) (nm : List Nat) (n : Int) : Option Rw := M.rows.find? fun x => decide (x.key = [Sum.inr (st nm), Sum.inl n])
theorem ShM.at_some {M : ShM} {nm : List Nat} {n : Int} {x : Rw} (h : M.at_ nm n = some x) : x ∈ M.rows ∧ x.nm = nm ∧ (x.num : Int) = n := by
  obtain ⟨h1, h2⟩ := find_mem h
  unfold Rw.key at h2
  injection h2 with g1 g2
  injection g2 with g2 _
  exact ⟨h1, st_inj.mp (Sum.inr.inj g1), Sum.inl.inj g2⟩
def ShM.given (M : ShM) (nm : List Nat) : Nat := ((M.wk.find? fun p => decide (wkK p = Sum.inr (st nm))).map (·.2)).getD 0
/-- a name's number set -/
def setW (wk : List (List Nat × Nat)) (nm : List Nat) (n : Nat) : List (List Nat × Nat) := if nm ∈ wk.map (·.1) then wk.map fun p => if p.1 = nm then (nm, n) else p else wk ++ [(nm, n)]
def ShM.keep (M : ShM) (nm : List Nat) (a : Addr) (parts : List (List Nat)) : ShM :=
  ⟨M.w, M.r, (needs M.S parts).S, setW M.wk nm (M.given nm + 1), M.rows ++ [⟨nm, M.given nm + 1, a, (needs M.S parts).row, parts⟩]⟩
theorem setW_keys {wk : List (List Nat × Nat)} {nm : List Nat} {n : Nat} : (setW wk nm n).map (·.1) = if nm ∈ wk.map (·.1) then wk.map (·.1) else wk.map (·.1) ++ [nm] := by
  unfold setW
  split
  · rw [List.map_map]
    apply List.map_congr_left
    intro p _
    show (if p.1 = nm then (nm, n) else p).1 = p.1
    split
    · rename_i e; exact e.symm
    · rfl
  · rw [List.map_append]
    rfl
theorem setW_nodup {wk : List (List Nat × Nat)} {nm : List Nat} {n : Nat} (h : (wk.map (·.1)).Nodup) : ((setW wk nm n).map (·.1)).Nodup := by
  rw [setW_keys]
  split
  · exact h
  · rename_i z
    rw [List.nodup_append]
    exact ⟨h, by simp, fun a ha b hb e => z (by rw [← List.mem_singleton.mp hb, ← e]; exact ha)⟩
theorem given_at {M : ShM} (h : (M.wk.map (·.1)).Nodup) {p : List Nat × Nat} (hp : p ∈ M.wk) : M.given p.1 = p.2 := by
  unfold ShM.given
  have e : M.wk.find? (fun q => decide (wkK q = wkK p)) = some p := find_inj (key := wkK) (by
    rw [List.nodup_iff_pairwise_ne, List.pairwise_map] at h ⊢
    exact h.imp fun h e => h (wkK_eq.mp e)) hp
  rw [show (fun q : List Nat × Nat => decide (wkK q = Sum.inr (st p.1))) = fun q => decide (wkK q = wkK p) from rfl, e]
  rfl
theorem setW_mem {wk : List (List Nat × Nat)} {nm : List Nat} {n : Nat} : (nm, n) ∈ setW wk nm n := by
  unfold setW
  split
  · rename_i z
    obtain ⟨p, hp, e⟩ := List.mem_map.mp z
    exact List.mem_map.mpr ⟨p, hp, by rw [if_pos e]⟩
  · exact List.mem_append_right _ (List.mem_singleton.mpr rfl)
theorem setW_old {wk : List (List Nat × Nat)} {nm : List Nat} {n : Nat} {p : List Nat × Nat} (hp : p ∈ wk) (h : p.1 ≠ nm) : p ∈ setW wk nm n := by
  unfold setW
  split
  · exact List.mem_map.mpr ⟨p, hp, by rw [if_neg h]⟩
  · exact List.mem_append_left _ hp
theorem ShM.Ok.keep {M : ShM} (h : M.Ok) (nm : List Nat) (a : Addr) {parts : List (List Nat)} (hl : parts.flatten.length ≤ 3000) (hn : ∀ p ∈ parts, p ≠ []) : (M.keep nm a parts).Ok := by
  have I := NdOk.all h.sok h.cn (fun n hn => h.cnt0 hn) parts
  refine ⟨I.ok, fun i hi => ?_, setW_nodup h.wkn, fun x hx => ?_, ?_, fun x hx => ?_, fun x hx => ?_, fun x hx => ?_, h.w, h.r⟩
  · rw [I.cnt i hi]
    show M.cnt i.num + _ = (M.rows ++ [_]).countP _
    rw [List.countP_append]
    show M.cnt i.num + _ = M.cnt i.num + _
    congr 1
    have e : i.txt ∈ (needs M.S parts).seen.map (·.1) ↔ i.num ∈ (needs M.S parts).row := by
      rw [I.mem]
      constructor
      · intro z
        obtain ⟨q, hq, e⟩ := List.mem_map.mp z
        obtain ⟨j, hj, e1, e2⟩ := I.seen q hq
        have ej : j = i := nodup_inj I.ok.ntx hj hi (by rw [e2, e])
        subst ej
        exact List.mem_map.mpr ⟨q, hq, e1.symm⟩
      · intro z
        obtain ⟨q, hq, e⟩ := List.mem_map.mp z
        obtain ⟨j, hj, e1, e2⟩ := I.seen q hq
        have ej : j = i := nodup_inj I.ok.nn hj hi (by rw [e1, e])
        subst ej
        exact List.mem_map.mpr ⟨q, hq, e2.symm⟩
    by_cases z : i.txt ∈ (needs M.S parts).seen.map (·.1)
    · rw [if_pos z, List.countP_cons_of_pos (by simpa using e.mp z)]
      rfl
    · rw [if_neg z, List.countP_cons_of_neg (by simpa using fun g => z (e.mpr g))]
      rfl
  · rcases List.mem_append.mp hx with hx | hx
    · obtain ⟨p, hp, e1, e2⟩ := h.le x hx
      by_cases z : x.nm = nm
      · refine ⟨(nm, M.given nm + 1), setW_mem, z.symm, ?_⟩
        have := given_at h.wkn hp
        rw [e1, z] at this
        show x.num ≤ M.given nm + 1
        omega
      · exact ⟨p, setW_old hp (fun g => z (by rw [← e1, g])), e1, e2⟩
    · have ex : x = ⟨nm, M.given nm + 1, a, (needs M.S parts).row, parts⟩ := by simpa using hx
      subst ex
      exact ⟨_, setW_mem, rfl, Nat.le_refl _⟩
  · show ((M.rows ++ [_]).map Rw.key).Nodup
    rw [List.map_append, List.nodup_append]
    refine ⟨h.rwn, by simp, fun k hk k2 hk2 e => ?_⟩
    obtain ⟨x, hx, ex⟩ := List.mem_map.mp hk
    have e2 : k2 = Rw.key ⟨nm, M.given nm + 1, a, (needs M.S parts).row, parts⟩ := by simpa using hk2
    rw [e2, ← ex] at e
    obtain ⟨g1, g2⟩ := Rw.key_eq.mp e
    obtain ⟨p, hp, e3, e4⟩ := h.le x hx
    have := given_at h.wkn hp
    have g1' : x.nm = nm := g1
    rw [e3, g1'] at this
    have g2' : x.num = M.given nm + 1 := g2
    omega
  · rcases List.mem_append.mp hx with hx | hx
    · exact (h.hold x hx).imp fun n p g => I.old n p g
    · have ex : x = ⟨nm, M.given nm + 1, a, (needs M.S parts).row, parts⟩ := by simpa using hx
      subst ex
      exact I.row
  · rcases List.mem_append.mp hx with hx | hx
    · exact h.len x hx
    · have ex : x = ⟨nm, M.given nm + 1, a, (needs M.S parts).row, parts⟩ := by simpa using hx
      subst ex
      exact hl
  · rcases List.mem_append.mp hx with hx | hx
    · exact h.ne x hx
    · have ex : x = ⟨nm, M.given nm + 1, a, (needs M.S parts).row, parts⟩ := by simpa using hx
      subst ex
      exact hn
end Y
namespace Y
open PySem PySem.Spec PyProof.Rows L2
/-! ### the shelf in the heap -/
structure ShR where
  k : Addr
  dx : Addr
  s : StR
  wk : Addr
  rw_ : Addr
def shF (w r : Int) (s k o : Addr) : List (Str × V) := [("_width", .int w), ("_reach", .int r), ("_stock", .ref s), ("_works", .ref k), ("_rows", .ref o)]
section
variable {w r : Int} {s k o : Addr}
theorem shF_w : (shF w r s k o).lookup ("_width" : Str) = some (.int w) := by
  unfold shF
  rw [look_eq]
theorem shF_r : (shF w r s k o).lookup ("_reach" : Str) = some (.int r) := by
  unfold shF
  rw [look_ne (f := "_reach") (g := "_width") (by decide +kernel), look_eq]
theorem shF_s : (shF w r s k o).lookup ("_stock" : Str) = some (.ref s) := by
  unfold shF
  rw [look_ne (f := "_stock") (g := "_width") (by decide +kernel), look_ne (f := "_stock") (g := "_reach") (by decide +kernel), look_eq]
theorem shF_k : (shF w r s k o).lookup ("_works" : Str) = some (.ref k) := by
  unfold shF
  rw [look_ne (f := "_works") (g := "_width") (by decide +kernel), look_ne (f := "_works") (g := "_reach") (by decide +kernel), look_ne (f := "_works") (g := "_stock") (by decide +kernel), look_eq]
theorem shF_o : (shF w r s k o).lookup ("_rows" : Str) = some (.ref o) := by
  unfold shF
  rw [look_ne (f := "_rows") (g := "_width") (by decide +kernel), look_ne (f := "_rows") (g := "_reach") (by decide +kernel), look_ne (f := "_rows") (g := "_stock") (by decide +kernel), look_ne (f := "_rows") (g := "_works") (by decide +kernel), look_eq]
theorem shF_m {m : Str} (h : ¬ m = "_width" ∧ ¬ m = "_reach" ∧ ¬ m = "_stock" ∧ ¬ m = "_works" ∧ ¬ m = "_rows") : (shF w r s k o).lookup m = none := by
  unfold shF
  rw [look_ne h.1, look_ne h.2.1, look_ne h.2.2.1, look_ne h.2.2.2.1, look_ne h.2.2.2.2]
  rfl
theorem shF_mk : (putF "_rows" (.ref o) (putF "_works" (.ref k) (putF "_stock" (.ref s) (putF "_reach" (.int r) (putF "_width" (.int w) []))))) = shF w r s k o := by
  rw [put_nil, put_ne (f := "_reach") (g := "_width") (by decide +kernel), put_nil, put_ne (f := "_stock") (g := "_width") (by decide +kernel), put_ne (f := "_stock") (g := "_reach") (by decide +kernel), put_nil, put_ne (f := "_works") (g := "_width") (by decide +kernel), put_ne (f := "_works") (g := "_reach") (by decide +kernel), put_ne (f := "_works") (g := "_stock") (by decide +kernel), put_nil, put_ne (f := "_rows") (g := "_width") (by decide +kernel), put_ne (f := "_rows") (g := "_reach") (by decide +kernel), put_ne (f := "_rows") (g := "_stock") (by decide +kernel), put_ne (f := "_rows") (g := "_works") (by decide +kernel), put_nil]
  rfl
end
structure ShAt (C Cs : Addr) (H : Hp) (r : ShR) (M : ShM) : Prop where
  ob : H r.k = some (.ins C r.dx (shF M.w M.r r.s.k r.wk r.rw_))
  st : StAt Cs H r.s M.S
  wk : H r.wk = some (.dK (mp wkK (fun p => natV p.2) M.wk))
  rw_ : H r.rw_ = some (.dT (mp Rw.key (fun x => V.ref x.at_) M.rows))
  tp : ∀ x ∈ M.rows, H x.at_ = some (.tup (x.row.map natV))
  ne : r.k ∉ r.s.F ∧ r.wk ∉ r.s.F ∧ r.rw_ ∉ r.s.F ∧ r.wk ≠ r.rw_
def ShR.F (r : ShR) : List Addr := r.k :: r.wk :: r.rw_ :: r.s.F
section
variable {C Cs : Addr} {H H' : Hp} {r : ShR} {M : ShM} {F : List Addr}
theorem ShAt.kw (h : ShAt C Cs H r M) : r.k ≠ r.wk := ne_of h.ob h.wk (by intro z; cases z)
theorem ShAt.kr (h : ShAt C Cs H r M) : r.k ≠ r.rw_ := ne_of h.ob h.rw_ (by intro z; cases z)
theorem tup_ne {a b : Addr} {xs : List V} {o : HO} (h : H a = some (.tup xs)) (h' : H b = some o) (n : ∀ ys, o ≠ .tup ys) : a ≠ b := fun z => by
  rw [z, h'] at h
  exact n _ (Option.some.inj h)
theorem StAt.noT (h : StAt Cs H r.s M.S) {a : Addr} {xs : List V} (ha : H a = some (.tup xs)) : a ∉ r.s.F := fun z => by
  simp only [StR.F, List.mem_cons, List.not_mem_nil, or_false] at z
  rcases z with e | e | e | e <;> subst e
  · exact absurd (ha.symm.trans h.ob) (by intro z; cases z)
  · exact absurd (ha.symm.trans h.tx) (by intro z; cases z)
  · exact absurd (ha.symm.trans h.ct) (by intro z; cases z)
  · exact absurd (ha.symm.trans h.nm) (by intro z; cases z)
theorem ShAt.noT (h : ShAt C Cs H r M) {a : Addr} {xs : List V} (ha : H a = some (.tup xs)) : a ∉ r.F := fun z => by
  simp only [ShR.F, List.mem_cons] at z
  rcases z with e | e | e | e
  · exact tup_ne ha h.ob (by intro _ z; cases z) e
  · exact tup_ne ha h.wk (by intro _ z; cases z) e
  · exact tup_ne ha h.rw_ (by intro _ z; cases z) e
  · exact h.st.noT ha e
/-- what writes elsewhere leaves it -/
theorem ShAt.fr (h : ShAt C Cs H r M) (s : Fr F H H') (d : ∀ a ∈ r.F, a ∉ F) (dt : ∀ a ∈ F, ∀ xs, H a ≠ some (.tup xs)) : ShAt C Cs H' r M :=
  ⟨s.keep _ _ h.ob (d _ (by simp [ShR.F])) rfl, h.st.fr s (fun a ha => d a (by simp [ShR.F, ha])), s.keep _ _ h.wk (d _ (by simp [ShR.F])) rfl, s.keep _ _ h.rw_ (d _ (by simp [ShR.F])) rfl,
    fun x hx => s.tup (h.tp x hx) (fun z => dt _ z _ (h.tp x hx)), h.ne⟩
theorem ShAt.fr0 (h : ShAt C Cs H r M) (s : Fr [] H H') : ShAt C Cs H' r M := h.fr s (fun _ _ => List.not_mem_nil) (fun _ ha => by cases ha)
theorem ShAt.same (h : ShAt C Cs H r M) (s : Same H H') : ShAt C Cs H' r M := h.fr0 (frS s)
theorem ShAt.live (h : ShAt C Cs H r M) {a : Addr} (ha : a ∈ r.F) : H a ≠ none := by
  simp only [ShR.F, List.mem_cons] at ha
  rcases ha with e | e | e | e
  · rw [e, h.ob]; intro z; cases z
  · rw [e, h.wk]; intro z; cases z
  · rw [e, h.rw_]; intro z; cases z
  · exact h.st.live e
end
end Y

namespace Y
open PySem PySem.Spec PyProof.Rows L2
theorem row_txts {S : StM} (ok : S.Ok) : ∀ {row : List Nat} {parts : List (List Nat)}, Two (holdsP S) row parts → row.filterMap (fun (n : Nat) => (S.byN (n : Int)).map fun i => txtV i.txt) = (parts.map st).map V.str
  | _, _, .nil => rfl
  | _, _, .cons (a := n) (b := p) h t => by
    obtain ⟨i, hi, e1, e2⟩ := h
    have f : S.byN (n : Int) = some i := by rw [← e1]; exact StM.byN_of ok hi
    rw [List.filterMap_cons, f]
    show txtV i.txt :: _ = _
    rw [row_txts ok t, e2]
    rfl
theorem sum_len (ps : List (List Nat)) : ((ps.map st).map (·.length)).sum = ps.flatten.length := by
  induction ps with
  | nil => rfl
  | cons p r ih =>
    rw [List.map_cons, List.map_cons, List.sum_cons, ih, List.flatten_cons, List.length_append, len_st]
theorem two_mem {S : StM} (ok : S.Ok) {row : List Nat} {parts : List (List Nat)} (h : Two (holdsP S) row parts) {n : Nat} (hn : n ∈ row) : ∃ i, S.find (natV n) = some i := by
  obtain ⟨p, _, i, hi, e1, _⟩ := h.mem hn
  refine ⟨i, ?_⟩
  show S.byN (n : Int) = some i
  rw [← e1]
  exact StM.byN_of ok hi
end Y

namespace Y
open PySem PySem.Spec PyProof.Rows L2
theorem Fr.cut {A F : List Addr} {H H' : Hp} (s : Fr (A ++ F) H H') (h : ∀ a ∈ A, H a = none) : Fr F H H' := by
  refine ⟨fun a o e f n => s.keep a o e (fun z => ?_) n, s.tabs, s.live⟩
  rcases List.mem_append.mp z with z | z
  · rw [h a z] at e
    cases e
  · exact f z
theorem putK_setW {wk : List (List Nat × Nat)} {nm : List Nat} {n : Nat} : putK (mp wkK (fun p => natV p.2) wk) (Sum.inr (st nm)) (natV n) = mp wkK (fun p => natV p.2) (setW wk nm n) := by
  unfold setW
  by_cases z : nm ∈ wk.map (·.1)
  · rw [if_pos z]
    obtain ⟨p, hp, e⟩ := List.mem_map.mp z
    have any : ((mp wkK (fun p => natV p.2) wk).any fun kv => decide (kv.1 = Sum.inr (st nm))) = true := by
      rw [List.any_eq_true]
      exact ⟨(wkK p, natV p.2), List.mem_map.mpr ⟨p, hp, rfl⟩, by simpa using wkK_eq.mpr e⟩
    unfold putK
    rw [if_pos any, mp_map]
    unfold mp
    rw [List.map_map]
    apply List.map_congr_left
    intro q _
    show (if wkK q = Sum.inr (st nm) then (wkK q, natV n) else (wkK q, natV q.2)) = (wkK (if q.1 = nm then (nm, n) else q), natV (if q.1 = nm then (nm, n) else q).2)
    by_cases e2 : q.1 = nm
    · rw [if_pos (wkK_eq.mpr e2), if_pos e2]
      show (wkK q, natV n) = (wkK (nm, n), natV n)
      rw [show wkK q = wkK (nm, n) from wkK_eq.mpr e2]
    · rw [if_neg (fun g => e2 (wkK_eq.mp g)), if_neg e2]
  · rw [if_neg z, putK_mp_new, mp_snoc]
    · rfl
    · exact find_no.mpr fun p hp e => z (List.mem_map.mpr ⟨p, hp, wkK_eq.mp e⟩)
theorem given_val {M : ShM} {nm : List Nat} : ((M.wk.find? fun p => decide (wkK p = Sum.inr (st nm))).map fun p => natV p.2).getD (natV 0) = natV (M.given nm) := by
  unfold ShM.given
  cases M.wk.find? fun p => decide (wkK p = Sum.inr (st nm)) <;> rfl
theorem ShM.Ok.fresh {M : ShM} (h : M.Ok) (nm : List Nat) : (M.rows.find? fun x => decide (x.key = [Sum.inr (st nm), Sum.inl ((M.given nm + 1 : Nat) : Int)])) = none := find_no.mpr fun x hx e => by
  obtain ⟨e1, e2⟩ := Rw.key_eq.mp e
  obtain ⟨p, hp, e3, e4⟩ := h.le x hx
  have := given_at h.wkn hp
  rw [e3, e1] at this
  omega
theorem step_seen {x : NdM} {p : List Nat} : (x.step p).seen.length ≤ x.seen.length + 1 := by
  unfold NdM.step
  split
  · exact Nat.le_succ _
  · show (x.seen ++ [_]).length ≤ _
    rw [List.length_append]
    simp
theorem fold_seen (ps : List (List Nat)) : ∀ x : NdM, (ps.foldl NdM.step x).seen.length ≤ x.seen.length + ps.length := by
  induction ps with
  | nil => intro x; simp
  | cons p r ih =>
    intro x
    have h1 := ih (x.step p)
    have h2 : (x.step p).seen.length ≤ x.seen.length + 1 := step_seen
    rw [List.foldl_cons, List.length_cons]
    omega
end Y
set_option Elab.async false
set_option linter.all false
set_option maxRecDepth 100000
set_option maxHeartbeats 2000000
/-! Rules of ours: f-strings, refusals that tell one, tuples made and walked, len of a dict of tuples. -/
namespace Y
open PySem PySem.Spec PyProof.Rows L2
section
variable {X : Cx} {K : PySem.W.Frag} {te ta : TE} {ts : List TE} {t : TE} {σ : L2.St} {H : Hp} {Q : VK} {D : Ends} {acc : Str}
/-- raise x(e) -/
theorem ps_raiseF {W : WX} {x : Str} {C : Addr} {e : Expr} {p pos pos2 : Pos} (hc : X.calm = true) (tk : Takes X W) (c : ErrC X.K X.mg x C) (he : PE X e ta) (hg : Gl X x := by rfl) (hs : starEach [e] X.env = (false, eval e X.env) :: starEach [] X.env := by rfl) (hdb : (x == ("__debug__" : Str)) = false := by decide) :
    PS X (.Raise (some (.Call (.Name x p) [e] [] pos)) none pos2) (fun _ σ H => ta σ H fun _ H1 => W (.ref C) none σ H1) :=
  L2.ps_raise hc tk (SkE.pmk_own1 PySem.F.excBase_ValueError c.ex c.g c.kp c.raises hg he hs hdb)
/-- f'..' -/
def tFs (ts : List TE) : TE := fun σ H Q => tJs ts Str.empty σ H fun out H1 => Q (.str out) H1
theorem tFs_ap : tFs ts σ H Q = tJs ts Str.empty σ H fun out H1 => Q (.str out) H1 := rfl
theorem pe_fs {v1 v2 : Expr} {rest : List Expr} {pos : Pos} (h : PJ X (v1 :: v2 :: rest) ts) : PE X (.JoinedStr (v1 :: v2 :: rest) pos) (tFs ts) := pe_joined h
theorem tJs_nil {R : Str → Hp → Prop} : tJs [] acc σ H R = R acc H := rfl
theorem tJs_cons {R : Str → Hp → Prop} : tJs (t :: ts) acc σ H R = t σ H fun x H1 => asStr x fun y => (acc ++ y).length ≤ 16777216 ∧ tJs ts (acc ++ y) σ H1 R := by
  simp only [asStr_ex, ← line_eq]
  show (t σ H fun x H1 => ∃ y : Str, x = .str y ∧ (acc ++ y).length ≤ sizeLine ∧ tJs ts (acc ++ y) σ H1 R) = _
  rfl
def fmtV (x : V) (H : Hp) (Q : VK) : Prop := match x with
  | .str y => y.length ≤ 16777216 ∧ Q (.str y) H
  | .int i => i.natAbs.log2 < 1920 ∧ Q (.str (toString i)) H
  | _ => False
theorem fmt_str {y : Str} : fmtV (.str y) H Q = (y.length ≤ 16777216 ∧ Q (.str y) H) := rfl
theorem fmt_int {i : Int} : fmtV (.int i) H Q = (i.natAbs.log2 < 1920 ∧ Q (.str (toString i)) H) := rfl
theorem tFmt_ap : tFmt te σ H Q = te σ H fun x H1 => fmtV x H1 Q := by
  unfold tFmt
  congr 1
  funext x H1
  apply propext
  unfold fmtV
  constructor
  · rintro (⟨y, rfl, h1, h2⟩ | ⟨i, rfl, h1, h2⟩)
    · exact ⟨by rw [← line_eq]; exact h1, h2⟩
    · exact ⟨h1, h2⟩
  · intro h
    split at h
    · exact .inl ⟨_, rfl, by rw [line_eq]; exact h.1, h.2⟩
    · exact .inr ⟨_, rfl, h.1, h.2⟩
    · exact h.elim
/-- len of a dict whose keys are tuples -/
theorem rLenT_ap {p : Addr} : rLenT [.ref p] H Q = ∃ kvs : List (List Key × V), H p = some (.dT kvs) ∧ Q (.int ((kvs.length : Nat) : Int)) H := by
  unfold rLenT
  apply propext
  constructor
  · rintro ⟨q, kvs, e, h⟩
    cases e
    exact ⟨kvs, h⟩
  · rintro ⟨kvs, h⟩
    exact ⟨p, kvs, rfl, h⟩
/-- tuple(x) of a list -/
def rTupC (xs : List V) (H : Hp) (Q : VK) : Prop := match xs with
  | [.ref p] => ∃ ys, H p = some (.lst ys) ∧ ∀ l, H l = none → Q (.ref l) (upd H l (.tup ys))
  | _ => False
theorem rTupC_ap {p : Addr} : rTupC [.ref p] H Q = ∃ ys, H p = some (.lst ys) ∧ ∀ l, H l = none → Q (.ref l) (upd H l (.tup ys)) := rfl
theorem y_tuple : CallR X (.type "tuple") rTupC := by
  refine call_weak call_tuple_of fun xs H Q q => ?_
  unfold rTupC at q
  split at q
  · obtain ⟨ys, h, q⟩ := q
    exact ⟨_, ys, rfl, .inl ⟨SqL.of h, q⟩⟩
  · exact q.elim
/-- walks over tuples -/
theorem tLcT_ap {g : TG} {tt : TT} {tf : TE} {vs : List Nat} : tLc (iTup K te) g tt tf vs σ H Q = te σ H fun v H1 => asRef v fun a => (∃ xs, SqT K H1 a xs) ∧ ∀ D, H1 D = none → lcW (Itt K a) g tt tf vs σ D H1 fun H' => Q (.ref D) H' := by
  simp only [asRef_ex]
  rfl
theorem walk_tup {a : Addr} {xs : List V} : Walk (Itt K a) xs.length (fun H => SqT K H a xs) (fun i H x H' => H' = H ∧ x = xs.getD i .non) :=
  ⟨fun i H hi g => ⟨xs, xs[i], g, List.getElem?_eq_getElem hi⟩, fun H g => ⟨xs, g, Nat.le_refl _⟩, fun i H x H' hi g y => by
    refine ⟨y.1, ?_⟩
    have := y.2 xs g
    rw [List.getD_eq_getElem?_getD, this]
    rfl⟩
theorem walk_lst {a : Addr} {xs : List V} : Walk (Itl K a) xs.length (fun H => SqL K H a xs) (fun i H x H' => H' = H ∧ x = xs.getD i .non) :=
  ⟨fun i H hi g => ⟨xs, xs[i], g, List.getElem?_eq_getElem hi⟩, fun H g => ⟨xs, g, Nat.le_refl _⟩, fun i H x H' hi g y => by
    refine ⟨y.1, ?_⟩
    have := y.2 xs g
    rw [List.getD_eq_getElem?_getD, this]
    rfl⟩
end
section
variable {α : Type} {l : List α} {g : α → V} {K : PySem.W.Frag} {a D : Addr} {s : Nat} {tt : TT} {te : TE} {σ : L2.St} {H1 : Hp} {Qd : Hp → Prop}
theorem getD_map {i : Nat} (h : i < l.length) : (l.map g).getD i .non = g l[i] := by
  rw [List.getD_eq_getElem?_getD, List.getElem?_map, List.getElem?_eq_getElem h]
  rfl
/-- a comprehension over things that are known by a list -/
theorem lc_of {J : L2.It} {G : Hp → Prop} (w : Walk J (l.map g).length G (fun i H x H' => H' = H ∧ x = (l.map g).getD i .non)) (f : α → Option V) (hD : H1 D = none) (hn : l.length < 16777216) (hG : ∀ H, Same H1 H → G H)
    (hs : ∀ (x : α) (H : Hp), x ∈ l → Same H1 H → ∀ (Ny : V → Hp → Prop) (Nn : Hp → Prop), (∀ y H4, Same H H4 → f x = some y → Ny y H4) → (∀ H3, Same H H3 → f x = none → Nn H3) → tt (σ.set s (some (g x))) H fun b H3 => br b (te (σ.set s (some (g x))) H3 Ny) (Nn H3))
    (hd : ∀ H, Same H1 H → H D = some (.lst (l.filterMap f)) → Qd H) : lcW J (gName s) tt te [s] σ D H1 Qd := by
  refine lc_gen w (fun i => if h : i < l.length then f l[i] else none) hD (by rw [List.length_map]; exact hn) hG (fun i H hi sm Ny Nn h1 h2 => ?_) (fun H sm h => hd H sm ?_)
  · rw [List.length_map] at hi
    rw [getD_map hi]
    exact hs l[i] H (List.getElem_mem hi) sm Ny Nn (fun y H4 s4 e => h1 y H4 s4 (by rw [dif_pos hi]; exact e)) (fun H3 s3 e => h2 H3 s3 (by rw [dif_pos hi]; exact e))
  · rw [h, List.length_map, range_fm f l _ (fun i hi => by rw [dif_pos hi])]
theorem lc_tupM (f : α → Option V) (hD : H1 D = none) (ha : SqT K H1 a (l.map g)) (hn : l.length < 16777216)
    (hs : ∀ (x : α) (H : Hp), x ∈ l → Same H1 H → ∀ (Ny : V → Hp → Prop) (Nn : Hp → Prop), (∀ y H4, Same H H4 → f x = some y → Ny y H4) → (∀ H3, Same H H3 → f x = none → Nn H3) → tt (σ.set s (some (g x))) H fun b H3 => br b (te (σ.set s (some (g x))) H3 Ny) (Nn H3))
    (hd : ∀ H, Same H1 H → H D = some (.lst (l.filterMap f)) → Qd H) : lcW (Itt K a) (gName s) tt te [s] σ D H1 Qd :=
  lc_of walk_tup f hD hn (fun H sm => by
    rcases ha with (h | ⟨o, h⟩) | h
    · exact .inl (.inl (sm _ _ h))
    · exact .inl (.inr ⟨o, sm _ _ h⟩)
    · exact .inr h) hs hd
theorem lc_lstM (f : α → Option V) (hD : H1 D = none) (ha : SqL K H1 a (l.map g)) (hn : l.length < 16777216)
    (hs : ∀ (x : α) (H : Hp), x ∈ l → Same H1 H → ∀ (Ny : V → Hp → Prop) (Nn : Hp → Prop), (∀ y H4, Same H H4 → f x = some y → Ny y H4) → (∀ H3, Same H H3 → f x = none → Nn H3) → tt (σ.set s (some (g x))) H fun b H3 => br b (te (σ.set s (some (g x))) H3 Ny) (Nn H3))
    (hd : ∀ H, Same H1 H → H D = some (.lst (l.filterMap f)) → Qd H) : lcW (Itl K a) (gName s) tt te [s] σ D H1 Qd :=
  lc_of walk_lst f hD hn (fun H sm => Same.seq sm ha) hs hd
/-- tuples stand at addresses -/
abbrev TupsAt (H : Hp) (as : List Addr) (vs : List (List V)) : Prop := Two (fun a v => H a = some (.tup v)) as vs
theorem TupsAt.same {H H' : Hp} {as : List Addr} {vs : List (List V)} (h : TupsAt H as vs) (sm : Same H H') : TupsAt H' as vs := h.imp fun _ _ e => sm _ _ e
/-- a comprehension whose items are new tuples -/
theorem lc_tups {J : L2.It} {n : Nat} {G : Hp → Prop} {xs : Nat → V} (w : Walk J n G (fun i H x H' => H' = H ∧ x = xs i)) (f : Nat → Option (List V)) (hD : H1 D = none) (hn : n < 16777216)
    (hG : ∀ H, Same H1 H → G H)
    (hs : ∀ i H, i < n → Same H1 H → ∀ (Ny : V → Hp → Prop) (Nn : Hp → Prop), (∀ p v H4, Same H H4 → f i = some v → H4 p = some (.tup v) → Ny (.ref p) H4) → (∀ H3, Same H H3 → f i = none → Nn H3) → tt (σ.set s (some (xs i))) H fun b H3 => br b (te (σ.set s (some (xs i))) H3 Ny) (Nn H3))
    (hd : ∀ H as, Same H1 H → H D = some (.lst (as.map V.ref)) → TupsAt H as ((List.range n).filterMap f) → Qd H) : lcW J (gName s) tt te [s] σ D H1 Qd := by
  have hl : ∀ i, ((List.range i).filterMap f).length ≤ i := fun i => Nat.le_trans (List.length_filterMap_le _ _) (by rw [List.length_range]; exact Nat.le_refl _)
  have up := fm_succ f
  refine lc_it w (fun i H => Same H1 H ∧ ∃ as, H D = some (.lst (as.map V.ref)) ∧ TupsAt H as ((List.range i).filterMap f)) ⟨same_new hD, [], upd_same, .nil⟩ (fun i H _ p => hG H p.1) (fun i x H H' hi p y => ?_) (fun H ⟨p1, as, p2, p3⟩ => hd H as p1 p2 p3)
  obtain ⟨rfl, rfl⟩ := y
  obtain ⟨sm, as, hH, ht⟩ := p
  refine ⟨wipe_one, ?_⟩
  rw [set_wipe]
  refine hs i H' hi sm _ _ (fun p v H4 s4 e hp => ?_) (fun H3 s3 e => ?_)
  · refine ⟨_, s4 _ _ hH, by have := hl i; have e2 := ht.len; rw [line_eq, List.length_map]; omega, ?_⟩
    have hD4 := s4 _ _ hH
    have nt : ∀ b u, H4 b = some (.tup u) → b ≠ D := fun b u hb z => by
      rw [z, hD4] at hb
      cases hb
    refine ⟨fun b o hb => ?_, as ++ [p], ?_, ?_⟩
    · have nb : b ≠ D := fun z => by
        rw [z, hD] at hb
        cases hb
      rw [upd_ne nb]
      exact s4 _ _ (sm _ _ hb)
    · rw [upd_same, List.map_append]
      rfl
    · rw [up, e]
      show TupsAt _ (as ++ [p]) (_ ++ [v])
      refine Two.snoc ?_ (Two.imp (ht.same s4) fun b u hb => ?_)
      · rw [upd_ne (nt _ _ hp)]
        exact hp
      · rw [upd_ne (nt _ _ hb)]
        exact hb
  · refine ⟨sm.trans s3, as, s3 _ _ hH, ?_⟩
    rw [up, e]
    rw [show (none : Option (List V)).toList = [] from rfl, List.append_nil]
    exact ht.same s3
theorem lc_tupsL (f : α → Option (List V)) (hD : H1 D = none) (ha : SqL K H1 a (l.map g)) (hn : l.length < 16777216)
    (hs : ∀ (x : α) (H : Hp), x ∈ l → Same H1 H → ∀ (Ny : V → Hp → Prop) (Nn : Hp → Prop), (∀ p v H4, Same H H4 → f x = some v → H4 p = some (.tup v) → Ny (.ref p) H4) → (∀ H3, Same H H3 → f x = none → Nn H3) → tt (σ.set s (some (g x))) H fun b H3 => br b (te (σ.set s (some (g x))) H3 Ny) (Nn H3))
    (hd : ∀ H as, Same H1 H → H D = some (.lst (as.map V.ref)) → TupsAt H as (l.filterMap f) → Qd H) : lcW (Itl K a) (gName s) tt te [s] σ D H1 Qd := by
  refine lc_tups walk_lst (fun i => if h : i < l.length then f l[i] else none) hD (by rw [List.length_map]; exact hn) (fun H sm => Same.seq sm ha) (fun i H hi sm Ny Nn h1 h2 => ?_) (fun H as sm h ht => hd H as sm h ?_)
  · rw [List.length_map] at hi
    rw [getD_map hi]
    exact hs l[i] H (List.getElem_mem hi) sm Ny Nn (fun p v H4 s4 e hp => h1 p v H4 s4 (by rw [dif_pos hi]; exact e) hp) (fun H3 s3 e => h2 H3 s3 (by rw [dif_pos hi]; exact e))
  · rw [List.length_map, range_fm f l _ (fun i hi => by rw [dif_pos hi])] at ht
    exact ht
end
end Y
set_option Elab.async false
set_option linter.all false
set_option maxRecDepth 100000
set_option maxHeartbeats 2000000
/-! Sets of texts and ints: made, put to, gathered, sorted. -/
namespace Y
open PySem PySem.Spec PyProof.Rows L2 PySem.Calls
/-- an entry that stands for a key -/
abbrev KeyE (w : World) (k : Key) (e : Int × Value) : Prop := keyIs k e.2 = true ∧ e.1 = keyH w k
/-- the set at a has the keys ks, each once, in an order of its own; it can be walked -/
def SetK (w : World) (h : Heap) (a : Addr) (ks : List Key) : Prop :=
  ∃ (o : Obj) (es : Array (Int × Value)) (ep : Nat) (t : SetTable) (l : List Key), (h.get? a = some o ∧ o.ExactSet ∧ o.data = .set es ep t) ∧ Two (KeyE w) l es.toList ∧ l.Perm ks ∧ ks.Nodup ∧ es.size < scanBound ∧ t.fits es.size = true ∧ Ris t.place.toList ∧
    (w.params.followText "set-order" = true ∨ t.led = true)
section
variable {P : Program} {w : World} {h h' : Heap} {a : Addr} {ks l : List Key} {k : Key} {x : Value} {A : Around} {E : Value → Shared → Prop} {s : Shared}
theorem key_scan (hx : keyIs k x = true) : x.scannable = true := by
  rcases keyIs_shape hx with ⟨i, t, _, rfl⟩ | ⟨y, t, _, rfl⟩ <;> rfl
theorem two_elems {m : List (Int × Value)} (d : Two (KeyE w) l m) : ElemsOf (mixKind P w) m := by
  induction d with
  | nil => intro e he; cases he
  | cons r _ ih =>
    intro e he
    rcases List.mem_cons.mp he with z | z
    · subst z
      exact ⟨⟨_, r.1, r.2⟩, key_scan r.1⟩
    · exact ih e z
theorem Two.memR {α β : Type} {R : α → β → Prop} : ∀ {l : List α} {m : List β} {b : β}, Two R l m → b ∈ m → ∃ a ∈ l, R a b
  | _, _, _, .nil, z => by cases z
  | _, _, b, .cons (a := c) (b := d) r t, z => by
    rcases List.mem_cons.mp z with e | z
    · subst e
      exact ⟨c, List.mem_cons_self, r⟩
    · obtain ⟨a, h1, h2⟩ := t.memR z
      exact ⟨a, List.mem_cons_of_mem _ h1, h2⟩
theorem Two.perm {α β : Type} {R : α → β → Prop} {m m' : List β} (p : m.Perm m') : ∀ {l : List α}, Two R l m → ∃ l', l'.Perm l ∧ Two R l' m' := by
  induction p with
  | nil => intro l d; exact ⟨l, List.Perm.refl _, d⟩
  | cons y _ ih =>
    intro l d
    cases d with
    | cons r t =>
      obtain ⟨l', p1, d1⟩ := ih t
      exact ⟨_ :: l', p1.cons _, .cons r d1⟩
  | swap y z m =>
    intro l d
    cases d with
    | cons r1 t =>
      cases t with
      | cons r2 t =>
        exact ⟨_, List.Perm.swap _ _ _, .cons r2 (.cons r1 t)⟩
  | trans _ _ ih1 ih2 =>
    intro l d
    obtain ⟨l1, p1, d1⟩ := ih1 d
    obtain ⟨l2, p2, d2⟩ := ih2 d1
    exact ⟨l2, p2.trans p1, d2⟩
theorem SetK.at_ (R : SetK w h a ks) (g : ∀ o, h.get? a = some o → h'.get? a = some o) : SetK w h' a ks := by
  obtain ⟨o, es, ep, t, l, ⟨e1, e2⟩, r⟩ := R
  exact ⟨o, es, ep, t, l, ⟨g o e1, e2⟩, r⟩
theorem stored {o : Obj} {fs gs : Array (Int × Value)} {ep : Nat} {t u : SetTable} (ho : h.get? a = some o) (hd : o.data = .set fs ep t) :
    (h.update a (Obj.putSet gs u)).get? a = some { o with data := .set gs (ep + 1) u } := by
  have e := putSet_of gs u hd
  refine Eq.trans (Heap.get?_update_self _ ho ?_) (congrArg some e)
  rw [e]
  rfl
/-- the end of an adding: what is laid is stored, laid anew where it is too full -/
theorem add_end {q : Bool → Sem Unit} (hq : ∀ (b : Bool) (r : Shared) (Z : Unit → Shared → Prop), Z () r → wpAny (model P w) A (q b) Z E r) {o : Obj} {fs gs : Array (Int × Value)} {ep : Nat} {t u : SetTable} {m : List Key} {dm : Bool} {Z : Option Bool → Shared → Prop}
    (ho : s.heap.get? a = some o) (hx : o.ExactSet) (hd : o.data = .set fs ep t) (d : Two (KeyE w) m gs.toList) (nd : m.Nodup) (hb : gs.size < scanBound) (hf : u.fits gs.size = true) (hr : Ris u.place.toList) (hl : w.params.followText "set-order" = true ∨ u.led = true)
    (hZ : ∀ h', Heap.SameBut a s.heap h' → SetK w h' a m → Z (some true) { s with heap := h' }) :
    wpAny (model P w) A (do
      storeSet a gs u
      if (!dm && u.tooFull) = true then do
        q (relayAll u gs (SetTable.grown gs.size)).2.2
        storeSet a (relayAll u gs (SetTable.grown gs.size)).1 (relayAll u gs (SetTable.grown gs.size)).2.1
        pure (some true)
      else pure (some true)) Z E s := by
  refine wpAny_bind (wpAny_storeSet_of ho hd ?_ (fits_of_scanBound hb))
  have ho1 := stored (gs := gs) (u := u) ho hd
  have c1 := Heap.SameBut.update s.heap a (Obj.putSet gs u)
  split
  · obtain ⟨m', p', d'⟩ := Two.perm (relayAll_perm u gs (SetTable.grown gs.size)).symm d
    have v1 := relayAll_perm u gs (SetTable.grown gs.size)
    have v2 := relayAll_fits u gs (SetTable.grown gs.size)
    have v3 := relayAll_ris u gs (SetTable.grown gs.size)
    have v4 := relayAll_led u gs (SetTable.grown gs.size)
    generalize relayAll u gs (SetTable.grown gs.size) = Y at v1 v2 v3 v4 d' ⊢
    obtain ⟨ys, v, gv⟩ := Y
    have z1 : ys.size = gs.size := by
      have := v1.length_eq
      rwa [Array.length_toList, Array.length_toList] at this
    have z2 : ys.size < scanBound := by rw [z1]; exact hb
    refine wpAny_bind (hq _ _ _ ?_)
    refine wpAny_bind (wpAny_storeSet_of ho1 rfl ?_ (fits_of_scanBound z2))
    refine wpAny_pure (hZ _ (c1.trans (Heap.SameBut.update _ a _)) ⟨_, ys, _, v, m', ⟨stored ho1 rfl, hx, rfl⟩, d', p', nd, z2, v2, v3, ?_⟩)
    rcases hl with z | z
    · exact .inl z
    · exact .inr (v4.trans z)
  · exact wpAny_pure (hZ _ c1 ⟨_, gs, _, u, m, ⟨ho1, hx, rfl⟩, d, List.Perm.refl _, nd, hb, hf, hr, hl⟩)
/-- a key put to a list of keys, where it isn't there -/
def addK (ks : List Key) (k : Key) : List Key := if ks.any (fun j => decide (j = k)) = true then ks else ks ++ [k]
theorem anyK : ks.any (fun j => decide (j = k)) = true ↔ k ∈ ks := by
  rw [List.any_eq_true]
  constructor
  · rintro ⟨j, h1, h2⟩
    rw [← of_decide_eq_true h2]
    exact h1
  · intro h
    exact ⟨k, h, decide_eq_true rfl⟩
theorem addK_old (h : k ∈ ks) : addK ks k = ks := if_pos (anyK.mpr h)
theorem addK_new (h : k ∉ ks) : addK ks k = ks ++ [k] := if_neg fun z => h (anyK.mp z)
theorem SetK.add {Z : Bool → Shared → Prop} (R : SetK w s.heap a ks) (hx : keyIs k x = true) (room : ks.length + 1 < scanBound)
    (hZ : ∀ h' b, Heap.SameBut a s.heap h' → SetK w h' a (addK ks k) → Z b { s with heap := h' }) : wpAny (model P w) A (setAddHashed a x (keyH w k)) Z E s := by
  obtain ⟨o, es, ep, t, l, ⟨ho, hex, hd⟩, d, p, nd, hb, hf, hr, hl⟩ := R
  have sc := key_scan hx
  have el : ElemsOf (mixKind P w) es.toList := two_elems d
  unfold setAddHashed setAddHashedIn
  refine wpAny_holding (wpAny_bind (wpAny_setState_of ho hd hf ?_))
  dsimp only
  rw [byScan_of sc hb el, if_pos rfl]
  unfold setAddByScan
  refine wpAny_bind (wpAny_bind (wpAny_rule (wpAny_bind (wpAny_setScan_of (knd := mixKind P w) (k := k) hx ho hd hf el ?_))))
  cases hi : List.findIdx? (fun e => (mixKind P w).is k e.2) es.toList with
  | some j =>
    obtain ⟨j1, j2, _⟩ := List.findIdx?_eq_some_iff_getElem.mp hi
    obtain ⟨k', m1, m2, _⟩ := d.memR (List.getElem_mem j1)
    have ek : k' = k := (mixKind P w).inj _ k' k m2 j2
    subst ek
    have mk : k' ∈ ks := p.mem_iff.mp m1
    refine wpAny_pure (wpAny_pure ?_)
    have g := hZ s.heap false (Heap.SameBut.refl a s.heap)
    rw [addK_old mk] at g
    exact g ⟨o, es, ep, t, l, ⟨ho, hex, hd⟩, d, p, nd, hb, hf, hr, hl⟩
  | none =>
    have nk : k ∉ ks := fun z => by
      obtain ⟨e, he, q1, _⟩ := d.mem (p.mem_iff.mpr z)
      have c := List.findIdx?_eq_none_iff.mp hi e he
      rw [show (mixKind P w).is k e.2 = keyIs k e.2 from rfl, q1] at c
      cases c
    have v1 := layNew_perm t es (keyH w k) x
    have v2 := layNew_fits t es (keyH w k) x
    have v3 := layNew_ris t es (keyH w k) x hr
    have v4 := layNew_led t es (keyH w k) x
    have d0 : Two (KeyE w) (l ++ [k]) (es.push (keyH w k, x)).toList := by
      rw [Array.toList_push]
      exact d.snoc ⟨hx, rfl⟩
    obtain ⟨m, p1, d1⟩ := Two.perm v1.symm d0
    generalize layNew t es (keyH w k) x = Y at v1 v2 v3 v4 d1 ⊢
    obtain ⟨gs, u, dm, gv⟩ := Y
    dsimp only at v1 v2 v3 v4 d1 ⊢
    have pm : m.Perm (ks ++ [k]) := p1.trans (p.append_right [k])
    have nd2 : (ks ++ [k]).Nodup := by
      rw [List.nodup_append]
      exact ⟨nd, by simp, fun i hi j hj e => nk (by rw [← List.mem_singleton.mp hj, ← e]; exact hi)⟩
    have ndm : m.Nodup := pm.nodup_iff.mpr nd2
    have zs : gs.size = ks.length + 1 := by
      have e2 := pm.length_eq
      rw [List.length_append, d1.len, Array.length_toList] at e2
      exact e2
    have zb : gs.size < scanBound := by rw [zs]; exact room
    have ul : w.params.followText "set-order" = true ∨ u.led = true := by
      rcases hl with z | z
      · exact .inl z
      · exact .inr (v4.trans z)
    have fin : ∀ h', Heap.SameBut a s.heap h' → SetK w h' a m → wpAny (model P w) A (pure true) Z E { s with heap := h' } := fun h' sb R' => by
      refine wpAny_pure (hZ h' true sb ?_)
      rw [addK_new nk]
      obtain ⟨o', es', ep', t', l', y, d', p', _, r⟩ := R'
      exact ⟨o', es', ep', t', l', y, d', p'.trans pm, nd2, r⟩
    refine wpAny_bind (wpAny_mono (Q := fun _ r => r = s) ?_ (fun _ r er => ?_) fun _ _ z => z)
    · cases gv <;> first | exact wpAny_pure rfl | exact wpAny_rule rfl
    subst er
    have gw : ∀ (u' : SetTable), u'.fits gs.size = true → Ris u'.place.toList → (w.params.followText "set-order" = true ∨ u'.led = true) → ∀ q : Bool → Sem Unit, (∀ (b : Bool) (r : Shared) (Z' : Unit → Shared → Prop), Z' () r → wpAny (model P w) A (q b) Z' E r) →
        wpAny (model P w) A (do
          storeSet a gs u'
          if (!dm && u'.tooFull) = true then do
            q (relayAll u' gs (SetTable.grown gs.size)).2.2
            storeSet a (relayAll u' gs (SetTable.grown gs.size)).1 (relayAll u' gs (SetTable.grown gs.size)).2.1
            pure (some true)
          else pure (some true)) (fun z r' => wpAny (model P w) A (match z with | some c => pure c | none => setAddHashedIn a x (keyH w k) 99999) Z E r') E r := fun u' f1 f2 f3 q hq =>
      add_end hq ho hex hd d1 ndm zb f1 f2 f3 fun h' sb R' => fin h' sb R'
    split
    · refine wpAny_bind ?_
      rw [hashByValue_scannable 8 sc]
      refine wpAny_pure ?_
      cases plainKind x with
      | true =>
        exact gw u v2 v3 ul _ fun b r Z' z => by cases b <;> first | exact wpAny_pure z | exact wpAny_rule z
      | false => exact gw { u with plain := false } (SetTable.fits_plain_off v2) v3 ul _ fun b r Z' z => by cases b <;> first | exact wpAny_pure z | exact wpAny_rule z
    · exact wpAny_bind (wpAny_pure (gw u v2 v3 ul _ fun b r Z' z => by cases b <;> first | exact wpAny_pure z | exact wpAny_rule z))
end
end Y
set_option Elab.async false
set_option linter.all false
set_option maxRecDepth 100000
set_option maxHeartbeats 2000000
/-! sorted of any length: ints or texts, tuples of them. -/
namespace Y
open PySem PySem.Spec PyProof.Rows L2 PySem.Calls
/-! ### the order -/
def ltK : Key → Key → Bool
  | .inl i, .inl j => decide (i < j)
  | .inr a, .inr b => decide (a.cps.toList < b.cps.toList)
  | .inl _, .inr _ => true
  | .inr _, .inl _ => false
theorem str_ext {a b : Str} (h : a.cps.toList = b.cps.toList) : a = b := by
  cases a
  cases b
  rename_i x y
  have : x = y := Array.toList_inj.mp h
  rw [this]
theorem ltK_asym : ∀ {a b : Key}, ltK a b = true → ltK b a = false
  | .inl i, .inl j, h => by
    have := of_decide_eq_true (p := i < j) h
    exact decide_eq_false (p := j < i) (by omega)
  | .inr a, .inr b, h => by
    have := of_decide_eq_true (p := a.cps.toList < b.cps.toList) h
    exact decide_eq_false (p := b.cps.toList < a.cps.toList) (List.lt_asymm this)
  | .inl _, .inr _, _ => rfl
  | .inr _, .inl _, h => by cases h
theorem ltK_tr : ∀ {a b c : Key}, ltK b a = false → ltK c b = false → ltK c a = false
  | .inl i, .inl j, .inl k, h1, h2 => by
    have := of_decide_eq_false (p := j < i) h1
    have := of_decide_eq_false (p := k < j) h2
    exact decide_eq_false (p := k < i) (by omega)
  | .inr a, .inr b, .inr c, h1, h2 => by
    have g1 : a.cps.toList ≤ b.cps.toList := of_decide_eq_false (p := b.cps.toList < a.cps.toList) h1
    have g2 : b.cps.toList ≤ c.cps.toList := of_decide_eq_false (p := c.cps.toList < b.cps.toList) h2
    exact decide_eq_false (p := c.cps.toList < a.cps.toList) (List.le_trans g1 g2)
  | .inl _, .inl _, .inr _, _, _ => rfl
  | .inl _, .inr _, .inr _, _, _ => rfl
  | .inl _, .inr _, .inl _, _, h => by cases h
  | .inr _, .inl _, _, h, _ => by cases h
  | .inr _, .inr _, .inl _, _, h => by cases h
theorem ltK_tri : ∀ {a b : Key}, ltK a b = false → ltK b a = false → a = b
  | .inl i, .inl j, h1, h2 => by
    have := of_decide_eq_false (p := i < j) h1
    have := of_decide_eq_false (p := j < i) h2
    congr 1
    omega
  | .inr a, .inr b, h1, h2 => by
    have g1 : b.cps.toList ≤ a.cps.toList := of_decide_eq_false (p := a.cps.toList < b.cps.toList) h1
    have g2 : a.cps.toList ≤ b.cps.toList := of_decide_eq_false (p := b.cps.toList < a.cps.toList) h2
    exact congrArg _ (str_ext (List.le_antisymm g2 g1))
  | .inl _, .inr _, h, _ => by cases h
  | .inr _, .inl _, _, h => by cases h
def lexK : List Key → List Key → Bool
  | [], [] => false
  | [], _ :: _ => true
  | _ :: _, [] => false
  | a :: r, b :: t => if a = b then lexK r t else ltK a b
theorem lexK_cons {a b : Key} {r t : List Key} : lexK (a :: r) (b :: t) = if a = b then lexK r t else ltK a b := rfl
theorem lexK_asym : ∀ {p q : List Key}, lexK p q = true → lexK q p = false
  | [], [], _ => rfl
  | [], _ :: _, _ => rfl
  | _ :: _, [], h => by cases h
  | a :: r, b :: t, h => by
    rw [lexK_cons] at h ⊢
    by_cases e : a = b
    · rw [if_pos e] at h
      rw [if_pos e.symm]
      exact lexK_asym h
    · rw [if_neg e] at h
      rw [if_neg (fun z => e z.symm)]
      exact ltK_asym h
theorem lexK_tr : ∀ {p q u : List Key}, lexK q p = false → lexK u q = false → lexK u p = false
  | [], [], u, _, h => h
  | [], _ :: _, [], _, h => by cases h
  | [], _ :: _, _ :: _, _, _ => rfl
  | _ :: _, [], _, h, _ => by cases h
  | _ :: _, _ :: _, [], _, h => by cases h
  | a :: r, b :: t, c :: v, h1, h2 => by
    rw [lexK_cons] at h1 h2 ⊢
    by_cases e1 : b = a
    · by_cases e2 : c = b
      · rw [if_pos e1] at h1
        rw [if_pos e2] at h2
        rw [if_pos (e2.trans e1)]
        exact lexK_tr h1 h2
      · rw [if_neg e2] at h2
        rw [if_neg (fun z => e2 (z.trans e1.symm)), ← e1]
        exact h2
    · rw [if_neg e1] at h1
      by_cases e2 : c = b
      · rw [e2, if_neg e1]
        exact h1
      · rw [if_neg e2] at h2
        have g := ltK_tr h1 h2
        by_cases e3 : c = a
        · rw [e3] at h2
          exact absurd (ltK_tri h1 h2) e1
        · rw [if_neg e3]
          exact g
theorem lexK_tri : ∀ {p q : List Key}, lexK p q = false → lexK q p = false → p = q
  | [], [], _, _ => rfl
  | [], _ :: _, h, _ => by cases h
  | _ :: _, [], _, h => by cases h
  | a :: r, b :: t, h1, h2 => by
    rw [lexK_cons] at h1 h2
    by_cases e : a = b
    · rw [if_pos e] at h1
      rw [if_pos e.symm] at h2
      rw [e, lexK_tri h1 h2]
    · rw [if_neg e] at h1
      rw [if_neg (fun z => e z.symm)] at h2
      exact absurd (ltK_tri h1 h2) e
theorem swo_key {α : Type} (k : α → Key) : SrtO.Swo fun v u : α => ltK (k v) (k u) := ⟨fun _ _ h => ltK_asym h, fun _ _ _ h1 h2 => ltK_tr h1 h2⟩
theorem swo_lexK {α : Type} (k : α → List Key) : SrtO.Swo fun v u : α => lexK (k v) (k u) := ⟨fun _ _ h => lexK_asym h, fun _ _ _ h1 h2 => lexK_tr h1 h2⟩
/-! ### how values compare -/
section
variable {P : Program} {w : World} {A : Around} {E : Value → Shared → Prop} {s : Shared}
def kindK : Key → Bool
  | .inl _ => true
  | .inr _ => false
theorem one_lt {b : Bool} {a c : Key} {x y : Value} {Q : Bool → Shared → Prop} (hx : keyIs a x = true) (hy : keyIs c y = true) (hk : kindK a = kindK c) (h : Q (ltK a c) s) : wpAny (model P w) A (oneLt' b x y) Q (fun _ _ => False) s := by
  rcases keyIs_shape hx with ⟨i, t, rfl, rfl⟩ | ⟨i, t, rfl, rfl⟩ <;> rcases keyIs_shape hy with ⟨j, u, rfl, rfl⟩ | ⟨j, u, rfl, rfl⟩
  · cases b with
    | true => exact oneLt_int h
    | false => exact PySem.W.kat_one _ _ (PyProof.Rows.lt_int h)
  · cases hk
  · cases hk
  · cases b with
    | true => exact oneLt_str h
    | false => exact PySem.W.kat_one _ _ (PyProof.Rows.lt_str h)
theorem lex_run {fin : Bool} {Q : Bool → Shared → Prop} (hf : fin = false) : ∀ {p q : List Key} {l m : List Value} (i : Nat), Two (fun k x => keyIs k x = true) p l → Two (fun k x => keyIs k x = true) q m → p.map kindK = q.map kindK → Q (lexK p q) s → PySem.W.KatLex P w A true fin Q (l.zip m) i s
  | _, _, _, _, _, .nil, .nil, _, h => by
    rw [hf]
    exact PySem.W.kat_nil h
  | _, _, _, _, _, .nil, .cons _ _, e, _ => by simp at e
  | _, _, _, _, _, .cons _ _, .nil, e, _ => by simp at e
  | _, _, _, _, i, .cons (a := a) (b := x) (l := r) hx t, .cons (a := c) (b := y) (l := r2) hy u, e, h => by
    rw [List.map_cons, List.map_cons] at e
    injection e with e1 e2
    rw [List.zip_cons_cons]
    refine PySem.W.kat_cons ((mixKind P w).eqBool (a := a) (b := c) hx hy ?_)
    rw [lexK_cons] at h
    refine PySem.W.kat_go (fun z => ?_) (fun z => ?_)
    · rw [if_pos (of_decide_eq_true z)] at h
      exact PySem.W.kat_yes (lex_run hf (i + 1) t u e2 h)
    · rw [if_neg (of_decide_eq_false z)] at h
      exact PySem.W.kat_no (one_lt hx hy e1 h)
/-- a tuple that is known by its keys -/
def TupK (h : Heap) (v : Value) (ks : List Key) : Prop := ∃ (a : Addr) (o : Obj) (its : Array Value) (n : Nat), v = .ref a ∧ h.get? a = some o ∧ o.cls = .type "tuple" ∧ o.data = .seq its n ∧ Two (fun k x => keyIs k x = true) ks its.toList
theorem TupK.keeps {h h' : Heap} {v : Value} {ks : List Key} (x : TupK h v ks) (g : ∀ b o, h.get? b = some o → o.cls = .type "tuple" → h'.get? b = some o) : TupK h' v ks := by
  obtain ⟨a, o, its, n, e1, e2, e3, r⟩ := x
  exact ⟨a, o, its, n, e1, g a o e2 e3, e3, r⟩
theorem tup_cmp {vs : List Value} {k : Value → List Key} {sh : List Bool} (hp : ∀ v ∈ vs, TupK s.heap v (k v) ∧ (k v).map kindK = sh) : SrtO.Cmp P w A s (tuples' true) (fun p => p.1 ∈ vs) (SrtO.lt2 fun v u => lexK (k v) (k u)) := by
  intro p q hm hm'
  obtain ⟨⟨a, o, its, n, e1, e2, _, e4, d1⟩, s1⟩ := hp _ hm
  obtain ⟨⟨b, o', ms, n', f1, f2, _, f4, d2⟩, s2⟩ := hp _ hm'
  show wpAny (model P w) A (keyLt' (tuples' true) p.1 q.1) (fun r s' => s' = s ∧ r = lexK (k p.1) (k q.1)) (fun _ _ => False) s
  have hz : its.size = ms.size := by
    have h1 := d1.len
    have h2 := d2.len
    have h3 := congrArg List.length (s1.trans s2.symm)
    rw [List.length_map, List.length_map] at h3
    rw [← Array.length_toList, ← Array.length_toList]
    omega
  have run : PySem.W.KatLex P w A true (decide (its.size < ms.size)) (fun r s' => s' = s ∧ r = lexK (k p.1) (k q.1)) (its.toList.zip ms.toList) 0 s := lex_run (decide_eq_false (by omega)) 0 d1 d2 (s1.trans s2.symm) ⟨rfl, rfl⟩
  rw [e1, f1]
  rw [e1, f1] at run
  exact PySem.W.kat_lt e2 e4 f2 f4 run
theorem tup_firsts {h : Heap} {c : Bool} : ∀ {vs : List Value} {k : Value → List Key} {sh : List Bool}, (∀ v ∈ vs, TupK h v (k v) ∧ (k v).map kindK = c :: sh) → ∃ fs : List Value, PySem.W.KatTups h vs fs ∧ fs.length = vs.length ∧ ∀ f ∈ fs, ∃ a, keyIs a f = true ∧ kindK a = c
  | [], _, _, _ => ⟨[], PySem.W.KatTups.nil, rfl, fun _ hm => by cases hm⟩
  | v :: vs, k, sh, hp => by
    obtain ⟨fs, h1, h2, h3⟩ := tup_firsts (vs := vs) (k := k) (sh := sh) fun u hu => hp u (List.mem_cons_of_mem _ hu)
    obtain ⟨⟨a, o, its, n, e1, e2, e3, e4, d⟩, sv⟩ := hp v List.mem_cons_self
    generalize hk : k v = ks at d sv
    obtain ⟨li⟩ := its
    replace d : Two (fun k x => keyIs k x = true) ks li := d
    cases d with
    | nil => simp at sv
    | cons r t =>
      rename_i kk f ks' m
      rw [List.map_cons] at sv
      injection sv with sv1 sv2
      subst e1
      refine ⟨f :: fs, PySem.W.KatTups.cons e2 e3 e4 ?_ h1, by rw [List.length_cons, List.length_cons, h2], fun g hg => ?_⟩
      · rw [← Array.getElem?_toList]
        rfl
      · rcases List.mem_cons.mp hg with z | z
        · subst z
          exact ⟨kk, r, sv1⟩
        · exact h3 g z
theorem tup_sortable {a : Addr} {vs : List Value} {k : Value → List Key} {c : Bool} {sh : List Bool} (h0 : 0 < vs.length) (hp : ∀ v ∈ vs, TupK s.heap v (k v) ∧ (k v).map kindK = c :: sh) (ha : ∀ o, s.heap.get? a = some o → o.cls ≠ .type "tuple") : SrtO.SortableO P w A s a vs fun v u => lexK (k v) (k u) := by
  intro h' keep
  have hp' : ∀ v ∈ vs, TupK h' v (k v) ∧ (k v).map kindK = c :: sh := fun v hm => ⟨(hp v hm).1.keeps fun b o e z => keep b o (fun z2 => by subst z2; exact ha o e z) e, (hp v hm).2⟩
  obtain ⟨fs, h1, h2, h3⟩ := tup_firsts hp'
  refine ⟨tuples' true, fun Q E hq => ?_, tup_cmp hp'⟩
  refine PySem.W.kat_kind (T := .type (if c = true then "int" else "str")) h1 (by omega) (fun f hm => ?_) (beq_self_eq_true _) ?_
  · obtain ⟨a, ha, hc⟩ := h3 f hm
    rcases keyIs_shape ha with ⟨i, t, rfl, rfl⟩ | ⟨i, t, rfl, rfl⟩
    · have hc' : true = c := hc
      subst hc'
      exact PySem.W.Looks.now
    · have hc' : false = c := hc
      subst hc'
      exact PySem.W.Looks.now
  · have e : (Value.type (if c = true then "int" else "str") != Value.type "tuple") = true := by cases c <;> decide +kernel
    rw [e]
    exact hq
/-- ints alone or texts alone -/
theorem key_sortable {a : Addr} {vs : List Value} {k : Value → Key} {c : Bool} (h2 : 2 ≤ vs.length) (hp : ∀ v ∈ vs, keyIs (k v) v = true ∧ kindK (k v) = c) : SrtO.SortableO P w A s a vs fun v u => ltK (k v) (k u) := by
  intro h' _
  refine ⟨oneType', fun Q E hq => ?_, fun p q hm hm' => ?_⟩
  · cases c with
    | true =>
      have hI : IntsAre vs (vs.map SrtO.iv) := SrtO.ints_iv fun v hv => by
        obtain ⟨h1, h3⟩ := hp v hv
        rcases keyIs_shape h1 with ⟨i, t, e, e'⟩ | ⟨i, t, e, _⟩
        · exact ⟨i, t, e'⟩
        · rw [e] at h3; cases h3
      match vs, hI, h2 with
      | v1 :: v2 :: rest, hI, _ =>
        rw [keyKind_ints hI]
        exact wpAny_pure hq
      | [], _, h => exact absurd h (by decide)
      | [v], _, h => exact absurd h (by simp)
    | false =>
      have hI : StrsAre vs (vs.map strOf) := strsAre_map vs fun v hv => by
        obtain ⟨h1, h3⟩ := hp v hv
        rcases keyIs_shape h1 with ⟨i, t, e, e'⟩ | ⟨i, t, _, e'⟩
        · rw [e] at h3; cases h3
        · exact ⟨i, t, e'⟩
      match vs, hI, h2 with
      | v1 :: v2 :: rest, hI, _ =>
        rw [keyKind_strs hI]
        exact wpAny_pure hq
      | [], _, h => exact absurd h (by decide)
      | [v], _, h => exact absurd h (by simp)
  · obtain ⟨h1, h3⟩ := hp _ hm
    obtain ⟨h4, h5⟩ := hp _ hm'
    show wpAny (model P w) A (keyLt' oneType' p.1 q.1) _ _ _
    rw [keyLt'_oneType]
    exact one_lt h1 h4 (h3.trans h5.symm) ⟨rfl, rfl⟩
end
end Y

namespace Y
open PySem PySem.Spec PyProof.Rows L2 PySem.Calls
/-! ### values by their keys -/
def vK : Value → Key
  | .int i _ => .inl i
  | .str x _ => .inr x
  | _ => .inl 0
theorem vK_of {k : Key} {v : Value} (h : keyIs k v = true) : vK v = k := by
  rcases keyIs_shape h with ⟨i, t, rfl, rfl⟩ | ⟨i, t, rfl, rfl⟩ <;> rfl
theorem relV_key {k : Key} {v : Value} : RelV (kV k) v ↔ keyIs k v = true := by
  constructor
  · intro h
    cases k with
    | inl i =>
      obtain ⟨t, rfl⟩ := h
      exact keyIs_int i t
    | inr x =>
      obtain ⟨t, rfl⟩ := h
      exact keyIs_str x t
  · intro h
    rcases keyIs_shape h with ⟨i, t, rfl, rfl⟩ | ⟨i, t, rfl, rfl⟩
    · exact ⟨t, rfl⟩
    · exact ⟨t, rfl⟩
abbrev KeyVs (ks : List Key) (its : List Value) : Prop := Two (fun k x => keyIs k x = true) ks its
theorem keyVs_of : ∀ {ks : List Key} {its : List Value}, Vals (ks.map kV) its → KeyVs ks its
  | [], _, h => by
    cases h
    exact .nil
  | k :: ks, _, h => by
    cases h with
    | cons r t => exact .cons (relV_key.mp r) (keyVs_of t)
theorem keyVs_to : ∀ {ks : List Key} {its : List Value}, KeyVs ks its → Vals (ks.map kV) its
  | _, _, .nil => .nil
  | _, _, .cons r t => .cons (relV_key.mpr r) (keyVs_to t)
theorem keyVs_pw {lt : Key → Key → Prop} : ∀ {ks : List Key} {its : List Value}, KeyVs ks its → its.Pairwise (fun x y => lt (vK x) (vK y)) → ks.Pairwise lt
  | _, _, .nil, _ => List.Pairwise.nil
  | _, _, .cons (a := k) (b := x) r t, h => by
    obtain ⟨h1, h2⟩ := List.pairwise_cons.mp h
    refine List.pairwise_cons.mpr ⟨fun k' hk => ?_, keyVs_pw t h2⟩
    obtain ⟨y, hy, ry⟩ := t.mem hk
    have := h1 y hy
    rw [vK_of r, vK_of ry] at this
    exact this
theorem keyVs_good {ks : List Key} {its : List Value} {c : Bool} (d : KeyVs ks its) (hc : ∀ k ∈ ks, kindK k = c) : ∀ v ∈ its, keyIs (vK v) v = true ∧ kindK (vK v) = c := fun v hv => by
  obtain ⟨k, hk, r⟩ := d.memR hv
  rw [vK_of r]
  exact ⟨r, hc k hk⟩
theorem keyVs_out {ks : List Key} {its out : List Value} (d : KeyVs ks its) (hp : out.Perm its) (hs : SrtO.Srtd (fun v u => ltK (vK v) (vK u)) out) : ∃ zs : List Key, zs.Perm ks ∧ KeyVs zs out ∧ zs.Pairwise fun x y => ltK y x = false := by
  obtain ⟨zs, p, d'⟩ := Two.perm hp.symm d
  exact ⟨zs, p, d', keyVs_pw (lt := fun x y => ltK y x = false) d' hs⟩
section
variable {X : Cx}
/-- sorted(xs) of ints alone or texts alone, any number of them -/
def rSortedKL (K : PySem.W.Frag) : List V → Hp → VK → Prop := fun xs H Q => ∃ (a : Addr) (ks : List Key) (c : Bool), xs = [.ref a] ∧ SqL K H a (ks.map kV) ∧ (∀ k ∈ ks, kindK k = c) ∧
  ∀ (zs : List Key) (p : Addr), zs.Perm ks → (zs.Pairwise fun x y => ltK y x = false) → H p = none → Q (.ref p) (upd H p (.lst (zs.map kV)))
theorem y_sortedKL {K : PySem.W.Frag} (hK : X.K = K := by rfl) : CallR X (.builtin "sorted") (rSortedKL K) := by
  subst hK
  intro pins s σ H xs us Q I r q
  obtain ⟨a, ks, c, rfl, hs, hc, q⟩ := q
  obtain ⟨its, rv, hl, hz⟩ := I.list hs
  rw [Vals.ref1 r]
  have d := keyVs_of rv
  refine SrtO.sorted_ord (swo_key vK) hl.isList (by rw [← rv.length]; exact hz) (fun h2 h₁ a' _ _ => key_sortable h2 (keyVs_good d hc)) fun out h1 h2 => ?_
  obtain ⟨zs, p, d', pw⟩ := keyVs_out d h2.perm h1
  obtain ⟨ep, he'⟩ := PyProof.Rows.sortedAll_at s.heap its out.toArray
  have hlen : (zs.map kV).length ≤ sizeLine := by
    rw [List.length_map, p.length_eq]
    rw [List.length_map] at hz
    exact hz
  exact ⟨.ref _, upd H (s.heap.objs.size + 1) (.lst (zs.map kV)), I.laid (t' := s.toks) (fun _ _ e => PyProof.Rows.sortedAll_old e) (Nat.le_succ _) ⟨hlen, out, ep, keyVs_to d', he'⟩, rfl, q zs _ p pw (I.hok.fresh (Nat.le_succ _))⟩
/-- tuples that stand at addresses, with their keys -/
structure TK where
  a : Addr
  ks : List Key
abbrev TKsAt (H : Hp) (ts : List TK) : Prop := ∀ t ∈ ts, H t.a = some (.tup (t.ks.map kV))
theorem kV_inj : ∀ {a b : Key}, kV a = kV b → a = b
  | .inl i, .inl j, h => by
    have : V.int i = V.int j := h
    cases this
    rfl
  | .inr i, .inr j, h => by
    have : V.str i = V.str j := h
    cases this
    rfl
  | .inl i, .inr j, h => by
    have : V.int i = V.str j := h
    cases this
  | .inr i, .inl j, h => by
    have : V.str i = V.int j := h
    cases this
theorem kVs_inj : ∀ {l m : List Key}, l.map kV = m.map kV → l = m
  | [], [], _ => rfl
  | [], _ :: _, h => by simp at h
  | _ :: _, [], h => by simp at h
  | a :: l, b :: m, h => by
    rw [List.map_cons, List.map_cons] at h
    injection h with h1 h2
    rw [kV_inj h1, kVs_inj h2]
open Classical in
/-- the keys of the tuple that a value names -/
noncomputable def tupKeys (H : Hp) (v : Value) : List Key := if h : ∃ (a : Addr) (ks : List Key), v = .ref a ∧ H a = some (.tup (ks.map kV)) then h.choose_spec.choose else []
theorem tupKeys_of {H : Hp} {a : Addr} {ks : List Key} (h : H a = some (.tup (ks.map kV))) : tupKeys H (.ref a) = ks := by
  have ex : ∃ (a' : Addr) (ks' : List Key), Value.ref a = .ref a' ∧ H a' = some (.tup (ks'.map kV)) := ⟨a, ks, rfl, h⟩
  unfold tupKeys
  rw [dif_pos ex]
  obtain ⟨e1, e2⟩ := ex.choose_spec.choose_spec
  have e3 : a = ex.choose := Value.ref.inj e1
  have e4 := h.symm.trans ((congrArg H e3).trans e2)
  exact (kVs_inj (HO.tup.inj (Option.some.inj e4))).symm
theorem refs_of : ∀ {ts : List TK} {its : List Value}, Vals (ts.map fun t => V.ref t.a) its → its = ts.map fun t => Value.ref t.a
  | [], _, h => by
    cases h
    rfl
  | t :: ts, _, h => by
    cases h with
    | cons r q =>
      cases r
      rw [refs_of q]
      rfl
theorem refs_to : ∀ {ts : List TK}, Vals (ts.map fun t => V.ref t.a) (ts.map fun t => Value.ref t.a)
  | [] => .nil
  | _ :: _ => .cons rfl refs_to
/-- sorted(xs) of tuples of one form, any number of them -/
def rSortedTL (K : PySem.W.Frag) : List V → Hp → VK → Prop := fun xs H Q => ∃ (a : Addr) (ts : List TK) (c : Bool) (sh : List Bool), xs = [.ref a] ∧ SqL K H a (ts.map fun t => V.ref t.a) ∧ TKsAt H ts ∧ (∀ t ∈ ts, t.ks.map kindK = c :: sh) ∧
  ∀ (zs : List TK) (p : Addr), zs.Perm ts → (zs.Pairwise fun x y => lexK y.ks x.ks = false) → H p = none → Q (.ref p) (upd H p (.lst (zs.map fun t => V.ref t.a)))
theorem y_sortedTL {K : PySem.W.Frag} (hK : X.K = K := by rfl) : CallR X (.builtin "sorted") (rSortedTL K) := by
  subst hK
  intro pins s σ H xs us Q I r q
  obtain ⟨a, ts, c, sh, rfl, hs, ht, hc, q⟩ := q
  obtain ⟨its, rv, hl, hz⟩ := I.list hs
  rw [Vals.ref1 r]
  have ei := refs_of rv
  subst ei
  have good : ∀ v ∈ ts.map (fun t => Value.ref t.a), TupK s.heap v (tupKeys H v) ∧ (tupKeys H v).map kindK = c :: sh := fun v hv => by
    obtain ⟨t, hm, rfl⟩ := List.mem_map.mp hv
    have h := ht t hm
    rw [tupKeys_of h]
    obtain ⟨_, its2, r2, o, ho, hcl, n, hd⟩ := I.hok _ _ h
    exact ⟨⟨t.a, o, _, n, rfl, ho, hcl, hd, keyVs_of r2⟩, hc t hm⟩
  refine SrtO.sorted_ord (swo_lexK (tupKeys H)) hl.isList (by rw [← rv.length]; exact hz) (fun h2 h₁ a' ha' kk => tup_sortable (s := { s with heap := h₁ }) (by omega) (fun v hm => ⟨(good v hm).1.keeps fun b o e _ => (kk b o e).2, (good v hm).2⟩) fun o e => ?_) fun out h1 h2 => ?_
  · rw [ha'] at e
    cases e
    intro z
    exact absurd (Value.type.inj z) (by decide)
  · obtain ⟨zs, p, ez⟩ := perm_lift (fun t : TK => Value.ref t.a) h2.perm ts rfl
    subst ez
    obtain ⟨ep, he'⟩ := PyProof.Rows.sortedAll_at s.heap (ts.map fun t => Value.ref t.a) (zs.map fun t => Value.ref t.a).toArray
    have hlen : (zs.map fun t => V.ref t.a).length ≤ sizeLine := by
      rw [List.length_map, p.length_eq]
      rw [List.length_map] at hz
      exact hz
    refine ⟨.ref _, upd H (s.heap.objs.size + 1) (.lst (zs.map fun t => V.ref t.a)), I.laid (t' := s.toks) (fun _ _ e => PyProof.Rows.sortedAll_old e) (Nat.le_succ _) ⟨hlen, _, ep, refs_to, he'⟩, rfl, q zs _ p ?_ (I.hok.fresh (Nat.le_succ _))⟩
    have h3 := List.pairwise_map.mp h1
    refine List.Pairwise.imp_of_mem (fun {x y} hx hy g => ?_) h3
    have g1 := tupKeys_of (ht x (p.mem_iff.mp hx))
    have g2 := tupKeys_of (ht y (p.mem_iff.mp hy))
    have g' : lexK (tupKeys H (.ref y.a)) (tupKeys H (.ref x.a)) = false := g
    rw [g1, g2] at g'
    exact g'
end
end Y

namespace Y
open PySem PySem.Spec PyProof.Rows L2 PySem.Calls
theorem two_ix {α β : Type} {R : α → β → Prop} : ∀ {l : List α} {m : List β}, l.length = m.length → (∀ (j : Nat) (b : β), m[j]? = some b → ∃ a, l[j]? = some a ∧ R a b) → Two R l m
  | [], [], _, _ => .nil
  | [], _ :: _, e, _ => by simp at e
  | _ :: _, [], e, _ => by simp at e
  | a :: l, b :: m, e, h => by
    refine .cons ?_ (two_ix (by simpa using e) fun j c hj => h (j + 1) c (by rw [List.getElem?_cons_succ]; exact hj))
    obtain ⟨a', h1, h2⟩ := h 0 b rfl
    cases h1
    exact h2
/-- a set, as a tracked thing -/
def SetKO (w : World) (a : Addr) (ks : List Key) : HO := .ext fun h => SetK w h a ks
theorem setKO_ok {w : World} {P : Program} {H : Hp} {h : Heap} {a : Addr} {ks : List Key} (R : SetK w h a ks) : ObjOk P w H h a (SetKO w a ks) := by
  have ⟨o, _, _, _, _, ⟨ho, _⟩, _⟩ := R
  exact ⟨R, ⟨o, ho⟩, fun h1 h2 p k => SetK.at_ p k⟩
section
variable {X : Cx}
theorem setKO_get {pins : List (Addr × Obj)} {σ : L2.St} {H : Hp} {s : Shared} {a : Addr} {ks : List Key} (I : Inv X pins σ H s) (ha : H a = some (SetKO X.w a ks)) : SetK X.w s.heap a ks := (I.hok a _ ha).1
/-- sorted(d) of a dict whose keys are ints alone or texts alone -/
def rSortedDK : List V → Hp → VK → Prop := fun xs H Q => ∃ (a : Addr) (kvs : List (Key × V)) (c : Bool), xs = [.ref a] ∧ Rd H a (.dK kvs) ∧ (∀ k ∈ kvs.map (·.1), kindK k = c) ∧
  ∀ (zs : List Key) (p : Addr), zs.Perm (kvs.map (·.1)) → (zs.Pairwise fun x y => ltK y x = false) → H p = none → Q (.ref p) (upd H p (.lst (zs.map kV)))
theorem y_sortedDK (hcalm : X.calm = true) : CallR X (.builtin "sorted") rSortedDK := by
  intro pins s σ H xs us Q I r q
  obtain ⟨a, kvs, c, ex, hd, hc, q⟩ := q
  subst ex
  obtain ⟨u, eu, rx⟩ := vals1 r
  subst eu
  cases rx
  obtain ⟨z, lo, vs, rel, dd⟩ := dk_rd I.hok hd
  obtain ⟨ep, hat⟩ := dd.dictAt
  have hkeys : kvs.map (·.1) = vs.map (·.1) := rel.keys
  have h16 : vs.length ≤ sizeLine := by rw [← rel.length]; exact z
  refine Calls.call_function_entry PyProof.Rows.kind_sorted PyProof.Rows.plain_sorted PyProof.Rows.entry_sorted (PyProof.Rows.args_sorted1 _) ?_
  unfold Builtin.«sorted»
  refine wpAny_bind (m := checkCount "sorted" 1 1 _) (wpAny_pure ?_)
  refine wpAny_bind (PySem.W.kdu_collect (A := X.A.in1) (PySem.W.kdl_dict (knd := mixKind X.prog X.w) (kvs := vs) (ep := ep) lo) (I.ok.hd hcalm) hat h16 fun h' tk acc hk hacc => ?_)
  have hal : acc.toList.length = vs.length := by rw [Array.length_toList, hacc.1]
  have d : KeyVs (vs.map (·.1)) acc.toList := two_ix (by rw [List.length_map, hal]) fun j v e => by
    obtain ⟨k, x, e1, e2⟩ := hacc.2 j v (by rw [← Array.getElem?_toList]; exact e)
    exact ⟨k, by rw [List.getElem?_map, e1]; rfl, e2⟩
  have I1 : L2.Inv X pins σ H { s with heap := h', toks := tk } := I.kept hk
  have hz : acc.toList.length ≤ sizeLine := by rw [hal]; exact h16
  refine wpAny_bind (wpAny_newList ?_ hz)
  have hoL : (h'.push (seqObj "list" acc.toList.toArray 0)).get? h'.objs.size = some (seqObj "list" acc.toList.toArray 0) := Heap.get?_push_size _ rfl
  show wpAny _ _ _ _ _ { s with heap := h'.push (seqObj "list" acc.toList.toArray 0), toks := tk }
  refine wpAny_bind (wpAny_holding (wpAny_call_entry PyProof.Rows.slot_list_sort ⟨_, hoL, rfl⟩ PyProof.Rows.entry_list_sort
    (SrtO.list_sort_ord (s := { s with heap := h'.push (seqObj "list" acc.toList.toArray 0), toks := tk }) (swo_key vK) hoL hz (fun h2 => key_sortable h2 (keyVs_good d (fun k hk => hc k (by rw [hkeys]; exact hk)))) fun out h1 h2 => ⟨_, rfl, ?_⟩) (PyProof.Rows.args_list_sort _)))
  obtain ⟨zs, p, d', pw⟩ := keyVs_out d h2.perm h1
  obtain ⟨e', he'⟩ := PyProof.Rows.sortedHeap_at (vs := acc.toList) (out := out.toArray) hoL
  have hlen : (zs.map kV).length ≤ sizeLine := by
    rw [List.length_map, p.length_eq, List.length_map]
    exact h16
  refine wpAny_pure ⟨_, rfl, .ref h'.objs.size, upd H h'.objs.size (.lst (zs.map kV)), I1.laid (t' := tk) (fun b u e => ?_) (Nat.le_refl _)
    (show ObjOk X.prog X.w _ _ _ (.lst (zs.map kV)) from ⟨hlen, out, e', keyVs_to d', he'⟩), rfl, q zs _ (by rw [hkeys]; exact p) pw (I1.hok.fresh (Nat.le_refl _))⟩
  have hb : b < h'.objs.size := Heap.lt_size e
  rw [PyProof.Rows.sortedHeap_old (Nat.ne_of_lt hb) (by rw [size_push']; exact Nat.lt_succ_of_lt hb)]
  exact Heap.get?_push_of_some _ e
/-- sorted(x) of a set of ints alone or texts alone -/
def rSortedSK (w : World) : List V → Hp → VK → Prop := fun xs H Q => ∃ (a : Addr) (ks : List Key) (c : Bool), xs = [.ref a] ∧ H a = some (SetKO w a ks) ∧ (∀ k ∈ ks, kindK k = c) ∧
  ∀ (zs : List Key) (p : Addr), zs.Perm ks → (zs.Pairwise fun x y => ltK y x = false) → H p = none → Q (.ref p) (upd H p (.lst (zs.map kV)))
theorem y_sortedSK (hcalm : X.calm = true) : CallR X (.builtin "sorted") (rSortedSK X.w) := by
  intro pins s σ H xs us Q I r q
  obtain ⟨a, ks, c, ex, ha, hc, q⟩ := q
  subst ex
  obtain ⟨o, es, ep, t, l, ⟨ho, hex, hd⟩, d0, p0, nd, hb, hf, hr, hl⟩ := setKO_get I ha
  rw [Vals.ref1 r]
  refine Calls.call_function_entry PyProof.Rows.kind_sorted PyProof.Rows.plain_sorted PyProof.Rows.entry_sorted (PyProof.Rows.args_sorted1 _) ?_
  unfold Builtin.«sorted»
  refine wpAny_bind (m := checkCount "sorted" 1 1 _) (wpAny_pure ?_)
  refine wpAny_bind (collect_set (A := X.A.in1) (I.ok.hd hcalm) ⟨o, ho, hex.1, hd⟩ hf hb hr hl fun s1 vs k1 hz g1 o1 pm => ?_)
  have d1 : KeyVs l (es.toList.map (·.2)) := two_ix (by rw [List.length_map]; exact d0.len) fun j v e => by
    rw [List.getElem?_map] at e
    obtain ⟨x, e1, e2⟩ := Option.map_eq_some_iff.mp e
    obtain ⟨b, hb1, hb2⟩ : ∃ b, l[j]? = some b ∧ KeyE X.w b x := by
      have hj : j < l.length := by
        have := (List.getElem?_eq_some_iff.mp e1).1
        rw [d0.len]
        exact this
      obtain ⟨y, hy, ry⟩ := d0.get (List.getElem?_eq_getElem hj)
      rw [e1] at hy
      cases hy
      exact ⟨_, List.getElem?_eq_getElem hj, ry⟩
    exact ⟨b, hb1, by rw [← e2]; exact hb2.1⟩
  obtain ⟨l2, p2, d2⟩ := Two.perm pm.symm d1
  have lk : l2.Perm ks := p2.trans p0
  have hvl : vs.length ≤ sizeLine := by
    rw [← d2.len, p2.length_eq, d0.len, Array.length_toList]
    exact fits_of_scanBound hb
  refine wpAny_bind (wpAny_newList ?_ hvl)
  have hoL : (s1.heap.push (seqObj "list" vs.toArray 0)).get? s1.heap.objs.size = some (seqObj "list" vs.toArray 0) := Heap.get?_push_size _ rfl
  refine wpAny_bind (wpAny_holding (wpAny_call_entry PyProof.Rows.slot_list_sort ⟨_, hoL, rfl⟩ PyProof.Rows.entry_list_sort
    (SrtO.list_sort_ord (swo_key vK) hoL hvl (fun h2 => key_sortable h2 (keyVs_good d2 (fun k hk => hc k (lk.mem_iff.mp hk)))) fun out h1 h2 => ⟨_, rfl, ?_⟩) (PyProof.Rows.args_list_sort _)))
  obtain ⟨zs, p, d', pw⟩ := keyVs_out d2 h2.perm h1
  obtain ⟨c', hc'⟩ := PyProof.Rows.sortedHeap_at (vs := vs) (out := out.toArray) hoL
  have kept : ∀ b u, s.heap.get? b = some u → (sortedHeap (s1.heap.push (seqObj "list" vs.toArray 0)) s1.heap.objs.size vs out.toArray).get? b = some u := fun b u e => by
    have e2 := k1 b u e
    have lt := Heap.lt_size e2
    rw [PyProof.Rows.sortedHeap_old (Nat.ne_of_lt lt) (by rw [size_push']; exact Nat.lt_succ_of_lt lt)]
    exact Heap.get?_push_of_some _ e2
  have hn : H s1.heap.objs.size = none := I.hok.fresh hz
  have hlen : (zs.map kV).length ≤ sizeLine := by
    rw [List.length_map, p.length_eq, d2.len]
    exact hvl
  have J : Inv X pins σ (upd H s1.heap.objs.size (.lst (zs.map kV))) { s with heap := sortedHeap (s1.heap.push (seqObj "list" vs.toArray 0)) s1.heap.objs.size vs out.toArray, gens := s1.gens, drawn := s1.drawn, toks := s1.toks } :=
    I.call (ch := []) (Un.laid kept hz hn) (I.hok.laid kept hz ⟨hlen, out, c', keyVs_to d', hc'⟩) (by rw [g1]; exact I.bare) (fun _ z => nomatch z)
  have es1 : { s1 with heap := sortedHeap (s1.heap.push (seqObj "list" vs.toArray 0)) s1.heap.objs.size vs out.toArray } = { s with heap := sortedHeap (s1.heap.push (seqObj "list" vs.toArray 0)) s1.heap.objs.size vs out.toArray, gens := s1.gens, drawn := s1.drawn, toks := s1.toks } := by rw [← o1]
  refine wpAny_pure ⟨_, rfl, .ref s1.heap.objs.size, upd H s1.heap.objs.size (.lst (zs.map kV)), ?_, rfl, q zs _ (p.trans lk) pw hn⟩
  exact Eq.mp (congrArg (Inv X pins σ _) es1.symm) J
end
end Y
set_option Elab.async false
set_option linter.all false
set_option maxRecDepth 100000
set_option maxHeartbeats 4000000
/-! Set comprehensions of ints and texts. -/
namespace Y
open PySem PySem.Spec PyProof.Rows L2 PySem.Calls PpSet
section
variable {P : Program} {w : World} {A : Around} {E : Value → Shared → Prop} {s : Shared} {a : Addr} {ks : List Key} {k : Key} {x : Value}
theorem SetK.fresh {h : Heap} : SetK w (h.push { cls := .type "set", dict := none, data := .set #[] 0 (.fresh 0 0 (!w.params.followText "set-order")) }) h.objs.size [] := by
  refine ⟨_, #[], 0, _, [], ⟨Heap.get?_push_size _ rfl, ⟨rfl, rfl, rfl⟩, rfl⟩, .nil, List.Perm.refl _, List.nodup_nil, by decide, by rfl, List.Pairwise.nil, ?_⟩
  show _ ∨ (!w.params.followText "set-order") = true
  cases w.params.followText "set-order" <;> simp
theorem SetK.type (R : SetK w s.heap a ks) : s.TypeIs (.ref a) "set" := by
  obtain ⟨o, _, _, _, _, ⟨ho, hx, _⟩, _⟩ := R
  exact ⟨o, ho, hx.1⟩
theorem SetK.call_add {Z : Value → Shared → Prop} (R : SetK w s.heap a ks) (hx : keyIs k x = true) (room : ks.length + 1 < scanBound)
    (hZ : ∀ h', Heap.SameBut a s.heap h' → SetK w h' a (addK ks k) → Z .none { s with heap := h', toks := s.toks + 1 }) : wpAny (model P w) A (call (.builtin "set.add") [.ref a, x]) Z E s := by
  refine wpAny_call_entry F.slot_set_add R.type F.entry_set_add ?_ (F.args_set_add_2 _ _)
  unfold Builtin.«set.add» Builtin.Frozenset.oneOther
  simp only [List.isEmpty_nil, bind_assoc]
  unfold Builtin.Frozenset.addrOf setAdd
  refine wpAny_bind (wpAny_pure (wpAny_bind (wpAny_pure (wpAny_bind (wpAny_holding (wpAny_bind ((mixKind P w).pyHash (k := k) hx ?_)))))))
  refine SetK.add (s := { s with toks := s.toks + 1 }) R hx room fun h' b sb r => ?_
  exact wpAny_pure ⟨_, rfl, hZ h' sb r⟩
end
section
variable {X : Cx}
theorem addK_ok {pins : List (Addr × Obj)} {σ : L2.St} {H : Hp} {s : Shared} {E : Value → Shared → Prop} {D : Addr} {ks : List Key} {k : Key} {x : Value} {Z : Value → Shared → Prop} (I : Inv X pins σ H s) (hD : H D = some (SetKO X.w D ks)) (hx : keyIs k x = true) (room : ks.length + 1 < scanBound)
    (hZ : ∀ s', Inv X pins σ (upd H D (SetKO X.w D (addK ks k))) s' → Z .none s') : wpAny (model X.prog X.w) X.A (call (.builtin "set.add") [.ref D, x]) Z E s := by
  refine (setKO_get I hD).call_add hx room fun h' sb R' => ?_
  obtain ⟨o, ho⟩ : ∃ u, h'.get? D = some u := by
    obtain ⟨o, _, _, _, _, ⟨ho, _⟩, _⟩ := id R'
    exact ⟨o, ho⟩
  exact hZ _ (I.write (e := D) (t' := s.toks + 1) (by rw [hD]; trivial) (.inl rfl) (fun b u nb e => (sb.2 b nb).trans e) ⟨o, ho⟩ (setKO_ok R'))
/-- the loop of a set comprehension -/
def scW (w : World) (J : L2.It) (g : TG) (tt : TT) (te : TE) (vs : List Nat) (σ : L2.St) (D : Addr) (H1 : Hp) (Qd : Hp → Prop) : Prop :=
  ∃ W : Nat → Nat → Hp → Prop, (∃ m, W 0 m (upd H1 D (SetKO w D []))) ∧ ∀ i m H, W i m H →
    (J.stop i H ∧ Qd H) ∨ (J.go i H ∧ ∃ Nx : Hp → Prop, (∀ H', Nx H' → ∃ m', m' < m ∧ W (i + 1) m' H') ∧ ∀ y H', J.yld i H y H' → g y (wipe σ vs) H' fun σ2 H2 => wipe σ2 vs = wipe σ vs ∧ tt σ2 H2 fun b H3 =>
      br b (te σ2 H3 fun z H4 => ∃ k ks, z = kV k ∧ H4 D = some (SetKO w D ks) ∧ ks.length + 1 < scanBound ∧ Nx (upd H4 D (SetKO w D (addK ks k)))) (Nx H3))
def tScK (w : World) (wi : TI) (g : TG) (tt : TT) (te : TE) (vs : List Nat) : TE := fun σ H Q => wi σ H fun J H1 => ∀ D, H1 D = none → scW w J g tt te vs σ D H1 fun H' => Q (.ref D) H'
theorem pe_scK {elt tg iter : Expr} {ifs : List Expr} {scope : Scope} {own : List (PySem.Str × Nat)} {pos : Pos} {wi : TI} {g : TG} {tt : TT} {te : TE} (hc : X.calm = true) (hN : X.N.Nodup) (hi : PI X tg iter wi) (ok : BlkOk X.N X.env.scope scope own)
    (hg : ∀ (s : Shared) (H : Hp) (C : Addr) (cl : List (PySem.Str × Addr)) (fp : List Addr), PG (X.blk s H scope (compEnvC scope cl C X.env) fp) tg g)
    (ht : ∀ (s : Shared) (H : Hp) (C : Addr) (cl : List (PySem.Str × Addr)) (fp : List Addr), PTs (X.blk s H scope (compEnvC scope cl C X.env) fp) ifs tt)
    (he : ∀ (s : Shared) (H : Hp) (C : Addr) (cl : List (PySem.Str × Addr)) (fp : List Addr), PE (X.blk s H scope (compEnvC scope cl C X.env) fp) elt te) (hs : ∀ x, foldedSetIterable iter X.env x = pure x := by intro _; rfl) :
    PE X (.SetComp elt [⟨tg, iter, ifs, 0⟩] scope pos) (tScK X.w wi g tt te (own.map (·.2))) := by
  refine ⟨fun pins s σ H Q I h => ?_⟩
  rw [eval_SetComp]
  have fr : ∀ y ∈ scope.names, y.2 = .free → ∃ c, X.env.cells.lookup y.1 = some c := fun y hy e => I.ok.has _ (ok.free y hy e)
  refine wpAny_comprehension_free (use := none) rfl hs (closure_ok fr) ok.kind (fun y hy e => by rw [ok.uniq y hy, e]) (thn (hi.run pins s σ H _ I h) fun xv s1 hx => thn hx fun itv s2 h2 => ?_)
  obtain ⟨it, fp, tn, J, H2, rfl, I2, T, st2, f2, q⟩ := h2
  refine newSet_ok (newEnv_comp ?_)
  have hDn : H2 s2.heap.objs.size = none := I2.hok.fresh (Nat.le_refl _)
  generalize hD : s2.heap.objs.size = D at hDn
  obtain ⟨W, ⟨m0, w0⟩, turn⟩ := q D hDn
  generalize hs3 : ({ s2 with heap := s2.heap.push { cls := .type "set", dict := none, data := .set #[] 0 (.fresh 0 0 (!X.w.params.followText "set-order")) } } : Shared) = s3
  have h3 : s3.heap = s2.heap.push { cls := .type "set", dict := none, data := .set #[] 0 (.fresh 0 0 (!X.w.params.followText "set-order")) } := by rw [← hs3]
  have I3 : Inv X pins σ (upd H2 D (SetKO X.w D [])) s3 := by
    subst hs3
    subst hD
    exact I2.laid (t' := s2.toks) (fun b o e => Heap.get?_push_of_some _ e) (Nat.le_refl _) (setKO_ok SetK.fresh)
  have below : ∀ b ∈ fp, b < s2.heap.objs.size := fun b hb => (T.obj _ _ st2 b hb).elim fun o e => Heap.lt_size e.1
  have f3 : ∀ b ∈ fp, FpOk X pins (upd H2 D (SetKO X.w D [])) b ∧ b < s3.heap.objs.size := fun b hb => by
    have lt := below b hb
    have nb : b ≠ D := by rw [← hD]; exact Nat.ne_of_lt lt
    exact ⟨⟨(upd_ne nb).trans (f2 b hb).1, (f2 b hb).2⟩, by rw [h3, Heap.size_push]; exact Nat.lt_succ_of_lt lt⟩
  have st3 : tn 0 s3.heap := T.keep _ _ _ st2 fun b _ o e => by rw [h3]; exact Heap.get?_push_of_some _ e
  have I4 := block_start I3 ok hN f3
  generalize hH3 : upd H2 D (SetKO X.w D []) = H3 at I3 I4 w0 f3
  have pg := hg s3 H3 s3.heap.objs.size (cellsFrom (s3.heap.objs.size + 1) scope.names (cloFrom X.env.cells scope.names [])) fp
  have pt := ht s3 H3 s3.heap.objs.size (cellsFrom (s3.heap.objs.size + 1) scope.names (cloFrom X.env.cells scope.names [])) fp
  have pe := he s3 H3 s3.heap.objs.size (cellsFrom (s3.heap.objs.size + 1) scope.names (cloFrom X.env.cells scope.names [])) fp
  have go : ∀ (ce : Env) (s4 : Shared), ce.locals = s3.heap.objs.size → (∀ b ob, s3.heap.get? b = some ob → s4.heap.get? b = some ob) → Inv (X.blk s3 H3 scope ce fp) [] (wipe σ (own.map (·.2))) H3 s4 →
      PG (X.blk s3 H3 scope ce fp) tg g → PTs (X.blk s3 H3 scope ce fp) ifs tt → PE (X.blk s3 H3 scope ce fp) elt te →
      codeAny (model X.prog X.w) X.A (.compStart (.SetComp elt [⟨tg, iter, ifs, 0⟩] scope pos) 0 (.ref it) (.ref D) ce) (compPost (model X.prog X.w) X.A X.xe none (EP X pins σ Q) (.ref D) s3.heap.objs.size) s4 := by
    intro ce s4 cL up I4 pg pt pe
    have st4 : tn 0 s4.heap := T.keep _ _ _ st3 fun b _ o e => up b o e
    have stat : ∀ {σ' : L2.St} {H' : Hp} {s' : Shared}, Inv (X.blk s3 H3 scope ce fp) [] σ' H' s' → (∀ b ∈ fp, H' b = none) → ∀ b ∈ fp, FpOk (X.blk s3 H3 scope ce fp) [] H' b := fun {σ' H' s'} K hn b hb =>
      ⟨hn b hb, (K.ok.exf b hb).1, K.ok.exfs b hb, .inl hb, fun x c e => (K.ok.exf b hb).2 x c e, fun p hp => by cases hp⟩
    have loop : codeAny (model X.prog X.w) X.A (.compLoop (.SetComp elt [⟨tg, iter, ifs, 0⟩] scope pos) 0 (.ref it) (.ref D) ce) (compPost (model X.prog X.w) X.A X.xe none (EP X pins σ Q) (.ref D) s3.heap.objs.size) s4 := by
      refine compLoopS_any (fun n r => ∃ i H', Inv (X.blk s3 H3 scope ce fp) [] (wipe σ (own.map (·.2))) H' r ∧ tn i r.heap ∧ (∀ b ∈ fp, H' b = none) ∧ W i n H') ?_ m0 ⟨0, H3, I4, st4, fun b hb => (f3 b hb).1.1, w0⟩
      rintro n s5 ⟨i, H5, I5, st5, n5, w5⟩
      rcases turn i n H5 w5 with ⟨stop, qq⟩ | ⟨more, Nx, hNx, step⟩
      · refine thnF (T.done (X.blk s3 H3 scope ce fp) rfl rfl rfl hc i [] s5 _ H5 (fun _ _ => False) I5 (stat I5 n5) st5 stop) fun r s6 ⟨hr, I6⟩ => ?_
        subst hr
        have I7 : Inv X pins σ H5 s6 := I3.call' (ch := fp) I6.os I6.base I6.hok I6.bare fun b hb => by
          obtain ⟨⟨_, y1, y2, y3, y4, y5⟩, _⟩ := f3 b hb
          exact ⟨y3, y1, y4, y5⟩
        have nC : H5 s3.heap.objs.size = none := cL ▸ (show H5 ce.locals = none from I6.free)
        obtain ⟨m, hn, _⟩ := I6.loc
        have hn' : s6.heap.Ns s3.heap.objs.size m := cL ▸ (show s6.heap.Ns ce.locals m from hn)
        obtain ⟨y0, y1, y2, y3, y4, y5⟩ := I3.fpOk (Nat.le_refl _) nC
        exact ⟨m, hn', fun h'' sb => ⟨.ref D, H5, I7.turned (t' := s6.toks) (fun b o nb e => (sb.2 b nb).trans e) y0 y1 y3 y4 y5, rfl, qq⟩⟩
      · refine thnF (T.item (X.blk s3 H3 scope ce fp) rfl rfl rfl hc i [] s5 _ H5 (fun _ _ => False) I5 (stat I5 n5) st5 more) fun r s6 ⟨u, hr, h6⟩ => ?_
        subst hr
        refine thnF h6 fun _ s7 ⟨y, H7, I7, r7, y7, st7, n7⟩ => ?_
        have J7 := I7.pinned (stat I7 n7) (T.obj _ _ st7)
        refine thnF (pg.run _ s7 _ H7 y u _ J7 r7 (step y H7 y7)) fun _ s8 ⟨σ8, H8, I8, hw8, q8⟩ => ?_
        refine thnF (pt.run _ s8 σ8 H8 _ I8 q8) fun b s9 ⟨H9, I9, q9⟩ => ?_
        have fin : ∀ {s' : Shared} {H' : Hp}, Inv (X.blk s3 H3 scope ce fp) ([] ++ pinsAt fp s7.heap) σ8 H' s' → Nx H' →
            ∃ m, m < n ∧ ∃ j H'', Inv (X.blk s3 H3 scope ce fp) [] (wipe σ (own.map (·.2))) H'' s' ∧ tn j s'.heap ∧ (∀ b ∈ fp, H'' b = none) ∧ W j m H'' := fun {s' H'} K nx => by
          obtain ⟨m', hm, w'⟩ := hNx H' nx
          have pin : ∀ b ∈ fp, ∀ o, s7.heap.get? b = some o → s'.heap.get? b = some o ∧ H' b = none := fun b hb o e => by
            have z := K.pin (b, o) (List.mem_append_right _ (List.mem_append_right _ (mem_pinsAt hb e)))
            exact ⟨z.1, z.2.1⟩
          refine ⟨m', hm, i + 1, H', (K.unpinned (pins := [])).weak (by rw [← hw8, wipe_length]) (fun j v e => ?_), T.keep _ _ _ st7 fun b hb o e => (pin b hb o e).1, fun b hb => ?_, w'⟩
          · rw [← hw8] at e
            exact (wipe_some e).1
          · obtain ⟨o, e, _⟩ := T.obj _ _ st7 b hb
            exact (pin b hb o e).2
        cases b with
        | false =>
          rw [br_f] at q9
          exact fin I9 q9
        | true =>
          rw [br_t] at q9
          refine thnF (pe.run _ s9 σ8 H9 _ I9 q9) fun z s10 ⟨yv, H10, I10, r10, k, ks, ey, hD10, room, nx⟩ => ?_
          subst ey
          exact addK_ok (X := X.blk s3 H3 scope ce fp) I10 hD10 (relV_key.mp r10) room fun s11 I11 => fin I11 nx
    exact codeAny_compStart_set loop (T.self X.A 0 _ _ _ st4 loop)
  exact go _ _ rfl (fun b ob e => pushCells_keeps _ _ _ _ (Heap.get?_push_of_some _ e)) I4 pg pt pe
end
end Y

namespace Y
open PySem PySem.Spec PyProof.Rows L2 PySem.Calls
theorem sc_it {w : World} {J : L2.It} {n : Nat} {G : Hp → Prop} {Y' : Nat → Hp → V → Hp → Prop} (wk : Walk J n G Y') {g : TG} {tt : TT} {te : TE} {vs : List Nat} {σ : L2.St} {D : Addr} {H1 : Hp} {Qd : Hp → Prop} (Pv : Nat → Hp → Prop) (h0 : Pv 0 (upd H1 D (SetKO w D []))) (hG : ∀ i H, i ≤ n → Pv i H → G H)
    (hs : ∀ i x H H', i < n → Pv i H → Y' i H x H' → g x (wipe σ vs) H' fun σ2 H2 => wipe σ2 vs = wipe σ vs ∧ tt σ2 H2 fun b H3 =>
      br b (te σ2 H3 fun z H4 => ∃ k ks, z = kV k ∧ H4 D = some (SetKO w D ks) ∧ ks.length + 1 < scanBound ∧ Pv (i + 1) (upd H4 D (SetKO w D (addK ks k)))) (Pv (i + 1) H3)) (hd : ∀ H, Pv n H → Qd H) : scW w J g tt te vs σ D H1 Qd := by
  refine ⟨fun i m H => m = n - i ∧ i ≤ n ∧ Pv i H, ⟨n, by simp, Nat.zero_le _, h0⟩, ?_⟩
  rintro i m H ⟨rfl, hi, p⟩
  have gg := hG i H hi p
  by_cases lt : i < n
  · refine .inr ⟨wk.goes i H lt gg, Pv (i + 1), fun H' p' => ⟨n - (i + 1), by omega, rfl, lt, p'⟩, fun y H' yd => hs i y H H' lt p (wk.yields i H y H' lt gg yd)⟩
  · have e : i = n := by omega
    subst e
    exact .inl ⟨wk.stops H gg, hd H p⟩
theorem walk_keysT {d : Addr} {o : Obj} {kvs : List (List Key × V)} : Walk (Itkt d o kvs) kvs.length (fun H => H d = some (.frz o (.dT kvs))) (fun i H x H' => H' = H ∧ ∃ (k : List Key) (v : V) (q : Addr), kvs[i]? = some (k, v) ∧ x = .ref q ∧ H q = some (.tup (k.map kV))) :=
  ⟨fun _ _ hi q => ⟨q, hi⟩, fun _ q => ⟨q, Nat.le_refl _⟩, fun _ _ _ _ _ _ y => y⟩
section
variable {α : Type} {l : List α} {ka kb : α → Key} {val : α → V} {w : World} {K : PySem.W.Frag} {d D : Addr} {o : Obj} {s t : Nat} {tt : TT} {te : TE} {σ : L2.St} {H1 : Hp} {Qd : Hp → Prop}
theorem foldl_addK_nodup : ∀ (xs ks : List Key), ks.Nodup → (xs.foldl addK ks).Nodup
  | [], _, h => h
  | x :: xs, ks, h => by
    refine foldl_addK_nodup xs _ ?_
    by_cases m : x ∈ ks
    · rw [addK_old m]
      exact h
    · rw [addK_new m, List.nodup_append]
      exact ⟨h, by simp, fun i hi j hj e => m (by rw [← List.mem_singleton.mp hj, ← e]; exact hi)⟩
theorem foldl_addK_mem : ∀ (xs ks : List Key) (k : Key), k ∈ xs.foldl addK ks ↔ k ∈ ks ∨ k ∈ xs
  | [], ks, k => by simp
  | x :: xs, ks, k => by
    rw [List.foldl_cons, foldl_addK_mem xs _ k, List.mem_cons]
    by_cases m : x ∈ ks
    · rw [addK_old m]
      constructor
      · rintro (h | h)
        · exact .inl h
        · exact .inr (.inr h)
      · rintro (h | h | h)
        · exact .inl h
        · rw [h]; exact .inl m
        · exact .inr h
    · rw [addK_new m, List.mem_append, List.mem_singleton]
      constructor
      · rintro ((h | h) | h)
        · exact .inl h
        · exact .inr (.inl h)
        · exact .inr (.inr h)
      · rintro (h | h | h)
        · exact .inl (.inl h)
        · exact .inl (.inr h)
        · exact .inr h
theorem foldl_addK_len : ∀ (xs ks : List Key), (xs.foldl addK ks).length ≤ ks.length + xs.length
  | [], ks => by simp
  | x :: xs, ks => by
    have h := foldl_addK_len xs (addK ks x)
    have h2 : (addK ks x).length ≤ ks.length + 1 := by
      by_cases m : x ∈ ks
      · rw [addK_old m]; omega
      · rw [addK_new m, List.length_append]; simp
    rw [List.foldl_cons, List.length_cons]
    omega
/-- {e for s, t in d} over a locked dict whose keys are pairs -/
theorem sc_keysT2 (f : α → Key) (hst : s ≠ t) (hk : H1 d = some (.frz o (.dT (l.map fun i => ([ka i, kb i], val i))))) (hD : H1 D = none) (hn : l.length + 1 < scanBound)
    (hs : ∀ (a : α) (H : Hp), a ∈ l → Same H1 H → ∀ (Ny : V → Hp → Prop) (Nn : Hp → Prop), (∀ H4, Same H H4 → Ny (kV (f a)) H4) → tt ((σ.set s (some (kV (ka a)))).set t (some (kV (kb a)))) H fun b H3 => br b (te ((σ.set s (some (kV (ka a)))).set t (some (kV (kb a)))) H3 Ny) (Nn H3))
    (hd : ∀ H, Same H1 H → H D = some (SetKO w D ((l.map f).foldl addK [])) → Qd H) : scW w (Itkt d o (l.map fun i => ([ka i, kb i], val i))) (gTup K 2 (gCons (gName s) (gCons (gName t) gNil))) tt te [s, t] σ D H1 Qd := by
  refine sc_it walk_keysT (fun i H => Same H1 H ∧ H D = some (SetKO w D (((l.take i).map f).foldl addK []))) ⟨same_new hD, upd_same⟩ (fun i H _ p => p.1 _ _ hk) (fun i x H H' hi p y => ?_) (fun H p => hd H p.1 ?_)
  · obtain ⟨rfl, k, v, q, e, rfl, hq⟩ := y
    obtain ⟨sm, hH⟩ := p
    rw [List.length_map] at hi
    rw [List.getElem?_map, List.getElem?_eq_getElem hi] at e
    have e' := Option.some.inj e
    have ek : k = [ka l[i], kb l[i]] := (congrArg Prod.fst e').symm
    subst ek
    have tk : l.take (i + 1) = l.take i ++ [l[i]] := by
      rw [List.take_succ, List.getElem?_eq_getElem hi]
      rfl
    refine ⟨q, [kV (ka l[i]), kV (kb l[i])], rfl, .inl (.inl hq), rfl, kV (ka l[i]), [kV (kb l[i])], rfl, kV (kb l[i]), [], rfl, rfl, ?_⟩
    rw [set_pair hst]
    refine ⟨by rw [wipe_pair hst], ?_⟩
    refine hs l[i] H' (List.getElem_mem hi) sm _ _ fun H4 s4 => ?_
    refine ⟨f l[i], _, rfl, s4 _ _ hH, ?_, ?_, ?_⟩
    · have h1 := foldl_addK_len ((l.take i).map f) []
      rw [List.length_map, List.length_take] at h1
      have h2 : ([] : List Key).length = 0 := rfl
      omega
    · intro b ob hb
      have nb : b ≠ D := fun z => by
        rw [z, hD] at hb
        cases hb
      rw [upd_ne nb]
      exact s4 _ _ (sm _ _ hb)
    · rw [upd_same, tk, List.map_append, List.foldl_append]
      rfl
  · have h2 := p.2
    rw [List.length_map, List.take_length] at h2
    exact h2
/-- [e for s, t in d if ..] over a locked dict whose keys are pairs -/
theorem lc_keysT2 (f : α → Option V) (hst : s ≠ t) (hk : H1 d = some (.frz o (.dT (l.map fun i => ([ka i, kb i], val i))))) (hD : H1 D = none) (hn : l.length < 16777216)
    (hs : ∀ (a : α) (H : Hp), a ∈ l → Same H1 H → ∀ (Ny : V → Hp → Prop) (Nn : Hp → Prop), (∀ y H4, Same H H4 → f a = some y → Ny y H4) → (∀ H3, Same H H3 → f a = none → Nn H3) → tt ((σ.set s (some (kV (ka a)))).set t (some (kV (kb a)))) H fun b H3 => br b (te ((σ.set s (some (kV (ka a)))).set t (some (kV (kb a)))) H3 Ny) (Nn H3))
    (hd : ∀ H, Same H1 H → H D = some (.lst (l.filterMap f)) → Qd H) : lcW (Itkt d o (l.map fun i => ([ka i, kb i], val i))) (gTup K 2 (gCons (gName s) (gCons (gName t) gNil))) tt te [s, t] σ D H1 Qd := by
  refine lc_it walk_keysT (fun i H => Same H1 H ∧ H D = some (.lst ((l.take i).filterMap f))) ⟨same_new hD, upd_same⟩ (fun i H _ p => p.1 _ _ hk) (fun i x H H' hi p y => ?_) (fun H p => hd H p.1 ?_)
  · obtain ⟨rfl, k, v, q, e, rfl, hq⟩ := y
    obtain ⟨sm, hH⟩ := p
    rw [List.length_map] at hi
    rw [List.getElem?_map, List.getElem?_eq_getElem hi] at e
    have e' := Option.some.inj e
    have ek : k = [ka l[i], kb l[i]] := (congrArg Prod.fst e').symm
    subst ek
    have tk : l.take (i + 1) = l.take i ++ [l[i]] := by
      rw [List.take_succ, List.getElem?_eq_getElem hi]
      rfl
    refine ⟨q, [kV (ka l[i]), kV (kb l[i])], rfl, .inl (.inl hq), rfl, kV (ka l[i]), [kV (kb l[i])], rfl, kV (kb l[i]), [], rfl, rfl, ?_⟩
    rw [set_pair hst]
    refine ⟨by rw [wipe_pair hst], ?_⟩
    refine hs l[i] H' (List.getElem_mem hi) sm _ _ (fun y H4 s4 ey => ?_) (fun H3 s3 en => ?_)
    · refine ⟨_, s4 _ _ hH, ?_, ?_, ?_⟩
      · have h1 := List.length_filterMap_le f (l.take i)
        rw [List.length_take] at h1
        rw [line_eq]
        omega
      · intro b ob hb
        have nb : b ≠ D := fun z => by
          rw [z, hD] at hb
          cases hb
        rw [upd_ne nb]
        exact s4 _ _ (sm _ _ hb)
      · rw [upd_same, tk, List.filterMap_append, List.filterMap_cons, ey]
        rfl
    · refine ⟨sm.trans s3, ?_⟩
      rw [tk, List.filterMap_append, List.filterMap_cons, en]
      rw [show List.filterMap f [] = [] from rfl, List.append_nil]
      exact s3 _ _ hH
  · have h2 := p.2
    rw [List.length_map, List.take_length] at h2
    exact h2
/-- [e for s in d if ..] over a locked dict whose keys are tuples: how many -/
theorem lc_keysTn {key : α → List Key} (p : α → Bool) (hk : H1 d = some (.frz o (.dT (l.map fun i => (key i, val i))))) (hD : H1 D = none) (hn : l.length < 16777216)
    (hs : ∀ (a : α) (q : Addr) (H : Hp), a ∈ l → Same H1 H → H q = some (.tup ((key a).map kV)) → ∀ (Ny : V → Hp → Prop) (Nn : Hp → Prop), (∀ y H4, Same H H4 → p a = true → Ny y H4) → (∀ H3, Same H H3 → p a = false → Nn H3) → tt (σ.set s (some (.ref q))) H fun b H3 => br b (te (σ.set s (some (.ref q))) H3 Ny) (Nn H3))
    (hd : ∀ H xs, Same H1 H → H D = some (.lst xs) → xs.length = l.countP p → Qd H) : lcW (Itkt d o (l.map fun i => (key i, val i))) (gName s) tt te [s] σ D H1 Qd := by
  refine lc_it walk_keysT (fun i H => Same H1 H ∧ ∃ xs, H D = some (.lst xs) ∧ xs.length = (l.take i).countP p) ⟨same_new hD, [], upd_same, rfl⟩ (fun i H _ p => p.1 _ _ hk) (fun i x H H' hi pp y => ?_) (fun H ⟨p1, xs, p2, p3⟩ => hd H xs p1 p2 ?_)
  · obtain ⟨rfl, k, v, q, e, rfl, hq⟩ := y
    obtain ⟨sm, xs, hH, hx⟩ := pp
    rw [List.length_map] at hi
    rw [List.getElem?_map, List.getElem?_eq_getElem hi] at e
    have ek : k = key l[i] := (congrArg Prod.fst (Option.some.inj e)).symm
    subst ek
    have tk : l.take (i + 1) = l.take i ++ [l[i]] := by
      rw [List.take_succ, List.getElem?_eq_getElem hi]
      rfl
    refine ⟨wipe_one, ?_⟩
    rw [set_wipe]
    have hle : (l.take i).countP p ≤ i := Nat.le_trans List.countP_le_length (by rw [List.length_take]; omega)
    refine hs l[i] q H' (List.getElem_mem hi) sm hq _ _ (fun y H4 s4 ey => ?_) (fun H3 s3 en => ?_)
    · refine ⟨xs, s4 _ _ hH, by rw [line_eq]; omega, ?_, xs ++ [y], upd_same, ?_⟩
      · intro b ob hb
        have nb : b ≠ D := fun z => by
          rw [z, hD] at hb
          cases hb
        rw [upd_ne nb]
        exact s4 _ _ (sm _ _ hb)
      · rw [tk, List.countP_append, List.countP_cons_of_pos ey, List.length_append, hx]
        rfl
    · refine ⟨sm.trans s3, xs, s3 _ _ hH, ?_⟩
      rw [tk, List.countP_append, List.countP_cons_of_neg (by rw [en]; exact Bool.false_ne_true), hx]
      rfl
  · rw [List.length_map, List.take_length] at p3
    exact p3
end
end Y

namespace Y
open PySem PySem.Spec PyProof.Rows L2 PySem.Calls
theorem tScK_ap {w : World} {td : TE} {σ : L2.St} {H : Hp} {Q : VK} {g : TG} {tt : TT} {tf : TE} {vs : List Nat} : tScK w (iKeys td) g tt tf vs σ H Q = td σ H fun v H1 => keysAt H1 v fun J => ∀ D, H1 D = none → scW w J g tt tf vs σ D H1 fun H' => Q (.ref D) H' := rfl
theorem y_sortedSet {X : Cx} {w : World} (hcalm : X.calm = true) (hw : X.w = w := by rfl) : CallR X (.builtin "sorted") (rSortedSK w) := hw ▸ y_sortedSK hcalm
theorem pe_sc {X : Cx} {w : World} {elt tg iter : Expr} {ifs : List Expr} {scope : Scope} {own : List (PySem.Str × Nat)} {pos : Pos} {wi : TI} {g : TG} {tt : TT} {te : TE} (hc : X.calm = true) (hN : X.N.Nodup) (hi : PI X tg iter wi) (ok : BlkOk X.N X.env.scope scope own)
    (hg : ∀ (s : Shared) (H : Hp) (C : Addr) (cl : List (PySem.Str × Addr)) (fp : List Addr), PG (X.blk s H scope (compEnvC scope cl C X.env) fp) tg g)
    (ht : ∀ (s : Shared) (H : Hp) (C : Addr) (cl : List (PySem.Str × Addr)) (fp : List Addr), PTs (X.blk s H scope (compEnvC scope cl C X.env) fp) ifs tt)
    (he : ∀ (s : Shared) (H : Hp) (C : Addr) (cl : List (PySem.Str × Addr)) (fp : List Addr), PE (X.blk s H scope (compEnvC scope cl C X.env) fp) elt te) (hs : ∀ x, foldedSetIterable iter X.env x = pure x := by intro _; rfl) (hw : X.w = w := by rfl) :
    PE X (.SetComp elt [⟨tg, iter, ifs, 0⟩] scope pos) (tScK w wi g tt te (own.map (·.2))) := hw ▸ pe_scK hc hN hi ok hg ht he hs
end Y
set_option Elab.async false
set_option linter.all false
set_option maxRecDepth 100000
/-! The plain dicts that laws hold beside a shelf. -/
namespace Y
open PySem PySem.Spec PyProof.Rows L2
/-- a version in the plain dict: name, number, the place of its list of pieces, the pieces -/
structure PRw where
  nm : List Nat
  num : Nat
  at_ : Addr
  parts : List (List Nat)
def PRw.key (x : PRw) : List Key := [Sum.inr (st x.nm), Sum.inl (x.num : Int)]
structure PlM where
  w : Nat
  r : Nat
  last : Nat
  nums : List (List Nat × Nat)
  given : List (List Nat × Nat)
  rows : List PRw
structure PlR where
  d : Addr
  rw_ : Addr
  nu : Addr
  gv : Addr
def PlR.F (r : PlR) : List Addr := [r.d, r.rw_, r.nu, r.gv]
def plF (w r : Int) (a b : Addr) (g : Int) (c : Addr) : List (Key × V) := [(Sum.inr "width", (.int w)), (Sum.inr "reach", (.int r)), (Sum.inr "rows", (.ref a)), (Sum.inr "numbers", (.ref b)), (Sum.inr "last", (.int g)), (Sum.inr "given", (.ref c))]
section
variable {w r g z : Int} {a b c : Addr}
theorem plk_width_reach : ¬ ((Sum.inr "width" : Key) = (Sum.inr "reach" : Key)) := by decide +kernel
theorem plk_width_rows : ¬ ((Sum.inr "width" : Key) = (Sum.inr "rows" : Key)) := by decide +kernel
theorem plk_width_numbers : ¬ ((Sum.inr "width" : Key) = (Sum.inr "numbers" : Key)) := by decide +kernel
theorem plk_width_last : ¬ ((Sum.inr "width" : Key) = (Sum.inr "last" : Key)) := by decide +kernel
theorem plk_width_given : ¬ ((Sum.inr "width" : Key) = (Sum.inr "given" : Key)) := by decide +kernel
theorem plk_reach_rows : ¬ ((Sum.inr "reach" : Key) = (Sum.inr "rows" : Key)) := by decide +kernel
theorem plk_reach_numbers : ¬ ((Sum.inr "reach" : Key) = (Sum.inr "numbers" : Key)) := by decide +kernel
theorem plk_reach_last : ¬ ((Sum.inr "reach" : Key) = (Sum.inr "last" : Key)) := by decide +kernel
theorem plk_reach_given : ¬ ((Sum.inr "reach" : Key) = (Sum.inr "given" : Key)) := by decide +kernel
theorem plk_rows_numbers : ¬ ((Sum.inr "rows" : Key) = (Sum.inr "numbers" : Key)) := by decide +kernel
theorem plk_rows_last : ¬ ((Sum.inr "rows" : Key) = (Sum.inr "last" : Key)) := by decide +kernel
theorem plk_rows_given : ¬ ((Sum.inr "rows" : Key) = (Sum.inr "given" : Key)) := by decide +kernel
theorem plk_numbers_last : ¬ ((Sum.inr "numbers" : Key) = (Sum.inr "last" : Key)) := by decide +kernel
theorem plk_numbers_given : ¬ ((Sum.inr "numbers" : Key) = (Sum.inr "given" : Key)) := by decide +kernel
theorem plk_last_given : ¬ ((Sum.inr "last" : Key) = (Sum.inr "given" : Key)) := by decide +kernel
theorem plF_w : valV (plF w r a b g c) (Sum.inr "width") = some (.int w) := valV_pos rfl
theorem plF_r : valV (plF w r a b g c) (Sum.inr "reach") = some (.int r) := (valV_neg plk_width_reach).trans (valV_pos rfl)
theorem plF_a : valV (plF w r a b g c) (Sum.inr "rows") = some (.ref a) := (valV_neg plk_width_rows).trans ((valV_neg plk_reach_rows).trans (valV_pos rfl))
theorem plF_b : valV (plF w r a b g c) (Sum.inr "numbers") = some (.ref b) := (valV_neg plk_width_numbers).trans ((valV_neg plk_reach_numbers).trans ((valV_neg plk_rows_numbers).trans (valV_pos rfl)))
theorem plF_g : valV (plF w r a b g c) (Sum.inr "last") = some (.int g) := (valV_neg plk_width_last).trans ((valV_neg plk_reach_last).trans ((valV_neg plk_rows_last).trans ((valV_neg plk_numbers_last).trans (valV_pos rfl))))
theorem plF_c : valV (plF w r a b g c) (Sum.inr "given") = some (.ref c) := (valV_neg plk_width_given).trans ((valV_neg plk_reach_given).trans ((valV_neg plk_rows_given).trans ((valV_neg plk_numbers_given).trans ((valV_neg plk_last_given).trans (valV_pos rfl)))))
theorem plF_put : putK (plF w r a b g c) (Sum.inr "last") (.int z) = plF w r a b z c := by
  rw [putK_at plF_g]
  unfold plF
  simp only [List.map_cons, List.map_nil]
  rw [if_neg plk_width_last, if_neg plk_reach_last, if_neg plk_rows_last, if_neg plk_numbers_last, if_pos trivial, if_neg (fun h => plk_last_given h.symm)]
theorem merge_plF : mergeK [] [((Sum.inr "width" : Key), (V.int w)), ((Sum.inr "reach" : Key), (V.int r)), ((Sum.inr "rows" : Key), (V.ref a)), ((Sum.inr "numbers" : Key), (V.ref b)), ((Sum.inr "last" : Key), (V.int g)), ((Sum.inr "given" : Key), (V.ref c))] = plF w r a b g c := by
  have e0 : putK ([] : List (Key × V)) (Sum.inr "width" : Key) (V.int w) = [((Sum.inr "width" : Key), V.int w)] := putK_new _ rfl
  have h1 : valV [((Sum.inr "width" : Key), (V.int w))] (Sum.inr "reach" : Key) = none := (valV_neg plk_width_reach).trans (rfl)
  have h2 : valV [((Sum.inr "width" : Key), (V.int w)), ((Sum.inr "reach" : Key), (V.int r))] (Sum.inr "rows" : Key) = none := (valV_neg plk_width_rows).trans ((valV_neg plk_reach_rows).trans (rfl))
  have h3 : valV [((Sum.inr "width" : Key), (V.int w)), ((Sum.inr "reach" : Key), (V.int r)), ((Sum.inr "rows" : Key), (V.ref a))] (Sum.inr "numbers" : Key) = none := (valV_neg plk_width_numbers).trans ((valV_neg plk_reach_numbers).trans ((valV_neg plk_rows_numbers).trans (rfl)))
  have h4 : valV [((Sum.inr "width" : Key), (V.int w)), ((Sum.inr "reach" : Key), (V.int r)), ((Sum.inr "rows" : Key), (V.ref a)), ((Sum.inr "numbers" : Key), (V.ref b))] (Sum.inr "last" : Key) = none := (valV_neg plk_width_last).trans ((valV_neg plk_reach_last).trans ((valV_neg plk_rows_last).trans ((valV_neg plk_numbers_last).trans (rfl))))
  have h5 : valV [((Sum.inr "width" : Key), (V.int w)), ((Sum.inr "reach" : Key), (V.int r)), ((Sum.inr "rows" : Key), (V.ref a)), ((Sum.inr "numbers" : Key), (V.ref b)), ((Sum.inr "last" : Key), (V.int g))] (Sum.inr "given" : Key) = none := (valV_neg plk_width_given).trans ((valV_neg plk_reach_given).trans ((valV_neg plk_rows_given).trans ((valV_neg plk_numbers_given).trans ((valV_neg plk_last_given).trans (rfl)))))
  show (putK (putK (putK (putK (putK (putK ([] : List (Key × V)) (Sum.inr "width") (V.int w)) (Sum.inr "reach") (V.int r)) (Sum.inr "rows") (V.ref a)) (Sum.inr "numbers") (V.ref b)) (Sum.inr "last") (V.int g)) (Sum.inr "given") (V.ref c)) = _
  rw [e0, putK_new _ h1]
  show (putK (putK (putK (putK [((Sum.inr "width" : Key), (V.int w)), ((Sum.inr "reach" : Key), (V.int r))] (Sum.inr "rows") (V.ref a)) (Sum.inr "numbers") (V.ref b)) (Sum.inr "last") (V.int g)) (Sum.inr "given") (V.ref c)) = _
  rw [putK_new _ h2]
  show (putK (putK (putK [((Sum.inr "width" : Key), (V.int w)), ((Sum.inr "reach" : Key), (V.int r)), ((Sum.inr "rows" : Key), (V.ref a))] (Sum.inr "numbers") (V.ref b)) (Sum.inr "last") (V.int g)) (Sum.inr "given") (V.ref c)) = _
  rw [putK_new _ h3]
  show (putK (putK [((Sum.inr "width" : Key), (V.int w)), ((Sum.inr "reach" : Key), (V.int r)), ((Sum.inr "rows" : Key), (V.ref a)), ((Sum.inr "numbers" : Key), (V.ref b))] (Sum.inr "last") (V.int g)) (Sum.inr "given") (V.ref c)) = _
  rw [putK_new _ h4]
  show (putK [((Sum.inr "width" : Key), (V.int w)), ((Sum.inr "reach" : Key), (V.int r)), ((Sum.inr "rows" : Key), (V.ref a)), ((Sum.inr "numbers" : Key), (V.ref b)), ((Sum.inr "last" : Key), (V.int g))] (Sum.inr "given") (V.ref c)) = _
  rw [putK_new _ h5]
  rfl
end
structure PlAt (H : Hp) (r : PlR) (M : PlM) : Prop where
  ob : H r.d = some (.dK (plF M.w M.r r.rw_ r.nu M.last r.gv))
  rw_ : H r.rw_ = some (.dT (mp PRw.key (fun x => V.ref x.at_) M.rows))
  nu : H r.nu = some (.dK (mp wkK (fun p => natV p.2) M.nums))
  gv : H r.gv = some (.dK (mp wkK (fun p => natV p.2) M.given))
  ps : ∀ x ∈ M.rows, H x.at_ = some (.lst (x.parts.map txtV))
  ne : r.d ≠ r.nu ∧ r.d ≠ r.gv ∧ r.nu ≠ r.gv
section
variable {H H' : Hp} {r : PlR} {M : PlM} {F : List Addr}
theorem lst_ne {a b : Addr} {xs : List V} {o : HO} (h : H a = some (.lst xs)) (h' : H b = some o) (n : ∀ ys, o ≠ .lst ys) : a ≠ b := fun z => by
  rw [z, h'] at h
  exact n _ (Option.some.inj h)
theorem PlAt.dr (h : PlAt H r M) : r.d ≠ r.rw_ := ne_of h.ob h.rw_ (by intro z; cases z)
theorem PlAt.nr (h : PlAt H r M) : r.nu ≠ r.rw_ := ne_of h.nu h.rw_ (by intro z; cases z)
theorem PlAt.gr (h : PlAt H r M) : r.gv ≠ r.rw_ := ne_of h.gv h.rw_ (by intro z; cases z)
theorem PlAt.noL (h : PlAt H r M) {a : Addr} {xs : List V} (ha : H a = some (.lst xs)) : a ∉ r.F := fun z => by
  simp only [PlR.F, List.mem_cons, List.not_mem_nil, or_false] at z
  rcases z with e | e | e | e
  · exact lst_ne ha h.ob (by intro _ z; cases z) e
  · exact lst_ne ha h.rw_ (by intro _ z; cases z) e
  · exact lst_ne ha h.nu (by intro _ z; cases z) e
  · exact lst_ne ha h.gv (by intro _ z; cases z) e
theorem PlAt.fr (h : PlAt H r M) (s : Fr F H H') (d : ∀ a ∈ r.F, a ∉ F) (dl : ∀ x ∈ M.rows, x.at_ ∉ F) : PlAt H' r M :=
  ⟨s.keep _ _ h.ob (d _ (by simp [PlR.F])) rfl, s.keep _ _ h.rw_ (d _ (by simp [PlR.F])) rfl, s.keep _ _ h.nu (d _ (by simp [PlR.F])) rfl, s.keep _ _ h.gv (d _ (by simp [PlR.F])) rfl, fun x hx => s.lst (h.ps x hx) (dl x hx), h.ne⟩
theorem PlAt.fr0 (h : PlAt H r M) (s : Fr [] H H') : PlAt H' r M := h.fr s (fun _ _ => List.not_mem_nil) (fun _ _ => List.not_mem_nil)
theorem PlAt.same (h : PlAt H r M) (s : Same H H') : PlAt H' r M := h.fr0 (frS s)
theorem PlAt.live (h : PlAt H r M) {a : Addr} (ha : a ∈ r.F) : H a ≠ none := by
  simp only [PlR.F, List.mem_cons, List.not_mem_nil, or_false] at ha
  rcases ha with e | e | e | e <;> rw [e]
  · rw [h.ob]; intro z; cases z
  · rw [h.rw_]; intro z; cases z
  · rw [h.nu]; intro z; cases z
  · rw [h.gv]; intro z; cases z
end
/-! ### what a keep changes in it -/
def findN (nums : List (List Nat × Nat)) (p : List Nat) : Option (List Nat × Nat) := nums.find? fun q => decide (wkK q = Sum.inr (st p))
def addN (x : List (List Nat × Nat) × Nat) (p : List Nat) : List (List Nat × Nat) × Nat := match findN x.1 p with
  | some _ => x
  | none => (x.1 ++ [(p, x.2 + 1)], x.2 + 1)
def addNs (nums : List (List Nat × Nat)) (last : Nat) (ps : List (List Nat)) : List (List Nat × Nat) × Nat := ps.foldl addN (nums, last)
def PlM.has (M : PlM) (nm : List Nat) : Nat := ((M.given.find? fun p => decide (wkK p = Sum.inr (st nm))).map (·.2)).getD 0
def PlM.kept (M : PlM) (nm : List Nat) (a : Addr) (ps : List (List Nat)) : PlM :=
  ⟨M.w, M.r, (addNs M.nums M.last ps).2, (addNs M.nums M.last ps).1, setW M.given nm (M.has nm + 1), M.rows ++ [⟨nm, M.has nm + 1, a, ps⟩]⟩
theorem has_val {M : PlM} {nm : List Nat} : ((M.given.find? fun p => decide (wkK p = Sum.inr (st nm))).map fun p => natV p.2).getD (natV 0) = natV (M.has nm) := by
  unfold PlM.has
  cases M.given.find? fun p => decide (wkK p = Sum.inr (st nm)) <;> rfl
theorem valV_putK_same {κ : Type} [DecidableEq κ] {k : κ} {v : V} {kvs : List (κ × V)} : valV (putK kvs k v) k = some v := by rw [valV_put, if_pos rfl]
theorem setW_find {wk : List (List Nat × Nat)} {nm : List Nat} {n : Nat} : valV (mp wkK (fun p => natV p.2) (setW wk nm n)) (Sum.inr (st nm)) = some (natV n) := by
  rw [← putK_setW]
  exact valV_putK_same
theorem addN_len (x : List (List Nat × Nat) × Nat) (p : List Nat) : (addN x p).1.length ≤ x.1.length + 1 := by
  unfold addN
  split
  · exact Nat.le_succ _
  · show (x.1 ++ [_]).length ≤ _
    rw [List.length_append]
    simp
theorem addNs_len (ps : List (List Nat)) : ∀ x : List (List Nat × Nat) × Nat, (ps.foldl addN x).1.length ≤ x.1.length + ps.length := by
  induction ps with
  | nil => intro x; simp
  | cons p r ih =>
    intro x
    have h1 := ih (addN x p)
    have h2 := addN_len x p
    rw [List.foldl_cons, List.length_cons]
    omega
/-! ### the shelf and the plain dict -/
structure Rel (M : ShM) (P : PlM) : Prop where
  w : P.w = M.w
  r : P.r = M.r
  last : P.last = M.S.last
  nums : P.nums = M.S.its.map fun i => (i.txt, i.num)
  given : P.given = M.wk
  rows : Two (fun (x : Rw) (y : PRw) => x.nm = y.nm ∧ x.num = y.num ∧ x.parts = y.parts) M.rows P.rows
theorem findN_its {S : StM} {p : List Nat} : findN (S.its.map fun i => (i.txt, i.num)) p = (S.byT p).map fun i => (i.txt, i.num) := by
  unfold findN StM.byT
  rw [List.find?_map]
  rfl
theorem its_at {S : StM} {n : Nat} {d : Nat → Nat} : ((S.at n d).its.map fun i => (i.txt, i.num)) = S.its.map fun i => (i.txt, i.num) := by
  unfold StM.at
  rw [List.map_map]
  apply List.map_congr_left
  intro i _
  show ((if i.num = n then (⟨i.num, i.txt, d i.cnt⟩ : Pc) else i).txt, (if i.num = n then (⟨i.num, i.txt, d i.cnt⟩ : Pc) else i).num) = _
  split <;> rfl
theorem addN_step {x : NdM} {p : List Nat} (ok : x.S.Ok) (hs : ∀ q ∈ x.seen, holdsP x.S q.2 q.1) : addN (x.S.its.map (fun i => (i.txt, i.num)), x.S.last) p = ((x.step p).S.its.map (fun i => (i.txt, i.num)), (x.step p).S.last) := by
  have l : addN (x.S.its.map (fun i => (i.txt, i.num)), x.S.last) p = match (x.S.byT p).map (fun i => (i.txt, i.num)) with
      | some _ => (x.S.its.map (fun i => (i.txt, i.num)), x.S.last)
      | none => (x.S.its.map (fun i => (i.txt, i.num)) ++ [(p, x.S.last + 1)], x.S.last + 1) := by
    unfold addN
    rw [findN_its]
  rw [l]
  cases hq : x.find p with
  | some q =>
    obtain ⟨h1, h2⟩ := NdM.find_some hq
    obtain ⟨j, hj, _, ht⟩ := hs q h1
    have es : x.step p = ⟨x.S, x.seen, x.row ++ [q.2]⟩ := by unfold NdM.step; rw [hq]
    rw [es]
    cases e : x.S.byT p with
    | some i => rfl
    | none => exact absurd (ht.trans h2) (StM.byT_none e j hj)
  | none =>
    have es : x.step p = ⟨(x.S.need p).1, x.seen ++ [(p, (x.S.need p).2)], x.row ++ [(x.S.need p).2]⟩ := by unfold NdM.step; rw [hq]
    rw [es]
    cases e : x.S.byT p with
    | some i =>
      rw [need_old e]
      show (x.S.its.map (fun i => (i.txt, i.num)), x.S.last) = ((x.S.at i.num (· + 1)).its.map (fun i => (i.txt, i.num)), x.S.last)
      rw [its_at]
    | none =>
      rw [need_new ok e]
      show (x.S.its.map (fun i => (i.txt, i.num)) ++ [(p, x.S.last + 1)], x.S.last + 1) = ((x.S.its ++ [(⟨x.S.last + 1, p, 1⟩ : Pc)]).map (fun i => (i.txt, i.num)), x.S.last + 1)
      rw [List.map_append]
      rfl
theorem addNs_needs {S0 : StM} {f : Nat → Nat} (h : S0.Ok) (hc : ∀ i ∈ S0.its, i.cnt = f i.num) (hf : ∀ n, S0.last < n → f n = 0) (ps : List (List Nat)) :
    addNs (S0.its.map fun i => (i.txt, i.num)) S0.last ps = ((needs S0 ps).S.its.map (fun i => (i.txt, i.num)), (needs S0 ps).S.last) := by
  have key : ∀ (qs ds : List (List Nat)) (x : NdM), NdOk S0 f x ds → qs.foldl addN (x.S.its.map (fun i => (i.txt, i.num)), x.S.last) = ((qs.foldl NdM.step x).S.its.map (fun i => (i.txt, i.num)), (qs.foldl NdM.step x).S.last) := by
    intro qs
    induction qs with
    | nil => intro _ _ _; rfl
    | cons p r ih =>
      intro ds x I
      rw [List.foldl_cons, List.foldl_cons, addN_step I.ok I.seen]
      exact ih (ds ++ [p]) _ (I.step hf p)
  exact key ps [] _ (NdOk.start h hc)
theorem Rel.keep {M : ShM} {P : PlM} (h : Rel M P) (ok : M.Ok) (nm : List Nat) (a b : Addr) (ps : List (List Nat)) : Rel (M.keep nm a ps) (P.kept nm b ps) := by
  have e := addNs_needs ok.sok ok.cn (fun n hn => ok.cnt0 hn) ps
  have hg : P.has nm = M.given nm := by
    unfold PlM.has ShM.given
    rw [h.given]
  refine ⟨h.w, h.r, ?_, ?_, ?_, ?_⟩
  · show (addNs P.nums P.last ps).2 = (needs M.S ps).S.last
    rw [h.nums, h.last, e]
  · show (addNs P.nums P.last ps).1 = _
    rw [h.nums, h.last, e]
    rfl
  · show setW P.given nm (P.has nm + 1) = setW M.wk nm (M.given nm + 1)
    rw [h.given, hg]
  · exact h.rows.snoc ⟨rfl, by show M.given nm + 1 = P.has nm + 1; rw [hg], rfl⟩
end Y

namespace Y
open PySem PySem.Spec PyProof.Rows L2
structure PlNew (H H' : Hp) (r : PlR) (w rr : Nat) : Prop where
  at_ : PlAt H' r ⟨w, rr, 0, [], [], []⟩
  sm : Same H H'
  none : ∀ x ∈ r.F, H x = none
theorem pl_new {H : Hp} {p p1 p2 p3 : Addr} (w rr : Nat) (h0 : H p = none) (h1 : upd H p (.dK []) p1 = none) (h2 : upd (upd H p (.dK [])) p1 (.dT []) p2 = none) (h3 : upd (upd (upd H p (.dK [])) p1 (.dT [])) p2 (.dK []) p3 = none) :
    upd (upd (upd (upd H p (.dK [])) p1 (.dT [])) p2 (.dK [])) p3 (.dK []) p = some (.dK []) ∧ PlNew H (upd (upd (upd (upd (upd H p (.dK [])) p1 (.dT [])) p2 (.dK [])) p3 (.dK [])) p (.dK (plF w rr p1 p2 0 p3))) ⟨p, p1, p2, p3⟩ w rr := by
  have n01 : p ≠ p1 := ne_of_none upd_same h1
  have a1 : upd (upd H p (.dK [])) p1 (.dT []) p = some (.dK []) := upd_of upd_same h1
  have n02 : p ≠ p2 := ne_of_none a1 h2
  have n12 : p1 ≠ p2 := ne_of_none upd_same h2
  have a2 := upd_of (o' := .dK []) a1 h2
  have b2 : upd (upd (upd H p (.dK [])) p1 (.dT [])) p2 (.dK []) p1 = some (.dT []) := upd_of upd_same h2
  have n03 : p ≠ p3 := ne_of_none a2 h3
  have n13 : p1 ≠ p3 := ne_of_none b2 h3
  have n23 : p2 ≠ p3 := ne_of_none upd_same h3
  have s1 := same_new (o := .dK []) h0
  have s2 := s1.trans (same_new (o := .dT []) h1)
  have s3 := s2.trans (same_new (o := .dK []) h2)
  refine ⟨upd_of a2 h3, ⟨upd_same, ?_, ?_, ?_, (fun x hx => by cases hx), n02, n03, n23⟩, ?_, ?_⟩
  · exact (upd_ne n01.symm).trans (upd_of b2 h3)
  · exact (upd_ne n02.symm).trans (upd_of upd_same h3)
  · exact (upd_ne n03.symm).trans upd_same
  · exact same_grow (s3.trans (same_new h3)) h0
  · intro x hx
    simp only [PlR.F, List.mem_cons, List.not_mem_nil, or_false] at hx
    rcases hx with e | e | e | e <;> rw [e]
    · exact h0
    · exact s1.free h1
    · exact s2.free h2
    · exact s3.free h3
end Y

namespace Y
open PySem PySem.Spec PyProof.Rows L2
/-- a loop without break: what comes behind it is out of sight within it -/
theorem for_rngC {lo : Int} {n : Nat} {g : TG} {tb : TS} {D : Ends} {σ : L2.St} {H : Hp} {R : VK} (hR : D.rt = R) (Pv : Nat → L2.St → Hp → Prop) (h0 : Pv 0 σ H)
    (hs : ∀ (N : L2.St → Hp → Prop) i σ H, i < n → Pv i σ H → g (.int (lo + i)) σ H fun σ2 H2 => tb ⟨Pv (i + 1), R, N, Pv (i + 1)⟩ σ2 H2) (hd : ∀ σ H, Pv n σ H → D.nx σ H) : forW (Itr lo n) g tb D σ H := by
  subst hR
  exact for_rng Pv h0 (fun i σ H hi p => hs _ i σ H hi p) hd
end Y

namespace Y
open PySem PySem.Spec PyProof.Rows L2
/-- one statement by itself: what follows is out of sight -/
theorem seq_join {t u : TS} {D : Ends} {σ : L2.St} {H : Hp} (R : L2.St → Hp → Prop) (h2 : ∀ σ H, R σ H → u D σ H) (h1 : ∀ N : L2.St → Hp → Prop, (∀ σ H, R σ H → N σ H) → t ⟨N, D.rt, D.bk, D.ct⟩ σ H) : tSeq t u D σ H := h1 _ h2
end Y

namespace Y
open PySem PySem.Spec PyProof.Rows L2
theorem StAt.noL {C : Addr} {H : Hp} {r : StR} {S : StM} (h : StAt C H r S) {a : Addr} {xs : List V} (ha : H a = some (.lst xs)) : a ∉ r.F := fun z => by
  simp only [StR.F, List.mem_cons, List.not_mem_nil, or_false] at z
  rcases z with e | e | e | e
  · exact lst_ne ha h.ob (by intro _ z; cases z) e
  · exact lst_ne ha h.tx (by intro _ z; cases z) e
  · exact lst_ne ha h.ct (by intro _ z; cases z) e
  · exact lst_ne ha h.nm (by intro _ z; cases z) e
theorem ShAt.noL {C Cs : Addr} {H : Hp} {r : ShR} {M : ShM} (h : ShAt C Cs H r M) {a : Addr} {xs : List V} (ha : H a = some (.lst xs)) : a ∉ r.F := fun z => by
  simp only [ShR.F, List.mem_cons] at z
  rcases z with e | e | e | e
  · exact lst_ne ha h.ob (by intro _ z; cases z) e
  · exact lst_ne ha h.wk (by intro _ z; cases z) e
  · exact lst_ne ha h.rw_ (by intro _ z; cases z) e
  · exact h.st.noL ha e
end Y

namespace Y
open PySem PySem.Spec PyProof.Rows L2
theorem ShM.Ok.at_mem {M : ShM} (h : M.Ok) {x : Rw} (hx : x ∈ M.rows) : M.at_ x.nm (x.num : Int) = some x := find_inj (key := Rw.key) h.rwn hx
/-- the numbers of a row's pieces, by the plain dict -/
theorem row_nums {S : StM} (ok : S.Ok) : ∀ {row : List Nat} {parts : List (List Nat)}, Two (holdsP S) row parts → parts.filterMap (fun p => (findN (S.its.map fun i => (i.txt, i.num)) p).map fun q => natV q.2) = row.map natV
  | _, _, .nil => rfl
  | _, _, .cons (a := n) (b := p) h t => by
    obtain ⟨i, hi, e1, e2⟩ := h
    have f : S.byT p = some i := by rw [← e2]; exact StM.byT_of ok hi
    rw [List.filterMap_cons, findN_its, f]
    show natV i.num :: _ = natV n :: _
    rw [row_nums ok t, e1]
end Y
set_option Elab.async false
set_option linter.all false
set_option maxRecDepth 100000
/-! Shelf and plain dict: what laws compare at their ends. -/
namespace Y
open PySem PySem.Spec PyProof.Rows L2
/-- a dict given back as it was before it was walked -/
theorem lock_back {F : List Addr} {H H3 : Hp} {a : Addr} {o : HO} {od : Obj} (ha : H a = some o) (hT : ∀ ps, o ≠ .tbl ps) (f : Fr F (upd H a (.frz od o)) H3) : Fr F H (upd H3 a o) := by
  refine ⟨fun b o2 e nf n => ?_, fun P hP => ?_, fun b e => ?_⟩
  · by_cases z : b = a
    · rw [z, ha] at e
      rw [z, upd_same]
      exact e
    · rw [upd_ne z]
      exact f.keep b o2 ((upd_ne z).trans e) nf n
  · have nP : P ≠ a := fun z => by
      obtain ⟨ps, h1, _⟩ := hP
      rw [z, ha] at h1
      exact hT _ (Option.some.inj h1)
    have hT1 : GxR.TabG (upd H a (.frz od o)) P := by
      obtain ⟨ps, h1, h2⟩ := hP
      exact ⟨ps, (upd_ne nP).trans h1, h2⟩
    obtain ⟨ps, h1, h2⟩ := f.tabs P hT1
    exact ⟨ps, (upd_ne nP).trans h1, h2⟩
  · by_cases z : b = a
    · rw [z, upd_same] at e
      cases e
    · rw [upd_ne z] at e
      have e2 := f.live b e
      rw [upd_ne z] at e2
      exact e2
theorem lock_in {H : Hp} {a b : Addr} {o o2 : HO} {od : Obj} (hb : H b = some o2) (h : b ≠ a) : upd H a (.frz od o) b = some o2 := (upd_ne h).trans hb
theorem two_keys {α β γ : Type} {R : α → β → Prop} {f : α → γ} {g : β → γ} (h : ∀ a b, R a b → f a = g b) : ∀ {l : List α} {m : List β}, Two R l m → m.map g = l.map f
  | _, _, .nil => rfl
  | _, _, .cons r t => by rw [List.map_cons, List.map_cons, h _ _ r, two_keys h t]
theorem Rel.keys {M : ShM} {P : PlM} (h : Rel M P) : P.rows.map PRw.key = M.rows.map Rw.key :=
  two_keys (fun x y ⟨e1, e2, _⟩ => by unfold PRw.key Rw.key; rw [e1, e2]) h.rows
theorem Rel.rwn {M : ShM} {P : PlM} (h : Rel M P) (ok : M.Ok) : (P.rows.map PRw.key).Nodup := by
  rw [h.keys]
  exact ok.rwn
theorem Rel.at_ {M : ShM} {P : PlM} (h : Rel M P) (ok : M.Ok) {y : PRw} (hy : y ∈ P.rows) : ∃ x ∈ M.rows, x.nm = y.nm ∧ x.num = y.num ∧ x.parts = y.parts ∧ M.at_ y.nm (y.num : Int) = some x := by
  obtain ⟨x, hx, e1, e2, e3⟩ := h.rows.memR hy
  refine ⟨x, hx, e1, e2, e3, ?_⟩
  rw [← e1, ← e2]
  exact ok.at_mem hx
theorem hold_mem {S : StM} (ok : S.Ok) {i : Pc} (hi : i ∈ S.its) : ∀ {row : List Nat} {parts : List (List Nat)}, Two (holdsP S) row parts → (i.num ∈ row ↔ i.txt ∈ parts)
  | _, _, .nil => by simp
  | _, _, .cons (a := n) (b := p) h t => by
    obtain ⟨j, hj, e1, e2⟩ := h
    have ih := hold_mem ok hi t
    rw [List.mem_cons, List.mem_cons, ih]
    have : i.num = n ↔ i.txt = p := by
      constructor
      · intro e
        rw [← e2, nodup_inj ok.nn hi hj (by rw [e, e1])]
      · intro e
        rw [← e1, nodup_inj ok.ntx hi hj (by rw [e, e2])]
    rw [this]
theorem two_countP {α β : Type} {R : α → β → Prop} {f : α → Bool} {g : β → Bool} : ∀ {l : List α} {m : List β}, Two R l m → (∀ a ∈ l, ∀ b, R a b → f a = g b) → m.countP g = l.countP f
  | _, _, .nil, _ => rfl
  | _, _, .cons r t, h => by
    rw [List.countP_cons, List.countP_cons, two_countP t (fun a ha b => h a (List.mem_cons_of_mem _ ha) b), h _ List.mem_cons_self _ r]
theorem Rel.cnt {M : ShM} {P : PlM} (h : Rel M P) (ok : M.Ok) {i : Pc} (hi : i ∈ M.S.its) : (P.rows.countP fun x => decide (i.txt ∈ x.parts)) = i.cnt := by
  rw [ok.cn i hi]
  refine two_countP h.rows fun x hx y ⟨_, _, e3⟩ => ?_
  have := hold_mem ok.sok hi (ok.hold x hx)
  rw [e3] at this
  by_cases z : i.num ∈ x.row
  · rw [decide_eq_true z, decide_eq_true (this.mp z)]
  · rw [decide_eq_false z, decide_eq_false (fun g => z (this.mpr g))]
theorem setW_has {wk : List (List Nat × Nat)} {nm : List Nat} {n : Nat} {p : List Nat × Nat} (h : p ∈ setW wk nm n) : p ∈ wk ∨ p.1 = nm := by
  unfold setW at h
  split at h
  · obtain ⟨q, hq, e⟩ := List.mem_map.mp h
    split at e
    · exact .inr (by rw [← e])
    · exact .inl (e ▸ hq)
  · rcases List.mem_append.mp h with h | h
    · exact .inl h
    · exact .inr (by rw [List.mem_singleton.mp h])
theorem sortedK_same {zs ts : List Key} (p : zs.Perm ts) (h1 : zs.Pairwise fun x y => ltK y x = false) (h2 : ts.Pairwise fun x y => ltK y x = false) : zs = ts :=
  p.eq_of_pairwise (le := fun x y => ltK y x = false) (fun a b _ _ g1 g2 => ltK_tri g2 g1) h1 h2
theorem names_same {M : ShM} (ok : M.Ok) (gv : ∀ p ∈ M.wk, ∃ x ∈ M.rows, x.nm = p.1) {zs ts : List Key} (p1 : zs.Perm ((M.rows.map fun x => (Sum.inr (st x.nm) : Key)).foldl addK [])) (p2 : ts.Perm (M.wk.map wkK))
    (h1 : zs.Pairwise fun x y => ltK y x = false) (h2 : ts.Pairwise fun x y => ltK y x = false) : zs = ts := by
  have n1 : ((M.rows.map fun x => (Sum.inr (st x.nm) : Key)).foldl addK []).Nodup := foldl_addK_nodup _ _ List.nodup_nil
  have n2 : (M.wk.map wkK).Nodup := by
    have := ok.wkn
    rw [List.nodup_iff_pairwise_ne, List.pairwise_map] at this ⊢
    exact this.imp fun h e => h (wkK_eq.mp e)
  have pp : ((M.rows.map fun x => (Sum.inr (st x.nm) : Key)).foldl addK []).Perm (M.wk.map wkK) := (List.perm_ext_iff_of_nodup n1 n2).mpr fun k => by
    rw [foldl_addK_mem, List.mem_map, List.mem_map]
    constructor
    · rintro (h | ⟨x, hx, e⟩)
      · cases h
      · obtain ⟨p, hp, e1, _⟩ := ok.le x hx
        exact ⟨p, hp, by rw [← e, ← e1]; rfl⟩
    · rintro ⟨p, hp, e⟩
      obtain ⟨x, hx, e1⟩ := gv p hp
      exact .inr ⟨x, hx, by rw [e1]; exact e⟩
  exact sortedK_same (p1.trans (pp.trans p2.symm)) h1 h2
end Y
set_option Elab.async false
set_option linter.all false
set_option maxRecDepth 100000
set_option maxHeartbeats 4000000
/-! set(x) of a list or a tuple of ints and texts. -/
namespace Y
open PySem PySem.Spec PyProof.Rows L2 PySem.Calls PpSet
section
variable {P : Program} {w : World} {A : Around} {E : Value → Shared → Prop} {s : Shared}
theorem fold_take {ks : List Key} {i : Nat} {k : Key} (h : ks[i]? = some k) : (ks.take (i + 1)).foldl addK [] = addK ((ks.take i).foldl addK []) k := by
  rw [List.take_succ, h]
  exact foldl_snoc _ _ _ _
/-- the filling of a new set by a walk -/
theorem setK_fill {I : Addr} {fp wr : List Addr} {G : Array GenState → Array GenState → Prop} {n : Nat} {Pv : Nat → Value → Prop} {St : Nat → Shared → Prop} {R : Result → Shared → Prop}
    (W : WalksS P w A.in1 I fp wr G n Pv St) {S : Addr} (hf : S ∉ fp) {ks : List Key} (hn : n = ks.length) (hb : ks.length + 1 < scanBound) (hv : ∀ i v, Pv i v → ∃ k, ks[i]? = some k ∧ keyIs k v = true)
    (d : Nat) : ∀ (i : Nat) (s : Shared), i + d = n → St i s → SetK w s.heap S ((ks.take i).foldl addK []) → (∀ s', Moved (S :: wr) G s s' → SetK w s'.heap S (ks.foldl addK []) → R (.ok (.ret .none)) s') →
      codeAny (model P w) A (.builtin "set.update.loop" ⟨[.ref S, .ref I], []⟩) R s := by
  have nw : S ∉ wr := fun z => hf (W.sub _ z)
  have up : ∀ b ∈ wr, b ∈ S :: wr := fun b z => List.mem_cons_of_mem _ z
  induction d with
  | zero =>
    intro i s hi st R0 fin
    refine codeAny_builtin F.entry_set_update_loop ?_
    rw [Around.under_plainId F.plain_set_update_loop _]
    refine wpAny_bind (m := pyNext (.ref I)) (W.done s _ _ (by rw [show n = i by omega]; exact st) fun s' hm => wpAny_pure (fin s' (hm.mono up) ?_))
    rw [List.take_of_length_le (by omega)] at R0
    exact R0.at_ fun o e => hm.heap S o nw e
  | succ d ih =>
    intro i s hi st R0 fin
    refine codeAny_builtin F.entry_set_update_loop ?_
    rw [Around.under_plainId F.plain_set_update_loop _]
    refine wpAny_bind (m := pyNext (.ref I)) (W.item i s _ _ (by omega) st fun v s' hP st' hm => ?_)
    obtain ⟨k, hk, hkv⟩ := hv i v hP
    have R1 := R0.at_ fun o e => hm.heap S o nw e
    have hl := foldl_addK_len (ks.take i) []
    rw [List.length_take] at hl
    show wpAny _ A.in1 (holding [v] (setAdd S v) >>= _) _ _ s'
    refine wpAny_bind (wpAny_holding ?_)
    unfold setAdd
    refine wpAny_holding (wpAny_bind ((mixKind P w).pyHash (k := k) hkv ?_))
    refine SetK.add (s := { s' with toks := s'.toks + 1 }) R1 hkv (by simp at hl; omega) fun h' b sb R2 => ?_
    rw [← fold_take hk] at R2
    refine wpAny_pure ⟨plainId_quiet F.plain_set_update_loop _, ih (i + 1) _ (by omega) (W.frame _ s' _ _ st' (Nat.le_succ _) fun c hc o e => ?_) R2 fun s'' hm2 R3 => ?_⟩
    · rw [sb.2 c (fun z => hf (by rw [← z]; exact hc))]
      exact e
    · refine fin s'' (Moved.trans W.gtrans ((hm.mono up).then_heap (Nat.le_succ _) fun c o hc e => ?_) hm2) R3
      rw [sb.2 c (fun z => hc (by rw [z]; exact List.mem_cons_self))]
      exact e
/-- the object of a new set -/
abbrev newS (w : World) : Obj := { cls := .type "set", dict := none, data := .set #[] 0 (.fresh 0 0 (!w.params.followText "set-order")) }
theorem SetK.fresh_at {h : Heap} {a : Addr} (e : h.get? a = some (newS w)) : SetK w h a [] := by
  refine ⟨_, #[], 0, _, [], ⟨e, ⟨rfl, rfl, rfl⟩, rfl⟩, .nil, List.Perm.refl _, List.nodup_nil, by decide, by rfl, List.Pairwise.nil, ?_⟩
  show _ ∨ (!w.params.followText "set-order") = true
  cases w.params.followText "set-order" <;> simp
/-- __init__ of a new set, by a list or a tuple -/
theorem setK_init {S l : Addr} {items : Array Value} {ks : List Key} (hh : A.handled = none) (hS : s.heap.get? S = some (newS w)) (hl : s.heap.IsList l items ∨ s.heap.IsTuple l items) (hk : KeyVs ks items.toList) (hb : ks.length + 1 < scanBound) :
    codeAny (model P w) A (.call (.builtin "set.__init__") ⟨[.ref S, .ref l], []⟩) (wants (fun r s₂ => r = .none ∧ ∃ h' tk, s₂ = { s with heap := h', toks := tk } ∧ SetK w h' S (ks.foldl addK []) ∧ ∀ b o, b ≠ S → s.heap.get? b = some o → h'.get? b = some o) E) s := by
  have hT : s.TypeIs (.ref S) "set" := ⟨_, hS, rfl⟩
  have hsz : items.size = ks.length := by
    have q := hk.len
    rw [Array.length_toList] at q
    exact q.symm
  have hv : ∀ (i : Nat) (v : Value), items[i]? = some v → ∃ k, ks[i]? = some k ∧ keyIs k v = true := fun i v e => by
    have hi : i < ks.length := by rw [← hsz]; exact (Array.getElem?_eq_some_iff.mp e).1
    obtain ⟨v', e1, e2⟩ := hk.get (List.getElem?_eq_getElem hi)
    rw [Array.getElem?_toList, e] at e1
    cases e1
    exact ⟨_, List.getElem?_eq_getElem hi, e2⟩
  have hSs : S < s.heap.objs.size := Heap.lt_size hS
  have hls : l < s.heap.objs.size := by
    rcases hl with ⟨o, e, _⟩ | ⟨o, e, _⟩ <;> exact Heap.lt_size e
  have nl : l ≠ S := fun z => by
    rcases hl with ⟨o, e, c, _⟩ | ⟨o, e, c, _⟩ <;>
      (rw [z, hS] at e
       cases e
       have c2 : (Value.type "set") = _ := c
       injection c2 with c3
       revert c3
       decide)
  have nI : l ≠ s.heap.objs.size := Nat.ne_of_lt hls
  have nf : S ∉ [s.heap.objs.size, l] := by
    simp only [List.mem_cons, List.not_mem_nil, or_false, not_or]
    exact ⟨Nat.ne_of_lt hSs, fun z => nl z.symm⟩
  have hh3 : A.in1.in1.in1.handled = none := by simp [hh]
  have hh2 : A.in1.in1.handled = none := by simp [hh]
  -- what the walk leaves
  have fin : ∀ (it : Obj) (s' : Shared), Moved [S, s.heap.objs.size] (fun g g' => g' = g) { s with heap := s.heap.push it } s' → SetK w s'.heap S (ks.foldl addK []) → ∃ h' tk, s' = { s with heap := h', toks := tk } ∧ SetK w h' S (ks.foldl addK []) ∧ ∀ b o, b ≠ S → s.heap.get? b = some o → h'.get? b = some o := by
    intro it s' hm R
    refine ⟨s'.heap, s'.toks, ?_, R, fun b o nb e => ?_⟩
    · have eg : s'.gens = s.gens := hm.gens
      have ed : s'.drawn = s.drawn := hm.drawn
      have eo : s'.os = s.os := hm.os
      obtain ⟨h', g', d', tk', os'⟩ := s'
      cases eg
      cases ed
      cases eo
      rfl
    · refine hm.heap b o ?_ (Heap.get?_push_of_some _ e)
      simp only [List.mem_cons, List.not_mem_nil, or_false, not_or]
      exact ⟨nb, Nat.ne_of_lt (Heap.lt_size e)⟩
  refine codeAny_call_builtin F.called_set.init.plain F.entry_set_init (check_set_init_1 hT ?_)
  have hne : (Value.type "set" == Value.type "dict") = false := by decide
  have hne1 : (Value.type "list" == Value.type "dict") = false := by decide
  have hne2 : (Value.type "tuple" == Value.type "dict") = false := by decide
  have s1 := F.sub_list_set
  have s2 := F.sub_list_frozenset
  have s3 := F.sub_tuple_set
  have s4 := F.sub_tuple_frozenset
  unfold Builtin.«set.__init__» noKeywords Builtin.Frozenset.updateFrom
  generalize hPI : pyIter = PI
  rcases hl with hl | hl
  · have hl0 := hl
    obtain ⟨o, ho, hc, n, hd⟩ := hl
    obtain ⟨oc, od, oa, os⟩ := o
    simp only at hc hd
    subst hc
    subst hd
    wp_walk
    subst hPI
    refine wpAny_pyIter_list hl0 (wpAny_bind (wpAny_runValue ?_))
    refine setK_fill ((Walks.list hh2 _ l nI items).toS) nf hsz hb hv items.size 0 _ (by omega) ?_ ?_ fun s' hm R => ?_
    · exact ⟨⟨_, Heap.get?_push_size _ rfl, rfl, rfl⟩, hl0.push _⟩
    · exact SetK.fresh_at (Heap.get?_push_of_some _ hS)
    · exact wpAny_pure (wpAny_pure ⟨rfl, fin _ s' hm R⟩)
  · have hl0 := hl
    obtain ⟨o, ho, hc, n, hd⟩ := hl
    obtain ⟨oc, od, oa, os⟩ := o
    simp only at hc hd
    subst hc
    subst hd
    wp_walk
    subst hPI
    refine wpAny_pyIter_tuple hl0 (wpAny_bind (wpAny_runValue ?_))
    refine setK_fill ((Walks.tuple hh2 _ l nI items).toS) nf hsz hb hv items.size 0 _ (by omega) ?_ ?_ fun s' hm R => ?_
    · exact ⟨⟨_, Heap.get?_push_size _ rfl, rfl, rfl⟩, hl0.push _⟩
    · exact SetK.fresh_at (Heap.get?_push_of_some _ hS)
    · exact wpAny_pure (wpAny_pure ⟨rfl, fin _ s' hm R⟩)
theorem setK_from {l : Addr} {items : Array Value} {ks : List Key} {Q : Value → Shared → Prop} (hh : A.handled = none) (hl : s.heap.IsList l items ∨ s.heap.IsTuple l items) (hk : KeyVs ks items.toList) (hb : ks.length + 1 < scanBound)
    (h : ∀ (h' : Heap) (tk : Nat), SetK w h' s.heap.objs.size (ks.foldl addK []) → (∀ b o, s.heap.get? b = some o → h'.get? b = some o) → Q (.ref s.heap.objs.size) { s with heap := h', toks := tk }) :
    wpAny (model P w) A (call (.type "set") [.ref l]) Q E s := by
  have hlS : l < s.heap.objs.size := by
    rcases hl with ⟨o, e, _⟩ | ⟨o, e, _⟩ <;> exact Heap.lt_size e
  have hS : (s.heap.push (newS w)).get? s.heap.objs.size = some (newS w) := Heap.get?_push_size _ rfl
  obtain ⟨c, tl, hmro⟩ := F.called_set.mro
  have hmade := F.called_set.made
  have hsub := F.called_set.sub
  refine wpAny_call (codeAny_of_tree ?_)
  show wpAny _ _ (callAny (.type "set") _) _ _ _
  refine wpAny_pure ⟨Code.quiet_builtin _ (by decide +kernel), codeAny_builtin F.entry_type_call ?_⟩
  rw [Around.under_plain (weight_type_call_type "set" [.ref l] []) rfl]
  have h1 := F.called_set.notType
  have h2 := F.called_set.canCreate
  have hct := F.typeCall_set_1 (.ref l)
  repeat (any_goals (first | assumption | wp_step))
  refine codeAny_mono (code_set_led1 (.ref l) (E := E) (Q₁ := fun obj s₁ => obj = .ref s.heap.objs.size ∧ s₁ = { s with heap := s.heap.push (newS w) }) ⟨rfl, rfl⟩) fun r s₁ hr => ?_
  cases r with
  | error e => exact hr
  | ok fl =>
    cases fl <;> first | exact hr.elim | skip
    obtain ⟨rfl, rfl⟩ := hr
    have hT : Shared.TypeIs { s with heap := s.heap.push (newS w) } (.ref s.heap.objs.size) "set" := ⟨_, hS, rfl⟩
    have hli := F.called_set.init.lookup
    have hbi := F.called_set.init.bind (.ref s.heap.objs.size)
    repeat (any_goals (first | assumption | wp_step))
    have hl1 : (s.heap.push (newS w)).IsList l items ∨ (s.heap.push (newS w)).IsTuple l items := hl.imp (fun ⟨o, e, c, n, d⟩ => ⟨o, Heap.get?_push_of_some _ e, c, n, d⟩) (fun ⟨o, e, c, n, d⟩ => ⟨o, Heap.get?_push_of_some _ e, c, n, d⟩)
    refine codeAny_mono (setK_init (s := { s with heap := s.heap.push (newS w) }) (ks := ks) (E := E) (by simp [hh]) hS hl1 hk hb) fun r s2 hr => ?_
    cases r with
    | error e => exact hr
    | ok fl =>
      cases fl <;> first | exact hr.elim | skip
      obtain ⟨rfl, h', tk, rfl, R, keep⟩ := hr
      repeat (any_goals (first | assumption | wp_step))
      exact h _ _ R fun b o e => keep b o (Nat.ne_of_lt (Heap.lt_size e)) (Heap.get?_push_of_some _ e)
end
end Y
namespace Y
open PySem PySem.Spec PyProof.Rows L2
section
variable {X : Cx}
/-- set(x) of a list or a tuple of keys -/
def rSetOf (K : PySem.W.Frag) (w : World) : List V → Hp → VK → Prop := fun xs H Q => ∃ (a : Addr) (ks : List Key), xs = [.ref a] ∧ (SqL K H a (ks.map kV) ∨ SqT K H a (ks.map kV)) ∧ ks.length + 1 < scanBound ∧ ∀ p, H p = none → Q (.ref p) (upd H p (SetKO w p (ks.foldl addK [])))
theorem y_setOf {K : PySem.W.Frag} {w : World} (hcalm : X.calm = true) (hK : X.K = K := by rfl) (hw : X.w = w := by rfl) : CallR X (.type "set") (rSetOf K w) := by
  subst hK
  subst hw
  intro pins s σ H xs us Q I r h
  obtain ⟨a, ks, rfl, hs, hb, q⟩ := h
  obtain ⟨u, eu, rx⟩ := vals1 r
  subst eu
  cases rx
  have hn : H s.heap.objs.size = none := I.hok.fresh (Nat.le_refl _)
  rcases hs with hs | hs
  · obtain ⟨its, rv, pl, hz⟩ := I.list hs
    refine setK_from (P := X.prog) (w := X.w) (ks := ks) (I.ok.hd hcalm) (.inl pl.isList) (by simpa using keyVs_of rv) hb fun h' tk R keep => ?_
    refine ⟨.ref s.heap.objs.size, upd H s.heap.objs.size (SetKO X.w s.heap.objs.size (ks.foldl addK [])), I.laid (t' := tk) keep (Nat.le_refl _) (setKO_ok R), rfl, q _ hn⟩
  · obtain ⟨its, rv, ⟨o, ho, hc, n, hd⟩, _⟩ := I.tuple hs
    refine setK_from (P := X.prog) (w := X.w) (ks := ks) (items := its.toArray) (I.ok.hd hcalm) (.inr ⟨o, ho, hc, n, hd⟩) (by simpa using keyVs_of rv) hb fun h' tk R keep => ?_
    refine ⟨.ref s.heap.objs.size, upd H s.heap.objs.size (SetKO X.w s.heap.objs.size (ks.foldl addK [])), I.laid (t' := tk) keep (Nat.le_refl _) (setKO_ok R), rfl, q _ hn⟩
end
end Y
namespace Y
open PySem PySem.Spec PyProof.Rows L2
/-- a op1 b op2 c op3 d, as a test -/
def tCh3 (r1 r2 r3 : R2) (ta tb tc td : TE) : TT := fun σ H R => ta σ H fun x H1 => tb σ H1 fun y H2 => r1 x y H2 fun z H3 => asBl z fun k => brT k (fun σ H3 R => tc σ H3 fun u H4 => r2 y u H4 fun z2 H5 => asBl z2 fun k2 =>
  brT k2 (fun σ H5 R => td σ H5 fun v H6 => r3 u v H6 fun z3 H7 => asBl z3 fun k3 => R k3 H7) (tK false) σ H5 R) (tK false) σ H3 R
theorem tCh3_ap {r1 r2 r3 : R2} {ta tb tc td : TE} {σ : L2.St} {H : Hp} {R : Bool → Hp → Prop} : tCh3 r1 r2 r3 ta tb tc td σ H R = ta σ H fun x H1 => tb σ H1 fun y H2 => r1 x y H2 fun z H3 => asBl z fun k => brT k (fun σ H3 R => tc σ H3 fun u H4 => r2 y u H4 fun z2 H5 => asBl z2 fun k2 =>
  brT k2 (fun σ H5 R => td σ H5 fun v H6 => r3 u v H6 fun z3 H7 => asBl z3 fun k3 => R k3 H7) (tK false) σ H5 R) (tK false) σ H3 R := rfl
theorem pt_chain3 {X : Cx} {op1 op2 op3 : CmpOp} {r1 r2 r3 : R2} {a b c d : Expr} {ta tb tc td : TE} {pos : Pos} (h1 : OpR X (compareOp op1) r1) (h2 : OpR X (compareOp op2) r2) (h3 : OpR X (compareOp op3) r3) (ha : PE X a ta) (hb : PE X b tb) (hc : PE X c tc) (hd : PE X d td)
    (hm : lastMarks [op1, op2, op3] [b, c, d] = false := by with_unfolding_all rfl) : PT X (.Compare a [op1, op2, op3] [b, c, d] pos) (tCh3 r1 r2 r3 ta tb tc td) := by
  refine ⟨fun pins s σ H Q I h => ?_⟩
  rw [tCh3_ap] at h
  refine isTrue_chain (thn (ha.run pins s σ H _ I h) fun v s1 ⟨x, H1, I1, e1, q1⟩ => test_link (thn (hb.run pins s1 σ H1 _ I1 q1) fun u s2 ⟨y, H2, I2, e2, q2⟩ =>
    thn (h1 pins s2 σ H2 x y v u _ I2 e1 e2 q2) fun g s3 ⟨z, H3, I3, e3, q3⟩ => ?_)) hm
  obtain ⟨k, ez, q3⟩ := Eq.mp asBl_ex q3
  subst ez
  cases e3
  refine wpAny_truthy_bool ?_
  cases k with
  | false => rw [asBl_bl, brT_f] at q3; exact ite_ff ⟨H3, I3, q3⟩
  | true =>
    rw [asBl_bl, brT_t] at q3
    refine ite_tt (test_link (thn (hc.run pins s3 σ H3 _ I3 q3) fun v' s4 ⟨y2, H4, I4, e4, q4⟩ => thn (h2 pins s4 σ H4 y y2 u v' _ I4 e2 e4 q4) fun g s5 ⟨z2, H5, I5, e5, q5⟩ => ?_))
    obtain ⟨k2, ez2, q5⟩ := Eq.mp asBl_ex q5
    subst ez2
    cases e5
    refine wpAny_truthy_bool ?_
    cases k2 with
    | false => rw [asBl_bl, brT_f] at q5; exact ite_ff ⟨H5, I5, q5⟩
    | true =>
      rw [asBl_bl, brT_t] at q5
      refine ite_tt (test_last (thn (hd.run pins s5 σ H5 _ I5 q5) fun v2 s6 ⟨y3, H6, I6, e6, q6⟩ => thn (h3 pins s6 σ H6 y2 y3 v' v2 _ I6 e4 e6 q6) fun g s7 ⟨z3, H7, I7, e7, q7⟩ => ?_))
      obtain ⟨k3, ez3, q7⟩ := Eq.mp asBl_ex q7
      subst ez3
      cases e7
      exact wpAny_truthy_bool ⟨H7, I7, q7⟩
end Y
set_option Elab.async false
set_option linter.all false
set_option maxRecDepth 100000
/-! How the stock grows by pieces needed. -/
namespace Y
open PySem PySem.Spec PyProof.Rows L2
def keyT (p : List Nat) : Key := Sum.inr (st p)
theorem keyT_inj {p q : List Nat} (h : keyT p = keyT q) : p = q := st_inj.mp (Sum.inr.inj h)
/-- a piece that the stock has not -/
def StM.isNew (S : StM) (p : List Nat) : Bool := (S.byT p).isNone
def newK (S : StM) (ps : List (List Nat)) : List Key := ((ps.filter S.isNew).map keyT).foldl addK []
theorem newK_mem {S : StM} {ps : List (List Nat)} {p : List Nat} : keyT p ∈ newK S ps ↔ p ∈ ps ∧ S.isNew p = true := by
  unfold newK
  rw [foldl_addK_mem, List.mem_map]
  constructor
  · rintro (h | ⟨q, hq, e⟩)
    · cases h
    · rw [← keyT_inj e]
      exact List.mem_filter.mp hq
  · intro h
    exact .inr ⟨p, List.mem_filter.mpr h, rfl⟩
theorem newK_snoc {S : StM} {ps : List (List Nat)} {p : List Nat} : newK S (ps ++ [p]) = if S.isNew p = true then addK (newK S ps) (keyT p) else newK S ps := by
  unfold newK
  rw [List.filter_append, List.map_append, List.foldl_append]
  by_cases h : S.isNew p = true
  · rw [if_pos h, List.filter_cons_of_pos h]
    rfl
  · rw [if_neg h, List.filter_cons_of_neg h]
    rfl
theorem NdOk.seen_ds {S0 : StM} {f : Nat → Nat} {x : NdM} {ds : List (List Nat)} (I : NdOk S0 f x ds) {q : List Nat × Nat} (hq : q ∈ x.seen) : q.1 ∈ ds := by
  have h1 : q.2 ∈ x.row := (I.mem q.2).mpr (List.mem_map.mpr ⟨q, hq, rfl⟩)
  obtain ⟨p, hp, i, hi, e1, e2⟩ := I.row.mem h1
  obtain ⟨j, hj, g1, g2⟩ := I.seen q hq
  have e : i = j := nodup_inj I.ok.nn hi hj (by rw [e1, g1])
  subst e
  rw [← g2, e2]
  exact hp
theorem NdOk.grow {S0 : StM} {f : Nat → Nat} {x : NdM} {ds : List (List Nat)} (I : NdOk S0 f x ds) (h : x.S.last = S0.last + (newK S0 ds).length) (p : List Nat) : (x.step p).S.last = S0.last + (newK S0 (ds ++ [p])).length := by
  rw [newK_snoc]
  unfold NdM.step
  split
  · rename_i q hq
    obtain ⟨h1, h2⟩ := NdM.find_some hq
    by_cases n : S0.isNew p = true
    · rw [if_pos n, addK_old (newK_mem.mpr ⟨h2 ▸ I.seen_ds h1, n⟩)]
      exact h
    · rw [if_neg n]
      exact h
  · rename_i hq
    have hn := NdM.find_none hq
    cases e : x.S.byT p with
    | some i =>
      obtain ⟨hi, ht⟩ := StM.byT_some e
      rw [need_old e]
      have n : ¬ S0.isNew p = true := fun z => by
        rcases I.new i hi with ⟨j, hj, _, ej⟩ | g
        · unfold StM.isNew at z
          rw [Option.isNone_iff_eq_none] at z
          exact StM.byT_none z j hj (by rw [ej, ht])
        · exact hn (ht ▸ g)
      rw [if_neg n]
      exact h
    | none =>
      rw [need_new I.ok e]
      have n : S0.isNew p = true := by
        unfold StM.isNew
        rw [Option.isNone_iff_eq_none]
        cases e2 : S0.byT p with
        | none => rfl
        | some j =>
          obtain ⟨hj, ht⟩ := StM.byT_some e2
          obtain ⟨i, hi, _, ei⟩ := I.old j.num j.txt ⟨j, hj, rfl, rfl⟩
          exact absurd (by rw [ei, ht]) (StM.byT_none e i hi)
      have m : keyT p ∉ newK S0 ds := fun z => by
        obtain ⟨_, _, i, hi, _, ei⟩ := I.row.memR (newK_mem.mp z).1
        exact StM.byT_none e i hi ei
      rw [if_pos n, addK_new m, List.length_append]
      show x.S.last + 1 = _
      rw [h]
      rfl
theorem needs_grow {S0 : StM} {f : Nat → Nat} (h : S0.Ok) (hc : ∀ i ∈ S0.its, i.cnt = f i.num) (hf : ∀ n, S0.last < n → f n = 0) (ps : List (List Nat)) : (needs S0 ps).S.last = S0.last + (newK S0 ps).length := by
  have key : ∀ (qs ds : List (List Nat)) (x : NdM), NdOk S0 f x ds → x.S.last = S0.last + (newK S0 ds).length → (qs.foldl NdM.step x).S.last = S0.last + (newK S0 (ds ++ qs)).length := by
    intro qs
    induction qs with
    | nil => intro ds x I e; rw [List.append_nil]; exact e
    | cons p r ih =>
      intro ds x I e
      have := ih (ds ++ [p]) (x.step p) (I.step hf p) (I.grow e p)
      rw [List.append_assoc] at this
      exact this
  exact key ps [] _ (NdOk.start h hc) rfl
/-- the texts that the stock has then -/
theorem needs_txts {S0 : StM} {f : Nat → Nat} (h : S0.Ok) (hc : ∀ i ∈ S0.its, i.cnt = f i.num) (hf : ∀ n, S0.last < n → f n = 0) (ps : List (List Nat)) {t : List Nat} : (∃ i ∈ (needs S0 ps).S.its, i.txt = t) ↔ (∃ i ∈ S0.its, i.txt = t) ∨ t ∈ ps := by
  have I := NdOk.all h hc hf ps
  constructor
  · rintro ⟨i, hi, e⟩
    rcases I.new i hi with ⟨j, hj, _, ej⟩ | g
    · exact .inl ⟨j, hj, ej.trans e⟩
    · obtain ⟨q, hq, eq⟩ := List.mem_map.mp g
      exact .inr (by rw [← e, ← eq]; exact I.seen_ds hq)
  · rintro (⟨i, hi, e⟩ | g)
    · obtain ⟨j, hj, _, ej⟩ := I.old i.num i.txt ⟨i, hi, rfl, rfl⟩
      exact ⟨j, hj, ej.trans e⟩
    · obtain ⟨_, _, i, hi, _, ei⟩ := I.row.memR g
      exact ⟨i, hi, ei⟩
theorem isNew_iff {S : StM} {p : List Nat} : S.isNew p = true ↔ ¬ ∃ i ∈ S.its, i.txt = p := by
  unfold StM.isNew
  rw [Option.isNone_iff_eq_none]
  constructor
  · rintro h ⟨i, hi, e⟩
    exact StM.byT_none h i hi e
  · intro h
    cases e : S.byT p with
    | none => rfl
    | some i => exact absurd ⟨i, (StM.byT_some e).1, (StM.byT_some e).2⟩ h
theorem ShM.Ok.nil {w r : Nat} (hw : 1 ≤ w ∧ w ≤ 8) (hr : 1 ≤ r ∧ r ≤ 40) : (⟨w, r, ⟨0, []⟩, [], []⟩ : ShM).Ok :=
  ⟨⟨List.Pairwise.nil, (fun i hi => by cases hi), List.nodup_nil, (fun i hi => by cases hi)⟩, (fun i hi => by cases hi), List.nodup_nil, (fun i hi => by cases hi), List.nodup_nil, (fun i hi => by cases hi), (fun i hi => by cases hi), (fun i hi => by cases hi), hw, hr⟩
theorem ShM.Ok.txts {M : ShM} (h : M.Ok) {nm : List Nat} {a : Addr} (ps : List (List Nat)) {t : List Nat} : (∃ i ∈ (M.keep nm a ps).S.its, i.txt = t) ↔ (∃ i ∈ M.S.its, i.txt = t) ∨ t ∈ ps := needs_txts h.sok h.cn (fun n hn => h.cnt0 hn) ps
theorem ShM.Ok.its {M : ShM} (h : M.Ok) {nm : List Nat} {a : Addr} (ps : List (List Nat)) : (M.keep nm a ps).S.its.length ≤ M.S.its.length + ps.length := (NdOk.all h.sok h.cn (fun n hn => h.cnt0 hn) ps).len
theorem ShM.Ok.grow {M : ShM} (h : M.Ok) (ps : List (List Nat)) : (needs M.S ps).S.last = M.S.last + (newK M.S ps).length := needs_grow h.sok h.cn (fun n hn => h.cnt0 hn) ps
/-- the name has no version yet -/
theorem given0 {M : ShM} {nm : List Nat} (h : ∀ p ∈ M.wk, p.1 ≠ nm) : M.given nm = 0 := by
  unfold ShM.given
  have e : (M.wk.find? fun p => decide (wkK p = Sum.inr (st nm))) = none := find_no.mpr fun p hp e => h p hp (wkK_eq.mp e)
  rw [e]
  rfl
theorem given_keep {M : ShM} (ok : M.Ok) {nm : List Nat} {a : Addr} {ps : List (List Nat)} : (M.keep nm a ps).given nm = M.given nm + 1 :=
  given_at (M := M.keep nm a ps) (p := (nm, M.given nm + 1)) (setW_nodup ok.wkn) setW_mem
end Y
set_option Elab.async false
set_option linter.all false
set_option maxRecDepth 100000
/-! Dicts by tuples: pop and del; sums. -/
namespace Y
open PySem PySem.Spec PyProof.Rows L2
section
variable {X : Cx} {pins : List (Addr × Obj)} {σ : L2.St} {H : Hp} {s : Shared} {a b : Addr} {kvs : List (List Key × V)} {k : List Key} {v : V} {A : Around} {E : Value → Shared → Prop}
/-- a tuple's entry is there -/
theorem kt_there {xs : List (List Key × Addr × Value)} (rel : KT H kvs xs) (l : valV kvs k = some v) : ∃ p, atKey xs k = some p ∧ RelV v p.2 := by
  have r := rel.val k
  rw [l] at r
  cases e : atKey xs k with
  | none =>
    rw [e] at r
    exact (show False from r).elim
  | some p =>
    rw [e] at r
    exact ⟨p, rfl, r⟩
theorem kt_without {h' : Heap} {tk : Nat} {xs : List (List Key × Addr × Value)} (I : Inv X pins σ H s) (ha : H a = some (.dT kvs)) (z : kvs.length ≤ sizeLine) (hd : (a == sysModules) = false) (rel : KT H kvs xs) (dd : h'.DictOfH (tupleKind (mixKind X.prog X.w)) a (withoutH xs k)) (hs : Heap.SameBut a s.heap h') :
    Inv X pins σ (upd H a (.dT (dropK kvs k))) { s with heap := h', toks := tk } := by
  obtain ⟨o, es, ep, hq, h2, h3, h4, _, h5⟩ := dd
  exact d_write I (by rw [ha]; exact True.intro) hs ⟨o, hq⟩ ⟨Nat.le_trans (dropK_le kvs k) z, hd, _, (L2.DX.KT_drop k rel).keeps (fun c ys ec => (by rw [upd_ne (ne_of ec ha (fun z => nomatch z))]; exact ec)), o, es, ep, hq, h2, h3, h4, h5⟩
theorem d_delT {Q : Unit → Shared → Prop} (hu : A.units + 1 < cLine) (I : Inv X pins σ H s) (ha : H a = some (.dT kvs)) (hb : H b = some (.tup (k.map kV))) (l : valV kvs k = some v) (h : ∀ s', Inv X pins σ (upd H a (.dT (dropK kvs k))) s' → Q () s') :
    wpAny (model X.prog X.w) A (delItem (.ref a) (.ref b)) Q E s := by
  obtain ⟨z, hd, xs, rel, dd⟩ := dt_of I.hok ha
  obtain ⟨p, hp, rp⟩ := kt_there rel l
  exact wpAny_delItem_heap (tupleKind_room_in1 hu) (key_of I.hok hb) hd dd hp (fun h' dd' hs => h _ (kt_without I ha z hd rel dd' hs)) (by rw [← Paired.length rel]; exact z)
theorem d_popT1 {Q : Value → Shared → Prop} (hu : A.units + 1 < cLine) (I : Inv X pins σ H s) (ha : H a = some (.dT kvs)) (hb : H b = some (.tup (k.map kV))) (l : valV kvs k = some v) (h : ∀ w' s', Inv X pins σ (upd H a (.dT (dropK kvs k))) s' → RelV v w' → Q w' s') :
    wpAny (model X.prog X.w) A (call (.builtin "dict.pop") [.ref a, .ref b]) Q E s := by
  obtain ⟨z, hd, xs, rel, dd⟩ := dt_of I.hok ha
  obtain ⟨p, hp, rp⟩ := kt_there rel l
  exact call_pop_heap (more := []) (.inl rfl) (PySem.F.args_dict_pop_2 _ _) (tupleKind_room_in1 hu) (key_of I.hok hb) hd dd hp (fun h' dd' hs => h _ _ (kt_without I ha z hd rel dd' hs) rp) (by rw [← Paired.length rel]; exact z)
end
/-- del d[k], k a tuple -/
def sDDelT (td ty : TE) : TS := fun D σ H => td σ H fun x H1 => asRef x fun a => ty σ H1 fun y H2 => asRef y fun b => ∃ kvs k v, H2 a = some (.dT kvs) ∧ H2 b = some (.tup (k.map kV)) ∧ valV kvs k = some v ∧ D.nx σ (upd H2 a (.dT (dropK kvs k)))
theorem sDDelT_ap {td ty : TE} {D : Ends} {σ : L2.St} {H : Hp} : sDDelT td ty D σ H = td σ H fun x H1 => asRef x fun a => ty σ H1 fun y H2 => asRef y fun b => ∃ kvs k v, H2 a = some (.dT kvs) ∧ H2 b = some (.tup (k.map kV)) ∧ valV kvs k = some v ∧ D.nx σ (upd H2 a (.dT (dropK kvs k))) := rfl
/-- d.pop(k), k a tuple, there -/
def tDPopT (td ty : TE) : TE := fun σ H Q => td σ H fun x H1 => asRef x fun a => IsD H1 a ∧ ty σ H1 fun y H2 => asRef y fun b => ∃ kvs k v, H2 a = some (.dT kvs) ∧ H2 b = some (.tup (k.map kV)) ∧ valV kvs k = some v ∧ Q v (upd H2 a (.dT (dropK kvs k)))
theorem tDPopT_ap {td ty : TE} {σ : L2.St} {H : Hp} {Q : VK} : tDPopT td ty σ H Q = td σ H fun x H1 => asRef x fun a => IsD H1 a ∧ ty σ H1 fun y H2 => asRef y fun b => ∃ kvs k v, H2 a = some (.dT kvs) ∧ H2 b = some (.tup (k.map kV)) ∧ valV kvs k = some v ∧ Q v (upd H2 a (.dT (dropK kvs k))) := rfl
section
variable {X : Cx} {o i e : Expr} {td ty : TE} {pos tpos apos cpos : Pos}
theorem ps_ddelT (hu : X.A.units + 1 < cLine) (ho : PE X o td) (hi : PE X i ty) : PS X (.Delete [.Subscript o i tpos] pos) (sDDelT td ty) := by
  refine ⟨fun pins s σ H D I h => ?_⟩
  refine wpAny_Delete (wpAny_deleteEach_cons (wpAny_delete_Subscript (thn (ho.run pins s σ H _ I h) fun u s1 ⟨x, H1, I1, rx, q1⟩ => ?_)))
  obtain ⟨a, ex, p1⟩ := Eq.mp asRef_ex q1
  subst ex
  obtain rfl : u = Value.ref a := rx
  refine thn (hi.run pins s1 σ H1 _ I1 p1) fun iv s2 ⟨y, H2, I2, ry, q2⟩ => ?_
  obtain ⟨b, ey, kvs, k, v, e, eb, l, p2⟩ := Eq.mp asRef_ex q2
  subst ey
  obtain rfl : iv = Value.ref b := ry
  exact d_delT hu I2 e eb l fun s3 I3 => wpAny_deleteEach_nil ⟨σ, _, I3, p2⟩
theorem pe_dpopT (hu : X.A.units + 1 < cLine) (ho : PE X o td) (he : PE X e ty) (m : M1 X o "pop" apos e cpos) : PE X (.Call (.Attribute o "pop" apos) [e] [] cpos) (tDPopT td ty) := by
  refine ⟨fun pins s σ H Q I h => ?_⟩
  refine wpAny_Call_method m.base m.few m.line PySem.F.plainAttrs_dict PySem.F.slot_dict_pop PySem.F.type_dict_pop (thn (ho.run pins s σ H _ I h) fun u s1 ⟨x, H1, I1, rx, q1⟩ => ?_)
  obtain ⟨a, ex, d, p1⟩ := Eq.mp asRef_ex q1
  subst ex
  obtain rfl : u = Value.ref a := rx
  obtain ⟨t1, t2, _⟩ := isD_at I1 d
  refine ⟨t1, t2, ?_⟩
  rw [m.trees]
  refine Calls.callWith_builtin rfl (Calls.evalArgs_plain (Calls.spliced_cons (thn (he.run pins s1 σ H1 _ I1 p1) fun iv s2 ⟨y, H2, I2, ry, q2⟩ => Calls.spliced_nil ?_)))
  obtain ⟨b, ey, kvs, k, v, e, eb, l, p2⟩ := Eq.mp asRef_ex q2
  subst ey
  obtain rfl : iv = Value.ref b := ry
  exact d_popT1 hu I2 e eb l fun w' s3 I3 rw' => ⟨v, _, I3, rw', p2⟩
end
end Y
namespace Y
open PySem PySem.Spec PyProof.Rows L2
section
variable {X : Cx}
/-- the keys' tuples with their keys -/
theorem tks_keys {H : Hp} : ∀ {kvs : List (List Key × V)} {xs : List (List Key × Addr × Value)}, KT H kvs xs → ∃ ts : List TK, (ts.map fun t => Value.ref t.a) = (xs.map fun x => Value.ref x.2.1) ∧ ts.map (·.ks) = kvs.map (·.1) ∧ TKsAt H ts
  | _, _, Paired.nil => ⟨[], rfl, rfl, fun _ h => by cases h⟩
  | _, _, Paired.cons (a := p) (b := q) h t => by
    obtain ⟨ts, e1, e2, e3⟩ := tks_keys t
    refine ⟨⟨q.2.1, p.1⟩ :: ts, by rw [List.map_cons, List.map_cons, e1], by rw [List.map_cons, List.map_cons, e2], fun u hu => ?_⟩
    rcases List.mem_cons.mp hu with z | z
    · subst z
      exact h.2.1
    · exact e3 u z
/-- sorted(d) of a dict by tuples of one form -/
def rSortedDT : List V → Hp → VK → Prop := fun xs H Q => ∃ (a : Addr) (kvs : List (List Key × V)) (c : Bool) (sh : List Bool), xs = [.ref a] ∧ Rd H a (.dT kvs) ∧ (∀ k ∈ kvs.map (·.1), k.map kindK = c :: sh) ∧
  ∀ (zs : List TK) (p : Addr), (zs.map (·.ks)).Perm (kvs.map (·.1)) → (zs.Pairwise fun x y => lexK y.ks x.ks = false) → TKsAt H zs → H p = none → Q (.ref p) (upd H p (.lst (zs.map fun t => V.ref t.a)))
theorem y_sortedDT (hcalm : X.calm = true) : CallR X (.builtin "sorted") rSortedDT := by
  intro pins s σ H xs us Q I r q
  obtain ⟨a, kvs, c, sh, ex, hd, hc, q⟩ := q
  subst ex
  obtain ⟨u, eu, rx⟩ := vals1 r
  subst eu
  cases rx
  obtain ⟨z, lo, ks, rel, o, es, ep, ho, hx, hdt, he, hn⟩ := (show ObjOk X.prog X.w H s.heap a (.dT kvs) from hd.ok I.hok)
  have l1 : es.size = ks.length := size_of_entries he
  have l2 : kvs.length = ks.length := Paired.length rel
  obtain ⟨ts, ea, ek, ht⟩ := tks_keys rel
  have lt : ts.length = kvs.length := by
    have := congrArg List.length ek
    rwa [List.length_map, List.length_map] at this
  refine Calls.call_function_entry PyProof.Rows.kind_sorted PyProof.Rows.plain_sorted PyProof.Rows.entry_sorted (PyProof.Rows.args_sorted1 _) ?_
  unfold Builtin.«sorted»
  refine wpAny_bind (m := checkCount "sorted" 1 1 _) (wpAny_pure ?_)
  refine wpAny_bind (PySem.W.kdu_collect (A := X.A.in1) (kdl_raw lo hx hdt) (I.ok.hd hcalm) ho (by rw [l1, ← l2]; exact z) fun h' tk acc hk it => ?_)
  have eacc : acc.toList = ts.map fun t => Value.ref t.a := by
    rw [ea]
    have hl : acc.toList.length = ks.length := by rw [Array.length_toList, it.1]; exact l1
    apply List.ext_getElem?
    intro j
    rw [List.getElem?_map]
    cases hj : acc.toList[j]? with
    | none =>
      have h1 := List.getElem?_eq_none_iff.mp hj
      rw [List.getElem?_eq_none (by omega)]
      rfl
    | some v =>
      obtain ⟨en, hen, hv⟩ := it.2 j v (by rw [← Array.getElem?_toList]; exact hj)
      have qe := entry_at he j
      rw [hen] at qe
      cases hb : ks[j]? with
      | none =>
        rw [hb] at qe
        exact nomatch (show some en = none from qe)
      | some b =>
        rw [hb] at qe
        have e2 : en = entryOfKey (tupleKind (mixKind X.prog X.w)) b := Option.some.inj qe
        rw [hv, e2]
        rfl
  rw [eacc]
  have good : ∀ v ∈ ts.map (fun t => Value.ref t.a), TupK s.heap v (tupKeys H v) ∧ (tupKeys H v).map kindK = c :: sh := fun v hv => by
    obtain ⟨t, hm, rfl⟩ := List.mem_map.mp hv
    have h := ht t hm
    rw [tupKeys_of h]
    obtain ⟨_, its2, r2, o, ho, hcl, n, hd⟩ := I.hok _ _ h
    exact ⟨⟨t.a, o, _, n, rfl, ho, hcl, hd, keyVs_of r2⟩, hc _ (by rw [← ek]; exact List.mem_map.mpr ⟨t, hm, rfl⟩)⟩
  have I1 : L2.Inv X pins σ H { s with heap := h', toks := tk } := I.kept hk
  have hz : (ts.map fun t => Value.ref t.a).length ≤ sizeLine := by rw [List.length_map, lt]; exact z
  refine wpAny_bind (wpAny_newList ?_ hz)
  have hoL : (h'.push (seqObj "list" (ts.map fun t => Value.ref t.a).toArray 0)).get? h'.objs.size = some (seqObj "list" (ts.map fun t => Value.ref t.a).toArray 0) := Heap.get?_push_size _ rfl
  show wpAny _ _ _ _ _ { s with heap := h'.push (seqObj "list" (ts.map fun t => Value.ref t.a).toArray 0), toks := tk }
  refine wpAny_bind (wpAny_holding (wpAny_call_entry PyProof.Rows.slot_list_sort ⟨_, hoL, rfl⟩ PyProof.Rows.entry_list_sort
    (SrtO.list_sort_ord (s := { s with heap := h'.push (seqObj "list" (ts.map fun t => Value.ref t.a).toArray 0), toks := tk }) (swo_lexK (tupKeys H)) hoL hz (fun h2 => tup_sortable (by omega) (fun v hm => ⟨(good v hm).1.keeps fun b o e _ => Heap.get?_push_of_some _ (hk b o e), (good v hm).2⟩) fun o e => ?_) fun out h1 h2 => ⟨_, rfl, ?_⟩) (PyProof.Rows.args_list_sort _)))
  · have e : some (seqObj "list" (ts.map fun t => Value.ref t.a).toArray 0) = some o := hoL.symm.trans e
    cases e
    intro z
    exact absurd (Value.type.inj z) (by decide)
  · obtain ⟨zs, p, ez⟩ := perm_lift (fun t : TK => Value.ref t.a) h2.perm ts rfl
    subst ez
    obtain ⟨e', he'⟩ := PyProof.Rows.sortedHeap_at (vs := ts.map fun t => Value.ref t.a) (out := (zs.map fun t => Value.ref t.a).toArray) hoL
    have hlen : (zs.map fun t => V.ref t.a).length ≤ sizeLine := by
      rw [List.length_map, p.length_eq, lt]
      exact z
    refine wpAny_pure ⟨_, rfl, .ref h'.objs.size, upd H h'.objs.size (.lst (zs.map fun t => V.ref t.a)), I1.laid (t' := tk) (fun b u e => ?_) (Nat.le_refl _)
      (show ObjOk X.prog X.w _ _ _ (.lst (zs.map fun t => V.ref t.a)) from ⟨hlen, _, e', refs_to, he'⟩), rfl, q zs _ (by rw [← ek]; exact p.map _) ?_ (fun t ht2 => ht t (p.mem_iff.mp ht2)) (I1.hok.fresh (Nat.le_refl _))⟩
    · have hb : b < h'.objs.size := Heap.lt_size e
      rw [PyProof.Rows.sortedHeap_old (Nat.ne_of_lt hb) (by rw [size_push']; exact Nat.lt_succ_of_lt hb)]
      exact Heap.get?_push_of_some _ e
    · have h3 := List.pairwise_map.mp h1
      refine List.Pairwise.imp_of_mem (fun {x y} hx hy g => ?_) h3
      have g1 := tupKeys_of (ht x (p.mem_iff.mp hx))
      have g2 := tupKeys_of (ht y (p.mem_iff.mp hy))
      have g' : lexK (tupKeys H (.ref y.a)) (tupKeys H (.ref x.a)) = false := g
      rw [g1, g2] at g'
      exact g'
end
end Y
set_option Elab.async false
set_option linter.all false
set_option maxRecDepth 100000
/-! A version taken out: the stock, the shelf, the plain dict. -/
namespace Y
open PySem PySem.Spec PyProof.Rows L2
theorem Two.impM {α β : Type} {R R' : α → β → Prop} : ∀ {l : List α} {m : List β}, Two R l m → (∀ a b, a ∈ l → R a b → R' a b) → Two R' l m
  | _, _, .nil, _ => .nil
  | _, _, .cons r t, h => .cons (h _ _ List.mem_cons_self r) (t.impM fun a b ha => h a b (List.mem_cons_of_mem _ ha))
theorem fm_congr {α β : Type} {f g : α → Option β} : ∀ {l : List α}, (∀ a ∈ l, f a = g a) → l.filterMap f = l.filterMap g
  | [], _ => rfl
  | a :: l, h => by
    rw [List.filterMap_cons, List.filterMap_cons, h a List.mem_cons_self, fm_congr fun b hb => h b (List.mem_cons_of_mem _ hb)]
/-- a piece counted once less -/
def fr1 (i : Pc) : Option Pc := if i.cnt = 1 then none else some ⟨i.num, i.txt, i.cnt - 1⟩
def frG (ns : List Nat) (i : Pc) : Option Pc := if i.num ∈ ns then fr1 i else some i
def StM.frees (S : StM) (ns : List Nat) : StM := ⟨S.last, S.its.filterMap (frG ns)⟩
theorem frG_some {ns : List Nat} {i j : Pc} (h : frG ns i = some j) : j.num = i.num ∧ j.txt = i.txt ∧ (i.num ∈ ns → i.cnt ≠ 1 ∧ j.cnt = i.cnt - 1) ∧ (i.num ∉ ns → j = i) := by
  unfold frG at h
  split at h
  · rename_i m
    unfold fr1 at h
    split at h
    · cases h
    · rename_i c
      cases h
      exact ⟨rfl, rfl, fun _ => ⟨c, rfl⟩, fun z => absurd m z⟩
  · rename_i m
    cases h
    exact ⟨rfl, rfl, fun z => absurd z m, fun _ => rfl⟩
theorem frG_sub {β : Type} {ns : List Nat} {f : Pc → β} (hf : ∀ i j, frG ns i = some j → f j = f i) : ∀ l : List Pc, ((l.filterMap (frG ns)).map f).Sublist (l.map f)
  | [] => List.Sublist.slnil
  | i :: l => by
    rw [List.filterMap_cons]
    cases e : frG ns i with
    | none => exact (frG_sub hf l).cons _
    | some j =>
      show (f j :: (l.filterMap (frG ns)).map f).Sublist (f i :: l.map f)
      rw [hf i j e]
      exact (frG_sub hf l).cons_cons _
theorem frees_mem {S : StM} {ns : List Nat} {j : Pc} : j ∈ (S.frees ns).its ↔ ∃ i ∈ S.its, frG ns i = some j := List.mem_filterMap
theorem StM.Ok.frees {S : StM} (h : S.Ok) (ns : List Nat) : (S.frees ns).Ok := by
  refine ⟨h.asc.sublist (frG_sub (fun i j e => (frG_some e).1) _), fun j hj => ?_, h.ntx.sublist (frG_sub (fun i j e => (frG_some e).2.1) _), fun j hj => ?_⟩
  · obtain ⟨i, hi, e⟩ := frees_mem.mp hj
    rw [(frG_some e).1]
    exact h.pos i hi
  · obtain ⟨i, hi, e⟩ := frees_mem.mp hj
    obtain ⟨_, _, e1, e2⟩ := frG_some e
    have := h.cnt i hi
    by_cases m : i.num ∈ ns
    · obtain ⟨c1, c2⟩ := e1 m
      omega
    · rw [e2 m]
      exact this
theorem frees_nil {S : StM} : S.frees [] = S := by
  unfold StM.frees
  have : S.its.filterMap (frG []) = S.its := by
    rw [show frG [] = some from funext fun i => by unfold frG; rw [if_neg (by simp)]]
    exact List.filterMap_some
  rw [this]
theorem frees_cong {S : StM} {ns ms : List Nat} (h : ∀ n, n ∈ ns ↔ n ∈ ms) : S.frees ns = S.frees ms := by
  unfold StM.frees
  congr 1
  apply fm_congr
  intro i _
  unfold frG
  by_cases m : i.num ∈ ns
  · rw [if_pos m, if_pos ((h _).mp m)]
  · rw [if_neg m, if_neg (fun z => m ((h _).mpr z))]
theorem frees_old {S : StM} (h : S.Ok) {ns : List Nat} {i : Pc} (hi : i ∈ S.its) (hn : i.num ∉ ns) : i ∈ (S.frees ns).its := frees_mem.mpr ⟨i, hi, by unfold frG; rw [if_neg hn]⟩
theorem frees_snoc {S : StM} (h : S.Ok) {ns : List Nat} {i : Pc} (hi : i ∈ S.its) (hn : i.num ∉ ns) : (S.frees ns).free i = S.frees (ns ++ [i.num]) := by
  have g : ∀ j ∈ S.its, frG (ns ++ [i.num]) j = if j.num = i.num then fr1 i else frG ns j := fun j hj => by
    unfold frG
    by_cases m : j.num = i.num
    · rw [if_pos m, if_pos (by rw [m]; simp)]
      rw [nodup_inj h.nn hj hi m]
    · rw [if_neg m]
      by_cases z : j.num ∈ ns
      · rw [if_pos z, if_pos (List.mem_append_left _ z)]
      · rw [if_neg z, if_neg (fun y => by
          rcases List.mem_append.mp y with y | y
          · exact z y
          · exact m (List.mem_singleton.mp y))]
  unfold StM.free
  split
  · rename_i c
    rw [out_at]
    unfold StM.out StM.frees
    congr 1
    rw [List.filter_filterMap]
    apply fm_congr
    intro j hj
    rw [g j hj]
    by_cases m : j.num = i.num
    · rw [if_pos m, nodup_inj h.nn hj hi m]
      unfold frG fr1
      rw [if_neg hn, if_pos c]
      show Option.filter _ (some i) = none
      rw [Option.filter_some_neg (by simp)]
    · rw [if_neg m]
      cases e : frG ns j with
      | none => rfl
      | some y =>
        rw [Option.filter_some_pos (by rw [(frG_some e).1]; simpa using m)]
  · rename_i c
    unfold StM.at StM.frees
    congr 1
    rw [List.map_filterMap]
    apply fm_congr
    intro j hj
    rw [g j hj]
    by_cases m : j.num = i.num
    · rw [if_pos m, nodup_inj h.nn hj hi m]
      unfold frG fr1
      rw [if_neg hn, if_neg c]
      show some (if i.num = i.num then _ else _) = _
      rw [if_pos rfl]
    · rw [if_neg m]
      cases e : frG ns j with
      | none => rfl
      | some y =>
        show some (if y.num = i.num then _ else _) = _
        rw [if_neg (by rw [(frG_some e).1]; exact m)]
/-! ### the shelf -/
def ShM.drop (M : ShM) (x : Rw) : ShM := ⟨M.w, M.r, M.S.frees x.row, M.wk, M.rows.filter fun y => decide (y.key ≠ x.key)⟩
theorem ShM.Ok.key_inj {M : ShM} (h : M.Ok) {x y : Rw} (hx : x ∈ M.rows) (hy : y ∈ M.rows) (e : y.key = x.key) : y = x := nodup_inj h.rwn hy hx e
theorem countP_without {α : Type} {p q : α → Bool} {x : α} : ∀ {l : List α}, x ∈ l → (∀ y ∈ l, q y = false ↔ y = x) → l.Nodup → l.countP p = (l.filter q).countP p + (if p x = true then 1 else 0)
  | [], hx, _, _ => by cases hx
  | y :: l, hx, hq, nd => by
    have nd2 := List.nodup_cons.mp nd
    by_cases e : y = x
    · subst e
      have q0 : q y = false := (hq y List.mem_cons_self).mpr rfl
      have ef : l.filter q = l := List.filter_eq_self.mpr fun z hz => by
        cases ez : q z with
        | true => rfl
        | false => exact absurd (((hq z (List.mem_cons_of_mem _ hz)).mp ez) ▸ hz) nd2.1
      rw [List.filter_cons_of_neg (by rw [q0]; exact Bool.false_ne_true), ef, List.countP_cons]
    · have q1 : q y = true := by
        cases ez : q y with
        | true => rfl
        | false => exact absurd ((hq y List.mem_cons_self).mp ez) e
      have hx' : x ∈ l := (List.mem_cons.mp hx).resolve_left fun z => e z.symm
      rw [List.filter_cons_of_pos q1, List.countP_cons, List.countP_cons, countP_without hx' (fun z hz => hq z (List.mem_cons_of_mem _ hz)) nd2.2]
      omega
theorem ShM.Ok.rnd {M : ShM} (h : M.Ok) : M.rows.Nodup := by
  have := h.rwn
  rw [List.nodup_iff_pairwise_ne, List.pairwise_map] at this
  exact List.nodup_iff_pairwise_ne.mpr (this.imp fun h e => h (by rw [e]))
theorem ShM.Ok.cnt_drop {M : ShM} (h : M.Ok) {x : Rw} (hx : x ∈ M.rows) (n : Nat) : M.cnt n = (M.drop x).cnt n + (if n ∈ x.row then 1 else 0) := by
  unfold ShM.cnt
  rw [countP_without (p := fun y => decide (n ∈ y.row)) (q := fun y => decide (y.key ≠ x.key)) hx (fun y hy => ?_) h.rnd]
  · show _ = (M.rows.filter _).countP _ + _
    congr 1
    by_cases m : n ∈ x.row
    · rw [if_pos m, if_pos (decide_eq_true m)]
    · rw [if_neg m, if_neg (by simpa using m)]
  · rw [decide_eq_false_iff_not]
    constructor
    · intro z
      exact h.key_inj hx hy (Decidable.byContradiction z)
    · intro z
      rw [z]
      exact fun g => g rfl
theorem ShM.Ok.drop {M : ShM} (h : M.Ok) {x : Rw} (hx : x ∈ M.rows) : (M.drop x).Ok := by
  have sub : ∀ y ∈ (M.drop x).rows, y ∈ M.rows := fun y hy => (List.mem_filter.mp hy).1
  refine ⟨h.sok.frees _, fun j hj => ?_, h.wkn, fun y hy => h.le y (sub y hy), h.rwn.sublist (List.filter_sublist.map _), fun y hy => ?_, fun y hy => h.len y (sub y hy), fun y hy => h.ne y (sub y hy), h.w, h.r⟩
  · obtain ⟨i, hi, e⟩ := frees_mem.mp hj
    obtain ⟨e1, _, e3, e4⟩ := frG_some e
    have c1 := h.cn i hi
    have c2 := h.cnt_drop hx i.num
    rw [e1]
    by_cases m : i.num ∈ x.row
    · rw [if_pos m] at c2
      rw [(e3 m).2]
      omega
    · rw [if_neg m] at c2
      rw [e4 m]
      omega
  · refine (h.hold y (sub y hy)).impM fun n p hn ⟨i, hi, e1, e2⟩ => ?_
    by_cases m : i.num ∈ x.row
    · have c1 := h.cn i hi
      have c2 := h.cnt_drop hx i.num
      rw [if_pos m] at c2
      have c3 : 0 < (M.drop x).cnt i.num := by
        unfold ShM.cnt
        rw [List.countP_pos_iff]
        exact ⟨y, hy, decide_eq_true (e1 ▸ hn)⟩
      refine ⟨⟨i.num, i.txt, i.cnt - 1⟩, frees_mem.mpr ⟨i, hi, ?_⟩, e1, e2⟩
      unfold frG fr1
      rw [if_pos m, if_neg (by omega)]
    · exact ⟨i, frees_old h.sok hi m, e1, e2⟩
end Y
namespace Y
open PySem PySem.Spec PyProof.Rows L2
/-! ### the plain dict -/
def PlM.drop (P : PlM) (y : PRw) : PlM := ⟨P.w, P.r, P.last, P.nums.filter fun q => !decide (q.1 ∈ y.parts) || (P.rows.filter fun z => decide (z.key ≠ y.key)).any fun z => decide (q.1 ∈ z.parts), P.given, P.rows.filter fun z => decide (z.key ≠ y.key)⟩
theorem Two.filter {α β : Type} {R : α → β → Prop} {f : α → Bool} {g : β → Bool} (h : ∀ a b, R a b → f a = g b) : ∀ {l : List α} {m : List β}, Two R l m → Two R (l.filter f) (m.filter g)
  | _, _, .nil => .nil
  | _, _, .cons (a := a) (b := b) r t => by
    have ih := Two.filter h t
    cases e : f a with
    | true =>
      rw [List.filter_cons_of_pos e, List.filter_cons_of_pos (by rw [← h a b r]; exact e)]
      exact .cons r ih
    | false =>
      rw [List.filter_cons_of_neg (by rw [e]; exact Bool.false_ne_true), List.filter_cons_of_neg (by rw [← h a b r, e]; exact Bool.false_ne_true)]
      exact ih
theorem keys_same {x : Rw} {y : PRw} (h : x.nm = y.nm ∧ x.num = y.num) : x.key = y.key := by
  unfold Rw.key PRw.key
  rw [h.1, h.2]
theorem two_any {α β : Type} {R : α → β → Prop} {f : α → Bool} {g : β → Bool} : ∀ {l : List α} {m : List β}, Two R l m → (∀ a ∈ l, ∀ b, R a b → f a = g b) → m.any g = l.any f
  | _, _, .nil, _ => rfl
  | _, _, .cons r t, h => by
    rw [List.any_cons, List.any_cons, two_any t (fun a ha b => h a (List.mem_cons_of_mem _ ha) b), h _ List.mem_cons_self _ r]
theorem Rel.drop {M : ShM} {P : PlM} (h : Rel M P) (ok : M.Ok) {x : Rw} {y : PRw} (hx : x ∈ M.rows) (e : x.nm = y.nm ∧ x.num = y.num ∧ x.parts = y.parts) : Rel (M.drop x) (P.drop y) := by
  have rws : Two (fun (x : Rw) (y : PRw) => x.nm = y.nm ∧ x.num = y.num ∧ x.parts = y.parts) (M.drop x).rows (P.drop y).rows := h.rows.filter fun a b r => by
    rw [keys_same ⟨r.1, r.2.1⟩, keys_same ⟨e.1, e.2.1⟩]
  refine ⟨h.w, h.r, h.last, ?_, h.given, rws⟩
  show P.nums.filter _ = ((M.S.its.filterMap (frG x.row)).map fun i => (i.txt, i.num))
  rw [h.nums, List.filter_map, List.map_filterMap]
  have key : ∀ i ∈ M.S.its, ((!decide (i.txt ∈ y.parts) || (P.drop y).rows.any fun z => decide (i.txt ∈ z.parts)) = true ↔ ∃ j, frG x.row i = some j) := fun i hi => by
    have ea : ((P.drop y).rows.any fun z => decide (i.txt ∈ z.parts)) = ((M.drop x).rows.any fun z => decide (i.num ∈ z.row)) := two_any rws fun a ha b r => by
      have hm := hold_mem ok.sok hi (ok.hold a (List.mem_filter.mp ha).1)
      rw [r.2.2] at hm
      by_cases z : i.num ∈ a.row
      · rw [decide_eq_true z, decide_eq_true (hm.mp z)]
      · rw [decide_eq_false z, decide_eq_false (fun g => z (hm.mpr g))]
    have hm := hold_mem ok.sok hi (ok.hold x hx)
    rw [e.2.2] at hm
    have c1 := ok.cn i hi
    have c2 := ok.cnt_drop hx i.num
    rw [ea]
    unfold frG fr1
    by_cases m : i.num ∈ x.row
    · rw [if_pos m] at c2
      rw [if_pos m, decide_eq_true (hm.mp m)]
      by_cases a : ((M.drop x).rows.any fun z => decide (i.num ∈ z.row)) = true
      · have c3 : 0 < (M.drop x).cnt i.num := by
          unfold ShM.cnt
          rw [List.countP_pos_iff]
          obtain ⟨z, hz, ez⟩ := List.any_eq_true.mp a
          exact ⟨z, hz, ez⟩
        rw [a, if_neg (by omega)]
        exact ⟨fun _ => ⟨_, rfl⟩, fun _ => rfl⟩
      · have c3 : (M.drop x).cnt i.num = 0 := by
          unfold ShM.cnt
          rw [List.countP_eq_zero]
          intro z hz ez
          exact a (List.any_eq_true.mpr ⟨z, hz, ez⟩)
        rw [Bool.not_eq_true] at a
        rw [a, if_pos (by omega)]
        exact ⟨(fun z => by cases z), (fun ⟨_, z⟩ => by cases z)⟩
    · rw [if_neg m, decide_eq_false (fun z => m (hm.mpr z))]
      exact ⟨fun _ => ⟨_, rfl⟩, fun _ => rfl⟩
  have go : ∀ l : List Pc, (∀ i ∈ l, i ∈ M.S.its) → ((l.filter ((fun q : List Nat × Nat => !decide (q.1 ∈ y.parts) || (P.drop y).rows.any fun z => decide (q.1 ∈ z.parts)) ∘ fun i => (i.txt, i.num))).map fun i => (i.txt, i.num)) = l.filterMap fun i => (frG x.row i).map fun i => (i.txt, i.num) := by
    intro l
    induction l with
    | nil => intro _; rfl
    | cons i l ih =>
      intro hl
      have ih := ih fun j hj => hl j (List.mem_cons_of_mem _ hj)
      have ki := key i (hl i List.mem_cons_self)
      rw [List.filterMap_cons]
      cases e2 : frG x.row i with
      | none =>
        rw [List.filter_cons_of_neg (fun z => by
          obtain ⟨j, ej⟩ := ki.mp z
          rw [e2] at ej
          cases ej)]
        exact ih
      | some j =>
        obtain ⟨g1, g2, _⟩ := frG_some e2
        have kk : (((fun q : List Nat × Nat => !decide (q.1 ∈ y.parts) || (P.drop y).rows.any fun z => decide (q.1 ∈ z.parts)) ∘ fun i : Pc => (i.txt, i.num)) i) = true := ki.mpr ⟨j, e2⟩
        rw [List.filter_cons_of_pos kk, List.map_cons, ih]
        show (i.txt, i.num) :: _ = (j.txt, j.num) :: _
        rw [g1, g2]
  exact go _ fun _ h => h
end Y
set_option Elab.async false
set_option linter.all false
set_option maxRecDepth 100000
/-! Lists of tuples compared. -/
namespace Y
open PySem PySem.Spec PyProof.Rows L2
def plainK (ks : List Key) : Bool := (ks.map kV).all plainV
def tkD (t : TK) : PyData := .tuple ((t.ks.map kV).map pyV)
theorem dp_tks {K : PySem.W.Frag} {H : Hp} : ∀ {ts : List TK}, TKsAt H ts → (∀ t ∈ ts, plainK t.ks = true) → DpAll K H (ts.map fun t => V.ref t.a) (ts.map tkD)
  | [], _, _ => .nil
  | t :: ts, h, p => .cons (dp_tup (SqT.of (h t List.mem_cons_self)) (p t List.mem_cons_self)).1 (dp_tks (fun u hu => h u (List.mem_cons_of_mem _ hu)) fun u hu => p u (List.mem_cons_of_mem _ hu))
theorem lay_tks : ∀ {ts : List TK}, (∀ t ∈ ts, plainK t.ks = true) → PyData.canLayAll0 (ts.map tkD) = true ∧ PyData.depthAll (ts.map tkD) ≤ 2
  | [], _ => ⟨rfl, by simp [PyData.depthAll]⟩
  | t :: ts, p => by
    have ⟨h1, h2⟩ := lay_tks fun u hu => p u (List.mem_cons_of_mem _ hu)
    have ⟨g1, g2⟩ := lay_all (p t List.mem_cons_self)
    rw [List.map_cons]
    refine ⟨?_, ?_⟩
    · show (PyData.canLay0 (tkD t) && PyData.canLayAll0 (ts.map tkD)) = true
      rw [h1, Bool.and_true]
      unfold tkD
      simpa [PyData.canLay0] using g1
    · show max (PyData.depth (tkD t)) (PyData.depthAll (ts.map tkD)) ≤ 2
      have : PyData.depth (tkD t) ≤ 2 := by
        unfold tkD
        simp only [PyData.depth]
        omega
      omega
theorem eqv_tks : ∀ {ts us : List TK}, (∀ t ∈ ts, plainK t.ks = true) → (∀ t ∈ us, plainK t.ks = true) → PyData.eqvAll (ts.map tkD) (us.map tkD) = decide (ts.map (·.ks) = us.map (·.ks))
  | [], [], _, _ => by simp [PyData.eqvAll]
  | [], u :: us, _, _ => by simp [PyData.eqvAll]
  | t :: ts, [], _, _ => by simp [PyData.eqvAll]
  | t :: ts, u :: us, p, q => by
    have ih := eqv_tks (fun v hv => p v (List.mem_cons_of_mem _ hv)) fun v hv => q v (List.mem_cons_of_mem _ hv)
    rw [List.map_cons, List.map_cons, List.map_cons, List.map_cons]
    show (PyData.eqv (tkD t) (tkD u) && PyData.eqvAll (ts.map tkD) (us.map tkD)) = _
    rw [ih, show PyData.eqv (tkD t) (tkD u) = PyData.eqvAll ((t.ks.map kV).map pyV) ((u.ks.map kV).map pyV) from rfl, eqv_all (p t List.mem_cons_self) (q u List.mem_cons_self)]
    rw [Bool.eq_iff_iff]
    simp only [Bool.and_eq_true, decide_eq_true_eq, List.cons.injEq]
    constructor
    · rintro ⟨h1, h2⟩
      exact ⟨kVs_inj h1, h2⟩
    · rintro ⟨h1, h2⟩
      exact ⟨by rw [h1], h2⟩
theorem dp_tksL {K : PySem.W.Frag} {H : Hp} {a : Addr} {ts : List TK} (h : SqL K H a (ts.map fun t => V.ref t.a)) (ht : TKsAt H ts) (p : ∀ t ∈ ts, plainK t.ks = true) : Dp K H (.ref a) (.list (ts.map tkD)) ∧ SeqAt.shaped (.list (ts.map tkD)) = true := by
  have ⟨h1, h2⟩ := lay_tks p
  refine ⟨.lst h (dp_tks ht p), ?_⟩
  unfold SeqAt.shaped
  rw [Bool.and_eq_true]
  refine ⟨by simpa [PyData.canLay0] using h1, decide_eq_true ?_⟩
  simp only [PyData.depth]
  omega
theorem eq_tks {K : PySem.W.Frag} {H : Hp} {a b : Addr} {ts us : List TK} {Q : VK} (ha : SqL K H a (ts.map fun t => V.ref t.a)) (hb : SqL K H b (us.map fun t => V.ref t.a)) (ht : TKsAt H ts) (hu : TKsAt H us) (p : ∀ t ∈ ts, plainK t.ks = true) (p' : ∀ t ∈ us, plainK t.ks = true)
    (q : Q (.bl (decide (ts.map (·.ks) = us.map (·.ks)))) H) : rEqD K (.ref a) (.ref b) H Q := by
  refine ⟨_, _, (dp_tksL ha ht p).1, (dp_tksL hb hu p').1, (dp_tksL ha ht p).2, (dp_tksL hb hu p').2, ?_⟩
  rw [show PyData.eqv (.list (ts.map tkD)) (.list (us.map tkD)) = PyData.eqvAll (ts.map tkD) (us.map tkD) from rfl, eqv_tks p p']
  exact q
theorem ne_tks {K : PySem.W.Frag} {H : Hp} {a b : Addr} {ts us : List TK} {Q : VK} (ha : SqL K H a (ts.map fun t => V.ref t.a)) (hb : SqL K H b (us.map fun t => V.ref t.a)) (ht : TKsAt H ts) (hu : TKsAt H us) (p : ∀ t ∈ ts, plainK t.ks = true) (p' : ∀ t ∈ us, plainK t.ks = true)
    (q : Q (.bl (!decide (ts.map (·.ks) = us.map (·.ks)))) H) : rNeD K (.ref a) (.ref b) H Q := by
  refine ⟨_, _, (dp_tksL ha ht p).1, (dp_tksL hb hu p').1, (dp_tksL ha ht p).2, (dp_tksL hb hu p').2, ?_⟩
  rw [show PyData.eqv (.list (ts.map tkD)) (.list (us.map tkD)) = PyData.eqvAll (ts.map tkD) (us.map tkD) from rfl, eqv_tks p p']
  exact q
/-- a text and a truth, twice -/
theorem eq_wordsT {K : PySem.W.Frag} {H : Hp} {a b : Addr} {x y : Str} {c d : Bool} {Q : VK} (ha : SqT K H a [.str x, .bl c]) (hb : SqT K H b [.str y, .bl d]) (hx : x.cps.all (· < 0x110000) = true) (hy : y.cps.all (· < 0x110000) = true)
    (q : Q (.bl (decide (x = y) && decide (c = d))) H) : rEqD K (.ref a) (.ref b) H Q := by
  have sh : ∀ (z : Str) (e : Bool), z.cps.all (· < 0x110000) = true → SeqAt.shaped (.tuple [.str z, .bool e]) = true := fun z e hz => by
    unfold SeqAt.shaped
    rw [Bool.and_eq_true]
    refine ⟨?_, decide_eq_true ?_⟩
    · simp only [PyData.canLay0, PyData.canLayAll0, Bool.and_true]
      exact hz
    · simp [PyData.depth, PyData.depthAll]
  refine ⟨.tuple [.str x, .bool c], .tuple [.str y, .bool d], .tup ha (.cons (.str _) (.cons (.bl _) .nil)), .tup hb (.cons (.str _) (.cons (.bl _) .nil)), sh x c hx, sh y d hy, ?_⟩
  have e : PyData.eqv (.tuple [.str x, .bool c]) (.tuple [.str y, .bool d]) = (decide (x = y) && decide (c = d)) := by
    simp only [PyData.eqv, PyData.eqvAll, Bool.and_true]
    have bq : (x == y) = decide (x = y) := by rw [Bool.eq_iff_iff]; simp
    cases c <;> cases d <;> simp [bq]
  rw [e]
  exact q
end Y
namespace Y
open PySem PySem.Spec PyProof.Rows L2 PySem.Calls
section
variable {α : Type} {d D : Addr} {o : Obj} {l : List α} {val : α → V} {H1 : Hp} {tt : TT} {te : TE} {σ : L2.St} {Qd : Hp → Prop} {s : Nat}
theorem TKsAt.same {H H' : Hp} {ts : List TK} (h : TKsAt H ts) (s : Same H H') : TKsAt H' ts := fun t ht => s _ _ (h t ht)
/-- the keys of a dict by tuples that pass a test, themselves -/
theorem lc_keysTr {key : α → List Key} (p : α → Bool) (hk : H1 d = some (.frz o (.dT (l.map fun i => (key i, val i))))) (hD : H1 D = none) (hn : l.length < 16777216)
    (hs : ∀ (a : α) (q : Addr) (H : Hp), a ∈ l → Same H1 H → H q = some (.tup ((key a).map kV)) → ∀ (Ny : V → Hp → Prop) (Nn : Hp → Prop), (∀ H4, Same H H4 → p a = true → Ny (.ref q) H4) → (∀ H3, Same H H3 → p a = false → Nn H3) → tt (σ.set s (some (.ref q))) H fun b H3 => br b (te (σ.set s (some (.ref q))) H3 Ny) (Nn H3))
    (hd : ∀ H ts, Same H1 H → H D = some (.lst (ts.map fun t : TK => V.ref t.a)) → ts.map (·.ks) = (l.filter p).map key → TKsAt H ts → Qd H) : lcW (Itkt d o (l.map fun i => (key i, val i))) (gName s) tt te [s] σ D H1 Qd := by
  refine lc_it walk_keysT (fun i H => Same H1 H ∧ ∃ ts : List TK, H D = some (.lst (ts.map fun t : TK => V.ref t.a)) ∧ ts.map (·.ks) = ((l.take i).filter p).map key ∧ TKsAt H ts) ⟨same_new hD, [], upd_same, rfl, fun _ h => by cases h⟩ (fun i H _ p => p.1 _ _ hk) (fun i x H H' hi pp y => ?_) (fun H ⟨p1, ts, p2, p3, p4⟩ => hd H ts p1 p2 ?_ p4)
  · obtain ⟨rfl, k, v, q, e, rfl, hq⟩ := y
    obtain ⟨sm, ts, hH, hx, ht⟩ := pp
    rw [List.length_map] at hi
    rw [List.getElem?_map, List.getElem?_eq_getElem hi] at e
    have ek : k = key l[i] := (congrArg Prod.fst (Option.some.inj e)).symm
    subst ek
    have tk : l.take (i + 1) = l.take i ++ [l[i]] := by
      rw [List.take_succ, List.getElem?_eq_getElem hi]
      rfl
    refine ⟨wipe_one, ?_⟩
    rw [set_wipe]
    have hle : ts.length ≤ i := by
      have h := congrArg List.length hx
      rw [List.length_map, List.length_map] at h
      rw [h]
      exact Nat.le_trans (List.length_filter_le _ _) (by rw [List.length_take]; omega)
    refine hs l[i] q H' (List.getElem_mem hi) sm hq _ _ (fun H4 s4 ey => ?_) (fun H3 s3 en => ?_)
    · refine ⟨ts.map fun t : TK => V.ref t.a, s4 _ _ hH, by rw [line_eq, List.length_map]; omega, ?_, ts ++ [⟨q, key l[i]⟩], ?_, ?_, ?_⟩
      · intro b ob hb
        have nb : b ≠ D := fun z => by
          rw [z, hD] at hb
          cases hb
        rw [upd_ne nb]
        exact s4 _ _ (sm _ _ hb)
      · rw [upd_same, List.map_append]
        rfl
      · rw [tk, List.filter_append, List.map_append, List.map_append, hx, List.filter_cons_of_pos ey]
        rfl
      · have hD4 := s4 _ _ hH
        intro t ht2
        have nt : ∀ b u, H4 b = some (.tup u) → b ≠ D := fun b u hb z => by
          rw [z, hD4] at hb
          cases hb
        rcases List.mem_append.mp ht2 with z | z
        · have hb := s4 _ _ (ht t z)
          rw [upd_ne (nt _ _ hb)]
          exact hb
        · have hb := s4 _ _ hq
          rw [List.mem_singleton.mp z]
          show upd H4 D _ q = _
          rw [upd_ne (nt _ _ hb)]
          exact hb
    · refine ⟨sm.trans s3, ts, s3 _ _ hH, ?_, ht.same s3⟩
      rw [tk, List.filter_append, List.filter_cons_of_neg (by rw [en]; exact Bool.false_ne_true), hx, List.filter_nil, List.append_nil]
  · rw [List.length_map, List.take_length] at p3
    exact p3
end
end Y
set_option Elab.async false
set_option linter.all false
set_option maxRecDepth 100000
/-! Values told of a dict's tuple keys; pairs of lists that stay alike. -/
namespace Y
open PySem PySem.Spec PyProof.Rows L2 PySem.Calls
section
variable {α : Type} {d D : Addr} {o : Obj} {l : List α} {val : α → V} {H1 : Hp} {tt : TT} {te : TE} {σ : L2.St} {Qd : Hp → Prop} {s : Nat}
theorem lc_keysTv {key : α → List Key} (f : α → Option V) (hk : H1 d = some (.frz o (.dT (l.map fun i => (key i, val i))))) (hD : H1 D = none) (hn : l.length < 16777216)
    (hs : ∀ (a : α) (q : Addr) (H : Hp), a ∈ l → Same H1 H → H q = some (.tup ((key a).map kV)) → ∀ (Ny : V → Hp → Prop) (Nn : Hp → Prop), (∀ y H4, Same H H4 → f a = some y → Ny y H4) → (∀ H3, Same H H3 → f a = none → Nn H3) → tt (σ.set s (some (.ref q))) H fun b H3 => br b (te (σ.set s (some (.ref q))) H3 Ny) (Nn H3))
    (hd : ∀ H, Same H1 H → H D = some (.lst (l.filterMap f)) → Qd H) : lcW (Itkt d o (l.map fun i => (key i, val i))) (gName s) tt te [s] σ D H1 Qd := by
  refine lc_it walk_keysT (fun i H => Same H1 H ∧ H D = some (.lst ((l.take i).filterMap f))) ⟨same_new hD, upd_same⟩ (fun i H _ p => p.1 _ _ hk) (fun i x H H' hi pp y => ?_) (fun H p => hd H p.1 ?_)
  · obtain ⟨rfl, k, v, q, e, rfl, hq⟩ := y
    obtain ⟨sm, hH⟩ := pp
    rw [List.length_map] at hi
    rw [List.getElem?_map, List.getElem?_eq_getElem hi] at e
    have ek : k = key l[i] := (congrArg Prod.fst (Option.some.inj e)).symm
    subst ek
    have tk : l.take (i + 1) = l.take i ++ [l[i]] := by
      rw [List.take_succ, List.getElem?_eq_getElem hi]
      rfl
    refine ⟨wipe_one, ?_⟩
    rw [set_wipe]
    refine hs l[i] q H' (List.getElem_mem hi) sm hq _ _ (fun y H4 s4 ey => ?_) (fun H3 s3 en => ?_)
    · refine ⟨_, s4 _ _ hH, ?_, ?_, ?_⟩
      · have h1 := List.length_filterMap_le f (l.take i)
        rw [List.length_take] at h1
        rw [line_eq]
        omega
      · intro b ob hb
        have nb : b ≠ D := fun z => by
          rw [z, hD] at hb
          cases hb
        rw [upd_ne nb]
        exact s4 _ _ (sm _ _ hb)
      · rw [upd_same, tk, List.filterMap_append, List.filterMap_cons, ey]
        rfl
    · refine ⟨sm.trans s3, ?_⟩
      rw [tk, List.filterMap_append, List.filterMap_cons, en]
      rw [show List.filterMap f [] = [] from rfl, List.append_nil]
      exact s3 _ _ hH
  · have h2 := p.2
    rw [List.length_map, List.take_length] at h2
    exact h2
end
/-- a pair of lists that are the same, at p -/
def EqPair (H : Hp) (p : Addr) : Prop := ∃ a b, H p = some (.tup [.ref a, .ref b]) ∧ ((∃ xs, H a = some (.lst xs) ∧ H b = some (.lst xs) ∧ xs.all plainV = true) ∨ ∃ ts : List TK, H a = some (.lst (ts.map fun t => V.ref t.a)) ∧ H b = some (.lst (ts.map fun t => V.ref t.a)) ∧ TKsAt H ts ∧ ∀ t ∈ ts, plainK t.ks = true)
theorem EqPair.fr {F : List Addr} {H H' : Hp} {p : Addr} (h : EqPair H p) (f : Fr F H H') (n : ∀ a ∈ F, (∀ xs, H a ≠ some (.lst xs)) ∧ ∀ xs, H a ≠ some (.tup xs)) : EqPair H' p := by
  have nl : ∀ {a xs}, H a = some (.lst xs) → a ∉ F := fun e z => (n _ z).1 _ e
  have nt : ∀ {a xs}, H a = some (.tup xs) → a ∉ F := fun e z => (n _ z).2 _ e
  obtain ⟨a, b, hp, h⟩ := h
  refine ⟨a, b, f.tup hp (nt hp), ?_⟩
  rcases h with ⟨xs, h1, h2, h3⟩ | ⟨ts, h1, h2, h3, h4⟩
  · exact .inl ⟨xs, f.lst h1 (nl h1), f.lst h2 (nl h2), h3⟩
  · exact .inr ⟨ts, f.lst h1 (nl h1), f.lst h2 (nl h2), fun t ht => f.tup (h3 t ht) (nt (h3 t ht)), h4⟩
theorem EqPair.same {H H' : Hp} {p : Addr} (h : EqPair H p) (s : Same H H') : EqPair H' p := h.fr (F := []) (frS s) fun a ha => by cases ha
/-- a list's cells are changed alone -/
theorem EqPair.but {H H' : Hp} {p l : Addr} (h : EqPair H p) (f : Fr [l] H H') (ne : ∀ a b, H p = some (.tup [.ref a, .ref b]) → a ≠ l ∧ b ≠ l) {xs0 : List V} (hl : H l = some (.lst xs0)) : EqPair H' p := by
  obtain ⟨a, b, hp, h⟩ := h
  obtain ⟨na, nb⟩ := ne a b hp
  have nt : ∀ {c xs}, H c = some (.tup xs) → c ∉ [l] := fun e z => by
    rw [List.mem_singleton.mp z, hl] at e
    cases e
  refine ⟨a, b, f.tup hp (nt hp), ?_⟩
  have ia : a ∉ [l] := by simpa using na
  have ib : b ∉ [l] := by simpa using nb
  rcases h with ⟨xs, h1, h2, h3⟩ | ⟨ts, h1, h2, h3, h4⟩
  · exact .inl ⟨xs, f.lst h1 ia, f.lst h2 ib, h3⟩
  · exact .inr ⟨ts, f.lst h1 ia, f.lst h2 ib, fun t ht => f.tup (h3 t ht) (nt (h3 t ht)), h4⟩
/-- the list of kept pairs -/
structure KeptAt (H : Hp) (kl : Addr) (n : Nat) : Prop where
  all : ∃ ps : List Addr, H kl = some (.lst (ps.map V.ref)) ∧ ps.length ≤ n ∧ ∀ p ∈ ps, EqPair H p ∧ ∀ a b, H p = some (.tup [.ref a, .ref b]) → a ≠ kl ∧ b ≠ kl
theorem KeptAt.fr {F : List Addr} {H H' : Hp} {kl : Addr} {n : Nat} (h : KeptAt H kl n) (f : Fr F H H') (nf : ∀ a ∈ F, (∀ xs, H a ≠ some (.lst xs)) ∧ ∀ xs, H a ≠ some (.tup xs)) : KeptAt H' kl n := by
  obtain ⟨ps, h1, h2, h3⟩ := h.all
  refine ⟨ps, f.lst h1 (fun z => (nf _ z).1 _ h1), h2, fun p hp => ⟨(h3 p hp).1.fr f nf, fun a b e => ?_⟩⟩
  obtain ⟨⟨a0, b0, hp0, _⟩, n0⟩ := h3 p hp
  have e2 := f.tup hp0 (fun z => (nf _ z).2 _ hp0)
  rw [e2] at e
  cases e
  exact n0 _ _ hp0
theorem KeptAt.same {H H' : Hp} {kl : Addr} {n : Nat} (h : KeptAt H kl n) (s : Same H H') : KeptAt H' kl n := h.fr (F := []) (frS s) fun a ha => by cases ha
theorem KeptAt.fr0 {H H' : Hp} {kl : Addr} {n : Nat} (h : KeptAt H kl n) (s : Fr [] H H') : KeptAt H' kl n := h.fr (F := []) s fun a ha => by cases ha
end Y
namespace Y
open PySem PySem.Spec PyProof.Rows L2
theorem EqPair.mk1 {H : Hp} {a l p : Addr} {xs : List V} (ha : H a = some (.lst xs)) (hx : xs.all plainV = true) (hl : H l = none) (hp : upd H l (.lst xs) p = none) : EqPair (upd (upd H l (.lst xs)) p (.tup [.ref a, .ref l])) p :=
  ⟨a, l, upd_same, .inl ⟨xs, upd_of (upd_of ha hl) hp, upd_of upd_same hp, hx⟩⟩
theorem EqPair.mk2 {H : Hp} {a l p : Addr} {ts : List TK} (ha : H a = some (.lst (ts.map fun t => V.ref t.a))) (ht : TKsAt H ts) (hx : ∀ t ∈ ts, plainK t.ks = true) (hl : H l = none) (hp : upd H l (.lst (ts.map fun t => V.ref t.a)) p = none) : EqPair (upd (upd H l (.lst (ts.map fun t => V.ref t.a))) p (.tup [.ref a, .ref l])) p :=
  ⟨a, l, upd_same, .inr ⟨ts, upd_of (upd_of ha hl) hp, upd_of upd_same hp, fun t h => upd_of (upd_of (ht t h) hl) hp, hx⟩⟩
theorem pair_ne {H : Hp} {a l p kl : Addr} (h : H p = some (.tup [.ref a, .ref l])) (ha : a ≠ kl) (hl : l ≠ kl) : ∀ a' b', H p = some (.tup [.ref a', .ref b']) → a' ≠ kl ∧ b' ≠ kl := fun a' b' e => by
  rw [h] at e
  cases e
  exact ⟨ha, hl⟩
end Y
set_option Elab.async false
set_option linter.all false
set_option maxRecDepth 100000
/-! len of a set; which rows need a piece. -/
namespace Y
open PySem PySem.Spec PyProof.Rows L2 PySem.Calls
section
variable {X : Cx}
def rLenSet (w : World) : List V → Hp → VK → Prop := fun xs H Q => ∃ (a : Addr) (ks : List Key), xs = [.ref a] ∧ H a = some (SetKO w a ks) ∧ Q (.int (ks.length : Nat)) H
theorem y_lenSet {w : World} (hw : X.w = w := by rfl) : CallR X (.builtin "len") (rLenSet w) := by
  subst hw
  intro pins s σ H xs us Q I r h
  obtain ⟨a, ks, rfl, ha, q⟩ := h
  obtain ⟨u, eu, rx⟩ := vals1 r
  subst eu
  cases rx
  obtain ⟨o, es, ep, t, l, ⟨ho, hx, hd⟩, d, p, nd, hb, hf, hr, hl⟩ := setKO_get I ha
  have e : es.size = ks.length := by
    have h1 := d.len
    have h2 := p.length_eq
    have h3 : es.toList.length = es.size := Array.length_toList
    omega
  refine call_len_set ho hx hd hf (by unfold scanBound at hb; omega) ?_
  exact ⟨.int (ks.length : Nat), H, I.tok _, ⟨_, by rw [e]⟩, q⟩
end
theorem inV_nat (n : Nat) (row : List Nat) : inV (.int (n : Int)) (row.map natV) = decide (n ∈ row) := by
  unfold inV
  rw [List.any_map, Bool.eq_iff_iff, List.any_eq_true, decide_eq_true_eq]
  constructor
  · rintro ⟨y, hy, e⟩
    have e2 : ((y : Int) == (n : Int)) = true := e
    have e3 : (y : Int) = (n : Int) := eq_of_beq e2
    have e4 : y = n := by omega
    rw [← e4]
    exact hy
  · intro h
    exact ⟨n, h, (beq_self_eq_true (n : Int) : ((n : Int) == (n : Int)) = true)⟩
end Y
namespace Y
open PySem PySem.Spec PyProof.Rows L2
section
variable {α : Type} {l : List α} {g : α → V} {K : PySem.W.Frag} {a D : Addr} {s : Nat} {tt : TT} {te : TE} {σ : L2.St} {H1 : Hp} {Qd : Hp → Prop}
/-- a comprehension over a list whose element may do more than lay anew -/
theorem lc_lstF (f : α → Option V) (hD : H1 D = none) (ha : SqL K H1 a (l.map g)) (hn : l.length < 16777216)
    (hs : ∀ (x : α) (H : Hp), x ∈ l → Fr [] H1 H → ∀ (Ny : V → Hp → Prop) (Nn : Hp → Prop), (∀ y H4, Fr [] H H4 → f x = some y → Ny y H4) → (∀ H3, Fr [] H H3 → f x = none → Nn H3) → tt (σ.set s (some (g x))) H fun b H3 => br b (te (σ.set s (some (g x))) H3 Ny) (Nn H3))
    (hd : ∀ H, Fr [] H1 H → H D = some (.lst (l.filterMap f)) → Qd H) : lcW (Itl K a) (gName s) tt te [s] σ D H1 Qd := by
  refine lc_it walk_lst (fun i H => Fr [] H1 H ∧ H D = some (.lst ((l.take i).filterMap f))) ⟨frS (same_new hD), upd_same⟩ (fun i H _ p => sqlFr ha p.1 List.not_mem_nil) (fun i x H H' hi pp y => ?_) (fun H p => hd H p.1 ?_)
  · obtain ⟨rfl, rfl⟩ := y
    obtain ⟨sm, hH⟩ := pp
    rw [List.length_map] at hi
    rw [getD_map hi]
    have tk : l.take (i + 1) = l.take i ++ [l[i]] := by
      rw [List.take_succ, List.getElem?_eq_getElem hi]
      rfl
    refine ⟨wipe_one, ?_⟩
    rw [set_wipe]
    refine hs l[i] H' (List.getElem_mem hi) sm _ _ (fun y H4 s4 ey => ?_) (fun H3 s3 en => ?_)
    · have h4 := s4.lst hH List.not_mem_nil
      refine ⟨_, h4, ?_, ?_, ?_⟩
      · have h1 := List.length_filterMap_le f (l.take i)
        rw [List.length_take] at h1
        rw [line_eq]
        omega
      · refine ⟨fun b o e _ n => ?_, fun P hP => ?_, fun b e => ?_⟩
        · have nb : b ≠ D := fun z => by
            rw [z, hD] at e
            cases e
          rw [upd_ne nb]
          exact (sm.trans s4).keep b o e List.not_mem_nil n
        · obtain ⟨ps, h1, h2⟩ := (sm.trans s4).tabs P hP
          refine ⟨ps, (upd_ne fun z => ?_).trans h1, h2⟩
          rw [z, h4] at h1
          cases h1
        · by_cases z : b = D
          · rw [z]
            exact hD
          · rw [upd_ne z] at e
            exact (sm.trans s4).live b e
      · rw [upd_same, tk, List.filterMap_append, List.filterMap_cons, ey]
        rfl
    · refine ⟨sm.trans s3, ?_⟩
      rw [tk, List.filterMap_append, List.filterMap_cons, en]
      rw [show List.filterMap f [] = [] from rfl, List.append_nil]
      exact s3.lst hH List.not_mem_nil
  · have h2 := p.2
    rw [List.length_map, List.take_length] at h2
    exact h2
end
end Y
set_option Elab.async false
set_option linter.all false
set_option maxRecDepth 100000
/-! A difference of sets. First: a new set's table always has room. -/
namespace Y
open PySem PySem.Spec PyProof.Rows L2
/-! ### the jumps of a search reach every place -/
def gJ : Nat → Nat → Nat
  | 0, x => x
  | k + 1, x => gJ k (5 * x + 1)
theorem gJ_add : ∀ (a b x : Nat), gJ (a + b) x = gJ b (gJ a x)
  | 0, b, x => by rw [Nat.zero_add]; rfl
  | a + 1, b, x => by
    rw [show a + 1 + b = (a + b) + 1 by omega]
    show gJ (a + b) (5 * x + 1) = gJ b (gJ a (5 * x + 1))
    exact gJ_add a b _
theorem gJ_pow : ∀ m : Nat, ∃ c b : Nat, ∀ x, gJ (2 ^ m) x = x + 2 ^ m * (4 * c * x) + 2 ^ m * (1 + 2 * b)
  | 0 => ⟨1, 0, fun x => by show 5 * x + 1 = _; omega⟩
  | m + 1 => by
    obtain ⟨c, b, h⟩ := gJ_pow m
    refine ⟨c + 2 * (2 ^ m * (c * c)), b + (2 ^ m * c + 2 ^ m * c * (2 * b)), fun x => ?_⟩
    rw [show 2 ^ (m + 1) = 2 ^ m + 2 ^ m by rw [Nat.pow_succ]; omega, gJ_add, h, h]
    generalize 2 ^ m = u
    have e : ∀ p q : Nat, u * (4 * c * (x + p + q)) = u * (4 * c * x) + u * (4 * c * p) + u * (4 * c * q) := fun p q => by rw [Nat.mul_add, Nat.mul_add, Nat.mul_add, Nat.mul_add]
    rw [e]
    grind
theorem mod_two {u z y : Nat} (hu : 0 < u) (h : z % u = y % u) (n : z % (u * 2) ≠ y % (u * 2)) : (z + u) % (u * 2) = y % (u * 2) := by
  rw [Nat.mod_mul, Nat.mod_mul] at n ⊢
  rw [h] at n
  have e1 : (z + u) % u = z % u := Nat.add_mod_right z u
  have e2 : (z + u) / u = z / u + 1 := Nat.add_div_right z hu
  rw [e1, e2, h]
  have n2 : z / u % 2 ≠ y / u % 2 := fun e => n (by rw [e])
  have : (z / u + 1) % 2 = y / u % 2 := by omega
  rw [this]
theorem gJ_all : ∀ (m x y : Nat), ∃ k, k < 2 ^ m ∧ gJ k x % 2 ^ m = y % 2 ^ m
  | 0, x, y => ⟨0, by decide, by show x % 1 = y % 1; omega⟩
  | m + 1, x, y => by
    obtain ⟨k, hk, e⟩ := gJ_all m x y
    have hu : 0 < 2 ^ m := Nat.two_pow_pos m
    by_cases c : gJ k x % (2 ^ m * 2) = y % (2 ^ m * 2)
    · exact ⟨k, by rw [Nat.pow_succ]; omega, by rw [Nat.pow_succ]; exact c⟩
    · refine ⟨k + 2 ^ m, by rw [Nat.pow_succ]; omega, ?_⟩
      rw [Nat.pow_succ, gJ_add]
      obtain ⟨c', b, h⟩ := gJ_pow m
      rw [h]
      have g := mod_two hu e c
      generalize gJ k x = z at g ⊢
      rw [← g]
      have e2 : z + 2 ^ m * (4 * c' * z) + 2 ^ m * (1 + 2 * b) = (z + 2 ^ m) + 2 ^ m * 2 * (2 * c' * z + b) := by
        generalize 2 ^ m = u
        grind
      rw [e2, Nat.add_mul_mod_self_left]
/-- the jumps with what is left of a hash -/
def gL (mask : Nat) : Nat → Nat × Nat → Nat × Nat
  | 0, s => s
  | t + 1, s => gL mask t (SetTable.leap mask s.1 s.2)
theorem gL_add (mask : Nat) : ∀ (a b : Nat) (s : Nat × Nat), gL mask (a + b) s = gL mask b (gL mask a s)
  | 0, b, s => by rw [Nat.zero_add]; rfl
  | a + 1, b, s => by
    rw [show a + 1 + b = (a + b) + 1 by omega]
    exact gL_add mask a b _
theorem gL_two (mask : Nat) : ∀ (t i p : Nat), (gL mask t (i, p)).2 = p / 32 ^ t
  | 0, i, p => by show p = p / 1; rw [Nat.div_one]
  | t + 1, i, p => by
    show (gL mask t ((i * 5 + 1 + p / 32) % (mask + 1), p / 32)).2 = _
    rw [gL_two mask t, Nat.div_div_eq_div_mul]
    congr 1
    rw [Nat.pow_succ, Nat.mul_comm]
theorem gL_zero (mask : Nat) : ∀ (t i : Nat), (gL mask t (i % (mask + 1), 0)).1 = gJ t i % (mask + 1) ∧ (gL mask t (i % (mask + 1), 0)).2 = 0
  | 0, i => ⟨rfl, rfl⟩
  | t + 1, i => by
    have e : SetTable.leap mask (i % (mask + 1)) 0 = ((5 * i + 1) % (mask + 1), 0) := by
      unfold SetTable.leap
      rw [Nat.zero_div, Nat.add_zero, Nat.mul_comm]
      congr 1
      rw [Nat.add_mod, Nat.mul_mod, Nat.mod_mod, ← Nat.mul_mod, ← Nat.add_mod]
    show (gL mask t (SetTable.leap mask (i % (mask + 1)) 0)).1 = gJ t (5 * i + 1) % (mask + 1) ∧ _
    have e2 : gL mask (t + 1) (i % (mask + 1), 0) = gL mask t (SetTable.leap mask (i % (mask + 1)) 0) := rfl
    rw [e2, e]
    exact gL_zero mask t (5 * i + 1)
theorem gL_lt (mask : Nat) : ∀ (t i p : Nat), i < mask + 1 → (gL mask t (i, p)).1 < mask + 1
  | 0, i, p, h => h
  | t + 1, i, p, h => gL_lt mask t _ _ (Nat.mod_lt _ (by omega))
/-- every place is come to -/
theorem gL_all {m mask i p j : Nat} (hm : mask + 1 = 2 ^ m) (hi : i < mask + 1) (hp : p < 2 ^ 64) (hj : j < mask + 1) : ∃ t, t < SetTable.turns mask ∧ (gL mask t (i, p)).1 = j := by
  have h2 : (gL mask 13 (i, p)).2 = 0 := by
    rw [gL_two]
    exact Nat.div_eq_of_lt (Nat.lt_trans hp (by decide))
  have h1 := gL_lt mask 13 i p hi
  obtain ⟨k, hk, e⟩ := gJ_all m (gL mask 13 (i, p)).1 j
  refine ⟨13 + k, by unfold SetTable.turns; omega, ?_⟩
  rw [gL_add]
  have e3 : gL mask 13 (i, p) = ((gL mask 13 (i, p)).1 % (mask + 1), 0) := by
    rw [Nat.mod_eq_of_lt h1, ← h2]
  rw [e3, (gL_zero mask k _).1, hm, e, ← hm]
  exact Nat.mod_eq_of_lt hj
/-! ### a clean laying -/
theorem free_is {mask : Nat} {owner : Array (Option Nat)} : ∀ (fuel i p j : Nat), SetTable.layClean.free mask owner fuel i p = some j → owner.getD j (some 0) = none
  | 0, _, _, _, h => by cases h
  | fuel + 1, i, p, j, h => by
    unfold SetTable.layClean.free at h
    split at h
    · rename_i k hk
      have g := List.find?_some hk
      cases h
      exact Option.isNone_iff_eq_none.mp g
    · exact free_is fuel _ _ j h
theorem free_at {mask j0 : Nat} {owner : Array (Option Nat)} (h0 : owner.getD j0 (some 0) = none) : ∀ (t fuel i p : Nat), t < fuel → (gL mask t (i, p)).1 = j0 → ∃ j, SetTable.layClean.free mask owner fuel i p = some j
  | t, 0, _, _, h, _ => by omega
  | 0, fuel + 1, i, p, _, e => by
    unfold SetTable.layClean.free
    split
    · exact ⟨_, rfl⟩
    · rename_i hn
      exfalso
      have e : i = j0 := e
      have re : i ≤ SetTable.runEnd mask i := by
        unfold SetTable.runEnd
        split <;> omega
      have g := List.find?_eq_none.mp hn 0 (List.mem_range.mpr (by omega))
      rw [Nat.add_zero, e, h0] at g
      exact g rfl
  | t + 1, fuel + 1, i, p, h, e => by
    unfold SetTable.layClean.free
    split
    · exact ⟨_, rfl⟩
    · exact free_at h0 t fuel _ _ (by omega) e
theorem fm_put {f g : Nat → Option Nat} {j v : Nat} (hf : f j = none) (hg : g j = some v) (ho : ∀ i, i ≠ j → g i = f i) : ∀ l : List Nat, l.Nodup → j ∈ l → (l.filterMap g).Perm (v :: l.filterMap f)
  | [], _, h => by cases h
  | i :: l, nd, h => by
    obtain ⟨n1, n2⟩ := List.nodup_cons.mp nd
    by_cases e : i = j
    · subst e
      have same : l.filterMap g = l.filterMap f := fm_congr fun k hk => ho k fun z => n1 (z ▸ hk)
      rw [List.filterMap_cons, List.filterMap_cons, hg, hf, same]
    · have ih := fm_put hf hg ho l n2 ((List.mem_cons.mp h).resolve_left fun z => e z.symm)
      rw [List.filterMap_cons, List.filterMap_cons, ho i e]
      cases f i with
      | none => exact ih
      | some x => exact (ih.cons x).trans (List.Perm.swap _ _ _)
theorem fm_full {f : Nat → Option Nat} : ∀ l : List Nat, (∀ i ∈ l, f i ≠ none) → (l.filterMap f).length = l.length
  | [], _ => rfl
  | i :: l, h => by
    rw [List.filterMap_cons]
    cases e : f i with
    | none => exact absurd e (h i List.mem_cons_self)
    | some x => rw [List.length_cons, List.length_cons, fm_full l fun k hk => h k (List.mem_cons_of_mem _ hk)]
/-- the owners of the places while n are laid -/
structure Owns (mask : Nat) (owner : Array (Option Nat)) (k : Nat) : Prop where
  sz : owner.size = mask + 1
  pm : ((List.range (mask + 1)).filterMap fun j => owner.getD j none).Perm (List.range k)
theorem Owns.step {m mask k : Nat} {owner : Array (Option Nat)} (O : Owns mask owner k) (hm : mask + 1 = 2 ^ m) (hk : k ≤ mask) (h : Int) : ∃ j, SetTable.layClean.free mask owner (SetTable.turns mask) (SetTable.bits h % (mask + 1)) (SetTable.bits h) = some j ∧ Owns mask (owner.setIfInBounds j (some k)) (k + 1) := by
  have hfree : ∃ j0, j0 < mask + 1 ∧ owner.getD j0 none = none := by
    refine Decidable.byContradiction fun c => ?_
    have len := O.pm.length_eq
    rw [fm_full _ (fun i hi z => c ⟨i, List.mem_range.mp hi, z⟩), List.length_range, List.length_range] at len
    omega
  obtain ⟨j0, h0, e0⟩ := hfree
  have get : ∀ j, j < mask + 1 → ∀ d, owner.getD j d = owner[j]?.getD d := fun j _ d => by rw [Array.getD_eq_getD_getElem?]
  have e0' : owner.getD j0 (some 0) = none := by
    rw [Array.getD_eq_getD_getElem?] at e0 ⊢
    have : j0 < owner.size := by rw [O.sz]; exact h0
    rw [Array.getElem?_eq_getElem this] at e0 ⊢
    exact e0
  have hb : SetTable.bits h < 2 ^ 64 := by
    unfold SetTable.bits
    have h1 := Int.emod_nonneg h (show (2 ^ 64 : Int) ≠ 0 by decide)
    have h2 := Int.emod_lt_of_pos h (show (0 : Int) < 2 ^ 64 by decide)
    omega
  obtain ⟨t, ht, et⟩ := gL_all hm (Nat.mod_lt (SetTable.bits h) (by omega : 0 < mask + 1)) hb h0
  obtain ⟨j, hj⟩ := free_at e0' t _ _ _ ht et
  have ej := free_is _ _ _ _ hj
  have jlt : j < owner.size := by
    refine Decidable.byContradiction fun c => ?_
    rw [Array.getD_eq_getD_getElem?, Array.getElem?_eq_none (by omega)] at ej
    cases ej
  refine ⟨j, hj, by rw [Array.size_setIfInBounds]; exact O.sz, ?_⟩
  refine (fm_put (f := fun j => owner.getD j none) (j := j) (v := k) ?_ ?_ (fun i hi => ?_) _ List.nodup_range (List.mem_range.mpr (by rw [← O.sz]; exact jlt))).trans ?_
  · show owner.getD j none = none
    rw [Array.getD_eq_getD_getElem?, Array.getElem?_eq_getElem jlt] at ej ⊢
    exact ej
  · show (owner.setIfInBounds j (some k)).getD j none = some k
    rw [Array.getD_eq_getD_getElem?, Array.getElem?_setIfInBounds_self_of_lt jlt]
    rfl
  · show (owner.setIfInBounds j (some k)).getD i none = owner.getD i none
    rw [Array.getD_eq_getD_getElem?, Array.getD_eq_getD_getElem?, Array.getElem?_setIfInBounds_ne (fun z => hi z.symm)]
  · rw [List.range_succ (n := k)]
    exact (O.pm.cons k).trans (List.perm_append_singleton k _).symm
theorem clean_some {m mask : Nat} (hm : mask + 1 = 2 ^ m) (hs : Array Int) (hl : hs.size ≤ mask) : ∃ owner, SetTable.layClean mask hs = some owner ∧ Owns mask owner hs.size := by
  unfold SetTable.layClean
  rw [← Array.foldl_toList]
  have key : ∀ (l : List Int) (owner : Array (Option Nat)) (k : Nat), Owns mask owner k → k + l.length ≤ mask → ∃ owner', (l.foldl (fun acc h => do
      let (owner, k) ← acc
      let j ← SetTable.layClean.free mask owner (SetTable.turns mask) (SetTable.bits h % (mask + 1)) (SetTable.bits h)
      pure (owner.setIfInBounds j (some k), k + 1)) (some (owner, k))) = some (owner', k + l.length) ∧ Owns mask owner' (k + l.length) := by
    intro l
    induction l with
    | nil => intro owner k O _; exact ⟨owner, rfl, O⟩
    | cons h l ih =>
      intro owner k O hb
      rw [List.length_cons] at hb
      obtain ⟨j, hj, O'⟩ := O.step hm (by omega) h
      obtain ⟨o2, e2, O2⟩ := ih _ _ O' (by omega)
      refine ⟨o2, ?_, by rw [List.length_cons, show k + (l.length + 1) = k + 1 + l.length by omega]; exact O2⟩
      rw [List.foldl_cons, List.length_cons, show k + (l.length + 1) = k + 1 + l.length by omega, ← e2]
      congr 1
      show (Option.bind (SetTable.layClean.free mask owner (SetTable.turns mask) (SetTable.bits h % (mask + 1)) (SetTable.bits h)) _) = _
      rw [hj]
      rfl
  have O0 : Owns mask (Array.replicate (mask + 1) none) 0 := ⟨Array.size_replicate, by
    rw [List.filterMap_eq_nil_iff.mpr]
    · exact List.Perm.refl _
    · intro j _
      rw [Array.getD_eq_getD_getElem?, Array.getElem?_replicate]
      split <;> rfl⟩
  obtain ⟨o, e, O⟩ := key hs.toList _ 0 O0 (by rw [Array.length_toList]; omega)
  rw [Array.length_toList, Nat.zero_add] at e O
  refine ⟨o, ?_, O⟩
  rw [e]
  rfl
theorem laid_some {m mask : Nat} (hm : mask + 1 = 2 ^ m) (hs : Array Int) (hl : hs.size ≤ mask) (finger moves : Nat) (led plain : Bool) :
    ∃ t order, SetTable.laid mask finger moves led plain hs = some (t, order) ∧ order.toList.Perm (List.range hs.size) ∧ t.place.size = hs.size ∧ Ris t.place.toList ∧ t.mask = mask ∧ t.dummies = #[] ∧ t.led = led := by
  obtain ⟨owner, e, O⟩ := clean_some hm hs hl
  unfold SetTable.laid
  rw [e]
  refine ⟨_, _, rfl, ?_, ?_, ?_, rfl, rfl, rfl⟩
  · show (((List.range (mask + 1)).filterMap fun j => (owner.getD j none).map (j, ·)).map (·.2)).Perm _
    rw [List.map_filterMap]
    have : (fun j => ((owner.getD j none).map fun k => (j, k)).map (·.2)) = fun j => owner.getD j none := funext fun j => by
      rw [Option.map_map]
      exact Option.map_id'
    rw [this]
    exact O.pm
  · show ((((List.range (mask + 1)).filterMap fun j => (owner.getD j none).map (j, ·)).map (·.1)).toArray).size = _
    rw [List.size_toArray, List.length_map]
    have h := O.pm.length_eq
    rw [List.length_range] at h
    rw [← h]
    have : ∀ l : List Nat, (l.filterMap fun j => (owner.getD j none).map fun k => (j, k)).length = (l.filterMap fun j => owner.getD j none).length := by
      intro l
      induction l with
      | nil => rfl
      | cons j l ih =>
        rw [List.filterMap_cons, List.filterMap_cons]
        cases owner.getD j none with
        | none => exact ih
        | some k => exact congrArg (· + 1) ih
    exact this _
  · refine (ris_live (fun j => owner.getD j none) (List.range (mask + 1)) ?_).1
    unfold Ris
    first | exact List.pairwise_lt_range | exact List.pairwise_lt_range _
theorem above_go (n : Nat) : ∀ (fuel a : Nat), n < 2 ^ a * 2 ^ fuel → ∃ b, SetTable.sizeAbove.go n fuel (2 ^ a) = 2 ^ b ∧ n < 2 ^ b ∧ (2 ^ b ≤ 2 ^ a ∨ 2 ^ b ≤ 2 * n)
  | 0, a, h => ⟨a, rfl, by simpa using h, .inl (Nat.le_refl _)⟩
  | fuel + 1, a, h => by
    unfold SetTable.sizeAbove.go
    split
    · rename_i c
      have h2 : n < 2 ^ (a + 1) * 2 ^ fuel := by
        rw [Nat.pow_succ] at h ⊢
        rw [Nat.mul_assoc, Nat.mul_comm 2 (2 ^ fuel)]
        exact h
      obtain ⟨b, e, h3, h4⟩ := above_go n fuel (a + 1) h2
      rw [Nat.pow_succ] at e
      refine ⟨b, e, h3, .inr ?_⟩
      rcases h4 with z | z
      · rw [Nat.pow_succ] at z
        omega
      · exact z
    · rename_i c
      exact ⟨a, rfl, by omega, .inl (Nat.le_refl _)⟩
theorem above_spec {n : Nat} (h : n < 1000000) : ∃ b, SetTable.sizeAbove n = 2 ^ b ∧ n < 2 ^ b ∧ 2 ^ b ≤ 2 * n + 8 := by
  obtain ⟨b, e, h1, h2⟩ := above_go n 64 3 (Nat.lt_of_lt_of_le h (by decide))
  refine ⟨b, e, h1, ?_⟩
  rcases h2 with z | z
  · have : 2 ^ 3 = 8 := rfl
    omega
  · omega
theorem relaid_some {t : SetTable} {hs : Array Int} {wanted : Nat} (hw : hs.size ≤ wanted) (hb : wanted < 1000000) :
    ∃ t' order, t.relaid hs wanted = some (t', order) ∧ order.toList.Perm (List.range hs.size) ∧ t'.place.size = hs.size ∧ Ris t'.place.toList ∧ t'.mask = SetTable.sizeAbove wanted - 1 ∧ t'.dummies = #[] ∧ t'.led = t.led := by
  obtain ⟨b, e, h1, h2⟩ := above_spec hb
  unfold SetTable.relaid
  exact laid_some (m := b) (by rw [e]; omega) hs (by rw [e]; omega) _ _ _ _
theorem fits_of {t : SetTable} {n : Nat} (h1 : t.place.size = n) (h2 : t.place.size + t.dummies.size ≤ t.mask) : t.fits n = true := by
  unfold SetTable.fits SetTable.fill
  rw [Bool.and_eq_true]
  exact ⟨by rw [h1]; exact beq_self_eq_true n, decide_eq_true h2⟩
theorem fits_iff {t : SetTable} {n : Nat} (h : t.fits n = true) : t.place.size = n ∧ t.place.size + t.dummies.size ≤ t.mask := by
  unfold SetTable.fits SetTable.fill at h
  rw [Bool.and_eq_true] at h
  exact ⟨eq_of_beq h.1, of_decide_eq_true h.2⟩
/-- the entries in an order of all of them -/
theorem order_perm {α : Type} {es : Array α} {order : Array Nat} (h : order.toList.Perm (List.range es.size)) : (order.filterMap (es[·]?)).toList.Perm es.toList := by
  rw [Array.toList_filterMap]
  have := h.filterMap (fun i => es[i]?)
  rw [filterMap_getElem?_range] at this
  exact this
end Y
set_option Elab.async false
set_option linter.all false
set_option maxRecDepth 100000
set_option maxHeartbeats 4000000
/-! A difference of sets. -/
namespace Y
open PySem PySem.Spec PyProof.Rows L2 PySem.Calls PySem.Builtin.Frozenset
section
variable {P : Program} {w : World} {A : Around} {E : Value → Shared → Prop} {s : Shared} {a b : Addr} {ks ms : List Key}
theorem SetK.perm {h : Heap} {ks' : List Key} (R : SetK w h a ks) (p : ks.Perm ks') : SetK w h a ks' := by
  obtain ⟨o, es, ep, t, l, h1, d, pl, nd, r⟩ := R
  exact ⟨o, es, ep, t, l, h1, d, pl.trans p, p.nodup_iff.mp nd, r⟩
theorem setK_find {o : Obj} {es : Array (Int × Value)} {ep : Nat} {t : SetTable} {l : List Key} (ho : s.heap.get? b = some o) (hd : o.data = .set es ep t) (d : Two (KeyE w) l es.toList) (hb : es.size < scanBound) (hf : t.fits es.size = true) {k : Key} {x : Value} (hx : keyIs k x = true) {Q : Option Nat → Shared → Prop}
    (h1 : ∀ i, l[i]? = some k → Q (some i) s) (h0 : k ∉ l → Q none s) : wpAny (model P w) A (setFind b x (keyH w k)) Q E s := by
  have sc := key_scan hx
  have el : ElemsOf (mixKind P w) es.toList := two_elems d
  unfold setFind setFindIn
  refine wpAny_bind (wpAny_setState_of ho hd hf ?_)
  dsimp only
  rw [byScan_of sc hb el, if_pos rfl]
  refine wpAny_bind (wpAny_rule ?_)
  refine wpAny_bind (wpAny_setScan_of (knd := mixKind P w) (k := k) hx ho hd hf el ?_)
  cases hr : List.findIdx? (fun e => (mixKind P w).is k e.2) es.toList with
  | none =>
    dsimp only
    refine wpAny_pure (h0 fun hk => ?_)
    obtain ⟨e, he, r⟩ := d.mem hk
    have := List.findIdx?_eq_none_iff.mp hr e he
    rw [show (mixKind P w).is k e.2 = keyIs k e.2 from rfl, r.1] at this
    cases this
  | some j =>
    dsimp only
    obtain ⟨hj, hpj, _⟩ := List.findIdx?_eq_some_iff_getElem.mp hr
    refine wpAny_pure (h1 (0 + j) ?_)
    rw [Nat.zero_add]
    have lj : j < l.length := by rw [d.len]; exact hj
    obtain ⟨e, he, r⟩ := d.get (List.getElem?_eq_getElem lj)
    rw [List.getElem?_eq_getElem hj] at he
    cases he
    rw [List.getElem?_eq_getElem lj, (mixKind P w).inj _ l[j] k r.1 hpj]
/-- a for over a list -/
theorem wp_for {M : Model} {α β : Type} {f : α → β → Sem (ForInStep β)} {Iv : Nat → β → Shared → Prop} : ∀ (l : List α) (i : Nat) (b : β) (s : Shared), Iv i b s → (∀ j x b s, l[j]? = some x → Iv (i + j) b s → wpAny M A (f x b) (fun r s' => ∃ b', r = .yield b' ∧ Iv (i + j + 1) b' s') E s) →
    wpAny M A (forIn l b f) (fun b' s' => Iv (i + l.length) b' s') E s
  | [], i, b, s, h, _ => by
    rw [List.forIn_nil]
    exact wpAny_pure h
  | x :: l, i, b, s, h, st => by
    rw [List.forIn_cons]
    refine wpAny_bind (wpAny_mono (st 0 x b s rfl h) (fun r s' hr => ?_) fun _ _ e => e)
    obtain ⟨b', rfl, h'⟩ := hr
    have := wp_for l (i + 1) b' s' h' fun j y b s e h => by
      have g := st (j + 1) y b s (by rw [List.getElem?_cons_succ]; exact e) (by rw [show i + (j + 1) = i + 1 + j by omega]; exact h)
      rw [show i + (j + 1) + 1 = i + 1 + j + 1 by omega] at g
      exact g
    rw [List.length_cons, show i + (l.length + 1) = i + 1 + l.length by omega]
    exact this
theorem quiet_at {sets : List Addr} (h : ∀ b ∈ sets, ∃ ms, SetK w s.heap b ms) {Q : Bool → Shared → Prop} (q : Q true s) : wpAny (model P w) A (setsQuiet sets) Q E s := by
  unfold setsQuiet
  refine wpAny_bind (wpAny_mono (wp_for (Iv := fun _ b s' => b = (none, ()) ∧ s' = s) sets 0 _ _ ⟨rfl, rfl⟩ ?_) (fun b s' hb => ?_) fun _ _ e => e)
  · rintro j b _ s' hj ⟨rfl, rfl⟩
    obtain ⟨ms, o, es, ep, t, l, ⟨ho, hex, hd⟩, d, _, _, hb, hf, _⟩ := h b (List.mem_of_getElem? hj)
    refine wpAny_bind (wpAny_setEntries_of ho hd hf ?_)
    rw [← Array.forIn_toList]
    refine wpAny_bind (wpAny_mono (wp_for (Iv := fun _ b s2 => b = (none, ()) ∧ s2 = s') es.toList 0 _ _ ⟨rfl, rfl⟩ ?_) (fun b s2 hb => ?_) fun _ _ e => e)
    · rintro i ⟨y, x⟩ _ s3 hi ⟨rfl, rfl⟩
      obtain ⟨k, _, r⟩ := d.memR (List.mem_of_getElem? hi)
      have e := key_scan r.1
      dsimp only at e ⊢
      cases x <;> first | (cases e; done) | exact wpAny_pure ⟨_, rfl, rfl, rfl⟩
    · obtain ⟨rfl, rfl⟩ := hb
      exact wpAny_pure ⟨_, rfl, rfl, rfl⟩
  · obtain ⟨rfl, rfl⟩ := hb
    exact wpAny_pure q
/-- a walk over a set that nobody sees -/
theorem walk_un {others : List Addr} {f : Option Addr} {ns : List Key} (R : SetK w s.heap a ks) (ho : ∀ b ∈ others, ∃ ms, SetK w s.heap b ms) (hf : ∀ r, f = some r → SetK w s.heap r ns) {Q : Array (Int × Value) → Shared → Prop}
    (q : ∀ (es : Array (Int × Value)) (l : List Key) (h' : Heap), Two (KeyE w) l es.toList → l.Perm ks → (f = none → h' = s.heap) → (∀ r, f = some r → Heap.SameBut r s.heap h' ∧ SetK w h' r ns) → Q es { s with heap := h' }) : wpAny (model P w) A (setWalkUnseen a others f) Q E s := by
  have R0 := R
  obtain ⟨o, es, ep, t, l, ⟨hoa, hex, hd⟩, d, p, nd, hb, hfit, hr, hl⟩ := R
  have idle : ∀ (es' : Array (Int × Value)) (l' : List Key), Two (KeyE w) l' es'.toList → l'.Perm ks → Q es' s := fun es' l' d' p' => q es' l' s.heap d' p' (fun _ => rfl) fun r er => ⟨Heap.SameBut.refl r s.heap, hf r er⟩
  unfold setWalkUnseen
  refine wpAny_bind (wpAny_setState_of hoa hd hfit ?_)
  refine wpAny_bind (wpAny_byText ?_)
  dsimp only
  split
  · rename_i c
    unfold setWalk
    refine wpAny_bind (wpAny_setState_of hoa hd hfit ?_)
    refine wpAny_bind (wpAny_byText ?_)
    by_cases bt : w.params.followText "set-order" = true
    · refine wp_if_pos bt ?_
      obtain ⟨l', p', d'⟩ := Two.perm (pick_perm (w.params.setOrder a ep) es).symm d
      exact wpAny_bind (wpAny_askSetting (wpAny_pure (idle _ l' d' (p'.trans p))))
    · refine wp_if_neg bt ?_
      have tl : t.led = true := hl.resolve_left bt
      have dr : ¬ (!t.plain && decide (es.size > 1)) = true := by
        intro z
        rw [Bool.and_eq_true, Bool.not_eq_true', decide_eq_true_eq] at z
        rw [z.1, tl, Bool.not_eq_true _ |>.mp bt] at c
        simp at c
        omega
      refine wp_if_neg dr ?_
      have nl : ¬ (!t.led && decide (es.size > 1)) = true := by
        rw [tl]
        simp
      exact wpAny_bind (wp_if_neg nl (wpAny_pure (wpAny_pure (idle es l d p))))
  · rename_i c
    have bt : ¬ w.params.followText "set-order" = true := fun z => c (by rw [z]; rfl)
    have tl : t.led = true := hl.resolve_left bt
    refine wpAny_bind (quiet_at (s := s) (fun b hb => ?_) ?_)
    · rcases List.mem_cons.mp hb with z | z
      · rw [z]
        exact ⟨_, R0⟩
      · exact ho b z
    refine wp_if_neg (by simp) ?_
    refine wpAny_bind (wpAny_rule ?_)
    cases f with
    | none => exact wpAny_pure (idle es l d p)
    | some r =>
      obtain ⟨or, er, epr, tr, lr, ⟨hor, hexr, hdr⟩, dr, pr, ndr, hbr, hfr, hrr, hlr⟩ := hf r rfl
      dsimp only
      refine wpAny_bind (wpAny_setState_of hor hdr hfr ?_)
      dsimp only
      split
      · refine wpAny_bind (wpAny_storeSet_of hor hdr ?_ (fits_of_scanBound hbr))
        refine wpAny_pure (q es l _ d p (fun z => by cases z) fun r' er' => ?_)
        cases er'
        refine ⟨Heap.SameBut.update s.heap r _, ⟨_, er, _, _, lr, ⟨stored hor hdr, hexr, rfl⟩, dr, pr, ndr, hbr, hfr, hrr, ?_⟩⟩
        rcases hlr with z | z
        · exact .inl z
        · refine .inr ?_
          show (tr.led && t.led) = true
          rw [z, tl]
          rfl
      · exact wpAny_pure (idle es l d p)
end
end Y
namespace Y
open PySem PySem.Spec PyProof.Rows L2 PySem.Calls PySem.Builtin.Frozenset
section
variable {P : Program} {w : World} {A : Around} {E : Value → Shared → Prop} {s : Shared} {a b : Addr} {ks ms : List Key}
theorem setK_type {h : Heap} (R : SetK w h b ms) {g} {d} {tk} {os} : Shared.TypeIs { heap := h, gens := g, drawn := d, toks := tk, os := os } (.ref b) "set" := by
  obtain ⟨o, _, _, _, _, ⟨ho, hex, _⟩, _⟩ := R
  exact ⟨o, ho, hex.1⟩
theorem isSet_at (R : SetK w s.heap b ms) {Q : Bool → Shared → Prop} (q : Q true s) : wpAny (model P w) A (isAnySet (.ref b)) Q E s := by
  have hT : s.TypeIs (.ref b) "set" := setK_type R
  unfold isAnySet
  exact wpAny_bind (wpAny_isInstance hT F.sub_set_set (wpAny_pure q))
theorem base_at (R : SetK w s.heap b ms) {Q : Value → Shared → Prop} (q : Q (.type "set") s) : wpAny (model P w) A (baseOf b) Q E s := by
  have hT : s.TypeIs (.ref b) "set" := setK_type R
  unfold baseOf
  exact wpAny_bind (wpAny_isInstance hT F.sub_set_set (wpAny_pure q))
theorem size_at (R : SetK w s.heap b ms) {Q : Nat → Shared → Prop} (q : Q ms.length s) : wpAny (model P w) A (Builtin.Frozenset.sizeOf b) Q E s := by
  obtain ⟨o, es, ep, t, l, ⟨ho, hex, hd⟩, d, p, nd, hb, hf, hr, hl⟩ := R
  unfold Builtin.Frozenset.sizeOf
  refine wpAny_bind (wpAny_setEntries_of ho hd hf (wpAny_pure ?_))
  rw [← Array.length_toList, ← d.len, p.length_eq]
  exact q
theorem newSet_at {Q : Value → Shared → Prop} (q : Q (.ref s.heap.objs.size) { s with heap := s.heap.push (newS w) }) : wpAny (model P w) A (newSet (.type "set")) Q E s := by
  unfold newSet setsByText
  refine wpAny_bind (wpAny_bind (wpAny_askSetting (wpAny_pure ?_)))
  dsimp only
  simp only [newObj]
  exact wpAny_bind (wpAny_alloc (wpAny_pure q))
def outK (ms : List Key) (k : Key) : Bool := !(ms.any fun j => decide (j = k))
theorem outK_iff {k : Key} : outK ms k = true ↔ k ∉ ms := by
  unfold outK
  rw [Bool.not_eq_true', ← Bool.not_eq_true, anyK]
theorem diff_at {i0 : String} (Ra : SetK w s.heap a ks) (Rb : SetK w s.heap b ms) {Q : Value → Shared → Prop}
    (q : ∀ h', SetK w h' s.heap.objs.size (ks.filter (outK ms)) → (∀ b o, s.heap.get? b = some o → h'.get? b = some o) → Q (.ref s.heap.objs.size) { s with heap := h' })
    (via : ks.length / 4 > ms.length → wpAny (model P w) A (do
      let r ← copyOf a
      let x ← addrOf r
      holding [r] (differenceUpdate i0 x (Value.ref b))
      pure r) Q E s) : wpAny (model P w) A (Builtin.Frozenset.difference i0 a (.ref b)) Q E s := by
  unfold Builtin.Frozenset.difference
  refine wpAny_bind (isSet_at Rb ?_)
  refine wp_if_neg (by simp) ?_
  refine wpAny_bind (m := addrOf (.ref b)) (wpAny_pure ?_)
  refine wp_if_neg (by simp) ?_
  refine wp_if_pos rfl ?_
  refine wpAny_bind (size_at Rb ?_)
  refine wpAny_bind (size_at Ra ?_)
  by_cases big : ks.length / 4 > ms.length
  · refine wp_if_pos big ?_
    exact wpAny_bind (wpAny_rule (via big))
  refine wp_if_neg big ?_
  refine wpAny_bind (base_at Ra ?_)
  refine wpAny_bind (newSet_at ?_)
  have old : ∀ c o, s.heap.get? c = some o → (s.heap.push (newS w)).get? c = some o := fun c o e => Heap.get?_push_of_some _ e
  have Ra1 : SetK w (s.heap.push (newS w)) a ks := Ra.at_ fun o e => old a o e
  have Rb1 : SetK w (s.heap.push (newS w)) b ms := Rb.at_ fun o e => old b o e
  have Rr1 : SetK w (s.heap.push (newS w)) s.heap.objs.size [] := SetK.fresh_at (Heap.get?_push_size _ rfl)
  have lt : ∀ c o, s.heap.get? c = some o → c ≠ s.heap.objs.size := fun c o e => Nat.ne_of_lt (Heap.lt_size e)
  generalize s.heap.push (newS w) = h1 at old Ra1 Rb1 Rr1 ⊢
  obtain ⟨oa, esa, epa, ta, la, ⟨hoa, hexa, hda⟩, da, pa, nda, hba, hfa, hra, hla⟩ := id Ra1
  have na : a ≠ s.heap.objs.size := by
    obtain ⟨o, _, _, _, _, ⟨ho, _⟩, _⟩ := Ra
    exact lt a o ho
  have nb : b ≠ s.heap.objs.size := by
    obtain ⟨o, _, _, _, _, ⟨ho, _⟩, _⟩ := Rb
    exact lt b o ho
  refine wpAny_bind (m := addrOf (.ref s.heap.objs.size)) (wpAny_pure ?_)
  refine wpAny_bind (wpAny_setEpoch_of hoa hda hfa ?_)
  refine wpAny_bind (wpAny_holding ?_)
  refine wpAny_bind (wp_if_pos rfl (walk_un (s := { s with heap := h1 }) (ns := []) Ra1 (fun c hc => ?_) (fun r er => ?_) fun es l h2 dl pl _ hf2 => ?_))
  · rcases List.mem_cons.mp hc with z | z
    · rw [z]
      exact ⟨_, Rb1⟩
    · rw [List.mem_singleton.mp z]
      exact ⟨_, Rr1⟩
  · cases er
    exact Rr1
  obtain ⟨sb, Rr2⟩ := hf2 _ rfl
  have ndl : l.Nodup := pl.nodup_iff.mpr nda
  have ksl : ks.length < scanBound := by
    rw [← pa.length_eq, da.len, Array.length_toList]
    exact hba
  have tail : ∀ (h' : Heap), Heap.SameBut s.heap.objs.size h1 h' → ∀ {Z : Unit → Shared → Prop}, Z () { s with heap := h' } → wpAny (model P w) A (unchanged i0 a epa) Z E { s with heap := h' } := fun h' sb' Z z => by
    unfold unchanged
    have hoa' : h'.get? a = some oa := by rw [sb'.2 a na]; exact hoa
    refine wpAny_bind (wpAny_setEpoch_of (s := { s with heap := h' }) hoa' hda hfa ?_)
    exact wp_if_neg (by simp) (wpAny_pure z)
  rw [← Array.forIn_toList]
  refine wpAny_bind (wpAny_mono (wp_for (Iv := fun i _ s' => ∃ h', s' = { s with heap := h' } ∧ Heap.SameBut s.heap.objs.size h1 h' ∧ SetK w h' s.heap.objs.size ((l.take i).filter (outK ms))) es.toList 0 _ _ ⟨h2, rfl, sb, Rr2⟩ ?_) (fun _ s' hs => ?_) fun _ _ e => e)
  · rintro i ⟨hh, x⟩ _ s' hi ⟨h', rfl, sb', Rr'⟩
    rw [Nat.zero_add] at Rr' ⊢
    have hil : i < l.length := by
      rw [dl.len]
      exact (List.getElem?_eq_some_iff.mp hi).1
    obtain ⟨k, hk⟩ : ∃ k, l[i]? = some k := ⟨_, List.getElem?_eq_getElem hil⟩
    obtain ⟨e, he, r1, r2⟩ := dl.get hk
    rw [hi] at he
    cases he
    have r2 : hh = keyH w k := r2
    subst r2
    have tk : (l.take (i + 1)).filter (outK ms) = (l.take i).filter (outK ms) ++ (if outK ms k = true then [k] else []) := by
      rw [List.take_succ, hk, List.filter_append]
      congr 1
      show [k].filter (outK ms) = _
      by_cases c : outK ms k = true
      · rw [if_pos c, List.filter_cons_of_pos c, List.filter_nil]
      · rw [if_neg c, List.filter_cons_of_neg c, List.filter_nil]
    have Rb' : SetK w h' b ms := Rb1.at_ fun o e => by rw [sb'.2 b nb]; exact e
    obtain ⟨ob, esb, epb, tb, lb, ⟨hob, hexb, hdb⟩, db, pb, ndb, hbb, hfb, hrb, hlb⟩ := Rb'
    dsimp only
    refine wpAny_bind (wpAny_holding ?_)
    refine wp_if_pos rfl (wpAny_bind ?_)
    refine setK_find (s := { s with heap := h' }) hob hdb db hbb hfb r1 (fun j hj => ?_) (fun hn => ?_)
    · have m : k ∈ ms := pb.mem_iff.mp (List.mem_of_getElem? hj)
      have nout : ¬ outK ms k = true := fun z => outK_iff.mp z m
      refine wpAny_bind (wpAny_pure ?_)
      refine wp_if_neg (by simp) (wpAny_pure ?_)
      refine wpAny_bind (tail h' sb' (wpAny_pure ⟨_, rfl, h', rfl, sb', ?_⟩))
      rw [tk, if_neg nout, List.append_nil]
      exact Rr'
    · have m : k ∉ ms := fun z => hn (pb.mem_iff.mpr z)
      refine wpAny_bind (wpAny_pure ?_)
      have lf : ((l.take i).filter (outK ms)).length ≤ i := Nat.le_trans (List.length_filter_le _ _) (by rw [List.length_take]; omega)
      have ll := pl.length_eq
      refine wp_if_pos (by simp) (wpAny_bind (SetK.add (s := { s with heap := h' }) Rr' r1 (by omega) fun h3 bb sb3 R3 => wpAny_pure ?_))
      have sb13 := sb'.trans sb3
      refine wpAny_bind (tail h3 sb13 (wpAny_pure ⟨_, rfl, h3, rfl, sb13, ?_⟩))
      rw [tk, if_pos (outK_iff.mpr m)]
      rw [addK_new (fun z => ?_)] at R3
      · exact R3
      · have z := (List.mem_filter.mp z).1
        have nd := ndl.sublist (List.take_sublist (i + 1) l)
        rw [List.take_succ, hk, List.nodup_append] at nd
        exact nd.2.2 _ z k (by simp) rfl
  · obtain ⟨h', rfl, sb', R'⟩ := hs
    rw [Nat.zero_add, Array.length_toList] at R'
    have le : l.length = es.size := by rw [dl.len, Array.length_toList]
    rw [← le, List.take_length] at R'
    refine wpAny_pure (wpAny_pure (q h' (R'.perm (pl.filter _)) fun c o e => ?_))
    rw [sb'.2 c (lt c o e)]
    exact old c o e
theorem relay_at {t : SetTable} {o : Obj} {es : Array (Int × Value)} {ep : Nat} {l : List Key} {wanted : Nat} (ho : s.heap.get? b = some o) (hex : o.ExactSet) (hd : o.data = .set es ep t) (d : Two (KeyE w) l es.toList) (hb : es.size < scanBound) (hf : t.fits es.size = true) (hw : es.size ≤ wanted) (hw2 : wanted < 1000000) {Q : Unit → Shared → Prop}
    (q : ∀ (h' : Heap) (es' : Array (Int × Value)) (t' : SetTable) (l' : List Key), Heap.SameBut b s.heap h' → h'.get? b = some { o with data := .set es' (ep + 1) t' } → Two (KeyE w) l' es'.toList → l'.Perm l → es'.size = es.size → t'.place.size = es.size → Ris t'.place.toList → t'.mask = SetTable.sizeAbove wanted - 1 → t'.dummies = #[] → t'.led = t.led → t'.fits es'.size = true → Q () { s with heap := h' }) : wpAny (model P w) A (setRelay b wanted) Q E s := by
  unfold setRelay
  refine wpAny_bind (wpAny_setState_of ho hd hf ?_)
  dsimp only
  obtain ⟨bb, e1, e2, e3⟩ := above_spec hw2
  have sl := sizeLine_eq
  refine wp_if_neg (by rw [e1, sl]; omega) ?_
  obtain ⟨t', order, er, pm, ps, rs, mk, dm, ld⟩ := relaid_some (t := t) (hs := es.map (·.1)) (wanted := wanted) (by rw [Array.size_map]; exact hw) hw2
  rw [er]
  rw [Array.size_map] at pm ps
  have op := order_perm (es := es) pm
  have hsz : (order.filterMap (es[·]?)).size = es.size := by
    have := op.length_eq
    rwa [Array.length_toList, Array.length_toList] at this
  have ns : ¬ ((order.filterMap (es[·]?)).size != es.size) = true := by
    rw [hsz]
    simp
  refine wpAny_bind (wpAny_of_eq (a := (order.filterMap (es[·]?), t')) (if_neg ns) ?_)
  dsimp only
  have fit : t'.fits (order.filterMap (es[·]?)).size = true := by
    refine fits_of (by rw [hsz]; exact ps) ?_
    rw [ps, dm, mk, e1]
    show es.size + 0 ≤ 2 ^ bb - 1
    omega
  obtain ⟨l', p', d'⟩ := Two.perm op.symm d
  exact wpAny_storeSet_of ho hd (q _ _ t' l' (Heap.SameBut.update s.heap b _) (stored ho hd) d' p' hsz ps rs mk dm ld fit) (fits_of_scanBound (by rw [hsz]; exact hb))
/-- room in an empty set -/
theorem room_at {t : SetTable} {o : Obj} {ep n : Nat} (ho : s.heap.get? b = some o) (hex : o.ExactSet) (hd : o.data = .set #[] ep t) (hp : t.place = #[]) (hdm : t.dummies = #[]) (hm : t.mask = 7) (hn : n < 100000) {Q : Unit → Shared → Prop}
    (q : ∀ (h3 : Heap) (e3 : Nat) (t3 : SetTable), Heap.SameBut b s.heap h3 → h3.get? b = some { o with data := .set #[] e3 t3 } → t3.place.size = 0 → t3.dummies = #[] → (∃ m, t3.mask + 1 = 2 ^ m) → n ≤ t3.mask → t3.led = t.led → Q () { s with heap := h3 }) : wpAny (model P w) A (setRoomFor b n) Q E s := by
  have hf : t.fits (#[] : Array (Int × Value)).size = true := fits_of (by rw [hp]; rfl) (by rw [hp, hdm, hm]; decide)
  unfold setRoomFor
  refine wpAny_bind (wpAny_setState_of ho hd hf ?_)
  dsimp only
  have efill : t.fill = 0 := by
    unfold SetTable.fill
    rw [hp, hdm]
    rfl
  by_cases c : (t.fill + n) * 5 ≥ t.mask * 3
  · have er : t.roomFor n = some ((t.place.size + n) * 2) := if_pos c
    rw [er]
    dsimp only
    rw [hp, show (#[] : Array Nat).size + n = n by show 0 + n = n; omega]
    obtain ⟨bb, e1, e2, e3⟩ := above_spec (n := n * 2) (by omega)
    refine relay_at (l := []) ho hex hd .nil (by decide) hf (Nat.zero_le _) (by omega) fun h' es' t' l' sb g d p z1 z2 rs mk dm ld ft => ?_
    have e0 : es' = #[] := Array.eq_empty_of_size_eq_zero z1
    rw [e0] at g
    exact q h' _ t' sb g z2 dm ⟨bb, by rw [mk, e1]; omega⟩ (by rw [mk, e1]; omega) ld
  · have er : t.roomFor n = none := if_neg c
    rw [er]
    dsimp only
    refine wpAny_pure (q s.heap ep t (Heap.SameBut.refl b s.heap) ?_ (by rw [hp]; rfl) hdm ⟨3, by rw [hm]⟩ ?_ rfl)
    · rw [ho, ← hd]
    · rw [efill, hm] at c
      rw [hm]
      omega
/-- a set made, filled by another one's copy -/
theorem copy_at (R : SetK w s.heap a ks) {Q : Value → Shared → Prop} (q : ∀ h', SetK w h' s.heap.objs.size ks → (∀ b o, s.heap.get? b = some o → h'.get? b = some o) → Q (.ref s.heap.objs.size) { s with heap := h' }) : wpAny (model P w) A (copyOf a) Q E s := by
  unfold copyOf
  refine wpAny_bind (base_at R ?_)
  refine wpAny_bind (newSet_at ?_)
  have old : ∀ c o, s.heap.get? c = some o → (s.heap.push (newS w)).get? c = some o := fun c o e => Heap.get?_push_of_some _ e
  have R1 : SetK w (s.heap.push (newS w)) a ks := R.at_ fun o e => old a o e
  have hr : (s.heap.push (newS w)).get? s.heap.objs.size = some (newS w) := Heap.get?_push_size _ rfl
  have Rr1 : SetK w (s.heap.push (newS w)) s.heap.objs.size [] := SetK.fresh_at hr
  have lt : ∀ c o, s.heap.get? c = some o → c ≠ s.heap.objs.size := fun c o e => Nat.ne_of_lt (Heap.lt_size e)
  have na : a ≠ s.heap.objs.size := by
    obtain ⟨o, _, _, _, _, ⟨ho, _⟩, _⟩ := R
    exact lt a o ho
  generalize s.heap.push (newS w) = h1 at old R1 hr Rr1 ⊢
  generalize hrr : s.heap.objs.size = r at hr Rr1 lt na q ⊢
  obtain ⟨oa, es, ep, t, l, ⟨hoa, hexa, hda⟩, da, pa, nda, hba, hfa, hra, hla⟩ := id R1
  refine wpAny_bind (m := addrOf (.ref r)) (wpAny_pure ?_)
  refine wpAny_bind ?_
  unfold setMerge
  refine wp_if_neg (by simp; exact fun z => na z.symm) ?_
  refine wpAny_bind (wpAny_setState_of hoa hda hfa ?_)
  dsimp only
  have le : l.length = es.size := by rw [da.len, Array.length_toList]
  by_cases emp : es.isEmpty = true
  · refine wp_if_pos emp (wpAny_pure (wpAny_pure (q h1 ?_ old)))
    have : l = [] := List.eq_nil_of_length_eq_zero (by rw [le]; simpa using emp)
    rw [this] at pa
    rw [List.Perm.eq_nil pa.symm]
    exact Rr1
  refine wp_if_neg emp ?_
  refine wpAny_bind (room_at (s := { s with heap := h1 }) hr ⟨rfl, rfl, rfl⟩ rfl rfl rfl rfl (by unfold scanBound at hba; omega) fun h3 e3 t3 sb3 g3 z1 z2 ⟨m, hm⟩ z3 z4 => ?_)
  have f3 : t3.fits (#[] : Array (Int × Value)).size = true := fits_of z1 (by rw [z1, z2]; exact Nat.zero_le _)
  refine wpAny_bind (wpAny_setState_of (s := { s with heap := h3 }) g3 rfl f3 ?_)
  dsimp only
  have fl : (t3.fill != 0) = false := by
    unfold SetTable.fill
    rw [z1, z2]
    rfl
  have ledOk : w.params.followText "set-order" = true ∨ (t3.led && t.led) = true := by
    rcases hla with z | z
    · exact .inl z
    · rw [z4, z]
      show _ ∨ ((!w.params.followText "set-order") && true) = true
      cases w.params.followText "set-order" <;> simp
  have fin : ∀ (es' : Array (Int × Value)) (t' : SetTable) (l' : List Key), Two (KeyE w) l' es'.toList → l'.Perm l → es'.size < scanBound → t'.fits es'.size = true → Ris t'.place.toList → (w.params.followText "set-order" = true ∨ t'.led = true) → wpAny (model P w) A (storeSet r es' t') (fun _ s' => wpAny (model P w) A (pure (Value.ref r)) Q E s') E { s with heap := h3 } := fun es' t' l' d' p' b' f' r' ld' => by
    have sb4 := sb3.trans (Heap.SameBut.update h3 r (Obj.putSet es' t'))
    refine wpAny_storeSet_of (s := { s with heap := h3 }) g3 rfl (wpAny_pure (q _ ⟨_, es', _, t', l', ⟨stored g3 rfl, ⟨rfl, rfl, rfl⟩, rfl⟩, d', p'.trans pa, nda, b', f', r', ld'⟩ fun c o e => ?_)) (fits_of_scanBound b')
    rw [sb4.2 c (lt c o e)]
    exact old c o e
  by_cases c : (t3.mask == t.mask && t.dummies.isEmpty) = true
  · have er : t3.road t = .slotForSlot := by
      unfold SetTable.road
      rw [fl, if_neg Bool.false_ne_true, if_pos c]
    rw [er]
    dsimp only
    exact fin es _ l da (List.Perm.refl _) hba (fits_of (fits_iff hfa).1 (fits_iff hfa).2) hra ledOk
  · have er : t3.road t = .clean := by
      unfold SetTable.road
      rw [fl, if_neg Bool.false_ne_true, if_neg c]
    rw [er]
    dsimp only
    obtain ⟨t', order, e4, pm, ps, rs, mk, dm, ld⟩ := laid_some hm (es.map (·.1)) (by rw [Array.size_map]; exact z3) t3.finger t3.moves (t3.led && t.led) (t3.plain && t.plain)
    rw [e4]
    rw [Array.size_map] at pm ps
    have op := order_perm (es := es) pm
    have hsz : (order.filterMap (es[·]?)).size = es.size := by
      have := op.length_eq
      rwa [Array.length_toList, Array.length_toList] at this
    have ns : ¬ ((order.filterMap (es[·]?)).size != es.size) = true := by
      rw [hsz]
      simp
    refine wpAny_bind (wpAny_of_eq (a := (order.filterMap (es[·]?), t')) (if_neg ns) ?_)
    dsimp only
    obtain ⟨l', p', d'⟩ := Two.perm op.symm da
    refine fin _ t' l' d' p' (by rw [hsz]; exact hba) (fits_of (by rw [hsz]; exact ps) ?_) rs (by rw [ld]; exact ledOk)
    rw [ps, dm, mk]
    exact z3
theorem eraseAt_list {α : Type} (xs : Array α) (p : Nat) : (SetTable.eraseAt xs p).toList = xs.toList.eraseIdx p := by
  unfold SetTable.eraseAt
  rw [Array.toList_append, Array.toList_extract, Array.toList_extract, List.eraseIdx_eq_take_drop_succ]
  simp [List.extract]
  rw [List.take_of_length_le]
  rw [List.length_drop, Array.length_toList]
  omega
theorem insertAt_size {α : Type} (xs : Array α) (p : Nat) (x : α) : (SetTable.insertAt xs p x).size = xs.size + 1 := by
  have := (SetTable.insertAt_perm xs p x).length_eq
  rw [Array.length_toList, Array.length_toList, Array.size_push] at this
  exact this
theorem Two.erase {α β : Type} {R : α → β → Prop} : ∀ {l : List α} {m : List β} (i : Nat), Two R l m → Two R (l.eraseIdx i) (m.eraseIdx i)
  | _, _, _, .nil => .nil
  | _, _, 0, .cons _ t => t
  | _, _, i + 1, .cons r t => .cons r (Two.erase i t)
theorem erase_filter {l : List Key} {i : Nat} {k : Key} (h : l[i]? = some k) (nd : l.Nodup) : (l.eraseIdx i).Perm (l.filter fun x => decide (x ≠ k)) := by
  have p := erase_perm l i k h
  have nd2 := List.nodup_cons.mp (p.nodup_iff.mpr nd)
  have p2 := p.filter fun x => decide (x ≠ k)
  rw [List.filter_cons_of_neg (by simp), List.filter_eq_self.mpr] at p2
  · exact p2
  · intro x hx
    exact decide_eq_true fun e => nd2.1 (e ▸ hx)
/-- a key taken out -/
theorem disc_at (R : SetK w s.heap a ks) {k : Key} {x : Value} (hx : keyIs k x = true) {Q : Bool → Shared → Prop} (q : ∀ h' bb, Heap.SameBut a s.heap h' → SetK w h' a (ks.filter fun y => decide (y ≠ k)) → Q bb { s with heap := h' }) : wpAny (model P w) A (setDiscardHashed a x (keyH w k)) Q E s := by
  have R0 := R
  obtain ⟨o, es, ep, t, l, ⟨ho, hex, hd⟩, d, p, nd, hb, hf, hr, hl⟩ := R
  unfold setDiscardHashed
  refine wpAny_bind (setK_find ho hd d hb hf hx (fun i hi => ?_) (fun hn => ?_))
  · dsimp only
    refine wpAny_bind (wpAny_setState_of ho hd hf ?_)
    dsimp only
    have il : i < es.size := by
      rw [← Array.length_toList, ← d.len]
      exact (List.getElem?_eq_some_iff.mp hi).1
    obtain ⟨f1, f2⟩ := fits_iff hf
    have hj : t.place[i]? = some t.place[i] := Array.getElem?_eq_getElem (by rw [f1]; exact il)
    have ed : t.drop i = { t with place := SetTable.eraseAt t.place i, dummies := SetTable.insertAt t.dummies (SetTable.below t.dummies t.place[i]) t.place[i] } := by
      unfold SetTable.drop
      rw [hj]
    have z1 : (SetTable.eraseAt es i).size = es.size - 1 := by
      rw [← Array.length_toList, eraseAt_list, List.length_eraseIdx, Array.length_toList, if_pos il]
    have z2 : (SetTable.eraseAt t.place i).size = es.size - 1 := by
      rw [← Array.length_toList, eraseAt_list, List.length_eraseIdx, Array.length_toList, f1, if_pos il]
    refine wpAny_bind (wpAny_storeSet_of ho hd ?_ (fits_of_scanBound (by rw [z1]; omega)))
    refine wpAny_bind (wpAny_point ?_)
    refine wpAny_pure (q _ true (Heap.SameBut.update s.heap a _) ⟨_, _, _, _, l.eraseIdx i, ⟨stored ho hd, hex, rfl⟩, by rw [eraseAt_list]; exact d.erase i, (erase_filter hi (p.nodup_iff.mpr nd)).trans (p.filter _), nd.sublist List.filter_sublist, by rw [z1]; omega, ?_, ?_, ?_⟩)
    · rw [ed]
      refine fits_of (by rw [z1]; exact z2) ?_
      show (SetTable.eraseAt t.place i).size + (SetTable.insertAt t.dummies _ _).size ≤ t.mask
      rw [z2, insertAt_size]
      omega
    · rw [ed]
      show Ris (SetTable.eraseAt t.place i).toList
      rw [eraseAt_list]
      exact hr.sublist (List.eraseIdx_sublist _ _)
    · rw [ed]
      exact hl
  · dsimp only
    refine wpAny_pure (q s.heap false (Heap.SameBut.refl a s.heap) ?_)
    rw [List.filter_eq_self.mpr]
    · exact R0
    · intro y hy
      exact decide_eq_true fun e => hn (p.mem_iff.mpr (e ▸ hy))
theorem tidy_at (R : SetK w s.heap a ks) {Q : Unit → Shared → Prop} (q : ∀ h', Heap.SameBut a s.heap h' → SetK w h' a ks → Q () { s with heap := h' }) : wpAny (model P w) A (setTidy a) Q E s := by
  have R0 := R
  obtain ⟨o, es, ep, t, l, ⟨ho, hex, hd⟩, d, p, nd, hb, hf, hr, hl⟩ := R
  unfold setTidy
  refine wpAny_bind (wpAny_setState_of ho hd hf ?_)
  dsimp only
  by_cases c : t.tooManyDummies = true
  · refine wp_if_pos c ?_
    have g : es.size ≤ SetTable.grown es.size ∧ SetTable.grown es.size < 1000000 := by
      have : scanBound = 4096 := rfl
      unfold SetTable.grown
      split <;> omega
    refine relay_at ho hex hd d hb hf g.1 g.2 fun h' es' t' l' sb gg d' p' z1 z2 rs mk dm ld ft => q h' sb ⟨_, es', _, t', l', ⟨gg, hex, rfl⟩, d', p'.trans p, nd, by rw [z1]; exact hb, ft, rs, by rw [ld]; exact hl⟩
  · exact wp_if_neg c (wpAny_pure (q s.heap (Heap.SameBut.refl a s.heap) R0))
theorem outK_snoc {l : List Key} {k x : Key} : outK (l ++ [k]) x = (outK l x && decide (x ≠ k)) := by
  rw [Bool.eq_iff_iff, Bool.and_eq_true, outK_iff, outK_iff, List.mem_append, decide_eq_true_eq]
  constructor
  · intro h
    exact ⟨fun z => h (.inl z), fun z => h (.inr (List.mem_singleton.mpr z))⟩
  · rintro ⟨h1, h2⟩ (z | z)
    · exact h1 z
    · exact h2 (List.mem_singleton.mp z)
theorem less_at {i0 : String} {r : Addr} (Rr : SetK w s.heap r ks) (Rb : SetK w s.heap b ms) (nb : b ≠ r) (small : ¬ ms.length / 8 > ks.length) {Q : Unit → Shared → Prop}
    (q : ∀ h', Heap.SameBut r s.heap h' → SetK w h' r (ks.filter (outK ms)) → Q () { s with heap := h' }) : wpAny (model P w) A (differenceUpdate i0 r (.ref b)) Q E s := by
  unfold differenceUpdate
  refine wp_if_neg (by simp; exact fun z => nb z) ?_
  refine wpAny_bind (isSet_at Rb ?_)
  refine wp_if_pos rfl ?_
  refine wpAny_bind (m := addrOf (.ref b)) (wpAny_pure ?_)
  refine wpAny_bind (size_at Rb ?_)
  refine wpAny_bind (size_at Rr ?_)
  refine wp_if_neg small ?_
  obtain ⟨ob, esb, epb, tb, lb, ⟨hob, hexb, hdb⟩, db, pb, ndb, hbb, hfb, hrb, hlb⟩ := id Rb
  refine wpAny_bind (wpAny_setEpoch_of hob hdb hfb ?_)
  refine wpAny_bind (wpAny_holding ?_)
  refine wpAny_bind (walk_un (f := none) (ns := []) Rb (fun c hc => ?_) (fun r er => by cases er) fun es l h2 dl pl hn _ => ?_)
  · rw [List.mem_singleton.mp hc]
    exact ⟨_, Rr⟩
  rw [hn rfl]
  have tail : ∀ (h' : Heap), Heap.SameBut r s.heap h' → ∀ {Z : Unit → Shared → Prop}, Z () { s with heap := h' } → wpAny (model P w) A (unchanged i0 b epb) Z E { s with heap := h' } := fun h' sb' Z z => by
    unfold unchanged
    have hob' : h'.get? b = some ob := by rw [sb'.2 b nb]; exact hob
    refine wpAny_bind (wpAny_setEpoch_of (s := { s with heap := h' }) hob' hdb hfb ?_)
    exact wp_if_neg (by simp) (wpAny_pure z)
  rw [← Array.forIn_toList]
  refine wpAny_bind (wpAny_mono (wp_for (Iv := fun i _ s' => ∃ h', s' = { s with heap := h' } ∧ Heap.SameBut r s.heap h' ∧ SetK w h' r (ks.filter (outK (l.take i)))) es.toList 0 _ _ ⟨s.heap, rfl, Heap.SameBut.refl r s.heap, ?_⟩ ?_) (fun _ s' hs => ?_) fun _ _ e => e)
  · rw [List.take_zero, List.filter_eq_self.mpr]
    · exact Rr
    · intro x _
      rfl
  · rintro i ⟨hh, x⟩ _ s' hi ⟨h', rfl, sb', Rr'⟩
    rw [Nat.zero_add] at Rr' ⊢
    have hil : i < l.length := by
      rw [dl.len]
      exact (List.getElem?_eq_some_iff.mp hi).1
    obtain ⟨k, hk⟩ : ∃ k, l[i]? = some k := ⟨_, List.getElem?_eq_getElem hil⟩
    obtain ⟨e, he, r1, r2⟩ := dl.get hk
    rw [hi] at he
    cases he
    have r2 : hh = keyH w k := r2
    subst r2
    have tk : ks.filter (outK (l.take (i + 1))) = (ks.filter (outK (l.take i))).filter fun y => decide (y ≠ k) := by
      rw [List.filter_filter, List.take_succ, hk]
      apply List.filter_congr
      intro y _
      show outK (l.take i ++ [k]) y = _
      rw [outK_snoc, Bool.and_comm]
    dsimp only
    refine wpAny_bind (wpAny_holding ?_)
    refine disc_at (s := { s with heap := h' }) Rr' r1 fun h3 bb sb3 R3 => ?_
    have sb13 := sb'.trans sb3
    refine wpAny_bind (tail h3 sb13 (wpAny_pure ⟨_, rfl, h3, rfl, sb13, ?_⟩))
    rw [tk]
    exact R3
  · obtain ⟨h', rfl, sb', R'⟩ := hs
    rw [Nat.zero_add, Array.length_toList] at R'
    have le : l.length = es.size := by rw [dl.len, Array.length_toList]
    rw [← le, List.take_length] at R'
    have same : ks.filter (outK l) = ks.filter (outK ms) := by
      apply List.filter_congr
      intro y _
      rw [Bool.eq_iff_iff, outK_iff, outK_iff, pl.mem_iff]
    rw [same] at R'
    refine wpAny_pure ?_
    exact tidy_at (s := { s with heap := h' }) R' fun h4 sb4 R4 => q h4 (sb'.trans sb4) R4
theorem entry_set_sub : entryFor table "set.__sub__" = some Builtin.«frozenset.__sub__» := entryFor_alias (id' := "frozenset.__sub__") (by kernel_rfl) rfl (by decide +kernel) (by kernel_rfl)
/-- a - b, both sets -/
theorem sub_at (Ra : SetK w s.heap a ks) (Rb : SetK w s.heap b ms) {Q : Value → Shared → Prop}
    (q : ∀ h', SetK w h' s.heap.objs.size (ks.filter (outK ms)) → (∀ b o, s.heap.get? b = some o → h'.get? b = some o) → Q (.ref s.heap.objs.size) { s with heap := h' }) : wpAny (model P w) A (binaryOp .Sub (.ref a) (.ref b)) Q E s := by
  refine wpAny_binaryOp_same (T := "set") (id := "set.__sub__") (setK_type Ra) (setK_type Rb) F.fills_set_sub F.slot_set_sub ?_
  refine wpAny_call_entry F.slot_set_sub (setK_type Ra) entry_set_sub ?_ (F.args_set_sub_2 _ _)
  unfold Builtin.«frozenset.__sub__»
  refine wpAny_bind (m := slot1 "__sub__" ⟨[.ref a, .ref b], []⟩) ?_
  unfold slot1 slotArgs
  refine wpAny_bind (wp_if_neg (by simp) (wp_if_neg (by simp) (wpAny_pure (wpAny_pure ?_))))
  dsimp only
  rw [if_neg Bool.false_ne_true]
  dsimp only
  refine wpAny_bind (wpAny_bind (isSet_at (A := A.in1) Ra ?_))
  refine isSet_at (A := A.in1) Rb ?_
  refine wp_if_neg (by simp) ?_
  refine wpAny_bind (m := addrOf (.ref a)) (wpAny_pure ?_)
  refine wpAny_bind (diff_at (A := A.in1) Ra Rb (fun h' R' o' => wpAny_pure ⟨_, rfl, (fun z => by cases z), q h' R' o'⟩) fun big => ?_)
  refine wpAny_bind (copy_at (A := A.in1) Ra fun h1 R1 o1 => ?_)
  refine wpAny_bind (m := addrOf (.ref s.heap.objs.size)) (wpAny_pure ?_)
  have Rb1 : SetK w h1 b ms := Rb.at_ fun o e => o1 b o e
  have nb : b ≠ s.heap.objs.size := by
    obtain ⟨o, _, _, _, _, ⟨ho, _⟩, _⟩ := Rb
    exact Nat.ne_of_lt (Heap.lt_size ho)
  refine wpAny_bind (wpAny_holding (less_at (s := { s with heap := h1 }) R1 Rb1 nb (by omega) fun h2 sb2 R2 => ?_))
  refine wpAny_pure (wpAny_pure ⟨_, rfl, (fun z => by cases z), q h2 R2 fun c o e => ?_⟩)
  rw [sb2.2 c (Nat.ne_of_lt (Heap.lt_size e))]
  exact o1 c o e
end
end Y
namespace Y
open PySem PySem.Spec PyProof.Rows L2
section
variable {X : Cx}
/-- a - b, both sets -/
def rSetSub (w : World) : R2 := fun x y H Q => ∃ (a b : Addr) (ks ms : List Key), x = .ref a ∧ y = .ref b ∧ H a = some (SetKO w a ks) ∧ H b = some (SetKO w b ms) ∧ ∀ p, H p = none → Q (.ref p) (upd H p (SetKO w p (ks.filter (outK ms))))
theorem y_setSub {w : World} (hw : X.w = w := by rfl) : OpR X (binaryOp .Sub) (rSetSub w) := by
  subst hw
  intro pins s σ H x y v u Q I rx ry h
  obtain ⟨a, b, ks, ms, rfl, rfl, ha, hb, q⟩ := h
  cases rx
  cases ry
  refine sub_at (P := X.prog) (w := X.w) (setKO_get I ha) (setKO_get I hb) fun h' R' keep => ?_
  exact ⟨.ref s.heap.objs.size, upd H s.heap.objs.size (SetKO X.w s.heap.objs.size (ks.filter (outK ms))), I.laid (t' := s.toks) keep (Nat.le_refl _) (setKO_ok R'), rfl, q _ (I.hok.fresh (Nat.le_refl _))⟩
end
end Y
set_option Elab.async false
set_option linter.all false
set_option maxRecDepth 100000
/-! xs[::-1]; lists with None at their end, kept in pairs. -/
namespace Y
open PySem PySem.Spec PyProof.Rows L2 PySem.Calls
theorem tRevL_ap {K : PySem.W.Frag} {te : TE} {σ : L2.St} {H : Hp} {Q : VK} : tRevL K te σ H Q = te σ H fun x H1 => asRef x fun a => ∃ xs, SqL K H1 a xs ∧ ∀ p, H1 p = none → Q (.ref p) (upd H1 p (.lst xs.reverse)) := by
  unfold tRevL
  simp only [asRef_ex]
  congr 1
  funext x H1
  apply propext
  constructor
  · rintro ⟨a, xs, h1, h2, h3⟩
    exact ⟨a, h1, xs, h2, h3⟩
  · rintro ⟨a, h1, xs, h2, h3⟩
    exact ⟨a, xs, h1, h2, h3⟩
theorem y_revL {X : Cx} {K : PySem.W.Frag} {e : Expr} {te : TE} {k : Nat} {p1 p2 p3 pos : Pos} (he : PE X e te) (hK : X.K = K := by rfl) : PE X (.Subscript e (.Slice none none (some (.UnaryOp .USub (.Constant (.int 1) k p1) p2)) p3) pos) (tRevL K te) := by
  subst hK
  exact pe_revL he
/-- a thing that is equal to itself, by == -/
def NiceV (H : Hp) (v : V) : Prop := v = .non ∨ plainV v = true ∨ ∃ a ks, v = .ref a ∧ H a = some (.tup (ks.map kV)) ∧ plainK ks = true
theorem NiceV.fr {F : List Addr} {H H' : Hp} {v : V} (h : NiceV H v) (f : Fr F H H') (nt : ∀ a ∈ F, ∀ xs, H a ≠ some (.tup xs)) : NiceV H' v := by
  rcases h with h | h | ⟨a, ks, h1, h2, h3⟩
  · exact .inl h
  · exact .inr (.inl h)
  · exact .inr (.inr ⟨a, ks, h1, f.tup h2 (fun z => nt a z _ h2), h3⟩)
theorem NiceV.dp {K : PySem.W.Frag} {H : Hp} {v : V} (h : NiceV H v) : ∃ d, Dp K H v d ∧ PyData.canLay0 d = true ∧ PyData.depth d ≤ 2 ∧ PyData.eqv d d = true := by
  rcases h with h | h | ⟨a, ks, h1, h2, h3⟩
  · subst h
    exact ⟨.none, .non, rfl, by simp [PyData.depth], rfl⟩
  · cases v <;> first | (exact Bool.noConfusion (show false = true from h)) | skip
    · rename_i i
      exact ⟨.int i, .int i, by simp [PyData.canLay0], by simp [PyData.depth], by simp [PyData.eqv]⟩
    · rename_i x
      exact ⟨.str x, .str x, by simp only [PyData.canLay0]; exact h, by simp [PyData.depth], by simp [PyData.eqv]⟩
  · subst h1
    obtain ⟨g1, g2⟩ := lay_all h3
    refine ⟨.tuple ((ks.map kV).map pyV), (dp_tup (SqT.of h2) h3).1, by simpa [PyData.canLay0] using g1, ?_, ?_⟩
    · simp only [PyData.depth]
      omega
    · rw [show PyData.eqv (.tuple ((ks.map kV).map pyV)) (.tuple ((ks.map kV).map pyV)) = PyData.eqvAll ((ks.map kV).map pyV) ((ks.map kV).map pyV) from rfl, eqv_all h3 h3]
      exact decide_eq_true rfl
theorem nice_all {K : PySem.W.Frag} {H : Hp} : ∀ {xs : List V}, (∀ v ∈ xs, NiceV H v) → ∃ ds, DpAll K H xs ds ∧ PyData.canLayAll0 ds = true ∧ PyData.depthAll ds ≤ 2 ∧ PyData.eqvAll ds ds = true
  | [], _ => ⟨[], .nil, rfl, by simp [PyData.depthAll], by simp [PyData.eqvAll]⟩
  | x :: xs, h => by
    obtain ⟨d, h1, h2, h3, h4⟩ := (h x List.mem_cons_self).dp (K := K)
    obtain ⟨ds, g1, g2, g3, g4⟩ := nice_all (K := K) fun v hv => h v (List.mem_cons_of_mem _ hv)
    refine ⟨d :: ds, .cons h1 g1, ?_, ?_, ?_⟩
    · show (PyData.canLay0 d && PyData.canLayAll0 ds) = true
      rw [h2, g2]
      rfl
    · show max (PyData.depth d) (PyData.depthAll ds) ≤ 2
      omega
    · show (PyData.eqv d d && PyData.eqvAll ds ds) = true
      rw [h4, g4]
      rfl
/-- two lists of the same things are not unlike -/
theorem ne_nice {K : PySem.W.Frag} {H : Hp} {a b : Addr} {xs : List V} {Q : VK} (ha : H a = some (.lst xs)) (hb : H b = some (.lst xs)) (hx : ∀ v ∈ xs, NiceV H v) (q : Q (.bl false) H) : rNeD K (.ref a) (.ref b) H Q := by
  obtain ⟨ds, g1, g2, g3, g4⟩ := nice_all (K := K) hx
  have sh : SeqAt.shaped (.list ds) = true := by
    unfold SeqAt.shaped
    rw [Bool.and_eq_true]
    refine ⟨by simpa [PyData.canLay0] using g2, decide_eq_true ?_⟩
    simp only [PyData.depth]
    omega
  refine ⟨_, _, .lst (SqL.of ha) g1, .lst (SqL.of hb) g1, sh, sh, ?_⟩
  rw [show PyData.eqv (.list ds) (.list ds) = PyData.eqvAll ds ds from rfl, g4]
  exact q
/-- a pair of lists of the same things -/
def PairN (H : Hp) (p : Addr) : Prop := ∃ a b xs, H p = some (.tup [.ref a, .ref b]) ∧ H a = some (.lst xs) ∧ H b = some (.lst xs) ∧ ∀ v ∈ xs, NiceV H v
theorem PairN.fr {F : List Addr} {H H' : Hp} {p : Addr} (h : PairN H p) (f : Fr F H H') (nt : ∀ a ∈ F, ∀ xs, H a ≠ some (.tup xs)) (ne : ∀ a b, H p = some (.tup [.ref a, .ref b]) → a ∉ F ∧ b ∉ F) : PairN H' p := by
  obtain ⟨a, b, xs, hp, h1, h2, h3⟩ := h
  obtain ⟨na, nb⟩ := ne a b hp
  exact ⟨a, b, xs, f.tup hp (fun z => nt _ z _ hp), f.lst h1 na, f.lst h2 nb, fun v hv => (h3 v hv).fr f nt⟩
/-- the list of kept pairs -/
def KeptN (H : Hp) (kl : Addr) (n : Nat) : Prop := ∃ ps : List Addr, H kl = some (.lst (ps.map V.ref)) ∧ ps.length ≤ n ∧ ∀ p ∈ ps, PairN H p ∧ ∀ a b, H p = some (.tup [.ref a, .ref b]) → a ≠ kl ∧ b ≠ kl
theorem PairN.tup {H : Hp} {p : Addr} (h : PairN H p) : ∃ a b, H p = some (.tup [.ref a, .ref b]) := by
  obtain ⟨a, b, _, hp, _⟩ := h
  exact ⟨a, b, hp⟩
theorem KeptN.fr0 {H H' : Hp} {kl : Addr} {n : Nat} (h : KeptN H kl n) (f : Fr [] H H') : KeptN H' kl n := by
  obtain ⟨ps, h1, h2, h3⟩ := h
  refine ⟨ps, f.lst h1 List.not_mem_nil, h2, fun p hp => ⟨(h3 p hp).1.fr f (fun _ z => by cases z) (fun _ _ _ => ⟨List.not_mem_nil, List.not_mem_nil⟩), fun a b e => ?_⟩⟩
  obtain ⟨a0, b0, e0⟩ := (h3 p hp).1.tup
  have e1 := f.tup e0 List.not_mem_nil
  rw [e1] at e
  cases e
  exact (h3 p hp).2 _ _ e0
theorem KeptN.mono {H : Hp} {kl : Addr} {n m : Nat} (h : KeptN H kl n) (l : n ≤ m) : KeptN H kl m := by
  obtain ⟨ps, h1, h2, h3⟩ := h
  exact ⟨ps, h1, Nat.le_trans h2 l, h3⟩
/-- a pair put to the list -/
theorem KeptN.put {H H' : Hp} {kl p a b : Addr} {n : Nat} (h : KeptN H kl n) {ps : List Addr} (hk : H kl = some (.lst (ps.map V.ref))) (f : Fr [kl] H H') (hk' : H' kl = some (.lst (ps.map V.ref ++ [V.ref p]))) {xs : List V} (hp : H' p = some (.tup [.ref a, .ref b])) (ha : H' a = some (.lst xs)) (hb : H' b = some (.lst xs)) (hx : ∀ v ∈ xs, NiceV H' v) (na : a ≠ kl) (nb : b ≠ kl) : KeptN H' kl (n + 1) := by
  obtain ⟨ps0, h1, h2, h3⟩ := h
  have e : ps0.map V.ref = ps.map V.ref := by
    have z := Option.some.inj (h1.symm.trans hk)
    injection z
  rw [← e] at hk'
  have nt : ∀ c ∈ [kl], ∀ ys, H c ≠ some (.tup ys) := fun c hc ys z => by rw [List.mem_singleton.mp hc, h1] at z; cases z
  refine ⟨ps0 ++ [p], by rw [hk', List.map_append]; rfl, by rw [List.length_append]; show ps0.length + 1 ≤ _; omega, fun q hq => ?_⟩
  rcases List.mem_append.mp hq with z | z
  · obtain ⟨g1, g2⟩ := h3 q z
    refine ⟨g1.fr f nt (fun a b e => by
      obtain ⟨n1, n2⟩ := g2 a b e
      exact ⟨fun z => n1 (List.mem_singleton.mp z), fun z => n2 (List.mem_singleton.mp z)⟩), fun a b e => ?_⟩
    obtain ⟨a0, b0, e0⟩ := g1.tup
    have e1 := f.tup e0 (fun z => nt _ z _ e0)
    rw [e1] at e
    cases e
    exact g2 _ _ e0
  · rw [List.mem_singleton.mp z]
    refine ⟨⟨a, b, xs, hp, ha, hb, hx⟩, fun a' b' e => ?_⟩
    rw [hp] at e
    cases e
    exact ⟨na, nb⟩
end Y
set_option Elab.async false
set_option linter.all false
set_option maxRecDepth 100000
/-! Notes: numbers as texts, replace, starred lists, canonical orders. -/
namespace Y
open PySem PySem.Spec PyProof.Rows L2 PySem.Calls
/-- the figures of a number -/
abbrev numL (n : Nat) : List Nat := TL.numL n
theorem num_str (n : Nat) : Str.ofString (toString ((n : Nat) : Int)) = st (numL n) := TL.ext_tl (TL.tl_num n)
def rStrI (xs : List V) (H : Hp) (Q : VK) : Prop := match xs with
  | [.int i] => i.natAbs.log2 < 1920 ∧ Q (.str (Str.ofString (toString i))) H
  | _ => False
theorem rStrI_ap {i : Int} {H : Hp} {Q : VK} : rStrI [.int i] H Q = (i.natAbs.log2 < 1920 ∧ Q (.str (Str.ofString (toString i))) H) := rfl
theorem y_strI {X : Cx} : CallR X (.type "str") rStrI := call_weak call_str_int fun xs H Q q => by
  unfold rStrI at q
  split at q
  · exact ⟨_, rfl, q.1, q.2⟩
  · exact q.elim
theorem tStar_ap {K : PySem.W.Frag} {te : TE} {t : TA} {σ : L2.St} {H : Hp} {Q : List V → Hp → Prop} : StX.tStar K te t σ H Q = te σ H fun x H1 => asRef x fun p => ∃ xs, (SqT K H1 p xs ∨ SqL K H1 p xs) ∧ t σ H1 fun ys H2 => Q (xs ++ ys) H2 := by
  unfold StX.tStar
  congr 1
  funext x H1
  rw [asRef_ex]
  apply propext
  constructor
  · rintro ⟨p, xs, h1, h2, h3⟩
    exact ⟨p, h1, xs, h2, h3⟩
  · rintro ⟨p, h1, xs, h2, h3⟩
    exact ⟨p, xs, h1, h2, h3⟩
theorem y_star {X : Cx} {K : PySem.W.Frag} {e : Expr} {es : List Expr} {te : TE} {t : TA} {p : Pos} (he : PE X e te) (hr : PA X es t) (hs : starEach (.Starred e p :: es) X.env = (true, eval e X.env) :: starEach es X.env := by rfl) (hK : X.K = K := by rfl) : PA X (.Starred e p :: es) (StX.tStar K te t) := by
  subst hK
  exact StX.pa_star he hr hs
/-- what stands for a sign -/
def esc1 (c : Nat) : List Nat := if c = 92 then [92, 92] else if c = 10 then [92, 110] else [c]
/-- a piece as its row tells it -/
def escL (z : List Nat) : List Nat := z.flatMap esc1
theorem repl_one {a : Nat} {w : List Nat} : ∀ z : List Nat, StrLaws.replL [a] w z = z.flatMap fun c => if c = a then w else [c]
  | [] => by rw [StrLaws.replL_nil]; rfl
  | c :: r => by
    by_cases h : c = a
    · rw [StrLaws.replL_hit (by simp) (by rw [h]; rfl)]
      show w ++ StrLaws.replL [a] w r = _
      rw [repl_one r, List.flatMap_cons, if_pos h]
    · rw [StrLaws.replL_miss (fun z => h (by simpa using z)), repl_one r, List.flatMap_cons, if_neg h]
      rfl
theorem esc_repl (z : List Nat) : StrLaws.replL [10] [92, 110] (StrLaws.replL [92] [92, 92] z) = escL z := by
  rw [repl_one, repl_one, List.flatMap_assoc]
  unfold escL
  congr 1
  funext c
  unfold esc1
  by_cases h : c = 92
  · subst h
    rfl
  · rw [if_neg h, if_neg h]
    show (if c = 10 then [92, 110] else [c]) ++ [] = _
    rw [List.append_nil]
theorem escL_len (z : List Nat) : (escL z).length ≤ 2 * z.length := by
  induction z with
  | nil => exact Nat.le_refl _
  | cons c r ih =>
    unfold escL at ih ⊢
    rw [List.flatMap_cons, List.length_append, List.length_cons]
    have : (esc1 c).length ≤ 2 := by
      unfold esc1
      split
      · exact Nat.le_refl _
      · split <;> simp
    omega
theorem rep_st {l : List Nat} {y z : Str} (hy : 1 ≤ y.length) : Txt.replace (st l) y z = st (StrLaws.replL y.cps.toList z.cps.toList l) := TL.ext_tl (StrLaws.replace_list hy)
theorem tReplC_ap {to : TE} {y z : Str} {σ : L2.St} {H : Hp} {Q : VK} : CwR.tReplC to y z σ H Q = to σ H fun v H1 => asStr v fun x => x.length + (x.length + 1) * z.length ≤ 16777216 ∧ Q (.str (Txt.replace x y z)) H1 := by
  unfold CwR.tReplC
  simp only [asStr_ex]
/-! ### orders that are told -/
def sortKs (l : List (List Key)) : List (List Key) := l.mergeSort fun a b => !lexK b a
theorem sortKs_perm (l : List (List Key)) : (sortKs l).Perm l := List.mergeSort_perm _ _
theorem sortKs_pw (l : List (List Key)) : (sortKs l).Pairwise fun x y => lexK y x = false := by
  refine (List.pairwise_mergeSort (fun a b c h1 h2 => ?_) (fun a b => ?_) l).imp fun h => by simpa using h
  · simp only [Bool.not_eq_true'] at h1 h2 ⊢
    exact lexK_tr h1 h2
  · cases h : lexK b a with
    | false => rfl
    | true => rw [lexK_asym h]; rfl
theorem sortKs_eq {l zs : List (List Key)} (p : zs.Perm l) (h : zs.Pairwise fun x y => lexK y x = false) : zs = sortKs l :=
  (p.trans (sortKs_perm l).symm).eq_of_pairwise (le := fun x y => lexK y x = false) (fun a b _ _ g1 g2 => lexK_tri g2 g1) h (sortKs_pw l)
def sortK (l : List Key) : List Key := l.mergeSort fun a b => !ltK b a
theorem sortK_perm (l : List Key) : (sortK l).Perm l := List.mergeSort_perm _ _
theorem sortK_pw (l : List Key) : (sortK l).Pairwise fun x y => ltK y x = false := by
  refine (List.pairwise_mergeSort (fun a b c h1 h2 => ?_) (fun a b => ?_) l).imp fun h => by simpa using h
  · simp only [Bool.not_eq_true'] at h1 h2 ⊢
    exact ltK_tr h1 h2
  · cases h : ltK b a with
    | false => rfl
    | true => rw [ltK_asym h]; rfl
theorem sortK_eq {l zs : List Key} (p : zs.Perm l) (h : zs.Pairwise fun x y => ltK y x = false) : zs = sortK l := sortedK_same (p.trans (sortK_perm l).symm) h (sortK_pw l)
/-! ### the rows of a note -/
def nlL : List Nat := [10]
def shL : List Nat := ("shelf " : Str).cps.toList
def pcL : List Nat := ("piece " : Str).cps.toList
def wkL : List Nat := ("work " : Str).cps.toList
def vsL : List Nat := ("version" : Str).cps.toList
def headRow (w r g : Nat) : List Nat := shL ++ (numL w ++ 32 :: (numL r ++ 32 :: numL g))
def pieceRow (n : Nat) (t : List Nat) : List Nat := pcL ++ (numL n ++ 32 :: escL t)
def workRow (nm : List Nat) (n : Nat) : List Nat := wkL ++ (nm ++ 32 :: numL n)
def versRow (nm : List Nat) (n : Nat) (row : List Nat) : List Nat := vsL ++ (32 :: nm ++ (32 :: numL n ++ row.flatMap fun k => 32 :: numL k))
/-- the name and the number of a key -/
def keyN (k : List Key) : List Nat := match k with
  | .inr s :: _ => s.cps.toList
  | _ => []
def keyI (k : List Key) : Nat := match k with
  | [_, .inl i] => i.toNat
  | _ => 0
/-- the row of numbers by a key -/
def ShM.rowOf (M : ShM) (k : List Key) : List Nat := match M.rows.find? (fun x => decide (x.key = k)) with
  | some x => x.row
  | none => []
def nmK (k : Key) : List Nat := match k with
  | .inr s => s.cps.toList
  | .inl _ => []
def noteRows (M : ShM) : List (List Nat) :=
  headRow M.w M.r M.S.last :: (M.S.its.map (fun i => pieceRow i.num i.txt) ++ ((sortK (M.wk.map wkK)).map (fun k => workRow (nmK k) (M.given (nmK k))) ++ (sortKs (M.rows.map Rw.key)).map fun k => versRow (keyN k) (keyI k) (M.rowOf k)))
def noteOf (M : ShM) : List Nat := ((noteRows M).map (· ++ nlL)).flatten
theorem join_flat (sep : Nat) : ∀ (a : List Nat) (l : List (List Nat)), TL.joinL [sep] (a :: l) = a ++ l.flatMap fun x => sep :: x
  | a, [] => by simp [TL.joinL]
  | a, b :: l => by
    show a ++ ([sep] ++ TL.joinL [sep] (b :: l)) = _
    rw [join_flat sep b l, List.flatMap_cons]
    rfl
section
variable {X : Cx}
theorem nox_T {st : List Stmt} {t : TS} (h : PSsT X.nox st t) : PSsT X st t := fun pins s σ H D h0 I hw =>
  wpAny_mono (h pins s σ H D h0 (I.wish _) hw) (fun _ _ q => q.unwish) fun _ _ z => z.elim
end
section
variable {P : Program} {w : World} {K : PySem.W.Frag} {mg : Str → Option Value} {base : Heap}
/-- a def with a parameter: a token is out when its body begins -/
theorem _root_.L2.Fun.okT {x qual : Str} {st : Stmt} {f : Addr} {fd : FuncData} {N ps : List Str} {k : Nat} {sp : Sp} (F : Fun K x qual st f fd) (S : FnScope N ps (defScope st)) (len : ∀ vs H Q E, sp vs H Q E → vs.length = ps.length)
    (body : ∀ (A : Around) (outer : List Env) (cdv : Value) (s : Shared) (H : Hp) (vs : List V) (Q : VK) (E : XK), Room k (A.deeper (envOfC qual (defScope st) s.heap.objs.size f cdv)) → sp vs H Q E →
      ∃ t, PSsT (cxOf CX0 P w K mg base N qual (defScope st) f cdv A outer s H E).nox (defBody st) t ∧ t { nx := fun _ H' => Q .non H', rt := Q } (start N vs) H)
    (nc : ∀ y ∈ (defScope st).names, y.2 ≠ .cell := by decide +kernel) (np : 1 ≤ ps.length := by decide) : FnOk P w K mg base CX0 (k + 1) f fd ps sp := by
  obtain ⟨oc, od, kV, doc, pm, an, cdv, ct, osl, rfl, lk, hcd⟩ := F.ex
  refine fn_ofT lk hcd S nc np len fun A outer s H vs Q E hr h => ?_
  obtain ⟨t, g, q⟩ := body A outer cdv s H vs Q E hr h
  exact ⟨t, nox_T g, q⟩
theorem _root_.L2.Fun.okXT {x qual : Str} {st : Stmt} {f : Addr} {fd : FuncData} {N ps : List Str} {k : Nat} {sp : Sp} (F : Fun K x qual st f fd) (S : FnScope N ps (defScope st)) (len : ∀ vs H Q E, sp vs H Q E → vs.length = ps.length)
    (body : ∀ (A : Around) (outer : List Env) (cdv : Value) (s : Shared) (H : Hp) (vs : List V) (Q : VK) (E : XK), Room k (A.deeper (envOfC qual (defScope st) s.heap.objs.size f cdv)) → sp vs H Q E →
      ∃ t, PSsT (cxOf (L2.CX P w) P w K mg base N qual (defScope st) f cdv A outer s H E) (defBody st) t ∧ t { nx := fun _ H' => Q .non H', rt := Q } (start N vs) H)
    (nc : ∀ y ∈ (defScope st).names, y.2 ≠ .cell := by decide +kernel) (np : 1 ≤ ps.length := by decide) : FnOk P w K mg base (L2.CX P w) (k + 1) f fd ps sp := by
  obtain ⟨oc, od, kV, doc, pm, an, cdv, ct, osl, rfl, lk, hcd⟩ := F.ex
  exact fn_ofT lk hcd S nc np len fun A outer s H vs Q E hr h => body A outer cdv s H vs Q E hr h
end
theorem log_small {n : Nat} (h : n < 10 ^ 13) : ((n : Int)).natAbs.log2 < 1920 := by
  rw [Int.natAbs_natCast]
  have h1 : n.log2 ≤ n := Nat.log2_le_self n
  by_cases h0 : n = 0
  · subst h0
    decide
  · have h2 : n < 2 ^ 64 := Nat.lt_of_lt_of_le h (by decide)
    have h3 := (Nat.log2_lt h0).mpr h2
    omega
theorem numL_13 {n : Nat} (h : n < 10 ^ 13) : (numL n).length ≤ 13 := TL.numL_len (by decide) h
/-- the keys of a name's versions -/
def verKeys (M : ShM) (k : Key) : List (List Key) := (sortK ((M.rows.filter fun x => decide ((Sum.inr (st x.nm) : Key) = k)).map fun x => (Sum.inl (x.num : Int) : Key))).map fun n => [k, n]
theorem verKeys_mem {M : ShM} {k : Key} {q : List Key} : q ∈ verKeys M k ↔ ∃ x ∈ M.rows, (Sum.inr (st x.nm) : Key) = k ∧ q = x.key := by
  unfold verKeys
  rw [List.mem_map]
  constructor
  · rintro ⟨n, hn, rfl⟩
    obtain ⟨x, hx, e⟩ := List.mem_map.mp ((sortK_perm _).mem_iff.mp hn)
    obtain ⟨h1, h2⟩ := List.mem_filter.mp hx
    have h2 := of_decide_eq_true h2
    exact ⟨x, h1, h2, by rw [← e, ← h2]; rfl⟩
  · rintro ⟨x, hx, e, rfl⟩
    exact ⟨Sum.inl (x.num : Int), (sortK_perm _).mem_iff.mpr (List.mem_map.mpr ⟨x, List.mem_filter.mpr ⟨hx, decide_eq_true e⟩, rfl⟩), by rw [← e]; rfl⟩
theorem verKeys_pw {M : ShM} (k : Key) : (verKeys M k).Pairwise fun x y => lexK y x = false := by
  unfold verKeys
  rw [List.pairwise_map]
  refine (sortK_pw _).imp fun {a b} h => ?_
  rw [lexK_cons, if_pos rfl, lexK_cons]
  by_cases c : b = a
  · rw [if_pos c]
    rfl
  · rw [if_neg c]
    exact h
theorem verKeys_nd {M : ShM} (nd : (M.rows.map Rw.key).Nodup) (k : Key) : (verKeys M k).Nodup := by
  unfold verKeys
  have h : ((M.rows.filter fun x => decide ((Sum.inr (st x.nm) : Key) = k)).map fun x => (Sum.inl (x.num : Int) : Key)).Nodup := by
    rw [List.nodup_iff_pairwise_ne, List.pairwise_map] at nd ⊢
    refine (nd.sublist List.filter_sublist).imp_of_mem fun {a b} ha hb h e => h ?_
    have h1 := of_decide_eq_true (List.mem_filter.mp ha).2
    have h2 := of_decide_eq_true (List.mem_filter.mp hb).2
    unfold Rw.key
    rw [h1, h2, e]
  have h2 := (sortK_perm _).nodup_iff.mpr h
  rw [List.nodup_iff_pairwise_ne] at h2 ⊢
  rw [List.pairwise_map]
  exact h2.imp fun h e => h (by injection e with _ e; injection e)
/-- the keys by names, then by numbers, are the keys in order -/
theorem keys_nest {M : ShM} (nd : (M.rows.map Rw.key).Nodup) {zs : List Key} (pz : zs.Perm ((M.rows.map fun x => (Sum.inr (st x.nm) : Key)).foldl addK [])) (pw : zs.Pairwise fun x y => ltK y x = false) : zs.flatMap (verKeys M) = sortKs (M.rows.map Rw.key) := by
  have zn : zs.Nodup := pz.nodup_iff.mpr (foldl_addK_nodup _ _ List.nodup_nil)
  have head : ∀ {k q}, q ∈ verKeys M k → ∃ n, q = [k, n] := fun {k q} h => by
    obtain ⟨n, _, e⟩ := List.mem_map.mp h
    exact ⟨n, e.symm⟩
  refine sortKs_eq ((List.perm_ext_iff_of_nodup ?_ nd).mpr fun q => ?_) ?_
  · rw [List.nodup_iff_pairwise_ne, List.pairwise_flatMap]
    refine ⟨fun k _ => List.nodup_iff_pairwise_ne.mp (verKeys_nd nd k), (List.nodup_iff_pairwise_ne.mp zn).imp fun {a b} ne x hx y hy e => ?_⟩
    obtain ⟨n, rfl⟩ := head hx
    obtain ⟨m, rfl⟩ := head hy
    injection e with e _
    exact ne e
  · rw [List.mem_flatMap]
    constructor
    · rintro ⟨k, _, h⟩
      obtain ⟨x, hx, _, rfl⟩ := verKeys_mem.mp h
      exact List.mem_map.mpr ⟨x, hx, rfl⟩
    · intro h
      obtain ⟨x, hx, rfl⟩ := List.mem_map.mp h
      refine ⟨Sum.inr (st x.nm), pz.mem_iff.mpr ?_, verKeys_mem.mpr ⟨x, hx, rfl, rfl⟩⟩
      rw [foldl_addK_mem]
      exact .inr (List.mem_map.mpr ⟨x, hx, rfl⟩)
  · rw [List.pairwise_flatMap]
    refine ⟨fun k _ => verKeys_pw k, ?_⟩
    have both := pw.and (List.nodup_iff_pairwise_ne.mp zn)
    refine both.imp fun {a b} h x hx y hy => ?_
    obtain ⟨n, rfl⟩ := head hx
    obtain ⟨m, rfl⟩ := head hy
    rw [lexK_cons, if_neg (fun e => h.2 e.symm)]
    exact h.1
theorem rowOf_key {M : ShM} (nd : (M.rows.map Rw.key).Nodup) {x : Rw} (hx : x ∈ M.rows) : M.rowOf x.key = x.row := by
  unfold ShM.rowOf
  rw [find_inj (key := Rw.key) nd hx]
theorem keyN_key (x : Rw) : keyN x.key = x.nm := rfl
theorem keyI_key (x : Rw) : keyI x.key = x.num := rfl
/-- a row is not longer than the note -/
theorem row_note {M : ShM} {z : List Nat} (h : z ∈ noteRows M) : z.length + 1 ≤ (noteOf M).length := by
  have hs : (z ++ nlL).Sublist (noteOf M) := List.sublist_flatten_of_mem (List.mem_map.mpr ⟨z, h, rfl⟩)
  have := hs.length_le
  rw [List.length_append] at this
  exact this
theorem join_len (sep : Nat) : ∀ (a : List Nat) (l : List (List Nat)), (((a :: l).map st).map (·.length)).sum + (a :: l).length = (TL.joinL [sep] (a :: l)).length + 1 := by
  intro a l
  rw [sum_len, join_flat, List.flatten_cons, List.length_append, List.length_append, List.length_cons]
  have : (l.flatMap fun x => sep :: x).length = l.flatten.length + l.length := by
    induction l with
    | nil => rfl
    | cons x l ih =>
      rw [List.flatMap_cons, List.length_append, ih, List.flatten_cons, List.length_append, List.length_cons, List.length_cons]
      omega
  omega
theorem join_st (sep : Nat) (L : List (List Nat)) : Txt.join (st [sep]) (L.map st) = st (TL.joinL [sep] L) := SX.join_S [sep] L
theorem vers_join (nm : List Nat) (n : Nat) (row : List Nat) : TL.joinL [32] (vsL :: nm :: numL n :: row.map numL) = versRow nm n row := by
  rw [join_flat, List.flatMap_cons, List.flatMap_cons, List.flatMap_map]
  rfl
/-- a name's numbers in order -/
theorem verKeys_of {M : ShM} {nm : List Nat} {ns : List Int} (pn : ns.Perm ((M.rows.filter fun x => decide (x.nm = nm)).map fun x => (x.num : Int))) (pw : ns.Pairwise fun x y => x ≤ y) : verKeys M (Sum.inr (st nm)) = ns.map fun n => [(Sum.inr (st nm) : Key), Sum.inl n] := by
  have e : ns.map (Sum.inl : Int → Key) = sortK ((M.rows.filter fun x => decide ((Sum.inr (st x.nm) : Key) = Sum.inr (st nm))).map fun x => (Sum.inl (x.num : Int) : Key)) := by
    refine sortK_eq ?_ ?_
    · have h := pn.map (Sum.inl : Int → Key)
      rw [List.map_map] at h
      have ef : (M.rows.filter fun x => decide ((Sum.inr (st x.nm) : Key) = Sum.inr (st nm))) = M.rows.filter fun x => decide (x.nm = nm) := by
        apply List.filter_congr
        intro x _
        rw [Bool.eq_iff_iff, decide_eq_true_iff, decide_eq_true_iff]
        exact ⟨fun h => st_inj.mp (Sum.inr.inj h), fun h => by rw [h]⟩
      rw [ef]
      exact h
    · rw [List.pairwise_map]
      exact pw.imp fun {a b} h => decide_eq_false (by omega)
  unfold verKeys
  rw [← e, List.map_map]
  rfl
/-- -x -/
def rNeg (x : V) (H : Hp) (Q : VK) : Prop := match x with
  | .int i => Q (.int (-i)) H
  | _ => False
theorem y_neg {X : Cx} : UnR X (unaryOp .USub) rNeg := fun pins s σ H x v Q I rx q => un_neg pins s σ H x v Q I rx (by
  unfold rNeg at q
  split at q
  · exact ⟨_, rfl, q⟩
  · exact q.elim)
def rMax (xs : List V) (H : Hp) (Q : VK) : Prop := match xs with
  | [.int i, .int j] => Q (.int (max i j)) H
  | _ => False
theorem y_max {X : Cx} (hc : X.calm = true) : CallR X (.builtin "max") rMax := by
  refine call_weak (call_max2 hc) fun x H Q q => ?_
  unfold rMax at q
  split at q
  · rename_i i j
    refine ⟨i, j, rfl, ?_⟩
    rw [show (if j > i then j else i) = max i j by split <;> omega]
    exact q
  · exact q.elim
/-- a text and a truth, twice: unlike -/
theorem ne_wordsT {K : PySem.W.Frag} {H : Hp} {a b : Addr} {x : Str} {c : Bool} {Q : VK} (ha : SqT K H a [.str x, .bl c]) (hb : SqT K H b [.str x, .bl c]) (hx : x.cps.all (· < 0x110000) = true) (q : Q (.bl false) H) : rNeD K (.ref a) (.ref b) H Q := by
  have sh : SeqAt.shaped (.tuple [.str x, .bool c]) = true := by
    unfold SeqAt.shaped
    rw [Bool.and_eq_true]
    refine ⟨?_, decide_eq_true ?_⟩
    · simp only [PyData.canLay0, PyData.canLayAll0, Bool.and_true]
      exact hx
    · simp [PyData.depth, PyData.depthAll]
  refine ⟨.tuple [.str x, .bool c], .tuple [.str x, .bool c], .tup ha (.cons (.str _) (.cons (.bl _) .nil)), .tup hb (.cons (.str _) (.cons (.bl _) .nil)), sh, sh, ?_⟩
  have e : PyData.eqv (.tuple [.str x, .bool c]) (.tuple [.str x, .bool c]) = true := by
    simp only [PyData.eqv, PyData.eqvAll, Bool.and_true]
    cases c <;> simp
  rw [e]
  exact q
end Y
namespace My
open PySem L2 Y
local macro_rules | `(tactic| walk_at "ev") => `(tactic| try simp only [L2.start, List.map_cons, List.map_nil, List.length_cons, List.length_nil, Nat.reduceAdd, Nat.reduceSub, List.replicate_succ, List.replicate_zero, List.cons_append, List.nil_append, List.append_nil,
  tVar_ap, look_some, List.getElem?_cons_zero, List.getElem?_cons_succ, List.set_cons_zero, List.set_cons_succ, tC_ap, tSeq_ap, tNext_ap, tAsg_ap, gName_ap, tRet_ap, tRetN_ap, tDrop_ap, tBreak_ap, tCont_ap, tYes_ap, tLc1_ap, tLc2_ap, tLcL_ap, tLcZ_ap, tForZ_ap, tDc2_ap, tDGet_ap, tBM_ap, tM1_ap, emp_st, rIs_1, rIs_2, rIs_3, rIs_4, rIs_5, rIs_6, rIs_7, rIs_8, rIs_9, rIs_10, rIsN_1, rIsN_2, rIsN_3, rIsN_4, rIsN_5, tOp_ap, tUn_ap, tNil_ap, tCons_ap, tCB_ap, tCall_ap, tLst_ap, tTup_ap, tSl_ap, tNoPart_ap, tPart_ap,
  asInt_int, asBl_bl, isi_int_int, isi_int_bool, isi_bl_int, isi_bl_bool, isi_str_str, isi_str_int, isi_int_str, asStr_str, asRef_ref, br_t, br_f, brS_t, brS_f, tIfS_ap, brE_t, brE_f, tIf_ap, tAndV_ap, tOrV_ap, tChain_ap, tCh3_ap, sDDelT_ap, tDPopT_ap, tAllT_ap, tFs_ap, tJs_nil, tJs_cons, tFmt_ap, fmt_str, fmt_int, rLenT_ap, rTupC_ap, tLcT_ap, tScK_ap, tRevL_ap, tStar_ap, tReplC_ap, Y.rNeg, Y.rMax, rStrI_ap, tNotV_ap, brT_t, brT_f, tK_ap, tAnd_ap, tOr_ap, tNot_ap, tB_ap, tTest_ap, tFor1_ap, tFor2_ap, tForS_ap, tForL_ap, rng1_ap, rng2_ap,
  tJoin_ap, rListC_ap, tCallS_ap, tMethE_ap, tMakeE_ap, tCallE_ap, tFldE_ap, sFldE_ap, sFldAugE_ap, sDPut_ap, sDAug_ap, sDDel_ap, tDNewK_ap, tDNewT_ap, tDIn_ap, tDNotIn_ap, tDGet2_ap, tDPop1_ap, tLockE_ap, tLock_ap, tDisp_ap, tPairs_nil, tPairs_cons, riAdd_ap, riSub_ap, tLcK_ap, tForK_ap, rInt1_i, rInt1_b, Y.rAdd, Y.rSub, Y.rMul, Y.rMod, Y.rDiv, Y.rPow, Y.rCmp, Y.rEqS, Y.rNeS, Y.rInA, Y.rNotInA, Y.rIxA, Y.rSlA, Y.rLen, Y.rOrd, Y.rMin, codes_st, len_st, one_st, mk_st, Bool.not_true, Bool.not_false, cxOf_K, line_eq, Nat.reduceLeDiff, Nat.reduceLT, Int.reduceLT, Int.reduceLE, Int.reduceNeg, Int.reducePow, CDiv, CMul, CPow, Int.reduceAbs, Int.reduceToNat, Nat.reducePow, true_and, and_true, or_true, true_or, decide_eq_true_eq, decide_true, decide_false, Option.map_some, Option.map_none, Option.isSome_some, Option.isSome_none, Option.getD_some, Option.getD_none])
def topS (i : Nat) : Stmt := PySem.Challenge.pw_chunkshelf_k09_refused.main.body.getD i (.Pass ⟨0, 0, 0, 0⟩)
abbrev s_weight : Stmt := topS 5
abbrev N_weight : List Str := ["signs", "total", "sign"]
theorem sc_weight : FnScope N_weight ["signs"] (defScope s_weight) := ⟨rfl, rfl, rfl, by decide +kernel, rfl, by decide +kernel, by decide +kernel⟩
abbrev s_cuts : Stmt := topS 6
abbrev N_cuts : List Str := ["text", "width", "reach", "weights", "place"]
theorem sc_cuts : FnScope N_cuts ["text", "width", "reach"] (defScope s_cuts) := ⟨rfl, rfl, rfl, by decide +kernel, rfl, by decide +kernel, by decide +kernel⟩
abbrev s_pieces : Stmt := topS 7
abbrev N_pieces : List Str := ["text", "width", "reach", "bounds", "start", "end"]
theorem sc_pieces : FnScope N_pieces ["text", "width", "reach"] (defScope s_pieces) := ⟨rfl, rfl, rfl, by decide +kernel, rfl, by decide +kernel, by decide +kernel⟩
abbrev s__weights_by_place : Stmt := topS 9
abbrev N__weights_by_place : List Str := ["text", "width", "place"]
theorem sc__weights_by_place : FnScope N__weights_by_place ["text", "width"] (defScope s__weights_by_place) := ⟨rfl, rfl, rfl, by decide +kernel, rfl, by decide +kernel, by decide +kernel⟩
abbrev s__is_lightest : Stmt := topS 10
abbrev N__is_lightest : List Str := ["weights", "place", "reach", "other"]
theorem sc__is_lightest : FnScope N__is_lightest ["weights", "place", "reach"] (defScope s__is_lightest) := ⟨rfl, rfl, rfl, by decide +kernel, rfl, by decide +kernel, by decide +kernel⟩
abbrev s_is_number : Stmt := topS 26
abbrev N_is_number : List Str := ["thing"]
theorem sc_is_number : FnScope N_is_number ["thing"] (defScope s_is_number) := ⟨rfl, rfl, rfl, by decide +kernel, rfl, by decide +kernel, by decide +kernel⟩
abbrev s_is_width : Stmt := topS 27
abbrev N_is_width : List Str := ["thing"]
theorem sc_is_width : FnScope N_is_width ["thing"] (defScope s_is_width) := ⟨rfl, rfl, rfl, by decide +kernel, rfl, by decide +kernel, by decide +kernel⟩
abbrev s_is_reach : Stmt := topS 28
abbrev N_is_reach : List Str := ["thing"]
theorem sc_is_reach : FnScope N_is_reach ["thing"] (defScope s_is_reach) := ⟨rfl, rfl, rfl, by decide +kernel, rfl, by decide +kernel, by decide +kernel⟩
abbrev s_is_text : Stmt := topS 29
abbrev N_is_text : List Str := ["thing", "sign"]
theorem sc_is_text : FnScope N_is_text ["thing"] (defScope s_is_text) := ⟨rfl, rfl, rfl, by decide +kernel, rfl, by decide +kernel, by decide +kernel⟩
abbrev s_is_name : Stmt := topS 30
abbrev N_is_name : List Str := ["thing", "letter"]
theorem sc_is_name : FnScope N_is_name ["thing"] (defScope s_is_name) := ⟨rfl, rfl, rfl, by decide +kernel, rfl, by decide +kernel, by decide +kernel⟩
abbrev s__is_sign : Stmt := topS 31
abbrev N__is_sign : List Str := ["sign"]
theorem sc__is_sign : FnScope N__is_sign ["sign"] (defScope s__is_sign) := ⟨rfl, rfl, rfl, by decide +kernel, rfl, by decide +kernel, by decide +kernel⟩
abbrev s_Stock___init__ : Stmt := inClass (topS 33) 0
abbrev N_Stock___init__ : List Str := ["self"]
theorem sc_Stock___init__ : FnScope N_Stock___init__ ["self"] (defScope s_Stock___init__) := ⟨rfl, rfl, rfl, by decide +kernel, rfl, by decide +kernel, by decide +kernel⟩
abbrev s_Stock_need : Stmt := inClass (topS 33) 1
abbrev N_Stock_need : List Str := ["self", "text", "number"]
theorem sc_Stock_need : FnScope N_Stock_need ["self", "text"] (defScope s_Stock_need) := ⟨rfl, rfl, rfl, by decide +kernel, rfl, by decide +kernel, by decide +kernel⟩
abbrev s_Stock_free : Stmt := inClass (topS 33) 2
abbrev N_Stock_free : List Str := ["self", "number"]
theorem sc_Stock_free : FnScope N_Stock_free ["self", "number"] (defScope s_Stock_free) := ⟨rfl, rfl, rfl, by decide +kernel, rfl, by decide +kernel, by decide +kernel⟩
abbrev s_Stock_count : Stmt := inClass (topS 33) 3
abbrev N_Stock_count : List Str := ["self", "number"]
theorem sc_Stock_count : FnScope N_Stock_count ["self", "number"] (defScope s_Stock_count) := ⟨rfl, rfl, rfl, by decide +kernel, rfl, by decide +kernel, by decide +kernel⟩
abbrev s_Stock_piece : Stmt := inClass (topS 33) 4
abbrev N_Stock_piece : List Str := ["self", "number"]
theorem sc_Stock_piece : FnScope N_Stock_piece ["self", "number"] (defScope s_Stock_piece) := ⟨rfl, rfl, rfl, by decide +kernel, rfl, by decide +kernel, by decide +kernel⟩
abbrev s_Stock_numbers : Stmt := inClass (topS 33) 5
abbrev N_Stock_numbers : List Str := ["self"]
theorem sc_Stock_numbers : FnScope N_Stock_numbers ["self"] (defScope s_Stock_numbers) := ⟨rfl, rfl, rfl, by decide +kernel, rfl, by decide +kernel, by decide +kernel⟩
abbrev s_Stock_put : Stmt := inClass (topS 33) 6
abbrev N_Stock_put : List Str := ["self", "number", "text", "count"]
theorem sc_Stock_put : FnScope N_Stock_put ["self", "number", "text", "count"] (defScope s_Stock_put) := ⟨rfl, rfl, rfl, by decide +kernel, rfl, by decide +kernel, by decide +kernel⟩
abbrev s_Stock__is_kept : Stmt := inClass (topS 33) 7
abbrev N_Stock__is_kept : List Str := ["self", "number"]
theorem sc_Stock__is_kept : FnScope N_Stock__is_kept ["self", "number"] (defScope s_Stock__is_kept) := ⟨rfl, rfl, rfl, by decide +kernel, rfl, by decide +kernel, by decide +kernel⟩
abbrev s_Stock__check_kept : Stmt := inClass (topS 33) 8
abbrev N_Stock__check_kept : List Str := ["self", "number"]
theorem sc_Stock__check_kept : FnScope N_Stock__check_kept ["self", "number"] (defScope s_Stock__check_kept) := ⟨rfl, rfl, rfl, by decide +kernel, rfl, by decide +kernel, by decide +kernel⟩
abbrev s_Shelf___init__ : Stmt := inClass (topS 37) 0
abbrev N_Shelf___init__ : List Str := ["self", "width", "reach"]
theorem sc_Shelf___init__ : FnScope N_Shelf___init__ ["self", "width", "reach"] (defScope s_Shelf___init__) := ⟨rfl, rfl, rfl, by decide +kernel, rfl, by decide +kernel, by decide +kernel⟩
abbrev s_Shelf_keep : Stmt := inClass (topS 37) 1
abbrev N_Shelf_keep : List Str := ["self", "name", "text"]
theorem sc_Shelf_keep : FnScope N_Shelf_keep ["self", "name", "text"] (defScope s_Shelf_keep) := ⟨rfl, rfl, rfl, by decide +kernel, rfl, by decide +kernel, by decide +kernel⟩
abbrev s_Shelf_drop : Stmt := inClass (topS 37) 2
abbrev N_Shelf_drop : List Str := ["self", "name", "number", "piece"]
theorem sc_Shelf_drop : FnScope N_Shelf_drop ["self", "name", "number"] (defScope s_Shelf_drop) := ⟨rfl, rfl, rfl, by decide +kernel, rfl, by decide +kernel, by decide +kernel⟩
abbrev s_Shelf_change : Stmt := inClass (topS 37) 3
abbrev N_Shelf_change : List Str := ["self", "name", "number", "start", "end", "text", "old", "new", "before", "kept"]
theorem sc_Shelf_change : FnScope N_Shelf_change ["self", "name", "number", "start", "end", "text"] (defScope s_Shelf_change) := ⟨rfl, rfl, rfl, by decide +kernel, rfl, by decide +kernel, by decide +kernel⟩
abbrev s_Shelf_text : Stmt := inClass (topS 37) 4
abbrev N_Shelf_text : List Str := ["self", "name", "number", "piece"]
theorem sc_Shelf_text : FnScope N_Shelf_text ["self", "name", "number"] (defScope s_Shelf_text) := ⟨rfl, rfl, rfl, by decide +kernel, rfl, by decide +kernel, by decide +kernel⟩
abbrev s_Shelf_row : Stmt := inClass (topS 37) 5
abbrev N_Shelf_row : List Str := ["self", "name", "number"]
theorem sc_Shelf_row : FnScope N_Shelf_row ["self", "name", "number"] (defScope s_Shelf_row) := ⟨rfl, rfl, rfl, by decide +kernel, rfl, by decide +kernel, by decide +kernel⟩
abbrev s_Shelf_versions : Stmt := inClass (topS 37) 6
abbrev N_Shelf_versions : List Str := ["self", "name", "other", "number"]
theorem sc_Shelf_versions : FnScope N_Shelf_versions ["self", "name"] (defScope s_Shelf_versions) := ⟨rfl, rfl, rfl, by decide +kernel, rfl, by decide +kernel, by decide +kernel⟩
abbrev s_Shelf_names : Stmt := inClass (topS 37) 7
abbrev N_Shelf_names : List Str := ["self", "name", "_"]
theorem sc_Shelf_names : FnScope N_Shelf_names ["self"] (defScope s_Shelf_names) := ⟨rfl, rfl, rfl, by decide +kernel, rfl, by decide +kernel, by decide +kernel⟩
abbrev s_Shelf_pieces : Stmt := inClass (topS 37) 8
abbrev N_Shelf_pieces : List Str := ["self", "stock", "number"]
theorem sc_Shelf_pieces : FnScope N_Shelf_pieces ["self"] (defScope s_Shelf_pieces) := ⟨rfl, rfl, rfl, by decide +kernel, rfl, by decide +kernel, by decide +kernel⟩
abbrev s_Shelf_altered : Stmt := inClass (topS 37) 11
abbrev N_Shelf_altered : List Str := ["self", "name", "one", "other", "old", "new"]
theorem sc_Shelf_altered : FnScope N_Shelf_altered ["self", "name", "one", "other"] (defScope s_Shelf_altered) := ⟨rfl, rfl, rfl, by decide +kernel, rfl, by decide +kernel, by decide +kernel⟩
abbrev s_Shelf_sizes : Stmt := inClass (topS 37) 12
abbrev N_Shelf_sizes : List Str := ["self"]
theorem sc_Shelf_sizes : FnScope N_Shelf_sizes ["self"] (defScope s_Shelf_sizes) := ⟨rfl, rfl, rfl, by decide +kernel, rfl, by decide +kernel, by decide +kernel⟩
abbrev s_Shelf_greatest_piece : Stmt := inClass (topS 37) 13
abbrev N_Shelf_greatest_piece : List Str := ["self"]
theorem sc_Shelf_greatest_piece : FnScope N_Shelf_greatest_piece ["self"] (defScope s_Shelf_greatest_piece) := ⟨rfl, rfl, rfl, by decide +kernel, rfl, by decide +kernel, by decide +kernel⟩
abbrev s_Shelf_works : Stmt := inClass (topS 37) 14
abbrev N_Shelf_works : List Str := ["self", "name"]
theorem sc_Shelf_works : FnScope N_Shelf_works ["self"] (defScope s_Shelf_works) := ⟨rfl, rfl, rfl, by decide +kernel, rfl, by decide +kernel, by decide +kernel⟩
abbrev s_Shelf__put : Stmt := inClass (topS 37) 16
abbrev N_Shelf__put : List Str := ["self", "name", "text", "number"]
theorem sc_Shelf__put : FnScope N_Shelf__put ["self", "name", "text"] (defScope s_Shelf__put) := ⟨rfl, rfl, rfl, by decide +kernel, rfl, by decide +kernel, by decide +kernel⟩
abbrev s_Shelf__needed_row : Stmt := inClass (topS 37) 17
abbrev N_Shelf__needed_row : List Str := ["self", "text", "numbers", "row", "part"]
theorem sc_Shelf__needed_row : FnScope N_Shelf__needed_row ["self", "text"] (defScope s_Shelf__needed_row) := ⟨rfl, rfl, rfl, by decide +kernel, rfl, by decide +kernel, by decide +kernel⟩
abbrev s_Shelf__check_room : Stmt := inClass (topS 37) 18
abbrev N_Shelf__check_room : List Str := ["self", "text"]
theorem sc_Shelf__check_room : FnScope N_Shelf__check_room ["self", "text"] (defScope s_Shelf__check_room) := ⟨rfl, rfl, rfl, by decide +kernel, rfl, by decide +kernel, by decide +kernel⟩
abbrev s__check_name : Stmt := topS 38
abbrev N__check_name : List Str := ["name"]
theorem sc__check_name : FnScope N__check_name ["name"] (defScope s__check_name) := ⟨rfl, rfl, rfl, by decide +kernel, rfl, by decide +kernel, by decide +kernel⟩
abbrev s__check_places : Stmt := topS 39
abbrev N__check_places : List Str := ["start", "end", "signs"]
theorem sc__check_places : FnScope N__check_places ["start", "end", "signs"] (defScope s__check_places) := ⟨rfl, rfl, rfl, by decide +kernel, rfl, by decide +kernel, by decide +kernel⟩
abbrev s__check_text : Stmt := topS 40
abbrev N__check_text : List Str := ["text"]
theorem sc__check_text : FnScope N__check_text ["text"] (defScope s__check_text) := ⟨rfl, rfl, rfl, by decide +kernel, rfl, by decide +kernel, by decide +kernel⟩
abbrev s_written : Stmt := topS 42
abbrev N_written : List Str := ["shelf", "rows", "name", "width", "reach", "number", "text", "_", "greatest", "numbers", "row", "piece"]
theorem sc_written : FnScope N_written ["shelf"] (defScope s_written) := ⟨rfl, rfl, rfl, by decide +kernel, rfl, by decide +kernel, by decide +kernel⟩
abbrev s__escaped : Stmt := topS 43
abbrev N__escaped : List Str := ["text"]
theorem sc__escaped : FnScope N__escaped ["text"] (defScope s__escaped) := ⟨rfl, rfl, rfl, by decide +kernel, rfl, by decide +kernel, by decide +kernel⟩
abbrev s__law_cell_at : Stmt := topS 45
abbrev N__law_cell_at : List Str := ["_law_script", "_law_k"]
theorem sc__law_cell_at : FnScope N__law_cell_at ["_law_script", "_law_k"] (defScope s__law_cell_at) := ⟨rfl, rfl, rfl, by decide +kernel, rfl, by decide +kernel, by decide +kernel⟩
abbrev s__law_whole : Stmt := topS 46
abbrev N__law_whole : List Str := ["_law_got"]
theorem sc__law_whole : FnScope N__law_whole ["_law_got"] (defScope s__law_whole) := ⟨rfl, rfl, rfl, by decide +kernel, rfl, by decide +kernel, by decide +kernel⟩
abbrev s__law_sign_by : Stmt := topS 47
abbrev N__law_sign_by : List Str := ["_law_cell", "_law_some"]
theorem sc__law_sign_by : FnScope N__law_sign_by ["_law_cell"] (defScope s__law_sign_by) := ⟨rfl, rfl, rfl, by decide +kernel, rfl, by decide +kernel, by decide +kernel⟩
abbrev s__law_text_by : Stmt := topS 48
abbrev N__law_text_by : List Str := ["_law_cell", "_law_size", "_law_signs", "_law_block", "_law_got", "_law_number", "_law_k"]
theorem sc__law_text_by : FnScope N__law_text_by ["_law_cell", "_law_size"] (defScope s__law_text_by) := ⟨rfl, rfl, rfl, by decide +kernel, rfl, by decide +kernel, by decide +kernel⟩
abbrev s__law_alike : Stmt := topS 49
abbrev N__law_alike : List Str := ["_law_got", "_law_due", "_law_k"]
theorem sc__law_alike : FnScope N__law_alike ["_law_got", "_law_due"] (defScope s__law_alike) := ⟨rfl, rfl, rfl, by decide +kernel, rfl, by decide +kernel, by decide +kernel⟩
abbrev s__law_width_by : Stmt := topS 51
abbrev N__law_width_by : List Str := ["_law_cell"]
theorem sc__law_width_by : FnScope N__law_width_by ["_law_cell"] (defScope s__law_width_by) := ⟨rfl, rfl, rfl, by decide +kernel, rfl, by decide +kernel, by decide +kernel⟩
abbrev s__law_reach_by : Stmt := topS 52
abbrev N__law_reach_by : List Str := ["_law_cell"]
theorem sc__law_reach_by : FnScope N__law_reach_by ["_law_cell"] (defScope s__law_reach_by) := ⟨rfl, rfl, rfl, by decide +kernel, rfl, by decide +kernel, by decide +kernel⟩
abbrev s__law_names_by : Stmt := topS 53
abbrev N__law_names_by : List Str := ["_law_cell", "_law_letters", "_law_size", "_law_word_here", "_law_number", "_law_k", "_law_spot", "_law_ends"]
theorem sc__law_names_by : FnScope N__law_names_by ["_law_cell"] (defScope s__law_names_by) := ⟨rfl, rfl, rfl, by decide +kernel, rfl, by decide +kernel, by decide +kernel⟩
abbrev s__law_word_of : Stmt := topS 54
abbrev N__law_word_of : List Str := ["_law_e", "_law_words"]
theorem sc__law_word_of : FnScope N__law_word_of ["_law_e"] (defScope s__law_word_of) := ⟨rfl, rfl, rfl, by decide +kernel, rfl, by decide +kernel, by decide +kernel⟩
abbrev s__law_call : Stmt := topS 55
abbrev N__law_call : List Str := ["_law_shelf", "_law_way", "_law_name", "_law_size", "_law_odd", "_law_sizes", "_law_bad"]
theorem sc__law_call : FnScope N__law_call ["_law_shelf", "_law_way", "_law_name", "_law_size"] (defScope s__law_call) := ⟨rfl, rfl, rfl, by decide +kernel, rfl, by decide +kernel, by decide +kernel⟩
abbrev s__law_last_call : Stmt := topS 56
abbrev N__law_last_call : List Str := ["_law_shelf", "_law_way", "_law_name", "_law_size", "_law_bad"]
theorem sc__law_last_call : FnScope N__law_last_call ["_law_shelf", "_law_way", "_law_name", "_law_size"] (defScope s__law_last_call) := ⟨rfl, rfl, rfl, by decide +kernel, rfl, by decide +kernel, by decide +kernel⟩
abbrev s__law_far_call : Stmt := topS 57
abbrev N__law_far_call : List Str := ["_law_shelf", "_law_way", "_law_name", "_law_size", "_law_start"]
theorem sc__law_far_call : FnScope N__law_far_call ["_law_shelf", "_law_way", "_law_name", "_law_size"] (defScope s__law_far_call) := ⟨rfl, rfl, rfl, by decide +kernel, rfl, by decide +kernel, by decide +kernel⟩
abbrev s__law_word : Stmt := topS 58
abbrev N__law_word : List Str := ["_law_way"]
theorem sc__law_word : FnScope N__law_word ["_law_way"] (defScope s__law_word) := ⟨rfl, rfl, rfl, by decide +kernel, rfl, by decide +kernel, by decide +kernel⟩
abbrev s__law_answer : Stmt := topS 59
abbrev N__law_answer : List Str := ["_law_shelf", "_law_way", "_law_name", "_law_size", "_law_e"]
theorem sc__law_answer : FnScope N__law_answer ["_law_shelf", "_law_way", "_law_name", "_law_size"] (defScope s__law_answer) := ⟨rfl, rfl, rfl, by decide +kernel, rfl, by decide +kernel, by decide +kernel⟩
abbrev s__law_many : Stmt := topS 60
abbrev N__law_many : List Str := ["_law_shelf", "_law_name", "_law_due", "_law_e"]
theorem sc__law_many : FnScope N__law_many ["_law_shelf", "_law_name", "_law_due"] (defScope s__law_many) := ⟨rfl, rfl, rfl, by decide +kernel, rfl, by decide +kernel, by decide +kernel⟩
abbrev s__law_held : Stmt := topS 61
abbrev N__law_held : List Str := ["_law_shelf", "_law_name"]
theorem sc__law_held : FnScope N__law_held ["_law_shelf", "_law_name"] (defScope s__law_held) := ⟨rfl, rfl, rfl, by decide +kernel, rfl, by decide +kernel, by decide +kernel⟩
abbrev s_law : Stmt := topS 62
abbrev N_law : List Str := ["_law_script", "_law_shelf", "_law_names", "_law_name", "_law_text", "_law_full", "_law_k", "_law_way", "_law_held_here", "_law_due", "_law_turn"]
theorem sc_law : FnScope N_law ["_law_script"] (defScope s_law) := ⟨rfl, rfl, rfl, by decide +kernel, rfl, by decide +kernel, by decide +kernel⟩
set_option maxHeartbeats 0 in
structure Wd (K : PySem.W.Frag) (mg : Str → Option Value) (base : Heap) where
  f_weight : Addr
  d_weight : FuncData
  F_weight : Fun K "weight" "weight" s_weight f_weight d_weight
  b_weight : Binds K d_weight ["signs"] []
  m_weight : mg "weight" = some (.ref f_weight)
  f_cuts : Addr
  d_cuts : FuncData
  F_cuts : Fun K "cuts" "cuts" s_cuts f_cuts d_cuts
  b_cuts : Binds K d_cuts ["text", "width", "reach"] []
  m_cuts : mg "cuts" = some (.ref f_cuts)
  f_pieces : Addr
  d_pieces : FuncData
  F_pieces : Fun K "pieces" "pieces" s_pieces f_pieces d_pieces
  b_pieces : Binds K d_pieces ["text", "width", "reach"] []
  m_pieces : mg "pieces" = some (.ref f_pieces)
  f__weights_by_place : Addr
  d__weights_by_place : FuncData
  F__weights_by_place : Fun K "_weights_by_place" "_weights_by_place" s__weights_by_place f__weights_by_place d__weights_by_place
  b__weights_by_place : Binds K d__weights_by_place ["text", "width"] []
  m__weights_by_place : mg "_weights_by_place" = some (.ref f__weights_by_place)
  f__is_lightest : Addr
  d__is_lightest : FuncData
  F__is_lightest : Fun K "_is_lightest" "_is_lightest" s__is_lightest f__is_lightest d__is_lightest
  b__is_lightest : Binds K d__is_lightest ["weights", "place", "reach"] []
  m__is_lightest : mg "_is_lightest" = some (.ref f__is_lightest)
  f_is_number : Addr
  d_is_number : FuncData
  F_is_number : Fun K "is_number" "is_number" s_is_number f_is_number d_is_number
  b_is_number : Binds K d_is_number ["thing"] []
  m_is_number : mg "is_number" = some (.ref f_is_number)
  f_is_width : Addr
  d_is_width : FuncData
  F_is_width : Fun K "is_width" "is_width" s_is_width f_is_width d_is_width
  b_is_width : Binds K d_is_width ["thing"] []
  m_is_width : mg "is_width" = some (.ref f_is_width)
  f_is_reach : Addr
  d_is_reach : FuncData
  F_is_reach : Fun K "is_reach" "is_reach" s_is_reach f_is_reach d_is_reach
  b_is_reach : Binds K d_is_reach ["thing"] []
  m_is_reach : mg "is_reach" = some (.ref f_is_reach)
  f_is_text : Addr
  d_is_text : FuncData
  F_is_text : Fun K "is_text" "is_text" s_is_text f_is_text d_is_text
  b_is_text : Binds K d_is_text ["thing"] []
  m_is_text : mg "is_text" = some (.ref f_is_text)
  cc_is_text : Addr
  P_is_text : Addr
  hc_is_text : d_is_text.code = .ref cc_is_text
  TB_is_text : GxR.TabB base mg cc_is_text P_is_text
  f_is_name : Addr
  d_is_name : FuncData
  F_is_name : Fun K "is_name" "is_name" s_is_name f_is_name d_is_name
  b_is_name : Binds K d_is_name ["thing"] []
  m_is_name : mg "is_name" = some (.ref f_is_name)
  cc_is_name : Addr
  P_is_name : Addr
  hc_is_name : d_is_name.code = .ref cc_is_name
  TB_is_name : GxR.TabB base mg cc_is_name P_is_name
  f__is_sign : Addr
  d__is_sign : FuncData
  F__is_sign : Fun K "_is_sign" "_is_sign" s__is_sign f__is_sign d__is_sign
  b__is_sign : Binds K d__is_sign ["sign"] []
  m__is_sign : mg "_is_sign" = some (.ref f__is_sign)
  f_Stock___init__ : Addr
  d_Stock___init__ : FuncData
  F_Stock___init__ : Fun K "__init__" "Stock.__init__" s_Stock___init__ f_Stock___init__ d_Stock___init__
  b_Stock___init__ : Binds K d_Stock___init__ ["self"] []
  f_Stock_need : Addr
  d_Stock_need : FuncData
  F_Stock_need : Fun K "need" "Stock.need" s_Stock_need f_Stock_need d_Stock_need
  b_Stock_need : Binds K d_Stock_need ["self", "text"] []
  f_Stock_free : Addr
  d_Stock_free : FuncData
  F_Stock_free : Fun K "free" "Stock.free" s_Stock_free f_Stock_free d_Stock_free
  b_Stock_free : Binds K d_Stock_free ["self", "number"] []
  f_Stock_count : Addr
  d_Stock_count : FuncData
  F_Stock_count : Fun K "count" "Stock.count" s_Stock_count f_Stock_count d_Stock_count
  b_Stock_count : Binds K d_Stock_count ["self", "number"] []
  f_Stock_piece : Addr
  d_Stock_piece : FuncData
  F_Stock_piece : Fun K "piece" "Stock.piece" s_Stock_piece f_Stock_piece d_Stock_piece
  b_Stock_piece : Binds K d_Stock_piece ["self", "number"] []
  f_Stock_numbers : Addr
  d_Stock_numbers : FuncData
  F_Stock_numbers : Fun K "numbers" "Stock.numbers" s_Stock_numbers f_Stock_numbers d_Stock_numbers
  b_Stock_numbers : Binds K d_Stock_numbers ["self"] []
  f_Stock_put : Addr
  d_Stock_put : FuncData
  F_Stock_put : Fun K "put" "Stock.put" s_Stock_put f_Stock_put d_Stock_put
  b_Stock_put : Binds K d_Stock_put ["self", "number", "text", "count"] []
  f_Stock__is_kept : Addr
  d_Stock__is_kept : FuncData
  F_Stock__is_kept : Fun K "_is_kept" "Stock._is_kept" s_Stock__is_kept f_Stock__is_kept d_Stock__is_kept
  b_Stock__is_kept : Binds K d_Stock__is_kept ["self", "number"] []
  f_Stock__check_kept : Addr
  d_Stock__check_kept : FuncData
  F_Stock__check_kept : Fun K "_check_kept" "Stock._check_kept" s_Stock__check_kept f_Stock__check_kept d_Stock__check_kept
  b_Stock__check_kept : Binds K d_Stock__check_kept ["self", "number"] []
  f_Shelf___init__ : Addr
  d_Shelf___init__ : FuncData
  F_Shelf___init__ : Fun K "__init__" "Shelf.__init__" s_Shelf___init__ f_Shelf___init__ d_Shelf___init__
  b_Shelf___init__ : Binds K d_Shelf___init__ ["self", "width", "reach"] []
  f_Shelf_keep : Addr
  d_Shelf_keep : FuncData
  F_Shelf_keep : Fun K "keep" "Shelf.keep" s_Shelf_keep f_Shelf_keep d_Shelf_keep
  b_Shelf_keep : Binds K d_Shelf_keep ["self", "name", "text"] []
  f_Shelf_drop : Addr
  d_Shelf_drop : FuncData
  F_Shelf_drop : Fun K "drop" "Shelf.drop" s_Shelf_drop f_Shelf_drop d_Shelf_drop
  b_Shelf_drop : Binds K d_Shelf_drop ["self", "name", "number"] []
  f_Shelf_change : Addr
  d_Shelf_change : FuncData
  F_Shelf_change : Fun K "change" "Shelf.change" s_Shelf_change f_Shelf_change d_Shelf_change
  b_Shelf_change : Binds K d_Shelf_change ["self", "name", "number", "start", "end", "text"] []
  f_Shelf_text : Addr
  d_Shelf_text : FuncData
  F_Shelf_text : Fun K "text" "Shelf.text" s_Shelf_text f_Shelf_text d_Shelf_text
  b_Shelf_text : Binds K d_Shelf_text ["self", "name", "number"] []
  f_Shelf_row : Addr
  d_Shelf_row : FuncData
  F_Shelf_row : Fun K "row" "Shelf.row" s_Shelf_row f_Shelf_row d_Shelf_row
  b_Shelf_row : Binds K d_Shelf_row ["self", "name", "number"] []
  f_Shelf_versions : Addr
  d_Shelf_versions : FuncData
  F_Shelf_versions : Fun K "versions" "Shelf.versions" s_Shelf_versions f_Shelf_versions d_Shelf_versions
  b_Shelf_versions : Binds K d_Shelf_versions ["self", "name"] []
  f_Shelf_names : Addr
  d_Shelf_names : FuncData
  F_Shelf_names : Fun K "names" "Shelf.names" s_Shelf_names f_Shelf_names d_Shelf_names
  b_Shelf_names : Binds K d_Shelf_names ["self"] []
  f_Shelf_pieces : Addr
  d_Shelf_pieces : FuncData
  F_Shelf_pieces : Fun K "pieces" "Shelf.pieces" s_Shelf_pieces f_Shelf_pieces d_Shelf_pieces
  b_Shelf_pieces : Binds K d_Shelf_pieces ["self"] []
  f_Shelf_altered : Addr
  d_Shelf_altered : FuncData
  F_Shelf_altered : Fun K "altered" "Shelf.altered" s_Shelf_altered f_Shelf_altered d_Shelf_altered
  b_Shelf_altered : Binds K d_Shelf_altered ["self", "name", "one", "other"] []
  f_Shelf_sizes : Addr
  d_Shelf_sizes : FuncData
  F_Shelf_sizes : Fun K "sizes" "Shelf.sizes" s_Shelf_sizes f_Shelf_sizes d_Shelf_sizes
  b_Shelf_sizes : Binds K d_Shelf_sizes ["self"] []
  f_Shelf_greatest_piece : Addr
  d_Shelf_greatest_piece : FuncData
  F_Shelf_greatest_piece : Fun K "greatest_piece" "Shelf.greatest_piece" s_Shelf_greatest_piece f_Shelf_greatest_piece d_Shelf_greatest_piece
  b_Shelf_greatest_piece : Binds K d_Shelf_greatest_piece ["self"] []
  f_Shelf_works : Addr
  d_Shelf_works : FuncData
  F_Shelf_works : Fun K "works" "Shelf.works" s_Shelf_works f_Shelf_works d_Shelf_works
  b_Shelf_works : Binds K d_Shelf_works ["self"] []
  f_Shelf__put : Addr
  d_Shelf__put : FuncData
  F_Shelf__put : Fun K "_put" "Shelf._put" s_Shelf__put f_Shelf__put d_Shelf__put
  b_Shelf__put : Binds K d_Shelf__put ["self", "name", "text"] []
  f_Shelf__needed_row : Addr
  d_Shelf__needed_row : FuncData
  F_Shelf__needed_row : Fun K "_needed_row" "Shelf._needed_row" s_Shelf__needed_row f_Shelf__needed_row d_Shelf__needed_row
  b_Shelf__needed_row : Binds K d_Shelf__needed_row ["self", "text"] []
  f_Shelf__check_room : Addr
  d_Shelf__check_room : FuncData
  F_Shelf__check_room : Fun K "_check_room" "Shelf._check_room" s_Shelf__check_room f_Shelf__check_room d_Shelf__check_room
  b_Shelf__check_room : Binds K d_Shelf__check_room ["self", "text"] []
  f__check_name : Addr
  d__check_name : FuncData
  F__check_name : Fun K "_check_name" "_check_name" s__check_name f__check_name d__check_name
  b__check_name : Binds K d__check_name ["name"] []
  m__check_name : mg "_check_name" = some (.ref f__check_name)
  f__check_places : Addr
  d__check_places : FuncData
  F__check_places : Fun K "_check_places" "_check_places" s__check_places f__check_places d__check_places
  b__check_places : Binds K d__check_places ["start", "end", "signs"] []
  m__check_places : mg "_check_places" = some (.ref f__check_places)
  f__check_text : Addr
  d__check_text : FuncData
  F__check_text : Fun K "_check_text" "_check_text" s__check_text f__check_text d__check_text
  b__check_text : Binds K d__check_text ["text"] []
  m__check_text : mg "_check_text" = some (.ref f__check_text)
  f_written : Addr
  d_written : FuncData
  F_written : Fun K "written" "written" s_written f_written d_written
  b_written : Binds K d_written ["shelf"] []
  m_written : mg "written" = some (.ref f_written)
  f__escaped : Addr
  d__escaped : FuncData
  F__escaped : Fun K "_escaped" "_escaped" s__escaped f__escaped d__escaped
  b__escaped : Binds K d__escaped ["text"] []
  m__escaped : mg "_escaped" = some (.ref f__escaped)
  f__law_cell_at : Addr
  d__law_cell_at : FuncData
  F__law_cell_at : Fun K "_law_cell_at" "_law_cell_at" s__law_cell_at f__law_cell_at d__law_cell_at
  b__law_cell_at : Binds K d__law_cell_at ["_law_script", "_law_k"] []
  m__law_cell_at : mg "_law_cell_at" = some (.ref f__law_cell_at)
  f__law_whole : Addr
  d__law_whole : FuncData
  F__law_whole : Fun K "_law_whole" "_law_whole" s__law_whole f__law_whole d__law_whole
  b__law_whole : Binds K d__law_whole ["_law_got"] []
  m__law_whole : mg "_law_whole" = some (.ref f__law_whole)
  f__law_sign_by : Addr
  d__law_sign_by : FuncData
  F__law_sign_by : Fun K "_law_sign_by" "_law_sign_by" s__law_sign_by f__law_sign_by d__law_sign_by
  b__law_sign_by : Binds K d__law_sign_by ["_law_cell"] []
  m__law_sign_by : mg "_law_sign_by" = some (.ref f__law_sign_by)
  f__law_text_by : Addr
  d__law_text_by : FuncData
  F__law_text_by : Fun K "_law_text_by" "_law_text_by" s__law_text_by f__law_text_by d__law_text_by
  b__law_text_by : Binds K d__law_text_by ["_law_cell", "_law_size"] []
  m__law_text_by : mg "_law_text_by" = some (.ref f__law_text_by)
  f__law_alike : Addr
  d__law_alike : FuncData
  F__law_alike : Fun K "_law_alike" "_law_alike" s__law_alike f__law_alike d__law_alike
  b__law_alike : Binds K d__law_alike ["_law_got", "_law_due"] []
  m__law_alike : mg "_law_alike" = some (.ref f__law_alike)
  f__law_width_by : Addr
  d__law_width_by : FuncData
  F__law_width_by : Fun K "_law_width_by" "_law_width_by" s__law_width_by f__law_width_by d__law_width_by
  b__law_width_by : Binds K d__law_width_by ["_law_cell"] []
  m__law_width_by : mg "_law_width_by" = some (.ref f__law_width_by)
  f__law_reach_by : Addr
  d__law_reach_by : FuncData
  F__law_reach_by : Fun K "_law_reach_by" "_law_reach_by" s__law_reach_by f__law_reach_by d__law_reach_by
  b__law_reach_by : Binds K d__law_reach_by ["_law_cell"] []
  m__law_reach_by : mg "_law_reach_by" = some (.ref f__law_reach_by)
  f__law_names_by : Addr
  d__law_names_by : FuncData
  F__law_names_by : Fun K "_law_names_by" "_law_names_by" s__law_names_by f__law_names_by d__law_names_by
  b__law_names_by : Binds K d__law_names_by ["_law_cell"] []
  m__law_names_by : mg "_law_names_by" = some (.ref f__law_names_by)
  f__law_word_of : Addr
  d__law_word_of : FuncData
  F__law_word_of : Fun K "_law_word_of" "_law_word_of" s__law_word_of f__law_word_of d__law_word_of
  b__law_word_of : Binds K d__law_word_of ["_law_e"] []
  m__law_word_of : mg "_law_word_of" = some (.ref f__law_word_of)
  f__law_call : Addr
  d__law_call : FuncData
  F__law_call : Fun K "_law_call" "_law_call" s__law_call f__law_call d__law_call
  b__law_call : Binds K d__law_call ["_law_shelf", "_law_way", "_law_name", "_law_size"] []
  m__law_call : mg "_law_call" = some (.ref f__law_call)
  f__law_last_call : Addr
  d__law_last_call : FuncData
  F__law_last_call : Fun K "_law_last_call" "_law_last_call" s__law_last_call f__law_last_call d__law_last_call
  b__law_last_call : Binds K d__law_last_call ["_law_shelf", "_law_way", "_law_name", "_law_size"] []
  m__law_last_call : mg "_law_last_call" = some (.ref f__law_last_call)
  f__law_far_call : Addr
  d__law_far_call : FuncData
  F__law_far_call : Fun K "_law_far_call" "_law_far_call" s__law_far_call f__law_far_call d__law_far_call
  b__law_far_call : Binds K d__law_far_call ["_law_shelf", "_law_way", "_law_name", "_law_size"] []
  m__law_far_call : mg "_law_far_call" = some (.ref f__law_far_call)
  f__law_word : Addr
  d__law_word : FuncData
  F__law_word : Fun K "_law_word" "_law_word" s__law_word f__law_word d__law_word
  b__law_word : Binds K d__law_word ["_law_way"] []
  m__law_word : mg "_law_word" = some (.ref f__law_word)
  f__law_answer : Addr
  d__law_answer : FuncData
  F__law_answer : Fun K "_law_answer" "_law_answer" s__law_answer f__law_answer d__law_answer
  b__law_answer : Binds K d__law_answer ["_law_shelf", "_law_way", "_law_name", "_law_size"] []
  m__law_answer : mg "_law_answer" = some (.ref f__law_answer)
  f__law_many : Addr
  d__law_many : FuncData
  F__law_many : Fun K "_law_many" "_law_many" s__law_many f__law_many d__law_many
  b__law_many : Binds K d__law_many ["_law_shelf", "_law_name", "_law_due"] []
  m__law_many : mg "_law_many" = some (.ref f__law_many)
  f__law_held : Addr
  d__law_held : FuncData
  F__law_held : Fun K "_law_held" "_law_held" s__law_held f__law_held d__law_held
  b__law_held : Binds K d__law_held ["_law_shelf", "_law_name"] []
  m__law_held : mg "_law_held" = some (.ref f__law_held)
  f_law : Addr
  d_law : FuncData
  F_law : Fun K "law" "law" s_law f_law d_law
  b_law : Binds K d_law ["_law_script"] []
  m_law : mg "law" = some (.ref f_law)
  a_pieces_cutting : mg "pieces_cutting" = some (.ref f_pieces)
  c_Stock : Addr
  T_Stock : Cls K c_Stock
  g_Stock : mg "Stock" = some (.ref c_Stock)
  k_Stock : Mk K c_Stock f_Stock___init__
  n_Stock_greatest : NoAttr K c_Stock "greatest"
  n_Stock__texts : NoAttr K c_Stock "_texts"
  n_Stock__counts : NoAttr K c_Stock "_counts"
  n_Stock__numbers : NoAttr K c_Stock "_numbers"
  q_Stock_need : Meth K c_Stock "need" f_Stock_need
  q_Stock_free : Meth K c_Stock "free" f_Stock_free
  q_Stock_count : Meth K c_Stock "count" f_Stock_count
  q_Stock_piece : Meth K c_Stock "piece" f_Stock_piece
  q_Stock_numbers : Meth K c_Stock "numbers" f_Stock_numbers
  q_Stock_put : Meth K c_Stock "put" f_Stock_put
  q_Stock__is_kept : Meth K c_Stock "_is_kept" f_Stock__is_kept
  q_Stock__check_kept : Meth K c_Stock "_check_kept" f_Stock__check_kept
  c_Shelf : Addr
  T_Shelf : Cls K c_Shelf
  g_Shelf : mg "Shelf" = some (.ref c_Shelf)
  k_Shelf : Mk K c_Shelf f_Shelf___init__
  n_Shelf__width : NoAttr K c_Shelf "_width"
  n_Shelf__reach : NoAttr K c_Shelf "_reach"
  n_Shelf__stock : NoAttr K c_Shelf "_stock"
  n_Shelf__works : NoAttr K c_Shelf "_works"
  n_Shelf__rows : NoAttr K c_Shelf "_rows"
  q_Shelf_keep : Meth K c_Shelf "keep" f_Shelf_keep
  q_Shelf_drop : Meth K c_Shelf "drop" f_Shelf_drop
  q_Shelf_change : Meth K c_Shelf "change" f_Shelf_change
  q_Shelf_text : Meth K c_Shelf "text" f_Shelf_text
  q_Shelf_row : Meth K c_Shelf "row" f_Shelf_row
  q_Shelf_versions : Meth K c_Shelf "versions" f_Shelf_versions
  q_Shelf_names : Meth K c_Shelf "names" f_Shelf_names
  q_Shelf_pieces : Meth K c_Shelf "pieces" f_Shelf_pieces
  q_Shelf_altered : Meth K c_Shelf "altered" f_Shelf_altered
  q_Shelf_sizes : Meth K c_Shelf "sizes" f_Shelf_sizes
  q_Shelf_greatest_piece : Meth K c_Shelf "greatest_piece" f_Shelf_greatest_piece
  q_Shelf_works : Meth K c_Shelf "works" f_Shelf_works
  q_Shelf__put : Meth K c_Shelf "_put" f_Shelf__put
  q_Shelf__needed_row : Meth K c_Shelf "_needed_row" f_Shelf__needed_row
  q_Shelf__check_room : Meth K c_Shelf "_check_room" f_Shelf__check_room
  e_ShelfError : Addr
  E_ShelfError : ErrC K mg "ShelfError" e_ShelfError
  e_NoSize : Addr
  E_NoSize : ErrC K mg "NoSize" e_NoSize
  e_NoName : Addr
  E_NoName : ErrC K mg "NoName" e_NoName
  e_NotThere : Addr
  E_NotThere : ErrC K mg "NotThere" e_NotThere
  e_NoPlace : Addr
  E_NoPlace : ErrC K mg "NoPlace" e_NoPlace
  e_NoText : Addr
  E_NoText : ErrC K mg "NoText" e_NoText
  e_TooLong : Addr
  E_TooLong : ErrC K mg "TooLong" e_TooLong
  e_TooMany : Addr
  E_TooMany : ErrC K mg "TooMany" e_TooMany
  e_NoNote : Addr
  E_NoNote : ErrC K mg "NoNote" e_NoNote
  x_NoSize : ExcC K e_NoSize
  v_NoSize : PySem.W.kitOne K (.ref e_NoSize) (.type "ValueError") = some true
  x_NoName : ExcC K e_NoName
  v_NoName : PySem.W.kitOne K (.ref e_NoName) (.type "ValueError") = some true
  x_NotThere : ExcC K e_NotThere
  v_NotThere : PySem.W.kitOne K (.ref e_NotThere) (.type "ValueError") = some true
  x_NoPlace : ExcC K e_NoPlace
  v_NoPlace : PySem.W.kitOne K (.ref e_NoPlace) (.type "ValueError") = some true
  x_NoText : ExcC K e_NoText
  v_NoText : PySem.W.kitOne K (.ref e_NoText) (.type "ValueError") = some true
  x_TooLong : ExcC K e_TooLong
  v_TooLong : PySem.W.kitOne K (.ref e_TooLong) (.type "ValueError") = some true
  x_TooMany : ExcC K e_TooMany
  v_TooMany : PySem.W.kitOne K (.ref e_TooMany) (.type "ValueError") = some true
  s_NoSize_NoSize : PySem.W.subIn K (.ref e_NoSize) (.ref e_NoSize) = some true
  s_NoSize_NoName : PySem.W.subIn K (.ref e_NoSize) (.ref e_NoName) = some false
  u_NoSize_NoName : e_NoSize ≠ e_NoName
  s_NoSize_NotThere : PySem.W.subIn K (.ref e_NoSize) (.ref e_NotThere) = some false
  u_NoSize_NotThere : e_NoSize ≠ e_NotThere
  s_NoSize_NoPlace : PySem.W.subIn K (.ref e_NoSize) (.ref e_NoPlace) = some false
  u_NoSize_NoPlace : e_NoSize ≠ e_NoPlace
  s_NoSize_NoText : PySem.W.subIn K (.ref e_NoSize) (.ref e_NoText) = some false
  u_NoSize_NoText : e_NoSize ≠ e_NoText
  s_NoSize_TooLong : PySem.W.subIn K (.ref e_NoSize) (.ref e_TooLong) = some false
  u_NoSize_TooLong : e_NoSize ≠ e_TooLong
  s_NoSize_TooMany : PySem.W.subIn K (.ref e_NoSize) (.ref e_TooMany) = some false
  u_NoSize_TooMany : e_NoSize ≠ e_TooMany
  s_NoSize_NoNote : PySem.W.subIn K (.ref e_NoSize) (.ref e_NoNote) = some false
  u_NoSize_NoNote : e_NoSize ≠ e_NoNote
  s_NoSize_ShelfError : PySem.W.subIn K (.ref e_NoSize) (.ref e_ShelfError) = some true
  s_NoName_NoSize : PySem.W.subIn K (.ref e_NoName) (.ref e_NoSize) = some false
  u_NoName_NoSize : e_NoName ≠ e_NoSize
  s_NoName_NoName : PySem.W.subIn K (.ref e_NoName) (.ref e_NoName) = some true
  s_NoName_NotThere : PySem.W.subIn K (.ref e_NoName) (.ref e_NotThere) = some false
  u_NoName_NotThere : e_NoName ≠ e_NotThere
  s_NoName_NoPlace : PySem.W.subIn K (.ref e_NoName) (.ref e_NoPlace) = some false
  u_NoName_NoPlace : e_NoName ≠ e_NoPlace
  s_NoName_NoText : PySem.W.subIn K (.ref e_NoName) (.ref e_NoText) = some false
  u_NoName_NoText : e_NoName ≠ e_NoText
  s_NoName_TooLong : PySem.W.subIn K (.ref e_NoName) (.ref e_TooLong) = some false
  u_NoName_TooLong : e_NoName ≠ e_TooLong
  s_NoName_TooMany : PySem.W.subIn K (.ref e_NoName) (.ref e_TooMany) = some false
  u_NoName_TooMany : e_NoName ≠ e_TooMany
  s_NoName_NoNote : PySem.W.subIn K (.ref e_NoName) (.ref e_NoNote) = some false
  u_NoName_NoNote : e_NoName ≠ e_NoNote
  s_NoName_ShelfError : PySem.W.subIn K (.ref e_NoName) (.ref e_ShelfError) = some true
  s_NotThere_NoSize : PySem.W.subIn K (.ref e_NotThere) (.ref e_NoSize) = some false
  u_NotThere_NoSize : e_NotThere ≠ e_NoSize
  s_NotThere_NoName : PySem.W.subIn K (.ref e_NotThere) (.ref e_NoName) = some false
  u_NotThere_NoName : e_NotThere ≠ e_NoName
  s_NotThere_NotThere : PySem.W.subIn K (.ref e_NotThere) (.ref e_NotThere) = some true
  s_NotThere_NoPlace : PySem.W.subIn K (.ref e_NotThere) (.ref e_NoPlace) = some false
  u_NotThere_NoPlace : e_NotThere ≠ e_NoPlace
  s_NotThere_NoText : PySem.W.subIn K (.ref e_NotThere) (.ref e_NoText) = some false
  u_NotThere_NoText : e_NotThere ≠ e_NoText
  s_NotThere_TooLong : PySem.W.subIn K (.ref e_NotThere) (.ref e_TooLong) = some false
  u_NotThere_TooLong : e_NotThere ≠ e_TooLong
  s_NotThere_TooMany : PySem.W.subIn K (.ref e_NotThere) (.ref e_TooMany) = some false
  u_NotThere_TooMany : e_NotThere ≠ e_TooMany
  s_NotThere_NoNote : PySem.W.subIn K (.ref e_NotThere) (.ref e_NoNote) = some false
  u_NotThere_NoNote : e_NotThere ≠ e_NoNote
  s_NotThere_ShelfError : PySem.W.subIn K (.ref e_NotThere) (.ref e_ShelfError) = some true
  s_NoPlace_NoSize : PySem.W.subIn K (.ref e_NoPlace) (.ref e_NoSize) = some false
  u_NoPlace_NoSize : e_NoPlace ≠ e_NoSize
  s_NoPlace_NoName : PySem.W.subIn K (.ref e_NoPlace) (.ref e_NoName) = some false
  u_NoPlace_NoName : e_NoPlace ≠ e_NoName
  s_NoPlace_NotThere : PySem.W.subIn K (.ref e_NoPlace) (.ref e_NotThere) = some false
  u_NoPlace_NotThere : e_NoPlace ≠ e_NotThere
  s_NoPlace_NoPlace : PySem.W.subIn K (.ref e_NoPlace) (.ref e_NoPlace) = some true
  s_NoPlace_NoText : PySem.W.subIn K (.ref e_NoPlace) (.ref e_NoText) = some false
  u_NoPlace_NoText : e_NoPlace ≠ e_NoText
  s_NoPlace_TooLong : PySem.W.subIn K (.ref e_NoPlace) (.ref e_TooLong) = some false
  u_NoPlace_TooLong : e_NoPlace ≠ e_TooLong
  s_NoPlace_TooMany : PySem.W.subIn K (.ref e_NoPlace) (.ref e_TooMany) = some false
  u_NoPlace_TooMany : e_NoPlace ≠ e_TooMany
  s_NoPlace_NoNote : PySem.W.subIn K (.ref e_NoPlace) (.ref e_NoNote) = some false
  u_NoPlace_NoNote : e_NoPlace ≠ e_NoNote
  s_NoPlace_ShelfError : PySem.W.subIn K (.ref e_NoPlace) (.ref e_ShelfError) = some true
  s_NoText_NoSize : PySem.W.subIn K (.ref e_NoText) (.ref e_NoSize) = some false
  u_NoText_NoSize : e_NoText ≠ e_NoSize
  s_NoText_NoName : PySem.W.subIn K (.ref e_NoText) (.ref e_NoName) = some false
  u_NoText_NoName : e_NoText ≠ e_NoName
  s_NoText_NotThere : PySem.W.subIn K (.ref e_NoText) (.ref e_NotThere) = some false
  u_NoText_NotThere : e_NoText ≠ e_NotThere
  s_NoText_NoPlace : PySem.W.subIn K (.ref e_NoText) (.ref e_NoPlace) = some false
  u_NoText_NoPlace : e_NoText ≠ e_NoPlace
  s_NoText_NoText : PySem.W.subIn K (.ref e_NoText) (.ref e_NoText) = some true
  s_NoText_TooLong : PySem.W.subIn K (.ref e_NoText) (.ref e_TooLong) = some false
  u_NoText_TooLong : e_NoText ≠ e_TooLong
  s_NoText_TooMany : PySem.W.subIn K (.ref e_NoText) (.ref e_TooMany) = some false
  u_NoText_TooMany : e_NoText ≠ e_TooMany
  s_NoText_NoNote : PySem.W.subIn K (.ref e_NoText) (.ref e_NoNote) = some false
  u_NoText_NoNote : e_NoText ≠ e_NoNote
  s_NoText_ShelfError : PySem.W.subIn K (.ref e_NoText) (.ref e_ShelfError) = some true
  s_TooLong_NoSize : PySem.W.subIn K (.ref e_TooLong) (.ref e_NoSize) = some false
  u_TooLong_NoSize : e_TooLong ≠ e_NoSize
  s_TooLong_NoName : PySem.W.subIn K (.ref e_TooLong) (.ref e_NoName) = some false
  u_TooLong_NoName : e_TooLong ≠ e_NoName
  s_TooLong_NotThere : PySem.W.subIn K (.ref e_TooLong) (.ref e_NotThere) = some false
  u_TooLong_NotThere : e_TooLong ≠ e_NotThere
  s_TooLong_NoPlace : PySem.W.subIn K (.ref e_TooLong) (.ref e_NoPlace) = some false
  u_TooLong_NoPlace : e_TooLong ≠ e_NoPlace
  s_TooLong_NoText : PySem.W.subIn K (.ref e_TooLong) (.ref e_NoText) = some false
  u_TooLong_NoText : e_TooLong ≠ e_NoText
  s_TooLong_TooLong : PySem.W.subIn K (.ref e_TooLong) (.ref e_TooLong) = some true
  s_TooLong_TooMany : PySem.W.subIn K (.ref e_TooLong) (.ref e_TooMany) = some false
  u_TooLong_TooMany : e_TooLong ≠ e_TooMany
  s_TooLong_NoNote : PySem.W.subIn K (.ref e_TooLong) (.ref e_NoNote) = some false
  u_TooLong_NoNote : e_TooLong ≠ e_NoNote
  s_TooLong_ShelfError : PySem.W.subIn K (.ref e_TooLong) (.ref e_ShelfError) = some true
  s_TooMany_NoSize : PySem.W.subIn K (.ref e_TooMany) (.ref e_NoSize) = some false
  u_TooMany_NoSize : e_TooMany ≠ e_NoSize
  s_TooMany_NoName : PySem.W.subIn K (.ref e_TooMany) (.ref e_NoName) = some false
  u_TooMany_NoName : e_TooMany ≠ e_NoName
  s_TooMany_NotThere : PySem.W.subIn K (.ref e_TooMany) (.ref e_NotThere) = some false
  u_TooMany_NotThere : e_TooMany ≠ e_NotThere
  s_TooMany_NoPlace : PySem.W.subIn K (.ref e_TooMany) (.ref e_NoPlace) = some false
  u_TooMany_NoPlace : e_TooMany ≠ e_NoPlace
  s_TooMany_NoText : PySem.W.subIn K (.ref e_TooMany) (.ref e_NoText) = some false
  u_TooMany_NoText : e_TooMany ≠ e_NoText
  s_TooMany_TooLong : PySem.W.subIn K (.ref e_TooMany) (.ref e_TooLong) = some false
  u_TooMany_TooLong : e_TooMany ≠ e_TooLong
  s_TooMany_TooMany : PySem.W.subIn K (.ref e_TooMany) (.ref e_TooMany) = some true
  s_TooMany_NoNote : PySem.W.subIn K (.ref e_TooMany) (.ref e_NoNote) = some false
  u_TooMany_NoNote : e_TooMany ≠ e_NoNote
  s_TooMany_ShelfError : PySem.W.subIn K (.ref e_TooMany) (.ref e_ShelfError) = some true
  t_WEIGHT_START : Tok
  m_WEIGHT_START : mg "WEIGHT_START" = some (.int 7 t_WEIGHT_START)
  t_WEIGHT_FACTOR : Tok
  m_WEIGHT_FACTOR : mg "WEIGHT_FACTOR" = some (.int 131 t_WEIGHT_FACTOR)
  t_WEIGHT_DIVISOR : Tok
  m_WEIGHT_DIVISOR : mg "WEIGHT_DIVISOR" = some (.int 65521 t_WEIGHT_DIVISOR)
  t_MOST_LETTERS : Tok
  m_MOST_LETTERS : mg "MOST_LETTERS" = some (.int 12 t_MOST_LETTERS)
  t_MOST_WIDTH : Tok
  m_MOST_WIDTH : mg "MOST_WIDTH" = some (.int 8 t_MOST_WIDTH)
  t_MOST_REACH : Tok
  m_MOST_REACH : mg "MOST_REACH" = some (.int 40 t_MOST_REACH)
  t_PERCENT : Tok
  m_PERCENT : mg "PERCENT" = some (.int 37 t_PERCENT)
  t_MOST_SIGNS : Tok
  m_MOST_SIGNS : mg "MOST_SIGNS" = some (.int 3000 t_MOST_SIGNS)
  t_MOST_VERSIONS : Tok
  m_MOST_VERSIONS : mg "MOST_VERSIONS" = some (.int 100 t_MOST_VERSIONS)
  z_all : mg "all" = none
  z_bool : mg "bool" = none
  z_int : mg "int" = none
  z_isinstance : mg "isinstance" = none
  z_len : mg "len" = none
  z_list : mg "list" = none
  z_max : mg "max" = none
  z_min : mg "min" = none
  z_ord : mg "ord" = none
  z_range : mg "range" = none
  z_set : mg "set" = none
  z_sorted : mg "sorted" = none
  z_str : mg "str" = none
  z_sum : mg "sum" = none
  z_tuple : mg "tuple" = none
  z_zip : mg "zip" = none
  z_ValueError : mg "ValueError" = none
end My
--CUT
namespace My
open PySem L2 Y
local macro_rules | `(tactic| walk_at "ev") => `(tactic| try simp only [L2.start, List.map_cons, List.map_nil, List.length_cons, List.length_nil, Nat.reduceAdd, Nat.reduceSub, List.replicate_succ, List.replicate_zero, List.cons_append, List.nil_append, List.append_nil,
  tVar_ap, look_some, List.getElem?_cons_zero, List.getElem?_cons_succ, List.set_cons_zero, List.set_cons_succ, tC_ap, tSeq_ap, tNext_ap, tAsg_ap, gName_ap, tRet_ap, tRetN_ap, tDrop_ap, tBreak_ap, tCont_ap, tYes_ap, tLc1_ap, tLc2_ap, tLcL_ap, tLcZ_ap, tForZ_ap, tDc2_ap, tDGet_ap, tBM_ap, tM1_ap, emp_st, rIs_1, rIs_2, rIs_3, rIs_4, rIs_5, rIs_6, rIs_7, rIs_8, rIs_9, rIs_10, rIsN_1, rIsN_2, rIsN_3, rIsN_4, rIsN_5, tOp_ap, tUn_ap, tNil_ap, tCons_ap, tCB_ap, tCall_ap, tLst_ap, tTup_ap, tSl_ap, tNoPart_ap, tPart_ap,
  asInt_int, asBl_bl, isi_int_int, isi_int_bool, isi_bl_int, isi_bl_bool, isi_str_str, isi_str_int, isi_int_str, asStr_str, asRef_ref, br_t, br_f, brS_t, brS_f, tIfS_ap, brE_t, brE_f, tIf_ap, tAndV_ap, tOrV_ap, tChain_ap, tCh3_ap, sDDelT_ap, tDPopT_ap, tAllT_ap, tFs_ap, tJs_nil, tJs_cons, tFmt_ap, fmt_str, fmt_int, rLenT_ap, rTupC_ap, tLcT_ap, tScK_ap, tRevL_ap, tStar_ap, tReplC_ap, Y.rNeg, Y.rMax, rStrI_ap, tNotV_ap, brT_t, brT_f, tK_ap, tAnd_ap, tOr_ap, tNot_ap, tB_ap, tTest_ap, tFor1_ap, tFor2_ap, tForS_ap, tForL_ap, rng1_ap, rng2_ap,
  tJoin_ap, rListC_ap, tCallS_ap, tMethE_ap, tMakeE_ap, tCallE_ap, tFldE_ap, sFldE_ap, sFldAugE_ap, sDPut_ap, sDAug_ap, sDDel_ap, tDNewK_ap, tDNewT_ap, tDIn_ap, tDNotIn_ap, tDGet2_ap, tDPop1_ap, tLockE_ap, tLock_ap, tDisp_ap, tPairs_nil, tPairs_cons, riAdd_ap, riSub_ap, tLcK_ap, tForK_ap, rInt1_i, rInt1_b, Y.rAdd, Y.rSub, Y.rMul, Y.rMod, Y.rDiv, Y.rPow, Y.rCmp, Y.rEqS, Y.rNeS, Y.rInA, Y.rNotInA, Y.rIxA, Y.rSlA, Y.rLen, Y.rOrd, Y.rMin, codes_st, len_st, one_st, mk_st, Bool.not_true, Bool.not_false, cxOf_K, line_eq, Nat.reduceLeDiff, Nat.reduceLT, Int.reduceLT, Int.reduceLE, Int.reduceNeg, Int.reducePow, CDiv, CMul, CPow, Int.reduceAbs, Int.reduceToNat, Nat.reducePow, true_and, and_true, or_true, true_or, decide_eq_true_eq, decide_true, decide_false, Option.map_some, Option.map_none, Option.isSome_some, Option.isSome_none, Option.getD_some, Option.getD_none])
/-! ### the law's own readers -/
def alpha : List Nat := ((" !\"#$&'()*+,-./0123456789:;<=>?@ABCDEFGHIJKLMNOPQRSTUVWXYZ[\\]^_`" : Str)).cps.toList ++ (("abcdefghijklmnopqrstuvwxyz{|}~\n" : Str)).cps.toList
theorem alpha_len : alpha.length = 95 := by decide +kernel
def sgn (i : Int) : Nat := alpha.getD (i % 95).toNat 0
theorem sgn_at (i : Int) : atI alpha (i % 95) = some (sgn i) := by
  have h0 : 0 ≤ i % 95 := Int.emod_nonneg _ (by omega)
  have h1 : i % 95 < 95 := Int.emod_lt_of_pos _ (by omega)
  have e : i % 95 = (((i % 95).toNat : Nat) : Int) := (Int.toNat_of_nonneg h0).symm
  have hl : (i % 95).toNat < alpha.length := by rw [alpha_len]; omega
  have : alpha[(i % 95).toNat]? = some (sgn i) := by
    unfold sgn
    rw [List.getD_eq_getElem?_getD, List.getElem?_eq_getElem hl]
    rfl
  rw [e]
  exact atI_nat this
theorem sgn_mem (i : Int) : sgn i ∈ alpha := by
  have h0 : 0 ≤ i % 95 := Int.emod_nonneg _ (by omega)
  have h1 : i % 95 < 95 := Int.emod_lt_of_pos _ (by omega)
  have hl : (i % 95).toNat < alpha.length := by rw [alpha_len]; omega
  unfold sgn
  rw [List.getD_eq_getElem?_getD, List.getElem?_eq_getElem hl]
  exact List.getElem_mem hl
def sgs (c : Int) : Int := if c % 4 = 0 then 2 else if c % 4 = 3 then 1 else 95
theorem sgs_at (c : Int) : atI [V.int 2, V.int 95, V.int 95, V.int 1] (c % 4) = some (V.int (sgs c)) := by
  have h0 : 0 ≤ c % 4 := Int.emod_nonneg _ (by omega)
  have h1 : c % 4 < 4 := Int.emod_lt_of_pos _ (by omega)
  have : c % 4 = 0 ∨ c % 4 = 1 ∨ c % 4 = 2 ∨ c % 4 = 3 := by omega
  rcases this with e | e | e | e <;> (unfold sgs; rw [e]; rfl)
theorem sgs_pos (c : Int) : 0 < sgs c := by
  unfold sgs
  split
  · omega
  · split <;> omega
def nxt (x : Int) : Int := (x * 48271 + 11) % 2147483647
def numS (c : Int) : Nat → Int
  | 0 => c
  | k + 1 => nxt (numS c k)
def blk (c : Int) (b : Nat) : List Nat := (List.range b).map fun k => sgn (65 + numS c (k + 1) / 7 % sgs c)
theorem blk_succ (c : Int) (b : Nat) : blk c (b + 1) = blk c b ++ [sgn (65 + numS c (b + 1) / 7 % sgs c)] := by
  unfold blk
  rw [List.range_succ, List.map_append]
  rfl
theorem blk_len (c : Int) (b : Nat) : (blk c b).length = b := by simp [blk]
def blkN (c : Int) (n : Nat) : Nat := if c % 4 = 2 then min n (1 + (c / 4 % 50).toNat) else n
def textBy (c : Int) (n : Nat) : List Nat := (repS (blk c (blkN c n)) (n / blkN c n + 1)).take n
theorem repS_len (z : List Nat) (k : Nat) : (repS z k).length = k * z.length := by
  unfold repS
  rw [List.length_flatten, List.map_replicate, List.sum_replicate_nat]
theorem blkN_pos {c : Int} {n : Nat} (h : 0 < n) : 0 < blkN c n := by
  unfold blkN
  split
  · exact Nat.lt_min.mpr ⟨h, by omega⟩
  · exact h
theorem blkN_le (c : Int) (n : Nat) : blkN c n ≤ n := by
  unfold blkN
  split
  · exact Nat.min_le_left _ _
  · exact Nat.le_refl _
theorem textBy_len (c : Int) (n : Nat) : (textBy c n).length = n := by
  unfold textBy
  rw [List.length_take, repS_len, blk_len]
  by_cases h : n = 0
  · subst h
    simp
  · have hb := blkN_pos (c := c) (Nat.pos_of_ne_zero h)
    have := Nat.div_add_mod n (blkN c n)
    have hm := Nat.mod_lt n hb
    have : n < (n / blkN c n + 1) * blkN c n := by
      rw [Nat.add_mul, Nat.mul_comm (n / blkN c n)]
      omega
    omega
theorem mem_repS {z : List Nat} {k x : Nat} (h : x ∈ repS z k) : x ∈ z := by
  unfold repS at h
  obtain ⟨l, h1, h2⟩ := List.mem_flatten.mp h
  rw [(List.mem_replicate.mp h1).2] at h2
  exact h2
theorem textBy_mem {c : Int} {n x : Nat} (h : x ∈ textBy c n) : x ∈ alpha := by
  have h1 := mem_repS (List.mem_of_mem_take h)
  unfold blk at h1
  obtain ⟨k, _, e⟩ := List.mem_map.mp h1
  subst e
  exact sgn_mem _
theorem cut_take {z : List Nat} {n : Nat} (h : n ≤ z.length) : cutS (st z) none (some (n : Int)) = st (z.take n) := by
  unfold cutS
  rw [codes_st, HT.sIx_none, HT.sIx_nat, len_st, Nat.min_eq_left h]
  rfl
def sizeBy (c : Int) : Nat := if c % 8 = 7 then (c / 8 % 300).toNat else (c / 8 % 60).toNat
theorem sizeBy_le (c : Int) : sizeBy c ≤ 299 := by
  unfold sizeBy
  split <;> omega
def reachBy (c : Int) : Nat := if c % 9 = 8 then 1 + (c / 9 % 40).toNat else 1 + (c / 9 % 5).toNat
theorem reachBy_le (c : Int) : 1 ≤ reachBy c ∧ reachBy c ≤ 40 := by
  unfold reachBy
  split <;> omega
def widthBy (c : Int) : Nat := 1 + (c % 8).toNat
theorem widthBy_le (c : Int) : 1 ≤ widthBy c ∧ widthBy c ≤ 8 := by
  unfold widthBy
  omega
theorem widthBy_eq (c : Int) : 1 + c % 8 = ((widthBy c : Nat) : Int) := by
  unfold widthBy
  omega
/-! ### where a text is cut -/
def wt (l : List Nat) : Int := l.foldl (fun (t : Int) (c : Nat) => (t * 131 + (c : Int)) % 65521) 7
theorem wt_take {l : List Nat} {i c : Nat} (h : l[i]? = some c) : wt (l.take (i + 1)) = (wt (l.take i) * 131 + (c : Int)) % 65521 := by
  rw [List.take_add_one, h]
  unfold wt
  rw [List.foldl_append]
  rfl
/-- the weight of a place -/
def wAt (l : List Nat) (w p : Nat) : Int := wt ((l.drop (p - w)).take w)
/-- less than each other one within reach -/
def lowB (l : List Nat) (w r p : Nat) : Bool := (List.range (2 * r + 1)).all fun j => decide (j = r) || decide (wAt l w p < wAt l w (p - r + j))
def cutF (l : List Nat) (w r i : Nat) : Option Nat := if lowB l w r (w + r + i) = true then some (w + r + i) else none
def cutsOf (l : List Nat) (w r : Nat) : List Nat := (List.range (l.length + 1 - (w + 2 * r))).filterMap (cutF l w r)
theorem cutV_map (l : List Nat) (w r : Nat) : ((List.range (l.length + 1 - (w + 2 * r))).filterMap fun i => (cutF l w r i).map natV) = (cutsOf l w r).map natV := by
  unfold cutsOf
  rw [List.map_filterMap]
def wKey (w i : Nat) : Key := Sum.inl ((w + i : Nat) : Int)
def wVal (l : List Nat) (w i : Nat) : V := .int (wAt l w (w + i))
def wDict (l : List Nat) (w : Nat) : List (Key × V) := (List.range (l.length + 1 - w)).map fun i => (wKey w i, wVal l w i)
theorem wKey_inj (w i j : Nat) (h : wKey w i = wKey w j) : i = j := by
  have := Sum.inl.inj h
  omega
theorem wDict_at {l : List Nat} {w p : Nat} (h1 : w ≤ p) (h2 : p ≤ l.length) : valV (wDict l w) (Sum.inl (p : Int)) = some (.int (wAt l w p)) := by
  have h := valV_rng (n := l.length + 1 - w) (i := p - w) (key := wKey w) (val := wVal l w) (wKey_inj w) (by omega)
  have e : w + (p - w) = p := by omega
  unfold wKey wVal at h
  rw [e] at h
  exact h
theorem lowB_iff {l : List Nat} {w r p : Nat} : lowB l w r p = true ↔ ∀ j, j < 2 * r + 1 → j ≠ r → wAt l w p < wAt l w (p - r + j) := by
  unfold lowB
  rw [List.all_eq_true]
  constructor
  · intro h j hj hr
    have := h j (List.mem_range.mpr hj)
    rw [Bool.or_eq_true] at this
    rcases this with h1 | h1
    · exact absurd (of_decide_eq_true h1) hr
    · exact of_decide_eq_true h1
  · intro h j hj
    rw [Bool.or_eq_true]
    by_cases e : j = r
    · exact .inl (decide_eq_true e)
    · exact .inr (decide_eq_true (h j (List.mem_range.mp hj) e))
theorem lowB_no {l : List Nat} {w r p j : Nat} (hj : j < 2 * r + 1) (hr : j ≠ r) (h : wAt l w (p - r + j) ≤ wAt l w p) : lowB l w r p = false := by
  cases e : lowB l w r p with
  | false => rfl
  | true =>
    have := lowB_iff.mp e j hj hr
    omega
theorem cutF_some {l : List Nat} {w r i p : Nat} (h : cutF l w r i = some p) : p = w + r + i ∧ lowB l w r p = true := by
  unfold cutF at h
  split at h
  · rename_i hc
    cases h
    exact ⟨rfl, hc⟩
  · cases h
theorem low_far {l : List Nat} {w r p q : Nat} (hp : lowB l w r p = true) (hq : lowB l w r q = true) (h : p < q) (hr : r ≤ p) : p + r < q := by
  by_cases hf : p + r < q
  · exact hf
  exfalso
  have h1 := lowB_iff.mp hp (q - p + r) (by omega) (by omega)
  have h2 := lowB_iff.mp hq (p + r - q) (by omega) (by omega)
  have e1 : p - r + (q - p + r) = q := by omega
  have e2 : q - r + (p + r - q) = p := by omega
  rw [e1] at h1
  rw [e2] at h2
  omega
theorem cuts_far (l : List Nat) (w r : Nat) : (cutsOf l w r).Pairwise fun p q => p + r < q := by
  unfold cutsOf
  rw [List.pairwise_filterMap]
  refine List.Pairwise.imp ?_ List.pairwise_lt_range
  intro i j hij p hp q hq
  obtain ⟨e1, l1⟩ := cutF_some hp
  obtain ⟨e2, l2⟩ := cutF_some hq
  exact low_far l1 l2 (by omega) (by omega)
theorem cuts_mem {l : List Nat} {w r p : Nat} (h : p ∈ cutsOf l w r) : w + r ≤ p ∧ p + r ≤ l.length ∧ lowB l w r p = true := by
  unfold cutsOf at h
  obtain ⟨i, hi, e⟩ := List.mem_filterMap.mp h
  rw [List.mem_range] at hi
  obtain ⟨e1, l1⟩ := cutF_some e
  exact ⟨by omega, by omega, l1⟩
theorem cuts_count (l : List Nat) (w r : Nat) : (cutsOf l w r).length ≤ l.length + 1 := by
  unfold cutsOf
  refine Nat.le_trans (List.length_filterMap_le _ _) ?_
  rw [List.length_range]
  omega

def rowV (l : List Nat) (w : Nat) : List V := (List.range (l.length + 1 - w)).map (wVal l w)
theorem rowV_at {l : List Nat} {w a : Nat} (h : a < l.length + 1 - w) : atI (rowV l w) (a : Int) = some (.int (wAt l w (w + a))) := by
  refine atI_nat ?_
  unfold rowV
  rw [List.getElem?_map, List.getElem?_range h]
  rfl
/-! ### two values that are alike, to a depth -/
def Al (H : Hp) : Nat → V → V → Prop
  | 0, x, y => x = y ∧ (y = .non ∨ y = .bl true ∨ (∃ i, y = .int i) ∨ ∃ s, y = .str s)
  | n + 1, x, y => Al H n x y ∨
      (∃ a b xs ys, x = .ref a ∧ y = .ref b ∧ H a = some (.lst xs) ∧ H b = some (.lst ys) ∧ xs.length = ys.length ∧ xs.length < 16777216 ∧ ∀ i, i < ys.length → Al H n (xs.getD i .non) (ys.getD i .non)) ∨
      ∃ a b xs ys, x = .ref a ∧ y = .ref b ∧ H a = some (.tup xs) ∧ H b = some (.tup ys) ∧ xs.length = ys.length ∧ xs.length < 16777216 ∧ ∀ i, i < ys.length → Al H n (xs.getD i .non) (ys.getD i .non)
theorem Al.up {H : Hp} {x y : V} : ∀ {n : Nat}, Al H n x y → Al H (n + 1) x y := fun h => Or.inl h
theorem Al.le {H : Hp} {x y : V} {n m : Nat} (h : Al H n x y) (l : n ≤ m) : Al H m x y := by
  induction l with
  | refl => exact h
  | step _ ih => exact Or.inl ih
theorem Al.int {H : Hp} {n : Nat} (i : Int) : Al H n (.int i) (.int i) := Al.le (n := 0) ⟨rfl, .inr (.inr (.inl ⟨i, rfl⟩))⟩ (Nat.zero_le _)
theorem Al.str {H : Hp} {n : Nat} (i : Str) : Al H n (.str i) (.str i) := Al.le (n := 0) ⟨rfl, .inr (.inr (.inr ⟨i, rfl⟩))⟩ (Nat.zero_le _)
theorem Al.ints {H : Hp} {n : Nat} {a b : Addr} {xs : List V} (ha : H a = some (.lst xs)) (hb : H b = some (.lst xs)) (hl : xs.length < 16777216) (hx : ∀ v ∈ xs, (∃ i, v = V.int i) ∨ ∃ s, v = V.str s) : Al H (n + 1) (.ref a) (.ref b) := by
  refine Or.inr (Or.inl ⟨a, b, xs, xs, rfl, rfl, ha, hb, rfl, hl, fun i hi => ?_⟩)
  have hm : xs.getD i .non ∈ xs := by
    rw [List.getD_eq_getElem?_getD, List.getElem?_eq_getElem hi]
    exact List.getElem_mem hi
  rcases hx _ hm with ⟨j, e⟩ | ⟨j, e⟩
  · rw [e]; exact Al.int j
  · rw [e]; exact Al.str j
theorem Al.bt {H : Hp} {n : Nat} : Al H n (.bl true) (.bl true) := Al.le (n := 0) ⟨rfl, .inr (.inl rfl)⟩ (Nat.zero_le _)
theorem Al.non {H : Hp} {n : Nat} : Al H n .non .non := Al.le (n := 0) ⟨rfl, .inl rfl⟩ (Nat.zero_le _)
theorem Al.tups {H : Hp} {n : Nat} {a b : Addr} {xs ys : List V} (ha : H a = some (.tup xs)) (hb : H b = some (.tup ys)) (hl : xs.length = ys.length) (hn : xs.length < 16777216) (hx : ∀ i, i < ys.length → Al H n (xs.getD i .non) (ys.getD i .non)) : Al H (n + 1) (.ref a) (.ref b) :=
  Or.inr (Or.inr ⟨a, b, xs, ys, rfl, rfl, ha, hb, hl, hn, hx⟩)
theorem Al.lsts {H : Hp} {n : Nat} {a b : Addr} {xs ys : List V} (ha : H a = some (.lst xs)) (hb : H b = some (.lst ys)) (hl : xs.length = ys.length) (hn : xs.length < 16777216) (hx : ∀ i, i < ys.length → Al H n (xs.getD i .non) (ys.getD i .non)) : Al H (n + 1) (.ref a) (.ref b) :=
  Or.inr (Or.inl ⟨a, b, xs, ys, rfl, rfl, ha, hb, hl, hn, hx⟩)
theorem Al.tup2 {H : Hp} {n : Nat} {a b : Addr} {x y u v : V} (ha : H a = some (.tup [x, y])) (hb : H b = some (.tup [u, v])) (h1 : Al H n x u) (h2 : Al H n y v) : Al H (n + 1) (.ref a) (.ref b) :=
  Al.tups ha hb rfl (by show 2 < 16777216; decide) fun i hi => match i, hi with
    | 0, _ => h1
    | 1, _ => h2
    | i + 2, hi => absurd hi (by simp)
theorem atI_getD {xs : List V} {i : Nat} (h : i < xs.length) : atI xs (i : Int) = some (xs.getD i .non) := by
  refine atI_nat ?_
  rw [List.getD_eq_getElem?_getD, List.getElem?_eq_getElem h]
  rfl
def spAl : Nat → Sp
  | 0 => fun _ _ _ _ => False
  | n + 1 => fun vs H Q _ => ∃ x y, vs = [x, y] ∧ Al H n x y ∧ Q (.bl true) H
/-! ### pieces -/
def pieceG (l : List Nat) (a b : Nat) : Option (List Nat) := if a < b then some ((l.drop a).take (b - a)) else none
def bounds (l : List Nat) (w r : Nat) : List Nat := 0 :: (cutsOf l w r ++ [l.length])
def piecesOf (l : List Nat) (w r : Nat) : List (List Nat) := pairsOf (pieceG l) (bounds l w r)
def pieceV (l : List Nat) (x y : V) : Option V := match x, y with
  | .int a, .int b => (pieceG l a.toNat b.toNat).map txtV
  | _, _ => none
/-! ### pieces joined -/
theorem pieceG_pos {l : List Nat} {a b : Nat} (h : a < b) : pieceG l a b = some ((l.drop a).take (b - a)) := by
  unfold pieceG
  rw [if_pos h]
theorem pieceG_eq {l : List Nat} {a b : Nat} (h : ¬ a < b) : pieceG l a b = none := by
  unfold pieceG
  rw [if_neg h]
theorem pairs_join (l : List Nat) : ∀ (B : List Nat) (a : Nat), (a :: B).Pairwise (· ≤ ·) → (∀ b ∈ a :: B, b ≤ l.length) → (a :: B).getLast (List.cons_ne_nil _ _) = l.length → (pairsOf (pieceG l) (a :: B)).flatten = l.drop a
  | [], a, _, _, h => by
    have : a = l.length := h
    rw [this]
    simp [pairsOf]
  | b :: r, a, hp, hm, hl => by
    have hp2 := List.pairwise_cons.mp hp
    have ih := pairs_join l r b hp2.2 (fun c hc => hm c (List.mem_cons_of_mem _ hc)) (by rw [← hl]; exact (List.getLast_cons _).symm)
    have hab : a ≤ b := hp2.1 b List.mem_cons_self
    show ((pieceG l a b).toList ++ pairsOf (pieceG l) (b :: r)).flatten = l.drop a
    rw [List.flatten_append, ih]
    by_cases h : a < b
    · rw [pieceG_pos h]
      simp only [Option.toList, List.flatten_cons, List.flatten_nil, List.append_nil]
      have e : l.drop b = (l.drop a).drop (b - a) := by
        rw [List.drop_drop]
        congr 1
        omega
      rw [e, List.take_append_drop]
    · rw [pieceG_eq h]
      have : a = b := by omega
      rw [this]
      rfl
theorem pairs_mem (l : List Nat) : ∀ (B : List Nat), (∀ b ∈ B, b ≤ l.length) → ∀ z ∈ pairsOf (pieceG l) B, z ≠ []
  | [], _, z, hz => by cases hz
  | [_], _, z, hz => by cases hz
  | a :: b :: r, hm, z, hz => by
    rcases List.mem_append.mp (show z ∈ (pieceG l a b).toList ++ pairsOf (pieceG l) (b :: r) from hz) with h | h
    · by_cases c : a < b
      · rw [pieceG_pos c] at h
        have e : z = (l.drop a).take (b - a) := by simpa using h
        have hb := hm b (List.mem_cons_of_mem _ List.mem_cons_self)
        intro z0
        have : ((l.drop a).take (b - a)).length = 0 := by rw [← e, z0]; rfl
        rw [List.length_take, List.length_drop] at this
        omega
      · rw [pieceG_eq c] at h
        cases h
    · exact pairs_mem l (b :: r) (fun c hc => hm c (List.mem_cons_of_mem _ hc)) z h
/-- where pieces end -/
def runs (t : Nat) : List (List Nat) → List Nat
  | [] => []
  | z :: r => (t + z.length) :: runs (t + z.length) r
theorem runs_snoc (z : List Nat) : ∀ (zs : List (List Nat)) (t : Nat), runs t (zs ++ [z]) = runs t zs ++ [t + (zs ++ [z]).flatten.length]
  | [], t => by simp [runs]
  | y :: r, t => by
    show (t + y.length) :: runs (t + y.length) (r ++ [z]) = _
    rw [runs_snoc z r]
    show _ = (t + y.length) :: (runs (t + y.length) r ++ [_])
    congr 3
    rw [List.cons_append, List.flatten_cons, List.length_append]
    omega
theorem runs_len : ∀ (zs : List (List Nat)) (t : Nat), (runs t zs).length = zs.length
  | [], _ => rfl
  | z :: r, t => by
    show (runs (t + z.length) r).length + 1 = r.length + 1
    rw [runs_len r]
theorem pairs_runs (l : List Nat) : ∀ (B : List Nat) (a : Nat), (a :: B).Pairwise (· < ·) → (∀ b ∈ a :: B, b ≤ l.length) → runs a (pairsOf (pieceG l) (a :: B)) = B
  | [], a, _, _ => rfl
  | b :: r, a, hp, hm => by
    have hp2 := List.pairwise_cons.mp hp
    have hab : a < b := hp2.1 b List.mem_cons_self
    have ih := pairs_runs l r b hp2.2 (fun c hc => hm c (List.mem_cons_of_mem _ hc))
    show runs a ((pieceG l a b).toList ++ pairsOf (pieceG l) (b :: r)) = b :: r
    rw [pieceG_pos hab]
    show (a + ((l.drop a).take (b - a)).length) :: runs (a + ((l.drop a).take (b - a)).length) (pairsOf (pieceG l) (b :: r)) = b :: r
    have hb := hm b (List.mem_cons_of_mem _ List.mem_cons_self)
    have e : a + ((l.drop a).take (b - a)).length = b := by
      rw [List.length_take, List.length_drop]
      omega
    rw [e, ih]
theorem cuts_rise (l : List Nat) (w r : Nat) : (cutsOf l w r).Pairwise (· < ·) := (cuts_far l w r).imp fun h => by omega
theorem bounds_lt {l : List Nat} {w r : Nat} (h : 0 < l.length) (hr : 1 ≤ r) : (bounds l w r).Pairwise (· < ·) := by
  unfold bounds
  rw [List.pairwise_cons, List.pairwise_append]
  refine ⟨fun b hb => ?_, cuts_rise l w r, List.pairwise_singleton _ _, fun a ha b hb => ?_⟩
  · rcases List.mem_append.mp hb with hb | hb
    · have := cuts_mem hb
      omega
    · rw [List.mem_singleton] at hb
      omega
  · rw [List.mem_singleton] at hb
    have := cuts_mem ha
    omega
theorem bounds_le' {l : List Nat} {w r b : Nat} (h : b ∈ bounds l w r) : b ≤ l.length := by
  unfold bounds at h
  rcases List.mem_cons.mp h with rfl | h
  · exact Nat.zero_le _
  rcases List.mem_append.mp h with h | h
  · have := cuts_mem h
    omega
  · rw [List.mem_singleton] at h
    omega
theorem cuts_nil {l : List Nat} {w r : Nat} (h : l.length = 0) (hr : 1 ≤ r) : cutsOf l w r = [] := by
  unfold cutsOf
  have : l.length + 1 - (w + 2 * r) = 0 := by omega
  rw [this]
  rfl
theorem pieces_nil {l : List Nat} {w r : Nat} (h : l.length = 0) (hr : 1 ≤ r) : piecesOf l w r = [] := by
  unfold piecesOf bounds
  rw [cuts_nil h hr, h]
  show (pieceG l 0 0).toList ++ [] = []
  rw [pieceG_eq (by omega)]
  rfl
theorem pieces_join {l : List Nat} {w r : Nat} (hr : 1 ≤ r) : (piecesOf l w r).flatten = l := by
  by_cases h : l.length = 0
  · rw [pieces_nil h hr]
    have : l = [] := List.eq_nil_of_length_eq_zero h
    rw [this]
    rfl
  · unfold piecesOf
    have e := pairs_join l (cutsOf l w r ++ [l.length]) 0 ((bounds_lt (by omega) hr).imp fun h => by omega) (fun b hb => bounds_le' (w := w) (r := r) hb) (by rw [List.getLast_cons (List.append_ne_nil_of_right_ne_nil _ (List.cons_ne_nil _ _)), List.getLast_append_of_ne_nil _ (List.cons_ne_nil _ _), List.getLast_singleton])
    rw [List.drop_zero] at e
    exact e
theorem pieces_ne {l : List Nat} {w r : Nat} {z : List Nat} (h : z ∈ piecesOf l w r) : z ≠ [] := pairs_mem l _ (fun b hb => bounds_le' hb) z h
theorem pieces_runs {l : List Nat} {w r : Nat} (h : 0 < l.length) (hr : 1 ≤ r) : runs 0 (piecesOf l w r) = cutsOf l w r ++ [l.length] :=
  pairs_runs l _ 0 (bounds_lt h hr) fun b hb => bounds_le' (w := w) (r := r) hb
theorem pairs_count {β : Type} (g : Nat → Nat → Option β) : ∀ B : List Nat, (pairsOf g B).length ≤ B.length - 1
  | [] => Nat.le_refl _
  | [_] => Nat.le_refl _
  | a :: b :: r => by
    have ih := pairs_count g (b :: r)
    show ((g a b).toList ++ pairsOf g (b :: r)).length ≤ (r.length + 1 + 1) - 1
    rw [List.length_append]
    have : (g a b).toList.length ≤ 1 := by cases g a b <;> simp
    rw [List.length_cons] at ih
    omega
theorem pieces_count (l : List Nat) (w r : Nat) : (piecesOf l w r).length ≤ l.length + 2 := by
  refine Nat.le_trans (pairs_count _ _) ?_
  have := cuts_count l w r
  unfold bounds
  rw [List.length_cons, List.length_append, List.length_singleton]
  omega
theorem piece_short {l z : List Nat} {w r : Nat} (h : z ∈ piecesOf l w r) (hr : 1 ≤ r) : z.length ≤ l.length := by
  have e := pieces_join (l := l) (w := w) hr
  obtain ⟨a, b, e2⟩ := List.append_of_mem h
  have e3 := congrArg List.length e
  rw [e2, List.flatten_append, List.flatten_cons, List.length_append, List.length_append] at e3
  omega
theorem flat_take {zs : List (List Nat)} {i : Nat} : ((zs.take i).flatten).length ≤ zs.flatten.length := by
  conv => rhs; rw [← List.take_append_drop i zs]
  rw [List.flatten_append, List.length_append]
  omega

theorem same_over {H H' : Hp} {p : Addr} {o : HO} (s : Same H H') (h : H p = none) : Same H (upd H' p o) := fun b x e => by
  rw [upd_ne (fun z => by rw [z, h] at e; cases e)]
  exact s b x e
theorem pairs_snoc {β : Type} (g : Nat → Nat → Option β) (b : Nat) : ∀ (l : List Nat) (a : Nat), pairsOf g (l ++ [a] ++ [b]) = pairsOf g (l ++ [a]) ++ (g a b).toList
  | [], a => by simp [pairsOf]
  | [c], a => by simp [pairsOf]
  | c :: d :: r, a => by
    have ih := pairs_snoc g b (d :: r) a
    show (g c d).toList ++ pairsOf g (d :: r ++ [a] ++ [b]) = (g c d).toList ++ pairsOf g (d :: r ++ [a]) ++ _
    rw [ih, List.append_assoc]
theorem pairs_take {β : Type} (g : Nat → Nat → Option β) {B : List Nat} {i a b : Nat} (ha : B[i]? = some a) (hb : B[i + 1]? = some b) : pairsOf g (B.take (i + 2)) = pairsOf g (B.take (i + 1)) ++ (g a b).toList := by
  have t1 : B.take (i + 1) = B.take i ++ [a] := by rw [List.take_succ, ha]; rfl
  have t2 : B.take (i + 2) = B.take i ++ [a] ++ [b] := by rw [List.take_succ, hb, t1]; rfl
  rw [t2, t1, pairs_snoc]
section
variable {K : PySem.W.Frag} {mg : Str → Option Value} {base : Heap} {H : Hp} {k dx : Addr} {g : Int} {t c n : Addr}
theorem fG (W : Wd K mg base) (h : H k = some (.ins W.c_Stock dx (stF g t c n))) (P : V → Prop) : fldAt K H k "greatest" P = P (.int g) := fldAt_of h W.T_Stock W.n_Stock_greatest stF_g P
theorem fT (W : Wd K mg base) (h : H k = some (.ins W.c_Stock dx (stF g t c n))) (P : V → Prop) : fldAt K H k "_texts" P = P (.ref t) := fldAt_of h W.T_Stock W.n_Stock__texts stF_t P
theorem fC (W : Wd K mg base) (h : H k = some (.ins W.c_Stock dx (stF g t c n))) (P : V → Prop) : fldAt K H k "_counts" P = P (.ref c) := fldAt_of h W.T_Stock W.n_Stock__counts stF_c P
theorem fN (W : Wd K mg base) (h : H k = some (.ins W.c_Stock dx (stF g t c n))) (P : V → Prop) : fldAt K H k "_numbers" P = P (.ref n) := fldAt_of h W.T_Stock W.n_Stock__numbers stF_n P
theorem fM (W : Wd K mg base) {m : Str} (h : H k = some (.ins W.c_Stock dx (stF g t c n))) (hm : ¬ m = "greatest" ∧ ¬ m = "_texts" ∧ ¬ m = "_counts" ∧ ¬ m = "_numbers") (P : Prop) : insAt H k W.c_Stock m P = P := insAt_of h (stF_m hm) P
theorem pG (W : Wd K mg base) (h : H k = some (.ins W.c_Stock dx (stF g t c n))) (P : Addr → Addr → List (Str × V) → Prop) : putAt K H k "greatest" P = P W.c_Stock dx (stF g t c n) := putAt_of h W.T_Stock W.n_Stock_greatest (by show 4 < 1000; decide) P
end
def okS (c : Nat) : Bool := c == 10 || (decide (32 ≤ c) && decide (c ≤ 126) && c != 37)
def pbS (c : Nat) : Bool := ((⟨#[c]⟩ : Str).cps.toList == ("\n" : Str).cps.toList) || ((!decide ((⟨#[c]⟩ : Str).cps.toList < (" " : Str).cps.toList) && !decide (("~" : Str).cps.toList < (⟨#[c]⟩ : Str).cps.toList)) && (((⟨#[c]⟩ : Str).cps.getD 0 0 : Nat) : Int) != 37)
theorem pbS_ok (c : Nat) : pbS c = okS c := by
  have e1 : ("\n" : Str).cps.toList = [10] := by decide
  have e2 : (" " : Str).cps.toList = [32] := by decide
  have e3 : ("~" : Str).cps.toList = [126] := by decide
  unfold pbS okS
  rw [e1, e2, e3]
  show (([c] == [10]) || ((!decide ([c] < [32]) && !decide ([126] < [c])) && ((c : Int) != 37))) = _
  rw [Bool.eq_iff_iff]
  simp [List.cons_le_cons_iff]
  omega
def okN (c : Nat) : Bool := decide (97 ≤ c) && decide (c ≤ 122)
def pbN (c : Nat) : Bool := !decide ((⟨#[c]⟩ : Str).cps.toList < ("a" : Str).cps.toList) && !decide (("z" : Str).cps.toList < (⟨#[c]⟩ : Str).cps.toList)
theorem pbN_ok (c : Nat) : pbN c = okN c := by
  have e1 : ("a" : Str).cps.toList = [97] := by decide
  have e2 : ("z" : Str).cps.toList = [122] := by decide
  unfold pbN okN
  rw [e1, e2]
  show (!decide ([c] < [97]) && !decide ([122] < [c])) = _
  rw [Bool.eq_iff_iff]
  simp [List.cons_le_cons_iff]
  omega
def isTx : V → Bool
  | .str x => x.cps.toList.all okS
  | _ => false
def isNm : V → Bool
  | .str x => decide (1 ≤ x.cps.size) && decide (x.cps.size ≤ 12) && x.cps.toList.all okN
  | _ => false
def isWd (m : Int) : V → Bool
  | .int n => decide (1 ≤ n) && decide (n ≤ m)
  | _ => false
theorem txI {a b : Prop} (h : a) : a ∨ b := Or.inl h
theorem nm_txt {u : V} (h : isNm u = true) : ∃ z, u = txtV z := by
  cases u <;> first | (cases h; done) | skip
  rename_i x
  exact ⟨x.cps.toList, by cases x; rfl⟩
theorem tx_len {z : List Nat} (h : z.length ≤ 16777216) : ∀ x, txtV z = .str x → x.length ≤ 16777216 := fun x e => by
  cases e
  rw [len_st]
  exact h
theorem tx_same {y z : List Nat} (h : txtV y = txtV z) : y = z := st_inj.mp (V.str.inj h)
section
variable {K : PySem.W.Frag} {mg : Str → Option Value} {base : Heap}
def spRow9 (W : Wd K mg base) : Sp := fun vs H Q E => ∃ r M u v, vs = [.ref r.k, u, v] ∧ ShAt W.c_Shelf W.c_Stock H r M ∧ tyN u ≠ none ∧ (∀ x, u = .str x → x.length ≤ 16777216) ∧ tyN v ≠ none ∧ GxR.TabG H W.P_is_name ∧ (∀ z, u = txtV z → isNm u = true → ∀ n x, v = .int n → M.at_ z n = some x → ∀ H', Fr [] H H' → Q (.ref x.at_) H') ∧ (isNm u = false → ∀ H', Fr [] H H' → E (.ref W.e_NoName) none H') ∧ (∀ z, u = txtV z → isNm u = true → (∀ n, v = .int n → M.at_ z n = none) → ∀ H', Fr [] H H' → E (.ref W.e_NotThere) none H')
def spRowO (W : Wd K mg base) : Sp := fun vs H Q E => ∃ r M z v, vs = [.ref r.k, txtV z, v] ∧ ShAt W.c_Shelf W.c_Stock H r M ∧ z.length ≤ 16777216 ∧ tyN v ≠ none ∧ GxR.TabG H W.P_is_name ∧ (isNm (txtV z) = true → ∀ n x, v = .int n → M.at_ z n = some x → ∀ H', Fr [] H H' → Q (.ref x.at_) H') ∧ (isNm (txtV z) = false → ∀ H', Fr [] H H' → E (.ref W.e_NoName) none H') ∧ (isNm (txtV z) = true → (∀ n, v = .int n → M.at_ z n = none) → ∀ H', Fr [] H H' → E (.ref W.e_NotThere) none H')
def spText9 (W : Wd K mg base) : Sp := fun vs H Q E => ∃ r M u v, vs = [.ref r.k, u, v] ∧ ShAt W.c_Shelf W.c_Stock H r M ∧ M.Ok ∧ tyN u ≠ none ∧ (∀ x, u = .str x → x.length ≤ 16777216) ∧ tyN v ≠ none ∧ GxR.TabG H W.P_is_name ∧ (∀ z, u = txtV z → isNm u = true → ∀ n x, v = .int n → M.at_ z n = some x → ∀ H', Fr [] H H' → Q (txtV x.parts.flatten) H') ∧ (isNm u = false → ∀ H', Fr [] H H' → E (.ref W.e_NoName) none H') ∧ (∀ z, u = txtV z → isNm u = true → (∀ n, v = .int n → M.at_ z n = none) → ∀ H', Fr [] H H' → E (.ref W.e_NotThere) none H')
def spTextO (W : Wd K mg base) : Sp := fun vs H Q E => ∃ r M z v, vs = [.ref r.k, txtV z, v] ∧ ShAt W.c_Shelf W.c_Stock H r M ∧ M.Ok ∧ z.length ≤ 16777216 ∧ tyN v ≠ none ∧ GxR.TabG H W.P_is_name ∧ (isNm (txtV z) = true → ∀ n x, v = .int n → M.at_ z n = some x → ∀ H', Fr [] H H' → Q (txtV x.parts.flatten) H') ∧ (isNm (txtV z) = false → ∀ H', Fr [] H H' → E (.ref W.e_NoName) none H') ∧ (isNm (txtV z) = true → (∀ n, v = .int n → M.at_ z n = none) → ∀ H', Fr [] H H' → E (.ref W.e_NotThere) none H')
def spVer9 (W : Wd K mg base) : Sp := fun vs H Q E => ∃ r M u, vs = [.ref r.k, u] ∧ ShAt W.c_Shelf W.c_Stock H r M ∧ M.rows.length ≤ 100 ∧ tyN u ≠ none ∧ (∀ x, u = .str x → x.length ≤ 16777216) ∧ GxR.TabG H W.P_is_name ∧ (∀ nm, u = txtV nm → isNm u = true → ∀ p H' (zs : List Int), zs.Perm ((M.rows.filter fun x => decide (x.nm = nm)).map fun x => (x.num : Int)) → zs.Pairwise (· ≤ ·) → Fr [] H H' → H p = none → H' p = some (.lst (zs.map V.int)) → Q (.ref p) H') ∧ (isNm u = false → ∀ H', Fr [] H H' → E (.ref W.e_NoName) none H')
def spVerO (W : Wd K mg base) : Sp := fun vs H Q E => ∃ r M nm, vs = [.ref r.k, txtV nm] ∧ ShAt W.c_Shelf W.c_Stock H r M ∧ M.rows.length ≤ 100 ∧ nm.length ≤ 16777216 ∧ GxR.TabG H W.P_is_name ∧ (isNm (txtV nm) = true → ∀ p H' (zs : List Int), zs.Perm ((M.rows.filter fun x => decide (x.nm = nm)).map fun x => (x.num : Int)) → zs.Pairwise (· ≤ ·) → Fr [] H H' → H p = none → H' p = some (.lst (zs.map V.int)) → Q (.ref p) H') ∧ (isNm (txtV nm) = false → ∀ H', Fr [] H H' → E (.ref W.e_NoName) none H')
variable {W : Wd K mg base} {vs : List V} {H : Hp} {Q : VK} {E : XK}
theorem rowI (h : spRowO W vs H Q E) : spRow9 W vs H Q E := by
  obtain ⟨r, M, z, v, rfl, hS, hz, hv, hT, q1, q2, q3⟩ := h
  refine ⟨r, M, txtV z, v, rfl, hS, by simp [tyN], tx_len hz, hv, hT, fun y e => ?_, q2, fun y e => ?_⟩
  · cases tx_same e
    exact q1
  · cases tx_same e
    exact q3
theorem textI (h : spTextO W vs H Q E) : spText9 W vs H Q E := by
  obtain ⟨r, M, z, v, rfl, hS, ok, hz, hv, hT, q1, q2, q3⟩ := h
  refine ⟨r, M, txtV z, v, rfl, hS, ok, by simp [tyN], tx_len hz, hv, hT, fun y e => ?_, q2, fun y e => ?_⟩
  · cases tx_same e
    exact q1
  · cases tx_same e
    exact q3
theorem verI (h : spVerO W vs H Q E) : spVer9 W vs H Q E := by
  obtain ⟨r, M, z, rfl, hS, hl, hz, hT, q1, q2⟩ := h
  refine ⟨r, M, txtV z, rfl, hS, hl, by simp [tyN], tx_len hz, hT, fun y e => ?_, q2⟩
  cases tx_same e
  exact q1
end

section
variable {K : PySem.W.Frag} {mg : Str → Option Value} {base : Heap} {H : Hp} {k dx : Addr} {w r : Int} {s wk o : Addr}
theorem sW (W : Wd K mg base) (h : H k = some (.ins W.c_Shelf dx (shF w r s wk o))) (P : V → Prop) : fldAt K H k "_width" P = P (.int w) := fldAt_of h W.T_Shelf W.n_Shelf__width shF_w P
theorem sR (W : Wd K mg base) (h : H k = some (.ins W.c_Shelf dx (shF w r s wk o))) (P : V → Prop) : fldAt K H k "_reach" P = P (.int r) := fldAt_of h W.T_Shelf W.n_Shelf__reach shF_r P
theorem sS (W : Wd K mg base) (h : H k = some (.ins W.c_Shelf dx (shF w r s wk o))) (P : V → Prop) : fldAt K H k "_stock" P = P (.ref s) := fldAt_of h W.T_Shelf W.n_Shelf__stock shF_s P
theorem sK (W : Wd K mg base) (h : H k = some (.ins W.c_Shelf dx (shF w r s wk o))) (P : V → Prop) : fldAt K H k "_works" P = P (.ref wk) := fldAt_of h W.T_Shelf W.n_Shelf__works shF_k P
theorem sO (W : Wd K mg base) (h : H k = some (.ins W.c_Shelf dx (shF w r s wk o))) (P : V → Prop) : fldAt K H k "_rows" P = P (.ref o) := fldAt_of h W.T_Shelf W.n_Shelf__rows shF_o P
theorem sM (W : Wd K mg base) {m : Str} (h : H k = some (.ins W.c_Shelf dx (shF w r s wk o))) (hm : ¬ m = "_width" ∧ ¬ m = "_reach" ∧ ¬ m = "_stock" ∧ ¬ m = "_works" ∧ ¬ m = "_rows") (P : Prop) : insAt H k W.c_Shelf m P = P := insAt_of h (shF_m hm) P
end
/-! ### names -/
def lets : List Nat := ("abcdefghijklmnopqrstuvwxyz" : Str).cps.toList
theorem lets_len : lets.length = 26 := by decide +kernel
theorem lets_in : ∀ c ∈ lets, 97 ≤ c ∧ c ≤ 122 := by decide +kernel
def letAt (i : Int) : Nat := lets.getD (i % 26).toNat 0
theorem letAt_get (i : Int) : lets[(i % 26).toNat]? = some (letAt i) := by
  have h1 : i % 26 < 26 := Int.emod_lt_of_pos _ (by omega)
  have h0 : 0 ≤ i % 26 := Int.emod_nonneg _ (by omega)
  have hl : (i % 26).toNat < lets.length := by rw [lets_len]; omega
  unfold letAt
  rw [List.getD_eq_getElem?_getD, List.getElem?_eq_getElem hl]
  rfl
theorem letAt_at (i : Int) : atI lets (i % 26) = some (letAt i) := by
  have h0 : 0 ≤ i % 26 := Int.emod_nonneg _ (by omega)
  have e : i % 26 = (((i % 26).toNat : Nat) : Int) := (Int.toNat_of_nonneg h0).symm
  rw [e]
  exact atI_nat (letAt_get i)
theorem letAt_ok (i : Int) : 97 ≤ letAt i ∧ letAt i ≤ 122 := lets_in _ (List.mem_of_getElem? (letAt_get i))
def goodN (z : List Nat) : Prop := (1 ≤ z.length ∧ z.length ≤ 12) ∧ ∀ c ∈ z, 97 ≤ c ∧ c ≤ 122
theorem goodN_is {z : List Nat} (h : goodN z) : isNm (txtV z) = true := by
  show (decide (1 ≤ (st z).cps.size) && decide ((st z).cps.size ≤ 12) && (st z).cps.toList.all okN) = true
  have e : (st z).cps.size = z.length := by unfold st; simp
  have e2 : (st z).cps.toList = z := by unfold st; simp
  rw [e, e2, decide_eq_true h.1.1, decide_eq_true h.1.2, Bool.true_and, Bool.true_and, List.all_eq_true]
  intro c hc
  have := h.2 c hc
  unfold okN
  rw [decide_eq_true this.1, decide_eq_true this.2]
  rfl
theorem cut_drop {z : List Nat} {n : Nat} (h : n ≤ z.length) : cutS (st z) (some (n : Int)) none = st (z.drop n) := by
  unfold cutS
  rw [codes_st, HT.sIx_none, HT.sIx_nat, len_st, Nat.min_eq_left h]
  rw [List.take_of_length_le (by rw [List.length_drop]; omega)]
  rfl
theorem mem_rep {z : List Nat} {k x : Nat} (h : x ∈ repS z k) : x ∈ z := by
  unfold repS at h
  obtain ⟨l, h1, h2⟩ := List.mem_flatten.mp h
  rw [(List.mem_replicate.mp h1).2] at h2
  exact h2
theorem letAt_val (i : Int) : letAt i = 97 + (i % 26).toNat := by
  have h1 : i % 26 < 26 := Int.emod_lt_of_pos _ (by omega)
  have h0 : 0 ≤ i % 26 := Int.emod_nonneg _ (by omega)
  have h : ∀ n, n < 26 → lets.getD n 0 = 97 + n := by decide +kernel
  exact h _ (by omega)
theorem letAt_inj {i j : Int} (h : letAt i = letAt j) : i % 26 = j % 26 := by
  rw [letAt_val, letAt_val] at h
  have h1 : 0 ≤ i % 26 := Int.emod_nonneg _ (by omega)
  have h2 : 0 ≤ j % 26 := Int.emod_nonneg _ (by omega)
  omega
def cntP (M : PlM) (p : List Nat) : Nat := M.rows.countP fun x => decide (p ∈ x.parts)
def tripK (M : PlM) (q : List Nat × Nat) : List Key := [Sum.inl (q.2 : Int), Sum.inr (st q.1), Sum.inl (cntP M q.1 : Int)]
theorem txt_flat (zs : List (List Nat)) : (zs.map txtV).all flatV = true := by
  rw [List.all_map, List.all_eq_true]
  intro _ _
  rfl
theorem tks_two : ∀ {ts : List TK} {H : Hp}, TKsAt H ts → TupsAt H (ts.map (·.a)) (ts.map fun t => t.ks.map kV)
  | [], _, _ => .nil
  | t :: ts, _, h => .cons (h t List.mem_cons_self) (tks_two fun u hu => h u (List.mem_cons_of_mem _ hu))
theorem tks_of : ∀ {as : List Addr} {l : List (List Key)} {H : Hp}, TupsAt H as (l.map fun k => k.map kV) → ∃ ts : List TK, ts.map (·.a) = as ∧ ts.map (·.ks) = l ∧ TKsAt H ts
  | [], [], _, _ => ⟨[], rfl, rfl, fun _ h => by cases h⟩
  | [], _ :: _, _, h => by cases h
  | _ :: _, [], _, h => by cases h
  | a :: as, k :: l, H, h => by
    cases h with
    | cons r t =>
      obtain ⟨ts, e1, e2, e3⟩ := tks_of t
      refine ⟨⟨a, k⟩ :: ts, by rw [List.map_cons, e1], by rw [List.map_cons, e2], fun u hu => ?_⟩
      rcases List.mem_cons.mp hu with z | z
      · subst z
        exact r
      · exact e3 u z
/-- sorted already: sorted again, the same keys -/
theorem sorted_same {zs ts : List TK} (p : zs.Perm ts) (h1 : zs.Pairwise fun x y => lexK y.ks x.ks = false) (h2 : ts.Pairwise fun x y => lexK y.ks x.ks = false) : zs.map (·.ks) = ts.map (·.ks) := by
  refine (p.map (·.ks)).eq_of_pairwise (le := fun x y => lexK y x = false) (fun a b _ _ g1 g2 => lexK_tri g2 g1) ?_ ?_
  · exact List.pairwise_map.mpr h1
  · exact List.pairwise_map.mpr h2
theorem Fr.over {F : List Addr} {H0 H H' : Hp} (f : Fr [] H0 H) (s : Fr F H H') (h : ∀ x ∈ F, H0 x = none) : Fr [] H0 H' := by
  refine ⟨fun a o e g n => s.keep a o (f.keep a o e g n) (fun z => ?_) n, fun P t => s.tabs P (f.tabs P t), fun a e => f.live a (s.live a e)⟩
  rw [h a z] at e
  cases e
theorem two_both {α β γ : Type} {R : α → γ → Prop} {T : β → γ → Prop} : ∀ {l : List α} {m : List β} {v : List γ} {i : Nat}, Two R l v → Two T m v → i < v.length → ∃ a b c, l[i]? = some a ∧ m[i]? = some b ∧ c ∈ v ∧ R a c ∧ T b c
  | _, _, _, _, .nil, _, h => absurd h (by simp)
  | _, _, _, 0, .cons r _, .cons t _, _ => ⟨_, _, _, rfl, rfl, List.mem_cons_self, r, t⟩
  | _, _, _, i + 1, .cons _ r, .cons _ t, h => by
    obtain ⟨a, b, c, h1, h2, h3, h4⟩ := two_both r t (i := i) (by rw [List.length_cons] at h; omega)
    exact ⟨a, b, c, by rw [List.getElem?_cons_succ]; exact h1, by rw [List.getElem?_cons_succ]; exact h2, List.mem_cons_of_mem _ h3, h4⟩
theorem kV_sc (k : Key) : (∃ i, kV k = V.int i) ∨ ∃ s, kV k = V.str s := by
  cases k
  · exact .inl ⟨_, rfl⟩
  · exact .inr ⟨_, rfl⟩
theorem Al.sc {H : Hp} {n : Nat} {v : V} (h : (∃ i, v = V.int i) ∨ ∃ s, v = V.str s) : Al H n v v := by
  rcases h with ⟨i, e⟩ | ⟨s, e⟩ <;> rw [e]
  · exact Al.int _
  · exact Al.str _
/-- two lists of tuples, alike one by one -/
theorem Al.tupsAt {H : Hp} {n : Nat} {p q : Addr} {as bs : List Addr} {vs : List (List Key)} (hp : H p = some (.lst (as.map V.ref))) (hq : H q = some (.lst (bs.map V.ref))) (t1 : TupsAt H as (vs.map fun k => k.map kV)) (t2 : TupsAt H bs (vs.map fun k => k.map kV))
    (hl : vs.length < 16777216) (hv : ∀ k ∈ vs, k.length < 16777216) : Al H (n + 2) (.ref p) (.ref q) := by
  have l1 := t1.len
  have l2 := t2.len
  rw [List.length_map] at l1 l2
  refine Al.lsts hp hq (by rw [List.length_map, List.length_map, l1, l2]) (by rw [List.length_map, l1]; exact hl) fun i hi => ?_
  rw [List.length_map] at hi
  obtain ⟨a, b, c, h1, h2, h3, h4, h5⟩ := two_both t1 t2 (i := i) (by rw [List.length_map]; omega)
  obtain ⟨k, hk, ek⟩ := List.mem_map.mp h3
  have e1 : (as.map V.ref).getD i .non = .ref a := by rw [List.getD_eq_getElem?_getD, List.getElem?_map, h1]; rfl
  have e2 : (bs.map V.ref).getD i .non = .ref b := by rw [List.getD_eq_getElem?_getD, List.getElem?_map, h2]; rfl
  rw [e1, e2]
  refine Al.tups h4 h5 rfl (by rw [← ek, List.length_map]; exact hv k hk) fun j hj => ?_
  refine Al.sc ?_
  rw [← ek] at hj ⊢
  rw [getD_map (by rw [List.length_map] at hj; exact hj)]
  exact kV_sc _
theorem trips_same {M : ShM} {P : PlM} (h : Rel M P) (ok : M.Ok) : (P.nums.map (tripK P)) = M.S.its.map fun i => [(Sum.inl (i.num : Int) : Key), Sum.inr (st i.txt), Sum.inl (i.cnt : Int)] := by
  rw [h.nums, List.map_map]
  apply List.map_congr_left
  intro i hi
  show [(Sum.inl (i.num : Int) : Key), Sum.inr (st i.txt), Sum.inl (cntP P i.txt : Int)] = _
  rw [show cntP P i.txt = i.cnt from h.cnt ok hi]
theorem mp_keys {α : Type} {f : α → Key} {g : α → V} {l : List α} : (mp f g l).map (·.1) = l.map f := by
  unfold mp
  rw [List.map_map]
  rfl
theorem alpha_ok : ∀ x ∈ alpha, okS x = true := by decide +kernel
theorem setW_len {wk : List (List Nat × Nat)} {nm : List Nat} {n : Nat} : (setW wk nm n).length ≤ wk.length + 1 := by
  unfold setW
  split
  · rw [List.length_map]
    exact Nat.le_succ _
  · rw [List.length_append]
    exact Nat.le_refl _
/-- what holds between two turns of a law that keeps texts on a shelf beside a plain dict -/
structure KInv (C Cs : Addr) (H0 H : Hp) (r : ShR) (rp : PlR) (M : ShM) (P : PlM) (tl nl : Addr) (ts ns : List (List Nat)) (i : Nat) : Prop where
  f0 : Fr [] H0 H
  n0 : ∀ x ∈ r.F ++ rp.F ++ [tl, nl], H0 x = none
  sh : ShAt C Cs H r M
  pl : PlAt H rp P
  rel : Rel M P
  ok : M.Ok
  tx : H tl = some (.lst (ts.map txtV))
  nm : H nl = some (.lst (ns.map txtV))
  dj : ∀ x ∈ r.F, x ∉ rp.F
  ntl : ∀ x ∈ P.rows, x.at_ ≠ tl
  tn : tl ≠ nl
  txs : ∀ t ∈ ts, t.length ≤ 300 ∧ t.all okS = true
  nms : ∀ t ∈ ns, goodN t
  nml : ns.length = 7
  cs : ts.length = i + 1 ∧ M.rows.length ≤ i ∧ M.wk.length ≤ i ∧ M.S.its.length ≤ 300 * i
  rg : ∀ x ∈ M.rows, goodN x.nm
  gw : ∀ p ∈ M.wk, ∃ x ∈ M.rows, x.nm = p.1
/-- a stretch of a text of n signs -/
def okPl (s e : V) (n : Nat) : Bool := match s, e with
  | .int a, .int b => decide (0 ≤ a) && (decide (a ≤ b) && decide (b ≤ (n : Int)))
  | _, _ => false
theorem okPl_true {s e : V} {n : Nat} (h : okPl s e n = true) : ∃ a b : Nat, s = natV a ∧ e = natV b ∧ a ≤ b ∧ b ≤ n := by
  cases s <;> cases e <;> first | (cases h; done) | skip
  rename_i a b
  have hk : okPl (.int a) (.int b) n = (decide (0 ≤ a) && (decide (a ≤ b) && decide (b ≤ (n : Int)))) := rfl
  rw [hk, Bool.and_eq_true, Bool.and_eq_true, decide_eq_true_iff, decide_eq_true_iff, decide_eq_true_iff] at h
  refine ⟨a.toNat, b.toNat, ?_, ?_, by omega, by omega⟩
  · show V.int a = V.int (a.toNat : Int)
    congr 1
    omega
  · show V.int b = V.int (b.toNat : Int)
    congr 1
    omega
theorem isTx_txt {u : V} (h : isTx u = true) : ∃ y, u = txtV y := by
  cases u <;> first | (cases h; done) | skip
  rename_i xu
  exact ⟨xu.cps.toList, by cases xu; rfl⟩
theorem keys_nums {zs : List Key} {row : List Nat} (h : ∀ k, k ∈ zs ↔ k ∈ row.map fun n : Nat => (Sum.inl (n : Int) : Key)) : ∃ ms : List Nat, zs = ms.map (fun n : Nat => (Sum.inl (n : Int) : Key)) ∧ ∀ n, n ∈ ms ↔ n ∈ row := by
  have go : ∀ l : List Key, (∀ k ∈ l, k ∈ row.map fun n : Nat => (Sum.inl (n : Int) : Key)) → ∃ ms : List Nat, l = ms.map (fun n : Nat => (Sum.inl (n : Int) : Key)) := by
    intro l
    induction l with
    | nil => intro _; exact ⟨[], rfl⟩
    | cons k l ih =>
      intro hl
      obtain ⟨ms, e⟩ := ih fun k hk => hl k (List.mem_cons_of_mem _ hk)
      obtain ⟨n, _, en⟩ := List.mem_map.mp (hl k List.mem_cons_self)
      exact ⟨n :: ms, by rw [List.map_cons, ← e, en]⟩
  obtain ⟨ms, e⟩ := go zs fun k hk => (h k).mp hk
  refine ⟨ms, e, fun n => ?_⟩
  have inj : ∀ {m : Nat}, (Sum.inl (m : Int) : Key) = Sum.inl (n : Int) → m = n := fun z => by have := Sum.inl.inj z; omega
  have hn := h (Sum.inl (n : Int))
  rw [e, List.mem_map, List.mem_map] at hn
  constructor
  · intro hm
    obtain ⟨m, h1, h2⟩ := hn.mp ⟨n, hm, rfl⟩
    exact inj h2 ▸ h1
  · intro hm
    obtain ⟨m, h1, h2⟩ := hn.mpr ⟨n, hm, rfl⟩
    exact inj h2 ▸ h1
theorem sum_nat {α : Type} (f : α → Nat) : ∀ l : List α, (l.map fun i => ((f i : Nat) : Int)).sum = (((l.map f).sum : Nat) : Int)
  | [] => rfl
  | i :: l => by
    rw [List.map_cons, List.map_cons, List.sum_cons, List.sum_cons, sum_nat f l, Int.natCast_add]
theorem fm_filter {α : Type} {p : α → Bool} {g : α → V} : ∀ l : List α, (l.filterMap fun a => if p a = true then some (g a) else none) = (l.filter p).map g
  | [] => rfl
  | a :: l => by
    rw [List.filterMap_cons]
    by_cases c : p a = true
    · rw [if_pos c, List.filter_cons_of_pos c, List.map_cons, fm_filter l]
    · rw [if_neg c, List.filter_cons_of_neg c, fm_filter l]
/-- keys of one list in the order of another: those that pass a test -/
theorem filter_perm {α : Type} {ts : List TK} {l : List α} {key : α → List Key} {p : TK → Bool} {q : α → Bool} (h : (ts.map (·.ks)).Perm (l.map key)) (e : ∀ t ∈ ts, ∀ a ∈ l, t.ks = key a → p t = q a) (inj : (l.map key).Nodup) : ((ts.filter p).map (·.ks)).Perm ((l.filter q).map key) := by
  have n1 : (ts.map (·.ks)).Nodup := h.nodup_iff.mpr inj
  refine (List.perm_ext_iff_of_nodup (n1.sublist (List.filter_sublist.map _)) (inj.sublist (List.filter_sublist.map _))).mpr fun k => ?_
  rw [List.mem_map, List.mem_map]
  constructor
  · rintro ⟨t, ht, rfl⟩
    obtain ⟨h1, h2⟩ := List.mem_filter.mp ht
    obtain ⟨a, ha, ea⟩ := List.mem_map.mp (h.mem_iff.mp (List.mem_map.mpr ⟨t, h1, rfl⟩))
    exact ⟨a, List.mem_filter.mpr ⟨ha, by rw [← e t h1 a ha ea.symm]; exact h2⟩, ea⟩
  · rintro ⟨a, ha, rfl⟩
    obtain ⟨h1, h2⟩ := List.mem_filter.mp ha
    obtain ⟨t, ht, et⟩ := List.mem_map.mp (h.mem_iff.mpr (List.mem_map.mpr ⟨a, h1, rfl⟩))
    exact ⟨t, List.mem_filter.mpr ⟨ht, by rw [e t ht a h1 et]; exact h2⟩, et⟩
/-- a version whose row has a number -/
def pickB (M : ShM) (n : Int) (t : TK) : Bool := M.rows.any fun x => decide (x.key = t.ks) && inV (.int n) (x.row.map natV)
theorem pickB_of {M : ShM} (mok : M.Ok) {n : Int} {t : TK} {x : Rw} (hx : x ∈ M.rows) (ek : t.ks = x.key) : pickB M n t = inV (.int n) (x.row.map natV) := by
  unfold pickB
  rw [Bool.eq_iff_iff, List.any_eq_true]
  constructor
  · rintro ⟨y, hy, h⟩
    rw [Bool.and_eq_true] at h
    have e := mok.key_inj hx hy ((of_decide_eq_true h.1).trans ek)
    rw [← e]
    exact h.2
  · intro h
    exact ⟨x, hx, by rw [Bool.and_eq_true]; exact ⟨decide_eq_true ek.symm, h⟩⟩
theorem pick_perm {M : ShM} (mok : M.Ok) {n : Int} {ts : List TK} (pt : (ts.map (·.ks)).Perm (M.rows.map Rw.key)) : ((ts.filter (pickB M n)).map (·.ks)).Perm ((M.rows.filter fun x => inV (.int n) (x.row.map natV)).map Rw.key) :=
  filter_perm pt (fun t _ x hx e => pickB_of mok hx e) mok.rwn
theorem lex_same {ts us : List TK} {l : List (List Key)} (p1 : (ts.map (·.ks)).Perm l) (p2 : (us.map (·.ks)).Perm l) (h1 : ts.Pairwise fun x y => lexK y.ks x.ks = false) (h2 : us.Pairwise fun x y => lexK y.ks x.ks = false) : ts.map (·.ks) = us.map (·.ks) :=
  (p1.trans p2.symm).eq_of_pairwise (le := fun x y => lexK y x = false) (fun a b _ _ g1 g2 => lexK_tri g2 g1) (List.pairwise_map.mpr h1) (List.pairwise_map.mpr h2)
theorem addK_all : ∀ {xs acc : List Key}, (∀ k ∈ xs, k ∉ acc) → xs.Nodup → xs.foldl addK acc = acc ++ xs
  | [], acc, _, _ => (List.append_nil acc).symm
  | k :: xs, acc, h, nd => by
    have nd2 := List.nodup_cons.mp nd
    rw [List.foldl_cons, addK_new (h k List.mem_cons_self), addK_all (fun j hj z => ?_) nd2.2, List.append_assoc]
    · rfl
    · rcases List.mem_append.mp z with z | z
      · exact h j (List.mem_cons_of_mem _ hj) z
      · exact nd2.1 (List.mem_singleton.mp z ▸ hj)
theorem keys_txts {zs : List Key} {ps : List (List Nat)} (h : ∀ k, k ∈ zs ↔ k ∈ ps.map keyT) : ∃ ms : List (List Nat), zs = ms.map keyT ∧ ∀ n, n ∈ ms ↔ n ∈ ps := by
  have go : ∀ l : List Key, (∀ k ∈ l, k ∈ ps.map keyT) → ∃ ms : List (List Nat), l = ms.map keyT := by
    intro l
    induction l with
    | nil => intro _; exact ⟨[], rfl⟩
    | cons k l ih =>
      intro hl
      obtain ⟨ms, e⟩ := ih fun k hk => hl k (List.mem_cons_of_mem _ hk)
      obtain ⟨n, _, en⟩ := List.mem_map.mp (hl k List.mem_cons_self)
      exact ⟨n :: ms, by rw [List.map_cons, ← e, en]⟩
  obtain ⟨ms, e⟩ := go zs fun k hk => (h k).mp hk
  refine ⟨ms, e, fun n => ?_⟩
  have hn := h (keyT n)
  rw [e, List.mem_map, List.mem_map] at hn
  constructor
  · intro hm
    obtain ⟨m, h1, h2⟩ := hn.mp ⟨n, hm, rfl⟩
    exact keyT_inj h2 ▸ h1
  · intro hm
    obtain ⟨m, h1, h2⟩ := hn.mpr ⟨n, hm, rfl⟩
    exact keyT_inj h2 ▸ h1
/-- the numbers left when some of a row's pieces were looked at -/
def leftN (nums : List (List Nat × Nat)) (rows : List PRw) (ps : List (List Nat)) : List (List Nat × Nat) := nums.filter fun q => !decide (q.1 ∈ ps) || rows.any fun z => decide (q.1 ∈ z.parts)
theorem leftN_nil {nums : List (List Nat × Nat)} {rows : List PRw} : leftN nums rows [] = nums := List.filter_eq_self.mpr fun q _ => by simp
theorem leftN_keep {nums : List (List Nat × Nat)} {rows : List PRw} {ps : List (List Nat)} {p : List Nat} (h : (rows.any fun z => decide (p ∈ z.parts)) = true) : leftN nums rows (ps ++ [p]) = leftN nums rows ps := by
  unfold leftN
  apply List.filter_congr
  intro q _
  by_cases e : q.1 = p
  · rw [e, h, Bool.or_true, Bool.or_true]
  · have : decide (q.1 ∈ ps ++ [p]) = decide (q.1 ∈ ps) := by
      rw [Bool.eq_iff_iff]
      simp [e]
    rw [this]
theorem leftN_pop {nums : List (List Nat × Nat)} {rows : List PRw} {ps : List (List Nat)} {p : List Nat} (h : (rows.any fun z => decide (p ∈ z.parts)) = false) : leftN nums rows (ps ++ [p]) = (leftN nums rows ps).filter fun q => decide (wkK q ≠ Sum.inr (st p)) := by
  unfold leftN
  rw [List.filter_filter]
  apply List.filter_congr
  intro q _
  by_cases e : q.1 = p
  · have e2 : wkK q = Sum.inr (st p) := wkK_eq.mpr e
    rw [e, h, show decide (wkK q ≠ Sum.inr (st p)) = false from decide_eq_false (fun z => z e2), Bool.false_and]
    simp
  · have e2 : wkK q ≠ Sum.inr (st p) := fun z => e (wkK_eq.mp z)
    rw [decide_eq_true e2, Bool.true_and]
    have : decide (q.1 ∈ ps ++ [p]) = decide (q.1 ∈ ps) := by
      rw [Bool.eq_iff_iff]
      simp [e]
    rw [this]
/-! ### deeds -/
inductive Deed where
  | keep (nm t : List Nat)
  | drop (nm : List Nat) (n : Int)
  | change (nm : List Nat) (n : Int) (s e : Nat) (t : List Nat)
def Deed.vs : Deed → List V
  | .keep nm t => [.str "keep", txtV nm, txtV t]
  | .drop nm n => [.str "drop", txtV nm, .int n]
  | .change nm n s e t => [.str "change", txtV nm, .int n, natV s, natV e, txtV t]
def Deed.Ok (P : PlM) (B : Nat) : Deed → Prop
  | .keep nm t => goodN nm ∧ t.length ≤ B ∧ t.all okS = true
  | .drop nm _ => goodN nm
  | .change nm n s e t => goodN nm ∧ t.length ≤ 6 ∧ t.all okS = true ∧ ∃ y ∈ P.rows, y.nm = nm ∧ (y.num : Int) = n ∧ s ≤ e ∧ e ≤ y.parts.flatten.length
/-- what is known of the rows -/
structure RowsOk (P : PlM) (B : Nat) : Prop where
  kn : (P.rows.map PRw.key).Nodup
  len : P.rows.length ≤ 100
  nm : ∀ y ∈ P.rows, goodN y.nm
  tx : ∀ y ∈ P.rows, y.parts.flatten.length ≤ B ∧ y.parts.flatten.all okS = true ∧ ∀ p ∈ y.parts, p ≠ []
  b : 40 ≤ B ∧ B ≤ 1000
theorem cut_pre {z : List Nat} {n : Nat} : cutS (st z) none (some (n : Int)) = st (z.take n) := by
  unfold cutS
  rw [codes_st, HT.sIx_none, HT.sIx_nat, len_st]
  by_cases h : n ≤ z.length
  · rw [Nat.min_eq_left h]
    rfl
  · rw [Nat.min_eq_right (by omega), List.take_of_length_le (by omega : z.length ≤ n)]
    show st ((z.drop 0).take (z.length - 0)) = st z
    rw [List.drop_zero, Nat.sub_zero, List.take_length]
theorem mp_keysT {α : Type} {f : α → List Key} {g : α → V} {l : List α} : (mp f g l).map (·.1) = l.map f := by
  unfold mp
  rw [List.map_map]
  rfl
theorem ok_plain {x : List Nat} (h : x.all okS = true) : plainV (txtV x) = true := by
  have e : (st x).cps.all (· < 0x110000) = x.all (· < 0x110000) := by unfold st; simp
  show (st x).cps.all (· < 0x110000) = true
  rw [e, List.all_eq_true]
  intro c hc
  have := List.all_eq_true.mp h c hc
  unfold okS at this
  simp at this ⊢
  omega
theorem name_plain {x : List Nat} (h : goodN x) : plainV (txtV x) = true := by
  have e : (st x).cps.all (· < 0x110000) = x.all (· < 0x110000) := by unfold st; simp
  show (st x).cps.all (· < 0x110000) = true
  rw [e, List.all_eq_true]
  intro c hc
  have := h.2 c hc
  simp
  omega
theorem RowsOk.plain {P : PlM} {B : Nat} (h : RowsOk P B) : ∀ y ∈ P.rows, plainK y.key = true := fun y hy => by
  show (plainV (txtV y.nm) && (true && true)) = true
  rw [name_plain (h.nm y hy)]
  rfl

/-! ### a shelf and its plain dict, through deeds -/
theorem PlAt_noT {H : Hp} {r : PlR} {M : PlM} (h : PlAt H r M) {a : Addr} {xs : List V} (ha : H a = some (.tup xs)) : a ∉ r.F := fun z => by
  simp only [PlR.F, List.mem_cons, List.not_mem_nil, or_false] at z
  rcases z with e | e | e | e
  · exact tup_ne ha h.ob (by intro _ z; cases z) e
  · exact tup_ne ha h.rw_ (by intro _ z; cases z) e
  · exact tup_ne ha h.nu (by intro _ z; cases z) e
  · exact tup_ne ha h.gv (by intro _ z; cases z) e
structure One (C Cs : Addr) (H0 H : Hp) (r : ShR) (rp : PlR) (M : ShM) (P : PlM) (kl : Addr) (B i : Nat) : Prop where
  sh : ShAt C Cs H r M
  pl : PlAt H rp P
  rel : Rel M P
  ok : M.Ok
  rows : RowsOk P B
  z : ∀ x ∈ r.F ++ rp.F, H0 x = none
  dj : ∀ x ∈ r.F, x ∉ rp.F
  nk : ∀ y ∈ P.rows, y.at_ ≠ kl
  cs : M.rows.length ≤ i ∧ M.wk.length ≤ i ∧ M.S.its.length ≤ 1000 * i
theorem One.fr {C Cs : Addr} {H0 H H' : Hp} {r : ShR} {rp : PlR} {M : ShM} {P : PlM} {kl : Addr} {B i : Nat} {F : List Addr} (h : One C Cs H0 H r rp M P kl B i) (f : Fr F H H') (d1 : ∀ x ∈ r.F ++ rp.F, x ∉ F) (nt : ∀ a ∈ F, ∀ xs, H a ≠ some (.tup xs)) (nl : ∀ y ∈ P.rows, y.at_ ∉ F) : One C Cs H0 H' r rp M P kl B i :=
  ⟨h.sh.fr f (fun x hx => d1 x (List.mem_append_left _ hx)) nt, h.pl.fr f (fun x hx => d1 x (List.mem_append_right _ hx)) nl, h.rel, h.ok, h.rows, h.z, h.dj, h.nk, h.cs⟩
theorem One.fr0 {C Cs : Addr} {H0 H H' : Hp} {r : ShR} {rp : PlR} {M : ShM} {P : PlM} {kl : Addr} {B i : Nat} (h : One C Cs H0 H r rp M P kl B i) (f : Fr [] H H') : One C Cs H0 H' r rp M P kl B i :=
  h.fr f (fun _ _ => List.not_mem_nil) (fun _ ha => by cases ha) (fun _ _ => List.not_mem_nil)
theorem RowsOk.up {P : PlM} {B B' : Nat} (h : RowsOk P B) (l : B ≤ B') (u : B' ≤ 1000) : RowsOk P B' :=
  ⟨h.kn, h.len, h.nm, fun y hy => ⟨Nat.le_trans (h.tx y hy).1 l, (h.tx y hy).2⟩, Nat.le_trans h.b.1 l, u⟩
theorem One.up {C Cs : Addr} {H0 H : Hp} {r : ShR} {rp : PlR} {M : ShM} {P : PlM} {kl : Addr} {B i : Nat} (h : One C Cs H0 H r rp M P kl B i) (u : B + 6 ≤ 1000) : One C Cs H0 H r rp M P kl (B + 6) (i + 1) :=
  ⟨h.sh, h.pl, h.rel, h.ok, h.rows.up (by omega) u, h.z, h.dj, h.nk, by have := h.cs; omega⟩
/-- the texts of the pieces -/
theorem One.its {C Cs : Addr} {H0 H : Hp} {r : ShR} {rp : PlR} {M : ShM} {P : PlM} {kl : Addr} {B i : Nat} (h : One C Cs H0 H r rp M P kl B i) : ∀ j ∈ M.S.its, j.txt.length ≤ 1000 ∧ j.txt.all okS = true := fun j hj => by
  have c1 := h.ok.sok.cnt j hj
  rw [h.ok.cn j hj] at c1
  have c2 : 0 < M.cnt j.num := c1
  unfold ShM.cnt at c2
  rw [List.countP_pos_iff] at c2
  obtain ⟨x, hx, e⟩ := c2
  have m := (hold_mem h.ok.sok hj (h.ok.hold x hx)).mp (of_decide_eq_true e)
  obtain ⟨y, hy, _, _, ep⟩ := h.rel.rows.mem hx
  rw [ep] at m
  obtain ⟨t1, t2, _⟩ := h.rows.tx y hy
  have hb := h.rows.b
  constructor
  · have : j.txt.length ≤ y.parts.flatten.length := by
      have hs : j.txt.Sublist y.parts.flatten := List.sublist_flatten_of_mem m
      exact hs.length_le
    omega
  · rw [List.all_eq_true] at t2 ⊢
    exact fun c hc => t2 c (List.mem_flatten.mpr ⟨_, m, hc⟩)
/-- a version kept on both sides -/
theorem One.kept {C Cs : Addr} {H0 H H' : Hp} {r : ShR} {rp : PlR} {M : ShM} {P : PlM} {kl a b : Addr} {B i : Nat} {nm t : List Nat} (h : One C Cs H0 H r rp M P kl B i) (u : B + 6 ≤ 1000) (hi : i < 100) (ng : goodN nm) (tl : t.length ≤ B + 6) (tok : t.all okS = true) (nb : b ≠ kl)
    (hs : ShAt C Cs H' r (M.keep nm a (piecesOf t M.w M.r))) (hp : PlAt H' rp (P.kept nm b (piecesOf t P.w P.r))) : One C Cs H0 H' r rp (M.keep nm a (piecesOf t M.w M.r)) (P.kept nm b (piecesOf t P.w P.r)) kl (B + 6) (i + 1) := by
  have hr := h.ok.r.1
  rw [h.rel.w, h.rel.r] at hp ⊢
  have rel' := h.rel.keep h.ok nm a b (piecesOf t M.w M.r)
  have ok' := h.ok.keep nm a (parts := piecesOf t M.w M.r) (by rw [pieces_join hr]; omega) (fun x hx => pieces_ne hx)
  obtain ⟨c1, c2, c3⟩ := h.cs
  have pl0 : (piecesOf t M.w M.r).length ≤ t.length := by
    have h := flat_len (l := piecesOf t M.w M.r) (fun x hx => pieces_ne hx)
    rw [pieces_join hr] at h
    exact h
  have hb := h.rows.b
  have l1 : (M.keep nm a (piecesOf t M.w M.r)).rows.length ≤ i + 1 := by
    show (M.rows ++ [_]).length ≤ i + 1
    rw [List.length_append]
    show M.rows.length + 1 ≤ i + 1
    omega
  refine ⟨hs, hp, rel', ok', ⟨rel'.rwn ok', ?_, fun y hy => ?_, fun y hy => ?_, by omega, u⟩, h.z, h.dj, fun y hy => ?_, l1, ?_, ?_⟩
  · rw [← rel'.rows.len]
    omega
  · rcases List.mem_append.mp hy with hy | hy
    · exact h.rows.nm y hy
    · rw [List.mem_singleton.mp hy]
      exact ng
  · rcases List.mem_append.mp hy with hy | hy
    · obtain ⟨g1, g2⟩ := h.rows.tx y hy
      exact ⟨by omega, g2⟩
    · rw [List.mem_singleton.mp hy]
      show (piecesOf t M.w M.r).flatten.length ≤ _ ∧ (piecesOf t M.w M.r).flatten.all okS = true ∧ ∀ p ∈ piecesOf t M.w M.r, p ≠ []
      rw [pieces_join hr]
      exact ⟨tl, tok, fun x hx => pieces_ne hx⟩
  · rcases List.mem_append.mp hy with hy | hy
    · exact h.nk y hy
    · rw [List.mem_singleton.mp hy]
      exact nb
  · have := setW_len (wk := M.wk) (nm := nm) (n := M.given nm + 1)
    exact Nat.le_trans this (by omega)
  · have := h.ok.its (nm := nm) (a := a) (piecesOf t M.w M.r)
    omega
/-- a version taken out on both sides -/
theorem One.dropped {C Cs : Addr} {H0 H H' : Hp} {r : ShR} {rp : PlR} {M : ShM} {P : PlM} {kl : Addr} {B i : Nat} {x : Rw} {y : PRw} (h : One C Cs H0 H r rp M P kl B i) (u : B + 6 ≤ 1000) (hx : x ∈ M.rows) (e : x.nm = y.nm ∧ x.num = y.num ∧ x.parts = y.parts)
    (hs : ShAt C Cs H' r (M.drop x)) (hp : PlAt H' rp (P.drop y)) : One C Cs H0 H' r rp (M.drop x) (P.drop y) kl (B + 6) (i + 1) := by
  have rel' := h.rel.drop h.ok hx e
  have ok' := h.ok.drop hx
  have sub : ∀ z ∈ (P.drop y).rows, z ∈ P.rows := fun z hz => (List.mem_filter.mp hz).1
  have hu := h.rows.up (B' := B + 6) (by omega) u
  obtain ⟨c1, c2, c3⟩ := h.cs
  refine ⟨hs, hp, rel', ok', ⟨rel'.rwn ok', Nat.le_trans (List.length_filter_le _ _) hu.len, fun z hz => hu.nm z (sub z hz), fun z hz => hu.tx z (sub z hz), hu.b⟩, h.z, h.dj, fun z hz => h.nk z (sub z hz), ?_, ?_, ?_⟩
  · exact Nat.le_trans (List.length_filter_le _ _) (by omega)
  · show M.wk.length ≤ _
    omega
  · exact Nat.le_trans (List.length_filterMap_le _ _) (by omega)

/-- the word of a way to be refused -/
def wordOf (w : Int) : Str :=
  if w < 6 then "no size" else if w < 14 then "no name" else if inV (.int w) [.int 25, .int 30, .int 34, .int 35, .int 36, .int 37] = true then "no name"
  else if inV (.int w) [.int 14, .int 15, .int 17, .int 23, .int 32] = true then "no text" else if inV (.int w) [.int 16, .int 18] = true then "too long"
  else if inV (.int w) [.int 19, .int 20, .int 21, .int 22, .int 31] = true then "no place" else "not there"
section
variable {K : PySem.W.Frag} {mg : Str → Option Value} {base : Heap}
/-- the class of a way to be refused -/
def wayCls (W : Wd K mg base) (w : Nat) : Value :=
  if w < 6 then .ref W.e_NoSize else if w < 14 ∨ w = 25 ∨ w = 30 ∨ w = 34 ∨ w = 35 ∨ w = 36 ∨ w = 37 then .ref W.e_NoName
  else if w = 14 ∨ w = 15 ∨ w = 17 ∨ w = 23 ∨ w = 32 then .ref W.e_NoText else if w = 16 ∨ w = 18 then .ref W.e_TooLong
  else if w = 19 ∨ w = 20 ∨ w = 21 ∨ w = 22 ∨ w = 31 then .ref W.e_NoPlace else .ref W.e_NotThere
/-- what a call is and what becomes of it -/
def Call9 (W : Wd K mg base) (H : Hp) (r : ShR) (M : ShM) (nm : List Nat) (way size : Nat) (Q : VK) (E : XK) : Prop :=
  (way ≠ 33 ∧ way ≠ 42 ∧ size ≤ 59 ∧ (∃ x, M.at_ nm 1 = some x ∧ x.parts.flatten.length = size) ∧ M.at_ nm 999 = none ∧ M.at_ nm 0 = none ∧ M.at_ nm (-1) = none ∧ ∀ H', Fr [] H H' → E (wayCls W way) none H')
  ∨ ((way = 33 ∨ way = 42) ∧ M.at_ nm size = none ∧ ∀ H', Fr [] H H' → E (.ref W.e_NotThere) none H')
  ∨ (way = 42 ∧ (∃ x, M.at_ nm size = some x ∧ x.parts.flatten.length ≤ 2000) ∧ 100 ≤ M.rows.length ∧ ∀ H', Fr [] H H' → E (.ref W.e_TooMany) none H')
  ∨ (way = 42 ∧ M.rows.length < 100 ∧ ∃ x, M.at_ nm size = some x ∧ x.parts.flatten.length ≤ 2000 ∧ ∀ p t H', H p = none → ShAt W.c_Shelf W.c_Stock H' r (M.keep nm p (piecesOf (97 :: x.parts.flatten) M.w M.r)) → Fr r.F H H' → (∃ v, H' t = some (.tup [natV (M.given nm + 1), v]) ∧ ∃ i, v = .int i) → Q (.ref t) H')
/-- what stands in a held tuple -/
def Held9 (H : Hp) (p : Addr) (M : ShM) (nm : List Nat) : Prop := ∃ (a b c : Addr) (as : List Addr) (zs : List Key) (ns : List Int), H p = some (.tup [.ref a, .ref b, .ref c, txtV (noteOf M)]) ∧ H a = some (.lst (as.map V.ref)) ∧ TupsAt H as (M.S.its.map fun i => [natV i.num, txtV i.txt, natV i.cnt]) ∧ H b = some (.lst (zs.map kV)) ∧ zs.Perm ((M.rows.map fun x => (Sum.inr (st x.nm) : Key)).foldl addK []) ∧ (zs.Pairwise fun x y => ltK y x = false) ∧ H c = some (.lst (ns.map V.int)) ∧ ns.Perm ((M.rows.filter fun x => decide (x.nm = nm)).map fun x => (x.num : Int)) ∧ ns.Pairwise fun x y => x ≤ y
structure Small9 (M : ShM) : Prop where
  rl : M.rows.length ≤ 100
  il : M.S.its.length < 800000
  wl : M.wk.length < 800000
  la : M.S.last < 10 ^ 13
  wn : ∀ p ∈ M.wk, p.2 < 10 ^ 13
  tl : ∀ i ∈ M.S.its, i.txt.length ≤ 3000
  nl : (noteOf M).length ≤ 16000000
  gn : ∀ x ∈ M.rows, goodN x.nm
/-- what an answer is -/
def Ans9 (H : Hp) (r : ShR) (M : ShM) (nm : List Nat) (way size : Nat) (C Cs : Addr) (Q : VK) : Prop :=
  (way ≠ 33 ∧ way ≠ 42 ∧ size ≤ 59 ∧ (∃ x, M.at_ nm 1 = some x ∧ x.parts.flatten.length = size) ∧ M.at_ nm 999 = none ∧ M.at_ nm 0 = none ∧ M.at_ nm (-1) = none ∧ ∀ p H', H p = none → Fr [] H H' → H' p = some (.tup [.str (wordOf way), .bl true]) → Q (.ref p) H')
  ∨ ((way = 33 ∨ way = 42) ∧ M.at_ nm size = none ∧ ∀ p H', H p = none → Fr [] H H' → H' p = some (.tup [.str "not there", .bl true]) → Q (.ref p) H')
  ∨ (way = 42 ∧ (∃ x, M.at_ nm size = some x ∧ x.parts.flatten.length ≤ 2000) ∧ 100 ≤ M.rows.length ∧ ∀ p H', H p = none → Fr [] H H' → H' p = some (.tup [.str "too many", .bl true]) → Q (.ref p) H')
  ∨ (way = 42 ∧ M.rows.length < 100 ∧ ∃ x, M.at_ nm size = some x ∧ x.parts.flatten.length ≤ 2000 ∧ ∀ p q t H', H p = none → H q = none → ShAt C Cs H' r (M.keep nm p (piecesOf (97 :: x.parts.flatten) M.w M.r)) → Fr r.F H H' → H' q = some (.tup [.str "told", .ref t]) → Q (.ref q) H')
end
theorem given_other {M : ShM} (ok : M.Ok) {nm nm' : List Nat} {a : Addr} {ps : List (List Nat)} (h : nm' ≠ nm) : (M.keep nm a ps).given nm' = M.given nm' := by
  have nd : ((M.keep nm a ps).wk.map (·.1)).Nodup := setW_nodup ok.wkn
  by_cases c : ∃ p ∈ M.wk, p.1 = nm'
  · obtain ⟨p, hp, rfl⟩ := c
    rw [given_at ok.wkn hp]
    exact given_at nd (setW_old hp h)
  · rw [given0 (M := M) (fun p hp e => c ⟨p, hp, e⟩)]
    refine given0 fun p hp e => ?_
    rcases setW_has hp with z | z
    · exact c ⟨p, z, e⟩
    · exact h (e.symm.trans z)
theorem at_new {M : ShM} {nm : List Nat} {a : Addr} {ps : List (List Nat)} (ok : (M.keep nm a ps).Ok) : ∃ x, (M.keep nm a ps).at_ nm ((M.given nm + 1 : Nat) : Int) = some x ∧ x.parts = ps := by
  have hx : (⟨nm, M.given nm + 1, a, (needs M.S ps).row, ps⟩ : Rw) ∈ (M.keep nm a ps).rows := List.mem_append_right _ (List.mem_singleton.mpr rfl)
  exact ⟨_, ok.at_mem hx, rfl⟩
theorem at_old {M : ShM} {nm nm' : List Nat} {a : Addr} {ps : List (List Nat)} (ok : (M.keep nm a ps).Ok) {n : Int} {x : Rw} (h : M.at_ nm' n = some x) : (M.keep nm a ps).at_ nm' n = some x := by
  obtain ⟨hx, rfl, rfl⟩ := ShM.at_some h
  exact ok.at_mem (List.mem_append_left _ hx)
theorem at_no {M : ShM} {nm : List Nat} {n : Int} (h : ∀ x ∈ M.rows, x.nm = nm → (x.num : Int) ≠ n) : M.at_ nm n = none := find_no.mpr fun x hx e => by
  unfold Rw.key at e
  injection e with g1 g2
  injection g2 with g2 _
  exact h x hx (st_inj.mp (Sum.inr.inj g1)) (Sum.inl.inj g2)
/-- a shelf on which one text was kept i times, under four names in turn -/
structure R9 (M : ShM) (zs ps : List (List Nat)) (i : Nat) : Prop where
  rl : M.rows.length = i
  pr : ∀ x ∈ M.rows, x.parts = ps ∧ 1 ≤ x.num ∧ x.num ≤ 25 ∧ x.nm ∈ zs
  gv : ∀ j, j < 4 → M.given (zs.getD j []) = (i + 3 - j) / 4
  ex : ∀ j, j < 4 → ∀ m, 1 ≤ m → m ≤ (i + 3 - j) / 4 → ∃ x ∈ M.rows, x.nm = zs.getD j [] ∧ x.num = m
  il : M.S.its.length ≤ ps.length * i
  la : M.S.last ≤ ps.length * i
  wl : M.wk.length ≤ i
  wn : ∀ p ∈ M.wk, p.2 ≤ 25
  it : ∀ t ∈ M.S.its, t.txt ∈ ps
  wg : ∀ p ∈ M.wk, p.1 ∈ zs
theorem R9.step {M : ShM} {zs ps : List (List Nat)} {i : Nat} (h : R9 M zs ps i) (ok : M.Ok) (nd : zs.Nodup) (l7 : zs.length = 7) (hi : i < 100) (a : Addr) : R9 (M.keep (zs.getD (i % 4) []) a ps) zs ps (i + 1) := by
  have hj : i % 4 < 4 := Nat.mod_lt _ (by omega)
  have hm : ∀ j, j < 4 → zs.getD j [] ∈ zs := fun j hj => by
    rw [List.getD_eq_getElem?_getD, List.getElem?_eq_getElem (by omega)]
    exact List.getElem_mem _
  have ne : ∀ j k, j < 4 → k < 4 → j ≠ k → zs.getD j [] ≠ zs.getD k [] := fun j k hj hk n e => by
    rw [List.getD_eq_getElem?_getD, List.getD_eq_getElem?_getD, List.getElem?_eq_getElem (by omega), List.getElem?_eq_getElem (by omega)] at e
    have pw := List.pairwise_iff_getElem.mp (List.nodup_iff_pairwise_ne.mp nd)
    rcases Nat.lt_or_gt_of_ne n with c | c
    · exact pw j k (by omega) (by omega) c e
    · exact pw k j (by omega) (by omega) c e.symm
  have g := h.gv (i % 4) hj
  generalize hnm : zs.getD (i % 4) [] = nm at g
  have mem : ∀ {x : Rw}, x ∈ (M.keep nm a ps).rows → x ∈ M.rows ∨ x = ⟨nm, M.given nm + 1, a, (needs M.S ps).row, ps⟩ := fun hx => by
    rcases List.mem_append.mp hx with z | z
    · exact .inl z
    · exact .inr (List.mem_singleton.mp z)
  have nl := ok.its (nm := nm) (a := a) ps
  have gl := ok.grow ps
  have g2 : (newK M.S ps).length ≤ ps.length := by
    unfold newK
    have h1 := foldl_addK_len ((ps.filter M.S.isNew).map keyT) []
    have h2 := List.length_filter_le M.S.isNew ps
    rw [List.length_map, List.length_nil] at h1
    omega
  refine ⟨?_, fun x hx => ?_, fun j hj4 => ?_, fun j hj4 m h1 h2 => ?_, ?_, ?_, ?_, fun p hp => ?_, fun t ht => ?_, fun p hp => ?_⟩
  · show (M.rows ++ [_]).length = _
    rw [List.length_append, h.rl]
    rfl
  · rcases mem hx with z | rfl
    · exact h.pr x z
    · refine ⟨rfl, ?_, ?_, ?_⟩
      · show 1 ≤ M.given nm + 1
        omega
      · show M.given nm + 1 ≤ 25
        omega
      · show nm ∈ zs
        rw [← hnm]
        exact hm _ hj
  · by_cases c : j = i % 4
    · subst c
      rw [hnm, given_keep ok, g]
      omega
    · rw [given_other ok (by rw [← hnm]; exact ne _ _ hj4 hj c), h.gv j hj4]
      omega
  · by_cases c : m ≤ (i + 3 - j) / 4
    · obtain ⟨x, hx, e1, e2⟩ := h.ex j hj4 m h1 c
      exact ⟨x, List.mem_append_left _ hx, e1, e2⟩
    · have ej : j = i % 4 := by omega
      subst ej
      refine ⟨_, List.mem_append_right _ (List.mem_singleton.mpr rfl), hnm.symm, ?_⟩
      show M.given nm + 1 = m
      omega
  · rw [Nat.mul_succ]
    have := h.il
    omega
  · show (needs M.S ps).S.last ≤ _
    rw [gl, Nat.mul_succ]
    have := h.la
    omega
  · show (setW M.wk nm (M.given nm + 1)).length ≤ _
    have := setW_len (wk := M.wk) (nm := nm) (n := M.given nm + 1)
    have := h.wl
    omega
  · have nd2 : ((M.keep nm a ps).wk.map (·.1)).Nodup := setW_nodup ok.wkn
    have e := given_at nd2 hp
    rw [← e]
    by_cases c : p.1 = nm
    · rw [c, given_keep ok]
      omega
    · rcases setW_has hp with z | z
      · rw [given_other ok c, given_at ok.wkn z]
        exact h.wn p z
      · exact absurd z c
  · rcases (ok.txts (nm := nm) (a := a) ps).mp ⟨t, ht, rfl⟩ with ⟨u, hu, e⟩ | z
    · rw [← e]
      exact h.it u hu
    · exact z
  · rcases setW_has hp with z | z
    · exact h.wg p z
    · rw [z, ← hnm]
      exact hm _ hj
theorem Held9.fr0 {H H' : Hp} {p : Addr} {M : ShM} {nm : List Nat} (h : Held9 H p M nm) (f : Fr [] H H') : Held9 H' p M nm := by
  obtain ⟨a, b, c, as, zs, ns, h0, h1, h2, h3, h4, h5, h6, h7, h8⟩ := h
  exact ⟨a, b, c, as, zs, ns, f.tup h0 List.not_mem_nil, f.lst h1 List.not_mem_nil, h2.imp fun a v e => f.tup e List.not_mem_nil, f.lst h3 List.not_mem_nil, h4, h5, f.lst h6 List.not_mem_nil, h7, h8⟩
theorem held_al {H : Hp} {p q : Addr} {M : ShM} {nm : List Nat} (h : Held9 H p M nm) (g : Held9 H q M nm) (il : M.S.its.length < 800000) (rl : M.rows.length ≤ 100) : Al H 5 (.ref p) (.ref q) := by
  obtain ⟨a, b, c, as, zs, ns, h0, h1, h2, h3, h4, h5, h6, h7, h8⟩ := h
  obtain ⟨a', b', c', as', zs', ns', g0, g1, g2, g3, g4, g5, g6, g7, g8⟩ := g
  have ez := sortedK_same (h4.trans g4.symm) h5 g5
  have en := perm_sorted (h7.trans g7.symm) h8 g8
  subst ez en
  have zl : zs.length ≤ 100 := by
    rw [h4.length_eq]
    have := foldl_addK_len (M.rows.map fun x => (Sum.inr (st x.nm) : Key)) []
    rw [List.length_map, List.length_nil] at this
    omega
  have nl : ns.length ≤ 100 := by
    rw [h7.length_eq, List.length_map]
    have := List.length_filter_le (fun x : Rw => decide (x.nm = nm)) M.rows
    omega
  have e8 : (M.S.its.map fun i => [natV i.num, txtV i.txt, natV i.cnt]) = (M.S.its.map fun i => [(Sum.inl (i.num : Int) : Key), Sum.inr (st i.txt), Sum.inl (i.cnt : Int)]).map fun k => k.map kV := by
    rw [List.map_map]
    rfl
  rw [e8] at h2 g2
  refine Al.tups h0 g0 rfl (by show 4 < 16777216; decide) fun i hi => ?_
  match i, hi with
  | 0, _ =>
    refine (Al.tupsAt (n := 0) h1 g1 h2 g2 (by rw [List.length_map]; omega) (fun k hk => ?_)).le (by omega)
    obtain ⟨_, _, e⟩ := List.mem_map.mp hk
    rw [← e]
    show 3 < _
    decide
  | 1, _ =>
    refine Al.ints (n := 3) h3 g3 (by rw [List.length_map]; omega) fun v hv => ?_
    obtain ⟨k, _, rfl⟩ := List.mem_map.mp hv
    exact kV_sc k
  | 2, _ =>
    refine Al.ints (n := 3) h6 g6 (by rw [List.length_map]; omega) fun v hv => ?_
    obtain ⟨k, _, rfl⟩ := List.mem_map.mp hv
    exact .inl ⟨_, rfl⟩
  | 3, _ => exact Al.str _
  | i + 4, hi => exact absurd hi (by simp)
theorem flat_le {l : List (List Nat)} {B : Nat} (h : ∀ z ∈ l, z.length ≤ B) : l.flatten.length ≤ l.length * B := by
  induction l with
  | nil => simp
  | cons z l ih =>
    rw [List.flatten_cons, List.length_append, List.length_cons, Nat.succ_mul]
    have h1 := h z List.mem_cons_self
    have h2 := ih fun y hy => h y (List.mem_cons_of_mem _ hy)
    omega
/-- how long a note is -/
theorem note_len {M : ShM} (ok : M.Ok) {L R I V W : Nat} (hla : M.S.last < 10 ^ 13) (hwn : ∀ p ∈ M.wk, p.2 < 10 ^ 13) (hg : ∀ p ∈ M.wk, p.1.length ≤ 12) (ht : ∀ i ∈ M.S.its, i.txt.length ≤ L) (hr : ∀ x ∈ M.rows, x.row.length ≤ R) (hn : ∀ x ∈ M.rows, x.nm.length ≤ 12) (hi : M.S.its.length ≤ I) (hw : M.wk.length ≤ W) (hv : M.rows.length ≤ V) : (noteOf M).length ≤ 50 + I * (2 * L + 30) + W * 40 + V * (14 * R + 50) := by
  have sp : ((noteRows M).map (· ++ nlL)).flatten.length = (headRow M.w M.r M.S.last ++ nlL).length + (((M.S.its.map (fun i => pieceRow i.num i.txt)).map (· ++ nlL)).flatten.length + ((((sortK (M.wk.map wkK)).map (fun k => workRow (nmK k) (M.given (nmK k)))).map (· ++ nlL)).flatten.length + (((sortKs (M.rows.map Rw.key)).map fun k => versRow (keyN k) (keyI k) (M.rowOf k)).map (· ++ nlL)).flatten.length)) := by
    unfold noteRows
    rw [List.map_cons, List.flatten_cons, List.length_append, List.map_append, List.flatten_append, List.length_append, List.map_append, List.flatten_append, List.length_append, List.length_append]
  have nn : nlL.length = 1 := by decide
  unfold noteOf
  rw [sp]
  have d1 := numL_13 (n := M.w) (by have := ok.w; omega)
  have d2 := numL_13 (n := M.r) (by have := ok.r; omega)
  have d3 := numL_13 hla
  have a1 : (headRow M.w M.r M.S.last ++ nlL).length ≤ 50 := by
    unfold headRow
    have : shL.length = 6 := by decide
    simp only [List.length_append, List.length_cons, nn]
    omega
  have a2 := flat_le (l := (M.S.its.map (fun i => pieceRow i.num i.txt)).map (· ++ nlL)) (B := 2 * L + 30) (fun z hz => by
    obtain ⟨y, hy, rfl⟩ := List.mem_map.mp hz
    obtain ⟨i, hi, rfl⟩ := List.mem_map.mp hy
    have e1 := numL_13 (n := i.num) (by have := (ok.sok.pos i hi).2; omega)
    have e2 := escL_len i.txt
    have e3 := ht i hi
    have : pcL.length = 6 := by decide
    unfold pieceRow
    simp only [List.length_append, List.length_cons, nn]
    omega)
  have a3 := flat_le (l := ((sortK (M.wk.map wkK)).map (fun k => workRow (nmK k) (M.given (nmK k)))).map (· ++ nlL)) (B := 40) (fun z hz => by
    obtain ⟨y, hy, rfl⟩ := List.mem_map.mp hz
    obtain ⟨k, hk, rfl⟩ := List.mem_map.mp hy
    obtain ⟨p, hp, rfl⟩ := List.mem_map.mp ((sortK_perm _).mem_iff.mp hk)
    have e1 := hg p hp
    have e2 : M.given p.1 = p.2 := given_at ok.wkn hp
    have e3 := numL_13 (hwn p hp)
    have : wkL.length = 5 := by decide
    show (workRow p.1 (M.given p.1) ++ nlL).length ≤ 40
    rw [e2]
    unfold workRow
    simp only [List.length_append, List.length_cons, nn]
    omega)
  have a4 := flat_le (l := ((sortKs (M.rows.map Rw.key)).map fun k => versRow (keyN k) (keyI k) (M.rowOf k)).map (· ++ nlL)) (B := 14 * R + 50) (fun z hz => by
    obtain ⟨y, hy, rfl⟩ := List.mem_map.mp hz
    obtain ⟨k, hk, rfl⟩ := List.mem_map.mp hy
    obtain ⟨x, hx, rfl⟩ := List.mem_map.mp ((sortKs_perm _).mem_iff.mp hk)
    rw [keyN_key, keyI_key, rowOf_key ok.rwn hx]
    have e1 := hn x hx
    have e2 := hr x hx
    have e3 : (numL x.num).length ≤ 13 := by
      obtain ⟨p, hp, _, hle⟩ := ok.le x hx
      have := hwn p hp
      exact numL_13 (by omega)
    have e4 : (x.row.flatMap fun k => 32 :: numL k).length ≤ 14 * x.row.length := by
      have nums : ∀ n ∈ x.row, (numL n).length ≤ 13 := fun n hn => numL_13 (by have := (ok.nums hx hn).2; omega)
      generalize x.row = l at nums
      induction l with
      | nil => simp
      | cons n l ih =>
        rw [List.flatMap_cons, List.length_append, List.length_cons, List.length_cons]
        have g1 := nums n List.mem_cons_self
        have g2 := ih fun m hm => nums m (List.mem_cons_of_mem _ hm)
        omega
    have : vsL.length = 7 := by decide
    unfold versRow
    simp only [List.length_append, List.length_cons, nn]
    have : 14 * x.row.length ≤ 14 * R := Nat.mul_le_mul_left _ e2
    omega)
  rw [List.length_map, List.length_map] at a2 a3 a4
  rw [(sortK_perm _).length_eq, List.length_map] at a3
  rw [(sortKs_perm _).length_eq, List.length_map] at a4
  have b2 : M.S.its.length * (2 * L + 30) ≤ I * (2 * L + 30) := Nat.mul_le_mul_right _ hi
  have b3 : M.wk.length * 40 ≤ W * 40 := Nat.mul_le_mul_right _ hw
  have b4 : M.rows.length * (14 * R + 50) ≤ V * (14 * R + 50) := Nat.mul_le_mul_right _ hv
  omega
structure L9 (C Cs : Addr) (H0 H : Hp) (r : ShR) (M : ShM) (zs ps : List (List Nat)) (nl : Addr) (w rr i : Nat) : Prop where
  f : Fr [] H0 H
  sh : ShAt C Cs H r M
  ok : M.Ok
  k9 : R9 M zs ps i
  nm : H nl = some (.lst (zs.map txtV))
  e : M.w = w ∧ M.r = rr
section
variable {P : Program} {w : World} {K : PySem.W.Frag} {mg : Str → Option Value} {base : Heap}
def sp_Stock___init__ {K : PySem.W.Frag} {mg : Str → Option Value} {base : Heap} (W : Wd K mg base) : Sp := fun vs H Q _ => ∃ p dx, vs = [.ref p] ∧ H p = some (.ins W.c_Stock dx []) ∧ ∀ r H', r.k = p → r.dx = dx → H r.t = none → H r.c = none → H r.n = none → StAt W.c_Stock H' r ⟨0, []⟩ → Fr [p] H H' → Q .non H'
theorem ok_Stock___init__ (W : Wd K mg base) : FnOk P w K mg base CX0 1 W.f_Stock___init__ W.d_Stock___init__ ["self"] (sp_Stock___init__ W) := by
  refine W.F_Stock___init__.ok sc_Stock___init__ (fun vs H Q E h => ?_) (fun cdv A outer s H vs Q E hr h => ?_)
  · obtain ⟨p, dx, rfl, hp, q⟩ := h
    rfl
  · obtain ⟨p, dx, rfl, hp, q⟩ := h
    refine ⟨_, (pss_cons (y_sfld (K := K) (pv 0) pe_int)
      (pss_cons (y_sfld (K := K) (pv 0) pe_dnewK)
      (pss_cons (y_sfld (K := K) (pv 0) pe_dnewK)
      (pss_one (y_sfld (K := K) (pv 0) pe_dnewK))))), ?_⟩
    walk_at "ev"
    rw [putAt_of hp W.T_Stock W.n_Stock_greatest (by show 0 < 1000; decide)]
    have z1 := putF_le "greatest" (V.int 0) []
    generalize e1 : putF "greatest" (V.int 0) [] = f1 at z1 ⊢
    intro t ht
    have pt : p ≠ t := ne_of_none upd_same ht
    rw [putAt_of (upd_of upd_same ht) W.T_Stock W.n_Stock__texts (by simp at z1; omega)]
    have z2 := putF_le "_texts" (V.ref t) f1
    generalize e2 : putF "_texts" (V.ref t) f1 = f2 at z2 ⊢
    intro c hc
    have pc : p ≠ c := ne_of_none upd_same hc
    have tc : t ≠ c := ne_of_none (by rw [upd_ne pt.symm]; exact upd_same) hc
    rw [putAt_of (upd_of upd_same hc) W.T_Stock W.n_Stock__counts (by simp at z1; omega)]
    have z3 := putF_le "_counts" (V.ref c) f2
    generalize e3 : putF "_counts" (V.ref c) f2 = f3 at z3 ⊢
    intro n hn
    have pn : p ≠ n := ne_of_none upd_same hn
    have cn : c ≠ n := ne_of_none (by rw [upd_ne pc.symm]; exact upd_same) hn
    have tn : t ≠ n := ne_of_none (by rw [upd_ne pt.symm, upd_ne tc, upd_ne pt.symm]; exact upd_same) hn
    rw [putAt_of (upd_of upd_same hn) W.T_Stock W.n_Stock__numbers (by simp at z1; omega)]
    have ht0 : H t = none := by rw [upd_ne pt.symm] at ht; exact ht
    have hc0 : H c = none := by rw [upd_ne pc.symm, upd_ne tc.symm, upd_ne pc.symm] at hc; exact hc
    have hn0 : H n = none := by rw [upd_ne pn.symm, upd_ne cn.symm, upd_ne pn.symm, upd_ne tn.symm, upd_ne pn.symm] at hn; exact hn
    have hf : putF "_numbers" (V.ref n) f3 = stF 0 t c n := by rw [← e3, ← e2, ← e1]; exact stF_mk
    rw [hf]
    refine q ⟨p, dx, t, c, n⟩ _ rfl rfl ht0 hc0 hn0 ⟨upd_same, ?_, ?_, ?_, ⟨tc, tn, cn⟩⟩ ?_
    · rw [upd_ne pt.symm, upd_ne tn, upd_ne pt.symm, upd_ne tc, upd_ne pt.symm, upd_same]
      rfl
    · rw [upd_ne pc.symm, upd_ne cn, upd_ne pc.symm, upd_same]
      rfl
    · rw [upd_ne pn.symm, upd_same]
      rfl
    · have s0 : Fr [p] H (upd H p (.ins W.c_Stock dx f1)) := Fr.upd (by simp) hp rfl
      have s1 := s0.new (o := .dK []) ht
      have s2 := s1.upd2 (o := .ins W.c_Stock dx f2) (by simp) (upd_of upd_same ht) rfl
      have s3 := s2.new (o := .dK []) hc
      have s4 := s3.upd2 (o := .ins W.c_Stock dx f3) (by simp) (upd_of upd_same hc) rfl
      have s5 := s4.new (o := .dK []) hn
      exact s5.upd2 (o := .ins W.c_Stock dx (stF 0 t c n)) (by simp) (upd_of upd_same hn) rfl
def sp_is_number {K : PySem.W.Frag} {mg : Str → Option Value} {base : Heap} (W : Wd K mg base) : Sp := fun vs H Q _ => ∃ v, vs = [v] ∧ tyN v ≠ none ∧ Q (.bl (isI v)) H
theorem ok_is_number (W : Wd K mg base) : FnOk P w K mg base CX0 1 W.f_is_number W.d_is_number ["thing"] (sp_is_number W) := by
  refine W.F_is_number.ok sc_is_number (fun vs H Q E h => ?_) (fun cdv A outer s H vs Q E hr h => ?_)
  · obtain ⟨v, rfl, hv, q⟩ := h
    rfl
  · obtain ⟨v, rfl, hv, q⟩ := h
    refine ⟨_, (pss_one (ps_ret (pe_and (pe_callB y_isi (by rfl) W.z_isinstance (by decide +kernel) (pa_cons (pv 0) (pa_cons (pe_bltn (v := .ty "int") (by rfl) W.z_int (by decide +kernel) rfl) pa_nil))) (pe_one (pe_not (pe_callB y_isi (by rfl) W.z_isinstance (by decide +kernel) (pa_cons (pv 0) (pa_cons (pe_bltn (v := .ty "bool") (by rfl) W.z_bool (by decide +kernel) rfl) pa_nil)))))))), ?_⟩
    cases v <;> first | (exact absurd rfl hv) | skip
    · walk_at "ev"
      rw [isi_mk (a := "NoneType") (b := false) rfl (by decide +kernel)]
      walk_at "ev"
      exact q
    · walk_at "ev"
      exact q
    · walk_at "ev"
      exact q
    · walk_at "ev"
      exact q
def sp_is_width {K : PySem.W.Frag} {mg : Str → Option Value} {base : Heap} (W : Wd K mg base) : Sp := fun vs H Q _ => ∃ v, vs = [v] ∧ tyN v ≠ none ∧ Q (.bl (isWd 8 v)) H
theorem ok_is_width (W : Wd K mg base) : FnOk P w K mg base CX0 2 W.f_is_width W.d_is_width ["thing"] (sp_is_width W) := by
  refine W.F_is_width.ok sc_is_width (fun vs H Q E h => ?_) (fun cdv A outer s H vs Q E hr h => ?_)
  · obtain ⟨v, rfl, hv, q⟩ := h
    rfl
  · obtain ⟨v, rfl, hv, q⟩ := h
    refine ⟨_, (pss_one (ps_ret (pe_and (pe_callS (E := (fun _ => E0)) (ok_is_number W) (hr.mono (by first | decide | omega)) (by rfl) W.m_is_number W.F_is_number.kp W.b_is_number (fun _ => pass0S) (pa_cons (pv 0) pa_nil)) (pe_one (pe_chain y_le y_le pe_int (pv 0) (pe_glob (v := .int 8) (by rfl) W.m_MOST_WIDTH ⟨_, rfl⟩)))))), ?_⟩
    walk_at "ev"
    refine ⟨v, rfl, hv, ?_⟩
    cases v <;> first | (exact absurd rfl hv) | skip
    · exact q
    · exact q
    · rename_i n
      show brE true _ _ _ _ _
      walk_at "ev"
      have hq : Q (.bl (decide (1 ≤ n) && decide (n ≤ 8))) H := q
      refine brE_of (fun h1 => ?_) (fun h1 => ?_)
      · rw [h1] at hq
        exact hq
      · rw [h1] at hq
        exact hq
    · exact q
def sp_is_reach {K : PySem.W.Frag} {mg : Str → Option Value} {base : Heap} (W : Wd K mg base) : Sp := fun vs H Q _ => ∃ v, vs = [v] ∧ tyN v ≠ none ∧ Q (.bl (isWd 40 v)) H
theorem ok_is_reach (W : Wd K mg base) : FnOk P w K mg base CX0 2 W.f_is_reach W.d_is_reach ["thing"] (sp_is_reach W) := by
  refine W.F_is_reach.ok sc_is_reach (fun vs H Q E h => ?_) (fun cdv A outer s H vs Q E hr h => ?_)
  · obtain ⟨v, rfl, hv, q⟩ := h
    rfl
  · obtain ⟨v, rfl, hv, q⟩ := h
    refine ⟨_, (pss_one (ps_ret (pe_and (pe_callS (E := (fun _ => E0)) (ok_is_number W) (hr.mono (by first | decide | omega)) (by rfl) W.m_is_number W.F_is_number.kp W.b_is_number (fun _ => pass0S) (pa_cons (pv 0) pa_nil)) (pe_one (pe_chain y_le y_le pe_int (pv 0) (pe_glob (v := .int 40) (by rfl) W.m_MOST_REACH ⟨_, rfl⟩)))))), ?_⟩
    walk_at "ev"
    refine ⟨v, rfl, hv, ?_⟩
    cases v <;> first | (exact absurd rfl hv) | skip
    · exact q
    · exact q
    · rename_i n
      show brE true _ _ _ _ _
      walk_at "ev"
      have hq : Q (.bl (decide (1 ≤ n) && decide (n ≤ 40))) H := q
      refine brE_of (fun h1 => ?_) (fun h1 => ?_)
      · rw [h1] at hq
        exact hq
      · rw [h1] at hq
        exact hq
    · exact q
def sp_Shelf___init__ {K : PySem.W.Frag} {mg : Str → Option Value} {base : Heap} (W : Wd K mg base) : Sp := fun vs H Q E => ∃ p dx v u, vs = [.ref p, v, u] ∧ H p = some (.ins W.c_Shelf dx []) ∧ tyN v ≠ none ∧ tyN u ≠ none ∧ (∀ a b : Nat, v = natV a → u = natV b → (1 ≤ a ∧ a ≤ 8) → (1 ≤ b ∧ b ≤ 40) → ∀ r H', r.k = p → r.dx = dx → (∀ x ∈ r.F, x ≠ p → H x = none) → ShAt W.c_Shelf W.c_Stock H' r ⟨a, b, ⟨0, []⟩, [], []⟩ → Fr [p] H H' → Q .non H') ∧ (isWd 8 v = false ∨ isWd 40 u = false → E (.ref W.e_NoSize) none H)
theorem ok_Shelf___init__ (W : Wd K mg base) : FnOk P w K mg base (L2.CX P w) 3 W.f_Shelf___init__ W.d_Shelf___init__ ["self", "width", "reach"] (sp_Shelf___init__ W) := by
  refine W.F_Shelf___init__.okX sc_Shelf___init__ (fun vs H Q E h => ?_) (fun cdv A outer s H vs Q E hr h => ?_)
  · obtain ⟨p, dx, v, u, rfl, hp, hv, hu, q, q2⟩ := h
    rfl
  · obtain ⟨p, dx, v, u, rfl, hp, hv, hu, q, q2⟩ := h
    refine ⟨_, (pss_cons (ps_if (PW.pt (pw_or (pt_not (pt_val (pe_callS (E := (fun _ => E0)) (ok_is_width W) (hr.mono (by first | decide | omega)) (by rfl) W.m_is_width W.F_is_width.kp W.b_is_width (fun _ => pass0S) (pa_cons (pv 1) pa_nil)))) (pw_or1 (pt_not (pt_val (pe_callS (E := (fun _ => E0)) (ok_is_reach W) (hr.mono (by first | decide | omega)) (by rfl) W.m_is_reach W.F_is_reach.kp W.b_is_reach (fun _ => pass0S) (pa_cons (pv 2) pa_nil))))))) (pss_one (ps_raiseE rfl (takes_of rfl rfl rfl rfl) W.E_NoSize)) pss_nil)
      (pss_cons (y_sfld (K := K) (pv 0) (pv 1))
      (pss_cons (y_sfld (K := K) (pv 0) (pv 2))
      (pss_cons (y_sfld (K := K) (pv 0) (pe_makeE0 (E := (fun _ => E0)) W.k_Stock (ok_Stock___init__ W) (hr.mono (by first | decide | omega)) (by rfl) W.g_Stock W.b_Stock___init__ (fun _ => pass0S)))
      (pss_cons (y_sfld (K := K) (pv 0) pe_dnewK)
      (pss_one (y_sfld (K := K) (pv 0) pe_dnewT))))))), ?_⟩
    walk_at "ev"
    refine ⟨v, rfl, hv, ?_⟩
    walk_at "ev"
    cases e1 : isWd 8 v with
    | false =>
      walk_at "ev"
      exact q2 (.inl e1)
    | true =>
      walk_at "ev"
      refine ⟨u, rfl, hu, ?_⟩
      walk_at "ev"
      cases e2 : isWd 40 u with
      | false =>
        walk_at "ev"
        exact q2 (.inr e2)
      | true =>
        walk_at "ev"
        obtain ⟨a, rfl, ha⟩ : ∃ a : Nat, v = natV a ∧ (1 ≤ a ∧ a ≤ 8) := by
          cases v <;> first | (cases e1; done) | skip
          rename_i n
          have h : (decide (1 ≤ n) && decide (n ≤ 8)) = true := e1
          simp at h
          exact ⟨n.toNat, by congr 1; omega, by omega⟩
        obtain ⟨b, rfl, hb⟩ : ∃ a : Nat, u = natV a ∧ (1 ≤ a ∧ a ≤ 40) := by
          cases u <;> first | (cases e2; done) | skip
          rename_i n
          have h : (decide (1 ≤ n) && decide (n ≤ 40)) = true := e2
          simp at h
          exact ⟨n.toNat, by congr 1; omega, by omega⟩
        have q := q a b rfl rfl ha hb
        rw [putAt_of hp W.T_Shelf W.n_Shelf__width (by show 0 < 1000; decide)]
        have z1 := putF_le "_width" (natV a) []
        generalize g1 : putF "_width" (natV a) [] = f1 at z1 ⊢
        rw [putAt_of upd_same W.T_Shelf W.n_Shelf__reach (by simp at z1; omega)]
        have z2 := putF_le "_reach" (natV b) f1
        generalize g2 : putF "_reach" (natV b) f1 = f2 at z2 ⊢
        rw [upd_upd]
        have s0 : Fr [p] H (upd H p (.ins W.c_Shelf dx f2)) := Fr.upd (by simp) hp rfl
        have hp0 : upd H p (.ins W.c_Shelf dx f2) p = some (.ins W.c_Shelf dx f2) := upd_same
        generalize upd H p (.ins W.c_Shelf dx f2) = H0 at s0 hp0 ⊢
        intro x dx2 hx hdx hne
        refine ⟨x, dx2, rfl, upd_same, fun rs H3 ek edx ht hc hn hS f3 => ⟨rfl, ?_⟩⟩
        have ht0 := made_none hx hdx ht
        have hc0 := made_none hx hdx hc
        have hn0 := made_none hx hdx hn
        have s3 := frMade hx hdx (by simp) f3
        have hp3 := s3.keep _ _ hp0 List.not_mem_nil rfl
        have hF0 : ∀ y ∈ rs.F, H0 y = none := by
          intro y hy
          simp only [StR.F, List.mem_cons, List.not_mem_nil, or_false] at hy
          rcases hy with e | e | e | e <;> rw [e]
          · rw [ek]; exact hx
          · exact ht0
          · exact hc0
          · exact hn0
        have pF : p ∉ rs.F := fun z => by
          have := hF0 p z
          rw [hp0] at this
          cases this
        have s03 : Fr [p] H H3 := s0.trans (s3.mono (by simp))
        subst ek
        rw [putAt_of hp3 W.T_Shelf W.n_Shelf__stock (by simp at z1; omega)]
        have z3 := putF_le "_stock" (V.ref rs.k) f2
        generalize g3 : putF "_stock" (V.ref rs.k) f2 = f4 at z3 ⊢
        have s4 := s03.upd2 (o := .ins W.c_Shelf dx f4) (by simp) hp3 rfl
        have hS4 := hS.fr (F := [p]) (Fr.upd (o := .ins W.c_Shelf dx f4) (by simp) hp3 rfl) (fun a ha z => pF (by rw [← List.mem_singleton.mp z]; exact ha))
        have hp4 : upd H3 p (.ins W.c_Shelf dx f4) p = some (.ins W.c_Shelf dx f4) := upd_same
        generalize upd H3 p (.ins W.c_Shelf dx f4) = H4 at s4 hS4 hp4 ⊢
        intro wk hwk
        have pw : p ≠ wk := ne_of_none hp4 hwk
        have wF : wk ∉ rs.F := fun z => hS4.live z hwk
        have wk0 : H wk = none := s4.live _ hwk
        rw [putAt_of (upd_of hp4 hwk) W.T_Shelf W.n_Shelf__works (by simp at z1; omega)]
        have z4 := putF_le "_works" (V.ref wk) f4
        generalize g4 : putF "_works" (V.ref wk) f4 = f5 at z4 ⊢
        have s5 := (s4.new (o := .dK []) hwk).upd2 (o := .ins W.c_Shelf dx f5) (by simp) (upd_of hp4 hwk) rfl
        have hS5 := (hS4.same (same_new (o := .dK []) hwk)).fr (F := [p]) (Fr.upd (o := .ins W.c_Shelf dx f5) (by simp) (upd_of hp4 hwk) rfl) (fun a ha z => pF (by rw [← List.mem_singleton.mp z]; exact ha))
        have hp5 : upd (upd H4 wk (.dK [])) p (.ins W.c_Shelf dx f5) p = some (.ins W.c_Shelf dx f5) := upd_same
        have hw5 : upd (upd H4 wk (.dK [])) p (.ins W.c_Shelf dx f5) wk = some (.dK []) := by rw [upd_ne pw.symm, upd_same]
        generalize upd (upd H4 wk (.dK [])) p (.ins W.c_Shelf dx f5) = H5 at s5 hS5 hp5 hw5 ⊢
        intro rw_ hrw
        have pr : p ≠ rw_ := ne_of_none hp5 hrw
        have rF : rw_ ∉ rs.F := fun z => hS5.live z hrw
        have rw0 : H rw_ = none := s5.live _ hrw
        have wr : wk ≠ rw_ := ne_of_none hw5 hrw
        rw [putAt_of (upd_of hp5 hrw) W.T_Shelf W.n_Shelf__rows (by simp at z1; omega)]
        have hf : putF "_rows" (V.ref rw_) f5 = shF a b rs.k wk rw_ := by rw [← g4, ← g3, ← g2, ← g1]; exact shF_mk
        rw [hf]
        have s6 := (s5.new (o := .dT []) hrw).upd2 (o := .ins W.c_Shelf dx (shF a b rs.k wk rw_)) (by simp) (upd_of hp5 hrw) rfl
        have hS6 := (hS5.same (same_new (o := .dT []) hrw)).fr (F := [p]) (Fr.upd (o := .ins W.c_Shelf dx (shF a b rs.k wk rw_)) (by simp) (upd_of hp5 hrw) rfl) (fun a ha z => pF (by rw [← List.mem_singleton.mp z]; exact ha))
        refine q ⟨p, dx, rs, wk, rw_⟩ _ rfl rfl ?_ ⟨upd_same, hS6, ?_, ?_, (fun x hx => by cases hx), pF, wF, rF, wr⟩ s6
        · intro y hy ny
          simp only [ShR.F, List.mem_cons] at hy
          rcases hy with e | e | e | e
          · exact (ny e).elim
          · rw [e]; exact wk0
          · rw [e]; exact rw0
          · exact s0.live _ (hF0 y e)
        · rw [upd_ne pw.symm, upd_ne wr]
          exact hw5
        · rw [upd_ne pr.symm]
          exact upd_same
def sp__law_names_by {K : PySem.W.Frag} {mg : Str → Option Value} {base : Heap} (W : Wd K mg base) : Sp := fun vs H Q _ => ∃ (c : Int), vs = [.int c] ∧ ∀ D H' (zs : List (List Nat)), Same H H' → H D = none → zs.length = 7 → zs.Nodup → (∀ z ∈ zs, goodN z) → H' D = some (.lst (zs.map txtV)) → Q (.ref D) H'
theorem ok__law_names_by (W : Wd K mg base) : FnOk P w K mg base CX0 1 W.f__law_names_by W.d__law_names_by ["_law_cell"] (sp__law_names_by W) := by
  refine W.F__law_names_by.ok sc__law_names_by (fun vs H Q E h => ?_) (fun cdv A outer s H vs Q E hr h => ?_)
  · obtain ⟨c, rfl, q⟩ := h
    rfl
  · obtain ⟨c, rfl, q⟩ := h
    refine ⟨_, (pss_cons (ps_set (i := 1) sc__law_names_by.nd rfl (by first | exact Or.inl rfl | exact Or.inr rfl) pe_str)
      (pss_cons (ps_set (i := 2) sc__law_names_by.nd rfl (by first | exact Or.inl rfl | exact Or.inr rfl) (pe_op (y_add (K := K)) pe_int (pe_op y_mod (pv 0) pe_int)))
      (pss_cons (ps_set (i := 3) sc__law_names_by.nd rfl (by first | exact Or.inl rfl | exact Or.inr rfl) pe_str)
      (pss_cons (ps_set (i := 4) sc__law_names_by.nd rfl (by first | exact Or.inl rfl | exact Or.inr rfl) (pv 0))
      (pss_cons (ps_for PassesOwn.never rfl (pi_range1 (by rfl) W.z_range (pa_cons (pv 2) pa_nil)) (pg_name (i := 5) sc__law_names_by.nd rfl (by first | exact Or.inl rfl | exact Or.inr rfl)) (pss_cons (ps_set (i := 4) sc__law_names_by.nd rfl (by first | exact Or.inl rfl | exact Or.inr rfl) (pe_op y_mod (pe_op (y_add (K := K)) (pe_op y_mul (pv 4) pe_int) pe_int) pe_int))
      (pss_one (ps_set (i := 3) sc__law_names_by.nd rfl (by first | exact Or.inl rfl | exact Or.inr rfl) (pe_op (y_add (K := K)) (pv 3) (pe_ix (y_ix (K := K)) (pv 1) (pe_op y_mod (pe_op y_fdiv (pv 4) pe_int) pe_int) (fun _ _ => rfl)))))))
      (pss_cons (ps_if (pt_cmpR (y_eq (K := K) hr.units) (pe_op y_mod (pe_op y_fdiv (pv 0) pe_int) pe_int) pe_int (nomark _)) (pss_one (ps_ret (pe_lc (own := [("_law_k", 5)]) (g := gName 5) (by rfl) sc__law_names_by.nd (pi_range1 (by rfl) W.z_range (pa_cons pe_int pa_nil)) (blkOk_by (own := [("_law_k", 5)]) (N := N__law_names_by) (sc := defScope s__law_names_by) (by decide +kernel)) (fun _ _ _ _ _ => pg_name (i := 5) sc__law_names_by.nd rfl (Or.inl rfl)) (fun _ _ _ _ _ => pts_nil) (fun _ _ _ _ _ => (pe_op y_mul (pe_slice (y_sl (K := K)) (pv 3) po_none (po_some pe_int)) (pe_op (y_add (K := K)) pe_int (pe_op y_mod (pe_op (y_add (K := K)) (pv 5) (pe_op y_fdiv (pv 0) pe_int)) pe_int))))))) pss_nil)
      (pss_cons (ps_set (i := 6) sc__law_names_by.nd rfl (by first | exact Or.inl rfl | exact Or.inr rfl) (pe_op y_mod (pe_op y_fdiv (pv 0) pe_int) (pv 2)))
      (pss_cons (ps_set (i := 7) sc__law_names_by.nd rfl (by first | exact Or.inl rfl | exact Or.inr rfl) (pe_lst (pa_cons (pe_slice (y_sl (K := K)) (pv 3) po_none (po_some (pv 6))) (pa_cons (pe_slice (y_sl (K := K)) (pv 3) (po_some (pe_op (y_add (K := K)) (pv 6) pe_int)) po_none) pa_nil))))
      (pss_one (ps_ret (pe_lc (own := [("_law_k", 5)]) (g := gName 5) (by rfl) sc__law_names_by.nd (pi_range1 (by rfl) W.z_range (pa_cons pe_int pa_nil)) (blkOk_by (own := [("_law_k", 5)]) (N := N__law_names_by) (sc := defScope s__law_names_by) (by decide +kernel)) (fun _ _ _ _ _ => pg_name (i := 5) sc__law_names_by.nd rfl (Or.inl rfl)) (fun _ _ _ _ _ => pts_nil) (fun _ _ _ _ _ => (pe_op (y_add (K := K)) (pe_op (y_add (K := K)) (pe_ix (y_ix (K := K)) (pv 7) pe_int (fun _ _ => rfl)) (pe_ix (y_ix (K := K)) (pv 1) (pe_op y_mod (pe_op (y_add (K := K)) (pe_op y_fdiv (pv 0) pe_int) (pe_op y_mul pe_int (pv 5))) pe_int) (fun _ _ => rfl))) (pe_ix (y_ix (K := K)) (pv 7) pe_int (fun _ _ => rfl))))))))))))))), ?_⟩
    walk_at "ev"
    have hm : c % 12 < 12 := Int.emod_lt_of_pos _ (by omega)
    have hm0 : 0 ≤ c % 12 := Int.emod_nonneg _ (by omega)
    obtain ⟨n, en, hn⟩ : ∃ n : Nat, 1 + c % 12 = (n : Int) ∧ 1 ≤ n ∧ n ≤ 12 := ⟨(1 + c % 12).toNat, by omega, by omega, by omega⟩
    rw [en]
    refine ⟨by omega, ?_⟩
    rw [Int.toNat_natCast]
    refine for_rng (fun i σ H' => H' = H ∧ ∃ z num x, z.length = i ∧ (∀ c ∈ z, 97 ≤ c ∧ c ≤ 122) ∧ σ = [some (V.int c), some (.str "abcdefghijklmnopqrstuvwxyz"), some (V.int (n : Int)), some (V.str (st z)), some (V.int num), x, none, none]) ⟨rfl, [], c, none, rfl, (fun _ h => by cases h), rfl⟩ ?_ ?_
    · rintro i σ H' hi ⟨rfl, z, num, x, hz, hc, rfl⟩
      walk_at "ev"
      refine ⟨letAt ((num * 48271 + 11) % 2147483647 / 7), by decide +kernel, letAt_at _, by omega, ?_⟩
      refine ⟨_, _, _, by rw [List.length_append, hz]; rfl, fun y hy => ?_, rfl⟩
      rcases List.mem_append.mp hy with h | h
      · exact hc y h
      · rw [List.mem_singleton.mp h]
        exact letAt_ok _
    · rintro σ H' ⟨rfl, z, num, x, hz, hc, rfl⟩
      walk_at "ev"
      refine brS_of (fun hd => ?_) (fun hd => ?_)
      · walk_at "ev"
        intro D hD
        refine lc_rng (fun i => some (txtV (repS (z.take 1) (1 + (0 + (i : Int) + c / 36) % 12).toNat))) hD (by decide) (fun i H2 hi sm Ny Nn hy hz2 => ?_) (fun H2 sm hd2 => ?_)
        · have h12 : ((0 : Int) + (i : Int) + c / 36) % 12 < 12 := Int.emod_lt_of_pos _ (by omega)
          have h0 : 0 ≤ ((0 : Int) + (i : Int) + c / 36) % 12 := Int.emod_nonneg _ (by omega)
          walk_at "ev"
          have e1 : cutS (st z) none (some 1) = st (z.take 1) := cut_take (n := 1) (by omega)
          rw [e1, codes_st, len_st]
          have e2 : (z.take 1).length = 1 := by rw [List.length_take]; omega
          rw [e2]
          refine ⟨by omega, ⟨by omega, by omega, by omega⟩, ?_⟩
          exact hy _ _ (Same.refl _) rfl
        · refine q D H2 ((List.range 7).map fun (i : Nat) => repS (z.take 1) (1 + (0 + (i : Int) + c / 36) % 12).toNat) sm hD (by simp) ?nd (fun y hy => ?_) ?_
          case nd =>
            rw [List.nodup_iff_pairwise_ne, List.pairwise_map]
            refine (List.pairwise_lt_range (n := 7)).imp_of_mem fun {i j} hi hj h e => ?_
            rw [List.mem_range] at hi hj
            have h := congrArg List.length e
            rw [repS_len, repS_len, List.length_take, hz, show min 1 n = 1 by omega] at h
            omega
          · obtain ⟨i, _, rfl⟩ := List.mem_map.mp hy
            have h12 : (0 + (i : Int) + c / 36) % 12 < 12 := Int.emod_lt_of_pos _ (by omega)
            have h0 : 0 ≤ (0 + (i : Int) + c / 36) % 12 := Int.emod_nonneg _ (by omega)
            refine ⟨?_, fun y hy => hc y (List.mem_of_mem_take (mem_rep hy))⟩
            rw [repS_len, List.length_take, hz]
            rw [show min 1 n = 1 by omega]
            omega
          · rw [hd2, List.map_map, List.filterMap_eq_map']
            rfl
      · have hsp : c / 36 % (n : Int) < n := Int.emod_lt_of_pos _ (by omega)
        have hsp0 : 0 ≤ c / 36 % (n : Int) := Int.emod_nonneg _ (by omega)
        walk_at "ev"
        refine ⟨by omega, by omega, by omega, fun p hp => ?_⟩
        intro D hD
        obtain ⟨m, em⟩ : ∃ m : Nat, c / 36 % (n : Int) = (m : Int) := ⟨(c / 36 % (n : Int)).toNat, by omega⟩
        rw [em] at hD hsp ⊢
        rw [show ((m : Int) + 1) = ((m + 1 : Nat) : Int) from rfl] at hD ⊢
        rw [cut_take (by omega), cut_drop (by omega)] at hD ⊢
        refine lc_rng (fun i => some (txtV (z.take m ++ [letAt (c / 500 + 7 * (0 + (i : Int)))] ++ z.drop (m + 1)))) hD (by decide) (fun i H2 hi sm Ny Nn hy hz2 => ?_) (fun H2 sm hd2 => ?_)
        · walk_at "ev"
          have hp2 := sm _ _ (upd_same (H := H') (a := p) (o := .lst [V.str (st (z.take m)), V.str (st (z.drop (m + 1)))]))
          have hl1 : (z.take m).length ≤ 12 := by rw [List.length_take]; omega
          have hl2 : (z.drop (m + 1)).length ≤ 12 := by rw [List.length_drop]; omega
          refine ⟨_, _, .inl (SqL.of hp2), rfl, letAt (c / 500 + 7 * (0 + (i : Int))), by decide +kernel, letAt_at _, ?_⟩
          walk_at "ev"
          refine ⟨by omega, _, _, .inl (SqL.of hp2), rfl, ?_⟩
          walk_at "ev"
          refine ⟨by rw [List.length_append]; show _ + 1 + _ ≤ _; omega, ?_⟩
          exact hy _ _ (Same.refl _) rfl
        · have sm2 := (same_new hp).trans sm
          refine q D H2 ((List.range 7).map fun (i : Nat) => z.take m ++ [letAt (c / 500 + 7 * (0 + (i : Int)))] ++ z.drop (m + 1)) sm2 ((same_new hp).free hD) (by simp) ?nd (fun y hy => ?_) ?_
          case nd =>
            rw [List.nodup_iff_pairwise_ne, List.pairwise_map]
            refine (List.pairwise_lt_range (n := 7)).imp_of_mem fun {i j} hi hj h e => ?_
            rw [List.mem_range] at hi hj
            have e := (List.append_inj (List.append_inj e (by simp)).1 rfl).2
            have e := List.singleton_inj.mp e
            have e := letAt_inj e
            omega
          · obtain ⟨i, _, rfl⟩ := List.mem_map.mp hy
            refine ⟨?_, fun y hy => ?_⟩
            · rw [List.length_append, List.length_append, List.length_take, List.length_drop, hz]
              simp only [List.length_cons, List.length_nil]
              omega
            · rcases List.mem_append.mp hy with h | h
              · rcases List.mem_append.mp h with h | h
                · exact hc y (List.mem_of_mem_take h)
                · rw [List.mem_singleton.mp h]
                  exact letAt_ok _
              · exact hc y (List.mem_of_mem_drop h)
          · rw [hd2, List.map_map, List.filterMap_eq_map']
            rfl
    
def sp__law_sign_by {K : PySem.W.Frag} {mg : Str → Option Value} {base : Heap} (W : Wd K mg base) : Sp := fun vs H Q _ => ∃ (i : Int), vs = [.int i] ∧ Q (.str (st [sgn i])) H
theorem ok__law_sign_by (W : Wd K mg base) : FnOk P w K mg base CX0 1 W.f__law_sign_by W.d__law_sign_by ["_law_cell"] (sp__law_sign_by W) := by
  refine W.F__law_sign_by.ok sc__law_sign_by (fun vs H Q E h => ?_) (fun cdv A outer s H vs Q E hr h => ?_)
  · obtain ⟨i, rfl, q⟩ := h
    rfl
  · obtain ⟨i, rfl, q⟩ := h
    refine ⟨_, (pss_cons (ps_set (i := 1) sc__law_sign_by.nd rfl (by first | exact Or.inl rfl | exact Or.inr rfl) pe_str)
      (pss_cons (ps_set (i := 1) sc__law_sign_by.nd rfl (by first | exact Or.inl rfl | exact Or.inr rfl) (pe_op (y_add (K := K)) (pv 1) pe_str))
      (pss_one (ps_ret (pe_ix (y_ix (K := K)) (pv 1) (pe_op y_mod (pv 0) pe_int) (fun _ _ => rfl)))))), ?_⟩
    walk_at "ev"
    refine ⟨by decide +kernel, sgn i, by decide +kernel, sgn_at i, q⟩
def sp__law_text_by {K : PySem.W.Frag} {mg : Str → Option Value} {base : Heap} (W : Wd K mg base) : Sp := fun vs H Q _ => ∃ (c : Int) (n : Nat), vs = [.int c, .int (n : Int)] ∧ n ≤ 4000 ∧ ∀ H', Same H H' → Q (.str (st (textBy c n))) H'
theorem ok__law_text_by (W : Wd K mg base) : FnOk P w K mg base CX0 2 W.f__law_text_by W.d__law_text_by ["_law_cell", "_law_size"] (sp__law_text_by W) := by
  refine W.F__law_text_by.ok sc__law_text_by (fun vs H Q E h => ?_) (fun cdv A outer s H vs Q E hr h => ?_)
  · obtain ⟨c, n, rfl, hn, q⟩ := h
    rfl
  · obtain ⟨c, n, rfl, hn, q⟩ := h
    refine ⟨_, (pss_cons (ps_set (i := 2) sc__law_text_by.nd rfl (by first | exact Or.inl rfl | exact Or.inr rfl) (pe_ix (y_ix (K := K)) (pe_lst (pa_cons pe_int (pa_cons pe_int (pa_cons pe_int (pa_cons pe_int pa_nil))))) (pe_op y_mod (pv 0) pe_int) (fun _ _ => rfl)))
      (pss_cons (ps_set (i := 3) sc__law_text_by.nd rfl (by first | exact Or.inl rfl | exact Or.inr rfl) (pv 1))
      (pss_cons (ps_if (pt_cmpR (y_eq (K := K) hr.units) (pe_op y_mod (pv 0) pe_int) pe_int (nomark _)) (pss_one (ps_set (i := 3) sc__law_text_by.nd rfl (by first | exact Or.inl rfl | exact Or.inr rfl) (pe_callB (y_min rfl) (by rfl) W.z_min (by decide +kernel) (pa_cons (pv 1) (pa_cons (pe_op (y_add (K := K)) pe_int (pe_op y_mod (pe_op y_fdiv (pv 0) pe_int) pe_int)) pa_nil))))) pss_nil)
      (pss_cons (ps_if (pt_cmpR (y_eq (K := K) hr.units) (pv 3) pe_int (nomark _)) (pss_one (ps_ret pe_str)) pss_nil)
      (pss_cons (ps_set (i := 4) sc__law_text_by.nd rfl (by first | exact Or.inl rfl | exact Or.inr rfl) pe_str)
      (pss_cons (ps_set (i := 5) sc__law_text_by.nd rfl (by first | exact Or.inl rfl | exact Or.inr rfl) (pv 0))
      (pss_cons (ps_for PassesOwn.never rfl (pi_range1 (by rfl) W.z_range (pa_cons (pv 3) pa_nil)) (pg_name (i := 6) sc__law_text_by.nd rfl (by first | exact Or.inl rfl | exact Or.inr rfl)) (pss_cons (ps_set (i := 5) sc__law_text_by.nd rfl (by first | exact Or.inl rfl | exact Or.inr rfl) (pe_op y_mod (pe_op (y_add (K := K)) (pe_op y_mul (pv 5) pe_int) pe_int) pe_int))
      (pss_one (ps_set (i := 4) sc__law_text_by.nd rfl (by first | exact Or.inl rfl | exact Or.inr rfl) (pe_op (y_add (K := K)) (pv 4) (pe_callS (E := (fun _ => E0)) (ok__law_sign_by W) (hr.mono (by first | decide | omega)) (by rfl) W.m__law_sign_by W.F__law_sign_by.kp W.b__law_sign_by (fun _ => pass0S) (pa_cons (pe_op (y_add (K := K)) pe_int (pe_op y_mod (pe_op y_fdiv (pv 5) pe_int) (pv 2))) pa_nil)))))))
      (pss_one (ps_ret (pe_slice (y_sl (K := K)) (pe_op y_mul (pv 4) (pe_op (y_add (K := K)) (pe_op y_fdiv (pv 1) (pv 3)) pe_int)) po_none (po_some (pv 1)))))))))))), ?_⟩
    walk_at "ev"
    intro p hp
    refine ⟨_, _, .inl (SqL.of upd_same), sgs_at c, ?_⟩
    have sm := same_new (o := .lst [V.int 2, V.int 95, V.int 95, V.int 1]) hp
    generalize upd H p (.lst [V.int 2, V.int 95, V.int 95, V.int 1]) = H1 at sm ⊢
    have hs := sgs_pos c
    refine brS_join (R := fun σ H => H = H1 ∧ σ = [some (V.int c), some (V.int (n : Int)), some (V.int (sgs c)), some (V.int (blkN c n : Nat)), none, none, none]) ?_ ?_
    · rintro σ H2 ⟨rfl, rfl⟩
      walk_at "ev"
      refine brS_of (fun hc => ?_) (fun hc => ?_) <;> walk_at "ev"
      · have h0 : blkN c n = 0 := by
          have := of_decide_eq_true hc
          omega
        have hn0 : n = 0 := by
          refine Nat.eq_zero_of_not_pos fun hp => ?_
          have := blkN_pos (c := c) hp
          omega
        have := q _ sm
        rw [hn0] at this
        exact this
      · have h0 : 0 < blkN c n := by
          have := of_decide_eq_false hc
          omega
        have hle := blkN_le c n
        refine ⟨by omega, ?_⟩
        rw [Int.toNat_natCast]
        refine for_rng (fun i σ H' => H' = H2 ∧ ∃ x, σ = [some (V.int c), some (V.int (n : Int)), some (V.int (sgs c)), some (V.int (blkN c n : Nat)), some (V.str (st (blk c i))), some (V.int (numS c i)), x]) ⟨rfl, none, rfl⟩ ?_ ?_
        · rintro i σ H' hi ⟨rfl, x, rfl⟩
          walk_at "ev"
          refine ⟨hs, _, rfl, ?_⟩
          walk_at "ev"
          refine ⟨?_, ?_⟩
          · rw [blk_len]
            omega
          · rw [blk_succ]
            exact ⟨_, rfl⟩
        · rintro σ H' ⟨rfl, x, rfl⟩
          walk_at "ev"
          have hd : (n : Int) / (blkN c n : Int) = ((n / blkN c n : Nat) : Int) := rfl
          have hd2 : n / blkN c n ≤ n := Nat.div_le_self _ _
          have hl : (repS (blk c (blkN c n)) (n / blkN c n + 1)).length ≤ 8000 := by
            rw [repS_len, blk_len, Nat.add_mul]
            have hm : n / blkN c n * blkN c n ≤ n := Nat.div_mul_le_self n _
            omega
          have hg : n ≤ (repS (blk c (blkN c n)) (n / blkN c n + 1)).length := by
            have := textBy_len c n
            unfold textBy at this
            rw [List.length_take] at this
            omega
          have hq := q _ sm
          unfold textBy at hq
          rw [hd]
          generalize n / blkN c n = m at hd2 hl hg hq ⊢
          have hk : ((m : Int) + 1).toNat = m + 1 := by omega
          rw [hk, blk_len]
          rw [repS_len, blk_len, Nat.mul_comm] at hl
          refine ⟨⟨by omega, by omega⟩, ⟨by omega, by omega, by omega⟩, ?_⟩
          rw [cut_take hg]
          refine ⟨?_, hq⟩
          rw [repS_len, blk_len, Nat.mul_comm]
          omega
    · intro N k
      refine brS_of (fun hc => ?_) (fun hc => ?_) <;> walk_at "ev"
      · refine k _ _ ⟨rfl, ?_⟩
        have hc' := of_decide_eq_true hc
        unfold blkN
        rw [if_pos hc']
        have e : min (n : Int) (1 + c / 4 % 50) = ((min n (1 + (c / 4 % 50).toNat) : Nat) : Int) := by omega
        rw [e]
      · refine k _ _ ⟨rfl, ?_⟩
        unfold blkN
        rw [if_neg (of_decide_eq_false hc)]
def sp_Stock__is_kept {K : PySem.W.Frag} {mg : Str → Option Value} {base : Heap} (W : Wd K mg base) : Sp := fun vs H Q _ => ∃ r S v, vs = [.ref r.k, v] ∧ (StAt W.c_Stock H r S ∧ tyN v ≠ none) ∧ Q (.bl (S.find v).isSome) H
theorem ok_Stock__is_kept (W : Wd K mg base) : FnOk P w K mg base CX0 2 W.f_Stock__is_kept W.d_Stock__is_kept ["self", "number"] (sp_Stock__is_kept W) := by
  refine W.F_Stock__is_kept.ok sc_Stock__is_kept (fun vs H Q E h => ?_) (fun cdv A outer s H vs Q E hr h => ?_)
  · obtain ⟨r, S, v, rfl, ⟨hS, hv⟩, q⟩ := h
    rfl
  · obtain ⟨r, S, v, rfl, ⟨hS, hv⟩, q⟩ := h
    refine ⟨_, (pss_one (ps_ret (pe_and (pe_callS (E := (fun _ => E0)) (ok_is_number W) (hr.mono (by first | decide | omega)) (by rfl) W.m_is_number W.F_is_number.kp W.b_is_number (fun _ => pass0S) (pa_cons (pv 1) pa_nil)) (pe_one (pe_cmp (pc_din (hu_of hr) (pv 1) (y_fld (K := K) (pv 0))) (by rfl)))))), ?_⟩
    walk_at "ev"
    refine ⟨v, rfl, hv, ?_⟩
    walk_at "ev"
    cases v <;> first | (exact absurd rfl hv) | skip
    · exact q
    · exact q
    · rename_i n
      show brE true _ _ _ _ _
      walk_at "ev"
      rw [fT W hS.ob]
      walk_at "ev"
      refine ⟨_, dgI hS.tx (valV_mp _), ?_⟩
      rw [Option.isSome_map]
      exact q
    · exact q
def sp_Stock__check_kept {K : PySem.W.Frag} {mg : Str → Option Value} {base : Heap} (W : Wd K mg base) : Sp := fun vs H Q E => ∃ r S v, vs = [.ref r.k, v] ∧ (StAt W.c_Stock H r S ∧ tyN v ≠ none) ∧ ((S.find v).isSome = true → Q .non H) ∧ (S.find v = none → E (.ref W.e_NotThere) none H)
theorem ok_Stock__check_kept (W : Wd K mg base) : FnOk P w K mg base (L2.CX P w) 3 W.f_Stock__check_kept W.d_Stock__check_kept ["self", "number"] (sp_Stock__check_kept W) := by
  refine W.F_Stock__check_kept.okX sc_Stock__check_kept (fun vs H Q E h => ?_) (fun cdv A outer s H vs Q E hr h => ?_)
  · obtain ⟨r, S, v, rfl, ⟨hS, hv⟩, q1, q2⟩ := h
    rfl
  · obtain ⟨r, S, v, rfl, ⟨hS, hv⟩, q1, q2⟩ := h
    refine ⟨_, (pss_one (ps_if (pt_not (pt_val (pe_methE (E := (fun _ => E0)) (pv 0) W.T_Stock W.q_Stock__is_kept (ok_Stock__is_kept W) (hr.mono (by first | decide | omega)) W.b_Stock__is_kept (fun _ => pass0S) (pa_cons (pv 1) pa_nil)))) (pss_one (ps_raiseE rfl (takes_of rfl rfl rfl rfl) W.E_NotThere)) pss_nil)), ?_⟩
    walk_at "ev"
    rw [fM W hS.ob (by decide +kernel)]
    walk_at "ev"
    refine ⟨r, S, v, rfl, ⟨hS, hv⟩, ?_⟩
    walk_at "ev"
    cases e : S.find v with
    | some i =>
      walk_at "ev"
      exact q1 (by rw [e]; rfl)
    | none =>
      walk_at "ev"
      exact q2 e
def sp_Stock_piece {K : PySem.W.Frag} {mg : Str → Option Value} {base : Heap} (W : Wd K mg base) : Sp := fun vs H Q E => ∃ r S v, vs = [.ref r.k, v] ∧ (StAt W.c_Stock H r S ∧ tyN v ≠ none) ∧ (∀ i, S.find v = some i → Q (txtV i.txt) H) ∧ (S.find v = none → E (.ref W.e_NotThere) none H)
theorem ok_Stock_piece (W : Wd K mg base) : FnOk P w K mg base (L2.CX P w) 4 W.f_Stock_piece W.d_Stock_piece ["self", "number"] (sp_Stock_piece W) := by
  refine W.F_Stock_piece.okX sc_Stock_piece (fun vs H Q E h => ?_) (fun cdv A outer s H vs Q E hr h => ?_)
  · obtain ⟨r, S, v, rfl, ⟨hS, hv⟩, q1, q2⟩ := h
    rfl
  · obtain ⟨r, S, v, rfl, ⟨hS, hv⟩, q1, q2⟩ := h
    refine ⟨_, (pss_cons (ps_expr (pe_methE (E := (WE (fun cls d _ H => E cls d H))) (pv 0) W.T_Stock W.q_Stock__check_kept (ok_Stock__check_kept W) (hr.mono (by first | decide | omega)) W.b_Stock__check_kept (fun σ => passAt (takes_of rfl rfl rfl rfl) σ) (pa_cons (pv 1) pa_nil)))
      (pss_one (ps_ret (pe_dget (hu_of hr) (y_fld (K := K) (pv 0)) (pv 1) (fun _ _ => rfl))))), ?_⟩
    walk_at "ev"
    rw [fM W hS.ob (by decide +kernel)]
    walk_at "ev"
    refine ⟨r, S, v, rfl, ⟨hS, hv⟩, fun h => ?_, q2⟩
    obtain ⟨i, e⟩ := Option.isSome_iff_exists.mp h
    walk_at "ev"
    rw [fT W hS.ob]
    walk_at "ev"
    obtain ⟨ev, _⟩ := StM.find_some e
    subst ev
    refine ⟨_, dgI hS.tx (by rw [valV_mp, show S.its.find? _ = some i from e]; rfl), ?_⟩
    exact q1 i e
def sp_Stock_count {K : PySem.W.Frag} {mg : Str → Option Value} {base : Heap} (W : Wd K mg base) : Sp := fun vs H Q _ => ∃ r S v, vs = [.ref r.k, v] ∧ (StAt W.c_Stock H r S ∧ tyN v ≠ none) ∧ Q (natV (((S.find v).map (·.cnt)).getD 0)) H
theorem ok_Stock_count (W : Wd K mg base) : FnOk P w K mg base CX0 3 W.f_Stock_count W.d_Stock_count ["self", "number"] (sp_Stock_count W) := by
  refine W.F_Stock_count.ok sc_Stock_count (fun vs H Q E h => ?_) (fun cdv A outer s H vs Q E hr h => ?_)
  · obtain ⟨r, S, v, rfl, ⟨hS, hv⟩, q⟩ := h
    rfl
  · obtain ⟨r, S, v, rfl, ⟨hS, hv⟩, q⟩ := h
    refine ⟨_, (pss_one (ps_ret (pe_ifExp (pt_val (pe_methE (E := (fun _ => E0)) (pv 0) W.T_Stock W.q_Stock__is_kept (ok_Stock__is_kept W) (hr.mono (by first | decide | omega)) W.b_Stock__is_kept (fun _ => pass0S) (pa_cons (pv 1) pa_nil))) (pe_dget (hu_of hr) (y_fld (K := K) (pv 0)) (pv 1) (fun _ _ => rfl)) pe_int))), ?_⟩
    walk_at "ev"
    rw [fM W hS.ob (by decide +kernel)]
    walk_at "ev"
    refine ⟨r, S, v, rfl, ⟨hS, hv⟩, ?_⟩
    walk_at "ev"
    cases e : S.find v with
    | some i =>
      rw [e] at q
      walk_at "ev"
      rw [fC W hS.ob]
      walk_at "ev"
      obtain ⟨ev, _⟩ := StM.find_some e
      subst ev
      refine ⟨_, dgI hS.ct (by rw [valV_mp, show S.its.find? _ = some i from e]; rfl), ?_⟩
      exact q
    | none =>
      rw [e] at q
      walk_at "ev"
      exact q
def sp_Stock_numbers {K : PySem.W.Frag} {mg : Str → Option Value} {base : Heap} (W : Wd K mg base) : Sp := fun vs H Q _ => ∃ r S, vs = [.ref r.k] ∧ (StAt W.c_Stock H r S ∧ S.Ok) ∧ ∀ p, H p = none → Q (.ref p) (upd H p (.lst (S.its.map fun i => natV i.num)))
theorem ok_Stock_numbers (W : Wd K mg base) : FnOk P w K mg base CX0 1 W.f_Stock_numbers W.d_Stock_numbers ["self"] (sp_Stock_numbers W) := by
  refine W.F_Stock_numbers.ok sc_Stock_numbers (fun vs H Q E h => ?_) (fun cdv A outer s H vs Q E hr h => ?_)
  · obtain ⟨r, S, rfl, ⟨hS, ok⟩, q⟩ := h
    rfl
  · obtain ⟨r, S, rfl, ⟨hS, ok⟩, q⟩ := h
    refine ⟨_, (pss_one (ps_ret (pe_callB (y_sortedDI rfl) (by rfl) W.z_sorted (by decide +kernel) (pa_cons (y_fld (K := K) (pv 0)) pa_nil)))), ?_⟩
    walk_at "ev"
    rw [fT W hS.ob]
    walk_at "ev"
    refine ⟨r.t, _, S.its.map fun i => (i.num : Int), rfl, .inl hS.tx, ?_, fun ys p hp hs h => ?_⟩
    · rw [mp_keys, List.map_map]
      rfl
    · have e : ys = S.its.map fun i => (i.num : Int) := perm_sorted hp hs (by
        have := ok.asc
        rw [List.pairwise_map] at this ⊢
        exact this.imp fun h => by omega)
      rw [e, List.map_map]
      exact q p h
def sp_Shelf_pieces {K : PySem.W.Frag} {mg : Str → Option Value} {base : Heap} (W : Wd K mg base) : Sp := fun vs H Q _ => ∃ r M, vs = [.ref r.k] ∧ ShAt W.c_Shelf W.c_Stock H r M ∧ M.Ok ∧ M.S.its.length < 1000000 ∧ ∀ p as H', Same H H' → H p = none → H' p = some (.lst (as.map V.ref)) → TupsAt H' as (M.S.its.map fun i => [natV i.num, txtV i.txt, natV i.cnt]) → Q (.ref p) H'
theorem ok_Shelf_pieces (W : Wd K mg base) : FnOk P w K mg base (L2.CX P w) 5 W.f_Shelf_pieces W.d_Shelf_pieces ["self"] (sp_Shelf_pieces W) := by
  refine W.F_Shelf_pieces.okX sc_Shelf_pieces (fun vs H Q E h => ?_) (fun cdv A outer s H vs Q E hr h => ?_)
  · obtain ⟨r, M, rfl, hS, ok, hl, q⟩ := h
    rfl
  · obtain ⟨r, M, rfl, hS, ok, hl, q⟩ := h
    refine ⟨_, (pss_cons (ps_set (i := 1) sc_Shelf_pieces.nd rfl (by first | exact Or.inl rfl | exact Or.inr rfl) (y_fld (K := K) (pv 0)))
      (pss_one (ps_ret (pe_lc (own := [("number", 2)]) (g := gName 2) (by rfl) sc_Shelf_pieces.nd (pi_list (pe_methE0 (E := (fun _ => E0)) (pv 1) W.T_Stock W.q_Stock_numbers (ok_Stock_numbers W) (hr.mono (by first | decide | omega)) W.b_Stock_numbers (fun _ => pass0S))) (blkOk_by (own := [("number", 2)]) (N := N_Shelf_pieces) (sc := defScope s_Shelf_pieces) (by decide +kernel)) (fun _ _ _ _ _ => pg_name (i := 2) sc_Shelf_pieces.nd rfl (Or.inl rfl)) (fun _ _ _ _ _ => pts_nil) (fun _ _ _ _ _ => (pe_tup (pa_cons (pv 2) (pa_cons (pe_methE (E := (fun _ => E0)) (pv 1) W.T_Stock W.q_Stock_piece (ok_Stock_piece W) (hr.mono (by first | decide | omega)) W.b_Stock_piece (fun _ => passLS) (pa_cons (pv 2) pa_nil)) (pa_cons (pe_methE (E := (fun _ => E0)) (pv 1) W.T_Stock W.q_Stock_count (ok_Stock_count W) (hr.mono (by first | decide | omega)) W.b_Stock_count (fun _ => pass0S) (pa_cons (pv 2) pa_nil)) pa_nil))))))))), ?_⟩
    walk_at "ev"
    rw [sS W hS.ob]
    walk_at "ev"
    rw [fM W hS.st.ob (by decide +kernel)]
    refine ⟨r.s, M.S, rfl, ⟨hS.st, ok.sok⟩, fun p hp => ?_⟩
    walk_at "ev"
    refine ⟨⟨_, SqL.of upd_same⟩, fun D hD => ?_⟩
    refine lc_tupsL (l := M.S.its) (g := fun i => natV i.num) (fun i => some [natV i.num, txtV i.txt, natV i.cnt]) hD (SqL.of upd_same) (by omega) (fun i H4 hi s4 Ny Nn h1 h2 => ?_) (fun H4 as s4 h ht => ?_)
    · walk_at "ev"
      have hS4 := (hS.same (same_new (o := .lst (M.S.its.map fun i => natV i.num)) hp)).same s4
      have ei : M.S.find (natV i.num) = some i := StM.byN_of ok.sok hi
      rw [fM W hS4.st.ob (by decide +kernel)]
      refine ⟨r.s, M.S, natV i.num, rfl, ⟨hS4.st, by simp [tyN]⟩, fun j hj => ?_, fun e => by rw [ei] at e; cases e⟩
      rw [ei] at hj
      cases hj
      show insAt _ _ _ _ _
      rw [fM W hS4.st.ob (by decide +kernel)]
      refine ⟨r.s, M.S, natV i.num, rfl, ⟨hS4.st, by simp [tyN]⟩, ?_⟩
      rw [ei]
      intro p2 hp2
      exact h1 p2 _ _ (same_new hp2) rfl upd_same
    · have s0 : Same H H4 := (same_new (o := .lst (M.S.its.map fun i => natV i.num)) hp).trans s4
      rw [show (M.S.its.filterMap fun i => some [natV i.num, txtV i.txt, natV i.cnt]) = M.S.its.map fun i => [natV i.num, txtV i.txt, natV i.cnt] from by rw [List.filterMap_eq_map']] at ht
      exact q D as H4 s0 ((same_new (o := .lst (M.S.its.map fun i => natV i.num)) hp).free hD) h ht
def sp_Shelf_names {K : PySem.W.Frag} {mg : Str → Option Value} {base : Heap} (W : Wd K mg base) : Sp := fun vs H Q _ => ∃ r M, vs = [.ref r.k] ∧ ShAt W.c_Shelf W.c_Stock H r M ∧ M.rows.length ≤ 100 ∧ ∀ p H' (zs : List Key), zs.Perm ((M.rows.map fun x => (Sum.inr (st x.nm) : Key)).foldl addK []) → (zs.Pairwise fun x y => ltK y x = false) → Fr [] H H' → H p = none → H' p = some (.lst (zs.map kV)) → Q (.ref p) H'
theorem ok_Shelf_names (W : Wd K mg base) : FnOk P w K mg base CX0 1 W.f_Shelf_names W.d_Shelf_names ["self"] (sp_Shelf_names W) := by
  refine W.F_Shelf_names.ok sc_Shelf_names (fun vs H Q E h => ?_) (fun cdv A outer s H vs Q E hr h => ?_)
  · obtain ⟨r, M, rfl, hS, hl, q⟩ := h
    rfl
  · obtain ⟨r, M, rfl, hS, hl, q⟩ := h
    refine ⟨_, (pss_one (ps_ret (pe_callB (y_sortedSet (w := w) rfl) (by rfl) W.z_sorted (by decide +kernel) (pa_cons (pe_lock (Y.pe_sc (w := w) (own := [("name", 1), ("_", 2)]) (g := gTup K 2 (gCons (gName 1) (gCons (gName 2) (gNil)))) (by rfl) sc_Shelf_names.nd (pi_keys (y_fld (K := K) (pv 0))) (blkOk_by (own := [("name", 1), ("_", 2)]) (N := N_Shelf_names) (sc := defScope s_Shelf_names) (by decide +kernel)) (fun _ _ _ _ _ => pg_tup (by rfl) (pgs_cons (pg_name (i := 1) sc_Shelf_names.nd rfl (Or.inl rfl)) (pgs_cons (pg_name (i := 2) sc_Shelf_names.nd rfl (Or.inl rfl)) (pgs_nil)))) (fun _ _ _ _ _ => pts_nil) (fun _ _ _ _ _ => (pv 1)))) pa_nil)))), ?_⟩
    walk_at "ev"
    refine ⟨r.rw_, _, hS.rw_, trivial, fun od => ?_⟩
    rw [sO W (by rw [upd_ne hS.kr]; exact hS.ob)]
    refine keysT upd_same fun D hD => ?_
    refine sc_keysT2 (l := M.rows) (ka := fun x => Sum.inr (st x.nm)) (kb := fun x => Sum.inl (x.num : Int)) (val := fun x => V.ref x.at_) (fun x => Sum.inr (st x.nm)) (by decide) upd_same hD (by show _ < 4096; omega) (fun x H4 hx s4 Ny Nn h1 => ?_) (fun H4 s4 h4 => ?_)
    · walk_at "ev"
      exact h1 _ (Same.refl _)
    · refine ⟨s4 _ _ upd_same, ?_⟩
      have s0 := lock_same hS.rw_ s4
      have nD : D ≠ r.rw_ := fun z => by rw [z, upd_same] at hD; cases hD
      refine ⟨D, _, false, rfl, (upd_ne nD).trans h4, fun k hk => ?_, fun zs p hp pw hpn => q p _ zs hp pw (frS (s0.trans (same_new hpn))) (s0.free hpn) upd_same⟩
      rcases (foldl_addK_mem _ _ _).mp hk with h | h
      · cases h
      · obtain ⟨x, _, rfl⟩ := List.mem_map.mp h
        rfl
def sp_is_name {K : PySem.W.Frag} {mg : Str → Option Value} {base : Heap} (W : Wd K mg base) : Sp := fun vs H Q _ => ∃ v, vs = [v] ∧ tyN v ≠ none ∧ GxR.TabG H W.P_is_name ∧ (∀ x, v = .str x → x.length ≤ 16777216) ∧ ∀ H', Fr [] H H' → Q (.bl (isNm v)) H'
theorem ok_is_name (W : Wd K mg base) : FnOk P w K mg base CX0 1 W.f_is_name W.d_is_name ["thing"] (sp_is_name W) := by
  refine okC W.F_is_name W.hc_is_name sc_is_name (fun vs H Q E h => ?_) (fun A outer s H vs Q E hr h => ?_)
  · obtain ⟨v, rfl, hv, hT, hx, q⟩ := h
    rfl
  · obtain ⟨v, rfl, hv, hT, hx, q⟩ := h
    refine ⟨_, (pss_cons (ps_if (PW.pt (pw_or (pt_not (pt_val (pe_callB y_isi (by rfl) W.z_isinstance (by decide +kernel) (pa_cons (pv 0) (pa_cons (pe_bltn (v := .ty "str") (by rfl) W.z_str (by decide +kernel) rfl) pa_nil))))) (pw_or1 (pt_not (pt_chain y_le y_le pe_int (pe_callB (y_len (K := K)) (by rfl) W.z_len (by decide +kernel) (pa_cons (pv 0) pa_nil)) (pe_glob (v := .int 12) (by rfl) W.m_MOST_LETTERS ⟨_, rfl⟩)))))) (pss_one (ps_ret pe_bl)) pss_nil)
      (pss_one (ps_ret (pe_allT (pb := pbN) hr (by rfl) W.z_all W.TB_is_name rfl (genS_of rfl rfl (by decide +kernel) rfl rfl (by decide +kernel)) (pv 0) (fun cenv m₂ c t h1 h2 h3 hm => px_chainS px_str (px_local (by first | (rw [h1]; done) | (rw [h1]; rfl)) (by first | (rw [h1]; done) | (rw [h1]; rfl)) hm ⟨t, rfl⟩) px_str))))), ?_⟩
    cases v <;> first | (exact absurd rfl hv) | skip
    · walk_at "ev"
      rw [isi_mk (a := "NoneType") (b := false) rfl (by decide +kernel)]
      walk_at "ev"
      exact q _ Fr.refl
    · walk_at "ev"
      rw [isi_mk (a := "bool") (b := false) rfl (by decide +kernel)]
      walk_at "ev"
      exact q _ Fr.refl
    · walk_at "ev"
      exact q _ Fr.refl
    · rename_i x
      walk_at "ev"
      refine ⟨hx x rfl, ?_⟩
      have hq : ∀ H', Fr [] H H' → Q (.bl (decide (1 ≤ x.cps.size) && decide (x.cps.size ≤ 12) && x.cps.toList.all okN)) H' := q
      have el : (x.cps.toList.length : Int) = (x.cps.size : Int) := by rw [Array.length_toList]
      rw [el]
      refine brE_of (fun h1 => ?_) (fun h1 => ?_)
      · have g1 : 1 ≤ x.cps.size := by have := of_decide_eq_true h1; omega
        walk_at "ev"
        refine brS_of (fun h2 => ?_) (fun h2 => ?_)
        · have g2 : ¬ x.cps.size ≤ 12 := by simp at h2; omega
          rw [decide_eq_true g1, decide_eq_false g2] at hq
          exact hq _ Fr.refl
        · have g2 : x.cps.size ≤ 12 := by simp at h2; omega
          rw [decide_eq_true g1, decide_eq_true g2] at hq
          walk_at "ev"
          refine ⟨hT, fun H2 h2 => ?_⟩
          rw [show (List.all _ pbN) = List.all _ okN from congrArg _ (funext pbN_ok)]
          exact hq _ (Tabbed.fr hT h2)
      · have g1 : ¬ 1 ≤ x.cps.size := by have := of_decide_eq_false h1; omega
        rw [decide_eq_false g1] at hq
        walk_at "ev"
        exact hq _ Fr.refl
def sp__check_name {K : PySem.W.Frag} {mg : Str → Option Value} {base : Heap} (W : Wd K mg base) : Sp := fun vs H Q E => ∃ v, vs = [v] ∧ tyN v ≠ none ∧ GxR.TabG H W.P_is_name ∧ (∀ x, v = .str x → x.length ≤ 16777216) ∧ (isNm v = true → ∀ H', Fr [] H H' → Q .non H') ∧ (isNm v = false → ∀ H', Fr [] H H' → E (.ref W.e_NoName) none H')
theorem ok__check_name (W : Wd K mg base) : FnOk P w K mg base (L2.CX P w) 2 W.f__check_name W.d__check_name ["name"] (sp__check_name W) := by
  refine W.F__check_name.okX sc__check_name (fun vs H Q E h => ?_) (fun cdv A outer s H vs Q E hr h => ?_)
  · obtain ⟨v, rfl, hv, hT, hx, q1, q2⟩ := h
    rfl
  · obtain ⟨v, rfl, hv, hT, hx, q1, q2⟩ := h
    refine ⟨_, (pss_one (ps_if (pt_not (pt_val (pe_callS (E := (fun _ => E0)) (ok_is_name W) (hr.mono (by first | decide | omega)) (by rfl) W.m_is_name W.F_is_name.kp W.b_is_name (fun _ => pass0S) (pa_cons (pv 0) pa_nil)))) (pss_one (ps_raiseE rfl (takes_of rfl rfl rfl rfl) W.E_NoName)) pss_nil)), ?_⟩
    walk_at "ev"
    refine ⟨v, rfl, hv, hT, hx, fun H' f => ?_⟩
    walk_at "ev"
    refine brS_of (fun h => ?_) (fun h => ?_)
    · walk_at "ev"
      exact q2 (by simpa using h) _ f
    · walk_at "ev"
      exact q1 (by simpa using h) _ f
def sp_Shelf_versions {K : PySem.W.Frag} {mg : Str → Option Value} {base : Heap} (W : Wd K mg base) : Sp := spVer9 W
theorem ok_Shelf_versions (W : Wd K mg base) : FnOk P w K mg base (L2.CX P w) 3 W.f_Shelf_versions W.d_Shelf_versions ["self", "name"] (sp_Shelf_versions W) := by
  refine W.F_Shelf_versions.okX sc_Shelf_versions (fun vs H Q E h => ?_) (fun cdv A outer s H vs Q E hr h => ?_)
  · obtain ⟨r, M, u, rfl, hS, hl, hu, hux, hT, q1, q2⟩ := h
    rfl
  · obtain ⟨r, M, u, rfl, hS, hl, hu, hux, hT, q1, q2⟩ := h
    refine ⟨_, (pss_cons (ps_expr (pe_callS (E := (WE (fun cls d _ H => E cls d H))) (ok__check_name W) (hr.mono (by first | decide | omega)) (by rfl) W.m__check_name W.F__check_name.kp W.b__check_name (fun σ => passAt (takes_of rfl rfl rfl rfl) σ) (pa_cons (pv 1) pa_nil)))
      (pss_one (ps_ret (pe_callB cr_sortedI (by rfl) W.z_sorted (by decide +kernel) (pa_cons (pe_lock (pe_lc (own := [("other", 2), ("number", 3)]) (g := gTup K 2 (gCons (gName 2) (gCons (gName 3) (gNil)))) (by rfl) sc_Shelf_versions.nd (pi_keys (y_fld (K := K) (pv 0))) (blkOk_by (own := [("other", 2), ("number", 3)]) (N := N_Shelf_versions) (sc := defScope s_Shelf_versions) (by decide +kernel)) (fun _ _ _ _ _ => pg_tup (by rfl) (pgs_cons (pg_name (i := 2) sc_Shelf_versions.nd rfl (Or.inl rfl)) (pgs_cons (pg_name (i := 3) sc_Shelf_versions.nd rfl (Or.inl rfl)) (pgs_nil)))) (fun _ _ _ _ _ => pts_one (pt_cmpR (y_eq (K := K) hr.units) (pv 2) (pv 1) (nomark _))) (fun _ _ _ _ _ => (pv 3)))) pa_nil))))), ?_⟩
    walk_at "ev"
    refine ⟨u, rfl, hu, hT, hux, fun hn H1 f1 => ?_, fun hn H1 f1 => q2 hn _ f1⟩
    obtain ⟨nm, rfl⟩ := nm_txt hn
    replace q1 := q1 nm rfl
    walk_at "ev"
    have hS1 := hS.fr0 f1
    refine ⟨r.rw_, _, hS1.rw_, trivial, fun od => ?_⟩
    rw [sO W (by rw [upd_ne hS1.kr]; exact hS1.ob)]
    refine keysT upd_same fun D hD => ?_
    refine lc_keysT2 (l := M.rows) (ka := fun x => Sum.inr (st x.nm)) (kb := fun x => Sum.inl (x.num : Int)) (val := fun x => V.ref x.at_) (fun x => if x.nm = nm then some (.int (x.num : Int)) else none) (by decide) upd_same hD (by omega) (fun x H4 hx s4 Ny Nn h1 h2 => ?_) (fun H4 s4 h4 => ?_)
    · walk_at "ev"
      show br (decide (st x.nm = st nm)) (Ny (.int (x.num : Int)) H4) (Nn H4)
      by_cases e : x.nm = nm
      · rw [decide_eq_true (st_inj.mpr e), br_t]
        exact h1 _ _ (Same.refl _) (if_pos e)
      · rw [decide_eq_false (fun z => e (st_inj.mp z)), br_f]
        exact h2 _ (Same.refl _) (if_neg e)
    · refine ⟨s4 _ _ upd_same, ?_⟩
      have s0 := lock_same hS1.rw_ s4
      have nD : D ≠ r.rw_ := fun z => by rw [z, upd_same] at hD; cases hD
      have ef : M.rows.filterMap (fun x => if x.nm = nm then some (V.int (x.num : Int)) else none) = ((M.rows.filter fun x => decide (x.nm = nm)).map fun x => (x.num : Int)).map V.int := by
        rw [List.map_map]
        induction M.rows with
        | nil => rfl
        | cons a l ih =>
          by_cases e : a.nm = nm
          · rw [List.filterMap_cons, if_pos e, List.filter_cons_of_pos (by simpa using e), ih]
            rfl
          · rw [List.filterMap_cons, if_neg e, List.filter_cons_of_neg (by simpa using e), ih]
      rw [ef] at h4
      refine ⟨D, _, rfl, SqL.of ((upd_ne nD).trans h4), fun zs p hp pw hpn => q1 hn p _ zs hp pw (f1.same (s0.trans (same_new hpn))) (f1.live _ (s0.free hpn)) upd_same⟩
def sp_Shelf_sizes {K : PySem.W.Frag} {mg : Str → Option Value} {base : Heap} (W : Wd K mg base) : Sp := fun vs H Q _ => ∃ r M, vs = [.ref r.k] ∧ ShAt W.c_Shelf W.c_Stock H r M ∧ ∀ p, H p = none → Q (.ref p) (upd H p (.tup [natV M.w, natV M.r]))
theorem ok_Shelf_sizes (W : Wd K mg base) : FnOk P w K mg base CX0 1 W.f_Shelf_sizes W.d_Shelf_sizes ["self"] (sp_Shelf_sizes W) := by
  refine W.F_Shelf_sizes.ok sc_Shelf_sizes (fun vs H Q E h => ?_) (fun cdv A outer s H vs Q E hr h => ?_)
  · obtain ⟨r, M, rfl, hS, q⟩ := h
    rfl
  · obtain ⟨r, M, rfl, hS, q⟩ := h
    refine ⟨_, (pss_one (ps_ret (pe_tup (pa_cons (y_fld (K := K) (pv 0)) (pa_cons (y_fld (K := K) (pv 0)) pa_nil))))), ?_⟩
    walk_at "ev"
    rw [sW W hS.ob, sR W hS.ob]
    exact q
def sp_Shelf_works {K : PySem.W.Frag} {mg : Str → Option Value} {base : Heap} (W : Wd K mg base) : Sp := fun vs H Q _ => ∃ r M, vs = [.ref r.k] ∧ ShAt W.c_Shelf W.c_Stock H r M ∧ M.wk.length < 900000 ∧ (M.wk.map (·.1)).Nodup ∧ ∀ p as H', Same H H' → H p = none → H' p = some (.lst (as.map V.ref)) → TupsAt H' as ((sortK (M.wk.map wkK)).map fun k => [kV k, natV (M.given (nmK k))]) → Q (.ref p) H'
theorem ok_Shelf_works (W : Wd K mg base) : FnOk P w K mg base CX0 1 W.f_Shelf_works W.d_Shelf_works ["self"] (sp_Shelf_works W) := by
  refine W.F_Shelf_works.ok sc_Shelf_works (fun vs H Q E h => ?_) (fun cdv A outer s H vs Q E hr h => ?_)
  · obtain ⟨r, M, rfl, hS, hl, nd, q⟩ := h
    rfl
  · obtain ⟨r, M, rfl, hS, hl, nd, q⟩ := h
    refine ⟨_, (pss_one (ps_ret (pe_lc (own := [("name", 1)]) (g := gName 1) (by rfl) sc_Shelf_works.nd (pi_list (pe_callB (y_sortedDK rfl) (by rfl) W.z_sorted (by decide +kernel) (pa_cons (y_fld (K := K) (pv 0)) pa_nil))) (blkOk_by (own := [("name", 1)]) (N := N_Shelf_works) (sc := defScope s_Shelf_works) (by decide +kernel)) (fun _ _ _ _ _ => pg_name (i := 1) sc_Shelf_works.nd rfl (Or.inl rfl)) (fun _ _ _ _ _ => pts_nil) (fun _ _ _ _ _ => (pe_tup (pa_cons (pv 1) (pa_cons (pe_dget (hu_of hr) (y_fld (K := K) (pv 0)) (pv 1) (fun _ _ => rfl)) pa_nil))))))), ?_⟩
    walk_at "ev"
    rw [sK W hS.ob]
    walk_at "ev"
    refine ⟨r.wk, _, false, rfl, .inl hS.wk, fun k hk => ?_, fun zs p0 pz pw hp0 => ?_⟩
    · rw [mp_keys] at hk
      obtain ⟨x, _, rfl⟩ := List.mem_map.mp hk
      rfl
    rw [mp_keys] at pz
    have e := sortK_eq pz pw
    subst e
    have s1 := same_new (o := .lst ((sortK (M.wk.map wkK)).map kV)) hp0
    have hl1 : upd H p0 (.lst ((sortK (M.wk.map wkK)).map kV)) p0 = some (.lst ((sortK (M.wk.map wkK)).map kV)) := upd_same
    have zlen := (sortK_perm (M.wk.map wkK)).length_eq
    have zm : ∀ k ∈ sortK (M.wk.map wkK), ∃ p ∈ M.wk, k = wkK p := fun k hk => by
      obtain ⟨p, hp, e⟩ := List.mem_map.mp ((sortK_perm _).mem_iff.mp hk)
      exact ⟨p, hp, e.symm⟩
    rw [List.length_map] at zlen
    generalize sortK (M.wk.map wkK) = zs at s1 hl1 zlen zm q ⊢
    have hS1 := hS.same s1
    generalize upd H p0 (.lst (zs.map kV)) = H1 at s1 hl1 hS1 ⊢
    walk_at "ev"
    refine ⟨⟨_, SqL.of hl1⟩, fun D hD => ?_⟩
    refine lc_tupsL (l := zs) (g := kV) (fun k => some [kV k, natV (M.given (nmK k))]) hD (SqL.of hl1) (by omega) (fun k H4 hk s4 Ny Nn g1 g2 => ?_) (fun H4 as s4 h4 ht => ?_)
    · obtain ⟨⟨nm, n⟩, hp, rfl⟩ := zm k hk
      have hS4 := hS1.same s4
      walk_at "ev"
      rw [sK W hS4.ob]
      walk_at "ev"
      refine ⟨natV n, dgS hS4.wk ?_, fun p hp2 => ?_⟩
      · rw [valV_mp]
        have ef : M.wk.find? (fun i => decide (wkK i = Sum.inr (st nm))) = some (nm, n) := find_inj (key := wkK) (by
          rw [List.nodup_iff_pairwise_ne, List.pairwise_map] at nd ⊢
          exact nd.imp fun h e => h (wkK_eq.mp e)) hp
        rw [ef]
        rfl
      · refine g1 p _ _ (same_new hp2) rfl ?_
        rw [upd_same]
        have eg := given_at nd hp
        show some (HO.tup [V.str (st nm), natV n]) = some (.tup [V.str (st nm), natV (M.given nm)])
        rw [show M.given nm = n from eg]
    · rw [List.filterMap_eq_map'] at ht
      exact q D as H4 (s1.trans s4) (s1.free hD) h4 ht
def sp_Shelf_greatest_piece {K : PySem.W.Frag} {mg : Str → Option Value} {base : Heap} (W : Wd K mg base) : Sp := fun vs H Q _ => ∃ r M, vs = [.ref r.k] ∧ ShAt W.c_Shelf W.c_Stock H r M ∧ Q (natV M.S.last) H
theorem ok_Shelf_greatest_piece (W : Wd K mg base) : FnOk P w K mg base CX0 1 W.f_Shelf_greatest_piece W.d_Shelf_greatest_piece ["self"] (sp_Shelf_greatest_piece W) := by
  refine W.F_Shelf_greatest_piece.ok sc_Shelf_greatest_piece (fun vs H Q E h => ?_) (fun cdv A outer s H vs Q E hr h => ?_)
  · obtain ⟨r, M, rfl, hS, q⟩ := h
    rfl
  · obtain ⟨r, M, rfl, hS, q⟩ := h
    refine ⟨_, (pss_one (ps_ret (y_fld (K := K) (y_fld (K := K) (pv 0))))), ?_⟩
    walk_at "ev"
    rw [sS W hS.ob]
    walk_at "ev"
    rw [fG W hS.st.ob]
    exact q
def sp__escaped {K : PySem.W.Frag} {mg : Str → Option Value} {base : Heap} (W : Wd K mg base) : Sp := fun vs H Q _ => ∃ z, vs = [txtV z] ∧ z.length ≤ 1000000 ∧ Q (txtV (escL z)) H
theorem ok__escaped (W : Wd K mg base) : FnOk P w K mg base CX0 1 W.f__escaped W.d__escaped ["text"] (sp__escaped W) := by
  refine W.F__escaped.okT sc__escaped (fun vs H Q E h => ?_) (fun A outer cdv s H vs Q E hr h => ?_)
  · obtain ⟨z, rfl, hz, q⟩ := h
    rfl
  · obtain ⟨z, rfl, hz, q⟩ := h
    apply Exists.intro
    apply And.intro
    · (apply CwR.psst_one; apply CwR.pst_ret; apply CwR.pet_replT; apply CwR.pet_replC; exact pv 0; all_goals first | rfl | decide)
    walk_at "ev"
    have l2 : (Str.ofString "\\\\").length = 2 := by decide
    have l3 : (Str.ofString "\\n").length = 2 := by decide
    have c1 : (Str.ofString "\\").cps.toList = [92] := by decide
    have c2 : (Str.ofString "\\\\").cps.toList = [92, 92] := by decide
    have c3 : (Str.ofString "\n").cps.toList = [10] := by decide
    have c4 : (Str.ofString "\\n").cps.toList = [92, 110] := by decide
    rw [rep_st (y := "\\") (by decide), rep_st (y := "\n") (by decide), c1, c2, c3, c4, esc_repl, len_st, l2, l3]
    refine ⟨by omega, ?_, q⟩
    have : (StrLaws.replL [92] [92, 92] z).length ≤ 2 * z.length := by
      clear q
      rw [repl_one, List.length_flatMap]
      induction z with
      | nil => exact Nat.le_refl _
      | cons c r ih =>
        rw [List.map_cons, List.sum_cons, List.length_cons]
        rw [List.length_cons] at hz
        have h1 := ih (by omega)
        have h2 : (if c = 92 then [92, 92] else [c]).length ≤ 2 := by split <;> simp
        omega
    omega
def sp_Shelf_row {K : PySem.W.Frag} {mg : Str → Option Value} {base : Heap} (W : Wd K mg base) : Sp := spRow9 W
theorem ok_Shelf_row (W : Wd K mg base) : FnOk P w K mg base (L2.CX P w) 3 W.f_Shelf_row W.d_Shelf_row ["self", "name", "number"] (sp_Shelf_row W) := by
  refine W.F_Shelf_row.okX sc_Shelf_row (fun vs H Q E h => ?_) (fun cdv A outer s H vs Q E hr h => ?_)
  · obtain ⟨r, M, u, v, rfl, hS, hu, hx, hv, hT, q1, q2, q3⟩ := h
    rfl
  · obtain ⟨r, M, u, v, rfl, hS, hu, hx, hv, hT, q1, q2, q3⟩ := h
    refine ⟨_, (pss_cons (ps_expr (pe_callS (E := (WE (fun cls d _ H => E cls d H))) (ok__check_name W) (hr.mono (by first | decide | omega)) (by rfl) W.m__check_name W.F__check_name.kp W.b__check_name (fun σ => passAt (takes_of rfl rfl rfl rfl) σ) (pa_cons (pv 1) pa_nil)))
      (pss_cons (ps_if (PW.pt (pw_or (pt_not (pt_val (pe_callS (E := (fun _ => E0)) (ok_is_number W) (hr.mono (by first | decide | omega)) (by rfl) W.m_is_number W.F_is_number.kp W.b_is_number (fun _ => pass0S) (pa_cons (pv 2) pa_nil)))) (pw_or1 (pt_cmp (pc_dnotin (hu_of hr) (pe_tup (pa_cons (pv 1) (pa_cons (pv 2) pa_nil))) (y_fld (K := K) (pv 0))))))) (pss_one (ps_raiseE rfl (takes_of rfl rfl rfl rfl) W.E_NotThere)) pss_nil)
      (pss_one (ps_ret (pe_dget (hu_of hr) (y_fld (K := K) (pv 0)) (pe_tup (pa_cons (pv 1) (pa_cons (pv 2) pa_nil))) (fun _ _ => rfl)))))), ?_⟩
    walk_at "ev"
    refine ⟨u, rfl, hu, hT, hx, fun hn H1 f1 => ?_, fun hn H1 f1 => q2 hn _ f1⟩
    obtain ⟨z, rfl⟩ := nm_txt hn
    replace q1 := q1 z rfl
    replace q3 := q3 z rfl
    walk_at "ev"
    refine ⟨v, rfl, hv, ?_⟩
    walk_at "ev"
    have hS1 := hS.fr0 f1
    cases v <;> first | (exact absurd rfl hv) | skip
    · exact q3 hn (fun n e => by cases e) _ f1
    · exact q3 hn (fun n e => by cases e) _ f1
    · rename_i n
      show brT false _ _ _ _ _
      walk_at "ev"
      intro p hp
      rw [sO W (upd_of hS1.ob hp)]
      walk_at "ev"
      refine ⟨_, dgRT (k := [Sum.inr (st z), Sum.inl n]) (.inl (upd_of hS1.rw_ hp)) upd_same (valV_mp _), ?_⟩
      have f2 : Fr [] H (upd H1 p (.tup [txtV z, .int n])) := f1.new hp
      have hS2 := hS.fr0 f2
      cases e : M.rows.find? (fun x => decide (x.key = [Sum.inr (st z), Sum.inl n])) with
      | none =>
        walk_at "ev"
        exact q3 hn (fun m e2 => by cases e2; exact e) _ f2
      | some x =>
        walk_at "ev"
        rw [sO W hS2.ob]
        walk_at "ev"
        intro p2 hp2
        walk_at "ev"
        refine ⟨_, dgRT (k := [Sum.inr (st z), Sum.inl n]) (.inl (upd_of hS2.rw_ hp2)) upd_same (by rw [valV_mp, e]; rfl), ?_⟩
        exact q1 hn n x rfl e _ (f2.new hp2)
    · exact q3 hn (fun n e => by cases e) _ f1
def sp_written {K : PySem.W.Frag} {mg : Str → Option Value} {base : Heap} (W : Wd K mg base) : Sp := fun vs H Q _ => ∃ r M, vs = [.ref r.k] ∧ ShAt W.c_Shelf W.c_Stock H r M ∧ M.Ok ∧ M.rows.length ≤ 100 ∧ M.S.its.length < 800000 ∧ M.wk.length < 800000 ∧ M.S.last < 10 ^ 13 ∧ (∀ p ∈ M.wk, p.2 < 10 ^ 13) ∧ (∀ i ∈ M.S.its, i.txt.length ≤ 3000) ∧ (noteOf M).length ≤ 16000000 ∧ (∀ x ∈ M.rows, goodN x.nm) ∧ GxR.TabG H W.P_is_name ∧ ∀ H', Fr [] H H' → Q (txtV (noteOf M)) H'
theorem ok_written (W : Wd K mg base) : FnOk P w K mg base (L2.CX P w) 6 W.f_written W.d_written ["shelf"] (sp_written W) := by
  refine W.F_written.okX sc_written (fun vs H Q E h => ?_) (fun cdv A outer s H vs Q E hr h => ?_)
  · obtain ⟨r, M, rfl, hS, mok, hl, h1, h2, h3, h4, h5, hn, hgn, hT, q⟩ := h
    rfl
  · obtain ⟨r, M, rfl, hS, mok, hl, h1, h2, h3, h4, h5, hn, hgn, hT, q⟩ := h
    refine ⟨_, (pss_cons (ps_asg (pe_methE0 (E := (fun _ => E0)) (pv 0) W.T_Shelf W.q_Shelf_sizes (ok_Shelf_sizes W) (hr.mono (by first | decide | omega)) W.b_Shelf_sizes (fun _ => pass0S)) (pg_tup (by rfl) (pgs_cons (pg_name (i := 3) sc_written.nd rfl (by first | exact Or.inl rfl | exact Or.inr rfl)) (pgs_cons (pg_name (i := 4) sc_written.nd rfl (by first | exact Or.inl rfl | exact Or.inr rfl)) pgs_nil))))
      (pss_cons (ps_set (i := 1) sc_written.nd rfl (by first | exact Or.inl rfl | exact Or.inr rfl) (pe_lst (pa_cons (pe_fs (PJ.cons pe_str (PJ.cons (pe_fmt (pv 3)) (PJ.cons pe_str (PJ.cons (pe_fmt (pv 4)) (PJ.cons pe_str (PJ.cons (pe_fmt (pe_methE0 (E := (fun _ => E0)) (pv 0) W.T_Shelf W.q_Shelf_greatest_piece (ok_Shelf_greatest_piece W) (hr.mono (by first | decide | omega)) W.b_Shelf_greatest_piece (fun _ => pass0S))) PJ.nil))))))) pa_nil)))
      (pss_cons (ps_for (passes_of rfl) rfl (pi_list (pe_methE0 (E := (WE (fun cls d _ H => E cls d H))) (pv 0) W.T_Shelf W.q_Shelf_pieces (ok_Shelf_pieces W) (hr.mono (by first | decide | omega)) W.b_Shelf_pieces (fun σ => passAt (takes_of rfl rfl rfl rfl) σ))) (pg_tup (by rfl) (pgs_cons (pg_name (i := 5) sc_written.nd rfl (by first | exact Or.inl rfl | exact Or.inr rfl)) (pgs_cons (pg_name (i := 6) sc_written.nd rfl (by first | exact Or.inl rfl | exact Or.inr rfl)) (pgs_cons (pg_name (i := 7) sc_written.nd rfl (by first | exact Or.inl rfl | exact Or.inr rfl)) pgs_nil)))) (pss_one (ps_expr (pe_bm PySem.F.plainAttrs_list PySem.F.slot_list_append PySem.F.type_list_append mt_append (pv 1) (pa_cons (pe_fs (PJ.cons pe_str (PJ.cons (pe_fmt (pv 5)) (PJ.cons pe_str (PJ.cons (pe_fmt (pe_callS (E := (fun _ => E0)) (ok__escaped W) (hr.mono (by first | decide | omega)) (by rfl) W.m__escaped W.F__escaped.kp W.b__escaped (fun _ => pass0S) (pa_cons (pv 6) pa_nil))) PJ.nil))))) pa_nil)))))
      (pss_cons (ps_for (passes_of rfl) rfl (pi_list (pe_methE0 (E := (fun _ => E0)) (pv 0) W.T_Shelf W.q_Shelf_works (ok_Shelf_works W) (hr.mono (by first | decide | omega)) W.b_Shelf_works (fun _ => pass0S))) (pg_tup (by rfl) (pgs_cons (pg_name (i := 2) sc_written.nd rfl (by first | exact Or.inl rfl | exact Or.inr rfl)) (pgs_cons (pg_name (i := 8) sc_written.nd rfl (by first | exact Or.inl rfl | exact Or.inr rfl)) pgs_nil))) (pss_one (ps_expr (pe_bm PySem.F.plainAttrs_list PySem.F.slot_list_append PySem.F.type_list_append mt_append (pv 1) (pa_cons (pe_fs (PJ.cons pe_str (PJ.cons (pe_fmt (pv 2)) (PJ.cons pe_str (PJ.cons (pe_fmt (pv 8)) PJ.nil))))) pa_nil)))))
      (pss_cons (ps_for (passes_of rfl) rfl (pi_list (pe_methE0 (E := (fun _ => E0)) (pv 0) W.T_Shelf W.q_Shelf_names (ok_Shelf_names W) (hr.mono (by first | decide | omega)) W.b_Shelf_names (fun _ => pass0S))) (pg_name (i := 2) sc_written.nd rfl (by first | exact Or.inl rfl | exact Or.inr rfl)) (pss_one (ps_for (passes_of rfl) rfl (pi_list (pe_methE (E := (WE (fun cls d _ H => E cls d H))) (pv 0) W.T_Shelf W.q_Shelf_versions (ok_Shelf_versions W) (hr.mono (by first | decide | omega)) W.b_Shelf_versions (fun σ => passAt (takes_of rfl rfl rfl rfl) σ) (pa_cons (pv 2) pa_nil))) (pg_name (i := 5) sc_written.nd rfl (by first | exact Or.inl rfl | exact Or.inr rfl)) (pss_cons (ps_setLc (i := 9) (own := [("piece", 11)]) (g := gName 11) (by rfl) sc_written.nd rfl rfl (sw_true rfl rfl rfl (by decide +kernel)) (pi_tup (pe_methE (E := (WE (fun cls d _ H => E cls d H))) (pv 0) W.T_Shelf W.q_Shelf_row (ok_Shelf_row W) (hr.mono (by first | decide | omega)) W.b_Shelf_row (fun σ => passAt (takes_of rfl rfl rfl rfl) σ) (pa_cons (pv 2) (pa_cons (pv 5) pa_nil)))) (blkOk_by (own := [("piece", 11)]) (N := N_written) (sc := defScope s_written) (by decide +kernel)) (fun _ _ _ _ _ => pg_name (i := 11) sc_written.nd rfl (Or.inl rfl)) (fun _ _ _ _ _ => pts_nil) (fun _ _ _ _ _ => (pe_callTy y_strI (by rfl) W.z_str (by decide +kernel) (pa_cons (pv 11) pa_nil))))
      (pss_one (ps_expr (pe_bm PySem.F.plainAttrs_list PySem.F.slot_list_append PySem.F.type_list_append mt_append (pv 1) (pa_cons (y_join (K := K) pe_str (pe_lst (pa_cons pe_str (pa_cons (pv 2) (pa_cons (pe_callTy y_strI (by rfl) W.z_str (by decide +kernel) (pa_cons (pv 5) pa_nil)) (y_star (K := K) (pv 9) pa_nil)))))) pa_nil))))))))
      (pss_one (ps_ret (y_join (K := K) pe_str (pe_lc (own := [("row", 10)]) (g := gName 10) (by rfl) sc_written.nd (pi_list (pv 1)) (blkOk_by (own := [("row", 10)]) (N := N_written) (sc := defScope s_written) (by decide +kernel)) (fun _ _ _ _ _ => pg_name (i := 10) sc_written.nd rfl (Or.inl rfl)) (fun _ _ _ _ _ => pts_nil) (fun _ _ _ _ _ => (pe_op (y_add (K := K)) (pv 10) pe_str))))))))))), ?_⟩
    walk_at "ev"
    rw [sM W hS.ob (by decide +kernel)]
    refine ⟨r, M, rfl, hS, fun p0 hp0 => ?_⟩
    have hS0 := hS.same (same_new (o := .tup [natV M.w, natV M.r]) hp0)
    have s0 := same_new (o := .tup [natV M.w, natV M.r]) hp0
    have hp1 : upd H p0 (.tup [natV M.w, natV M.r]) p0 = some (.tup [natV M.w, natV M.r]) := upd_same
    generalize upd H p0 (.tup [natV M.w, natV M.r]) = H0 at s0 hS0 hp1 ⊢
    refine ⟨p0, _, rfl, SqT.of hp1, rfl, _, _, rfl, _, _, rfl, rfl, ?_⟩
    walk_at "ev"
    have e0 : Str.empty = st [] := rfl
    have g0 : M.w < 10 ^ 13 := by have := mok.w; omega
    have g1 : M.r < 10 ^ 13 := by have := mok.r; omega
    have sz13 := fun {n : Nat} (h : n < 10 ^ 13) => numL_13 h
    have d1 := sz13 g0
    have d2 := sz13 g1
    have d3 := sz13 h3
    rw [sM W hS0.ob (by decide +kernel)]
    have lsh : (Str.ofString "shelf ").cps.toList = shL := rfl
    have lbl : (Str.ofString " ").cps.toList = [32] := by decide
    have shl : shL.length = 6 := by decide
    simp only [e0, app_st, codes_st, len_st, num_str, lsh, lbl, List.nil_append, List.length_append, List.length_cons, List.length_nil, shl]
    refine ⟨by omega, log_small g0, by omega, by omega, log_small g1, by omega, by omega, ?_⟩
    refine ⟨r, M, rfl, hS0, ?_⟩
    walk_at "ev"
    simp only [e0, app_st, codes_st, len_st, num_str, lsh, lbl, List.nil_append, List.length_append, List.length_cons, List.length_nil, shl]
    refine ⟨log_small h3, by omega, fun g hg => ?_⟩
    have eh : shL ++ numL M.w ++ [32] ++ numL M.r ++ [32] ++ numL M.S.last = headRow M.w M.r M.S.last := by
      unfold headRow
      simp only [List.append_assoc, List.cons_append, List.nil_append]
    rw [eh]
    have s1 := s0.trans (same_new (o := .lst [txtV (headRow M.w M.r M.S.last)]) hg)
    have hg1 : upd H0 g (.lst [txtV (headRow M.w M.r M.S.last)]) g = some (.lst ([headRow M.w M.r M.S.last].map txtV)) := upd_same
    have g0n : H g = none := s0.free hg
    have hS1 := hS0.same (same_new (o := .lst [txtV (headRow M.w M.r M.S.last)]) hg)
    generalize upd H0 g (.lst [txtV (headRow M.w M.r M.S.last)]) = H1 at s1 hg1 hS1 ⊢
    rw [sM W hS1.ob (by decide +kernel)]
    refine ⟨r, M, rfl, hS1, mok, by omega, fun p1 as1 H2 s2 hp1 hl1 ht1 => ?_⟩
    walk_at "ev"
    have f2 : Fr [] H H2 := frS (s1.trans s2)
    have hg2 := s2 _ _ hg1
    have ngr : g ∉ r.F := hS1.noL hg1
    have n1g : p1 ≠ g := fun z => by rw [z, hg1] at hp1; cases hp1
    have hS2 := hS1.same s2
    have al1 := ht1.len
    rw [List.length_map] at al1
    refine ⟨⟨_, SqL.of hl1⟩, ?_⟩
    refine L2.for_list (K := K) (a := p1) (xs := as1.map V.ref) (fun k σ H' => ∃ v5 v6 v7, σ = [some (.ref r.k), some (.ref g), none, some (natV M.w), some (natV M.r), v5, v6, v7, none, none, none, none] ∧ Fr [g] H2 H' ∧ H' g = some (.lst ((headRow M.w M.r M.S.last :: (M.S.its.take k).map fun i => pieceRow i.num i.txt).map txtV))) ?_ ?_ ?_ ?_
    · exact ⟨_, _, _, rfl, Fr.refl, hg2⟩
    · rintro k σ H' _ ⟨_, _, _, _, f, _⟩
      exact SqL.of (f.lst hl1 (fun z => n1g (List.mem_singleton.mp z)))
    · rintro k u σ H' hk ⟨v5, v6, v7, rfl, f, hgk⟩
      obtain ⟨a, ha, rfl⟩ : ∃ a, as1[k]? = some a ∧ u = .ref a := by
        rw [List.getElem?_map] at hk
        obtain ⟨t, g1, g2⟩ := Option.map_eq_some_iff.mp hk
        exact ⟨t, g1, g2.symm⟩
      obtain ⟨vs, hvs, hav⟩ := ht1.get ha
      rw [List.getElem?_map] at hvs
      obtain ⟨i, hi, rfl⟩ := Option.map_eq_some_iff.mp hvs
      have him := List.mem_of_getElem? hi
      have hk1 : k < M.S.its.length := (List.getElem?_eq_some_iff.mp hi).1
      have hav' := f.tup hav (fun z => by rw [List.mem_singleton.mp z, hg2] at hav; cases hav)
      refine ⟨a, _, rfl, SqT.of hav', rfl, _, _, rfl, _, _, rfl, _, _, rfl, rfl, ?_⟩
      walk_at "ev"
      have pcl : pcL.length = 6 := by decide
      have lpc : (Str.ofString "piece ").cps.toList = pcL := rfl
      have ilast := mok.sok.pos i him
      have g4 : i.num < 10 ^ 13 := by omega
      have d4 := sz13 g4
      have d5 := h5 i him
      have d6 := escL_len i.txt
      simp only [e0, app_st, codes_st, len_st, num_str, lpc, lbl, List.nil_append, List.length_append, List.length_cons, List.length_nil, pcl]
      refine ⟨.inl ⟨rfl, _, SqL.of hgk⟩, by omega, log_small g4, by omega, by omega, i.txt, rfl, by omega, ?_⟩
      walk_at "ev"
      try simp only [e0, app_st, codes_st, len_st, num_str, lpc, lbl, List.nil_append, List.length_append, List.length_cons, List.length_nil, pcl]
      refine ⟨by omega, by omega, g, _, _, rfl, rfl, hgk, by rw [line_eq, List.length_map, List.length_cons, List.length_map, List.length_take]; omega, ?_⟩
      refine ⟨_, _, _, rfl, f.upd2 (by simp) hgk rfl, ?_⟩
      have ep : pcL ++ numL i.num ++ [32] ++ escL i.txt = pieceRow i.num i.txt := by
        unfold pieceRow
        simp only [List.append_assoc, List.cons_append, List.nil_append]
      rw [upd_same, ep, List.take_succ, hi]
      show _ = some (HO.lst ((headRow M.w M.r M.S.last :: (M.S.its.take k ++ [i]).map fun i => pieceRow i.num i.txt).map txtV))
      simp only [List.map_append, List.map_cons, List.map_nil, List.cons_append]
    · rintro σ H' ⟨v5, v6, v7, rfl, f, hgk⟩
      rw [List.length_map, al1, List.take_length] at hgk
      walk_at "ev"
      have hS3 := hS2.fr f (fun x hx z => ngr (by rw [← List.mem_singleton.mp z]; exact hx)) (fun x hx xs z => by rw [List.mem_singleton.mp hx, hg2] at z; cases z)
      have f3 := My.Fr.over f2 f (fun x hx => by rw [List.mem_singleton.mp hx]; exact g0n)
      rw [sM W hS3.ob (by decide +kernel)]
      refine ⟨r, M, rfl, hS3, by omega, mok.wkn, fun p2 as2 H4 s4 hp2 hl2 ht2 => ?_⟩
      walk_at "ev"
      have f4 := f3.same s4
      have hg4 := s4 _ _ hgk
      have hS4 := hS3.same s4
      have n2g : p2 ≠ g := fun z => by rw [z, hgk] at hp2; cases hp2
      have al2 := ht2.len
      rw [List.length_map] at al2
      have ws := (sortK_perm (M.wk.map wkK)).length_eq
      rw [List.length_map] at ws
      have wm : ∀ k ∈ sortK (M.wk.map wkK), ∃ p ∈ M.wk, k = wkK p := fun k hk => by
        obtain ⟨p, hp, e⟩ := List.mem_map.mp ((sortK_perm _).mem_iff.mp hk)
        exact ⟨p, hp, e.symm⟩
      have wr : ∀ k ∈ sortK (M.wk.map wkK), (workRow (nmK k) (M.given (nmK k))).length + 1 ≤ (noteOf M).length := fun k hk => by
        refine row_note ?_
        unfold noteRows
        exact List.mem_cons_of_mem _ (List.mem_append_right _ (List.mem_append_left _ (List.mem_map.mpr ⟨k, hk, rfl⟩)))
      refine ⟨⟨_, SqL.of hl2⟩, ?_⟩
      refine L2.for_list (K := K) (a := p2) (xs := as2.map V.ref) (fun k σ H' => ∃ v2 v8, σ = [some (.ref r.k), some (.ref g), v2, some (natV M.w), some (natV M.r), v5, v6, v7, v8, none, none, none] ∧ Fr [g] H4 H' ∧ H' g = some (.lst ((headRow M.w M.r M.S.last :: (M.S.its.map (fun i => pieceRow i.num i.txt) ++ ((sortK (M.wk.map wkK)).take k).map fun k => workRow (nmK k) (M.given (nmK k)))).map txtV))) ?_ ?_ ?_ ?_
      · refine ⟨_, _, rfl, Fr.refl, ?_⟩
        rw [List.take_zero, List.map_nil, List.append_nil]
        exact hg4
      · rintro k σ H' _ ⟨_, _, _, f, _⟩
        exact SqL.of (f.lst hl2 (fun z => n2g (List.mem_singleton.mp z)))
      · rintro k u σ H' hk ⟨v2, v8, rfl, f, hgk⟩
        obtain ⟨a, ha, rfl⟩ : ∃ a, as2[k]? = some a ∧ u = .ref a := by
          rw [List.getElem?_map] at hk
          obtain ⟨t, g1, g2⟩ := Option.map_eq_some_iff.mp hk
          exact ⟨t, g1, g2.symm⟩
        obtain ⟨vs, hvs, hav⟩ := ht2.get ha
        rw [List.getElem?_map] at hvs
        obtain ⟨ky, hky, rfl⟩ := Option.map_eq_some_iff.mp hvs
        have hkm := List.mem_of_getElem? hky
        have hk1 : k < (sortK (M.wk.map wkK)).length := (List.getElem?_eq_some_iff.mp hky).1
        have hav' := f.tup hav (fun z => by rw [List.mem_singleton.mp z, hg4] at hav; cases hav)
        obtain ⟨⟨nm, n⟩, hp, rfl⟩ := wm ky hkm
        have eg : M.given nm = n := given_at mok.wkn hp
        have hn13 := h4 _ hp
        have w1 := wr _ hkm
        have en : nmK (wkK (nm, n)) = nm := rfl
        rw [en, eg] at w1
        have wl : (workRow nm n).length = wkL.length + (nm.length + ((numL n).length + 1)) := by
          unfold workRow
          rw [List.length_append, List.length_append, List.length_cons]
        have wkl : wkL.length = 5 := by decide
        have lwk : (Str.ofString "work ").cps.toList = wkL := rfl
        rw [en, eg] at hav'
        refine ⟨a, _, rfl, SqT.of hav', rfl, _, _, rfl, _, _, rfl, rfl, ?_⟩
        have ev : kV (wkK (nm, n)) = txtV nm := rfl
        rw [ev]
        walk_at "ev"
        simp only [e0, app_st, codes_st, len_st, num_str, lwk, lbl, List.nil_append, List.length_append, List.length_cons, List.length_nil, wkl]
        refine ⟨.inl ⟨rfl, _, SqL.of hgk⟩, by omega, by omega, by omega, by omega, log_small hn13, by omega, g, _, _, rfl, rfl, hgk, by rw [line_eq, List.length_map, List.length_cons, List.length_append, List.length_map, List.length_map, List.length_take]; omega, ?_⟩
        refine ⟨_, _, rfl, f.upd2 (by simp) hgk rfl, ?_⟩
        have ep : wkL ++ nm ++ [32] ++ numL n = workRow nm n := by
          unfold workRow
          simp only [List.append_assoc, List.cons_append, List.nil_append]
        rw [upd_same, ep, List.take_succ, hky]
        show _ = some (HO.lst ((headRow M.w M.r M.S.last :: (M.S.its.map (fun i => pieceRow i.num i.txt) ++ ((sortK (M.wk.map wkK)).take k ++ [wkK (nm, n)]).map fun k => workRow (nmK k) (M.given (nmK k)))).map txtV))
        simp only [List.map_append, List.map_cons, List.map_nil, en, eg, List.cons_append, List.append_assoc]
      · rintro σ H' ⟨v2, v8, rfl, f, hgk⟩
        rw [List.length_map, al2, List.take_length] at hgk
        walk_at "ev"
        have hS5 := hS4.fr f (fun x hx z => ngr (by rw [← List.mem_singleton.mp z]; exact hx)) (fun x hx xs z => by rw [List.mem_singleton.mp hx, hg4] at z; cases z)
        have f5 := My.Fr.over f4 f (fun x hx => by rw [List.mem_singleton.mp hx]; exact g0n)
        rw [sM W hS5.ob (by decide +kernel)]
        refine ⟨r, M, rfl, hS5, hl, fun p3 H6 zs pz pw f6 hp3 hl3 => ?_⟩
        walk_at "ev"
        have f06 := f5.trans f6
        have hS6 := hS5.fr0 f6
        have hg6 := f6.lst hgk List.not_mem_nil
        have n3g : p3 ≠ g := fun z => by rw [z, hgk] at hp3; cases hp3
        generalize hB : (headRow M.w M.r M.S.last :: (M.S.its.map (fun i => pieceRow i.num i.txt) ++ (sortK (M.wk.map wkK)).map fun k => workRow (nmK k) (M.given (nmK k)))) = B at hg6
        have hBN : noteRows M = B ++ (sortKs (M.rows.map Rw.key)).map fun k => versRow (keyN k) (keyI k) (M.rowOf k) := by
          rw [← hB]
          unfold noteRows
          rw [List.cons_append, List.append_assoc]
        have Bl : B.length ≤ 1700000 := by
          rw [← hB, List.length_cons, List.length_append, List.length_map, List.length_map]
          omega
        have nest := keys_nest mok.rwn pz pw
        have klen : ∀ k, ((zs.take k).flatMap (verKeys M)).length ≤ 100 := fun k => by
          have h2 : ((zs.take k).flatMap (verKeys M)).length + ((zs.drop k).flatMap (verKeys M)).length = (zs.flatMap (verKeys M)).length := by
            conv => rhs; rw [← List.take_append_drop k zs, List.flatMap_append, List.length_append]
          rw [nest, (sortKs_perm _).length_eq, List.length_map] at h2
          omega
        have zk : ∀ k ∈ zs, ∃ x ∈ M.rows, k = Sum.inr (st x.nm) := fun k hk => by
          have := pz.mem_iff.mp hk
          rw [foldl_addK_mem] at this
          rcases this with h | h
          · cases h
          · obtain ⟨x, hx, e⟩ := List.mem_map.mp h
            exact ⟨x, hx, e.symm⟩
        refine ⟨⟨_, SqL.of hl3⟩, ?_⟩
        clear hS5 f5 f4 f3
        refine L2.for_list (K := K) (a := p3) (xs := zs.map kV) (fun k σ H' => ∃ v2 v5 v9, σ = [some (.ref r.k), some (.ref g), v2, some (natV M.w), some (natV M.r), v5, v6, v7, v8, v9, none, none] ∧ Fr [g] H6 H' ∧ H' g = some (.lst ((B ++ ((zs.take k).flatMap (verKeys M)).map fun k => versRow (keyN k) (keyI k) (M.rowOf k)).map txtV))) ?_ ?_ ?_ ?_
        · refine ⟨_, _, _, rfl, Fr.refl, ?_⟩
          rw [List.take_zero, List.flatMap_nil, List.map_nil, List.append_nil]
          exact hg6
        · rintro k σ H' _ ⟨_, _, _, _, f, _⟩
          exact SqL.of (f.lst hl3 (fun z => n3g (List.mem_singleton.mp z)))
        · rintro k u σ H' hk ⟨v2, v5, v9, rfl, f, hgk⟩
          obtain ⟨ky, hky, rfl⟩ : ∃ a, zs[k]? = some a ∧ u = kV a := by
            rw [List.getElem?_map] at hk
            obtain ⟨t, g1, g2⟩ := Option.map_eq_some_iff.mp hk
            exact ⟨t, g1, g2.symm⟩
          obtain ⟨x0, hx0, rfl⟩ := zk ky (List.mem_of_getElem? hky)
          have ng := hgn x0 hx0
          generalize x0.nm = nm at hky ng
          have n12 := ng.1.2
          have hS7 := hS6.fr f (fun x hx z => ngr (by rw [← List.mem_singleton.mp z]; exact hx)) (fun x hx xs z => by rw [List.mem_singleton.mp hx, hg6] at z; cases z)
          have f7 := My.Fr.over f06 f (fun x hx => by rw [List.mem_singleton.mp hx]; exact g0n)
          have ev : kV (Sum.inr (st nm)) = txtV nm := rfl
          rw [ev]
          walk_at "ev"
          rw [sM W hS7.ob (by decide +kernel)]
          refine verI ⟨r, M, nm, rfl, hS7, hl, by omega, f7.tabs _ hT, fun _ p4 H8 ns pn pwn f8 hp4 hl4 => ?_, fun h => by rw [goodN_is ng] at h; cases h⟩
          walk_at "ev"
          have vk := verKeys_of pn pwn
          have f08 := f7.trans f8
          have hS8 := hS7.fr0 f8
          have hg8 := f8.lst hgk List.not_mem_nil
          have n4g : p4 ≠ g := fun z => by rw [z, hgk] at hp4; cases hp4
          have tk : (zs.take (k + 1)).flatMap (verKeys M) = (zs.take k).flatMap (verKeys M) ++ ns.map fun n => [(Sum.inr (st nm) : Key), Sum.inl n] := by
            rw [List.take_succ, hky, List.flatMap_append, ← vk]
            congr 1
            show verKeys M _ ++ [] = _
            rw [List.append_nil]
          have k1 := klen (k + 1)
          rw [tk, List.length_append, List.length_map] at k1
          refine ⟨⟨_, SqL.of hl4⟩, ?_⟩
          refine L2.for_list (K := K) (a := p4) (xs := ns.map V.int) (fun j σ H' => ∃ v5 v9, σ = [some (.ref r.k), some (.ref g), some (txtV nm), some (natV M.w), some (natV M.r), v5, v6, v7, v8, v9, none, none] ∧ Fr [g] H8 H' ∧ H' g = some (.lst ((B ++ ((zs.take k).flatMap (verKeys M) ++ (ns.take j).map fun n => [(Sum.inr (st nm) : Key), Sum.inl n]).map fun k => versRow (keyN k) (keyI k) (M.rowOf k)).map txtV))) ?_ ?_ ?_ ?_
          · refine ⟨_, _, rfl, Fr.refl, ?_⟩
            rw [List.take_zero, List.map_nil, List.append_nil]
            exact hg8
          · rintro j σ H' _ ⟨_, _, _, f, _⟩
            exact SqL.of (f.lst hl4 (fun z => n4g (List.mem_singleton.mp z)))
          · rintro j u σ H' hj ⟨v5, v9, rfl, f9, hgj⟩
            obtain ⟨n, hn1, rfl⟩ : ∃ a, ns[j]? = some a ∧ u = V.int a := by
              rw [List.getElem?_map] at hj
              obtain ⟨t, g1, g2⟩ := Option.map_eq_some_iff.mp hj
              exact ⟨t, g1, g2.symm⟩
            have hjl : j < ns.length := (List.getElem?_eq_some_iff.mp hn1).1
            obtain ⟨x, hx, en0⟩ : ∃ x : Rw, x ∈ M.rows.filter (fun x : Rw => decide (x.nm = nm)) ∧ (x.num : Int) = n := List.mem_map.mp (pn.mem_iff.mp (List.mem_of_getElem? hn1))
            subst en0
            obtain ⟨hxm, hxn⟩ := List.mem_filter.mp hx
            have hxn := of_decide_eq_true hxn
            subst hxn
            have eat := mok.at_mem hxm
            have hS9 := hS8.fr f9 (fun y hy z => ngr (by rw [← List.mem_singleton.mp z]; exact hy)) (fun y hy xs z => by rw [List.mem_singleton.mp hy, hg8] at z; cases z)
            have f09 := My.Fr.over f08 f9 (fun y hy => by rw [List.mem_singleton.mp hy]; exact g0n)
            walk_at "ev"
            rw [sM W hS9.ob (by decide +kernel)]
            refine rowI ⟨r, M, x.nm, natV x.num, rfl, hS9, by omega, by simp [tyN], f09.tabs _ hT, fun _ n' x' en ex H10 f10 => ?_, (fun h => by rw [goodN_is ng] at h; cases h), fun _ h => by rw [h _ rfl] at eat; cases eat⟩
            cases en
            rw [eat] at ex
            cases ex
            walk_at "ev"
            have hS10 := hS9.fr0 f10
            have rl := mok.rlen hxm
            have rn : ∀ n ∈ x.row, n < 10 ^ 13 := fun n hn => by
              have := (mok.nums hxm hn).2
              omega
            refine ⟨⟨_, SqT.of (hS10.tp x hxm)⟩, fun D hD => ?_⟩
            refine lc_tupM (l := x.row) (g := natV) (fun n => some (txtV (numL n))) hD (SqT.of (hS10.tp x hxm)) (by omega) (fun n H11 hn s11 Ny Nn q1 q2 => ?_) (fun H11 s11 h11 => ?_)
            · walk_at "ev"
              rw [num_str]
              exact ⟨log_small (rn n hn), q1 _ _ (Same.refl _) rfl⟩
            rw [List.filterMap_eq_map'] at h11
            have hg11 := s11 _ _ (f10.lst hgj List.not_mem_nil)
            have hxk : x.key ∈ sortKs (M.rows.map Rw.key) := (sortKs_perm _).mem_iff.mpr (List.mem_map.mpr ⟨x, hxm, rfl⟩)
            have wr := row_note (M := M) (z := versRow x.nm x.num x.row) (by
              rw [hBN]
              refine List.mem_append_right _ (List.mem_map.mpr ⟨x.key, hxk, ?_⟩)
              rw [keyN_key, keyI_key, rowOf_key mok.rwn hxm])
            have hx13 : x.num < 10 ^ 13 := by
              obtain ⟨p, hp, _, hle⟩ := mok.le x hxm
              have := h4 p hp
              omega
            walk_at "ev"
            refine ⟨.inl ⟨rfl, _, SqL.of hg11⟩, log_small hx13, _, .inr (SqL.of h11), ?_⟩
            rw [num_str]
            have elt : ∀ {pp : Addr} {HH : Hp}, upd HH pp (.lst (V.str (Str.ofString "version") :: txtV x.nm :: V.str (st (numL x.num)) :: x.row.map fun n => txtV (numL n))) pp = some (.lst (((vsL :: x.nm :: numL x.num :: x.row.map numL).map st).map V.str)) := by
              intro pp HH
              rw [upd_same, List.map_map, List.map_cons, List.map_cons, List.map_cons, List.map_map]
              rfl
            refine ⟨by rw [List.length_map]; omega, fun pp hpp => ⟨_, .inl (SqL.of elt), ?_, ?_⟩⟩
            · have := join_len 32 vsL (x.nm :: numL x.num :: x.row.map numL)
              rw [vers_join] at this
              rw [List.length_map, show (Str.ofString " ").length = 1 by decide, Nat.mul_one, this]
              omega
            rw [show (Str.ofString " ") = st [32] by decide, join_st, vers_join]
            have npg : g ≠ pp := fun z => by rw [← z, hg11] at hpp; cases hpp
            refine ⟨g, _, _, rfl, rfl, upd_of hg11 hpp, by rw [line_eq, List.length_map, List.length_append, List.length_map, List.length_append, List.length_map, List.length_take]; omega, ?_⟩
            refine ⟨_, _, rfl, (((f9.trans (f10.mono (by simp))).same s11).new hpp).upd2 (by simp) (upd_of hg11 hpp) rfl, ?_⟩
            rw [upd_same, List.take_succ, hn1]
            show _ = some (HO.lst ((B ++ ((zs.take k).flatMap (verKeys M) ++ (ns.take j ++ [(x.num : Int)]).map fun n => [(Sum.inr (st x.nm) : Key), Sum.inl n]).map fun k => versRow (keyN k) (keyI k) (M.rowOf k)).map txtV))
            have ek : versRow (keyN [(Sum.inr (st x.nm) : Key), Sum.inl (x.num : Int)]) (keyI [(Sum.inr (st x.nm) : Key), Sum.inl (x.num : Int)]) (M.rowOf [(Sum.inr (st x.nm) : Key), Sum.inl (x.num : Int)]) = versRow x.nm x.num x.row := by
              rw [show [(Sum.inr (st x.nm) : Key), Sum.inl (x.num : Int)] = x.key from rfl, keyN_key, keyI_key, rowOf_key mok.rwn hxm]
            simp only [List.map_append, List.map_cons, List.map_nil, List.append_assoc, ek]
          · rintro σ H' ⟨v5, v9, rfl, f9, hgj⟩
            rw [List.length_map, List.take_length, ← tk] at hgj
            exact ⟨_, _, _, rfl, (f.trans (f8.mono (by simp))).trans f9, hgj⟩
        · rintro σ H' ⟨v2, v5, v9, rfl, f, hgk⟩
          rw [List.length_map, List.take_length, nest, ← hBN] at hgk
          walk_at "ev"
          refine ⟨⟨_, SqL.of hgk⟩, fun D hD => ?_⟩
          have nl : (noteRows M).length ≤ 1800000 := by
            rw [hBN, List.length_append, List.length_map, (sortKs_perm _).length_eq, List.length_map]
            omega
          refine lc_lstM (l := noteRows M) (g := txtV) (fun z => some (txtV (z ++ nlL))) hD (SqL.of hgk) (by omega) (fun z H11 hz s11 Ny Nn q1 q2 => ?_) (fun H11 s11 h11 => ?_)
          · have wr := row_note hz
            have lnl : (Str.ofString "\n").cps.toList = nlL := by decide
            have lnn : (Str.ofString "\n").length = 1 := by decide
            walk_at "ev"
            rw [lnl, lnn]
            exact ⟨by omega, q1 _ _ (Same.refl _) rfl⟩
          · rw [List.filterMap_eq_map'] at h11
            have h12 : H11 D = some (.lst ((((noteRows M).map (· ++ nlL)).map st).map V.str)) := by
              rw [h11, List.map_map, List.map_map]
              rfl
            refine ⟨_, .inl (SqL.of h12), ?_, ?_⟩
            · rw [sum_len]
              show (noteOf M).length + _ * 0 ≤ _
              omega
            · rw [join_txt]
              exact q _ ((My.Fr.over f06 f (fun y hy => by rw [List.mem_singleton.mp hy]; exact g0n)).same s11)
    
def sp__law_held {K : PySem.W.Frag} {mg : Str → Option Value} {base : Heap} (W : Wd K mg base) : Sp := fun vs H Q _ => ∃ r M nm, vs = [.ref r.k, txtV nm] ∧ ShAt W.c_Shelf W.c_Stock H r M ∧ M.Ok ∧ goodN nm ∧ Small9 M ∧ GxR.TabG H W.P_is_name ∧ ∀ p H', Fr [] H H' → H p = none → Held9 H' p M nm → Q (.ref p) H'
theorem ok__law_held (W : Wd K mg base) : FnOk P w K mg base (L2.CX P w) 7 W.f__law_held W.d__law_held ["_law_shelf", "_law_name"] (sp__law_held W) := by
  refine W.F__law_held.okX sc__law_held (fun vs H Q E h => ?_) (fun cdv A outer s H vs Q E hr h => ?_)
  · obtain ⟨r, M, nm, rfl, hS, mok, ng, sm, t1, q⟩ := h
    rfl
  · obtain ⟨r, M, nm, rfl, hS, mok, ng, sm, t1, q⟩ := h
    refine ⟨_, (pss_one (ps_ret (pe_tup (pa_cons (pe_methE0 (E := (WE (fun cls d _ H => E cls d H))) (pv 0) W.T_Shelf W.q_Shelf_pieces (ok_Shelf_pieces W) (hr.mono (by first | decide | omega)) W.b_Shelf_pieces (fun σ => passAt (takes_of rfl rfl rfl rfl) σ)) (pa_cons (pe_methE0 (E := (fun _ => E0)) (pv 0) W.T_Shelf W.q_Shelf_names (ok_Shelf_names W) (hr.mono (by first | decide | omega)) W.b_Shelf_names (fun _ => pass0S)) (pa_cons (pe_methE (E := (WE (fun cls d _ H => E cls d H))) (pv 0) W.T_Shelf W.q_Shelf_versions (ok_Shelf_versions W) (hr.mono (by first | decide | omega)) W.b_Shelf_versions (fun σ => passAt (takes_of rfl rfl rfl rfl) σ) (pa_cons (pv 1) pa_nil)) (pa_cons (pe_callS (E := (WE (fun cls d _ H => E cls d H))) (ok_written W) (hr.mono (by first | decide | omega)) (by rfl) W.m_written W.F_written.kp W.b_written (fun σ => passAt (takes_of rfl rfl rfl rfl) σ) (pa_cons (pv 0) pa_nil)) pa_nil))))))), ?_⟩
    walk_at "ev"
    have n12 := ng.1.2
    rw [sM W hS.ob (by decide +kernel)]
    have rl := sm.rl
    have il := sm.il
    refine ⟨r, M, rfl, hS, mok, by omega, fun pa as H1 s1 hpa hla hta => ?_⟩
    have hS1 := hS.same s1
    walk_at "ev"
    rw [sM W hS1.ob (by decide +kernel)]
    refine ⟨r, M, rfl, hS1, rl, fun pb H2 zs pz pw f2 hpb hlb => ?_⟩
    have f02 := (frS (F := []) s1).trans f2
    have hS2 := hS1.fr0 f2
    walk_at "ev"
    rw [sM W hS2.ob (by decide +kernel)]
    refine verI ⟨r, M, nm, rfl, hS2, rl, by omega, f02.tabs _ t1, fun _ pc H3 ns pn pnw f3 hpc hlc => ?_, fun h => by rw [goodN_is ng] at h; cases h⟩
    have f03 := f02.trans f3
    have hS3 := hS2.fr0 f3
    refine ⟨r, M, rfl, hS3, mok, rl, il, sm.wl, sm.la, sm.wn, sm.tl, sm.nl, sm.gn, f03.tabs _ t1, fun H4 f4 p hp => ?_⟩
    have s5 := same_new (o := .tup [V.ref pa, V.ref pb, V.ref pc, txtV (noteOf M)]) hp
    have f14 : Fr [] H1 H4 := (f2.trans f3).trans f4
    have f24 : Fr [] H2 H4 := f3.trans f4
    refine q p _ ((f03.trans f4).same s5) (f03.live _ (f4.live _ hp)) ⟨pa, pb, pc, as, zs, ns, upd_same, s5 _ _ (f14.lst hla List.not_mem_nil), hta.imp fun a v e => s5 _ _ (f14.tup e List.not_mem_nil), s5 _ _ (f24.lst hlb List.not_mem_nil), pz, pw, s5 _ _ (f4.lst hlc List.not_mem_nil), pn, pnw⟩
    
/- no fragment: _is_sign -/
def sp_is_text {K : PySem.W.Frag} {mg : Str → Option Value} {base : Heap} (W : Wd K mg base) : Sp := fun vs H Q _ => ∃ v, vs = [v] ∧ (tyN v ≠ none ∨ ∃ p xs, v = .ref p ∧ H p = some (.lst xs)) ∧ GxR.TabG H W.P_is_text ∧ ∀ H', Fr [] H H' → Q (.bl (isTx v)) H'
theorem ok_is_text (W : Wd K mg base) : FnOk P w K mg base CX0 2 W.f_is_text W.d_is_text ["thing"] (sp_is_text W) := by
  refine okC W.F_is_text W.hc_is_text sc_is_text (fun vs H Q E h => ?_) (fun A outer s H vs Q E hr h => ?_)
  · obtain ⟨v, rfl, hv, hT, q⟩ := h
    rfl
  · obtain ⟨v, rfl, hv, hT, q⟩ := h
    refine ⟨_, (pss_one (ps_ret (pe_and (pe_callB y_isi (by rfl) W.z_isinstance (by decide +kernel) (pa_cons (pv 0) (pa_cons (pe_bltn (v := .ty "str") (by rfl) W.z_str (by decide +kernel) rfl) pa_nil))) (pe_one (pe_allT (pb := pbS) hr (by rfl) W.z_all W.TB_is_text rfl (genS_of rfl rfl (by decide +kernel) rfl rfl (by decide +kernel)) (pv 0) (fun cenv m₂ c t h1 h2 h3 hm => px_call (va := .str ⟨#[c]⟩) W.F__is_sign sc__is_sign W.b__is_sign rfl rfl (by first | (rw [h1]; done) | (rw [h1]; rfl)) (by unfold Env.kindOf; first | (rw [h1]; done) | (rw [h1]; rfl)) W.m__is_sign (by decide) (px_local (by first | (rw [h1]; done) | (rw [h1]; rfl)) (by first | (rw [h1]; done) | (rw [h1]; rfl)) hm ⟨t, rfl⟩) (fun L cd m' u r hu => px_or (px_eqS (px_local rfl rfl hu r) px_str rfl) (px_one (px_and (px_chainS px_str (px_local rfl rfl hu r) px_str) (px_one (px_neI (px_ord rfl rfl W.z_ord (px_local rfl rfl hu r) rfl) (px_glob rfl rfl W.m_PERCENT ⟨_, rfl⟩) rfl))))) h2 h3)))))), ?_⟩
    rcases hv with hv | ⟨p, xs, rfl, hp⟩
    rotate_left
    · walk_at "ev"
      refine isi_lst (b := false) hp (by decide +kernel) ?_
      walk_at "ev"
      exact q _ Fr.refl
    cases v <;> first | (exact absurd rfl hv) | skip
    · walk_at "ev"
      rw [isi_mk (a := "NoneType") (b := false) rfl (by decide +kernel)]
      walk_at "ev"
      exact q _ Fr.refl
    · walk_at "ev"
      rw [isi_mk (a := "bool") (b := false) rfl (by decide +kernel)]
      walk_at "ev"
      exact q _ Fr.refl
    · walk_at "ev"
      exact q _ Fr.refl
    · walk_at "ev"
      refine ⟨hT, fun H2 h2 => ?_⟩
      rw [show (List.all _ pbS) = List.all _ okS from congrArg _ (funext pbS_ok)]
      exact q _ (Tabbed.fr hT h2)
def sp__check_text {K : PySem.W.Frag} {mg : Str → Option Value} {base : Heap} (W : Wd K mg base) : Sp := fun vs H Q E => ∃ v, vs = [v] ∧ (tyN v ≠ none ∨ ∃ p xs, v = .ref p ∧ H p = some (.lst xs)) ∧ GxR.TabG H W.P_is_text ∧ (isTx v = true → ∀ H', Fr [] H H' → Q .non H') ∧ (isTx v = false → ∀ H', Fr [] H H' → E (.ref W.e_NoText) none H')
theorem ok__check_text (W : Wd K mg base) : FnOk P w K mg base (L2.CX P w) 3 W.f__check_text W.d__check_text ["text"] (sp__check_text W) := by
  refine W.F__check_text.okX sc__check_text (fun vs H Q E h => ?_) (fun cdv A outer s H vs Q E hr h => ?_)
  · obtain ⟨v, rfl, hv, hT, q1, q2⟩ := h
    rfl
  · obtain ⟨v, rfl, hv, hT, q1, q2⟩ := h
    refine ⟨_, (pss_one (ps_if (pt_not (pt_val (pe_callS (E := (fun _ => E0)) (ok_is_text W) (hr.mono (by first | decide | omega)) (by rfl) W.m_is_text W.F_is_text.kp W.b_is_text (fun _ => pass0S) (pa_cons (pv 0) pa_nil)))) (pss_one (ps_raiseE rfl (takes_of rfl rfl rfl rfl) W.E_NoText)) pss_nil)), ?_⟩
    walk_at "ev"
    refine ⟨v, rfl, hv, hT, fun H' f => ?_⟩
    walk_at "ev"
    refine brS_of (fun h => ?_) (fun h => ?_)
    · walk_at "ev"
      exact q2 (by simpa using h) _ f
    · walk_at "ev"
      exact q1 (by simpa using h) _ f
def sp_Shelf__check_room {K : PySem.W.Frag} {mg : Str → Option Value} {base : Heap} (W : Wd K mg base) : Sp := fun vs H Q E => ∃ r M z, vs = [.ref r.k, txtV z] ∧ ShAt W.c_Shelf W.c_Stock H r M ∧ z.length ≤ 16777216 ∧ (z.length ≤ 3000 → M.rows.length < 100 → Q .non H) ∧ (3000 < z.length → E (.ref W.e_TooLong) none H) ∧ (z.length ≤ 3000 → 100 ≤ M.rows.length → E (.ref W.e_TooMany) none H)
theorem ok_Shelf__check_room (W : Wd K mg base) : FnOk P w K mg base (L2.CX P w) 1 W.f_Shelf__check_room W.d_Shelf__check_room ["self", "text"] (sp_Shelf__check_room W) := by
  refine W.F_Shelf__check_room.okX sc_Shelf__check_room (fun vs H Q E h => ?_) (fun cdv A outer s H vs Q E hr h => ?_)
  · obtain ⟨r, M, z, rfl, hS, hz, q1, q2, q3⟩ := h
    rfl
  · obtain ⟨r, M, z, rfl, hS, hz, q1, q2, q3⟩ := h
    refine ⟨_, (pss_cons (ps_if (pt_cmpR y_gt (pe_callB (y_len (K := K)) (by rfl) W.z_len (by decide +kernel) (pa_cons (pv 1) pa_nil)) (pe_glob (v := .int 3000) (by rfl) W.m_MOST_SIGNS ⟨_, rfl⟩) (nomark _)) (pss_one (ps_raiseF rfl (takes_of rfl rfl rfl rfl) W.E_TooLong (pe_fs (PJ.cons pe_str (PJ.cons (pe_fmt (pe_glob (v := .int 3000) (by rfl) W.m_MOST_SIGNS ⟨_, rfl⟩)) (PJ.cons pe_str PJ.nil)))))) pss_nil)
      (pss_one (ps_if (pt_cmpR y_ge (pe_callB call_len_dT (by rfl) W.z_len (by decide +kernel) (pa_cons (y_fld (K := K) (pv 0)) pa_nil)) (pe_glob (v := .int 100) (by rfl) W.m_MOST_VERSIONS ⟨_, rfl⟩) (nomark _)) (pss_one (ps_raiseF rfl (takes_of rfl rfl rfl rfl) W.E_TooMany (pe_fs (PJ.cons pe_str (PJ.cons (pe_fmt (pe_glob (v := .int 100) (by rfl) W.m_MOST_VERSIONS ⟨_, rfl⟩)) (PJ.cons pe_str PJ.nil)))))) pss_nil))), ?_⟩
    walk_at "ev"
    refine ⟨hz, ?_⟩
    refine brS_of (fun h => ?_) (fun h => ?_)
    · have h' : 3000 < z.length := by have := of_decide_eq_true h; omega
      exact ⟨by decide +kernel, by decide +kernel, by decide +kernel, by decide +kernel, q2 h'⟩
    · have h' : z.length ≤ 3000 := by have := of_decide_eq_false h; omega
      walk_at "ev"
      rw [sO W hS.ob]
      walk_at "ev"
      refine ⟨_, hS.rw_, ?_⟩
      rw [mp_len]
      walk_at "ev"
      refine brS_of (fun h2 => ?_) (fun h2 => ?_)
      · have h3 : 100 ≤ M.rows.length := by have := of_decide_eq_true h2; omega
        exact ⟨by decide +kernel, by decide +kernel, by decide +kernel, by decide +kernel, q3 h' h3⟩
      · have h3 : M.rows.length < 100 := by have := of_decide_eq_false h2; omega
        exact q1 h' h3
def sp_weight {K : PySem.W.Frag} {mg : Str → Option Value} {base : Heap} (W : Wd K mg base) : Sp := fun vs H Q _ => ∃ (l : List Nat), vs = [.str (st l)] ∧ Q (.int (wt l)) H
theorem ok_weight (W : Wd K mg base) : FnOk P w K mg base CX0 1 W.f_weight W.d_weight ["signs"] (sp_weight W) := by
  refine W.F_weight.ok sc_weight (fun vs H Q E h => ?_) (fun cdv A outer s H vs Q E hr h => ?_)
  · obtain ⟨l, rfl, q⟩ := h
    rfl
  · obtain ⟨l, rfl, q⟩ := h
    refine ⟨_, (pss_cons (ps_set (i := 1) sc_weight.nd rfl (by first | exact Or.inl rfl | exact Or.inr rfl) (pe_glob (v := .int 7) (by rfl) W.m_WEIGHT_START ⟨_, rfl⟩))
      (pss_cons (ps_for PassesOwn.never rfl (pi_str (pv 0)) (pg_name (i := 2) sc_weight.nd rfl (by first | exact Or.inl rfl | exact Or.inr rfl)) (pss_one (ps_set (i := 1) sc_weight.nd rfl (by first | exact Or.inl rfl | exact Or.inr rfl) (pe_op y_mod (pe_op (y_add (K := K)) (pe_op y_mul (pv 1) (pe_glob (v := .int 131) (by rfl) W.m_WEIGHT_FACTOR ⟨_, rfl⟩)) (pe_callB y_ord (by rfl) W.z_ord (by decide +kernel) (pa_cons (pv 2) pa_nil))) (pe_glob (v := .int 65521) (by rfl) W.m_WEIGHT_DIVISOR ⟨_, rfl⟩)))))
      (pss_one (ps_ret (pv 1))))), ?_⟩
    walk_at "ev"
    refine for_sgn (fun i σ' H' => H' = H ∧ ∃ x, σ' = [some (V.str (st l)), some (V.int (wt (l.take i))), x]) ⟨rfl, none, rfl⟩ ?_ ?_
    · rintro i c σ' H' hi ⟨rfl, x, rfl⟩
      walk_at "ev"
      rw [wt_take hi]
      exact ⟨_, rfl⟩
    · rintro σ' H' ⟨rfl, x, rfl⟩
      walk_at "ev"
      rw [List.take_length]
      exact q
def sp__weights_by_place {K : PySem.W.Frag} {mg : Str → Option Value} {base : Heap} (W : Wd K mg base) : Sp := fun vs H Q _ => ∃ (l : List Nat) (w : Nat), vs = [.str (st l), .int (w : Int)] ∧ (l.length ≤ 8000000 ∧ w ≤ 8) ∧ ∀ D H', Same H H' → H D = none → H' D = some (.dK (wDict l w)) → Q (.ref D) H'
theorem ok__weights_by_place (W : Wd K mg base) : FnOk P w K mg base CX0 2 W.f__weights_by_place W.d__weights_by_place ["text", "width"] (sp__weights_by_place W) := by
  refine W.F__weights_by_place.ok sc__weights_by_place (fun vs H Q E h => ?_) (fun cdv A outer s H vs Q E hr h => ?_)
  · obtain ⟨l, w, rfl, hb, q⟩ := h
    rfl
  · obtain ⟨l, w, rfl, hb, q⟩ := h
    refine ⟨_, (pss_one (ps_ret (pe_dc (own := [("place", 2)]) (g := gName 2) (by rfl) sc__weights_by_place.nd (pi_range2 (by rfl) W.z_range (pa_cons (pv 1) (pa_cons (pe_op (y_add (K := K)) (pe_callB (y_len (K := K)) (by rfl) W.z_len (by decide +kernel) (pa_cons (pv 0) pa_nil)) pe_int) pa_nil))) (blkOk_by (own := [("place", 2)]) (N := N__weights_by_place) (sc := defScope s__weights_by_place) (by decide +kernel)) (fun _ _ _ _ _ => pg_name (i := 2) sc__weights_by_place.nd rfl (Or.inl rfl)) (fun _ _ _ _ _ => pts_nil) (fun _ _ _ _ _ => (pv 2)) (fun _ _ _ _ _ => (pe_callS (E := (fun _ => E0)) (ok_weight W) (hr.mono (by first | decide | omega)) (by rfl) W.m_weight W.F_weight.kp W.b_weight (fun _ => pass0S) (pa_cons (pe_slice (y_sl (K := K)) (pv 0) (po_some (pe_op y_sub (pv 2) (pv 1))) (po_some (pv 2))) pa_nil)))))), ?_⟩
    walk_at "ev"
    refine ⟨by omega, by omega, fun D hD => ?_⟩
    have hn : ((l.length : Int) + 1 - (w : Int)).toNat = l.length + 1 - w := by omega
    rw [hn]
    refine dc_rng (wKey w) (wVal l w) (wKey_inj w) hD (by omega) (fun i H1 hi sm N hN => ?_) (fun H1 sm h => q D H1 sm hD h)
    walk_at "ev"
    have e1 : (w : Int) + (i : Int) - (w : Int) = (i : Int) := by omega
    have e2 : (w : Int) + (i : Int) = ((w + i : Nat) : Int) := by omega
    rw [e1, e2]
    rw [cut_mid (by omega) (by omega)]
    refine ⟨by omega, _, rfl, ?_⟩
    have h := hN H1 (Same.refl H1)
    unfold wVal wAt at h
    rw [Nat.add_sub_cancel_left] at h
    have e3 : w + i - i = w := by omega
    rw [e3]
    exact h
def sp__is_lightest {K : PySem.W.Frag} {mg : Str → Option Value} {base : Heap} (W : Wd K mg base) : Sp := fun vs H Q _ => ∃ (D : Addr) (p r : Nat) (l : List Nat) (w : Nat), vs = [.ref D, .int (p : Int), .int (r : Int)] ∧ (H D = some (.dK (wDict l w)) ∧ w + r ≤ p ∧ p + r ≤ l.length ∧ l.length ≤ 8000000) ∧ Q (.bl (lowB l w r p)) H
theorem ok__is_lightest (W : Wd K mg base) : FnOk P w K mg base CX0 1 W.f__is_lightest W.d__is_lightest ["weights", "place", "reach"] (sp__is_lightest W) := by
  refine W.F__is_lightest.ok sc__is_lightest (fun vs H Q E h => ?_) (fun cdv A outer s H vs Q E hr h => ?_)
  · obtain ⟨D, p, r, l, w, rfl, ⟨hD, h1, h2, h3⟩, q⟩ := h
    rfl
  · obtain ⟨D, p, r, l, w, rfl, ⟨hD, h1, h2, h3⟩, q⟩ := h
    refine ⟨_, (pss_cons (ps_for PassesOwn.never rfl (pi_range2 (by rfl) W.z_range (pa_cons (pe_op y_sub (pv 1) (pv 2)) (pa_cons (pe_op (y_add (K := K)) (pe_op (y_add (K := K)) (pv 1) (pv 2)) pe_int) pa_nil))) (pg_name (i := 3) sc__is_lightest.nd rfl (by first | exact Or.inl rfl | exact Or.inr rfl)) (pss_one (ps_if (PW.pt (pw_and (pt_cmpR (y_ne (K := K) hr.units) (pv 3) (pv 1) (nomark _)) (pw_and1 (pt_cmpR y_le (pe_dget (hu_of hr) (pv 0) (pv 3) (fun _ _ => rfl)) (pe_dget (hu_of hr) (pv 0) (pv 1) (fun _ _ => rfl)) (nomark _))))) (pss_one (ps_ret pe_bl)) pss_nil)))
      (pss_one (ps_ret pe_bl))), ?_⟩
    walk_at "ev"
    refine ⟨by omega, ?_⟩
    have hn : ((p : Int) + (r : Int) + 1 - ((p : Int) - (r : Int))).toNat = 2 * r + 1 := by omega
    rw [hn]
    refine for_rng (fun i σ H' => H' = H ∧ (∀ j, j < i → j ≠ r → wAt l w p < wAt l w (p - r + j)) ∧ ∃ x, σ = [some (V.ref D), some (V.int (p : Int)), some (V.int (r : Int)), x]) ⟨rfl, fun j hj => absurd hj (Nat.not_lt_zero j), none, rfl⟩ ?_ ?_
    · rintro i σ H' hi ⟨rfl, hall, x, rfl⟩
      have e : (p : Int) - (r : Int) + (i : Int) = ((p - r + i : Nat) : Int) := by omega
      have hp : DGet H' D (.int ((p - r + i : Nat) : Int)) (some (.int (wAt l w (p - r + i)))) := by
        have := DGet.k (k := Sum.inl ((p - r + i : Nat) : Int)) hD
        rw [wDict_at (by omega) (by omega)] at this
        exact this
      have hq : DGet H' D (.int (p : Int)) (some (.int (wAt l w p))) := by
        have := DGet.k (k := Sum.inl (p : Int)) hD
        rw [wDict_at (by omega) (by omega)] at this
        exact this
      walk_at "ev"
      rw [e]
      refine brT_of (fun hc => ?_) (fun hc => ?_) <;> walk_at "ev"
      · refine ⟨_, hp, _, hq, ?_⟩
        walk_at "ev"
        refine brS_of (fun hd => ?_) (fun hd => ?_) <;> walk_at "ev"
        · rw [lowB_no hi (by
            have := of_decide_eq_false (by simpa using hc)
            omega) (of_decide_eq_true hd)] at q
          exact q
        · refine ⟨fun j hj hr => ?_, _, rfl⟩
          by_cases ej : j = i
          · rw [ej]
            have := of_decide_eq_false hd
            omega
          · exact hall j (by omega) hr
      · refine ⟨fun j hj hr => ?_, _, rfl⟩
        by_cases ej : j = i
        · have := of_decide_eq_true (by simpa using hc)
          omega
        · exact hall j (by omega) hr
    · rintro σ H' ⟨rfl, hall, x, rfl⟩
      walk_at "ev"
      rw [lowB_iff.mpr hall] at q
      exact q
def sp_cuts {K : PySem.W.Frag} {mg : Str → Option Value} {base : Heap} (W : Wd K mg base) : Sp := fun vs H Q _ => ∃ (l : List Nat) (w r : Nat), vs = [.str (st l), .int (w : Int), .int (r : Int)] ∧ (l.length ≤ 8000000 ∧ w ≤ 8 ∧ r ≤ 40) ∧ ∀ D H', Same H H' → H D = none → H' D = some (.lst ((cutsOf l w r).map natV)) → Q (.ref D) H'
theorem ok_cuts (W : Wd K mg base) : FnOk P w K mg base CX0 3 W.f_cuts W.d_cuts ["text", "width", "reach"] (sp_cuts W) := by
  refine W.F_cuts.ok sc_cuts (fun vs H Q E h => ?_) (fun cdv A outer s H vs Q E hr h => ?_)
  · obtain ⟨l, w, r, rfl, hb, q⟩ := h
    rfl
  · obtain ⟨l, w, r, rfl, hb, q⟩ := h
    refine ⟨_, (pss_cons (ps_set (i := 3) sc_cuts.nd rfl (by first | exact Or.inl rfl | exact Or.inr rfl) (pe_callS (E := (fun _ => E0)) (ok__weights_by_place W) (hr.mono (by first | decide | omega)) (by rfl) W.m__weights_by_place W.F__weights_by_place.kp W.b__weights_by_place (fun _ => pass0S) (pa_cons (pv 0) (pa_cons (pv 1) pa_nil))))
      (pss_one (ps_ret (pe_lc (own := [("place", 4)]) (g := gName 4) (by rfl) sc_cuts.nd (pi_range2 (by rfl) W.z_range (pa_cons (pe_op (y_add (K := K)) (pv 1) (pv 2)) (pa_cons (pe_op (y_add (K := K)) (pe_op y_sub (pe_callB (y_len (K := K)) (by rfl) W.z_len (by decide +kernel) (pa_cons (pv 0) pa_nil)) (pv 2)) pe_int) pa_nil))) (blkOk_by (own := [("place", 4)]) (N := N_cuts) (sc := defScope s_cuts) (by decide +kernel)) (fun _ _ _ _ _ => pg_name (i := 4) sc_cuts.nd rfl (Or.inl rfl)) (fun _ _ _ _ _ => pts_one (pt_val (pe_callS (E := (fun _ => E0)) (ok__is_lightest W) (hr.mono (by first | decide | omega)) (by rfl) W.m__is_lightest W.F__is_lightest.kp W.b__is_lightest (fun _ => pass0S) (pa_cons (pv 3) (pa_cons (pv 4) (pa_cons (pv 2) pa_nil)))))) (fun _ _ _ _ _ => (pv 4)))))), ?_⟩
    walk_at "ev"
    refine ⟨l, w, rfl, ⟨by omega, by omega⟩, fun D1 H1 sm1 hn1 hd1 => ?_⟩
    walk_at "ev"
    refine ⟨by omega, ⟨by omega, by omega, by omega, by omega⟩, fun D hD => ?_⟩
    have hn : ((l.length : Int) - (r : Int) + 1 - ((w : Int) + (r : Int))).toNat = l.length + 1 - (w + 2 * r) := by omega
    rw [hn]
    refine lc_rng (fun i => (cutF l w r i).map natV) hD (by omega) (fun i H2 hi sm Ny Nn hy hz => ?_) (fun H2 sm h => ?_)
    · walk_at "ev"
      have e : (w : Int) + (r : Int) + (i : Int) = ((w + r + i : Nat) : Int) := by omega
      rw [e]
      refine ⟨D1, w + r + i, r, l, w, rfl, ⟨sm _ _ hd1, by omega, by omega, by omega⟩, ?_⟩
      walk_at "ev"
      refine br_of (fun hc => ?_) (fun hc => ?_)
      · exact hy _ _ (Same.refl _) (by unfold cutF; rw [if_pos hc]; rfl)
      · exact hz _ (Same.refl _) (by unfold cutF; rw [hc]; rfl)
    · rw [cutV_map] at h
      exact q D H2 (sm1.trans sm) (sm1.free hD) h
    
def sp_pieces {K : PySem.W.Frag} {mg : Str → Option Value} {base : Heap} (W : Wd K mg base) : Sp := fun vs H Q _ => ∃ (l : List Nat) (w r : Nat), vs = [.str (st l), .int (w : Int), .int (r : Int)] ∧ (l.length ≤ 8000000 ∧ w ≤ 8 ∧ r ≤ 40) ∧ ∀ D H', Same H H' → H D = none → H' D = some (.lst ((piecesOf l w r).map txtV)) → Q (.ref D) H'
theorem ok_pieces (W : Wd K mg base) : FnOk P w K mg base CX0 4 W.f_pieces W.d_pieces ["text", "width", "reach"] (sp_pieces W) := by
  refine W.F_pieces.ok sc_pieces (fun vs H Q E h => ?_) (fun cdv A outer s H vs Q E hr h => ?_)
  · obtain ⟨l, w, r, rfl, hb, q⟩ := h
    rfl
  · obtain ⟨l, w, r, rfl, hb, q⟩ := h
    refine ⟨_, (pss_cons (ps_set (i := 3) sc_pieces.nd rfl (by first | exact Or.inl rfl | exact Or.inr rfl) (pe_op (y_add (K := K)) (pe_op (y_add (K := K)) (pe_lst (pa_cons pe_int pa_nil)) (pe_callS (E := (fun _ => E0)) (ok_cuts W) (hr.mono (by first | decide | omega)) (by rfl) W.m_cuts W.F_cuts.kp W.b_cuts (fun _ => pass0S) (pa_cons (pv 0) (pa_cons (pv 1) (pa_cons (pv 2) pa_nil))))) (pe_lst (pa_cons (pe_callB (y_len (K := K)) (by rfl) W.z_len (by decide +kernel) (pa_cons (pv 0) pa_nil)) pa_nil))))
      (pss_one (ps_ret (pe_lc (own := [("start", 4), ("end", 5)]) (g := gTup K 2 (gCons (gName 4) (gCons (gName 5) (gNil)))) (by rfl) sc_pieces.nd (pi_zip (by rfl) W.z_zip (pa_cons (pv 3) (pa_cons (pe_slice (y_sl (K := K)) (pv 3) (po_some pe_int) po_none) pa_nil))) (blkOk_by (own := [("start", 4), ("end", 5)]) (N := N_pieces) (sc := defScope s_pieces) (by decide +kernel)) (fun _ _ _ _ _ => pg_tup (by rfl) (pgs_cons (pg_name (i := 4) sc_pieces.nd rfl (Or.inl rfl)) (pgs_cons (pg_name (i := 5) sc_pieces.nd rfl (Or.inl rfl)) (pgs_nil)))) (fun _ _ _ _ _ => pts_one (pt_cmpR y_lt (pv 4) (pv 5) (nomark _))) (fun _ _ _ _ _ => (pe_slice (y_sl (K := K)) (pv 0) (po_some (pv 4)) (po_some (pv 5)))))))), ?_⟩
    walk_at "ev"
    intro p0 hp0
    refine ⟨l, w, r, rfl, hb, fun D1 H1 sm1 hn1 hd1 => ?_⟩
    walk_at "ev"
    have hcl : (cutsOf l w r).length ≤ l.length + 1 := cuts_count l w r
    have h0 : H1 p0 = some (.lst [V.int 0]) := sm1 _ _ upd_same
    refine ⟨_, _, h0, hd1, by rw [List.length_map]; simp only [List.length_cons, List.length_nil]; omega, fun p1 hp1 => ?_⟩
    refine ⟨by omega, fun p2 hp2 => ?_⟩
    have h1 : upd (upd H1 p1 (.lst ([V.int 0] ++ (cutsOf l w r).map natV))) p2 (.lst [V.int l.length]) p1 = some (.lst ([V.int 0] ++ (cutsOf l w r).map natV)) := upd_of upd_same hp2
    refine ⟨_, _, h1, upd_same, by rw [List.length_append, List.length_map]; simp only [List.length_cons, List.length_nil]; omega, fun p3 hp3 => ?_⟩
    have hB : [V.int 0] ++ (cutsOf l w r).map natV ++ [V.int l.length] = (bounds l w r).map natV := by
      unfold bounds
      rw [List.map_cons, List.map_append]
      rfl
    rw [hB]
    have s0 : Same H (upd H p0 (.lst [V.int 0])) := same_new hp0
    have s3 := same_upd (o := .lst ((bounds l w r).map natV)) (same_upd (o := .lst [V.int l.length]) (same_upd (o := .lst ([V.int 0] ++ (cutsOf l w r).map natV)) (s0.trans sm1) hp1) hp2) hp3
    have hb3 : upd (upd (upd H1 p1 (.lst ([V.int 0] ++ (cutsOf l w r).map natV))) p2 (.lst [V.int l.length])) p3 (.lst ((bounds l w r).map natV)) p3 = some (.lst ((bounds l w r).map natV)) := upd_same
    generalize upd (upd (upd H1 p1 (.lst ([V.int 0] ++ (cutsOf l w r).map natV))) p2 (.lst [V.int l.length])) p3 (.lst ((bounds l w r).map natV)) = H4 at s3 hb3 ⊢
    refine ⟨_, SqL.of hb3, fun p4 hp4 => ?_⟩
    rw [cutV_one]
    refine ⟨p3, p4, _, _, rfl, SqL.of (upd_of hb3 hp4), SqL.of upd_same, fun D hD => ?_⟩
    have hlen : ((bounds l w r).map natV).length = (bounds l w r).length := List.length_map _
    have hbl : (bounds l w r).length = (cutsOf l w r).length + 2 := by simp [bounds]
    refine lc_zip (pieceV l) (by decide) hD (SqL.of (upd_of hb3 hp4)) (SqL.of upd_same) ((bounds l w r).length - 1) (by rw [List.length_drop, hlen]; omega) (by omega) ?_ ?_
    · intro i x y H6 hx hy sm6 Ny Nn h1 h2
      obtain ⟨a, ha, rfl⟩ : ∃ a, (bounds l w r)[i]? = some a ∧ natV a = x := by
        rw [List.getElem?_map] at hx
        exact Option.map_eq_some_iff.mp hx
      obtain ⟨b, hb', rfl⟩ : ∃ b, (bounds l w r)[1 + i]? = some b ∧ natV b = y := by
        rw [List.getElem?_drop, List.getElem?_map] at hy
        exact Option.map_eq_some_iff.mp hy
      walk_at "ev"
      have hle : ∀ c, c ∈ bounds l w r → c ≤ l.length := by
        intro c hc
        unfold bounds at hc
        rcases List.mem_cons.mp hc with rfl | hc
        · exact Nat.zero_le _
        rcases List.mem_append.mp hc with hc | hc
        · have := cuts_mem hc
          omega
        · rw [List.mem_singleton] at hc
          omega
      have hb2 := hle b (List.mem_of_getElem? hb')
      refine br_of (fun hc => ?_) (fun hc => ?_)
      · have hab : a < b := by
          have := of_decide_eq_true hc
          omega
        rw [cut_mid (by omega) hb2]
        refine ⟨by omega, h1 _ _ (Same.refl _) ?_⟩
        show (pieceG l ((a : Int).toNat) ((b : Int).toNat)).map txtV = _
        rw [Int.toNat_natCast, Int.toNat_natCast]
        unfold pieceG
        rw [if_pos hab]
        rfl
      · refine h2 _ (Same.refl _) ?_
        show (pieceG l ((a : Int).toNat) ((b : Int).toNat)).map txtV = _
        rw [Int.toNat_natCast, Int.toNat_natCast]
        unfold pieceG
        have := of_decide_eq_false hc
        rw [if_neg (by omega)]
        rfl
    · intro H6 sm6 h6
      have e := pairs_range (pieceG l) txtV (pieceV l) (fun a b => by
        show (pieceG l ((a : Int).toNat) ((b : Int).toNat)).map txtV = _
        rw [Int.toNat_natCast, Int.toNat_natCast]) (bounds l w r)
      rw [e] at h6
      exact q D H6 ((same_upd s3 hp4).trans sm6) ((same_upd s3 hp4).free hD) h6
    
def sp_Stock_put {K : PySem.W.Frag} {mg : Str → Option Value} {base : Heap} (W : Wd K mg base) : Sp := fun vs H Q _ => ∃ r S n t c, vs = [.ref r.k, natV n, txtV t, natV c] ∧ (StAt W.c_Stock H r S ∧ S.byN n = none ∧ S.byT t = none ∧ S.its.length < 1000000) ∧ ∀ H', StAt W.c_Stock H' r (S.put n t c) → Fr r.F H H' → Q .non H'
theorem ok_Stock_put (W : Wd K mg base) : FnOk P w K mg base CX0 1 W.f_Stock_put W.d_Stock_put ["self", "number", "text", "count"] (sp_Stock_put W) := by
  refine W.F_Stock_put.ok sc_Stock_put (fun vs H Q E h => ?_) (fun cdv A outer s H vs Q E hr h => ?_)
  · obtain ⟨r, S, n, t, c, rfl, ⟨hS, hn, ht, hl⟩, q⟩ := h
    rfl
  · obtain ⟨r, S, n, t, c, rfl, ⟨hS, hn, ht, hl⟩, q⟩ := h
    refine ⟨_, (pss_cons (ps_dput (hu_of hr) (y_fld (K := K) (pv 0)) (pv 1) (pv 2) rfl)
      (pss_cons (ps_dput (hu_of hr) (y_fld (K := K) (pv 0)) (pv 1) (pv 3) rfl)
      (pss_one (ps_dput (hu_of hr) (y_fld (K := K) (pv 0)) (pv 2) (pv 1) rfl)))), ?_⟩
    walk_at "ev"
    rw [fT W hS.ob]
    walk_at "ev"
    refine ⟨_, dpI hS.tx (by rw [mp_len]; omega), ?_⟩
    rw [putK_mp_new hn]
    have k1 := hS.kt
    have k2 := hS.kc
    have k3 := hS.kn
    obtain ⟨d1, d2, d3⟩ := hS.ne
    rw [fC W (by rw [upd_ne k1]; exact hS.ob)]
    walk_at "ev"
    refine ⟨_, dpI (by rw [upd_ne d1.symm]; exact hS.ct) (by rw [mp_len]; omega), ?_⟩
    rw [putK_mp_new hn]
    rw [fN W (by rw [upd_ne k2, upd_ne k1]; exact hS.ob)]
    walk_at "ev"
    refine ⟨_, dpS (by rw [upd_ne d3.symm, upd_ne d2.symm]; exact hS.nm) (by rw [mp_len]; omega), ?_⟩
    rw [putK_mp_new ht]
    refine q _ ⟨?_, ?_, ?_, ?_, hS.ne⟩ ?_
    · rw [upd_ne k3, upd_ne k2, upd_ne k1]
      exact hS.ob
    · rw [upd_ne d2, upd_ne d1, upd_same]
      unfold StM.put
      rw [mp_snoc]
      rfl
    · rw [upd_ne d3, upd_same]
      unfold StM.put
      rw [mp_snoc]
      rfl
    · rw [upd_same]
      unfold StM.put
      rw [mp_snoc]
      rfl
    · exact ((Fr.upd (by simp [StR.F]) hS.tx rfl).upd2 (by simp [StR.F]) (by rw [upd_ne d1.symm]; exact hS.ct) rfl).upd2 (by simp [StR.F]) (by rw [upd_ne d3.symm, upd_ne d2.symm]; exact hS.nm) rfl
def sp_Stock_need {K : PySem.W.Frag} {mg : Str → Option Value} {base : Heap} (W : Wd K mg base) : Sp := fun vs H Q _ => ∃ r S t, vs = [.ref r.k, txtV t] ∧ (StAt W.c_Stock H r S ∧ S.Ok ∧ S.its.length < 999999) ∧ ∀ H', StAt W.c_Stock H' r (S.need t).1 → Fr r.F H H' → Q (natV (S.need t).2) H'
theorem ok_Stock_need (W : Wd K mg base) : FnOk P w K mg base CX0 2 W.f_Stock_need W.d_Stock_need ["self", "text"] (sp_Stock_need W) := by
  refine W.F_Stock_need.ok sc_Stock_need (fun vs H Q E h => ?_) (fun cdv A outer s H vs Q E hr h => ?_)
  · obtain ⟨r, S, t, rfl, ⟨hS, ok, hl⟩, q⟩ := h
    rfl
  · obtain ⟨r, S, t, rfl, ⟨hS, ok, hl⟩, q⟩ := h
    refine ⟨_, (pss_cons (ps_if (pt_cmp (pc_dnotin (hu_of hr) (pv 1) (y_fld (K := K) (pv 0)))) (pss_cons (y_fldaug (K := K) (pv 0) pe_int y_inadd)
      (pss_one (ps_expr (pe_methE (E := (fun _ => E0)) (pv 0) W.T_Stock W.q_Stock_put (ok_Stock_put W) (hr.mono (by first | decide | omega)) W.b_Stock_put (fun _ => pass0S) (pa_cons (y_fld (K := K) (pv 0)) (pa_cons (pv 1) (pa_cons pe_int pa_nil))))))) pss_nil)
      (pss_cons (ps_set (i := 2) sc_Stock_need.nd rfl (by first | exact Or.inl rfl | exact Or.inr rfl) (pe_dget (hu_of hr) (y_fld (K := K) (pv 0)) (pv 1) (fun _ _ => rfl)))
      (pss_cons (ps_daug (hu_of hr) (y_fld (K := K) (pv 0)) (pv 2) pe_int y_inadd (fun _ _ _ => rfl))
      (pss_one (ps_ret (pv 2)))))), ?_⟩
    walk_at "ev"
    rw [fN W hS.ob]
    walk_at "ev"
    refine ⟨_, dgS hS.nm (valV_mp _), ?_⟩
    refine brS_join (R := fun σ H1 => ∃ S1 i, σ = [some (.ref r.k), some (txtV t), none] ∧ StAt W.c_Stock H1 r S1 ∧ Fr r.F H H1 ∧ S1.byT t = some i ∧ S1.byN i.num = some i ∧ S1.its.length < 16000000 ∧ (S1.its.map (·.num)).Nodup ∧ S1.at i.num (· + 1) = (S.need t).1 ∧ i.num = (S.need t).2) ?_ ?_
    · rintro σ H1 ⟨S1, i, rfl, h1, s1, b1, b2, b3, bn, b4, b5⟩
      walk_at "ev"
      rw [fN W h1.ob]
      walk_at "ev"
      refine ⟨_, dgS h1.nm (by rw [valV_mp, show S1.its.find? _ = some i from b1]; rfl), ?_⟩
      rw [fC W h1.ob]
      walk_at "ev"
      refine ⟨_, dgI h1.ct (by rw [valV_mp, show S1.its.find? _ = some i from b2]; rfl), ?_⟩
      walk_at "ev"
      refine ⟨_, dpI h1.ct (by rw [mp_len]; omega), ?_⟩
      rw [putK_mp_at b2]
      have q' := q
      rw [← b5] at q'
      refine q' _ ?_ (s1.upd2 (by simp [StR.F]) h1.ct rfl)
      rw [← b4]
      obtain ⟨d1, d2, d3⟩ := h1.ne
      refine ⟨?_, ?_, ?_, ?_, h1.ne⟩
      · rw [upd_ne h1.kc]
        exact h1.ob
      · rw [upd_ne d1, h1.tx]
        unfold StM.at
        rw [mp_map]
        congr 2
        apply mp_congr
        intro j _
        split <;> exact ⟨rfl, rfl⟩
      · rw [upd_same]
        unfold StM.at
        rw [mp_map]
        congr 2
        apply mp_congr
        intro j hj
        by_cases z : j.num = i.num
        · rw [if_pos z, if_pos (Pc.ik_inj.mpr z)]
          have e2 : j = i := nodup_inj bn hj (StM.byN_some b2).1 z
          rw [e2]
          exact ⟨rfl, rfl⟩
        · rw [if_neg z, if_neg (fun e => z (Pc.ik_inj.mp e))]
          exact ⟨rfl, rfl⟩
      · rw [upd_ne d3.symm, h1.nm]
        unfold StM.at
        rw [mp_map]
        congr 2
        apply mp_congr
        intro j _
        split <;> exact ⟨rfl, rfl⟩
    · intro N k
      cases e : S.its.find? (fun i => decide (i.tk = Sum.inr (st t))) with
      | some i =>
        walk_at "ev"
        have hn : S.need t = (S.at i.num (· + 1), i.num) := by unfold StM.need; rw [show S.byT t = some i from e]
        exact k _ _ ⟨S, i, rfl, hS, Fr.refl, e, StM.byN_of ok (StM.byT_some e).1, by omega, ok.nn, by rw [hn], by rw [hn]⟩
      | none =>
        walk_at "ev"
        have hn : S.need t = (StM.at ⟨S.last + 1, S.its ++ [⟨S.last + 1, t, 0⟩]⟩ (S.last + 1) (· + 1), S.last + 1) := by unfold StM.need; rw [show S.byT t = none from e]
        rw [fG W hS.ob]
        walk_at "ev"
        rw [pG W hS.ob, stF_put]
        have s1 : Fr r.F H (upd H r.k (.ins W.c_Stock r.dx (stF (S.last + 1 : Int) r.t r.c r.n))) := Fr.upd (by simp [StR.F]) hS.ob rfl
        have h1 : StAt W.c_Stock (upd H r.k (.ins W.c_Stock r.dx (stF (S.last + 1 : Int) r.t r.c r.n))) r ⟨S.last + 1, S.its⟩ := ⟨upd_same, by rw [upd_ne hS.kt.symm]; exact hS.tx, by rw [upd_ne hS.kc.symm]; exact hS.ct, by rw [upd_ne hS.kn.symm]; exact hS.nm, hS.ne⟩
        generalize upd H r.k (.ins W.c_Stock r.dx (stF (S.last + 1 : Int) r.t r.c r.n)) = H1 at s1 h1 ⊢
        walk_at "ev"
        rw [fM W h1.ob (by decide +kernel)]
        walk_at "ev"
        rw [fG W h1.ob]
        walk_at "ev"
        refine ⟨r, _, S.last + 1, t, 0, rfl, ⟨h1, ok.fresh, e, by show S.its.length < _; omega⟩, fun H' h2 s2 => ?_⟩
        exact k _ _ ⟨_, _, rfl, h2, s1.trans s2, byT_add e, byN_add ok.fresh, by show (S.its ++ [_]).length < _; rw [List.length_append]; simp; omega, nn_add ok e, by rw [hn]; rfl, by rw [hn]⟩
def sp_Shelf__needed_row {K : PySem.W.Frag} {mg : Str → Option Value} {base : Heap} (W : Wd K mg base) : Sp := fun vs H Q _ => ∃ r M z, vs = [.ref r.k, txtV z] ∧ ShAt W.c_Shelf W.c_Stock H r M ∧ M.Ok ∧ z.length ≤ 3000 ∧ M.S.its.length < 900000 ∧ ∀ p H', H p = none → H' p = some (.tup ((needs M.S (piecesOf z M.w M.r)).row.map natV)) → ShAt W.c_Shelf W.c_Stock H' r ⟨M.w, M.r, (needs M.S (piecesOf z M.w M.r)).S, M.wk, M.rows⟩ → Fr r.F H H' → Q (.ref p) H'
theorem ok_Shelf__needed_row (W : Wd K mg base) : FnOk P w K mg base CX0 5 W.f_Shelf__needed_row W.d_Shelf__needed_row ["self", "text"] (sp_Shelf__needed_row W) := by
  refine W.F_Shelf__needed_row.ok sc_Shelf__needed_row (fun vs H Q E h => ?_) (fun cdv A outer s H vs Q E hr h => ?_)
  · obtain ⟨r, M, z, rfl, hS, ok, hz, hl, q⟩ := h
    rfl
  · obtain ⟨r, M, z, rfl, hS, ok, hz, hl, q⟩ := h
    refine ⟨_, (pss_cons (ps_set (i := 2) sc_Shelf__needed_row.nd rfl (by first | exact Or.inl rfl | exact Or.inr rfl) pe_dnewK)
      (pss_cons (ps_set (i := 3) sc_Shelf__needed_row.nd rfl (by first | exact Or.inl rfl | exact Or.inr rfl) (pe_lst pa_nil))
      (pss_cons (ps_for PassesOwn.never rfl (pi_list (pe_callS (E := (fun _ => E0)) (ok_pieces W) (hr.mono (by first | decide | omega)) (by rfl) W.a_pieces_cutting W.F_pieces.kp W.b_pieces (fun _ => pass0S) (pa_cons (pv 1) (pa_cons (y_fld (K := K) (pv 0)) (pa_cons (y_fld (K := K) (pv 0)) pa_nil))))) (pg_name (i := 4) sc_Shelf__needed_row.nd rfl (by first | exact Or.inl rfl | exact Or.inr rfl)) (pss_cons (ps_if (pt_cmp (pc_dnotin (hu_of hr) (pv 4) (pv 2))) (pss_one (ps_dput (hu_of hr) (pv 2) (pv 4) (pe_methE (E := (fun _ => E0)) (y_fld (K := K) (pv 0)) W.T_Stock W.q_Stock_need (ok_Stock_need W) (hr.mono (by first | decide | omega)) W.b_Stock_need (fun _ => pass0S) (pa_cons (pv 4) pa_nil)) rfl)) pss_nil)
      (pss_one (ps_expr (pe_bm PySem.F.plainAttrs_list PySem.F.slot_list_append PySem.F.type_list_append mt_append (pv 3) (pa_cons (pe_dget (hu_of hr) (pv 2) (pv 4) (fun _ _ => rfl)) pa_nil))))))
      (pss_one (ps_ret (pe_callTy y_tuple (by rfl) W.z_tuple (by decide +kernel) (pa_cons (pv 3) pa_nil))))))), ?_⟩
    walk_at "ev"
    intro nd hnd
    intro p hp
    have hS0 := (hS.same (same_new (o := .dK []) hnd)).same (same_new (o := .lst []) hp)
    rw [sW W hS0.ob]
    walk_at "ev"
    rw [sR W hS0.ob]
    walk_at "ev"
    refine ⟨z, M.w, M.r, rfl, ⟨by omega, ok.w.2, ok.r.2⟩, fun D H1 s1 hD0 hD => ?_⟩
    walk_at "ev"
    have hpc : (piecesOf z M.w M.r).length ≤ 3000 := by
      have h := flat_len (l := piecesOf z M.w M.r) (fun x hx => pieces_ne hx)
      rw [pieces_join ok.r.1] at h
      omega
    generalize piecesOf z M.w M.r = ps at q hD hpc ⊢
    refine ⟨⟨_, SqL.of hD⟩, ?_⟩
    have p0 : H p = none := (same_new (o := .dK []) hnd).free hp
    have d0 : H D = none := (same_new (o := .dK []) hnd).free ((same_new (o := .lst []) hp).free hD0)
    have np : nd ≠ p := ne_of_none upd_same hp
    have nD : nd ≠ D := ne_of_none (upd_of upd_same hp) hD0
    have pD : p ≠ D := ne_of_none upd_same hD0
    have nf : ∀ a, H a = none → a ∉ r.F := fun a h z => hS.live z h
    have I0 := NdOk.start ok.sok ok.cn
    refine L2.for_list (K := K) (a := D) (xs := ps.map txtV) (fun i σ H2 => ∃ v, σ = [some (.ref r.k), some (txtV z), some (.ref nd), some (.ref p), v] ∧ ∃ x : NdM, x = (ps.take i).foldl NdM.step ⟨M.S, [], []⟩ ∧ NdOk M.S M.cnt x (ps.take i) ∧ x.seen.length ≤ i ∧ ShAt W.c_Shelf W.c_Stock H2 r ⟨M.w, M.r, x.S, M.wk, M.rows⟩ ∧ H2 nd = some (.dK (mp wkK (fun q => natV q.2) x.seen)) ∧ H2 p = some (.lst (x.row.map natV)) ∧ H2 D = some (.lst (ps.map txtV)) ∧ Fr ([nd, p, D] ++ r.F) H H2) ?_ ?_ ?_ ?_
    · refine ⟨none, rfl, _, rfl, I0, Nat.le_refl _, hS0.same s1, s1 _ _ (upd_of upd_same hp), s1 _ _ upd_same, hD, ?_⟩
      exact frS (((same_new hnd).trans (same_new hp)).trans s1)
    · rintro i σ H2 _ ⟨v, rfl, x, ex, I, hsn, h2, g1, g2, g3, f2⟩
      exact SqL.of g3
    · rintro i y σ H2 hi ⟨v, rfl, x, ex, I, hsn, h2, g1, g2, g3, f2⟩
      obtain ⟨t, ht, rfl⟩ : ∃ t, ps[i]? = some t ∧ y = txtV t := by
        rw [List.getElem?_map] at hi
        obtain ⟨n, h1, h2⟩ := Option.map_eq_some_iff.mp hi
        exact ⟨n, h1, h2.symm⟩
      have hi3 : i < ps.length := (List.getElem?_eq_some_iff.mp ht).1
      have tk : ps.take (i + 1) = ps.take i ++ [t] := by
        rw [List.take_succ, ht]
        rfl
      have Is := I.step (fun n hn => ok.cnt0 hn) t
      have ex' : x.step t = (ps.take (i + 1)).foldl NdM.step ⟨M.S, [], []⟩ := by rw [tk, foldl_snoc, ← ex]
      rw [← tk] at Is
      have hlen : x.S.its.length < 999999 := by
        have := I.len
        rw [List.length_take] at this
        omega
      walk_at "ev"
      refine ⟨_, dgS g1 (valV_mp _), ?_⟩
      refine brS_join (R := fun σ H3 => σ = [some (.ref r.k), some (txtV z), some (.ref nd), some (.ref p), some (txtV t)] ∧ ∃ n, (x.step t).row = x.row ++ [n] ∧ valV (mp wkK (fun q => natV q.2) (x.step t).seen) (Sum.inr (st t)) = some (natV n) ∧ ShAt W.c_Shelf W.c_Stock H3 r ⟨M.w, M.r, (x.step t).S, M.wk, M.rows⟩ ∧ H3 nd = some (.dK (mp wkK (fun q => natV q.2) (x.step t).seen)) ∧ H3 p = some (.lst (x.row.map natV)) ∧ H3 D = some (.lst (ps.map txtV)) ∧ Fr ([nd, p, D] ++ r.F) H H3) ?_ ?_
      · rintro σ H3 ⟨rfl, n, e1, e2, h3, k1, k2, k3, f3⟩
        walk_at "ev"
        refine ⟨.inl ⟨rfl, _, SqL.of k2⟩, ?_⟩
        refine ⟨_, dgS k1 e2, ?_⟩
        walk_at "ev"
        refine ⟨p, _, _, rfl, rfl, k2, ?_, ?_⟩
        · have := I.row.len
          rw [List.length_take] at this
          rw [line_eq, List.length_map]
          omega
        · refine ⟨_, rfl, _, ex', Is, Nat.le_trans step_seen (Nat.succ_le_succ hsn), ?_, ?_, ?_, ?_, ?_⟩
          · exact h3.fr (F := [p]) (Fr.upd (by simp) k2 rfl) (fun a ha z => nf p p0 (by rw [← List.mem_singleton.mp z]; exact ha)) (fun a ha xs z => by rw [List.mem_singleton.mp ha, k2] at z; cases z)
          · rw [upd_ne np]; exact k1
          · rw [upd_same, e1, List.map_append]; rfl
          · rw [upd_ne pD.symm]; exact k3
          · exact f3.upd2 (by simp) k2 rfl
      · intro N k
        cases e : x.seen.find? (fun q => decide (wkK q = Sum.inr (st t))) with
        | some w =>
          have es : x.step t = ⟨x.S, x.seen, x.row ++ [w.2]⟩ := by unfold NdM.step; rw [show x.find t = some w from e]
          walk_at "ev"
          refine k _ _ ⟨rfl, w.2, by rw [es], ?_, by rw [es]; exact h2, by rw [es]; exact g1, g2, g3, f2⟩
          rw [es, valV_mp, e]
          rfl
        | none =>
          have es : x.step t = ⟨(x.S.need t).1, x.seen ++ [(t, (x.S.need t).2)], x.row ++ [(x.S.need t).2]⟩ := by unfold NdM.step; rw [show x.find t = none from e]
          walk_at "ev"
          rw [sS W h2.ob]
          walk_at "ev"
          rw [fM W h2.st.ob (by decide +kernel)]
          walk_at "ev"
          refine ⟨r.s, x.S, t, rfl, ⟨h2.st, I.ok, hlen⟩, fun H3 hs3 f3 => ?_⟩
          walk_at "ev"
          have nsF : ∀ a, H a = none → a ∉ r.s.F := fun a h z => nf a h (by simp [ShR.F, z])
          have k1 := f3.keep _ _ g1 (nsF _ hnd) rfl
          have k2 := f3.lst g2 (nsF _ p0)
          have k3 := f3.lst g3 (nsF _ d0)
          refine ⟨_, dpS k1 (by rw [mp_len]; omega), ?_⟩
          have tF : ∀ xs a, a ∈ r.s.F → H2 a ≠ some (.tup xs) := fun xs a ha z => h2.st.noT z ha
          have h3 : ShAt W.c_Shelf W.c_Stock H3 r ⟨M.w, M.r, (x.S.need t).1, M.wk, M.rows⟩ :=
            ⟨f3.keep _ _ h2.ob h2.ne.1 rfl |> fun z => z, hs3, f3.keep _ _ h2.wk h2.ne.2.1 rfl, f3.keep _ _ h2.rw_ h2.ne.2.2.1 rfl, fun y hy => f3.tup (h2.tp y hy) (fun z => tF _ _ z (h2.tp y hy)), h2.ne⟩
          have ep : putK (mp wkK (fun q => natV q.2) x.seen) (Sum.inr (st t)) (natV (x.S.need t).2) = mp wkK (fun q => natV q.2) (x.step t).seen := by
            rw [putK_mp_new e, es, mp_snoc]
            rfl
          rw [ep]
          refine k _ _ ⟨rfl, (x.S.need t).2, by rw [es], ?_, ?_, upd_same, ?_, ?_, ?_⟩
          · rw [es, valV_mp, List.find?_append, e, Option.none_or, List.find?_cons_of_pos (by simp [wkK])]
            rfl
          · rw [es]
            exact h3.fr (F := [nd]) (Fr.upd (by simp) k1 rfl) (fun a ha z => nf nd hnd (by rw [← List.mem_singleton.mp z]; exact ha)) (fun a ha xs z => by rw [List.mem_singleton.mp ha, k1] at z; cases z)
          · rw [upd_ne np.symm]
            exact k2
          · rw [upd_ne nD.symm]
            exact k3
          · exact (f2.trans (f3.mono (fun a ha => by simp [ShR.F, ha]))).upd2 (by simp) k1 rfl
    · rintro σ H2 ⟨v, rfl, x, ex, I, hsn, h2, g1, g2, g3, f2⟩
      rw [List.length_map, List.take_length] at ex I
      walk_at "ev"
      refine ⟨_, g2, fun p2 hp2 => ?_⟩
      have f4 : Fr r.F H (upd H2 p2 (.tup (x.row.map natV))) := (f2.new hp2).cut (by
        intro a ha
        simp only [List.mem_cons, List.not_mem_nil, or_false] at ha
        rcases ha with e | e | e <;> rw [e]
        · exact hnd
        · exact p0
        · exact d0)
      have en : x = needs M.S ps := ex
      rw [en] at h2
      have h5 := h2.same (same_new (o := .tup (x.row.map natV)) hp2)
      rw [en] at h5 f4 ⊢
      exact q p2 _ (f2.live _ hp2) upd_same h5 f4
def sp_Shelf__put {K : PySem.W.Frag} {mg : Str → Option Value} {base : Heap} (W : Wd K mg base) : Sp := fun vs H Q _ => ∃ r M nm z, vs = [.ref r.k, txtV nm, txtV z] ∧ ShAt W.c_Shelf W.c_Stock H r M ∧ M.Ok ∧ z.length ≤ 3000 ∧ M.rows.length ≤ 100 ∧ M.wk.length < 900000 ∧ M.S.its.length < 900000 ∧ ∀ a H', H a = none → ShAt W.c_Shelf W.c_Stock H' r (M.keep nm a (piecesOf z M.w M.r)) → Fr r.F H H' → Q (natV (M.given nm + 1)) H'
theorem ok_Shelf__put (W : Wd K mg base) : FnOk P w K mg base CX0 6 W.f_Shelf__put W.d_Shelf__put ["self", "name", "text"] (sp_Shelf__put W) := by
  refine W.F_Shelf__put.ok sc_Shelf__put (fun vs H Q E h => ?_) (fun cdv A outer s H vs Q E hr h => ?_)
  · obtain ⟨r, M, nm, z, rfl, hS, ok, hz, hr1, hwk, hl, q⟩ := h
    rfl
  · obtain ⟨r, M, nm, z, rfl, hS, ok, hz, hr1, hwk, hl, q⟩ := h
    refine ⟨_, (pss_cons (ps_set (i := 3) sc_Shelf__put.nd rfl (by first | exact Or.inl rfl | exact Or.inr rfl) (pe_op (y_add (K := K)) (pe_dget2 (hu_of hr) (y_fld (K := K) (pv 0)) (pv 1) pe_int ⟨by rfl, by rfl, by rfl, by rfl⟩) pe_int))
      (pss_cons (ps_dput (hu_of hr) (y_fld (K := K) (pv 0)) (pe_tup (pa_cons (pv 1) (pa_cons (pv 3) pa_nil))) (pe_methE (E := (fun _ => E0)) (pv 0) W.T_Shelf W.q_Shelf__needed_row (ok_Shelf__needed_row W) (hr.mono (by first | decide | omega)) W.b_Shelf__needed_row (fun _ => pass0S) (pa_cons (pv 2) pa_nil)) rfl)
      (pss_cons (ps_dput (hu_of hr) (y_fld (K := K) (pv 0)) (pv 1) (pv 3) rfl)
      (pss_one (ps_ret (pv 3)))))), ?_⟩
    walk_at "ev"
    rw [sK W hS.ob]
    walk_at "ev"
    refine ⟨.inl ⟨_, .inl hS.wk⟩, _, dgS hS.wk (valV_mp _), ?_⟩
    rw [show (Option.map (fun p => natV p.2) (List.find? (fun i => decide (wkK i = Sum.inr (st nm))) M.wk)).getD (V.int 0) = natV (M.given nm) from given_val]
    walk_at "ev"
    rw [show ((M.given nm : Int) + 1) = ((M.given nm + 1 : Nat) : Int) from rfl]
    rw [sM W hS.ob (by decide +kernel)]
    refine ⟨r, M, z, rfl, hS, ok, hz, hl, fun p H1 hp0 hp hS1 f1 => ?_⟩
    walk_at "ev"
    rw [sO W hS1.ob]
    walk_at "ev"
    intro kp hkp
    have hS2 := hS1.same (same_new (o := .tup [txtV nm, natV (M.given nm + 1)]) hkp)
    refine ⟨_, dpT (k := [Sum.inr (st nm), Sum.inl ((M.given nm + 1 : Nat) : Int)]) hS2.rw_ upd_same (by rw [mp_len]; show M.rows.length < _; omega), ?_⟩
    have ek : putK (mp Rw.key (fun x => V.ref x.at_) M.rows) [Sum.inr (st nm), Sum.inl ((M.given nm + 1 : Nat) : Int)] (V.ref p) = mp Rw.key (fun x => V.ref x.at_) (M.keep nm p (piecesOf z M.w M.r)).rows := by
      rw [putK_mp_new (ok.fresh nm)]
      show _ = mp Rw.key (fun x => V.ref x.at_) (M.rows ++ [_])
      rw [mp_snoc]
      rfl
    rw [ek]
    have f2 := f1.new (o := .tup [txtV nm, natV (M.given nm + 1)]) hkp
    have hkt := same_new (o := .tup [txtV nm, natV (M.given nm + 1)]) hkp _ _ hp
    generalize upd H1 kp (.tup [txtV nm, natV (M.given nm + 1)]) = H2 at hS2 f2 hkt ⊢
    have hp2 := f2.live
    rw [sK W (by rw [upd_ne hS2.kr]; exact hS2.ob)]
    walk_at "ev"
    have hkr : r.wk ≠ r.rw_ := hS2.ne.2.2.2
    refine ⟨_, dpS (by rw [upd_ne hkr]; exact hS2.wk) (by rw [mp_len]; show M.wk.length < _; omega), ?_⟩
    rw [show (V.int ((M.given nm + 1 : Nat) : Int)) = natV (M.given nm + 1) from rfl, putK_setW]
    have hpt : H2 p = some (.tup ((needs M.S (piecesOf z M.w M.r)).row.map natV)) := hkt
    refine q p _ hp0 ⟨?_, ?_, ?_, ?_, ?_, hS2.ne⟩ ?_
    · rw [upd_ne hS2.kw, upd_ne hS2.kr]
      exact hS2.ob
    · exact (hS2.st.fr (F := [r.rw_]) (Fr.upd (by simp) hS2.rw_ rfl) (fun a ha z => hS2.ne.2.2.1 (by rw [← List.mem_singleton.mp z]; exact ha))).fr (F := [r.wk]) (Fr.upd (by simp) (by rw [upd_ne hkr]; exact hS2.wk) rfl) (fun a ha z => hS2.ne.2.1 (by rw [← List.mem_singleton.mp z]; exact ha))
    · exact upd_same
    · exact (upd_ne hkr.symm).trans upd_same
    · intro x hx
      have nt : ∀ b ys, H2 b = some (.tup ys) → b ≠ r.wk ∧ b ≠ r.rw_ := fun b ys hb => ⟨tup_ne hb hS2.wk (by intro _ z; cases z), tup_ne hb hS2.rw_ (by intro _ z; cases z)⟩
      rcases List.mem_append.mp hx with hx | hx
      · have hb := hS2.tp x hx
        rw [upd_ne (nt _ _ hb).1, upd_ne (nt _ _ hb).2]
        exact hb
      · have ex : x = ⟨nm, M.given nm + 1, p, (needs M.S (piecesOf z M.w M.r)).row, piecesOf z M.w M.r⟩ := by simpa using hx
        subst ex
        show upd (upd H2 _ _) _ _ p = _
        rw [upd_ne (nt _ _ hpt).1, upd_ne (nt _ _ hpt).2]
        exact hpt
    · exact (f2.upd2 (by simp [ShR.F]) hS2.rw_ rfl).upd2 (by simp [ShR.F]) (by rw [upd_ne hkr]; exact hS2.wk) rfl
def sp_Shelf_keep {K : PySem.W.Frag} {mg : Str → Option Value} {base : Heap} (W : Wd K mg base) : Sp := fun vs H Q E => ∃ r M v u, vs = [.ref r.k, v, u] ∧ ShAt W.c_Shelf W.c_Stock H r M ∧ M.Ok ∧ tyN v ≠ none ∧ (tyN u ≠ none ∨ ∃ p xs, u = .ref p ∧ H p = some (.lst xs)) ∧ (∀ x, v = .str x → x.length ≤ 16777216) ∧ (∀ x, u = .str x → x.length ≤ 16777216) ∧ GxR.TabG H W.P_is_name ∧ GxR.TabG H W.P_is_text ∧ M.wk.length < 900000 ∧ M.S.its.length < 900000 ∧ (∀ nm z, v = txtV nm → u = txtV z → isNm v = true → isTx u = true → z.length ≤ 3000 → M.rows.length < 100 → ∀ a H', H a = none → ShAt W.c_Shelf W.c_Stock H' r (M.keep nm a (piecesOf z M.w M.r)) → Fr r.F H H' → Q (natV (M.given nm + 1)) H') ∧ (isNm v = false → ∀ H', Fr [] H H' → E (.ref W.e_NoName) none H') ∧ (isNm v = true → isTx u = false → ∀ H', Fr [] H H' → E (.ref W.e_NoText) none H') ∧ (isNm v = true → ∀ z, u = txtV z → isTx u = true → 3000 < z.length → ∀ H', Fr [] H H' → E (.ref W.e_TooLong) none H') ∧ (isNm v = true → ∀ z, u = txtV z → isTx u = true → z.length ≤ 3000 → 100 ≤ M.rows.length → ∀ H', Fr [] H H' → E (.ref W.e_TooMany) none H')
theorem ok_Shelf_keep (W : Wd K mg base) : FnOk P w K mg base (L2.CX P w) 7 W.f_Shelf_keep W.d_Shelf_keep ["self", "name", "text"] (sp_Shelf_keep W) := by
  refine W.F_Shelf_keep.okX sc_Shelf_keep (fun vs H Q E h => ?_) (fun cdv A outer s H vs Q E hr h => ?_)
  · obtain ⟨r, M, v, u, rfl, hS, ok, hv, hu, hv2, hu2, t1, t2, hwk, hl, q, e1, e2, e3, e4⟩ := h
    rfl
  · obtain ⟨r, M, v, u, rfl, hS, ok, hv, hu, hv2, hu2, t1, t2, hwk, hl, q, e1, e2, e3, e4⟩ := h
    refine ⟨_, (pss_cons (ps_expr (pe_callS (E := (WE (fun cls d _ H => E cls d H))) (ok__check_name W) (hr.mono (by first | decide | omega)) (by rfl) W.m__check_name W.F__check_name.kp W.b__check_name (fun σ => passAt (takes_of rfl rfl rfl rfl) σ) (pa_cons (pv 1) pa_nil)))
      (pss_cons (ps_expr (pe_callS (E := (WE (fun cls d _ H => E cls d H))) (ok__check_text W) (hr.mono (by first | decide | omega)) (by rfl) W.m__check_text W.F__check_text.kp W.b__check_text (fun σ => passAt (takes_of rfl rfl rfl rfl) σ) (pa_cons (pv 2) pa_nil)))
      (pss_cons (ps_expr (pe_methE (E := (WE (fun cls d _ H => E cls d H))) (pv 0) W.T_Shelf W.q_Shelf__check_room (ok_Shelf__check_room W) (hr.mono (by first | decide | omega)) W.b_Shelf__check_room (fun σ => passAt (takes_of rfl rfl rfl rfl) σ) (pa_cons (pv 2) pa_nil)))
      (pss_one (ps_ret (pe_methE (E := (fun _ => E0)) (pv 0) W.T_Shelf W.q_Shelf__put (ok_Shelf__put W) (hr.mono (by first | decide | omega)) W.b_Shelf__put (fun _ => pass0S) (pa_cons (pv 1) (pa_cons (pv 2) pa_nil)))))))), ?_⟩
    walk_at "ev"
    refine ⟨v, rfl, hv, t1, hv2, fun hn H1 f1 => ?_, fun hn H1 f1 => e1 hn _ f1⟩
    walk_at "ev"
    refine ⟨u, rfl, hu.imp id (fun ⟨p, xs, e, h⟩ => ⟨p, xs, e, f1.lst h List.not_mem_nil⟩), f1.tabs _ t2, fun hx H2 f2 => ?_, fun hx H2 f2 => e2 hn hx _ (f1.trans f2)⟩
    walk_at "ev"
    have f := f1.trans f2
    have hS2 := hS.fr0 f
    cases u <;> first | (cases hx; done) | skip
    cases v <;> first | (cases hn; done) | skip
    rename_i xu xv
    obtain ⟨z, rfl⟩ : ∃ z, xu = st z := ⟨xu.cps.toList, by cases xu; rfl⟩
    obtain ⟨nm, rfl⟩ : ∃ z, xv = st z := ⟨xv.cps.toList, by cases xv; rfl⟩
    have hzl := hu2 _ rfl
    rw [len_st] at hzl
    rw [sM W hS2.ob (by decide +kernel)]
    refine ⟨r, M, z, rfl, hS2, hzl, fun h1 h2 => ?_, fun h1 => e3 hn z rfl hx h1 _ f, fun h1 h2 => e4 hn z rfl hx h1 h2 _ f⟩
    walk_at "ev"
    rw [sM W hS2.ob (by decide +kernel)]
    refine ⟨r, M, nm, z, rfl, hS2, ok, h1, by omega, hwk, hl, fun a H' ha hS3 f3 => ?_⟩
    walk_at "ev"
    exact q nm z rfl rfl hn hx h1 h2 a _ (f.live _ ha) hS3 ((f.mono (by simp)).trans f3)
def sp__law_width_by {K : PySem.W.Frag} {mg : Str → Option Value} {base : Heap} (W : Wd K mg base) : Sp := fun vs H Q _ => ∃ c : Int, vs = [.int c] ∧ ∀ w : Nat, 1 ≤ w → w ≤ 8 → Q (.int (w : Int)) H
theorem ok__law_width_by (W : Wd K mg base) : FnOk P w K mg base CX0 1 W.f__law_width_by W.d__law_width_by ["_law_cell"] (sp__law_width_by W) := by
  refine W.F__law_width_by.ok sc__law_width_by (fun vs H Q E h => ?_) (fun cdv A outer s H vs Q E hr h => ?_)
  · obtain ⟨c, rfl, q⟩ := h
    rfl
  · obtain ⟨c, rfl, q⟩ := h
    refine ⟨_, (pss_cons (ps_if (pt_cmpR (y_eq (K := K) hr.units) (pe_op y_mod (pe_op y_fdiv (pv 0) pe_int) pe_int) pe_int (nomark _)) (pss_one (ps_ret (pe_op (y_add (K := K)) pe_int (pe_op y_mod (pv 0) pe_int)))) pss_nil)
      (pss_one (ps_ret (pe_op (y_add (K := K)) pe_int (pe_op y_mod (pv 0) pe_int))))), ?_⟩
    have h8 : c % 8 < 8 := Int.emod_lt_of_pos _ (by omega)
    have g8 : 0 ≤ c % 8 := Int.emod_nonneg _ (by omega)
    have h2 : c % 2 < 2 := Int.emod_lt_of_pos _ (by omega)
    have g2 : 0 ≤ c % 2 := Int.emod_nonneg _ (by omega)
    walk_at "ev"
    refine brS_of (fun hc => ?_) (fun hc => ?_) <;> walk_at "ev"
    · have := q (1 + c % 8).toNat (by omega) (by omega)
      rw [Int.toNat_of_nonneg (by omega)] at this
      exact this
    · have := q (1 + c % 2).toNat (by omega) (by omega)
      rw [Int.toNat_of_nonneg (by omega)] at this
      exact this
    
def sp__law_reach_by {K : PySem.W.Frag} {mg : Str → Option Value} {base : Heap} (W : Wd K mg base) : Sp := fun vs H Q _ => ∃ (i : Int), vs = [.int i] ∧ Q (.int (reachBy i : Nat)) H
theorem ok__law_reach_by (W : Wd K mg base) : FnOk P w K mg base CX0 1 W.f__law_reach_by W.d__law_reach_by ["_law_cell"] (sp__law_reach_by W) := by
  refine W.F__law_reach_by.ok sc__law_reach_by (fun vs H Q E h => ?_) (fun cdv A outer s H vs Q E hr h => ?_)
  · obtain ⟨i, rfl, q⟩ := h
    rfl
  · obtain ⟨i, rfl, q⟩ := h
    refine ⟨_, (pss_cons (ps_if (pt_cmpR (y_eq (K := K) hr.units) (pe_op y_mod (pv 0) pe_int) pe_int (nomark _)) (pss_one (ps_ret (pe_op (y_add (K := K)) pe_int (pe_op y_mod (pe_op y_fdiv (pv 0) pe_int) pe_int)))) pss_nil)
      (pss_one (ps_ret (pe_op (y_add (K := K)) pe_int (pe_op y_mod (pe_op y_fdiv (pv 0) pe_int) pe_int))))), ?_⟩
    unfold reachBy at q
    walk_at "ev"
    refine brS_of (fun hc => ?_) (fun hc => ?_) <;> walk_at "ev"
    · rw [if_pos (of_decide_eq_true hc)] at q
      have e : ((1 + (i / 9 % 40).toNat : Nat) : Int) = 1 + i / 9 % 40 := by omega
      rw [e] at q
      exact q
    · rw [if_neg (of_decide_eq_false hc)] at q
      have e : ((1 + (i / 9 % 5).toNat : Nat) : Int) = 1 + i / 9 % 5 := by omega
      rw [e] at q
      exact q
    
def sp__law_cell_at {K : PySem.W.Frag} {mg : Str → Option Value} {base : Heap} (W : Wd K mg base) : Sp := fun vs H Q _ => ∃ (l : Addr) (ns : List Int) (j : Nat), vs = [.ref l, .int (j : Int)] ∧ SqL K H l (ns.map V.int) ∧ Q (.int (cel ns j)) H
theorem ok__law_cell_at (W : Wd K mg base) : FnOk P w K mg base CX0 1 W.f__law_cell_at W.d__law_cell_at ["_law_script", "_law_k"] (sp__law_cell_at W) := by
  refine W.F__law_cell_at.ok sc__law_cell_at (fun vs H Q E h => ?_) (fun cdv A outer s H vs Q E hr h => ?_)
  · obtain ⟨l, ns, j, rfl, hS, q⟩ := h
    rfl
  · obtain ⟨l, ns, j, rfl, hS, q⟩ := h
    refine ⟨_, (pss_cons (ps_if (pt_cmpR y_lt (pv 1) (pe_callB (y_len (K := K)) (by rfl) W.z_len (by decide +kernel) (pa_cons (pv 0) pa_nil)) (nomark _)) (pss_one (ps_ret (pe_ix (y_ix (K := K)) (pv 0) (pv 1) (fun _ _ => rfl)))) pss_nil)
      (pss_one (ps_ret pe_int))), ?_⟩
    walk_at "ev"
    refine ⟨_, .inl hS, brS_of (fun hc => ?_) (fun hc => ?_)⟩ <;> walk_at "ev"
    · have hj : j < ns.length := by
        have := of_decide_eq_true hc
        rw [List.length_map] at this
        omega
      exact ⟨_, _, .inl hS, atI_map V.int ns (cel_in hj), q⟩
    · have hj : ¬ j < ns.length := by
        have := of_decide_eq_false hc
        rw [List.length_map] at this
        omega
      rw [cel_out hj] at q
      exact q
def sp__law_word {K : PySem.W.Frag} {mg : Str → Option Value} {base : Heap} (W : Wd K mg base) : Sp := fun vs H Q _ => ∃ w : Int, vs = [.int w] ∧ ∀ H', Same H H' → Q (.str (wordOf w)) H'
theorem ok__law_word (W : Wd K mg base) : FnOk P w K mg base CX0 1 W.f__law_word W.d__law_word ["_law_way"] (sp__law_word W) := by
  refine W.F__law_word.ok sc__law_word (fun vs H Q E h => ?_) (fun cdv A outer s H vs Q E hr h => ?_)
  · obtain ⟨wy, rfl, q⟩ := h
    rfl
  · obtain ⟨wy, rfl, q⟩ := h
    refine ⟨_, (pss_cons (ps_if (pt_cmpR y_lt (pv 0) pe_int (nomark _)) (pss_one (ps_ret pe_str)) pss_nil)
      (pss_cons (ps_if (PW.pt (pw_or (pt_cmpR y_lt (pv 0) pe_int (nomark _)) (pw_or1 (pt_cmpR (y_in (K := K)) (pv 0) (pe_lst (pa_cons pe_int (pa_cons pe_int (pa_cons pe_int (pa_cons pe_int (pa_cons pe_int (pa_cons pe_int pa_nil))))))) (by rfl))))) (pss_one (ps_ret pe_str)) pss_nil)
      (pss_cons (ps_if (pt_cmpR (y_in (K := K)) (pv 0) (pe_lst (pa_cons pe_int (pa_cons pe_int (pa_cons pe_int (pa_cons pe_int (pa_cons pe_int pa_nil)))))) (by rfl)) (pss_one (ps_ret pe_str)) pss_nil)
      (pss_cons (ps_if (pt_cmpR (y_in (K := K)) (pv 0) (pe_lst (pa_cons pe_int (pa_cons pe_int pa_nil))) (by rfl)) (pss_one (ps_ret pe_str)) pss_nil)
      (pss_cons (ps_if (pt_cmpR (y_in (K := K)) (pv 0) (pe_lst (pa_cons pe_int (pa_cons pe_int (pa_cons pe_int (pa_cons pe_int (pa_cons pe_int pa_nil)))))) (by rfl)) (pss_one (ps_ret pe_str)) pss_nil)
      (pss_one (ps_ret pe_str))))))), ?_⟩
    walk_at "ev"
    unfold wordOf at q
    refine brS_of (fun h => ?_) (fun h => ?_) <;> walk_at "ev"
    · rw [if_pos (of_decide_eq_true h)] at q
      exact q _ (Same.refl _)
    rw [if_neg (of_decide_eq_false h)] at q
    by_cases h2 : wy < 14
    · rw [decide_eq_true h2]
      rw [if_pos h2] at q
      walk_at "ev"
      exact q _ (Same.refl _)
    rw [decide_eq_false h2]
    rw [if_neg h2] at q
    walk_at "ev"
    intro p1 hp1
    have s1 := same_new (o := .lst [V.int 25, V.int 30, V.int 34, V.int 35, V.int 36, V.int 37]) hp1
    refine ⟨_, .inl (SqL.of upd_same), rfl, rfl, ?_⟩
    refine brS_of (fun h => ?_) (fun h => ?_) <;> walk_at "ev"
    · rw [if_pos h] at q
      exact q _ s1
    rw [if_neg (by rw [h]; exact Bool.false_ne_true)] at q
    intro p2 hp2
    have s2 := s1.trans (same_new (o := .lst [V.int 14, V.int 15, V.int 17, V.int 23, V.int 32]) hp2)
    refine ⟨_, .inl (SqL.of upd_same), rfl, rfl, ?_⟩
    refine brS_of (fun h => ?_) (fun h => ?_) <;> walk_at "ev"
    · rw [if_pos h] at q
      exact q _ s2
    rw [if_neg (by rw [h]; exact Bool.false_ne_true)] at q
    intro p3 hp3
    have s3 := s2.trans (same_new (o := .lst [V.int 16, V.int 18]) hp3)
    refine ⟨_, .inl (SqL.of upd_same), rfl, rfl, ?_⟩
    refine brS_of (fun h => ?_) (fun h => ?_) <;> walk_at "ev"
    · rw [if_pos h] at q
      exact q _ s3
    rw [if_neg (by rw [h]; exact Bool.false_ne_true)] at q
    intro p4 hp4
    have s4 := s3.trans (same_new (o := .lst [V.int 19, V.int 20, V.int 21, V.int 22, V.int 31]) hp4)
    refine ⟨_, .inl (SqL.of upd_same), rfl, rfl, ?_⟩
    refine brS_of (fun h => ?_) (fun h => ?_) <;> walk_at "ev"
    · rw [if_pos h] at q
      exact q _ s4
    · rw [if_neg (by rw [h]; exact Bool.false_ne_true)] at q
      exact q _ s4
def sp_Stock_free {K : PySem.W.Frag} {mg : Str → Option Value} {base : Heap} (W : Wd K mg base) : Sp := fun vs H Q E => ∃ r S v, vs = [.ref r.k, v] ∧ (StAt W.c_Stock H r S ∧ S.Ok ∧ S.its.length < 1000000 ∧ tyN v ≠ none) ∧ (∀ i, S.find v = some i → ∀ H', StAt W.c_Stock H' r (S.free i) → Fr r.F H H' → Q .non H') ∧ (S.find v = none → E (.ref W.e_NotThere) none H)
theorem ok_Stock_free (W : Wd K mg base) : FnOk P w K mg base (L2.CX P w) 4 W.f_Stock_free W.d_Stock_free ["self", "number"] (sp_Stock_free W) := by
  refine W.F_Stock_free.okX sc_Stock_free (fun vs H Q E h => ?_) (fun cdv A outer s H vs Q E hr h => ?_)
  · obtain ⟨r, S, v, rfl, ⟨hS, ok, hl, hv⟩, q1, q2⟩ := h
    rfl
  · obtain ⟨r, S, v, rfl, ⟨hS, ok, hl, hv⟩, q1, q2⟩ := h
    refine ⟨_, (pss_cons (ps_expr (pe_methE (E := (WE (fun cls d _ H => E cls d H))) (pv 0) W.T_Stock W.q_Stock__check_kept (ok_Stock__check_kept W) (hr.mono (by first | decide | omega)) W.b_Stock__check_kept (fun σ => passAt (takes_of rfl rfl rfl rfl) σ) (pa_cons (pv 1) pa_nil)))
      (pss_cons (ps_daug (hu_of hr) (y_fld (K := K) (pv 0)) (pv 1) pe_int y_insub (fun _ _ _ => rfl))
      (pss_one (ps_if (pt_cmpR (y_eq (K := K) hr.units) (pe_dget (hu_of hr) (y_fld (K := K) (pv 0)) (pv 1) (fun _ _ => rfl)) pe_int (nomark _)) (pss_cons (ps_ddel (y_fld (K := K) (pv 0)) (pe_dget (hu_of hr) (y_fld (K := K) (pv 0)) (pv 1) (fun _ _ => rfl)))
      (pss_cons (ps_ddel (y_fld (K := K) (pv 0)) (pv 1))
      (pss_one (ps_ddel (y_fld (K := K) (pv 0)) (pv 1))))) pss_nil)))), ?_⟩
    walk_at "ev"
    rw [fM W hS.ob (by decide +kernel)]
    walk_at "ev"
    refine ⟨r, S, v, rfl, ⟨hS, hv⟩, fun h => ?_, q2⟩
    obtain ⟨i, e⟩ := Option.isSome_iff_exists.mp h
    have q := q1 i e
    obtain ⟨ev, hi⟩ := StM.find_some e
    subst ev
    have e' : S.its.find? (fun j => decide (j.ik = Sum.inl (i.num : Int))) = some i := e
    walk_at "ev"
    rw [fC W hS.ob]
    walk_at "ev"
    refine ⟨_, dgI hS.ct (by rw [valV_mp, e']; rfl), ?_⟩
    walk_at "ev"
    refine ⟨_, dpI hS.ct (by rw [mp_len]; omega), ?_⟩
    obtain ⟨d1, d2, d3⟩ := hS.ne
    have hc1 := ok.cnt i hi
    have h1 : StAt W.c_Stock (upd H r.c (.dK (putK (mp Pc.ik (fun i => V.int (i.cnt : Int)) S.its) (Sum.inl (i.num : Int)) (V.int ((i.cnt : Int) - 1))))) r (S.at i.num (· - 1)) := by
      rw [putK_mp_at e']
      refine ⟨?_, ?_, ?_, ?_, hS.ne⟩
      · rw [upd_ne hS.kc]
        exact hS.ob
      · rw [upd_ne d1, hS.tx]
        unfold StM.at
        rw [mp_map]
        congr 2
        apply mp_congr
        intro j _
        split <;> exact ⟨rfl, rfl⟩
      · rw [upd_same]
        unfold StM.at
        rw [mp_map]
        congr 2
        apply mp_congr
        intro j hj
        by_cases z : j.num = i.num
        · rw [if_pos z, if_pos (Pc.ik_inj.mpr z)]
          have e2 : j = i := nodup_inj ok.nn hj hi z
          rw [e2]
          refine ⟨rfl, ?_⟩
          show V.int ((i.cnt : Int) - 1) = V.int ((i.cnt - 1 : Nat) : Int)
          congr 1
          omega
        · rw [if_neg z, if_neg (fun e => z (Pc.ik_inj.mp e))]
          exact ⟨rfl, rfl⟩
      · rw [upd_ne d3.symm, hS.nm]
        unfold StM.at
        rw [mp_map]
        congr 2
        apply mp_congr
        intro j _
        split <;> exact ⟨rfl, rfl⟩
    have s1 : Fr r.F H (upd H r.c (.dK (putK (mp Pc.ik (fun i => V.int (i.cnt : Int)) S.its) (Sum.inl (i.num : Int)) (V.int ((i.cnt : Int) - 1))))) := Fr.upd (by simp [StR.F]) hS.ct rfl
    generalize upd H r.c (.dK (putK (mp Pc.ik (fun i => V.int (i.cnt : Int)) S.its) (Sum.inl (i.num : Int)) (V.int ((i.cnt : Int) - 1)))) = H1 at h1 s1 ⊢
    have hm : (⟨i.num, i.txt, i.cnt - 1⟩ : Pc) ∈ (S.at i.num (· - 1)).its := List.mem_map.mpr ⟨i, hi, by rw [if_pos rfl]⟩
    have nn1 : ((S.at i.num (· - 1)).its.map (·.num)).Nodup := by rw [at_num]; exact ok.nn
    have nt1 : ((S.at i.num (· - 1)).its.map (·.txt)).Nodup := by rw [at_txt]; exact ok.ntx
    generalize hT : S.at i.num (· - 1) = T at h1 hm nn1 nt1 ⊢
    have fI : T.its.find? (fun j => decide (j.ik = Sum.inl (i.num : Int))) = some ⟨i.num, i.txt, i.cnt - 1⟩ := by
      refine find_inj (key := Pc.ik) (a := (⟨i.num, i.txt, i.cnt - 1⟩ : Pc)) ?_ hm
      rw [List.nodup_iff_pairwise_ne, List.pairwise_map] at nn1 ⊢
      exact nn1.imp fun h e => h (by
        have := Sum.inl.inj e
        omega)
    have fX : T.its.find? (fun j => decide (j.tk = Sum.inr (st i.txt))) = some ⟨i.num, i.txt, i.cnt - 1⟩ := by
      refine find_inj (key := Pc.tk) (a := (⟨i.num, i.txt, i.cnt - 1⟩ : Pc)) ?_ hm
      rw [List.nodup_iff_pairwise_ne, List.pairwise_map] at nt1 ⊢
      exact nt1.imp fun h e => h (st_inj.mp (Sum.inr.inj e))
    rw [fC W h1.ob]
    walk_at "ev"
    refine ⟨_, dgI h1.ct (by rw [valV_mp, fI]; rfl), ?_⟩
    walk_at "ev"
    unfold StM.free at q
    rw [hT] at q
    by_cases hc : i.cnt = 1
    · rw [if_pos hc] at q
      rw [decide_eq_true (show ((i.cnt - 1 : Nat) : Int) = 0 by omega)]
      walk_at "ev"
      obtain ⟨d1, d2, d3⟩ := h1.ne
      rw [fN W h1.ob]
      walk_at "ev"
      rw [fT W h1.ob]
      walk_at "ev"
      refine ⟨_, dgI h1.tx (by rw [valV_mp, fI]; rfl), ?_⟩
      refine ⟨_, Sum.inr (st i.txt), h1.nm, rfl, by rw [valV_mp, fX]; rfl, ?_⟩
      rw [fT W (by rw [upd_ne h1.kn]; exact h1.ob)]
      walk_at "ev"
      refine ⟨_, Sum.inl (i.num : Int), by rw [upd_ne d2]; exact h1.tx, rfl, by rw [valV_mp, fI]; rfl, ?_⟩
      rw [fC W (by rw [upd_ne h1.kt, upd_ne h1.kn]; exact h1.ob)]
      walk_at "ev"
      refine ⟨_, Sum.inl (i.num : Int), by rw [upd_ne d1.symm, upd_ne d3]; exact h1.ct, rfl, by rw [valV_mp, fI]; rfl, ?_⟩
      rw [dropK_mp, dropK_mp, dropK_mp]
      have fi : ∀ j ∈ T.its, decide (j.ik ≠ Sum.inl (i.num : Int)) = decide (j.num ≠ i.num) := fun j _ => decide_eq_decide.mpr ⟨fun h e => h (Pc.ik_inj.mpr e), fun h e => h (Pc.ik_inj.mp e)⟩
      have ft : ∀ j ∈ T.its, decide (j.tk ≠ Sum.inr (st i.txt)) = decide (j.num ≠ i.num) := fun j hj => decide_eq_decide.mpr
        ⟨fun h e => h (by rw [nodup_inj nn1 hj hm e]; rfl), fun h e => h (by rw [nodup_inj nt1 hj hm (Pc.tk_inj.mp e)])⟩
      rw [List.filter_congr fi, List.filter_congr ft]
      refine q _ ⟨?_, ?_, ?_, ?_, h1.ne⟩ ?_
      · rw [upd_ne h1.kc, upd_ne h1.kt, upd_ne h1.kn]
        exact h1.ob
      · rw [upd_ne d1, upd_same]
        rfl
      · rw [upd_same]
        rfl
      · rw [upd_ne d3.symm, upd_ne d2.symm, upd_same]
        rfl
      · exact ((s1.upd2 (by simp [StR.F]) h1.nm rfl).upd2 (by simp [StR.F]) (by rw [upd_ne d2]; exact h1.tx) rfl).upd2 (by simp [StR.F]) (by rw [upd_ne d1.symm, upd_ne d3]; exact h1.ct) rfl
    · rw [if_neg hc] at q
      rw [decide_eq_false (show ¬ ((i.cnt - 1 : Nat) : Int) = 0 by omega)]
      walk_at "ev"
      exact q _ h1 s1
    
def sp_Shelf_drop {K : PySem.W.Frag} {mg : Str → Option Value} {base : Heap} (W : Wd K mg base) : Sp := fun vs H Q E => ∃ r M u v, vs = [.ref r.k, u, v] ∧ ShAt W.c_Shelf W.c_Stock H r M ∧ M.Ok ∧ tyN u ≠ none ∧ (∀ x, u = .str x → x.length ≤ 16777216) ∧ tyN v ≠ none ∧ GxR.TabG H W.P_is_name ∧ M.S.its.length < 900000 ∧ (∀ z, u = txtV z → isNm u = true → ∀ n x, v = .int n → M.at_ z n = some x → ∀ H', ShAt W.c_Shelf W.c_Stock H' r (M.drop x) → Fr r.F H H' → Q .non H') ∧ (isNm u = false → ∀ H', Fr [] H H' → E (.ref W.e_NoName) none H') ∧ (∀ z, u = txtV z → isNm u = true → (∀ n, v = .int n → M.at_ z n = none) → ∀ H', Fr [] H H' → E (.ref W.e_NotThere) none H')
theorem ok_Shelf_drop (W : Wd K mg base) : FnOk P w K mg base (L2.CX P w) 5 W.f_Shelf_drop W.d_Shelf_drop ["self", "name", "number"] (sp_Shelf_drop W) := by
  refine W.F_Shelf_drop.okX sc_Shelf_drop (fun vs H Q E h => ?_) (fun cdv A outer s H vs Q E hr h => ?_)
  · obtain ⟨r, M, u, v, rfl, hS, ok, hu, hux, hv, hT, hl, q1, q2, q3⟩ := h
    rfl
  · obtain ⟨r, M, u, v, rfl, hS, ok, hu, hux, hv, hT, hl, q1, q2, q3⟩ := h
    refine ⟨_, (pss_cons (ps_for (passes_of rfl) rfl (pi_list (pe_callB (y_sortedSet (w := w) rfl) (by rfl) W.z_sorted (by decide +kernel) (pa_cons (pe_callTy (y_setOf (K := K) (w := w) rfl) (by rfl) W.z_set (by decide +kernel) (pa_cons (pe_methE (E := (WE (fun cls d _ H => E cls d H))) (pv 0) W.T_Shelf W.q_Shelf_row (ok_Shelf_row W) (hr.mono (by first | decide | omega)) W.b_Shelf_row (fun σ => passAt (takes_of rfl rfl rfl rfl) σ) (pa_cons (pv 1) (pa_cons (pv 2) pa_nil))) pa_nil)) pa_nil))) (pg_name (i := 3) sc_Shelf_drop.nd rfl (by first | exact Or.inl rfl | exact Or.inr rfl)) (pss_one (ps_expr (pe_methE (E := (WE (fun cls d _ H => E cls d H))) (y_fld (K := K) (pv 0)) W.T_Stock W.q_Stock_free (ok_Stock_free W) (hr.mono (by first | decide | omega)) W.b_Stock_free (fun σ => passAt (takes_of rfl rfl rfl rfl) σ) (pa_cons (pv 3) pa_nil)))))
      (pss_one (ps_ddelT (hu_of hr) (y_fld (K := K) (pv 0)) (pe_tup (pa_cons (pv 1) (pa_cons (pv 2) pa_nil)))))), ?_⟩
    walk_at "ev"
    rw [sM W hS.ob (by decide +kernel)]
    refine ⟨r, M, u, v, rfl, hS, hu, hux, hv, hT, fun z eu hn n x ev ex H1 f1 => ?_, fun hn H1 f1 => q2 hn _ f1, fun z eu hn hx H1 f1 => q3 z eu hn hx _ f1⟩
    replace q1 := q1 z eu
    subst eu
    walk_at "ev"
    have hS1 := hS.fr0 f1
    obtain ⟨hx, enm, enn⟩ := ShM.at_some ex
    have rl := ok.rlen hx
    have hh := ok.hold x hx
    have sb : scanBound > 3001 := by unfold scanBound; decide
    refine ⟨x.at_, x.row.map (fun n : Nat => (Sum.inl (n : Int) : Key)), rfl, .inr (SqT.of (by rw [List.map_map]; exact hS1.tp x hx)), by rw [List.length_map]; omega, fun p hp => ?_⟩
    refine ⟨p, _, true, rfl, upd_same, fun k hk => ?_, fun zs p2 pz _ hp2 => ?_⟩
    · rcases (foldl_addK_mem _ _ _).mp hk with h | h
      · cases h
      · obtain ⟨_, _, e⟩ := List.mem_map.mp h
        rw [← e]
        rfl
    obtain ⟨ms, rfl, hms⟩ := keys_nums (zs := zs) (row := x.row) fun k => by
      rw [pz.mem_iff, foldl_addK_mem]
      constructor
      · rintro (h | h)
        · cases h
        · exact h
      · exact .inr
    have mnd : ms.Nodup := by
      have nd := pz.nodup_iff.mpr (foldl_addK_nodup _ _ List.nodup_nil)
      rw [List.nodup_iff_pairwise_ne, List.pairwise_map] at nd
      exact List.nodup_iff_pairwise_ne.mpr (nd.imp fun h e => h (by rw [e]))
    have s2 := (same_new (o := SetKO w p ((x.row.map (fun n : Nat => (Sum.inl (n : Int) : Key))).foldl addK [])) hp).trans (same_new (o := .lst ((ms.map (fun n : Nat => (Sum.inl (n : Int) : Key))).map kV)) hp2)
    have hl2 : upd (upd H1 p (SetKO w p ((x.row.map (fun n : Nat => (Sum.inl (n : Int) : Key))).foldl addK []))) p2 (.lst ((ms.map (fun n : Nat => (Sum.inl (n : Int) : Key))).map kV)) p2 = some (.lst (ms.map natV)) := by
      rw [upd_same, List.map_map]
      rfl
    generalize upd (upd H1 p _) p2 _ = H2 at s2 hl2 ⊢
    have f2 := f1.same s2
    have hS2 := hS1.same s2
    walk_at "ev"
    refine ⟨⟨_, SqL.of hl2⟩, ?_⟩
    have kx : x.key = [Sum.inr (st z), Sum.inl n] := by unfold Rw.key; rw [enm, enn]
    have lenF : ∀ ns : List Nat, (M.S.frees ns).its.length < 1000000 := fun ns => by
      have h : (M.S.its.filterMap (frG ns)).length ≤ M.S.its.length := List.length_filterMap_le _ _
      show (M.S.its.filterMap (frG ns)).length < _
      omega
    refine L2.for_list (K := K) (a := p2) (xs := ms.map natV) (fun i σ H' => ∃ v3, σ = [some (.ref r.k), some (txtV z), some v, v3] ∧ ShAt W.c_Shelf W.c_Stock H' r ⟨M.w, M.r, M.S.frees (ms.take i), M.wk, M.rows⟩ ∧ H' p2 = some (.lst (ms.map natV)) ∧ Fr r.F H H') ?_ ?_ ?_ ?_
    · refine ⟨none, rfl, ?_, hl2, f2.mono (by simp)⟩
      rw [List.take_zero, frees_nil]
      exact hS2
    · rintro i σ H' _ ⟨v3, rfl, _, h, _⟩
      exact SqL.of h
    · rintro i y σ H' hi ⟨v3, rfl, h2, hl3, f3⟩
      obtain ⟨m, hm, rfl⟩ : ∃ m, ms[i]? = some m ∧ y = natV m := by
        rw [List.getElem?_map] at hi
        obtain ⟨m, g1, g2⟩ := Option.map_eq_some_iff.mp hi
        exact ⟨m, g1, g2.symm⟩
      have tk : ms.take (i + 1) = ms.take i ++ [m] := by
        rw [List.take_succ, hm]
        rfl
      have nm : m ∉ ms.take i := fun z => by
        have h := mnd.sublist (List.take_sublist (i + 1) ms)
        rw [tk, List.nodup_append] at h
        exact h.2.2 m z m (List.mem_singleton.mpr rfl) rfl
      obtain ⟨pt, _, ii, hii, e1, _⟩ := hh.mem ((hms m).mp (List.mem_of_getElem? hm))
      subst e1
      have hfi := frees_old ok.sok hii nm
      have okf := ok.sok.frees (ms.take i)
      have ef : (M.S.frees (ms.take i)).find (natV ii.num) = some ii := StM.byN_of okf hfi
      walk_at "ev"
      rw [sS W h2.ob]
      walk_at "ev"
      rw [fM W h2.st.ob (by decide +kernel)]
      refine ⟨r.s, M.S.frees (ms.take i), natV ii.num, rfl, ⟨h2.st, okf, lenF _, by simp [tyN]⟩, fun j ej H3 h3 f4 => ?_, fun e => by rw [ef] at e; cases e⟩
      rw [ef] at ej
      cases ej
      rw [frees_snoc ok.sok hii nm, ← tk] at h3
      walk_at "ev"
      have tF : ∀ xs a, a ∈ r.s.F → H' a ≠ some (.tup xs) := fun xs a ha z => h2.st.noT z ha
      refine ⟨_, rfl, ⟨f4.keep _ _ h2.ob h2.ne.1 rfl, h3, f4.keep _ _ h2.wk h2.ne.2.1 rfl, f4.keep _ _ h2.rw_ h2.ne.2.2.1 rfl, fun y hy => f4.tup (h2.tp y hy) (fun z => tF _ _ z (h2.tp y hy)), h2.ne⟩, f4.lst hl3 (h2.st.noL hl3), f3.trans (f4.mono (fun a ha => by simp [ShR.F, ha]))⟩
    · rintro σ H' ⟨v3, rfl, h2, hl3, f3⟩
      rw [List.length_map, List.take_length, frees_cong hms] at h2
      subst ev
      walk_at "ev"
      rw [sO W h2.ob]
      walk_at "ev"
      intro kp hkp
      refine ⟨_, [Sum.inr (st z), Sum.inl n], .ref x.at_, upd_of h2.rw_ hkp, upd_same, ?_, ?_⟩
      · rw [valV_mp, ← kx]
        have e := find_inj (key := Rw.key) ok.rwn hx
        rw [show (M.rows.find? fun i => decide (i.key = x.key)) = some x from e]
        rfl
      · have s4 := same_new (o := .tup [txtV z, .int n]) hkp
        have h4 := h2.same s4
        have f4 := f3.new (o := .tup [txtV z, .int n]) hkp
        generalize upd H' kp (.tup [txtV z, .int n]) = H4 at h4 f4 ⊢
        refine q1 hn n x rfl ex _ ⟨?_, ?_, ?_, ?_, ?_, h4.ne⟩ (f4.upd2 (by simp [ShR.F]) h4.rw_ rfl)
        · rw [upd_ne h4.kr]
          exact h4.ob
        · exact h4.st.fr (F := [r.rw_]) (Fr.upd (List.mem_singleton.mpr rfl) h4.rw_ rfl) (fun a ha z => h4.ne.2.2.1 (by rw [← List.mem_singleton.mp z]; exact ha))
        · rw [upd_ne h4.ne.2.2.2]
          exact h4.wk
        · rw [upd_same, ← kx, dropK_mp]
          rfl
        · intro y hy
          have hb := h4.tp y (List.mem_filter.mp hy).1
          rw [upd_ne (tup_ne hb h4.rw_ (by intro _ z; cases z))]
          exact hb
def sp__law_whole {K : PySem.W.Frag} {mg : Str → Option Value} {base : Heap} (W : Wd K mg base) : Sp := fun vs H Q _ => ∃ (i : Int), vs = [.int i] ∧ Q (.bl true) H
theorem ok__law_whole (W : Wd K mg base) : FnOk P w K mg base CX0 1 W.f__law_whole W.d__law_whole ["_law_got"] (sp__law_whole W) := by
  refine W.F__law_whole.ok sc__law_whole (fun vs H Q E h => ?_) (fun cdv A outer s H vs Q E hr h => ?_)
  · obtain ⟨i, rfl, q⟩ := h
    rfl
  · obtain ⟨i, rfl, q⟩ := h
    refine ⟨_, (pss_one (ps_ret (pe_and (pe_callB y_isi (by rfl) W.z_isinstance (by decide +kernel) (pa_cons (pv 0) (pa_cons (pe_bltn (v := .ty "int") (by rfl) W.z_int (by decide +kernel) rfl) pa_nil))) (pe_one (pe_not (pe_callB y_isi (by rfl) W.z_isinstance (by decide +kernel) (pa_cons (pv 0) (pa_cons (pe_bltn (v := .ty "bool") (by rfl) W.z_bool (by decide +kernel) rfl) pa_nil)))))))), ?_⟩
    walk_at "ev"
    exact q
theorem ok__law_alike (W : Wd K mg base) : ∀ n, FnOk P w K mg base CX0 (n + 1) W.f__law_alike W.d__law_alike ["_law_got", "_law_due"] (spAl n)
  | 0 => ⟨fun _ _ _ _ h => h.elim, fun _ _ _ _ _ _ _ _ _ _ _ _ _ h => h.elim⟩
  | n + 1 => by
    have ih := ok__law_alike W n
    refine W.F__law_alike.ok sc__law_alike (fun vs H Q E h => ?_) (fun cdv A outer s H vs Q E hr h => ?_)
    · obtain ⟨x, y, rfl, _⟩ := h
      rfl
    · obtain ⟨x, y, rfl, hA, q⟩ := h
      refine ⟨_, (pss_cons (ps_if (pt_cmpR y_is (pv 1) pe_non (nomark _)) (pss_one (ps_ret (pe_cmpR y_is (pv 0) pe_non (nomark _)))) pss_nil)
      (pss_cons (ps_if (pt_cmpR y_is (pv 1) pe_bl (nomark _)) (pss_one (ps_ret (pe_cmpR y_is (pv 0) pe_bl (nomark _)))) pss_nil)
      (pss_cons (ps_if (pt_val (pe_callB y_isi (by rfl) W.z_isinstance (by decide +kernel) (pa_cons (pv 1) (pa_cons (pe_bltn (v := .ty "str") (by rfl) W.z_str (by decide +kernel) rfl) pa_nil)))) (pss_one (ps_ret (pe_and (pe_callB y_isi (by rfl) W.z_isinstance (by decide +kernel) (pa_cons (pv 0) (pa_cons (pe_bltn (v := .ty "str") (by rfl) W.z_str (by decide +kernel) rfl) pa_nil))) (pe_one (pe_cmpR (y_eq (K := K) hr.units) (pv 0) (pv 1) (nomark _)))))) pss_nil)
      (pss_cons (ps_if (pt_val (pe_callB y_isi (by rfl) W.z_isinstance (by decide +kernel) (pa_cons (pv 1) (pa_cons (pe_bltn (v := .ty "int") (by rfl) W.z_int (by decide +kernel) rfl) pa_nil)))) (pss_one (ps_ret (pe_and (pe_callS (E := (fun _ => E0)) (ok__law_whole W) (hr.mono (by first | decide | omega)) (by rfl) W.m__law_whole W.F__law_whole.kp W.b__law_whole (fun _ => pass0S) (pa_cons (pv 0) pa_nil)) (pe_one (pe_cmpR (y_eq (K := K) hr.units) (pv 0) (pv 1) (nomark _)))))) pss_nil)
      (pss_cons (ps_if (PW.pt (pw_and (pt_val (pe_callB y_isi (by rfl) W.z_isinstance (by decide +kernel) (pa_cons (pv 1) (pa_cons (pe_bltn (v := .ty "tuple") (by rfl) W.z_tuple (by decide +kernel) rfl) pa_nil)))) (pw_and1 (pt_not (pt_val (pe_callB y_isi (by rfl) W.z_isinstance (by decide +kernel) (pa_cons (pv 0) (pa_cons (pe_bltn (v := .ty "tuple") (by rfl) W.z_tuple (by decide +kernel) rfl) pa_nil)))))))) (pss_one (ps_ret pe_bl)) pss_nil)
      (pss_cons (ps_if (PW.pt (pw_and (pt_val (pe_callB y_isi (by rfl) W.z_isinstance (by decide +kernel) (pa_cons (pv 1) (pa_cons (pe_bltn (v := .ty "list") (by rfl) W.z_list (by decide +kernel) rfl) pa_nil)))) (pw_and1 (pt_not (pt_val (pe_callB y_isi (by rfl) W.z_isinstance (by decide +kernel) (pa_cons (pv 0) (pa_cons (pe_bltn (v := .ty "list") (by rfl) W.z_list (by decide +kernel) rfl) pa_nil)))))))) (pss_one (ps_ret pe_bl)) pss_nil)
      (pss_cons (ps_if (pt_cmpR (y_ne (K := K) hr.units) (pe_callB (y_len (K := K)) (by rfl) W.z_len (by decide +kernel) (pa_cons (pv 0) pa_nil)) (pe_callB (y_len (K := K)) (by rfl) W.z_len (by decide +kernel) (pa_cons (pv 1) pa_nil)) (nomark _)) (pss_one (ps_ret pe_bl)) pss_nil)
      (pss_cons (ps_for PassesOwn.never rfl (pi_range1 (by rfl) W.z_range (pa_cons (pe_callB (y_len (K := K)) (by rfl) W.z_len (by decide +kernel) (pa_cons (pv 1) pa_nil)) pa_nil)) (pg_name (i := 2) sc__law_alike.nd rfl (by first | exact Or.inl rfl | exact Or.inr rfl)) (pss_one (ps_if (pt_not (pt_val (pe_callS (E := (fun _ => E0)) ih (hr.mono (by first | decide | omega)) (by rfl) W.m__law_alike W.F__law_alike.kp W.b__law_alike (fun _ => pass0S) (pa_cons (pe_ix (y_ix (K := K)) (pv 0) (pv 2) (fun _ _ => rfl)) (pa_cons (pe_ix (y_ix (K := K)) (pv 1) (pv 2) (fun _ _ => rfl)) pa_nil))))) (pss_one (ps_ret pe_bl)) pss_nil)))
      (pss_one (ps_ret pe_bl)))))))))), ?_⟩
      have hA0 := hA
      have scalar : ∀ m, Al H m x y → (y = .non ∨ y = .bl true ∨ (∃ i, y = .int i) ∨ ∃ s, y = .str s) → x = y := by
        intro m
        induction m with
        | zero => intro h _; exact h.1
        | succ m im =>
          intro h hy
          rcases h with h | ⟨a, b, xs, ys, rfl, rfl, _⟩ | ⟨a, b, xs, ys, rfl, rfl, _⟩
          · exact im h hy
          · rcases hy with e | e | ⟨_, e⟩ | ⟨_, e⟩ <;> cases e
          · rcases hy with e | e | ⟨_, e⟩ | ⟨_, e⟩ <;> cases e
      have kinds : ∀ m, Al H m x y → (y = .non ∨ y = .bl true ∨ (∃ i, y = .int i) ∨ ∃ s, y = .str s) ∨ (∃ k, k < m ∧ ∃ a b xs ys, x = .ref a ∧ y = .ref b ∧ H a = some (.lst xs) ∧ H b = some (.lst ys) ∧ xs.length = ys.length ∧ xs.length < 16777216 ∧ ∀ i, i < ys.length → Al H k (xs.getD i .non) (ys.getD i .non)) ∨
          ∃ k, k < m ∧ ∃ a b xs ys, x = .ref a ∧ y = .ref b ∧ H a = some (.tup xs) ∧ H b = some (.tup ys) ∧ xs.length = ys.length ∧ xs.length < 16777216 ∧ ∀ i, i < ys.length → Al H k (xs.getD i .non) (ys.getD i .non) := by
        intro m
        induction m with
        | zero => intro h; exact .inl h.2
        | succ m im =>
          intro h
          rcases h with h | h | h
          · rcases im h with h | ⟨k, hk, h⟩ | ⟨k, hk, h⟩
            · exact .inl h
            · exact .inr (.inl ⟨k, by omega, h⟩)
            · exact .inr (.inr ⟨k, by omega, h⟩)
          · exact .inr (.inl ⟨m, by omega, h⟩)
          · exact .inr (.inr ⟨m, by omega, h⟩)
      rcases kinds n hA with hy | ⟨k, hk, a, b, xs, ys, rfl, rfl, ha, hb, hlen, hl, hall⟩ | ⟨k, hk, a, b, xs, ys, rfl, rfl, ha, hb, hlen, hl, hall⟩
      · have e := scalar n hA hy
        subst e
        rcases hy with rfl | rfl | ⟨i, rfl⟩ | ⟨i, rfl⟩
        · walk_at "ev"
          exact q
        · walk_at "ev"
          exact q
        · walk_at "ev"
          refine ⟨_, rfl, ?_⟩
          walk_at "ev"
          exact q
        · walk_at "ev"
          exact q
      · obtain ⟨n, rfl⟩ : ∃ m, n = m + 1 := ⟨n - 1, by omega⟩
        walk_at "ev"
        refine isi_lst (b := false) hb (by decide +kernel) ?_
        walk_at "ev"
        refine isi_lst (b := false) hb (by decide +kernel) ?_
        walk_at "ev"
        refine isi_lst (b := false) hb (by decide +kernel) ?_
        walk_at "ev"
        refine isi_lst (b := true) hb (by decide +kernel) ?_
        walk_at "ev"
        refine isi_lst (b := true) ha (by decide +kernel) ?_
        walk_at "ev"
        refine ⟨xs, .inl (SqL.of ha), ys, .inl (SqL.of hb), ?_⟩
        rw [hlen, decide_eq_true rfl]
        walk_at "ev"
        refine ⟨ys, .inl (SqL.of hb), ⟨by omega, by omega⟩, ?_⟩
        rw [Int.toNat_natCast]
        refine for_rng (fun i σ H' => H' = H ∧ ∃ z, σ = [some (V.ref a), some (V.ref b), z]) ⟨rfl, none, rfl⟩ ?_ ?_
        · rintro i σ H' hi ⟨rfl, z, rfl⟩
          walk_at "ev"
          rw [Int.zero_add]
          refine ⟨xs, _, .inl (SqL.of ha), atI_getD (by omega), ys, _, .inl (SqL.of hb), atI_getD hi, _, _, rfl, (hall i hi).le (by omega), ?_⟩
          walk_at "ev"
          exact ⟨_, rfl⟩
        · rintro σ H' ⟨rfl, z, rfl⟩
          walk_at "ev"
          exact q
      · obtain ⟨n, rfl⟩ : ∃ m, n = m + 1 := ⟨n - 1, by omega⟩
        walk_at "ev"
        refine isi_tup (b := false) hb (by decide +kernel) ?_
        walk_at "ev"
        refine isi_tup (b := false) hb (by decide +kernel) ?_
        walk_at "ev"
        refine isi_tup (b := true) hb (by decide +kernel) ?_
        walk_at "ev"
        refine isi_tup (b := true) ha (by decide +kernel) ?_
        walk_at "ev"
        refine isi_tup (b := false) hb (by decide +kernel) ?_
        walk_at "ev"
        refine ⟨xs, .inr (SqT.of ha), ys, .inr (SqT.of hb), ?_⟩
        rw [hlen, decide_eq_true rfl]
        walk_at "ev"
        refine ⟨ys, .inr (SqT.of hb), ⟨by omega, by omega⟩, ?_⟩
        rw [Int.toNat_natCast]
        refine for_rng (fun i σ H' => H' = H ∧ ∃ z, σ = [some (V.ref a), some (V.ref b), z]) ⟨rfl, none, rfl⟩ ?_ ?_
        · rintro i σ H' hi ⟨rfl, z, rfl⟩
          walk_at "ev"
          rw [Int.zero_add]
          refine ⟨xs, _, .inr (SqT.of ha), atI_getD (by omega), ys, _, .inr (SqT.of hb), atI_getD hi, _, _, rfl, (hall i hi).le (by omega), ?_⟩
          walk_at "ev"
          exact ⟨_, rfl⟩
        · rintro σ H' ⟨rfl, z, rfl⟩
          walk_at "ev"
          exact q

def sp_Shelf_text {K : PySem.W.Frag} {mg : Str → Option Value} {base : Heap} (W : Wd K mg base) : Sp := spText9 W
theorem ok_Shelf_text (W : Wd K mg base) : FnOk P w K mg base (L2.CX P w) 5 W.f_Shelf_text W.d_Shelf_text ["self", "name", "number"] (sp_Shelf_text W) := by
  refine W.F_Shelf_text.okX sc_Shelf_text (fun vs H Q E h => ?_) (fun cdv A outer s H vs Q E hr h => ?_)
  · obtain ⟨r, M, u, v, rfl, hS, ok, hu, hux, hv, hT, q1, q2, q3⟩ := h
    rfl
  · obtain ⟨r, M, u, v, rfl, hS, ok, hu, hux, hv, hT, q1, q2, q3⟩ := h
    refine ⟨_, (pss_one (ps_ret (y_join (K := K) pe_str (pe_lc (own := [("piece", 3)]) (g := gName 3) (by rfl) sc_Shelf_text.nd (pi_tup (pe_methE (E := (WE (fun cls d _ H => E cls d H))) (pv 0) W.T_Shelf W.q_Shelf_row (ok_Shelf_row W) (hr.mono (by first | decide | omega)) W.b_Shelf_row (fun σ => passAt (takes_of rfl rfl rfl rfl) σ) (pa_cons (pv 1) (pa_cons (pv 2) pa_nil)))) (blkOk_by (own := [("piece", 3)]) (N := N_Shelf_text) (sc := defScope s_Shelf_text) (by decide +kernel)) (fun _ _ _ _ _ => pg_name (i := 3) sc_Shelf_text.nd rfl (Or.inl rfl)) (fun _ _ _ _ _ => pts_nil) (fun _ _ _ _ _ => (pe_methE (E := (fun _ => E0)) (y_fld (K := K) (pv 0)) W.T_Stock W.q_Stock_piece (ok_Stock_piece W) (hr.mono (by first | decide | omega)) W.b_Stock_piece (fun _ => passLS) (pa_cons (pv 3) pa_nil))))))), ?_⟩
    walk_at "ev"
    rw [sM W hS.ob (by decide +kernel)]
    refine ⟨r, M, u, v, rfl, hS, hu, hux, hv, hT, fun z eu hn n x ev ex H1 f1 => ?_, fun hn H1 f1 => q2 hn _ f1, fun z eu hn hx H1 f1 => q3 z eu hn hx _ f1⟩
    replace q1 := q1 z eu
    walk_at "ev"
    have hS1 := hS.fr0 f1
    obtain ⟨hx, _, _⟩ := ShM.at_some ex
    refine ⟨⟨_, .inl (.inl (hS1.tp x hx))⟩, fun D hD => ?_⟩
    have hh := ok.hold x hx
    refine lc_tupM (l := x.row) (g := natV) (fun n => (M.S.byN n).map fun i => txtV i.txt) hD (.inl (.inl (hS1.tp x hx))) (by have := ok.rlen hx; omega) (fun n H4 hn4 s4 Ny Nn h1 h2 => ?_) (fun H4 s4 h => ?_)
    · walk_at "ev"
      have hS4 := hS1.same s4
      rw [sS W hS4.ob]
      walk_at "ev"
      rw [fM W hS4.st.ob (by decide +kernel)]
      obtain ⟨i, hi⟩ := two_mem ok.sok hh hn4
      refine ⟨r.s, M.S, natV n, rfl, ⟨hS4.st, by simp [tyN]⟩, fun j hj => ?_, fun e => by rw [hi] at e; cases e⟩
      walk_at "ev"
      exact h1 _ _ (Same.refl _) (by rw [show M.S.byN n = some j from hj]; rfl)
    · rw [row_txts ok.sok hh] at h
      refine ⟨_, .inl (SqL.of h), ?_, ?_⟩
      · rw [sum_len]
        have := ok.len x hx
        show _ + _ * 0 ≤ _
        omega
      · rw [join_txt]
        exact q1 hn n x ev ex _ (f1.same s4)
def sp__check_places {K : PySem.W.Frag} {mg : Str → Option Value} {base : Heap} (W : Wd K mg base) : Sp := fun vs H Q E => ∃ s e n, vs = [s, e, .int (n : Nat)] ∧ tyN s ≠ none ∧ tyN e ≠ none ∧ (okPl s e n = true → Q .non H) ∧ (okPl s e n = false → E (.ref W.e_NoPlace) none H)
theorem ok__check_places (W : Wd K mg base) : FnOk P w K mg base (L2.CX P w) 2 W.f__check_places W.d__check_places ["start", "end", "signs"] (sp__check_places W) := by
  refine W.F__check_places.okX sc__check_places (fun vs H Q E h => ?_) (fun cdv A outer s H vs Q E hr h => ?_)
  · obtain ⟨s0, e0, n, rfl, hs, he, q1, q2⟩ := h
    rfl
  · obtain ⟨s0, e0, n, rfl, hs, he, q1, q2⟩ := h
    refine ⟨_, (pss_one (ps_if (PW.pt (pw_or (pt_not (pt_val (pe_callS (E := (fun _ => E0)) (ok_is_number W) (hr.mono (by first | decide | omega)) (by rfl) W.m_is_number W.F_is_number.kp W.b_is_number (fun _ => pass0S) (pa_cons (pv 0) pa_nil)))) (pw_or (pt_not (pt_val (pe_callS (E := (fun _ => E0)) (ok_is_number W) (hr.mono (by first | decide | omega)) (by rfl) W.m_is_number W.F_is_number.kp W.b_is_number (fun _ => pass0S) (pa_cons (pv 1) pa_nil)))) (pw_or1 (pt_not (pt_chain3 y_le y_le y_le pe_int (pv 0) (pv 1) (pv 2))))))) (pss_one (ps_raiseE rfl (takes_of rfl rfl rfl rfl) W.E_NoPlace)) pss_nil)), ?_⟩
    walk_at "ev"
    refine ⟨s0, rfl, hs, ?_⟩
    walk_at "ev"
    by_cases hi : isI s0 = true
    · rw [hi]
      walk_at "ev"
      refine ⟨e0, rfl, he, ?_⟩
      walk_at "ev"
      by_cases hj : isI e0 = true
      · rw [hj]
        obtain ⟨a, rfl⟩ : ∃ a, s0 = .int a := by
          cases s0 <;> first | exact ⟨_, rfl⟩ | (cases hi; done)
        obtain ⟨b, rfl⟩ : ∃ b, e0 = .int b := by
          cases e0 <;> first | exact ⟨_, rfl⟩ | (cases hj; done)
        have hk : okPl (.int a) (.int b) n = (decide (0 ≤ a) && (decide (a ≤ b) && decide (b ≤ (n : Int)))) := rfl
        rw [hk] at q1 q2
        walk_at "ev"
        cases c1 : decide (0 ≤ a) with
        | false =>
          rw [c1] at q2
          walk_at "ev"
          exact q2 rfl
        | true =>
          rw [c1] at q1 q2
          walk_at "ev"
          cases c2 : decide (a ≤ b) with
          | false =>
            rw [c2] at q2
            walk_at "ev"
            exact q2 rfl
          | true =>
            rw [c2] at q1 q2
            walk_at "ev"
            cases c3 : decide (b ≤ (n : Int)) with
            | false =>
              rw [c3] at q2
              walk_at "ev"
              exact q2 rfl
            | true =>
              rw [c3] at q1
              walk_at "ev"
              exact q1 rfl
      · rw [Bool.not_eq_true] at hj
        rw [hj]
        walk_at "ev"
        refine q2 ?_
        cases s0 <;> cases e0 <;> first | rfl | (cases hj; done)
    · rw [Bool.not_eq_true] at hi
      rw [hi]
      walk_at "ev"
      refine q2 ?_
      cases s0 <;> first | rfl | (cases hi; done)
def sp_Shelf_change {K : PySem.W.Frag} {mg : Str → Option Value} {base : Heap} (W : Wd K mg base) : Sp := fun vs H Q E => ∃ r M z v s0 e0 u, vs = [.ref r.k, txtV z, v, s0, e0, u] ∧ ShAt W.c_Shelf W.c_Stock H r M ∧ M.Ok ∧ z.length ≤ 16777216 ∧ (tyN v ≠ none ∧ tyN s0 ≠ none ∧ tyN e0 ≠ none ∧ tyN u ≠ none) ∧ (∀ x, u = .str x → x.length ≤ 10000) ∧ GxR.TabG H W.P_is_name ∧ GxR.TabG H W.P_is_text ∧ M.wk.length < 900000 ∧ M.S.its.length < 900000 ∧ (∀ n x (a b : Nat) y, v = .int n → M.at_ z n = some x → s0 = natV a → e0 = natV b → u = txtV y → isNm (txtV z) = true → a ≤ b → b ≤ x.parts.flatten.length → isTx u = true → (x.parts.flatten.take a ++ (y ++ x.parts.flatten.drop b)).length ≤ 3000 → M.rows.length < 100 → ∀ p t H', H p = none → ShAt W.c_Shelf W.c_Stock H' r (M.keep z p (piecesOf (x.parts.flatten.take a ++ (y ++ x.parts.flatten.drop b)) M.w M.r)) → Fr r.F H H' → H' t = some (.tup [natV (M.given z + 1), .int (((needs M.S (piecesOf (x.parts.flatten.take a ++ (y ++ x.parts.flatten.drop b)) M.w M.r)).S.last : Int) - (M.S.last : Int))]) → Q (.ref t) H') ∧ (isNm (txtV z) = false → ∀ H', Fr [] H H' → E (.ref W.e_NoName) none H') ∧ (isNm (txtV z) = true → (∀ n, v = .int n → M.at_ z n = none) → ∀ H', Fr [] H H' → E (.ref W.e_NotThere) none H') ∧ (∀ n x, isNm (txtV z) = true → v = .int n → M.at_ z n = some x → (okPl s0 e0 x.parts.flatten.length = false → ∀ H', Fr [] H H' → E (.ref W.e_NoPlace) none H') ∧ (okPl s0 e0 x.parts.flatten.length = true → isTx u = false → ∀ H', Fr [] H H' → E (.ref W.e_NoText) none H') ∧ ∀ (a b : Nat) y, s0 = natV a → e0 = natV b → u = txtV y → okPl s0 e0 x.parts.flatten.length = true → isTx u = true → (3000 < (x.parts.flatten.take a ++ (y ++ x.parts.flatten.drop b)).length → ∀ H', Fr [] H H' → E (.ref W.e_TooLong) none H') ∧ ((x.parts.flatten.take a ++ (y ++ x.parts.flatten.drop b)).length ≤ 3000 → 100 ≤ M.rows.length → ∀ H', Fr [] H H' → E (.ref W.e_TooMany) none H'))
theorem ok_Shelf_change (W : Wd K mg base) : FnOk P w K mg base (L2.CX P w) 7 W.f_Shelf_change W.d_Shelf_change ["self", "name", "number", "start", "end", "text"] (sp_Shelf_change W) := by
  refine W.F_Shelf_change.okX sc_Shelf_change (fun vs H Q E h => ?_) (fun cdv A outer s H vs Q E hr h => ?_)
  · obtain ⟨r, M, z, v, s0, e0, u, rfl, hS, ok, hz, ⟨hv, hs, he, hu⟩, hu2, t1, t2, hwk, hl, q, x1, x2, x3⟩ := h
    rfl
  · obtain ⟨r, M, z, v, s0, e0, u, rfl, hS, ok, hz, ⟨hv, hs, he, hu⟩, hu2, t1, t2, hwk, hl, q, x1, x2, x3⟩ := h
    refine ⟨_, (pss_cons (ps_set (i := 6) sc_Shelf_change.nd rfl (by first | exact Or.inl rfl | exact Or.inr rfl) (pe_methE (E := (WE (fun cls d _ H => E cls d H))) (pv 0) W.T_Shelf W.q_Shelf_text (ok_Shelf_text W) (hr.mono (by first | decide | omega)) W.b_Shelf_text (fun σ => passAt (takes_of rfl rfl rfl rfl) σ) (pa_cons (pv 1) (pa_cons (pv 2) pa_nil))))
      (pss_cons (ps_expr (pe_callS (E := (WE (fun cls d _ H => E cls d H))) (ok__check_places W) (hr.mono (by first | decide | omega)) (by rfl) W.m__check_places W.F__check_places.kp W.b__check_places (fun σ => passAt (takes_of rfl rfl rfl rfl) σ) (pa_cons (pv 3) (pa_cons (pv 4) (pa_cons (pe_callB (y_len (K := K)) (by rfl) W.z_len (by decide +kernel) (pa_cons (pv 6) pa_nil)) pa_nil)))))
      (pss_cons (ps_expr (pe_callS (E := (WE (fun cls d _ H => E cls d H))) (ok__check_text W) (hr.mono (by first | decide | omega)) (by rfl) W.m__check_text W.F__check_text.kp W.b__check_text (fun σ => passAt (takes_of rfl rfl rfl rfl) σ) (pa_cons (pv 5) pa_nil)))
      (pss_cons (ps_set (i := 7) sc_Shelf_change.nd rfl (by first | exact Or.inl rfl | exact Or.inr rfl) (pe_op (y_add (K := K)) (pe_op (y_add (K := K)) (pe_slice (y_sl (K := K)) (pv 6) po_none (po_some (pv 3))) (pv 5)) (pe_slice (y_sl (K := K)) (pv 6) (po_some (pv 4)) po_none)))
      (pss_cons (ps_expr (pe_methE (E := (WE (fun cls d _ H => E cls d H))) (pv 0) W.T_Shelf W.q_Shelf__check_room (ok_Shelf__check_room W) (hr.mono (by first | decide | omega)) W.b_Shelf__check_room (fun σ => passAt (takes_of rfl rfl rfl rfl) σ) (pa_cons (pv 7) pa_nil)))
      (pss_cons (ps_set (i := 8) sc_Shelf_change.nd rfl (by first | exact Or.inl rfl | exact Or.inr rfl) (y_fld (K := K) (y_fld (K := K) (pv 0))))
      (pss_cons (ps_set (i := 9) sc_Shelf_change.nd rfl (by first | exact Or.inl rfl | exact Or.inr rfl) (pe_methE (E := (fun _ => E0)) (pv 0) W.T_Shelf W.q_Shelf__put (ok_Shelf__put W) (hr.mono (by first | decide | omega)) W.b_Shelf__put (fun _ => pass0S) (pa_cons (pv 1) (pa_cons (pv 7) pa_nil))))
      (pss_one (ps_ret (pe_tup (pa_cons (pv 9) (pa_cons (pe_op y_sub (y_fld (K := K) (y_fld (K := K) (pv 0))) (pv 8)) pa_nil)))))))))))), ?_⟩
    walk_at "ev"
    rw [sM W hS.ob (by decide +kernel)]
    refine textI ⟨r, M, z, v, rfl, hS, ok, hz, hv, t1, fun hn n x ev ex H1 f1 => ?_, fun hn H1 f1 => x1 hn _ f1, fun hn hx H1 f1 => x2 hn hx _ f1⟩
    have hxm := (ShM.at_some ex).1
    have xl := ok.len x hxm
    obtain ⟨y1, y2, y3⟩ := x3 n x hn ev ex
    have q := fun a b y => q n x a b y ev ex
    generalize x.parts.flatten = l at q y1 y2 y3 xl ⊢
    walk_at "ev"
    refine ⟨by omega, s0, e0, l.length, rfl, hs, he, fun hk => ?_, fun hk => y1 hk _ f1⟩
    obtain ⟨a, b, rfl, rfl, hab, hbl⟩ := okPl_true hk
    walk_at "ev"
    refine ⟨u, rfl, txI hu, f1.tabs _ t2, fun hx H2 f2 => ?_, fun hx H2 f2 => y2 hk hx _ (f1.trans f2)⟩
    obtain ⟨y, rfl⟩ := isTx_txt hx
    have hy := hu2 _ rfl
    rw [len_st] at hy
    walk_at "ev"
    have f12 := f1.trans f2
    have hS2 := hS.fr0 f12
    rw [cut_take (by omega), cut_drop hbl]
    have e1 : (l.take a).length = a := by rw [List.length_take]; omega
    have e2 : (l.drop b).length = l.length - b := List.length_drop
    rw [codes_st, codes_st, len_st, len_st, List.append_assoc]
    refine ⟨by omega, by omega, by omega, by rw [List.length_append]; omega, ?_⟩
    have nl : (l.take a ++ (y ++ l.drop b)).length ≤ 16777216 := by rw [List.length_append, List.length_append]; omega
    obtain ⟨y4, y5⟩ := y3 a b y rfl rfl rfl hk hx
    have q := q a b y rfl rfl rfl hn hab hbl hx
    generalize l.take a ++ (y ++ l.drop b) = m at q y4 y5 nl ⊢
    rw [sM W hS2.ob (by decide +kernel)]
    refine ⟨r, M, m, rfl, hS2, nl, fun h1 h2 => ?_, fun h1 => y4 h1 _ f12, fun h1 h2 => y5 h1 h2 _ f12⟩
    walk_at "ev"
    rw [sS W hS2.ob]
    walk_at "ev"
    rw [fG W hS2.st.ob]
    walk_at "ev"
    rw [sM W hS2.ob (by decide +kernel)]
    refine ⟨r, M, z, m, rfl, hS2, ok, h1, by omega, hwk, hl, fun p H3 hp hS3 f3 => ?_⟩
    walk_at "ev"
    rw [sS W hS3.ob]
    walk_at "ev"
    rw [fG W hS3.st.ob]
    walk_at "ev"
    intro t ht
    exact q h1 h2 p t _ (f12.live _ hp) (hS3.same (same_new ht)) (((f12.mono (by simp)).trans f3).new ht) upd_same
    
def sp_Shelf_altered {K : PySem.W.Frag} {mg : Str → Option Value} {base : Heap} (W : Wd K mg base) : Sp := fun vs H Q E => ∃ r M z v u, vs = [.ref r.k, z, v, u] ∧ ShAt W.c_Shelf W.c_Stock H r M ∧ tyN z ≠ none ∧ (∀ x, z = .str x → x.length ≤ 16777216) ∧ tyN v ≠ none ∧ tyN u ≠ none ∧ GxR.TabG H W.P_is_name ∧ (∀ y0, z = txtV y0 → isNm z = true → ∀ n x m y, v = .int n → M.at_ y0 n = some x → u = .int m → M.at_ y0 m = some y → False) ∧ (isNm z = false → ∀ H', Fr [] H H' → E (.ref W.e_NoName) none H') ∧ (isNm z = true → ∀ H', Fr [] H H' → E (.ref W.e_NotThere) none H')
theorem ok_Shelf_altered (W : Wd K mg base) : FnOk P w K mg base (L2.CX P w) 4 W.f_Shelf_altered W.d_Shelf_altered ["self", "name", "one", "other"] (sp_Shelf_altered W) := by
  refine W.F_Shelf_altered.okX sc_Shelf_altered (fun vs H Q E h => ?_) (fun cdv A outer s H vs Q E hr h => ?_)
  · obtain ⟨r, M, z, v, u, rfl, hS, hz, hzx, hv, hu, hT, no, q2, q3⟩ := h
    rfl
  · obtain ⟨r, M, z, v, u, rfl, hS, hz, hzx, hv, hu, hT, no, q2, q3⟩ := h
    refine ⟨_, (pss_cons (ps_set (i := 4) sc_Shelf_altered.nd rfl (by first | exact Or.inl rfl | exact Or.inr rfl) (pe_methE (E := (WE (fun cls d _ H => E cls d H))) (pv 0) W.T_Shelf W.q_Shelf_row (ok_Shelf_row W) (hr.mono (by first | decide | omega)) W.b_Shelf_row (fun σ => passAt (takes_of rfl rfl rfl rfl) σ) (pa_cons (pv 1) (pa_cons (pv 2) pa_nil))))
      (pss_cons (ps_set (i := 5) sc_Shelf_altered.nd rfl (by first | exact Or.inl rfl | exact Or.inr rfl) (pe_methE (E := (WE (fun cls d _ H => E cls d H))) (pv 0) W.T_Shelf W.q_Shelf_row (ok_Shelf_row W) (hr.mono (by first | decide | omega)) W.b_Shelf_row (fun σ => passAt (takes_of rfl rfl rfl rfl) σ) (pa_cons (pv 1) (pa_cons (pv 3) pa_nil))))
      (pss_one (ps_ret (pe_callB (y_sortedSet (w := w) rfl) (by rfl) W.z_sorted (by decide +kernel) (pa_cons (pe_op (y_setSub (w := w)) (pe_callTy (y_setOf (K := K) (w := w) rfl) (by rfl) W.z_set (by decide +kernel) (pa_cons (pv 5) pa_nil)) (pe_callTy (y_setOf (K := K) (w := w) rfl) (by rfl) W.z_set (by decide +kernel) (pa_cons (pv 4) pa_nil))) pa_nil)))))), ?_⟩
    walk_at "ev"
    rw [sM W hS.ob (by decide +kernel)]
    refine ⟨r, M, z, v, rfl, hS, hz, hzx, hv, hT, fun y0 ey hn n x ev ex H1 f1 => ?_, fun hn H1 f1 => q2 hn _ f1, fun y0 ey hn hx H1 f1 => q3 hn _ f1⟩
    walk_at "ev"
    have hS1 := hS.fr0 f1
    rw [sM W hS1.ob (by decide +kernel)]
    refine ⟨r, M, z, u, rfl, hS1, hz, hzx, hu, f1.tabs _ hT, fun y1 ey1 hn m y eu ey2 H2 f2 => ?_, fun hn H2 f2 => q2 hn _ (f1.trans f2), fun y1 ey1 hn hx H2 f2 => q3 hn _ (f1.trans f2)⟩
    subst ey
    cases tx_same ey1
    exact (no y0 rfl hn n x m y ev ex eu ey2).elim
    
def sp__law_last_call {K : PySem.W.Frag} {mg : Str → Option Value} {base : Heap} (W : Wd K mg base) : Sp := fun vs H Q E => ∃ r M nm way size, vs = [.ref r.k, .int ((way : Nat) : Int), txtV nm, .int ((size : Nat) : Int)] ∧ ShAt W.c_Shelf W.c_Stock H r M ∧ M.Ok ∧ goodN nm ∧ M.wk.length < 900000 ∧ M.S.its.length < 900000 ∧ M.rows.length ≤ 100 ∧ GxR.TabG H W.P_is_name ∧ GxR.TabG H W.P_is_text ∧ 34 ≤ way ∧ way ≤ 42 ∧ Call9 W H r M nm way size Q E
theorem ok__law_last_call (W : Wd K mg base) : FnOk P w K mg base (L2.CX P w) 8 W.f__law_last_call W.d__law_last_call ["_law_shelf", "_law_way", "_law_name", "_law_size"] (sp__law_last_call W) := by
  refine W.F__law_last_call.okX sc__law_last_call (fun vs H Q E h => ?_) (fun cdv A outer s H vs Q E hr h => ?_)
  · obtain ⟨r, M, nm, way, size, rfl, hS, mok, ng, l1, l2, l3, t1, t2, w1, w2, hc⟩ := h
    rfl
  · obtain ⟨r, M, nm, way, size, rfl, hS, mok, ng, l1, l2, l3, t1, t2, w1, w2, hc⟩ := h
    refine ⟨_, (pss_cons (ps_if (pt_cmpR (y_in (K := K)) (pv 1) (pe_lst (pa_cons pe_int (pa_cons pe_int (pa_cons pe_int (pa_cons pe_int pa_nil))))) (by rfl)) (pss_cons (ps_set (i := 4) sc__law_last_call.nd rfl (by first | exact Or.inl rfl | exact Or.inr rfl) (pe_ix (y_ix (K := K)) (pe_lst (pa_cons pe_str (pa_cons pe_int (pa_cons pe_str (pa_cons pe_str (pa_cons (pe_op y_mul pe_str pe_int) pa_nil)))))) (pe_op y_mod (pv 3) pe_int) (fun _ _ => rfl)))
      (pss_cons (ps_if (pt_cmpR (y_eq (K := K) hr.units) (pv 1) pe_int (nomark _)) (pss_one (ps_ret (pe_methE (E := (WE (fun cls d _ H => E cls d H))) (pv 0) W.T_Shelf W.q_Shelf_text (ok_Shelf_text W) (hr.mono (by first | decide | omega)) W.b_Shelf_text (fun σ => passAt (takes_of rfl rfl rfl rfl) σ) (pa_cons (pv 4) (pa_cons pe_int pa_nil))))) pss_nil)
      (pss_cons (ps_if (pt_cmpR (y_eq (K := K) hr.units) (pv 1) pe_int (nomark _)) (pss_one (ps_ret (pe_methE (E := (WE (fun cls d _ H => E cls d H))) (pv 0) W.T_Shelf W.q_Shelf_row (ok_Shelf_row W) (hr.mono (by first | decide | omega)) W.b_Shelf_row (fun σ => passAt (takes_of rfl rfl rfl rfl) σ) (pa_cons (pv 4) (pa_cons pe_int pa_nil))))) pss_nil)
      (pss_cons (ps_if (pt_cmpR (y_eq (K := K) hr.units) (pv 1) pe_int (nomark _)) (pss_one (ps_ret (pe_methE (E := (WE (fun cls d _ H => E cls d H))) (pv 0) W.T_Shelf W.q_Shelf_drop (ok_Shelf_drop W) (hr.mono (by first | decide | omega)) W.b_Shelf_drop (fun σ => passAt (takes_of rfl rfl rfl rfl) σ) (pa_cons (pv 4) (pa_cons pe_int pa_nil))))) pss_nil)
      (pss_one (ps_ret (pe_methE (E := (WE (fun cls d _ H => E cls d H))) (pv 0) W.T_Shelf W.q_Shelf_altered (ok_Shelf_altered W) (hr.mono (by first | decide | omega)) W.b_Shelf_altered (fun σ => passAt (takes_of rfl rfl rfl rfl) σ) (pa_cons (pv 4) (pa_cons pe_int (pa_cons pe_int pa_nil)))))))))) pss_nil)
      (pss_cons (ps_if (pt_cmpR (y_eq (K := K) hr.units) (pv 1) pe_int (nomark _)) (pss_one (ps_ret (pe_methE (E := (WE (fun cls d _ H => E cls d H))) (pv 0) W.T_Shelf W.q_Shelf_row (ok_Shelf_row W) (hr.mono (by first | decide | omega)) W.b_Shelf_row (fun σ => passAt (takes_of rfl rfl rfl rfl) σ) (pa_cons (pv 2) (pa_cons pe_bl pa_nil))))) pss_nil)
      (pss_cons (ps_if (pt_cmpR (y_eq (K := K) hr.units) (pv 1) pe_int (nomark _)) (pss_one (ps_ret (pe_methE (E := (WE (fun cls d _ H => E cls d H))) (pv 0) W.T_Shelf W.q_Shelf_drop (ok_Shelf_drop W) (hr.mono (by first | decide | omega)) W.b_Shelf_drop (fun σ => passAt (takes_of rfl rfl rfl rfl) σ) (pa_cons (pv 2) (pa_cons pe_bl pa_nil))))) pss_nil)
      (pss_cons (ps_if (pt_cmpR (y_eq (K := K) hr.units) (pv 1) pe_int (nomark _)) (pss_one (ps_ret (pe_methE (E := (WE (fun cls d _ H => E cls d H))) (pv 0) W.T_Shelf W.q_Shelf_change (ok_Shelf_change W) (hr.mono (by first | decide | omega)) W.b_Shelf_change (fun σ => passAt (takes_of rfl rfl rfl rfl) σ) (pa_cons (pv 2) (pa_cons pe_bl (pa_cons pe_int (pa_cons pe_int (pa_cons pe_str pa_nil)))))))) pss_nil)
      (pss_cons (ps_if (pt_cmpR (y_eq (K := K) hr.units) (pv 1) pe_int (nomark _)) (pss_one (ps_ret (pe_methE (E := (WE (fun cls d _ H => E cls d H))) (pv 0) W.T_Shelf W.q_Shelf_altered (ok_Shelf_altered W) (hr.mono (by first | decide | omega)) W.b_Shelf_altered (fun σ => passAt (takes_of rfl rfl rfl rfl) σ) (pa_cons (pv 2) (pa_cons pe_bl (pa_cons pe_int pa_nil)))))) pss_nil)
      (pss_one (ps_ret (pe_methE (E := (WE (fun cls d _ H => E cls d H))) (pv 0) W.T_Shelf W.q_Shelf_change (ok_Shelf_change W) (hr.mono (by first | decide | omega)) W.b_Shelf_change (fun σ => passAt (takes_of rfl rfl rfl rfl) σ) (pa_cons (pv 2) (pa_cons (pv 3) (pa_cons pe_int (pa_cons pe_int (pa_cons pe_str pa_nil))))))))))))), ?_⟩
    walk_at "ev"
    intro p hp
    have f1 : Fr [] H (upd H p (.lst [V.int 34, V.int 35, V.int 36, V.int 37])) := frS (same_new hp)
    refine ⟨_, .inl (SqL.of upd_same), rfl, rfl, ?_⟩
    have hS1 := hS.fr0 f1
    have pf : ∀ x, upd H p (.lst [V.int 34, V.int 35, V.int 36, V.int 37]) x = none → H x = none := f1.live
    generalize upd H p (.lst [V.int 34, V.int 35, V.int 36, V.int 37]) = H1 at f1 hS1 pf ⊢
    have n12 := ng.1.2
    have nn := goodN_is ng
    by_cases hb : way ≤ 37
    · have e : inV (.int ((way : Nat) : Int)) [V.int 34, V.int 35, V.int 36, V.int 37] = true := by
        obtain rfl | rfl | rfl | rfl : way = 34 ∨ way = 35 ∨ way = 36 ∨ way = 37 := by omega
        all_goals rfl
      rw [e]
      walk_at "ev"
      refine ⟨by decide, fun p2 hp2 => ?_⟩
      obtain ⟨_, _, _, _, _, _, _, q⟩ | ⟨h, _⟩ | ⟨h, _⟩ | ⟨h, _⟩ := hc
      rotate_left
      · omega
      · omega
      · omega
      have q2 : ∀ H', Fr [] H1 H' → E (.ref W.e_NoName) none H' := fun H' f => by
        have := q H' (f1.trans f)
        have ew : wayCls W way = .ref W.e_NoName := by
          unfold wayCls
          rw [if_neg (by omega), if_pos (by omega)]
        rw [ew] at this
        exact this
      clear q
      have hm := Int.emod_nonneg (size : Int) (show (5 : Int) ≠ 0 by omega)
      have hm5 := Int.emod_lt_of_pos (size : Int) (show (0 : Int) < 5 by omega)
      obtain ⟨v, hv1, hv2, hv3, hv4⟩ : ∃ v, atI [V.str (Str.ofString "A"), V.int 5, V.str (st []), V.str (Str.ofString "a b"), V.str (st (repS (Str.ofString "a").cps.toList 13))] ((size : Int) % 5) = some v ∧ isNm v = false ∧ tyN v ≠ none ∧ ∀ x, v = .str x → x.length ≤ 16777216 := by
        generalize (size : Int) % 5 = m at hm hm5
        obtain rfl | rfl | rfl | rfl | rfl : m = 0 ∨ m = 1 ∨ m = 2 ∨ m = 3 ∨ m = 4 := by omega
        · exact ⟨_, rfl, by decide, by simp [tyN], fun x e => by cases e; decide⟩
        · exact ⟨_, rfl, rfl, by simp [tyN], fun x e => by cases e⟩
        · exact ⟨_, rfl, by decide, by simp [tyN], fun x e => by cases e; decide⟩
        · exact ⟨_, rfl, by decide, by simp [tyN], fun x e => by cases e; decide⟩
        · exact ⟨_, rfl, by decide, by simp [tyN], fun x e => by cases e; decide⟩
      refine ⟨_, v, .inl (SqL.of upd_same), hv1, ?_⟩
      have f2 : Fr [] H1 (upd H1 p2 (.lst [V.str (Str.ofString "A"), V.int 5, V.str (st []), V.str (Str.ofString "a b"), V.str (st (repS (Str.ofString "a").cps.toList 13))])) := frS (same_new hp2)
      have hS2 := hS1.fr0 f2
      have tb2 := (f1.trans f2).tabs _ t1
      generalize upd H1 p2 _ = H2 at f2 hS2 tb2 ⊢
      have no : ∀ {a : Prop}, isNm v = true → a := fun h => by rw [hv2] at h; cases h
      obtain rfl | rfl | rfl | rfl : way = 34 ∨ way = 35 ∨ way = 36 ∨ way = 37 := by omega
      · rw [show decide (((34 : Nat) : Int) = 34) = true from rfl]
        walk_at "ev"
        rw [sM W hS2.ob (by decide +kernel)]
        exact ⟨r, M, v, .int 1, rfl, hS2, mok, hv3, hv4, by simp [tyN], tb2, fun z e hn => no hn, fun _ H' f => q2 _ (f2.trans f), fun z e hn => no hn⟩
      · rw [show decide (((35 : Nat) : Int) = 34) = false from rfl]
        walk_at "ev"
        rw [show decide (((35 : Nat) : Int) = 35) = true from rfl]
        walk_at "ev"
        rw [sM W hS2.ob (by decide +kernel)]
        exact ⟨r, M, v, .int 1, rfl, hS2, hv3, hv4, by simp [tyN], tb2, fun z e hn => no hn, fun _ H' f => q2 _ (f2.trans f), fun z e hn => no hn⟩
      · rw [show decide (((36 : Nat) : Int) = 34) = false from rfl]
        walk_at "ev"
        rw [show decide (((36 : Nat) : Int) = 35) = false from rfl]
        walk_at "ev"
        rw [show decide (((36 : Nat) : Int) = 36) = true from rfl]
        walk_at "ev"
        rw [sM W hS2.ob (by decide +kernel)]
        exact ⟨r, M, v, .int 1, rfl, hS2, mok, hv3, hv4, by simp [tyN], tb2, l2, fun z e hn => no hn, fun _ H' f => q2 _ (f2.trans f), fun z e hn => no hn⟩
      · rw [show decide (((37 : Nat) : Int) = 34) = false from rfl]
        walk_at "ev"
        rw [show decide (((37 : Nat) : Int) = 35) = false from rfl]
        walk_at "ev"
        rw [show decide (((37 : Nat) : Int) = 36) = false from rfl]
        walk_at "ev"
        rw [sM W hS2.ob (by decide +kernel)]
        exact ⟨r, M, v, .int 1, .int 1, rfl, hS2, hv3, hv4, by simp [tyN], by simp [tyN], tb2, fun z e hn => no hn, fun _ H' f => q2 _ (f2.trans f), fun hn => no hn⟩
    have e : inV (.int ((way : Nat) : Int)) [V.int 34, V.int 35, V.int 36, V.int 37] = false := by
      obtain rfl | rfl | rfl | rfl | rfl : way = 38 ∨ way = 39 ∨ way = 40 ∨ way = 41 ∨ way = 42 := by omega
      all_goals rfl
    rw [e]
    walk_at "ev"
    have tb1 := f1.tabs _ t1
    have tx1 := f1.tabs _ t2
    have key : way < 42 → ∀ H', Fr [] H1 H' → E (.ref W.e_NotThere) none H' := fun hw H' f => by
      obtain ⟨_, _, _, _, _, _, _, q⟩ | ⟨h, _⟩ | ⟨h, _⟩ | ⟨h, _⟩ := hc
      rotate_left
      · omega
      · omega
      · omega
      have := q H' (f1.trans f)
      have ew : wayCls W way = .ref W.e_NotThere := by
        unfold wayCls
        rw [if_neg (by omega), if_neg (by omega), if_neg (by omega), if_neg (by omega), if_neg (by omega)]
      rw [ew] at this
      exact this
    have nob : ∀ {a : Prop} {n : Int}, V.bl true = .int n → a := fun h => by cases h
    obtain rfl | rfl | rfl | rfl | rfl : way = 38 ∨ way = 39 ∨ way = 40 ∨ way = 41 ∨ way = 42 := by omega
    · rw [show decide (((38 : Nat) : Int) = 38) = true from rfl]
      walk_at "ev"
      rw [sM W hS1.ob (by decide +kernel)]
      exact rowI ⟨r, M, nm, .bl true, rfl, hS1, by omega, by simp [tyN], tb1, fun _ n x e => nob e, (fun h => by rw [nn] at h; cases h), fun _ _ H' f => key (by omega) _ f⟩
    · rw [show decide (((39 : Nat) : Int) = 38) = false from rfl]
      walk_at "ev"
      rw [show decide (((39 : Nat) : Int) = 39) = true from rfl]
      walk_at "ev"
      rw [sM W hS1.ob (by decide +kernel)]
      exact ⟨r, M, txtV nm, .bl true, rfl, hS1, mok, by simp [tyN], tx_len (by omega), by simp [tyN], tb1, l2, fun _ _ _ n x e => nob e, (fun h => by rw [nn] at h; cases h), fun _ _ _ _ H' f => key (by omega) _ f⟩
    · rw [show decide (((40 : Nat) : Int) = 38) = false from rfl]
      walk_at "ev"
      rw [show decide (((40 : Nat) : Int) = 39) = false from rfl]
      walk_at "ev"
      rw [show decide (((40 : Nat) : Int) = 40) = true from rfl]
      walk_at "ev"
      rw [sM W hS1.ob (by decide +kernel)]
      exact ⟨r, M, nm, .bl true, .int 0, .int 0, .str "a", rfl, hS1, mok, by omega, ⟨by simp [tyN], by simp [tyN], by simp [tyN], by simp [tyN]⟩, (fun x e => by cases e; decide), tb1, tx1, l1, l2, fun n x a b y e => nob e, (fun h => by rw [nn] at h; cases h), fun _ _ H' f => key (by omega) _ f, fun n x _ e => nob e⟩
    · rw [show decide (((41 : Nat) : Int) = 38) = false from rfl]
      walk_at "ev"
      rw [show decide (((41 : Nat) : Int) = 39) = false from rfl]
      walk_at "ev"
      rw [show decide (((41 : Nat) : Int) = 40) = false from rfl]
      walk_at "ev"
      rw [show decide (((41 : Nat) : Int) = 41) = true from rfl]
      walk_at "ev"
      rw [sM W hS1.ob (by decide +kernel)]
      exact ⟨r, M, txtV nm, .bl true, .int 1, rfl, hS1, by simp [tyN], tx_len (by omega), by simp [tyN], by simp [tyN], tb1, fun _ _ _ n x m y e => nob e, (fun h => by rw [nn] at h; cases h), fun _ H' f => key (by omega) _ f⟩
    · rw [show decide (((42 : Nat) : Int) = 38) = false from rfl]
      walk_at "ev"
      rw [show decide (((42 : Nat) : Int) = 39) = false from rfl]
      walk_at "ev"
      rw [show decide (((42 : Nat) : Int) = 40) = false from rfl]
      walk_at "ev"
      rw [show decide (((42 : Nat) : Int) = 41) = false from rfl]
      walk_at "ev"
      rw [sM W hS1.ob (by decide +kernel)]
      have ta : isTx (.str "a") = true := by decide
      have ea : ∀ {y}, V.str "a" = txtV y → y = [97] := fun e => by
        have e : ("a" : Str) = st _ := V.str.inj e
        rw [show ("a" : Str) = st [97] by decide] at e
        exact (st_inj.mp e).symm
      have z0 : ∀ {a : Nat}, V.int 0 = natV a → a = 0 := fun e => by have := V.int.inj e; omega
      have pl0 : ∀ n, okPl (.int 0) (.int 0) n = true := fun n => by
        show (decide ((0 : Int) ≤ 0) && (decide ((0 : Int) ≤ 0) && decide ((0 : Int) ≤ (n : Int)))) = true
        rw [decide_eq_true (show (0 : Int) ≤ (n : Int) by omega)]
        rfl
      refine ⟨r, M, nm, natV size, .int 0, .int 0, .str "a", rfl, hS1, mok, by omega, ⟨by simp [tyN], by simp [tyN], by simp [tyN], by simp [tyN]⟩, (fun x e => by cases e; decide), tb1, tx1, l1, l2, fun n x a b y en ex e1 e2 e3 _ _ _ _ hl hr t0 t H' ht hS2 f2 ht2 => ?_, (fun h => by rw [nn] at h; cases h), fun _ hx H' f => ?_, fun n x _ en ex => ⟨(fun h => by rw [pl0] at h; cases h), (fun _ h => by rw [ta] at h; cases h), fun a b y e1 e2 e3 _ _ => ⟨fun h3 => ?_, fun _ hr H' f => ?_⟩⟩⟩
      · cases en
        cases z0 e1
        cases z0 e2
        cases ea e3
        obtain ⟨_, h, _⟩ | ⟨_, h, _⟩ | ⟨_, _, h, _⟩ | ⟨_, _, y, ey, yl, q⟩ := hc
        · omega
        · rw [ex] at h; cases h
        · omega
        · rw [ex] at ey
          cases ey
          exact q _ _ H' (f1.live _ ht) hS2 ((f1.mono (by simp)).trans f2) ⟨_, ht2, _, rfl⟩
      · obtain ⟨_, h, _⟩ | ⟨_, _, q⟩ | ⟨_, ⟨y, ey, _⟩, _⟩ | ⟨_, _, y, ey, _⟩ := hc
        · omega
        · exact q _ (f1.trans f)
        · rw [hx _ rfl] at ey; cases ey
        · rw [hx _ rfl] at ey; cases ey
      · cases en
        cases z0 e1
        cases z0 e2
        cases ea e3
        obtain ⟨_, h, _⟩ | ⟨_, h, _⟩ | ⟨_, ⟨y, ey, yl⟩, _⟩ | ⟨_, _, y, ey, yl, _⟩ := hc
        · omega
        · rw [ex] at h; cases h
        · rw [ex] at ey
          cases ey
          rw [List.take_zero, List.nil_append, List.drop_zero, List.length_append, List.length_singleton] at h3
          omega
        · rw [ex] at ey
          cases ey
          rw [List.take_zero, List.nil_append, List.drop_zero, List.length_append, List.length_singleton] at h3
          omega
      · cases en
        obtain ⟨_, h, _⟩ | ⟨_, h, _⟩ | ⟨_, _, _, q⟩ | ⟨_, h, _⟩ := hc
        · omega
        · rw [ex] at h; cases h
        · exact q _ (f1.trans f)
        · omega
def sp__law_far_call {K : PySem.W.Frag} {mg : Str → Option Value} {base : Heap} (W : Wd K mg base) : Sp := fun vs H Q E => ∃ r M nm way size, vs = [.ref r.k, .int ((way : Nat) : Int), txtV nm, .int ((size : Nat) : Int)] ∧ ShAt W.c_Shelf W.c_Stock H r M ∧ M.Ok ∧ goodN nm ∧ M.wk.length < 900000 ∧ M.S.its.length < 900000 ∧ M.rows.length ≤ 100 ∧ GxR.TabG H W.P_is_name ∧ GxR.TabG H W.P_is_text ∧ 21 ≤ way ∧ way ≤ 42 ∧ Call9 W H r M nm way size Q E
theorem ok__law_far_call (W : Wd K mg base) : FnOk P w K mg base (L2.CX P w) 9 W.f__law_far_call W.d__law_far_call ["_law_shelf", "_law_way", "_law_name", "_law_size"] (sp__law_far_call W) := by
  refine W.F__law_far_call.okX sc__law_far_call (fun vs H Q E h => ?_) (fun cdv A outer s H vs Q E hr h => ?_)
  · obtain ⟨r, M, nm, way, size, rfl, hS, mok, ng, l1, l2, l3, t1, t2, w1, w2, hc⟩ := h
    rfl
  · obtain ⟨r, M, nm, way, size, rfl, hS, mok, ng, l1, l2, l3, t1, t2, w1, w2, hc⟩ := h
    refine ⟨_, (pss_cons (ps_if (pt_cmpR y_gt (pv 1) pe_int (nomark _)) (pss_one (ps_ret (pe_callS (E := (WE (fun cls d _ H => E cls d H))) (ok__law_last_call W) (hr.mono (by first | decide | omega)) (by rfl) W.m__law_last_call W.F__law_last_call.kp W.b__law_last_call (fun σ => passAt (takes_of rfl rfl rfl rfl) σ) (pa_cons (pv 0) (pa_cons (pv 1) (pa_cons (pv 2) (pa_cons (pv 3) pa_nil))))))) pss_nil)
      (pss_cons (ps_if (pt_cmpR (y_eq (K := K) hr.units) (pv 1) pe_int (nomark _)) (pss_one (ps_ret (pe_methE (E := (WE (fun cls d _ H => E cls d H))) (pv 0) W.T_Shelf W.q_Shelf_change (ok_Shelf_change W) (hr.mono (by first | decide | omega)) W.b_Shelf_change (fun σ => passAt (takes_of rfl rfl rfl rfl) σ) (pa_cons (pv 2) (pa_cons pe_int (pa_cons (pe_un y_neg pe_int) (pa_cons pe_int (pa_cons pe_str pa_nil)))))))) pss_nil)
      (pss_cons (ps_if (pt_cmpR (y_eq (K := K) hr.units) (pv 1) pe_int (nomark _)) (pss_cons (ps_set (i := 4) sc__law_far_call.nd rfl (by first | exact Or.inl rfl | exact Or.inr rfl) (pe_ix (y_ix (K := K)) (pe_lst (pa_cons pe_bl (pa_cons pe_str (pa_cons pe_non (pa_cons pe_int pa_nil))))) (pe_op y_mod (pv 3) pe_int) (fun _ _ => rfl)))
      (pss_one (ps_ret (pe_methE (E := (WE (fun cls d _ H => E cls d H))) (pv 0) W.T_Shelf W.q_Shelf_change (ok_Shelf_change W) (hr.mono (by first | decide | omega)) W.b_Shelf_change (fun σ => passAt (takes_of rfl rfl rfl rfl) σ) (pa_cons (pv 2) (pa_cons pe_int (pa_cons (pv 4) (pa_cons (pe_ix (y_ix (K := K)) (pe_lst (pa_cons (pv 3) (pa_cons (pv 3) (pa_cons (pv 3) (pa_cons pe_bl pa_nil))))) (pe_op y_mod (pv 3) pe_int) (fun _ _ => rfl)) (pa_cons pe_str pa_nil))))))))) pss_nil)
      (pss_cons (ps_if (pt_cmpR (y_eq (K := K) hr.units) (pv 1) pe_int (nomark _)) (pss_one (ps_ret (pe_methE (E := (WE (fun cls d _ H => E cls d H))) (pv 0) W.T_Shelf W.q_Shelf_change (ok_Shelf_change W) (hr.mono (by first | decide | omega)) W.b_Shelf_change (fun σ => passAt (takes_of rfl rfl rfl rfl) σ) (pa_cons (pv 2) (pa_cons pe_int (pa_cons pe_int (pa_cons pe_int (pa_cons (pe_op (y_add (K := K)) pe_str (pe_op y_mul pe_str pe_int)) pa_nil)))))))) pss_nil)
      (pss_cons (ps_if (pt_cmpR (y_eq (K := K) hr.units) (pv 1) pe_int (nomark _)) (pss_one (ps_ret (pe_methE (E := (WE (fun cls d _ H => E cls d H))) (pv 0) W.T_Shelf W.q_Shelf_change (ok_Shelf_change W) (hr.mono (by first | decide | omega)) W.b_Shelf_change (fun σ => passAt (takes_of rfl rfl rfl rfl) σ) (pa_cons (pv 2) (pa_cons pe_int (pa_cons pe_int (pa_cons pe_int (pa_cons pe_str pa_nil)))))))) pss_nil)
      (pss_cons (ps_if (pt_cmpR (y_eq (K := K) hr.units) (pv 1) pe_int (nomark _)) (pss_one (ps_ret (pe_methE (E := (WE (fun cls d _ H => E cls d H))) (pv 0) W.T_Shelf W.q_Shelf_change (ok_Shelf_change W) (hr.mono (by first | decide | omega)) W.b_Shelf_change (fun σ => passAt (takes_of rfl rfl rfl rfl) σ) (pa_cons pe_str (pa_cons pe_int (pa_cons pe_int (pa_cons pe_int (pa_cons pe_str pa_nil)))))))) pss_nil)
      (pss_cons (ps_if (pt_cmpR (y_eq (K := K) hr.units) (pv 1) pe_int (nomark _)) (pss_one (ps_ret (pe_methE (E := (WE (fun cls d _ H => E cls d H))) (pv 0) W.T_Shelf W.q_Shelf_text (ok_Shelf_text W) (hr.mono (by first | decide | omega)) W.b_Shelf_text (fun σ => passAt (takes_of rfl rfl rfl rfl) σ) (pa_cons (pv 2) (pa_cons (pe_ix (y_ix (K := K)) (pe_lst (pa_cons pe_int (pa_cons pe_int (pa_cons pe_bl (pa_cons pe_str (pa_cons pe_non pa_nil)))))) (pe_op y_mod (pv 3) pe_int) (fun _ _ => rfl)) pa_nil))))) pss_nil)
      (pss_cons (ps_if (pt_cmpR (y_eq (K := K) hr.units) (pv 1) pe_int (nomark _)) (pss_one (ps_ret (pe_methE (E := (WE (fun cls d _ H => E cls d H))) (pv 0) W.T_Shelf W.q_Shelf_row (ok_Shelf_row W) (hr.mono (by first | decide | omega)) W.b_Shelf_row (fun σ => passAt (takes_of rfl rfl rfl rfl) σ) (pa_cons (pv 2) (pa_cons pe_int pa_nil))))) pss_nil)
      (pss_cons (ps_if (pt_cmpR (y_eq (K := K) hr.units) (pv 1) pe_int (nomark _)) (pss_one (ps_ret (pe_methE (E := (WE (fun cls d _ H => E cls d H))) (pv 0) W.T_Shelf W.q_Shelf_drop (ok_Shelf_drop W) (hr.mono (by first | decide | omega)) W.b_Shelf_drop (fun σ => passAt (takes_of rfl rfl rfl rfl) σ) (pa_cons (pv 2) (pa_cons (pe_ix (y_ix (K := K)) (pe_lst (pa_cons pe_int (pa_cons pe_int (pa_cons (pe_un y_neg pe_int) pa_nil)))) (pe_op y_mod (pv 3) pe_int) (fun _ _ => rfl)) pa_nil))))) pss_nil)
      (pss_cons (ps_if (pt_cmpR (y_eq (K := K) hr.units) (pv 1) pe_int (nomark _)) (pss_one (ps_ret (pe_methE (E := (WE (fun cls d _ H => E cls d H))) (pv 0) W.T_Shelf W.q_Shelf_text (ok_Shelf_text W) (hr.mono (by first | decide | omega)) W.b_Shelf_text (fun σ => passAt (takes_of rfl rfl rfl rfl) σ) (pa_cons (pv 2) (pa_cons (pv 3) pa_nil))))) pss_nil)
      (pss_cons (ps_if (pt_cmpR (y_eq (K := K) hr.units) (pv 1) pe_int (nomark _)) (pss_one (ps_ret (pe_methE (E := (WE (fun cls d _ H => E cls d H))) (pv 0) W.T_Shelf W.q_Shelf_change (ok_Shelf_change W) (hr.mono (by first | decide | omega)) W.b_Shelf_change (fun σ => passAt (takes_of rfl rfl rfl rfl) σ) (pa_cons (pv 2) (pa_cons pe_int (pa_cons (pe_callB (y_max rfl) (by rfl) W.z_max (by decide +kernel) (pa_cons pe_int (pa_cons (pv 3) pa_nil))) (pa_cons pe_int (pa_cons pe_str pa_nil)))))))) pss_nil)
      (pss_cons (ps_if (pt_cmpR (y_eq (K := K) hr.units) (pv 1) pe_int (nomark _)) (pss_one (ps_ret (pe_methE (E := (WE (fun cls d _ H => E cls d H))) (pv 0) W.T_Shelf W.q_Shelf_change (ok_Shelf_change W) (hr.mono (by first | decide | omega)) W.b_Shelf_change (fun σ => passAt (takes_of rfl rfl rfl rfl) σ) (pa_cons (pv 2) (pa_cons pe_int (pa_cons pe_int (pa_cons pe_int (pa_cons (pe_ix (y_ix (K := K)) (pe_lst (pa_cons pe_int (pa_cons pe_non (pa_cons pe_bl pa_nil)))) (pe_op y_mod (pv 3) pe_int) (fun _ _ => rfl)) pa_nil)))))))) pss_nil)
      (pss_cons (ps_if (pt_cmpR (y_eq (K := K) hr.units) (pv 1) pe_int (nomark _)) (pss_one (ps_ret (pe_methE (E := (WE (fun cls d _ H => E cls d H))) (pv 0) W.T_Shelf W.q_Shelf_altered (ok_Shelf_altered W) (hr.mono (by first | decide | omega)) W.b_Shelf_altered (fun σ => passAt (takes_of rfl rfl rfl rfl) σ) (pa_cons (pv 2) (pa_cons (pe_ix (y_ix (K := K)) (pe_lst (pa_cons pe_int (pa_cons pe_int pa_nil))) (pe_op y_mod (pv 3) pe_int) (fun _ _ => rfl)) (pa_cons (pe_ix (y_ix (K := K)) (pe_lst (pa_cons pe_int (pa_cons pe_int pa_nil))) (pe_op y_mod (pv 3) pe_int) (fun _ _ => rfl)) pa_nil)))))) pss_nil)
      (pss_one (ps_ret (pe_methE (E := (WE (fun cls d _ H => E cls d H))) (pv 0) W.T_Shelf W.q_Shelf_versions (ok_Shelf_versions W) (hr.mono (by first | decide | omega)) W.b_Shelf_versions (fun σ => passAt (takes_of rfl rfl rfl rfl) σ) (pa_cons (pe_ix (y_ix (K := K)) (pe_lst (pa_cons pe_str (pa_cons pe_str (pa_cons pe_int pa_nil)))) (pe_op y_mod (pv 3) pe_int) (fun _ _ => rfl)) pa_nil))))))))))))))))), ?_⟩
    have n12 := ng.1.2
    have nn := goodN_is ng
    have chgP : ∀ {H2 : Hp} {Q2 : VK} {E2 : XK} (s0 e0 u : V) (x : Rw), M.at_ nm 1 = some x → x.parts.flatten.length = size → Fr [] H H2 → tyN s0 ≠ none → tyN e0 ≠ none → tyN u ≠ none → (∀ x, u = .str x → x.length ≤ 10000) → okPl s0 e0 size = false → (∀ H', Fr [] H2 H' → E2 (.ref W.e_NoPlace) none H') → sp_Shelf_change W [.ref r.k, txtV nm, .int 1, s0, e0, u] H2 Q2 E2 := fun {H2 Q2 E2} s0 e0 u x hx hl f h1 h2 h3 h4 h5 q => by
      refine ⟨r, M, nm, .int 1, s0, e0, u, rfl, hS.fr0 f, mok, by omega, ⟨by simp [tyN], h1, h2, h3⟩, h4, f.tabs _ t1, f.tabs _ t2, l1, l2, fun n y a b z en ey e1 e2 e3 _ hab hbl _ _ _ => ?_, (fun h => by rw [nn] at h; cases h), fun _ h H' f' => ?_, fun n y _ en ey => ⟨fun _ => q, fun h => ?_, fun a b z e1 e2 e3 h _ => ?_⟩⟩
      · cases en
        rw [hx] at ey
        cases ey
        subst e1 e2
        exfalso
        have : okPl (natV a) (natV b) size = true := by
          show (decide ((0 : Int) ≤ a) && (decide ((a : Int) ≤ b) && decide ((b : Int) ≤ (size : Int)))) = true
          rw [decide_eq_true (show (0 : Int) ≤ a by omega), decide_eq_true (show (a : Int) ≤ b by omega), decide_eq_true (show (b : Int) ≤ size by omega)]
          rfl
        rw [h5] at this
        cases this
      · rw [h _ rfl] at hx
        cases hx
      · cases en
        rw [hx] at ey
        cases ey
        rw [hl, h5] at h
        cases h
      · cases en
        rw [hx] at ey
        cases ey
        rw [hl, h5] at h
        cases h
    have chgT : ∀ {H2 : Hp} {Q2 : VK} {E2 : XK} (s0 e0 u : V) (x : Rw), M.at_ nm 1 = some x → x.parts.flatten.length = size → Fr [] H H2 → tyN s0 ≠ none → tyN e0 ≠ none → tyN u ≠ none → (∀ x, u = .str x → x.length ≤ 10000) → okPl s0 e0 size = true → isTx u = false → (∀ H', Fr [] H2 H' → E2 (.ref W.e_NoText) none H') → sp_Shelf_change W [.ref r.k, txtV nm, .int 1, s0, e0, u] H2 Q2 E2 := fun {H2 Q2 E2} s0 e0 u x hx hl f h1 h2 h3 h4 h5 h6 q => by
      refine ⟨r, M, nm, .int 1, s0, e0, u, rfl, hS.fr0 f, mok, by omega, ⟨by simp [tyN], h1, h2, h3⟩, h4, f.tabs _ t1, f.tabs _ t2, l1, l2, fun n y a b z en ey e1 e2 e3 _ hab hbl h _ _ => ?_, (fun h => by rw [nn] at h; cases h), fun _ h H' f' => ?_, fun n y _ en ey => ⟨fun h => ?_, fun _ _ => q, fun a b z e1 e2 e3 _ h => ?_⟩⟩
      · rw [h6] at h
        cases h
      · rw [h _ rfl] at hx
        cases hx
      · cases en
        rw [hx] at ey
        cases ey
        rw [hl, h5] at h
        cases h
      · rw [h6] at h
        cases h
    have chgN : ∀ {H2 : Hp} {Q2 : VK} {E2 : XK} (v s0 e0 u : V), (∀ n, v = .int n → M.at_ nm n = none) → Fr [] H H2 → tyN v ≠ none → tyN s0 ≠ none → tyN e0 ≠ none → tyN u ≠ none → (∀ x, u = .str x → x.length ≤ 10000) → (∀ H', Fr [] H2 H' → E2 (.ref W.e_NotThere) none H') → sp_Shelf_change W [.ref r.k, txtV nm, v, s0, e0, u] H2 Q2 E2 := fun {H2 Q2 E2} v s0 e0 u hx f h0 h1 h2 h3 h4 q => by
      refine ⟨r, M, nm, v, s0, e0, u, rfl, hS.fr0 f, mok, by omega, ⟨h0, h1, h2, h3⟩, h4, f.tabs _ t1, f.tabs _ t2, l1, l2, fun n y a b z en ey => ?_, (fun h => by rw [nn] at h; cases h), fun _ _ => q, fun n y _ en ey => ?_⟩
      · rw [hx n en] at ey
        cases ey
      · rw [hx n en] at ey
        cases ey
    have sml : ∀ x, V.str "a" = .str x → x.length ≤ 10000 := fun x e => by cases e; decide
    have ref : way ≠ 33 → way ≠ 42 → size ≤ 59 ∧ (∃ x, M.at_ nm 1 = some x ∧ x.parts.flatten.length = size) ∧ M.at_ nm 999 = none ∧ M.at_ nm 0 = none ∧ M.at_ nm (-1) = none ∧ ∀ H', Fr [] H H' → E (wayCls W way) none H' := fun h1 h2 => by
      obtain ⟨_, _, q⟩ | ⟨h, _⟩ | ⟨h, _⟩ | ⟨h, _⟩ := hc
      · exact q
      · omega
      · omega
      · omega
    walk_at "ev"
    by_cases w33 : 33 < way
    · rw [decide_eq_true (show (33 : Int) < ((way : Nat) : Int) by omega)]
      walk_at "ev"
      exact ⟨r, M, nm, way, size, rfl, hS, mok, ng, l1, l2, l3, t1, t2, by omega, w2, hc⟩
    rw [decide_eq_false (show ¬ (33 : Int) < ((way : Nat) : Int) by omega)]
    walk_at "ev"
    have hm2 := Int.emod_nonneg (size : Int) (show (2 : Int) ≠ 0 by omega)
    have hm2' := Int.emod_lt_of_pos (size : Int) (show (0 : Int) < 2 by omega)
    have hm3 := Int.emod_nonneg (size : Int) (show (3 : Int) ≠ 0 by omega)
    have hm3' := Int.emod_lt_of_pos (size : Int) (show (0 : Int) < 3 by omega)
    have hm4 := Int.emod_nonneg (size : Int) (show (4 : Int) ≠ 0 by omega)
    have hm4' := Int.emod_lt_of_pos (size : Int) (show (0 : Int) < 4 by omega)
    have hm5 := Int.emod_nonneg (size : Int) (show (5 : Int) ≠ 0 by omega)
    have hm5' := Int.emod_lt_of_pos (size : Int) (show (0 : Int) < 5 by omega)
    have cT : way ≠ 33 → way ≠ 42 → wayCls W way = .ref W.e_NotThere → ∀ H', Fr [] H H' → E (.ref W.e_NotThere) none H' := fun h1 h2 e H' f => e ▸ (ref h1 h2).2.2.2.2.2 H' f
    have cP : way ≠ 33 → way ≠ 42 → wayCls W way = .ref W.e_NoPlace → ∀ H', Fr [] H H' → E (.ref W.e_NoPlace) none H' := fun h1 h2 e H' f => e ▸ (ref h1 h2).2.2.2.2.2 H' f
    have cX : way ≠ 33 → way ≠ 42 → wayCls W way = .ref W.e_NoText → ∀ H', Fr [] H H' → E (.ref W.e_NoText) none H' := fun h1 h2 e H' f => e ▸ (ref h1 h2).2.2.2.2.2 H' f
    have cN : way ≠ 33 → way ≠ 42 → wayCls W way = .ref W.e_NoName → ∀ H', Fr [] H H' → E (.ref W.e_NoName) none H' := fun h1 h2 e H' f => e ▸ (ref h1 h2).2.2.2.2.2 H' f
    obtain rfl | rfl | rfl | rfl | rfl | rfl | rfl | rfl | rfl | rfl | rfl | rfl | rfl : way = 21 ∨ way = 22 ∨ way = 23 ∨ way = 24 ∨ way = 25 ∨ way = 26 ∨ way = 27 ∨ way = 28 ∨ way = 29 ∨ way = 30 ∨ way = 31 ∨ way = 32 ∨ way = 33 := by omega
    · -- 21
      obtain ⟨s59, ⟨x, hx, hlen⟩, h999, h0, hn1, _⟩ := ref (by decide) (by decide)
      rw [show decide (((21 : Nat) : Int) = 21) = true from rfl]
      walk_at "ev"
      rw [sM W hS.ob (by decide +kernel)]
      exact chgP _ _ _ x hx hlen Fr.refl (by simp [tyN]) (by simp [tyN]) (by simp [tyN]) sml (by rfl) (cP (by decide) (by decide) rfl)
    · -- 22
      obtain ⟨s59, ⟨x, hx, hlen⟩, h999, h0, hn1, _⟩ := ref (by decide) (by decide)
      rw [show decide (((22 : Nat) : Int) = 21) = false from rfl]
      walk_at "ev"
      rw [show decide (((22 : Nat) : Int) = 22) = true from rfl]
      walk_at "ev"
      intro p hp
      obtain ⟨v, u, h1, h2, h3, h4, h5⟩ : ∃ v u, atI [V.bl true, V.str (Str.ofString "0"), V.non, V.int 0] ((size : Int) % 4) = some v ∧ atI [V.int (size : Int), V.int (size : Int), V.int (size : Int), V.bl true] ((size : Int) % 4) = some u ∧ tyN v ≠ none ∧ tyN u ≠ none ∧ okPl v u size = false := by
        generalize (size : Int) % 4 = m at hm4 hm4'
        obtain rfl | rfl | rfl | rfl : m = 0 ∨ m = 1 ∨ m = 2 ∨ m = 3 := by omega
        · exact ⟨_, _, rfl, rfl, by simp [tyN], by simp [tyN], rfl⟩
        · exact ⟨_, _, rfl, rfl, by simp [tyN], by simp [tyN], rfl⟩
        · exact ⟨_, _, rfl, rfl, by simp [tyN], by simp [tyN], rfl⟩
        · exact ⟨_, _, rfl, rfl, by simp [tyN], by simp [tyN], rfl⟩
      refine ⟨_, v, .inl (SqL.of upd_same), h1, ?_⟩
      rw [sM W (upd_of hS.ob hp) (by decide +kernel)]
      intro p2 hp2
      refine ⟨_, u, .inl (SqL.of upd_same), h2, ?_⟩
      have f2 : Fr [] H _ := frS ((same_new hp).trans (same_new (o := .lst [V.int (size : Int), V.int (size : Int), V.int (size : Int), V.bl true]) hp2))
      exact chgP v u _ x hx hlen f2 h3 h4 (by simp [tyN]) sml h5 fun H' f => cP (by decide) (by decide) rfl _ (f2.trans f)
    · -- 23
      obtain ⟨s59, ⟨x, hx, hlen⟩, h999, h0, hn1, _⟩ := ref (by decide) (by decide)
      rw [show decide (((23 : Nat) : Int) = 21) = false from rfl]
      walk_at "ev"
      rw [show decide (((23 : Nat) : Int) = 22) = false from rfl]
      walk_at "ev"
      rw [show decide (((23 : Nat) : Int) = 23) = true from rfl]
      walk_at "ev"
      rw [sM W hS.ob (by decide +kernel)]
      have hl3 : ((Str.ofString "a\t").cps.toList ++ repS (Str.ofString "b").cps.toList 3000).length ≤ 10000 := by
        rw [List.length_append, repS_len]
        decide
      have ht : isTx (V.str (st ((Str.ofString "a\t").cps.toList ++ repS (Str.ofString "b").cps.toList 3000))) = false := by
        show (st _).cps.toList.all okS = false
        rw [codes_st, List.all_append, show (Str.ofString "a\t").cps.toList.all okS = false by decide]
        rfl
      refine ⟨⟨by decide, by decide⟩, by rw [repS_len]; decide, ?_⟩
      generalize (Str.ofString "a\t").cps.toList ++ repS (Str.ofString "b").cps.toList 3000 = z at hl3 ht ⊢
      exact chgT _ _ _ x hx hlen Fr.refl (by simp [tyN]) (by simp [tyN]) (by simp [tyN]) (fun y e => by cases e; rw [len_st]; exact hl3) (by show (decide ((0 : Int) ≤ 0) && (decide ((0 : Int) ≤ 0) && decide ((0 : Int) ≤ (size : Int)))) = true; rw [decide_eq_true (show (0 : Int) ≤ (size : Int) by omega)]; rfl) ht (cX (by decide) (by decide) rfl)
    · -- 24
      obtain ⟨s59, ⟨x, hx, hlen⟩, h999, h0, hn1, _⟩ := ref (by decide) (by decide)
      rw [show decide (((24 : Nat) : Int) = 21) = false from rfl]
      walk_at "ev"
      rw [show decide (((24 : Nat) : Int) = 22) = false from rfl]
      walk_at "ev"
      rw [show decide (((24 : Nat) : Int) = 23) = false from rfl]
      walk_at "ev"
      rw [show decide (((24 : Nat) : Int) = 24) = true from rfl]
      walk_at "ev"
      rw [sM W hS.ob (by decide +kernel)]
      exact chgN _ _ _ _ (fun n e => by cases e; exact h999) Fr.refl (by simp [tyN]) (by simp [tyN]) (by simp [tyN]) (by simp [tyN]) sml (cT (by decide) (by decide) rfl)
    · -- 25
      obtain ⟨s59, ⟨x, hx, hlen⟩, h999, h0, hn1, _⟩ := ref (by decide) (by decide)
      rw [show decide (((25 : Nat) : Int) = 21) = false from rfl]
      walk_at "ev"
      rw [show decide (((25 : Nat) : Int) = 22) = false from rfl]
      walk_at "ev"
      rw [show decide (((25 : Nat) : Int) = 23) = false from rfl]
      walk_at "ev"
      rw [show decide (((25 : Nat) : Int) = 24) = false from rfl]
      walk_at "ev"
      rw [show decide (((25 : Nat) : Int) = 25) = true from rfl]
      walk_at "ev"
      rw [sM W hS.ob (by decide +kernel)]
      have hA : isNm (txtV [65]) = false := by decide
      rw [show (Str.ofString "A") = st [65] by decide]
      exact ⟨r, M, [65], .int 999, .int 0, .int 0, .str "a", rfl, hS, mok, by decide, ⟨by simp [tyN], by simp [tyN], by simp [tyN], by simp [tyN]⟩, sml, t1, t2, l1, l2, (fun n y a b z _ _ _ _ _ h => by rw [hA] at h; cases h), fun _ => cN (by decide) (by decide) rfl, (fun h => by rw [hA] at h; cases h), fun n y h => by rw [hA] at h; cases h⟩
    · -- 26
      obtain ⟨s59, ⟨x, hx, hlen⟩, h999, h0, hn1, _⟩ := ref (by decide) (by decide)
      rw [show decide (((26 : Nat) : Int) = 21) = false from rfl]
      walk_at "ev"
      rw [show decide (((26 : Nat) : Int) = 22) = false from rfl]
      walk_at "ev"
      rw [show decide (((26 : Nat) : Int) = 23) = false from rfl]
      walk_at "ev"
      rw [show decide (((26 : Nat) : Int) = 24) = false from rfl]
      walk_at "ev"
      rw [show decide (((26 : Nat) : Int) = 25) = false from rfl]
      walk_at "ev"
      rw [show decide (((26 : Nat) : Int) = 26) = true from rfl]
      walk_at "ev"
      rw [sM W hS.ob (by decide +kernel)]
      intro p hp
      obtain ⟨v, h1, h2, h3⟩ : ∃ v, atI [V.int 0, V.int 999, V.bl true, V.str (Str.ofString "1"), V.non] ((size : Int) % 5) = some v ∧ tyN v ≠ none ∧ ∀ n, v = .int n → M.at_ nm n = none := by
        generalize (size : Int) % 5 = m at hm5 hm5'
        obtain rfl | rfl | rfl | rfl | rfl : m = 0 ∨ m = 1 ∨ m = 2 ∨ m = 3 ∨ m = 4 := by omega
        · exact ⟨_, rfl, by simp [tyN], fun n e => by cases e; exact h0⟩
        · exact ⟨_, rfl, by simp [tyN], fun n e => by cases e; exact h999⟩
        · exact ⟨_, rfl, by simp [tyN], fun n e => by cases e⟩
        · exact ⟨_, rfl, by simp [tyN], fun n e => by cases e⟩
        · exact ⟨_, rfl, by simp [tyN], fun n e => by cases e⟩
      refine ⟨_, v, .inl (SqL.of upd_same), h1, ?_⟩
      have f2 : Fr [] H _ := frS (same_new (o := .lst [V.int 0, V.int 999, V.bl true, V.str (Str.ofString "1"), V.non]) hp)
      exact textI ⟨r, M, nm, v, rfl, hS.fr0 f2, mok, by omega, h2, f2.tabs _ t1, (fun _ n x e ex => by rw [h3 n e] at ex; cases ex), (fun h => by rw [nn] at h; cases h), fun _ _ H' f => cT (by decide) (by decide) rfl _ (f2.trans f)⟩
    · -- 27
      obtain ⟨s59, ⟨x, hx, hlen⟩, h999, h0, hn1, _⟩ := ref (by decide) (by decide)
      rw [show decide (((27 : Nat) : Int) = 21) = false from rfl]
      walk_at "ev"
      rw [show decide (((27 : Nat) : Int) = 22) = false from rfl]
      walk_at "ev"
      rw [show decide (((27 : Nat) : Int) = 23) = false from rfl]
      walk_at "ev"
      rw [show decide (((27 : Nat) : Int) = 24) = false from rfl]
      walk_at "ev"
      rw [show decide (((27 : Nat) : Int) = 25) = false from rfl]
      walk_at "ev"
      rw [show decide (((27 : Nat) : Int) = 26) = false from rfl]
      walk_at "ev"
      rw [show decide (((27 : Nat) : Int) = 27) = true from rfl]
      walk_at "ev"
      rw [sM W hS.ob (by decide +kernel)]
      exact rowI ⟨r, M, nm, .int 999, rfl, hS, by omega, by simp [tyN], t1, (fun _ n x e ex => by cases e; rw [h999] at ex; cases ex), (fun h => by rw [nn] at h; cases h), fun _ _ => cT (by decide) (by decide) rfl⟩
    · -- 28
      obtain ⟨s59, ⟨x, hx, hlen⟩, h999, h0, hn1, _⟩ := ref (by decide) (by decide)
      rw [show decide (((28 : Nat) : Int) = 21) = false from rfl]
      walk_at "ev"
      rw [show decide (((28 : Nat) : Int) = 22) = false from rfl]
      walk_at "ev"
      rw [show decide (((28 : Nat) : Int) = 23) = false from rfl]
      walk_at "ev"
      rw [show decide (((28 : Nat) : Int) = 24) = false from rfl]
      walk_at "ev"
      rw [show decide (((28 : Nat) : Int) = 25) = false from rfl]
      walk_at "ev"
      rw [show decide (((28 : Nat) : Int) = 26) = false from rfl]
      walk_at "ev"
      rw [show decide (((28 : Nat) : Int) = 27) = false from rfl]
      walk_at "ev"
      rw [show decide (((28 : Nat) : Int) = 28) = true from rfl]
      walk_at "ev"
      rw [sM W hS.ob (by decide +kernel)]
      intro p hp
      obtain ⟨v, h1, h2, h3⟩ : ∃ v, atI [V.int 0, V.int 999, V.int (-1)] ((size : Int) % 3) = some v ∧ tyN v ≠ none ∧ ∀ n, v = .int n → M.at_ nm n = none := by
        generalize (size : Int) % 3 = m at hm3 hm3'
        obtain rfl | rfl | rfl : m = 0 ∨ m = 1 ∨ m = 2 := by omega
        · exact ⟨_, rfl, by simp [tyN], fun n e => by cases e; exact h0⟩
        · exact ⟨_, rfl, by simp [tyN], fun n e => by cases e; exact h999⟩
        · exact ⟨_, rfl, by simp [tyN], fun n e => by cases e; exact hn1⟩
      refine ⟨_, v, .inl (SqL.of upd_same), h1, ?_⟩
      have f2 : Fr [] H _ := frS (same_new (o := .lst [V.int 0, V.int 999, V.int (-1)]) hp)
      exact ⟨r, M, txtV nm, v, rfl, hS.fr0 f2, mok, by simp [tyN], tx_len (by omega), h2, f2.tabs _ t1, l2, (fun z ez _ n x e ex => by cases tx_same ez; rw [h3 n e] at ex; cases ex), (fun h => by rw [nn] at h; cases h), fun _ _ _ _ H' f => cT (by decide) (by decide) rfl _ (f2.trans f)⟩
    · -- 29
      obtain ⟨s59, ⟨x, hx, hlen⟩, h999, h0, hn1, _⟩ := ref (by decide) (by decide)
      rw [show decide (((29 : Nat) : Int) = 21) = false from rfl]
      walk_at "ev"
      rw [show decide (((29 : Nat) : Int) = 22) = false from rfl]
      walk_at "ev"
      rw [show decide (((29 : Nat) : Int) = 23) = false from rfl]
      walk_at "ev"
      rw [show decide (((29 : Nat) : Int) = 24) = false from rfl]
      walk_at "ev"
      rw [show decide (((29 : Nat) : Int) = 25) = false from rfl]
      walk_at "ev"
      rw [show decide (((29 : Nat) : Int) = 26) = false from rfl]
      walk_at "ev"
      rw [show decide (((29 : Nat) : Int) = 27) = false from rfl]
      walk_at "ev"
      rw [show decide (((29 : Nat) : Int) = 28) = false from rfl]
      walk_at "ev"
      rw [show decide (((29 : Nat) : Int) = 33) = false from rfl]
      walk_at "ev"
      rw [show decide (((29 : Nat) : Int) = 31) = false from rfl]
      walk_at "ev"
      rw [show decide (((29 : Nat) : Int) = 32) = false from rfl]
      walk_at "ev"
      rw [show decide (((29 : Nat) : Int) = 29) = true from rfl]
      walk_at "ev"
      rw [sM W hS.ob (by decide +kernel)]
      intro p hp
      obtain ⟨v, u, h1, h2, h3, h4, h5⟩ : ∃ v u, atI [V.int 1, V.int 999] ((size : Int) % 2) = some v ∧ atI [V.int 999, V.int 1] ((size : Int) % 2) = some u ∧ tyN v ≠ none ∧ tyN u ≠ none ∧ ((∀ n, v = .int n → M.at_ nm n = none) ∨ ∀ n, u = .int n → M.at_ nm n = none) := by
        generalize (size : Int) % 2 = m at hm2 hm2'
        obtain rfl | rfl : m = 0 ∨ m = 1 := by omega
        · exact ⟨_, _, rfl, rfl, by simp [tyN], by simp [tyN], .inr fun n e => by cases e; exact h999⟩
        · exact ⟨_, _, rfl, rfl, by simp [tyN], by simp [tyN], .inl fun n e => by cases e; exact h999⟩
      refine ⟨_, v, .inl (SqL.of upd_same), h1, fun p2 hp2 => ⟨_, u, .inl (SqL.of upd_same), h2, ?_⟩⟩
      have f2 : Fr [] H _ := frS ((same_new hp).trans (same_new (o := .lst [V.int 999, V.int 1]) hp2))
      exact ⟨r, M, txtV nm, v, u, rfl, hS.fr0 f2, by simp [tyN], tx_len (by omega), h3, h4, f2.tabs _ t1, (fun z ez _ n x m y e1 ex e2 ey => by
        cases tx_same ez
        rcases h5 with h | h
        · rw [h n e1] at ex; cases ex
        · rw [h m e2] at ey; cases ey), (fun h => by rw [nn] at h; cases h), fun _ H' f => cT (by decide) (by decide) rfl _ (f2.trans f)⟩
    · -- 30
      obtain ⟨s59, ⟨x, hx, hlen⟩, h999, h0, hn1, _⟩ := ref (by decide) (by decide)
      rw [show decide (((30 : Nat) : Int) = 21) = false from rfl]
      walk_at "ev"
      rw [show decide (((30 : Nat) : Int) = 22) = false from rfl]
      walk_at "ev"
      rw [show decide (((30 : Nat) : Int) = 23) = false from rfl]
      walk_at "ev"
      rw [show decide (((30 : Nat) : Int) = 24) = false from rfl]
      walk_at "ev"
      rw [show decide (((30 : Nat) : Int) = 25) = false from rfl]
      walk_at "ev"
      rw [show decide (((30 : Nat) : Int) = 26) = false from rfl]
      walk_at "ev"
      rw [show decide (((30 : Nat) : Int) = 27) = false from rfl]
      walk_at "ev"
      rw [show decide (((30 : Nat) : Int) = 28) = false from rfl]
      walk_at "ev"
      rw [show decide (((30 : Nat) : Int) = 33) = false from rfl]
      walk_at "ev"
      rw [show decide (((30 : Nat) : Int) = 31) = false from rfl]
      walk_at "ev"
      rw [show decide (((30 : Nat) : Int) = 32) = false from rfl]
      walk_at "ev"
      rw [show decide (((30 : Nat) : Int) = 29) = false from rfl]
      walk_at "ev"
      rw [sM W hS.ob (by decide +kernel)]
      intro p hp
      obtain ⟨v, h1, h2, h3, h4⟩ : ∃ v, atI [V.str (st []), V.str (Str.ofString "A"), V.int 7] ((size : Int) % 3) = some v ∧ tyN v ≠ none ∧ isNm v = false ∧ ∀ x, v = .str x → x.length ≤ 16777216 := by
        generalize (size : Int) % 3 = m at hm3 hm3'
        obtain rfl | rfl | rfl : m = 0 ∨ m = 1 ∨ m = 2 := by omega
        · exact ⟨_, rfl, by simp [tyN], by decide, fun x e => by cases e; decide⟩
        · exact ⟨_, rfl, by simp [tyN], by decide, fun x e => by cases e; decide⟩
        · exact ⟨_, rfl, by simp [tyN], rfl, fun x e => by cases e⟩
      refine ⟨_, v, .inl (SqL.of upd_same), h1, ?_⟩
      have f2 : Fr [] H _ := frS (same_new (o := .lst [V.str (st []), V.str (Str.ofString "A"), V.int 7]) hp)
      exact ⟨r, M, v, rfl, hS.fr0 f2, l3, h2, h4, f2.tabs _ t1, (fun z ez h => by rw [h3] at h; cases h), fun _ H' f => cN (by decide) (by decide) rfl _ (f2.trans f)⟩
    · -- 31
      obtain ⟨s59, ⟨x, hx, hlen⟩, h999, h0, hn1, _⟩ := ref (by decide) (by decide)
      rw [show decide (((31 : Nat) : Int) = 21) = false from rfl]
      walk_at "ev"
      rw [show decide (((31 : Nat) : Int) = 22) = false from rfl]
      walk_at "ev"
      rw [show decide (((31 : Nat) : Int) = 23) = false from rfl]
      walk_at "ev"
      rw [show decide (((31 : Nat) : Int) = 24) = false from rfl]
      walk_at "ev"
      rw [show decide (((31 : Nat) : Int) = 25) = false from rfl]
      walk_at "ev"
      rw [show decide (((31 : Nat) : Int) = 26) = false from rfl]
      walk_at "ev"
      rw [show decide (((31 : Nat) : Int) = 27) = false from rfl]
      walk_at "ev"
      rw [show decide (((31 : Nat) : Int) = 28) = false from rfl]
      walk_at "ev"
      rw [show decide (((31 : Nat) : Int) = 33) = false from rfl]
      walk_at "ev"
      rw [show decide (((31 : Nat) : Int) = 31) = true from rfl]
      walk_at "ev"
      rw [sM W hS.ob (by decide +kernel)]
      exact chgP _ _ _ x hx hlen Fr.refl (by simp [tyN]) (by simp [tyN]) (by simp [tyN]) sml (by show (decide ((0 : Int) ≤ max 1 (size : Int)) && (decide (max 1 (size : Int) ≤ 0) && decide ((0 : Int) ≤ (size : Int)))) = false; rw [decide_eq_false (show ¬ max 1 (size : Int) ≤ 0 by omega), Bool.false_and, Bool.and_false]) (cP (by decide) (by decide) rfl)
    · -- 32
      obtain ⟨s59, ⟨x, hx, hlen⟩, h999, h0, hn1, _⟩ := ref (by decide) (by decide)
      rw [show decide (((32 : Nat) : Int) = 21) = false from rfl]
      walk_at "ev"
      rw [show decide (((32 : Nat) : Int) = 22) = false from rfl]
      walk_at "ev"
      rw [show decide (((32 : Nat) : Int) = 23) = false from rfl]
      walk_at "ev"
      rw [show decide (((32 : Nat) : Int) = 24) = false from rfl]
      walk_at "ev"
      rw [show decide (((32 : Nat) : Int) = 25) = false from rfl]
      walk_at "ev"
      rw [show decide (((32 : Nat) : Int) = 26) = false from rfl]
      walk_at "ev"
      rw [show decide (((32 : Nat) : Int) = 27) = false from rfl]
      walk_at "ev"
      rw [show decide (((32 : Nat) : Int) = 28) = false from rfl]
      walk_at "ev"
      rw [show decide (((32 : Nat) : Int) = 33) = false from rfl]
      walk_at "ev"
      rw [show decide (((32 : Nat) : Int) = 31) = false from rfl]
      walk_at "ev"
      rw [show decide (((32 : Nat) : Int) = 32) = true from rfl]
      walk_at "ev"
      rw [sM W hS.ob (by decide +kernel)]
      intro p hp
      obtain ⟨v, h1, h2, h3, h4⟩ : ∃ v, atI [V.int 5, V.non, V.bl true] ((size : Int) % 3) = some v ∧ tyN v ≠ none ∧ isTx v = false ∧ ∀ x, v = .str x → x.length ≤ 10000 := by
        generalize (size : Int) % 3 = m at hm3 hm3'
        obtain rfl | rfl | rfl : m = 0 ∨ m = 1 ∨ m = 2 := by omega
        · exact ⟨_, rfl, by simp [tyN], rfl, fun x e => by cases e⟩
        · exact ⟨_, rfl, by simp [tyN], rfl, fun x e => by cases e⟩
        · exact ⟨_, rfl, by simp [tyN], rfl, fun x e => by cases e⟩
      refine ⟨_, v, .inl (SqL.of upd_same), h1, ?_⟩
      have f2 : Fr [] H _ := frS (same_new (o := .lst [V.int 5, V.non, V.bl true]) hp)
      exact chgT _ _ v x hx hlen f2 (by simp [tyN]) (by simp [tyN]) h2 h4 (by show (decide ((0 : Int) ≤ 0) && (decide ((0 : Int) ≤ 0) && decide ((0 : Int) ≤ (size : Int)))) = true; rw [decide_eq_true (show (0 : Int) ≤ (size : Int) by omega)]; rfl) h3 fun H' f => cX (by decide) (by decide) rfl _ (f2.trans f)
    · -- 33
      rw [show decide (((33 : Nat) : Int) = 21) = false from rfl]
      walk_at "ev"
      rw [show decide (((33 : Nat) : Int) = 22) = false from rfl]
      walk_at "ev"
      rw [show decide (((33 : Nat) : Int) = 23) = false from rfl]
      walk_at "ev"
      rw [show decide (((33 : Nat) : Int) = 24) = false from rfl]
      walk_at "ev"
      rw [show decide (((33 : Nat) : Int) = 25) = false from rfl]
      walk_at "ev"
      rw [show decide (((33 : Nat) : Int) = 26) = false from rfl]
      walk_at "ev"
      rw [show decide (((33 : Nat) : Int) = 27) = false from rfl]
      walk_at "ev"
      rw [show decide (((33 : Nat) : Int) = 28) = false from rfl]
      walk_at "ev"
      rw [show decide (((33 : Nat) : Int) = 33) = true from rfl]
      walk_at "ev"
      rw [sM W hS.ob (by decide +kernel)]
      obtain ⟨h, _⟩ | ⟨_, hno, q⟩ | ⟨h, _⟩ | ⟨h, _⟩ := hc
      · exact absurd rfl h
      · exact textI ⟨r, M, nm, natV size, rfl, hS, mok, by omega, by simp [tyN], t1, (fun _ n x e ex => by cases e; rw [hno] at ex; cases ex), (fun h => by rw [nn] at h; cases h), fun _ _ => q⟩
      · omega
      · omega
def sp__law_call {K : PySem.W.Frag} {mg : Str → Option Value} {base : Heap} (W : Wd K mg base) : Sp := fun vs H Q E => ∃ r M nm way size, vs = [.ref r.k, .int ((way : Nat) : Int), txtV nm, .int ((size : Nat) : Int)] ∧ ShAt W.c_Shelf W.c_Stock H r M ∧ M.Ok ∧ goodN nm ∧ M.wk.length < 900000 ∧ M.S.its.length < 900000 ∧ M.rows.length ≤ 100 ∧ GxR.TabG H W.P_is_name ∧ GxR.TabG H W.P_is_text ∧ way ≤ 42 ∧ Call9 W H r M nm way size Q E
theorem ok__law_call (W : Wd K mg base) : FnOk P w K mg base (L2.CX P w) 10 W.f__law_call W.d__law_call ["_law_shelf", "_law_way", "_law_name", "_law_size"] (sp__law_call W) := by
  refine W.F__law_call.okX sc__law_call (fun vs H Q E h => ?_) (fun cdv A outer s H vs Q E hr h => ?_)
  · obtain ⟨r, M, nm, way, size, rfl, hS, mok, ng, l1, l2, l3, t1, t2, w2, hc⟩ := h
    rfl
  · obtain ⟨r, M, nm, way, size, rfl, hS, mok, ng, l1, l2, l3, t1, t2, w2, hc⟩ := h
    refine ⟨_, (pss_cons (ps_if (pt_cmpR y_lt (pv 1) pe_int (nomark _)) (pss_cons (ps_set (i := 4) sc__law_call.nd rfl (by first | exact Or.inl rfl | exact Or.inr rfl) (pe_ix (y_ix (K := K)) (pe_lst (pa_cons pe_bl (pa_cons pe_str (pa_cons pe_non pa_nil)))) (pe_op y_mod (pe_op y_fdiv (pv 3) pe_int) pe_int) (fun _ _ => rfl)))
      (pss_cons (ps_set (i := 5) sc__law_call.nd rfl (by first | exact Or.inl rfl | exact Or.inr rfl) (pe_lst (pa_cons (pe_tup (pa_cons pe_int (pa_cons pe_int pa_nil))) (pa_cons (pe_tup (pa_cons pe_int (pa_cons pe_int pa_nil))) (pa_cons (pe_tup (pa_cons pe_int (pa_cons pe_int pa_nil))) (pa_cons (pe_tup (pa_cons pe_int (pa_cons pe_int pa_nil))) (pa_cons (pe_tup (pa_cons (pv 4) (pa_cons pe_int pa_nil))) (pa_cons (pe_tup (pa_cons pe_int (pa_cons (pv 4) pa_nil))) pa_nil))))))))
      (pss_one (ps_ret (pe_makeE (E := (WE (fun cls d _ H => E cls d H))) W.k_Shelf (ok_Shelf___init__ W) (hr.mono (by first | decide | omega)) (by rfl) W.g_Shelf W.b_Shelf___init__ (fun σ => passAt (takes_of rfl rfl rfl rfl) σ) (pa_cons (pe_ix (y_ix (K := K)) (pe_ix (y_ix (K := K)) (pv 5) (pv 1) (fun _ _ => rfl)) pe_int (fun _ _ => rfl)) (pa_cons (pe_ix (y_ix (K := K)) (pe_ix (y_ix (K := K)) (pv 5) (pv 1) (fun _ _ => rfl)) pe_int (fun _ _ => rfl)) pa_nil))))))) pss_nil)
      (pss_cons (ps_if (pt_cmpR y_lt (pv 1) pe_int (nomark _)) (pss_cons (ps_set (i := 6) sc__law_call.nd rfl (by first | exact Or.inl rfl | exact Or.inr rfl) (pe_lst (pa_cons pe_str (pa_cons pe_str (pa_cons (pe_op y_mul pe_str pe_int) (pa_cons pe_str (pa_cons pe_str (pa_cons pe_int (pa_cons pe_non (pa_cons pe_str pa_nil))))))))))
      (pss_one (ps_ret (pe_methE (E := (WE (fun cls d _ H => E cls d H))) (pv 0) W.T_Shelf W.q_Shelf_keep (ok_Shelf_keep W) (hr.mono (by first | decide | omega)) W.b_Shelf_keep (fun σ => passAt (takes_of rfl rfl rfl rfl) σ) (pa_cons (pe_ix (y_ix (K := K)) (pv 6) (pe_op y_sub (pv 1) pe_int) (fun _ _ => rfl)) (pa_cons (pe_ix (y_ix (K := K)) (pe_lst (pa_cons pe_int (pa_cons pe_str pa_nil))) (pe_op y_mod (pv 1) pe_int) (fun _ _ => rfl)) pa_nil)))))) pss_nil)
      (pss_cons (ps_if (pt_cmpR (y_eq (K := K) hr.units) (pv 1) pe_int (nomark _)) (pss_one (ps_ret (pe_methE (E := (WE (fun cls d _ H => E cls d H))) (pv 0) W.T_Shelf W.q_Shelf_keep (ok_Shelf_keep W) (hr.mono (by first | decide | omega)) W.b_Shelf_keep (fun σ => passAt (takes_of rfl rfl rfl rfl) σ) (pa_cons (pv 2) (pa_cons pe_str pa_nil))))) pss_nil)
      (pss_cons (ps_if (pt_cmpR (y_eq (K := K) hr.units) (pv 1) pe_int (nomark _)) (pss_one (ps_ret (pe_methE (E := (WE (fun cls d _ H => E cls d H))) (pv 0) W.T_Shelf W.q_Shelf_keep (ok_Shelf_keep W) (hr.mono (by first | decide | omega)) W.b_Shelf_keep (fun σ => passAt (takes_of rfl rfl rfl rfl) σ) (pa_cons (pv 2) (pa_cons (pe_ix (y_ix (K := K)) (pe_lst (pa_cons pe_int (pa_cons pe_non (pa_cons pe_bl (pa_cons (pe_lst (pa_cons pe_str pa_nil)) pa_nil))))) (pe_op y_mod (pv 3) pe_int) (fun _ _ => rfl)) pa_nil))))) pss_nil)
      (pss_cons (ps_if (pt_cmpR (y_eq (K := K) hr.units) (pv 1) pe_int (nomark _)) (pss_one (ps_ret (pe_methE (E := (WE (fun cls d _ H => E cls d H))) (pv 0) W.T_Shelf W.q_Shelf_keep (ok_Shelf_keep W) (hr.mono (by first | decide | omega)) W.b_Shelf_keep (fun σ => passAt (takes_of rfl rfl rfl rfl) σ) (pa_cons (pv 2) (pa_cons (pe_op y_mul pe_str pe_int) pa_nil))))) pss_nil)
      (pss_cons (ps_if (pt_cmpR (y_eq (K := K) hr.units) (pv 1) pe_int (nomark _)) (pss_one (ps_ret (pe_methE (E := (WE (fun cls d _ H => E cls d H))) (pv 0) W.T_Shelf W.q_Shelf_keep (ok_Shelf_keep W) (hr.mono (by first | decide | omega)) W.b_Shelf_keep (fun σ => passAt (takes_of rfl rfl rfl rfl) σ) (pa_cons (pv 2) (pa_cons (pe_op y_mul pe_str pe_int) pa_nil))))) pss_nil)
      (pss_cons (ps_if (pt_cmpR (y_eq (K := K) hr.units) (pv 1) pe_int (nomark _)) (pss_one (ps_ret (pe_methE (E := (WE (fun cls d _ H => E cls d H))) (pv 0) W.T_Shelf W.q_Shelf_change (ok_Shelf_change W) (hr.mono (by first | decide | omega)) W.b_Shelf_change (fun σ => passAt (takes_of rfl rfl rfl rfl) σ) (pa_cons (pv 2) (pa_cons pe_int (pa_cons (pv 3) (pa_cons (pv 3) (pa_cons (pe_op y_mul pe_str (pe_op y_sub pe_int (pv 3))) pa_nil)))))))) pss_nil)
      (pss_cons (ps_if (pt_cmpR (y_eq (K := K) hr.units) (pv 1) pe_int (nomark _)) (pss_one (ps_ret (pe_methE (E := (WE (fun cls d _ H => E cls d H))) (pv 0) W.T_Shelf W.q_Shelf_change (ok_Shelf_change W) (hr.mono (by first | decide | omega)) W.b_Shelf_change (fun σ => passAt (takes_of rfl rfl rfl rfl) σ) (pa_cons (pv 2) (pa_cons pe_int (pa_cons (pe_op (y_add (K := K)) (pv 3) pe_int) (pa_cons (pv 3) (pa_cons pe_str pa_nil)))))))) pss_nil)
      (pss_cons (ps_if (pt_cmpR (y_eq (K := K) hr.units) (pv 1) pe_int (nomark _)) (pss_one (ps_ret (pe_methE (E := (WE (fun cls d _ H => E cls d H))) (pv 0) W.T_Shelf W.q_Shelf_change (ok_Shelf_change W) (hr.mono (by first | decide | omega)) W.b_Shelf_change (fun σ => passAt (takes_of rfl rfl rfl rfl) σ) (pa_cons (pv 2) (pa_cons pe_int (pa_cons pe_int (pa_cons (pe_op (y_add (K := K)) (pv 3) pe_int) (pa_cons pe_str pa_nil)))))))) pss_nil)
      (pss_one (ps_ret (pe_callS (E := (WE (fun cls d _ H => E cls d H))) (ok__law_far_call W) (hr.mono (by first | decide | omega)) (by rfl) W.m__law_far_call W.F__law_far_call.kp W.b__law_far_call (fun σ => passAt (takes_of rfl rfl rfl rfl) σ) (pa_cons (pv 0) (pa_cons (pv 1) (pa_cons (pv 2) (pa_cons (pv 3) pa_nil)))))))))))))))), ?_⟩
    have n12 := ng.1.2
    have nn := goodN_is ng
    have chgP : ∀ {H2 : Hp} {Q2 : VK} {E2 : XK} (s0 e0 u : V) (x : Rw), M.at_ nm 1 = some x → x.parts.flatten.length = size → Fr [] H H2 → tyN s0 ≠ none → tyN e0 ≠ none → tyN u ≠ none → (∀ x, u = .str x → x.length ≤ 10000) → okPl s0 e0 size = false → (∀ H', Fr [] H2 H' → E2 (.ref W.e_NoPlace) none H') → sp_Shelf_change W [.ref r.k, txtV nm, .int 1, s0, e0, u] H2 Q2 E2 := fun {H2 Q2 E2} s0 e0 u x hx hl f h1 h2 h3 h4 h5 q => by
      refine ⟨r, M, nm, .int 1, s0, e0, u, rfl, hS.fr0 f, mok, by omega, ⟨by simp [tyN], h1, h2, h3⟩, h4, f.tabs _ t1, f.tabs _ t2, l1, l2, fun n y a b z en ey e1 e2 e3 _ hab hbl _ _ _ => ?_, (fun h => by rw [nn] at h; cases h), fun _ h H' f' => ?_, fun n y _ en ey => ⟨fun _ => q, fun h => ?_, fun a b z e1 e2 e3 h _ => ?_⟩⟩
      · cases en
        rw [hx] at ey
        cases ey
        subst e1 e2
        exfalso
        have : okPl (natV a) (natV b) size = true := by
          show (decide ((0 : Int) ≤ a) && (decide ((a : Int) ≤ b) && decide ((b : Int) ≤ (size : Int)))) = true
          rw [decide_eq_true (show (0 : Int) ≤ a by omega), decide_eq_true (show (a : Int) ≤ b by omega), decide_eq_true (show (b : Int) ≤ size by omega)]
          rfl
        rw [h5] at this
        cases this
      · rw [h _ rfl] at hx
        cases hx
      · cases en
        rw [hx] at ey
        cases ey
        rw [hl, h5] at h
        cases h
      · cases en
        rw [hx] at ey
        cases ey
        rw [hl, h5] at h
        cases h
    have chgT : ∀ {H2 : Hp} {Q2 : VK} {E2 : XK} (s0 e0 u : V) (x : Rw), M.at_ nm 1 = some x → x.parts.flatten.length = size → Fr [] H H2 → tyN s0 ≠ none → tyN e0 ≠ none → tyN u ≠ none → (∀ x, u = .str x → x.length ≤ 10000) → okPl s0 e0 size = true → isTx u = false → (∀ H', Fr [] H2 H' → E2 (.ref W.e_NoText) none H') → sp_Shelf_change W [.ref r.k, txtV nm, .int 1, s0, e0, u] H2 Q2 E2 := fun {H2 Q2 E2} s0 e0 u x hx hl f h1 h2 h3 h4 h5 h6 q => by
      refine ⟨r, M, nm, .int 1, s0, e0, u, rfl, hS.fr0 f, mok, by omega, ⟨by simp [tyN], h1, h2, h3⟩, h4, f.tabs _ t1, f.tabs _ t2, l1, l2, fun n y a b z en ey e1 e2 e3 _ hab hbl h _ _ => ?_, (fun h => by rw [nn] at h; cases h), fun _ h H' f' => ?_, fun n y _ en ey => ⟨fun h => ?_, fun _ _ => q, fun a b z e1 e2 e3 _ h => ?_⟩⟩
      · rw [h6] at h
        cases h
      · rw [h _ rfl] at hx
        cases hx
      · cases en
        rw [hx] at ey
        cases ey
        rw [hl, h5] at h
        cases h
      · rw [h6] at h
        cases h
    have chgN : ∀ {H2 : Hp} {Q2 : VK} {E2 : XK} (v s0 e0 u : V), (∀ n, v = .int n → M.at_ nm n = none) → Fr [] H H2 → tyN v ≠ none → tyN s0 ≠ none → tyN e0 ≠ none → tyN u ≠ none → (∀ x, u = .str x → x.length ≤ 10000) → (∀ H', Fr [] H2 H' → E2 (.ref W.e_NotThere) none H') → sp_Shelf_change W [.ref r.k, txtV nm, v, s0, e0, u] H2 Q2 E2 := fun {H2 Q2 E2} v s0 e0 u hx f h0 h1 h2 h3 h4 q => by
      refine ⟨r, M, nm, v, s0, e0, u, rfl, hS.fr0 f, mok, by omega, ⟨h0, h1, h2, h3⟩, h4, f.tabs _ t1, f.tabs _ t2, l1, l2, fun n y a b z en ey => ?_, (fun h => by rw [nn] at h; cases h), fun _ _ => q, fun n y _ en ey => ?_⟩
      · rw [hx n en] at ey
        cases ey
      · rw [hx n en] at ey
        cases ey
    have sml : ∀ x, V.str "a" = .str x → x.length ≤ 10000 := fun x e => by cases e; decide
    have ref : way ≠ 33 → way ≠ 42 → size ≤ 59 ∧ (∃ x, M.at_ nm 1 = some x ∧ x.parts.flatten.length = size) ∧ M.at_ nm 999 = none ∧ M.at_ nm 0 = none ∧ M.at_ nm (-1) = none ∧ ∀ H', Fr [] H H' → E (wayCls W way) none H' := fun h1 h2 => by
      obtain ⟨_, _, q⟩ | ⟨h, _⟩ | ⟨h, _⟩ | ⟨h, _⟩ := hc
      · exact q
      · omega
      · omega
      · omega
    walk_at "ev"
    have hm4 := Int.emod_nonneg (size : Int) (show (4 : Int) ≠ 0 by omega)
    have hm4' := Int.emod_lt_of_pos (size : Int) (show (0 : Int) < 4 by omega)
    by_cases w6 : way < 6
    · rw [decide_eq_true (show ((way : Nat) : Int) < 6 by omega)]
      walk_at "ev"
      have hm3 := Int.emod_nonneg ((size : Int) / 2) (show (3 : Int) ≠ 0 by omega)
      have hm3' := Int.emod_lt_of_pos ((size : Int) / 2) (show (0 : Int) < 3 by omega)
      intro p hp
      obtain ⟨v0, h1, h2, h3, h4⟩ : ∃ v, atI [V.bl true, V.str (Str.ofString "1"), V.non] ((size : Int) / 2 % 3) = some v ∧ tyN v ≠ none ∧ isWd 8 v = false ∧ isWd 40 v = false := by
        generalize (size : Int) / 2 % 3 = m at hm3 hm3'
        obtain rfl | rfl | rfl : m = 0 ∨ m = 1 ∨ m = 2 := by omega
        · exact ⟨_, rfl, by simp [tyN], rfl, rfl⟩
        · exact ⟨_, rfl, by simp [tyN], rfl, rfl⟩
        · exact ⟨_, rfl, by simp [tyN], rfl, rfl⟩
      refine ⟨_, v0, .inl (SqL.of upd_same), h1, fun p1 hp1 p2 hp2 p3 hp3 p4 hp4 p5 hp5 p6 hp6 p7 hp7 => ?_⟩
      have s0 := same_new (o := .lst [V.bl true, V.str (Str.ofString "1"), V.non]) hp
      generalize upd H p (.lst [V.bl true, V.str (Str.ofString "1"), V.non]) = G0 at s0 hp1 hp2 hp3 hp4 hp5 hp6 hp7 ⊢
      have s1 := same_new (o := .tup [V.int 0, V.int 1]) hp1
      have t1' : upd G0 p1 (.tup [V.int 0, V.int 1]) p1 = some (.tup [V.int 0, V.int 1]) := upd_same
      generalize upd G0 p1 (.tup [V.int 0, V.int 1]) = G1 at s1 t1' hp2 hp3 hp4 hp5 hp6 hp7 ⊢
      have s2 := same_new (o := .tup [V.int 9, V.int 1]) hp2
      have t2' : upd G1 p2 (.tup [V.int 9, V.int 1]) p2 = some (.tup [V.int 9, V.int 1]) := upd_same
      generalize upd G1 p2 (.tup [V.int 9, V.int 1]) = G2 at s2 t2' hp3 hp4 hp5 hp6 hp7 ⊢
      have s3 := same_new (o := .tup [V.int 1, V.int 0]) hp3
      have t3' : upd G2 p3 (.tup [V.int 1, V.int 0]) p3 = some (.tup [V.int 1, V.int 0]) := upd_same
      generalize upd G2 p3 (.tup [V.int 1, V.int 0]) = G3 at s3 t3' hp4 hp5 hp6 hp7 ⊢
      have s4 := same_new (o := .tup [V.int 1, V.int 41]) hp4
      have t4' : upd G3 p4 (.tup [V.int 1, V.int 41]) p4 = some (.tup [V.int 1, V.int 41]) := upd_same
      generalize upd G3 p4 (.tup [V.int 1, V.int 41]) = G4 at s4 t4' hp5 hp6 hp7 ⊢
      have s5 := same_new (o := .tup [v0, V.int 1]) hp5
      have t5' : upd G4 p5 (.tup [v0, V.int 1]) p5 = some (.tup [v0, V.int 1]) := upd_same
      generalize upd G4 p5 (.tup [v0, V.int 1]) = G5 at s5 t5' hp6 hp7 ⊢
      have s6 := same_new (o := .tup [V.int 1, v0]) hp6
      have t6' : upd G5 p6 (.tup [V.int 1, v0]) p6 = some (.tup [V.int 1, v0]) := upd_same
      generalize upd G5 p6 (.tup [V.int 1, v0]) = G6 at s6 t6' hp7 ⊢
      have s7 := same_new (o := .lst [V.ref p1, V.ref p2, V.ref p3, V.ref p4, V.ref p5, V.ref p6]) hp7
      have t7' : upd G6 p7 (.lst [V.ref p1, V.ref p2, V.ref p3, V.ref p4, V.ref p5, V.ref p6]) p7 = some (.lst [V.ref p1, V.ref p2, V.ref p3, V.ref p4, V.ref p5, V.ref p6]) := upd_same
      generalize upd G6 p7 (.lst [V.ref p1, V.ref p2, V.ref p3, V.ref p4, V.ref p5, V.ref p6]) = G7 at s7 t7' ⊢
      have f7 : Fr [] H G7 := frS (((((((s0.trans s1).trans s2).trans s3).trans s4).trans s5).trans s6).trans s7)
      obtain ⟨q, v, u, g1, g2, g3, g4, g5⟩ : ∃ q v u, atI [V.ref p1, V.ref p2, V.ref p3, V.ref p4, V.ref p5, V.ref p6] ((way : Nat) : Int) = some (.ref q) ∧ G7 q = some (.tup [v, u]) ∧ tyN v ≠ none ∧ tyN u ≠ none ∧ (isWd 8 v = false ∨ isWd 40 u = false) := by
        obtain rfl | rfl | rfl | rfl | rfl | rfl : way = 0 ∨ way = 1 ∨ way = 2 ∨ way = 3 ∨ way = 4 ∨ way = 5 := by omega
        · exact ⟨p1, _, _, rfl, s7 _ _ (s6 _ _ (s5 _ _ (s4 _ _ (s3 _ _ (s2 _ _ t1'))))), by simp [tyN], by simp [tyN], .inl rfl⟩
        · exact ⟨p2, _, _, rfl, s7 _ _ (s6 _ _ (s5 _ _ (s4 _ _ (s3 _ _ t2')))), by simp [tyN], by simp [tyN], .inl rfl⟩
        · exact ⟨p3, _, _, rfl, s7 _ _ (s6 _ _ (s5 _ _ (s4 _ _ t3'))), by simp [tyN], by simp [tyN], .inr rfl⟩
        · exact ⟨p4, _, _, rfl, s7 _ _ (s6 _ _ (s5 _ _ t4')), by simp [tyN], by simp [tyN], .inr rfl⟩
        · exact ⟨p5, _, _, rfl, s7 _ _ (s6 _ _ t5'), h2, by simp [tyN], .inl h3⟩
        · exact ⟨p6, _, _, rfl, s7 _ _ t6', by simp [tyN], h2, .inr h4⟩
      refine ⟨_, _, .inl (SqL.of t7'), g1, _, _, .inr (SqT.of g2), rfl, _, _, .inl (SqL.of t7'), g1, _, _, .inr (SqT.of g2), rfl, fun k1 dx1 hk1 hdx1 hne1 => ?_⟩
      have wdF : ∀ {m a : Nat}, 1 ≤ a → a ≤ m → isWd (m : Int) (natV a) = true := fun {m a} e1 e2 => by
        show (decide ((1 : Int) ≤ (a : Int)) && decide ((a : Int) ≤ (m : Int))) = true
        rw [decide_eq_true (show (1 : Int) ≤ (a : Int) by omega), decide_eq_true (show (a : Int) ≤ (m : Int) by omega)]
        rfl
      refine ⟨k1, dx1, v, u, rfl, upd_same, g3, g4, fun a b ea eb ha hb => ?_, fun _ => ?_⟩
      · exfalso
        subst ea eb
        rcases g5 with h | h
        · have := wdF (m := 8) ha.1 ha.2
          rw [show ((8 : Nat) : Int) = 8 from rfl, h] at this
          cases this
        · have := wdF (m := 40) hb.1 hb.2
          rw [show ((40 : Nat) : Int) = 40 from rfl, h] at this
          cases this
      · have ew : wayCls W way = .ref W.e_NoSize := by
          unfold wayCls
          rw [if_pos w6]
        have fm : Fr [] G7 _ := frMade (C := W.c_Shelf) hk1 hdx1 (F := []) (by simp) Fr.refl
        have := (ref (by omega) (by omega)).2.2.2.2.2 _ (f7.trans fm)
        rw [ew] at this
        exact this
    rw [decide_eq_false (show ¬ ((way : Nat) : Int) < 6 by omega)]
    walk_at "ev"
    by_cases w14 : way < 14
    · rw [decide_eq_true (show ((way : Nat) : Int) < 14 by omega)]
      walk_at "ev"
      have hm2 := Int.emod_nonneg (way : Int) (show (2 : Int) ≠ 0 by omega)
      have hm2' := Int.emod_lt_of_pos (way : Int) (show (0 : Int) < 2 by omega)
      refine ⟨⟨by decide, by decide⟩, fun p hp => ?_⟩
      have f1 : Fr [] H _ := frS (same_new (o := .lst [V.str (st []), V.str (Str.ofString "A"), V.str (st (repS (Str.ofString "a").cps.toList 13)), V.str (Str.ofString "a b"), V.str (Str.ofString "a1"), V.int 5, V.non, V.str (Str.ofString "a\n")]) hp)
      have hp1 : upd H p (.lst [V.str (st []), V.str (Str.ofString "A"), V.str (st (repS (Str.ofString "a").cps.toList 13)), V.str (Str.ofString "a b"), V.str (Str.ofString "a1"), V.int 5, V.non, V.str (Str.ofString "a\n")]) p = _ := upd_same
      obtain ⟨v, h1, h2, h3, h4⟩ : ∃ v, atI [V.str (st []), V.str (Str.ofString "A"), V.str (st (repS (Str.ofString "a").cps.toList 13)), V.str (Str.ofString "a b"), V.str (Str.ofString "a1"), V.int 5, V.non, V.str (Str.ofString "a\n")] (((way : Nat) : Int) - 6) = some v ∧ tyN v ≠ none ∧ isNm v = false ∧ ∀ x, v = .str x → x.length ≤ 16777216 := by
        obtain rfl | rfl | rfl | rfl | rfl | rfl | rfl | rfl : way = 6 ∨ way = 7 ∨ way = 8 ∨ way = 9 ∨ way = 10 ∨ way = 11 ∨ way = 12 ∨ way = 13 := by omega
        · exact ⟨_, rfl, by simp [tyN], by decide, fun x e => by cases e; decide⟩
        · exact ⟨_, rfl, by simp [tyN], by decide, fun x e => by cases e; decide⟩
        · exact ⟨_, rfl, by simp [tyN], by decide, fun x e => by cases e; decide⟩
        · exact ⟨_, rfl, by simp [tyN], by decide, fun x e => by cases e; decide⟩
        · exact ⟨_, rfl, by simp [tyN], by decide, fun x e => by cases e; decide⟩
        · exact ⟨_, rfl, by simp [tyN], rfl, fun x e => by cases e⟩
        · exact ⟨_, rfl, by simp [tyN], rfl, fun x e => by cases e⟩
        · exact ⟨_, rfl, by simp [tyN], by decide, fun x e => by cases e; decide⟩
      generalize upd H p _ = H1 at f1 hp1 ⊢
      rw [sM W (hS.fr0 f1).ob (by decide +kernel)]
      refine ⟨_, v, .inl (SqL.of hp1), h1, fun p2 hp2 => ?_⟩
      obtain ⟨u, g1, g2, g3⟩ : ∃ u, atI [V.int 5, V.str (Str.ofString "good")] (((way : Nat) : Int) % 2) = some u ∧ tyN u ≠ none ∧ ∀ x, u = .str x → x.length ≤ 16777216 := by
        generalize ((way : Nat) : Int) % 2 = m at hm2 hm2'
        obtain rfl | rfl : m = 0 ∨ m = 1 := by omega
        · exact ⟨_, rfl, by simp [tyN], fun x e => by cases e⟩
        · exact ⟨_, rfl, by simp [tyN], fun x e => by cases e; decide⟩
      refine ⟨_, u, .inl (SqL.of upd_same), g1, ?_⟩
      have f2 := f1.new (o := .lst [V.int 5, V.str (Str.ofString "good")]) hp2
      have ew : wayCls W way = .ref W.e_NoName := by
        unfold wayCls
        rw [if_neg w6, if_pos (.inl w14)]
      have no : ∀ {a : Prop}, isNm v = true → a := fun h => by rw [h3] at h; cases h
      refine ⟨r, M, v, u, rfl, hS.fr0 f2, mok, h2, .inl g2, h4, g3, f2.tabs _ t1, f2.tabs _ t2, l1, l2, fun _ _ _ _ h => no h, fun _ H' f => ?_, fun h => no h, fun h => no h, fun h => no h⟩
      have := (ref (by omega) (by omega)).2.2.2.2.2 _ (f2.trans f)
      rw [ew] at this
      exact this
    rw [decide_eq_false (show ¬ ((way : Nat) : Int) < 14 by omega)]
    walk_at "ev"
    by_cases w20 : 20 < way
    · rw [decide_eq_false (show ¬ ((way : Nat) : Int) = 14 by omega)]
      walk_at "ev"
      rw [decide_eq_false (show ¬ ((way : Nat) : Int) = 15 by omega)]
      walk_at "ev"
      rw [decide_eq_false (show ¬ ((way : Nat) : Int) = 16 by omega)]
      walk_at "ev"
      rw [decide_eq_false (show ¬ ((way : Nat) : Int) = 17 by omega)]
      walk_at "ev"
      rw [decide_eq_false (show ¬ ((way : Nat) : Int) = 18 by omega)]
      walk_at "ev"
      rw [decide_eq_false (show ¬ ((way : Nat) : Int) = 19 by omega)]
      walk_at "ev"
      rw [decide_eq_false (show ¬ ((way : Nat) : Int) = 20 by omega)]
      walk_at "ev"
      exact ⟨r, M, nm, way, size, rfl, hS, mok, ng, l1, l2, l3, t1, t2, by omega, w2, hc⟩
    have cP : way ≠ 33 → way ≠ 42 → wayCls W way = .ref W.e_NoPlace → ∀ H', Fr [] H H' → E (.ref W.e_NoPlace) none H' := fun h1 h2 e H' f => e ▸ (ref h1 h2).2.2.2.2.2 H' f
    have cX : way ≠ 33 → way ≠ 42 → wayCls W way = .ref W.e_NoText → ∀ H', Fr [] H H' → E (.ref W.e_NoText) none H' := fun h1 h2 e H' f => e ▸ (ref h1 h2).2.2.2.2.2 H' f
    have cL : way ≠ 33 → way ≠ 42 → wayCls W way = .ref W.e_TooLong → ∀ H', Fr [] H H' → E (.ref W.e_TooLong) none H' := fun h1 h2 e H' f => e ▸ (ref h1 h2).2.2.2.2.2 H' f
    obtain ⟨s59, ⟨x, hx, hlen⟩, h999, h0, hn1, _⟩ := ref (by omega) (by omega)
    obtain rfl | rfl | rfl | rfl | rfl | rfl | rfl : way = 14 ∨ way = 15 ∨ way = 16 ∨ way = 17 ∨ way = 18 ∨ way = 19 ∨ way = 20 := by omega
    · -- 14
      rw [show decide (((14 : Nat) : Int) = 14) = true from rfl]
      walk_at "ev"
      rw [sM W hS.ob (by decide +kernel)]
      have hx2 : isTx (V.str (Str.ofString "a\tb")) = false := by decide
      exact ⟨r, M, txtV nm, .str "a\tb", rfl, hS, mok, by simp [tyN], .inl (by simp [tyN]), tx_len (by omega), (fun x e => by cases e; decide), t1, t2, l1, l2, (fun _ _ _ _ _ h => by rw [hx2] at h; cases h), (fun h => by rw [nn] at h; cases h), (fun _ _ => cX (by decide) (by decide) rfl), (fun _ _ _ h => by rw [hx2] at h; cases h), fun _ _ _ h => by rw [hx2] at h; cases h⟩
    · -- 15
      rw [show decide (((15 : Nat) : Int) = 14) = false from rfl]
      walk_at "ev"
      rw [show decide (((15 : Nat) : Int) = 15) = true from rfl]
      walk_at "ev"
      rw [sM W hS.ob (by decide +kernel)]
      intro p hp p2 hp2
      obtain ⟨v, h1, h2, h3, h4⟩ : ∃ v, atI [V.int 5, V.non, V.bl true, V.ref p] ((size : Int) % 4) = some v ∧ (tyN v ≠ none ∨ v = .ref p) ∧ isTx v = false ∧ ∀ x, v = .str x → x.length ≤ 16777216 := by
        generalize (size : Int) % 4 = m at hm4 hm4'
        obtain rfl | rfl | rfl | rfl : m = 0 ∨ m = 1 ∨ m = 2 ∨ m = 3 := by omega
        · exact ⟨_, rfl, .inl (by simp [tyN]), rfl, fun x e => by cases e⟩
        · exact ⟨_, rfl, .inl (by simp [tyN]), rfl, fun x e => by cases e⟩
        · exact ⟨_, rfl, .inl (by simp [tyN]), rfl, fun x e => by cases e⟩
        · exact ⟨_, rfl, .inr rfl, rfl, fun x e => by cases e⟩
      have f2 : Fr [] H _ := frS ((same_new (o := .lst [V.str (Str.ofString "a")]) hp).trans (same_new (o := .lst [V.int 5, V.non, V.bl true, V.ref p]) hp2))
      refine ⟨_, v, .inl (SqL.of upd_same), h1, ?_⟩
      exact ⟨r, M, txtV nm, v, rfl, hS.fr0 f2, mok, by simp [tyN], h2.imp id (fun e => ⟨p, _, e, upd_of upd_same hp2⟩), tx_len (by omega), h4, f2.tabs _ t1, f2.tabs _ t2, l1, l2, (fun _ _ _ _ _ h => by rw [h3] at h; cases h), (fun h => by rw [nn] at h; cases h), (fun _ _ H' f => cX (by decide) (by decide) rfl _ (f2.trans f)), (fun _ _ _ h => by rw [h3] at h; cases h), fun _ _ _ h => by rw [h3] at h; cases h⟩
    · -- 16
      rw [show decide (((16 : Nat) : Int) = 14) = false from rfl]
      walk_at "ev"
      rw [show decide (((16 : Nat) : Int) = 15) = false from rfl]
      walk_at "ev"
      rw [show decide (((16 : Nat) : Int) = 16) = true from rfl]
      walk_at "ev"
      rw [sM W hS.ob (by decide +kernel)]
      refine ⟨⟨by decide, by decide⟩, ?_⟩
      have hx2 : isTx (V.str (st (repS (Str.ofString "a").cps.toList 3001))) = true := by
        show (st _).cps.toList.all okS = true
        rw [codes_st, List.all_eq_true]
        intro y hy
        have := mem_rep hy
        rw [show (Str.ofString "a").cps.toList = [97] by decide] at this
        rw [List.mem_singleton.mp this]
        decide
      have hl3 : (repS (Str.ofString "a").cps.toList 3001).length = 3001 := by
        rw [repS_len]
        decide
      generalize repS (Str.ofString "a").cps.toList 3001 = z at hx2 hl3 ⊢
      exact ⟨r, M, txtV nm, txtV z, rfl, hS, mok, by simp [tyN], .inl (by simp [tyN]), tx_len (by omega), tx_len (by omega), t1, t2, l1, l2, (fun _ y _ e _ _ h => by cases tx_same e; omega), (fun h => by rw [nn] at h; cases h), (fun _ h => by rw [hx2] at h; cases h), (fun _ _ _ _ _ => cL (by decide) (by decide) rfl), fun _ y e _ h => by cases tx_same e; omega⟩
    · -- 17
      rw [show decide (((17 : Nat) : Int) = 14) = false from rfl]
      walk_at "ev"
      rw [show decide (((17 : Nat) : Int) = 15) = false from rfl]
      walk_at "ev"
      rw [show decide (((17 : Nat) : Int) = 16) = false from rfl]
      walk_at "ev"
      rw [show decide (((17 : Nat) : Int) = 17) = true from rfl]
      walk_at "ev"
      rw [sM W hS.ob (by decide +kernel)]
      refine ⟨⟨by decide, by decide⟩, ?_⟩
      have hx2 : isTx (V.str (st (repS (Str.ofString "\t").cps.toList 3001))) = false := by
        show (st _).cps.toList.all okS = false
        rw [codes_st]
        show ((List.replicate (3000 + 1) (Str.ofString "\t").cps.toList).flatten).all okS = false
        rw [List.replicate_succ, List.flatten_cons, List.all_append, show (Str.ofString "\t").cps.toList.all okS = false by decide]
        rfl
      have hl3 : (repS (Str.ofString "\t").cps.toList 3001).length = 3001 := by
        rw [repS_len]
        decide
      generalize repS (Str.ofString "\t").cps.toList 3001 = z at hx2 hl3 ⊢
      exact ⟨r, M, txtV nm, txtV z, rfl, hS, mok, by simp [tyN], .inl (by simp [tyN]), tx_len (by omega), tx_len (by omega), t1, t2, l1, l2, (fun _ _ _ _ _ h => by rw [hx2] at h; cases h), (fun h => by rw [nn] at h; cases h), (fun _ _ => cX (by decide) (by decide) rfl), (fun _ _ _ h => by rw [hx2] at h; cases h), fun _ _ _ h => by rw [hx2] at h; cases h⟩
    · -- 18
      rw [show decide (((18 : Nat) : Int) = 14) = false from rfl]
      walk_at "ev"
      rw [show decide (((18 : Nat) : Int) = 15) = false from rfl]
      walk_at "ev"
      rw [show decide (((18 : Nat) : Int) = 16) = false from rfl]
      walk_at "ev"
      rw [show decide (((18 : Nat) : Int) = 17) = false from rfl]
      walk_at "ev"
      rw [show decide (((18 : Nat) : Int) = 18) = true from rfl]
      walk_at "ev"
      rw [sM W hS.ob (by decide +kernel)]
      have l1a : (Str.ofString "a").length = 1 := by decide
      have hx2 : isTx (V.str (st (repS (Str.ofString "a").cps.toList (3001 - (size : Int)).toNat))) = true := by
        show (st _).cps.toList.all okS = true
        rw [codes_st, List.all_eq_true]
        intro y hy
        have := mem_rep hy
        rw [show (Str.ofString "a").cps.toList = [97] by decide] at this
        rw [List.mem_singleton.mp this]
        decide
      have hl3 : (repS (Str.ofString "a").cps.toList (3001 - (size : Int)).toNat).length = 3001 - size := by
        rw [repS_len, show (Str.ofString "a").cps.toList.length = 1 by decide]
        omega
      have okT : okPl (natV size) (natV size) size = true := by
        show (decide ((0 : Int) ≤ (size : Int)) && (decide ((size : Int) ≤ (size : Int)) && decide ((size : Int) ≤ (size : Int)))) = true
        rw [decide_eq_true (show (0 : Int) ≤ (size : Int) by omega), decide_eq_true (show (size : Int) ≤ (size : Int) by omega)]
        rfl
      refine ⟨⟨by omega, by omega, by rw [l1a]; omega⟩, ?_⟩
      generalize repS (Str.ofString "a").cps.toList (3001 - (size : Int)).toNat = z at hx2 hl3 ⊢
      have nat_eq : ∀ {a b : Nat}, natV a = natV b → a = b := fun e => by have := V.int.inj e; omega
      have big : ∀ {a b : Nat} {y : List Nat}, natV size = natV a → natV size = natV b → txtV z = txtV y → 3000 < (x.parts.flatten.take a ++ (y ++ x.parts.flatten.drop b)).length := fun {a b y} e1 e2 e3 => by
        cases nat_eq e1
        cases nat_eq e2
        cases tx_same e3
        rw [List.length_append, List.length_append, List.length_take, List.length_drop]
        omega
      refine ⟨r, M, nm, .int 1, natV size, natV size, txtV z, rfl, hS, mok, by omega, ⟨by simp [tyN], by simp [tyN], by simp [tyN], by simp [tyN]⟩, (fun y e => by cases e; rw [len_st]; omega), t1, t2, l1, l2, fun n y a b w2 en ey e1 e2 e3 _ _ _ _ h => ?_, (fun h => by rw [nn] at h; cases h), fun _ h => ?_, fun n y _ en ey => ?_⟩
      · cases en
        rw [hx] at ey
        cases ey
        have := big e1 e2 e3
        omega
      · rw [h _ rfl] at hx
        cases hx
      · cases en
        rw [hx] at ey
        cases ey
        refine ⟨fun h => ?_, (fun _ h => by rw [hx2] at h; cases h), fun a b w2 e1 e2 e3 _ _ => ⟨fun _ => cL (by decide) (by decide) rfl, fun h => ?_⟩⟩
        · rw [hlen, okT] at h
          cases h
        · have := big e1 e2 e3
          omega
    · -- 19
      rw [show decide (((19 : Nat) : Int) = 14) = false from rfl]
      walk_at "ev"
      rw [show decide (((19 : Nat) : Int) = 15) = false from rfl]
      walk_at "ev"
      rw [show decide (((19 : Nat) : Int) = 16) = false from rfl]
      walk_at "ev"
      rw [show decide (((19 : Nat) : Int) = 17) = false from rfl]
      walk_at "ev"
      rw [show decide (((19 : Nat) : Int) = 18) = false from rfl]
      walk_at "ev"
      rw [show decide (((19 : Nat) : Int) = 19) = true from rfl]
      walk_at "ev"
      rw [sM W hS.ob (by decide +kernel)]
      exact chgP _ _ _ x hx hlen Fr.refl (by simp [tyN]) (by simp [tyN]) (by simp [tyN]) (fun y e => by cases e; decide) (by show (decide ((0 : Int) ≤ (size : Int) + 1) && (decide ((size : Int) + 1 ≤ (size : Int)) && decide ((size : Int) ≤ (size : Int)))) = false; rw [decide_eq_false (show ¬ (size : Int) + 1 ≤ (size : Int) by omega), Bool.false_and, Bool.and_false]) (cP (by decide) (by decide) rfl)
    · -- 20
      rw [show decide (((20 : Nat) : Int) = 14) = false from rfl]
      walk_at "ev"
      rw [show decide (((20 : Nat) : Int) = 15) = false from rfl]
      walk_at "ev"
      rw [show decide (((20 : Nat) : Int) = 16) = false from rfl]
      walk_at "ev"
      rw [show decide (((20 : Nat) : Int) = 17) = false from rfl]
      walk_at "ev"
      rw [show decide (((20 : Nat) : Int) = 18) = false from rfl]
      walk_at "ev"
      rw [show decide (((20 : Nat) : Int) = 19) = false from rfl]
      walk_at "ev"
      rw [show decide (((20 : Nat) : Int) = 20) = true from rfl]
      walk_at "ev"
      rw [sM W hS.ob (by decide +kernel)]
      exact chgP _ _ _ x hx hlen Fr.refl (by simp [tyN]) (by simp [tyN]) (by simp [tyN]) sml (by show (decide ((0 : Int) ≤ 0) && (decide ((0 : Int) ≤ (size : Int) + 1) && decide ((size : Int) + 1 ≤ (size : Int)))) = false; rw [decide_eq_false (show ¬ (size : Int) + 1 ≤ (size : Int) by omega), Bool.and_false, Bool.and_false]) (cP (by decide) (by decide) rfl)
def errW {K : PySem.W.Frag} {mg : Str → Option Value} {base : Heap} (W : Wd K mg base) (cls : Value) (wd : Str) : Prop := (cls = .ref W.e_NoSize ∧ wd = "no size") ∨ (cls = .ref W.e_NoName ∧ wd = "no name") ∨ (cls = .ref W.e_NotThere ∧ wd = "not there") ∨ (cls = .ref W.e_NoPlace ∧ wd = "no place") ∨ (cls = .ref W.e_NoText ∧ wd = "no text") ∨ (cls = .ref W.e_TooLong ∧ wd = "too long") ∨ (cls = .ref W.e_TooMany ∧ wd = "too many")
theorem err_NoSize {K : PySem.W.Frag} {mg : Str → Option Value} {base : Heap} (W : Wd K mg base) : errW W (.ref W.e_NoSize) "no size" := by
  unfold errW
  simp
theorem err_NoName {K : PySem.W.Frag} {mg : Str → Option Value} {base : Heap} (W : Wd K mg base) : errW W (.ref W.e_NoName) "no name" := by
  unfold errW
  simp
theorem err_NotThere {K : PySem.W.Frag} {mg : Str → Option Value} {base : Heap} (W : Wd K mg base) : errW W (.ref W.e_NotThere) "not there" := by
  unfold errW
  simp
theorem err_NoPlace {K : PySem.W.Frag} {mg : Str → Option Value} {base : Heap} (W : Wd K mg base) : errW W (.ref W.e_NoPlace) "no place" := by
  unfold errW
  simp
theorem err_NoText {K : PySem.W.Frag} {mg : Str → Option Value} {base : Heap} (W : Wd K mg base) : errW W (.ref W.e_NoText) "no text" := by
  unfold errW
  simp
theorem err_TooLong {K : PySem.W.Frag} {mg : Str → Option Value} {base : Heap} (W : Wd K mg base) : errW W (.ref W.e_TooLong) "too long" := by
  unfold errW
  simp
theorem err_TooMany {K : PySem.W.Frag} {mg : Str → Option Value} {base : Heap} (W : Wd K mg base) : errW W (.ref W.e_TooMany) "too many" := by
  unfold errW
  simp
def sp__law_word_of {K : PySem.W.Frag} {mg : Str → Option Value} {base : Heap} (W : Wd K mg base) : Addr → Value → Option Addr → Sp := fun a cls d vs H Q _ => d = none ∧ vs = [.ref a] ∧ ∃ wd, errW W cls wd ∧ ∀ H' p, Same H H' → H p = none → H' p = some (.tup [.str wd, .bl true]) → Q (.ref p) H'
theorem ok__law_word_of (W : Wd K mg base) : FnE P w K mg base 1 W.f__law_word_of W.d__law_word_of ["_law_e"] (sp__law_word_of W) := by
  refine W.F__law_word_of.okE sc__law_word_of (fun a cls d vs H Q E h => ?_) (fun cdv A outer s H vs Q E a oe cls d hz hf hr h => ?_)
  · obtain ⟨_, rfl, _⟩ := h
    rfl
  · obtain ⟨rfl, rfl, wd, he, q⟩ := h
    rcases he with ⟨rfl, rfl⟩ | ⟨rfl, rfl⟩ | ⟨rfl, rfl⟩ | ⟨rfl, rfl⟩ | ⟨rfl, rfl⟩ | ⟨rfl, rfl⟩ | ⟨rfl, rfl⟩
    · refine ⟨_, (pss_cons (ps_set (i := 1) sc__law_word_of.nd rfl (by first | exact Or.inl rfl | exact Or.inr rfl) (pe_lst pa_nil))
      (pss_cons (ps_if (pt_val (pe_callB (call_isH (K := K) List.mem_cons_self W.x_NoSize hz hf) (by rfl) W.z_isinstance (by decide +kernel) (pa_cons (pv 0) (pa_cons (pe_glob (v := .ref W.e_NoSize) (by rfl) W.E_NoSize.g rfl) pa_nil)))) (pss_one (ps_expr (pe_bm PySem.F.plainAttrs_list PySem.F.slot_list_append PySem.F.type_list_append mt_append (pv 1) (pa_cons pe_str pa_nil)))) pss_nil)
      (pss_cons (ps_if (pt_val (pe_callB (call_isH (K := K) List.mem_cons_self W.x_NoSize hz hf) (by rfl) W.z_isinstance (by decide +kernel) (pa_cons (pv 0) (pa_cons (pe_glob (v := .ref W.e_NoName) (by rfl) W.E_NoName.g rfl) pa_nil)))) (pss_one (ps_expr (pe_bm PySem.F.plainAttrs_list PySem.F.slot_list_append PySem.F.type_list_append mt_append (pv 1) (pa_cons pe_str pa_nil)))) pss_nil)
      (pss_cons (ps_if (pt_val (pe_callB (call_isH (K := K) List.mem_cons_self W.x_NoSize hz hf) (by rfl) W.z_isinstance (by decide +kernel) (pa_cons (pv 0) (pa_cons (pe_glob (v := .ref W.e_NotThere) (by rfl) W.E_NotThere.g rfl) pa_nil)))) (pss_one (ps_expr (pe_bm PySem.F.plainAttrs_list PySem.F.slot_list_append PySem.F.type_list_append mt_append (pv 1) (pa_cons pe_str pa_nil)))) pss_nil)
      (pss_cons (ps_if (pt_val (pe_callB (call_isH (K := K) List.mem_cons_self W.x_NoSize hz hf) (by rfl) W.z_isinstance (by decide +kernel) (pa_cons (pv 0) (pa_cons (pe_glob (v := .ref W.e_NoPlace) (by rfl) W.E_NoPlace.g rfl) pa_nil)))) (pss_one (ps_expr (pe_bm PySem.F.plainAttrs_list PySem.F.slot_list_append PySem.F.type_list_append mt_append (pv 1) (pa_cons pe_str pa_nil)))) pss_nil)
      (pss_cons (ps_if (pt_val (pe_callB (call_isH (K := K) List.mem_cons_self W.x_NoSize hz hf) (by rfl) W.z_isinstance (by decide +kernel) (pa_cons (pv 0) (pa_cons (pe_glob (v := .ref W.e_NoText) (by rfl) W.E_NoText.g rfl) pa_nil)))) (pss_one (ps_expr (pe_bm PySem.F.plainAttrs_list PySem.F.slot_list_append PySem.F.type_list_append mt_append (pv 1) (pa_cons pe_str pa_nil)))) pss_nil)
      (pss_cons (ps_if (pt_val (pe_callB (call_isH (K := K) List.mem_cons_self W.x_NoSize hz hf) (by rfl) W.z_isinstance (by decide +kernel) (pa_cons (pv 0) (pa_cons (pe_glob (v := .ref W.e_TooLong) (by rfl) W.E_TooLong.g rfl) pa_nil)))) (pss_one (ps_expr (pe_bm PySem.F.plainAttrs_list PySem.F.slot_list_append PySem.F.type_list_append mt_append (pv 1) (pa_cons pe_str pa_nil)))) pss_nil)
      (pss_cons (ps_if (pt_val (pe_callB (call_isH (K := K) List.mem_cons_self W.x_NoSize hz hf) (by rfl) W.z_isinstance (by decide +kernel) (pa_cons (pv 0) (pa_cons (pe_glob (v := .ref W.e_TooMany) (by rfl) W.E_TooMany.g rfl) pa_nil)))) (pss_one (ps_expr (pe_bm PySem.F.plainAttrs_list PySem.F.slot_list_append PySem.F.type_list_append mt_append (pv 1) (pa_cons pe_str pa_nil)))) pss_nil)
      (pss_cons (ps_if (pt_val (pe_callB (call_isH (K := K) List.mem_cons_self W.x_NoSize hz hf) (by rfl) W.z_isinstance (by decide +kernel) (pa_cons (pv 0) (pa_cons (pe_glob (v := .ref W.e_NoNote) (by rfl) W.E_NoNote.g rfl) pa_nil)))) (pss_one (ps_expr (pe_bm PySem.F.plainAttrs_list PySem.F.slot_list_append PySem.F.type_list_append mt_append (pv 1) (pa_cons pe_str pa_nil)))) pss_nil)
      (pss_one (ps_ret (pe_tup (pa_cons (y_join (K := K) pe_str (pv 1)) (pa_cons (pe_callB (call_isH (K := K) List.mem_cons_self W.x_NoSize hz hf) (by rfl) W.z_isinstance (by decide +kernel) (pa_cons (pv 0) (pa_cons (pe_bltn (v := .ty "ValueError") (by rfl) W.z_ValueError (by decide +kernel) rfl) pa_nil))) pa_nil)))))))))))))), ?_⟩
      walk_at "ev"
      intro l hl
      refine isE_of (W.E_NoSize.kit W.s_NoSize_NoSize (fun _ => rfl)) ?_
      walk_at "ev"
      refine ⟨.inl ⟨rfl, _, SqL.of upd_same⟩, l, _, _, rfl, rfl, upd_same, by rw [line_eq]; decide, ?_⟩
      rw [upd_upd]
      walk_at "ev"
      refine isE_of (W.E_NoName.kit W.s_NoSize_NoName (fun e => absurd e W.u_NoSize_NoName)) ?_
      walk_at "ev"
      refine isE_of (W.E_NotThere.kit W.s_NoSize_NotThere (fun e => absurd e W.u_NoSize_NotThere)) ?_
      walk_at "ev"
      refine isE_of (W.E_NoPlace.kit W.s_NoSize_NoPlace (fun e => absurd e W.u_NoSize_NoPlace)) ?_
      walk_at "ev"
      refine isE_of (W.E_NoText.kit W.s_NoSize_NoText (fun e => absurd e W.u_NoSize_NoText)) ?_
      walk_at "ev"
      refine isE_of (W.E_TooLong.kit W.s_NoSize_TooLong (fun e => absurd e W.u_NoSize_TooLong)) ?_
      walk_at "ev"
      refine isE_of (W.E_TooMany.kit W.s_NoSize_TooMany (fun e => absurd e W.u_NoSize_TooMany)) ?_
      walk_at "ev"
      refine isE_of (W.E_NoNote.kit W.s_NoSize_NoNote (fun e => absurd e W.u_NoSize_NoNote)) ?_
      walk_at "ev"
      refine ⟨[_], .inl (SqL.of upd_same), ?_, ?_⟩
      · decide +kernel
      rw [join_one]
      walk_at "ev"
      refine isE_ty W.v_NoSize ?_
      walk_at "ev"
      intro p hp
      exact q _ p (same_upd (same_grow (Same.refl H) hl) hp) (same_grow (Same.refl H) hl |>.free hp) upd_same
    · refine ⟨_, (pss_cons (ps_set (i := 1) sc__law_word_of.nd rfl (by first | exact Or.inl rfl | exact Or.inr rfl) (pe_lst pa_nil))
      (pss_cons (ps_if (pt_val (pe_callB (call_isH (K := K) List.mem_cons_self W.x_NoName hz hf) (by rfl) W.z_isinstance (by decide +kernel) (pa_cons (pv 0) (pa_cons (pe_glob (v := .ref W.e_NoSize) (by rfl) W.E_NoSize.g rfl) pa_nil)))) (pss_one (ps_expr (pe_bm PySem.F.plainAttrs_list PySem.F.slot_list_append PySem.F.type_list_append mt_append (pv 1) (pa_cons pe_str pa_nil)))) pss_nil)
      (pss_cons (ps_if (pt_val (pe_callB (call_isH (K := K) List.mem_cons_self W.x_NoName hz hf) (by rfl) W.z_isinstance (by decide +kernel) (pa_cons (pv 0) (pa_cons (pe_glob (v := .ref W.e_NoName) (by rfl) W.E_NoName.g rfl) pa_nil)))) (pss_one (ps_expr (pe_bm PySem.F.plainAttrs_list PySem.F.slot_list_append PySem.F.type_list_append mt_append (pv 1) (pa_cons pe_str pa_nil)))) pss_nil)
      (pss_cons (ps_if (pt_val (pe_callB (call_isH (K := K) List.mem_cons_self W.x_NoName hz hf) (by rfl) W.z_isinstance (by decide +kernel) (pa_cons (pv 0) (pa_cons (pe_glob (v := .ref W.e_NotThere) (by rfl) W.E_NotThere.g rfl) pa_nil)))) (pss_one (ps_expr (pe_bm PySem.F.plainAttrs_list PySem.F.slot_list_append PySem.F.type_list_append mt_append (pv 1) (pa_cons pe_str pa_nil)))) pss_nil)
      (pss_cons (ps_if (pt_val (pe_callB (call_isH (K := K) List.mem_cons_self W.x_NoName hz hf) (by rfl) W.z_isinstance (by decide +kernel) (pa_cons (pv 0) (pa_cons (pe_glob (v := .ref W.e_NoPlace) (by rfl) W.E_NoPlace.g rfl) pa_nil)))) (pss_one (ps_expr (pe_bm PySem.F.plainAttrs_list PySem.F.slot_list_append PySem.F.type_list_append mt_append (pv 1) (pa_cons pe_str pa_nil)))) pss_nil)
      (pss_cons (ps_if (pt_val (pe_callB (call_isH (K := K) List.mem_cons_self W.x_NoName hz hf) (by rfl) W.z_isinstance (by decide +kernel) (pa_cons (pv 0) (pa_cons (pe_glob (v := .ref W.e_NoText) (by rfl) W.E_NoText.g rfl) pa_nil)))) (pss_one (ps_expr (pe_bm PySem.F.plainAttrs_list PySem.F.slot_list_append PySem.F.type_list_append mt_append (pv 1) (pa_cons pe_str pa_nil)))) pss_nil)
      (pss_cons (ps_if (pt_val (pe_callB (call_isH (K := K) List.mem_cons_self W.x_NoName hz hf) (by rfl) W.z_isinstance (by decide +kernel) (pa_cons (pv 0) (pa_cons (pe_glob (v := .ref W.e_TooLong) (by rfl) W.E_TooLong.g rfl) pa_nil)))) (pss_one (ps_expr (pe_bm PySem.F.plainAttrs_list PySem.F.slot_list_append PySem.F.type_list_append mt_append (pv 1) (pa_cons pe_str pa_nil)))) pss_nil)
      (pss_cons (ps_if (pt_val (pe_callB (call_isH (K := K) List.mem_cons_self W.x_NoName hz hf) (by rfl) W.z_isinstance (by decide +kernel) (pa_cons (pv 0) (pa_cons (pe_glob (v := .ref W.e_TooMany) (by rfl) W.E_TooMany.g rfl) pa_nil)))) (pss_one (ps_expr (pe_bm PySem.F.plainAttrs_list PySem.F.slot_list_append PySem.F.type_list_append mt_append (pv 1) (pa_cons pe_str pa_nil)))) pss_nil)
      (pss_cons (ps_if (pt_val (pe_callB (call_isH (K := K) List.mem_cons_self W.x_NoName hz hf) (by rfl) W.z_isinstance (by decide +kernel) (pa_cons (pv 0) (pa_cons (pe_glob (v := .ref W.e_NoNote) (by rfl) W.E_NoNote.g rfl) pa_nil)))) (pss_one (ps_expr (pe_bm PySem.F.plainAttrs_list PySem.F.slot_list_append PySem.F.type_list_append mt_append (pv 1) (pa_cons pe_str pa_nil)))) pss_nil)
      (pss_one (ps_ret (pe_tup (pa_cons (y_join (K := K) pe_str (pv 1)) (pa_cons (pe_callB (call_isH (K := K) List.mem_cons_self W.x_NoName hz hf) (by rfl) W.z_isinstance (by decide +kernel) (pa_cons (pv 0) (pa_cons (pe_bltn (v := .ty "ValueError") (by rfl) W.z_ValueError (by decide +kernel) rfl) pa_nil))) pa_nil)))))))))))))), ?_⟩
      walk_at "ev"
      intro l hl
      refine isE_of (W.E_NoSize.kit W.s_NoName_NoSize (fun e => absurd e W.u_NoName_NoSize)) ?_
      walk_at "ev"
      refine isE_of (W.E_NoName.kit W.s_NoName_NoName (fun _ => rfl)) ?_
      walk_at "ev"
      refine ⟨.inl ⟨rfl, _, SqL.of upd_same⟩, l, _, _, rfl, rfl, upd_same, by rw [line_eq]; decide, ?_⟩
      rw [upd_upd]
      walk_at "ev"
      refine isE_of (W.E_NotThere.kit W.s_NoName_NotThere (fun e => absurd e W.u_NoName_NotThere)) ?_
      walk_at "ev"
      refine isE_of (W.E_NoPlace.kit W.s_NoName_NoPlace (fun e => absurd e W.u_NoName_NoPlace)) ?_
      walk_at "ev"
      refine isE_of (W.E_NoText.kit W.s_NoName_NoText (fun e => absurd e W.u_NoName_NoText)) ?_
      walk_at "ev"
      refine isE_of (W.E_TooLong.kit W.s_NoName_TooLong (fun e => absurd e W.u_NoName_TooLong)) ?_
      walk_at "ev"
      refine isE_of (W.E_TooMany.kit W.s_NoName_TooMany (fun e => absurd e W.u_NoName_TooMany)) ?_
      walk_at "ev"
      refine isE_of (W.E_NoNote.kit W.s_NoName_NoNote (fun e => absurd e W.u_NoName_NoNote)) ?_
      walk_at "ev"
      refine ⟨[_], .inl (SqL.of upd_same), ?_, ?_⟩
      · decide +kernel
      rw [join_one]
      walk_at "ev"
      refine isE_ty W.v_NoName ?_
      walk_at "ev"
      intro p hp
      exact q _ p (same_upd (same_grow (Same.refl H) hl) hp) (same_grow (Same.refl H) hl |>.free hp) upd_same
    · refine ⟨_, (pss_cons (ps_set (i := 1) sc__law_word_of.nd rfl (by first | exact Or.inl rfl | exact Or.inr rfl) (pe_lst pa_nil))
      (pss_cons (ps_if (pt_val (pe_callB (call_isH (K := K) List.mem_cons_self W.x_NotThere hz hf) (by rfl) W.z_isinstance (by decide +kernel) (pa_cons (pv 0) (pa_cons (pe_glob (v := .ref W.e_NoSize) (by rfl) W.E_NoSize.g rfl) pa_nil)))) (pss_one (ps_expr (pe_bm PySem.F.plainAttrs_list PySem.F.slot_list_append PySem.F.type_list_append mt_append (pv 1) (pa_cons pe_str pa_nil)))) pss_nil)
      (pss_cons (ps_if (pt_val (pe_callB (call_isH (K := K) List.mem_cons_self W.x_NotThere hz hf) (by rfl) W.z_isinstance (by decide +kernel) (pa_cons (pv 0) (pa_cons (pe_glob (v := .ref W.e_NoName) (by rfl) W.E_NoName.g rfl) pa_nil)))) (pss_one (ps_expr (pe_bm PySem.F.plainAttrs_list PySem.F.slot_list_append PySem.F.type_list_append mt_append (pv 1) (pa_cons pe_str pa_nil)))) pss_nil)
      (pss_cons (ps_if (pt_val (pe_callB (call_isH (K := K) List.mem_cons_self W.x_NotThere hz hf) (by rfl) W.z_isinstance (by decide +kernel) (pa_cons (pv 0) (pa_cons (pe_glob (v := .ref W.e_NotThere) (by rfl) W.E_NotThere.g rfl) pa_nil)))) (pss_one (ps_expr (pe_bm PySem.F.plainAttrs_list PySem.F.slot_list_append PySem.F.type_list_append mt_append (pv 1) (pa_cons pe_str pa_nil)))) pss_nil)
      (pss_cons (ps_if (pt_val (pe_callB (call_isH (K := K) List.mem_cons_self W.x_NotThere hz hf) (by rfl) W.z_isinstance (by decide +kernel) (pa_cons (pv 0) (pa_cons (pe_glob (v := .ref W.e_NoPlace) (by rfl) W.E_NoPlace.g rfl) pa_nil)))) (pss_one (ps_expr (pe_bm PySem.F.plainAttrs_list PySem.F.slot_list_append PySem.F.type_list_append mt_append (pv 1) (pa_cons pe_str pa_nil)))) pss_nil)
      (pss_cons (ps_if (pt_val (pe_callB (call_isH (K := K) List.mem_cons_self W.x_NotThere hz hf) (by rfl) W.z_isinstance (by decide +kernel) (pa_cons (pv 0) (pa_cons (pe_glob (v := .ref W.e_NoText) (by rfl) W.E_NoText.g rfl) pa_nil)))) (pss_one (ps_expr (pe_bm PySem.F.plainAttrs_list PySem.F.slot_list_append PySem.F.type_list_append mt_append (pv 1) (pa_cons pe_str pa_nil)))) pss_nil)
      (pss_cons (ps_if (pt_val (pe_callB (call_isH (K := K) List.mem_cons_self W.x_NotThere hz hf) (by rfl) W.z_isinstance (by decide +kernel) (pa_cons (pv 0) (pa_cons (pe_glob (v := .ref W.e_TooLong) (by rfl) W.E_TooLong.g rfl) pa_nil)))) (pss_one (ps_expr (pe_bm PySem.F.plainAttrs_list PySem.F.slot_list_append PySem.F.type_list_append mt_append (pv 1) (pa_cons pe_str pa_nil)))) pss_nil)
      (pss_cons (ps_if (pt_val (pe_callB (call_isH (K := K) List.mem_cons_self W.x_NotThere hz hf) (by rfl) W.z_isinstance (by decide +kernel) (pa_cons (pv 0) (pa_cons (pe_glob (v := .ref W.e_TooMany) (by rfl) W.E_TooMany.g rfl) pa_nil)))) (pss_one (ps_expr (pe_bm PySem.F.plainAttrs_list PySem.F.slot_list_append PySem.F.type_list_append mt_append (pv 1) (pa_cons pe_str pa_nil)))) pss_nil)
      (pss_cons (ps_if (pt_val (pe_callB (call_isH (K := K) List.mem_cons_self W.x_NotThere hz hf) (by rfl) W.z_isinstance (by decide +kernel) (pa_cons (pv 0) (pa_cons (pe_glob (v := .ref W.e_NoNote) (by rfl) W.E_NoNote.g rfl) pa_nil)))) (pss_one (ps_expr (pe_bm PySem.F.plainAttrs_list PySem.F.slot_list_append PySem.F.type_list_append mt_append (pv 1) (pa_cons pe_str pa_nil)))) pss_nil)
      (pss_one (ps_ret (pe_tup (pa_cons (y_join (K := K) pe_str (pv 1)) (pa_cons (pe_callB (call_isH (K := K) List.mem_cons_self W.x_NotThere hz hf) (by rfl) W.z_isinstance (by decide +kernel) (pa_cons (pv 0) (pa_cons (pe_bltn (v := .ty "ValueError") (by rfl) W.z_ValueError (by decide +kernel) rfl) pa_nil))) pa_nil)))))))))))))), ?_⟩
      walk_at "ev"
      intro l hl
      refine isE_of (W.E_NoSize.kit W.s_NotThere_NoSize (fun e => absurd e W.u_NotThere_NoSize)) ?_
      walk_at "ev"
      refine isE_of (W.E_NoName.kit W.s_NotThere_NoName (fun e => absurd e W.u_NotThere_NoName)) ?_
      walk_at "ev"
      refine isE_of (W.E_NotThere.kit W.s_NotThere_NotThere (fun _ => rfl)) ?_
      walk_at "ev"
      refine ⟨.inl ⟨rfl, _, SqL.of upd_same⟩, l, _, _, rfl, rfl, upd_same, by rw [line_eq]; decide, ?_⟩
      rw [upd_upd]
      walk_at "ev"
      refine isE_of (W.E_NoPlace.kit W.s_NotThere_NoPlace (fun e => absurd e W.u_NotThere_NoPlace)) ?_
      walk_at "ev"
      refine isE_of (W.E_NoText.kit W.s_NotThere_NoText (fun e => absurd e W.u_NotThere_NoText)) ?_
      walk_at "ev"
      refine isE_of (W.E_TooLong.kit W.s_NotThere_TooLong (fun e => absurd e W.u_NotThere_TooLong)) ?_
      walk_at "ev"
      refine isE_of (W.E_TooMany.kit W.s_NotThere_TooMany (fun e => absurd e W.u_NotThere_TooMany)) ?_
      walk_at "ev"
      refine isE_of (W.E_NoNote.kit W.s_NotThere_NoNote (fun e => absurd e W.u_NotThere_NoNote)) ?_
      walk_at "ev"
      refine ⟨[_], .inl (SqL.of upd_same), ?_, ?_⟩
      · decide +kernel
      rw [join_one]
      walk_at "ev"
      refine isE_ty W.v_NotThere ?_
      walk_at "ev"
      intro p hp
      exact q _ p (same_upd (same_grow (Same.refl H) hl) hp) (same_grow (Same.refl H) hl |>.free hp) upd_same
    · refine ⟨_, (pss_cons (ps_set (i := 1) sc__law_word_of.nd rfl (by first | exact Or.inl rfl | exact Or.inr rfl) (pe_lst pa_nil))
      (pss_cons (ps_if (pt_val (pe_callB (call_isH (K := K) List.mem_cons_self W.x_NoPlace hz hf) (by rfl) W.z_isinstance (by decide +kernel) (pa_cons (pv 0) (pa_cons (pe_glob (v := .ref W.e_NoSize) (by rfl) W.E_NoSize.g rfl) pa_nil)))) (pss_one (ps_expr (pe_bm PySem.F.plainAttrs_list PySem.F.slot_list_append PySem.F.type_list_append mt_append (pv 1) (pa_cons pe_str pa_nil)))) pss_nil)
      (pss_cons (ps_if (pt_val (pe_callB (call_isH (K := K) List.mem_cons_self W.x_NoPlace hz hf) (by rfl) W.z_isinstance (by decide +kernel) (pa_cons (pv 0) (pa_cons (pe_glob (v := .ref W.e_NoName) (by rfl) W.E_NoName.g rfl) pa_nil)))) (pss_one (ps_expr (pe_bm PySem.F.plainAttrs_list PySem.F.slot_list_append PySem.F.type_list_append mt_append (pv 1) (pa_cons pe_str pa_nil)))) pss_nil)
      (pss_cons (ps_if (pt_val (pe_callB (call_isH (K := K) List.mem_cons_self W.x_NoPlace hz hf) (by rfl) W.z_isinstance (by decide +kernel) (pa_cons (pv 0) (pa_cons (pe_glob (v := .ref W.e_NotThere) (by rfl) W.E_NotThere.g rfl) pa_nil)))) (pss_one (ps_expr (pe_bm PySem.F.plainAttrs_list PySem.F.slot_list_append PySem.F.type_list_append mt_append (pv 1) (pa_cons pe_str pa_nil)))) pss_nil)
      (pss_cons (ps_if (pt_val (pe_callB (call_isH (K := K) List.mem_cons_self W.x_NoPlace hz hf) (by rfl) W.z_isinstance (by decide +kernel) (pa_cons (pv 0) (pa_cons (pe_glob (v := .ref W.e_NoPlace) (by rfl) W.E_NoPlace.g rfl) pa_nil)))) (pss_one (ps_expr (pe_bm PySem.F.plainAttrs_list PySem.F.slot_list_append PySem.F.type_list_append mt_append (pv 1) (pa_cons pe_str pa_nil)))) pss_nil)
      (pss_cons (ps_if (pt_val (pe_callB (call_isH (K := K) List.mem_cons_self W.x_NoPlace hz hf) (by rfl) W.z_isinstance (by decide +kernel) (pa_cons (pv 0) (pa_cons (pe_glob (v := .ref W.e_NoText) (by rfl) W.E_NoText.g rfl) pa_nil)))) (pss_one (ps_expr (pe_bm PySem.F.plainAttrs_list PySem.F.slot_list_append PySem.F.type_list_append mt_append (pv 1) (pa_cons pe_str pa_nil)))) pss_nil)
      (pss_cons (ps_if (pt_val (pe_callB (call_isH (K := K) List.mem_cons_self W.x_NoPlace hz hf) (by rfl) W.z_isinstance (by decide +kernel) (pa_cons (pv 0) (pa_cons (pe_glob (v := .ref W.e_TooLong) (by rfl) W.E_TooLong.g rfl) pa_nil)))) (pss_one (ps_expr (pe_bm PySem.F.plainAttrs_list PySem.F.slot_list_append PySem.F.type_list_append mt_append (pv 1) (pa_cons pe_str pa_nil)))) pss_nil)
      (pss_cons (ps_if (pt_val (pe_callB (call_isH (K := K) List.mem_cons_self W.x_NoPlace hz hf) (by rfl) W.z_isinstance (by decide +kernel) (pa_cons (pv 0) (pa_cons (pe_glob (v := .ref W.e_TooMany) (by rfl) W.E_TooMany.g rfl) pa_nil)))) (pss_one (ps_expr (pe_bm PySem.F.plainAttrs_list PySem.F.slot_list_append PySem.F.type_list_append mt_append (pv 1) (pa_cons pe_str pa_nil)))) pss_nil)
      (pss_cons (ps_if (pt_val (pe_callB (call_isH (K := K) List.mem_cons_self W.x_NoPlace hz hf) (by rfl) W.z_isinstance (by decide +kernel) (pa_cons (pv 0) (pa_cons (pe_glob (v := .ref W.e_NoNote) (by rfl) W.E_NoNote.g rfl) pa_nil)))) (pss_one (ps_expr (pe_bm PySem.F.plainAttrs_list PySem.F.slot_list_append PySem.F.type_list_append mt_append (pv 1) (pa_cons pe_str pa_nil)))) pss_nil)
      (pss_one (ps_ret (pe_tup (pa_cons (y_join (K := K) pe_str (pv 1)) (pa_cons (pe_callB (call_isH (K := K) List.mem_cons_self W.x_NoPlace hz hf) (by rfl) W.z_isinstance (by decide +kernel) (pa_cons (pv 0) (pa_cons (pe_bltn (v := .ty "ValueError") (by rfl) W.z_ValueError (by decide +kernel) rfl) pa_nil))) pa_nil)))))))))))))), ?_⟩
      walk_at "ev"
      intro l hl
      refine isE_of (W.E_NoSize.kit W.s_NoPlace_NoSize (fun e => absurd e W.u_NoPlace_NoSize)) ?_
      walk_at "ev"
      refine isE_of (W.E_NoName.kit W.s_NoPlace_NoName (fun e => absurd e W.u_NoPlace_NoName)) ?_
      walk_at "ev"
      refine isE_of (W.E_NotThere.kit W.s_NoPlace_NotThere (fun e => absurd e W.u_NoPlace_NotThere)) ?_
      walk_at "ev"
      refine isE_of (W.E_NoPlace.kit W.s_NoPlace_NoPlace (fun _ => rfl)) ?_
      walk_at "ev"
      refine ⟨.inl ⟨rfl, _, SqL.of upd_same⟩, l, _, _, rfl, rfl, upd_same, by rw [line_eq]; decide, ?_⟩
      rw [upd_upd]
      walk_at "ev"
      refine isE_of (W.E_NoText.kit W.s_NoPlace_NoText (fun e => absurd e W.u_NoPlace_NoText)) ?_
      walk_at "ev"
      refine isE_of (W.E_TooLong.kit W.s_NoPlace_TooLong (fun e => absurd e W.u_NoPlace_TooLong)) ?_
      walk_at "ev"
      refine isE_of (W.E_TooMany.kit W.s_NoPlace_TooMany (fun e => absurd e W.u_NoPlace_TooMany)) ?_
      walk_at "ev"
      refine isE_of (W.E_NoNote.kit W.s_NoPlace_NoNote (fun e => absurd e W.u_NoPlace_NoNote)) ?_
      walk_at "ev"
      refine ⟨[_], .inl (SqL.of upd_same), ?_, ?_⟩
      · decide +kernel
      rw [join_one]
      walk_at "ev"
      refine isE_ty W.v_NoPlace ?_
      walk_at "ev"
      intro p hp
      exact q _ p (same_upd (same_grow (Same.refl H) hl) hp) (same_grow (Same.refl H) hl |>.free hp) upd_same
    · refine ⟨_, (pss_cons (ps_set (i := 1) sc__law_word_of.nd rfl (by first | exact Or.inl rfl | exact Or.inr rfl) (pe_lst pa_nil))
      (pss_cons (ps_if (pt_val (pe_callB (call_isH (K := K) List.mem_cons_self W.x_NoText hz hf) (by rfl) W.z_isinstance (by decide +kernel) (pa_cons (pv 0) (pa_cons (pe_glob (v := .ref W.e_NoSize) (by rfl) W.E_NoSize.g rfl) pa_nil)))) (pss_one (ps_expr (pe_bm PySem.F.plainAttrs_list PySem.F.slot_list_append PySem.F.type_list_append mt_append (pv 1) (pa_cons pe_str pa_nil)))) pss_nil)
      (pss_cons (ps_if (pt_val (pe_callB (call_isH (K := K) List.mem_cons_self W.x_NoText hz hf) (by rfl) W.z_isinstance (by decide +kernel) (pa_cons (pv 0) (pa_cons (pe_glob (v := .ref W.e_NoName) (by rfl) W.E_NoName.g rfl) pa_nil)))) (pss_one (ps_expr (pe_bm PySem.F.plainAttrs_list PySem.F.slot_list_append PySem.F.type_list_append mt_append (pv 1) (pa_cons pe_str pa_nil)))) pss_nil)
      (pss_cons (ps_if (pt_val (pe_callB (call_isH (K := K) List.mem_cons_self W.x_NoText hz hf) (by rfl) W.z_isinstance (by decide +kernel) (pa_cons (pv 0) (pa_cons (pe_glob (v := .ref W.e_NotThere) (by rfl) W.E_NotThere.g rfl) pa_nil)))) (pss_one (ps_expr (pe_bm PySem.F.plainAttrs_list PySem.F.slot_list_append PySem.F.type_list_append mt_append (pv 1) (pa_cons pe_str pa_nil)))) pss_nil)
      (pss_cons (ps_if (pt_val (pe_callB (call_isH (K := K) List.mem_cons_self W.x_NoText hz hf) (by rfl) W.z_isinstance (by decide +kernel) (pa_cons (pv 0) (pa_cons (pe_glob (v := .ref W.e_NoPlace) (by rfl) W.E_NoPlace.g rfl) pa_nil)))) (pss_one (ps_expr (pe_bm PySem.F.plainAttrs_list PySem.F.slot_list_append PySem.F.type_list_append mt_append (pv 1) (pa_cons pe_str pa_nil)))) pss_nil)
      (pss_cons (ps_if (pt_val (pe_callB (call_isH (K := K) List.mem_cons_self W.x_NoText hz hf) (by rfl) W.z_isinstance (by decide +kernel) (pa_cons (pv 0) (pa_cons (pe_glob (v := .ref W.e_NoText) (by rfl) W.E_NoText.g rfl) pa_nil)))) (pss_one (ps_expr (pe_bm PySem.F.plainAttrs_list PySem.F.slot_list_append PySem.F.type_list_append mt_append (pv 1) (pa_cons pe_str pa_nil)))) pss_nil)
      (pss_cons (ps_if (pt_val (pe_callB (call_isH (K := K) List.mem_cons_self W.x_NoText hz hf) (by rfl) W.z_isinstance (by decide +kernel) (pa_cons (pv 0) (pa_cons (pe_glob (v := .ref W.e_TooLong) (by rfl) W.E_TooLong.g rfl) pa_nil)))) (pss_one (ps_expr (pe_bm PySem.F.plainAttrs_list PySem.F.slot_list_append PySem.F.type_list_append mt_append (pv 1) (pa_cons pe_str pa_nil)))) pss_nil)
      (pss_cons (ps_if (pt_val (pe_callB (call_isH (K := K) List.mem_cons_self W.x_NoText hz hf) (by rfl) W.z_isinstance (by decide +kernel) (pa_cons (pv 0) (pa_cons (pe_glob (v := .ref W.e_TooMany) (by rfl) W.E_TooMany.g rfl) pa_nil)))) (pss_one (ps_expr (pe_bm PySem.F.plainAttrs_list PySem.F.slot_list_append PySem.F.type_list_append mt_append (pv 1) (pa_cons pe_str pa_nil)))) pss_nil)
      (pss_cons (ps_if (pt_val (pe_callB (call_isH (K := K) List.mem_cons_self W.x_NoText hz hf) (by rfl) W.z_isinstance (by decide +kernel) (pa_cons (pv 0) (pa_cons (pe_glob (v := .ref W.e_NoNote) (by rfl) W.E_NoNote.g rfl) pa_nil)))) (pss_one (ps_expr (pe_bm PySem.F.plainAttrs_list PySem.F.slot_list_append PySem.F.type_list_append mt_append (pv 1) (pa_cons pe_str pa_nil)))) pss_nil)
      (pss_one (ps_ret (pe_tup (pa_cons (y_join (K := K) pe_str (pv 1)) (pa_cons (pe_callB (call_isH (K := K) List.mem_cons_self W.x_NoText hz hf) (by rfl) W.z_isinstance (by decide +kernel) (pa_cons (pv 0) (pa_cons (pe_bltn (v := .ty "ValueError") (by rfl) W.z_ValueError (by decide +kernel) rfl) pa_nil))) pa_nil)))))))))))))), ?_⟩
      walk_at "ev"
      intro l hl
      refine isE_of (W.E_NoSize.kit W.s_NoText_NoSize (fun e => absurd e W.u_NoText_NoSize)) ?_
      walk_at "ev"
      refine isE_of (W.E_NoName.kit W.s_NoText_NoName (fun e => absurd e W.u_NoText_NoName)) ?_
      walk_at "ev"
      refine isE_of (W.E_NotThere.kit W.s_NoText_NotThere (fun e => absurd e W.u_NoText_NotThere)) ?_
      walk_at "ev"
      refine isE_of (W.E_NoPlace.kit W.s_NoText_NoPlace (fun e => absurd e W.u_NoText_NoPlace)) ?_
      walk_at "ev"
      refine isE_of (W.E_NoText.kit W.s_NoText_NoText (fun _ => rfl)) ?_
      walk_at "ev"
      refine ⟨.inl ⟨rfl, _, SqL.of upd_same⟩, l, _, _, rfl, rfl, upd_same, by rw [line_eq]; decide, ?_⟩
      rw [upd_upd]
      walk_at "ev"
      refine isE_of (W.E_TooLong.kit W.s_NoText_TooLong (fun e => absurd e W.u_NoText_TooLong)) ?_
      walk_at "ev"
      refine isE_of (W.E_TooMany.kit W.s_NoText_TooMany (fun e => absurd e W.u_NoText_TooMany)) ?_
      walk_at "ev"
      refine isE_of (W.E_NoNote.kit W.s_NoText_NoNote (fun e => absurd e W.u_NoText_NoNote)) ?_
      walk_at "ev"
      refine ⟨[_], .inl (SqL.of upd_same), ?_, ?_⟩
      · decide +kernel
      rw [join_one]
      walk_at "ev"
      refine isE_ty W.v_NoText ?_
      walk_at "ev"
      intro p hp
      exact q _ p (same_upd (same_grow (Same.refl H) hl) hp) (same_grow (Same.refl H) hl |>.free hp) upd_same
    · refine ⟨_, (pss_cons (ps_set (i := 1) sc__law_word_of.nd rfl (by first | exact Or.inl rfl | exact Or.inr rfl) (pe_lst pa_nil))
      (pss_cons (ps_if (pt_val (pe_callB (call_isH (K := K) List.mem_cons_self W.x_TooLong hz hf) (by rfl) W.z_isinstance (by decide +kernel) (pa_cons (pv 0) (pa_cons (pe_glob (v := .ref W.e_NoSize) (by rfl) W.E_NoSize.g rfl) pa_nil)))) (pss_one (ps_expr (pe_bm PySem.F.plainAttrs_list PySem.F.slot_list_append PySem.F.type_list_append mt_append (pv 1) (pa_cons pe_str pa_nil)))) pss_nil)
      (pss_cons (ps_if (pt_val (pe_callB (call_isH (K := K) List.mem_cons_self W.x_TooLong hz hf) (by rfl) W.z_isinstance (by decide +kernel) (pa_cons (pv 0) (pa_cons (pe_glob (v := .ref W.e_NoName) (by rfl) W.E_NoName.g rfl) pa_nil)))) (pss_one (ps_expr (pe_bm PySem.F.plainAttrs_list PySem.F.slot_list_append PySem.F.type_list_append mt_append (pv 1) (pa_cons pe_str pa_nil)))) pss_nil)
      (pss_cons (ps_if (pt_val (pe_callB (call_isH (K := K) List.mem_cons_self W.x_TooLong hz hf) (by rfl) W.z_isinstance (by decide +kernel) (pa_cons (pv 0) (pa_cons (pe_glob (v := .ref W.e_NotThere) (by rfl) W.E_NotThere.g rfl) pa_nil)))) (pss_one (ps_expr (pe_bm PySem.F.plainAttrs_list PySem.F.slot_list_append PySem.F.type_list_append mt_append (pv 1) (pa_cons pe_str pa_nil)))) pss_nil)
      (pss_cons (ps_if (pt_val (pe_callB (call_isH (K := K) List.mem_cons_self W.x_TooLong hz hf) (by rfl) W.z_isinstance (by decide +kernel) (pa_cons (pv 0) (pa_cons (pe_glob (v := .ref W.e_NoPlace) (by rfl) W.E_NoPlace.g rfl) pa_nil)))) (pss_one (ps_expr (pe_bm PySem.F.plainAttrs_list PySem.F.slot_list_append PySem.F.type_list_append mt_append (pv 1) (pa_cons pe_str pa_nil)))) pss_nil)
      (pss_cons (ps_if (pt_val (pe_callB (call_isH (K := K) List.mem_cons_self W.x_TooLong hz hf) (by rfl) W.z_isinstance (by decide +kernel) (pa_cons (pv 0) (pa_cons (pe_glob (v := .ref W.e_NoText) (by rfl) W.E_NoText.g rfl) pa_nil)))) (pss_one (ps_expr (pe_bm PySem.F.plainAttrs_list PySem.F.slot_list_append PySem.F.type_list_append mt_append (pv 1) (pa_cons pe_str pa_nil)))) pss_nil)
      (pss_cons (ps_if (pt_val (pe_callB (call_isH (K := K) List.mem_cons_self W.x_TooLong hz hf) (by rfl) W.z_isinstance (by decide +kernel) (pa_cons (pv 0) (pa_cons (pe_glob (v := .ref W.e_TooLong) (by rfl) W.E_TooLong.g rfl) pa_nil)))) (pss_one (ps_expr (pe_bm PySem.F.plainAttrs_list PySem.F.slot_list_append PySem.F.type_list_append mt_append (pv 1) (pa_cons pe_str pa_nil)))) pss_nil)
      (pss_cons (ps_if (pt_val (pe_callB (call_isH (K := K) List.mem_cons_self W.x_TooLong hz hf) (by rfl) W.z_isinstance (by decide +kernel) (pa_cons (pv 0) (pa_cons (pe_glob (v := .ref W.e_TooMany) (by rfl) W.E_TooMany.g rfl) pa_nil)))) (pss_one (ps_expr (pe_bm PySem.F.plainAttrs_list PySem.F.slot_list_append PySem.F.type_list_append mt_append (pv 1) (pa_cons pe_str pa_nil)))) pss_nil)
      (pss_cons (ps_if (pt_val (pe_callB (call_isH (K := K) List.mem_cons_self W.x_TooLong hz hf) (by rfl) W.z_isinstance (by decide +kernel) (pa_cons (pv 0) (pa_cons (pe_glob (v := .ref W.e_NoNote) (by rfl) W.E_NoNote.g rfl) pa_nil)))) (pss_one (ps_expr (pe_bm PySem.F.plainAttrs_list PySem.F.slot_list_append PySem.F.type_list_append mt_append (pv 1) (pa_cons pe_str pa_nil)))) pss_nil)
      (pss_one (ps_ret (pe_tup (pa_cons (y_join (K := K) pe_str (pv 1)) (pa_cons (pe_callB (call_isH (K := K) List.mem_cons_self W.x_TooLong hz hf) (by rfl) W.z_isinstance (by decide +kernel) (pa_cons (pv 0) (pa_cons (pe_bltn (v := .ty "ValueError") (by rfl) W.z_ValueError (by decide +kernel) rfl) pa_nil))) pa_nil)))))))))))))), ?_⟩
      walk_at "ev"
      intro l hl
      refine isE_of (W.E_NoSize.kit W.s_TooLong_NoSize (fun e => absurd e W.u_TooLong_NoSize)) ?_
      walk_at "ev"
      refine isE_of (W.E_NoName.kit W.s_TooLong_NoName (fun e => absurd e W.u_TooLong_NoName)) ?_
      walk_at "ev"
      refine isE_of (W.E_NotThere.kit W.s_TooLong_NotThere (fun e => absurd e W.u_TooLong_NotThere)) ?_
      walk_at "ev"
      refine isE_of (W.E_NoPlace.kit W.s_TooLong_NoPlace (fun e => absurd e W.u_TooLong_NoPlace)) ?_
      walk_at "ev"
      refine isE_of (W.E_NoText.kit W.s_TooLong_NoText (fun e => absurd e W.u_TooLong_NoText)) ?_
      walk_at "ev"
      refine isE_of (W.E_TooLong.kit W.s_TooLong_TooLong (fun _ => rfl)) ?_
      walk_at "ev"
      refine ⟨.inl ⟨rfl, _, SqL.of upd_same⟩, l, _, _, rfl, rfl, upd_same, by rw [line_eq]; decide, ?_⟩
      rw [upd_upd]
      walk_at "ev"
      refine isE_of (W.E_TooMany.kit W.s_TooLong_TooMany (fun e => absurd e W.u_TooLong_TooMany)) ?_
      walk_at "ev"
      refine isE_of (W.E_NoNote.kit W.s_TooLong_NoNote (fun e => absurd e W.u_TooLong_NoNote)) ?_
      walk_at "ev"
      refine ⟨[_], .inl (SqL.of upd_same), ?_, ?_⟩
      · decide +kernel
      rw [join_one]
      walk_at "ev"
      refine isE_ty W.v_TooLong ?_
      walk_at "ev"
      intro p hp
      exact q _ p (same_upd (same_grow (Same.refl H) hl) hp) (same_grow (Same.refl H) hl |>.free hp) upd_same
    · refine ⟨_, (pss_cons (ps_set (i := 1) sc__law_word_of.nd rfl (by first | exact Or.inl rfl | exact Or.inr rfl) (pe_lst pa_nil))
      (pss_cons (ps_if (pt_val (pe_callB (call_isH (K := K) List.mem_cons_self W.x_TooMany hz hf) (by rfl) W.z_isinstance (by decide +kernel) (pa_cons (pv 0) (pa_cons (pe_glob (v := .ref W.e_NoSize) (by rfl) W.E_NoSize.g rfl) pa_nil)))) (pss_one (ps_expr (pe_bm PySem.F.plainAttrs_list PySem.F.slot_list_append PySem.F.type_list_append mt_append (pv 1) (pa_cons pe_str pa_nil)))) pss_nil)
      (pss_cons (ps_if (pt_val (pe_callB (call_isH (K := K) List.mem_cons_self W.x_TooMany hz hf) (by rfl) W.z_isinstance (by decide +kernel) (pa_cons (pv 0) (pa_cons (pe_glob (v := .ref W.e_NoName) (by rfl) W.E_NoName.g rfl) pa_nil)))) (pss_one (ps_expr (pe_bm PySem.F.plainAttrs_list PySem.F.slot_list_append PySem.F.type_list_append mt_append (pv 1) (pa_cons pe_str pa_nil)))) pss_nil)
      (pss_cons (ps_if (pt_val (pe_callB (call_isH (K := K) List.mem_cons_self W.x_TooMany hz hf) (by rfl) W.z_isinstance (by decide +kernel) (pa_cons (pv 0) (pa_cons (pe_glob (v := .ref W.e_NotThere) (by rfl) W.E_NotThere.g rfl) pa_nil)))) (pss_one (ps_expr (pe_bm PySem.F.plainAttrs_list PySem.F.slot_list_append PySem.F.type_list_append mt_append (pv 1) (pa_cons pe_str pa_nil)))) pss_nil)
      (pss_cons (ps_if (pt_val (pe_callB (call_isH (K := K) List.mem_cons_self W.x_TooMany hz hf) (by rfl) W.z_isinstance (by decide +kernel) (pa_cons (pv 0) (pa_cons (pe_glob (v := .ref W.e_NoPlace) (by rfl) W.E_NoPlace.g rfl) pa_nil)))) (pss_one (ps_expr (pe_bm PySem.F.plainAttrs_list PySem.F.slot_list_append PySem.F.type_list_append mt_append (pv 1) (pa_cons pe_str pa_nil)))) pss_nil)
      (pss_cons (ps_if (pt_val (pe_callB (call_isH (K := K) List.mem_cons_self W.x_TooMany hz hf) (by rfl) W.z_isinstance (by decide +kernel) (pa_cons (pv 0) (pa_cons (pe_glob (v := .ref W.e_NoText) (by rfl) W.E_NoText.g rfl) pa_nil)))) (pss_one (ps_expr (pe_bm PySem.F.plainAttrs_list PySem.F.slot_list_append PySem.F.type_list_append mt_append (pv 1) (pa_cons pe_str pa_nil)))) pss_nil)
      (pss_cons (ps_if (pt_val (pe_callB (call_isH (K := K) List.mem_cons_self W.x_TooMany hz hf) (by rfl) W.z_isinstance (by decide +kernel) (pa_cons (pv 0) (pa_cons (pe_glob (v := .ref W.e_TooLong) (by rfl) W.E_TooLong.g rfl) pa_nil)))) (pss_one (ps_expr (pe_bm PySem.F.plainAttrs_list PySem.F.slot_list_append PySem.F.type_list_append mt_append (pv 1) (pa_cons pe_str pa_nil)))) pss_nil)
      (pss_cons (ps_if (pt_val (pe_callB (call_isH (K := K) List.mem_cons_self W.x_TooMany hz hf) (by rfl) W.z_isinstance (by decide +kernel) (pa_cons (pv 0) (pa_cons (pe_glob (v := .ref W.e_TooMany) (by rfl) W.E_TooMany.g rfl) pa_nil)))) (pss_one (ps_expr (pe_bm PySem.F.plainAttrs_list PySem.F.slot_list_append PySem.F.type_list_append mt_append (pv 1) (pa_cons pe_str pa_nil)))) pss_nil)
      (pss_cons (ps_if (pt_val (pe_callB (call_isH (K := K) List.mem_cons_self W.x_TooMany hz hf) (by rfl) W.z_isinstance (by decide +kernel) (pa_cons (pv 0) (pa_cons (pe_glob (v := .ref W.e_NoNote) (by rfl) W.E_NoNote.g rfl) pa_nil)))) (pss_one (ps_expr (pe_bm PySem.F.plainAttrs_list PySem.F.slot_list_append PySem.F.type_list_append mt_append (pv 1) (pa_cons pe_str pa_nil)))) pss_nil)
      (pss_one (ps_ret (pe_tup (pa_cons (y_join (K := K) pe_str (pv 1)) (pa_cons (pe_callB (call_isH (K := K) List.mem_cons_self W.x_TooMany hz hf) (by rfl) W.z_isinstance (by decide +kernel) (pa_cons (pv 0) (pa_cons (pe_bltn (v := .ty "ValueError") (by rfl) W.z_ValueError (by decide +kernel) rfl) pa_nil))) pa_nil)))))))))))))), ?_⟩
      walk_at "ev"
      intro l hl
      refine isE_of (W.E_NoSize.kit W.s_TooMany_NoSize (fun e => absurd e W.u_TooMany_NoSize)) ?_
      walk_at "ev"
      refine isE_of (W.E_NoName.kit W.s_TooMany_NoName (fun e => absurd e W.u_TooMany_NoName)) ?_
      walk_at "ev"
      refine isE_of (W.E_NotThere.kit W.s_TooMany_NotThere (fun e => absurd e W.u_TooMany_NotThere)) ?_
      walk_at "ev"
      refine isE_of (W.E_NoPlace.kit W.s_TooMany_NoPlace (fun e => absurd e W.u_TooMany_NoPlace)) ?_
      walk_at "ev"
      refine isE_of (W.E_NoText.kit W.s_TooMany_NoText (fun e => absurd e W.u_TooMany_NoText)) ?_
      walk_at "ev"
      refine isE_of (W.E_TooLong.kit W.s_TooMany_TooLong (fun e => absurd e W.u_TooMany_TooLong)) ?_
      walk_at "ev"
      refine isE_of (W.E_TooMany.kit W.s_TooMany_TooMany (fun _ => rfl)) ?_
      walk_at "ev"
      refine ⟨.inl ⟨rfl, _, SqL.of upd_same⟩, l, _, _, rfl, rfl, upd_same, by rw [line_eq]; decide, ?_⟩
      rw [upd_upd]
      walk_at "ev"
      refine isE_of (W.E_NoNote.kit W.s_TooMany_NoNote (fun e => absurd e W.u_TooMany_NoNote)) ?_
      walk_at "ev"
      refine ⟨[_], .inl (SqL.of upd_same), ?_, ?_⟩
      · decide +kernel
      rw [join_one]
      walk_at "ev"
      refine isE_ty W.v_TooMany ?_
      walk_at "ev"
      intro p hp
      exact q _ p (same_upd (same_grow (Same.refl H) hl) hp) (same_grow (Same.refl H) hl |>.free hp) upd_same
def sp__law_answer {K : PySem.W.Frag} {mg : Str → Option Value} {base : Heap} (W : Wd K mg base) : Sp := fun vs H Q _ => ∃ r M nm way size, vs = [.ref r.k, .int ((way : Nat) : Int), txtV nm, .int ((size : Nat) : Int)] ∧ ShAt W.c_Shelf W.c_Stock H r M ∧ M.Ok ∧ goodN nm ∧ M.wk.length < 900000 ∧ M.S.its.length < 900000 ∧ M.rows.length ≤ 100 ∧ GxR.TabG H W.P_is_name ∧ GxR.TabG H W.P_is_text ∧ way ≤ 42 ∧ Ans9 H r M nm way size W.c_Shelf W.c_Stock Q
theorem ok__law_answer (W : Wd K mg base) : FnOk P w K mg base CX0 11 W.f__law_answer W.d__law_answer ["_law_shelf", "_law_way", "_law_name", "_law_size"] (sp__law_answer W) := by
  refine W.F__law_answer.ok sc__law_answer (fun vs H Q E h => ?_) (fun cdv A outer s H vs Q E hr h => ?_)
  · obtain ⟨r, M, nm, way, size, rfl, hS, mok, ng, l1, l2, l3, t1, t2, w2, hc⟩ := h
    rfl
  · obtain ⟨r, M, nm, way, size, rfl, hS, mok, ng, l1, l2, l3, t1, t2, w2, hc⟩ := h
    refine ⟨_, (pss_one (ps_try_as (i := 4) (Wout := fun _ _ _ _ => False) rfl rfl sc__law_answer.nd rfl rfl ⟨rfl, by decide, .inl W.E_ShelfError.g⟩ takes0 (fun W' pn' xe' tk' po' => (pss_one (ps_ret (pe_tup (pa_cons pe_str (pa_cons (pe_callS (E := (WE W')) (ok__law_call W) (hr.mono (by first | decide | omega)) (by rfl) W.m__law_call W.F__law_call.kp W.b__law_call (fun σ => passAt tk' σ) (pa_cons (pv 0) (pa_cons (pv 1) (pa_cons (pv 2) (pa_cons (pv 3) pa_nil))))) pa_nil)))))) (fun a oe cls d pn hz hf => (pss_one (ps_ret (pe_callE hz hf (ok__law_word_of W) (roomE hr (by first | decide | omega)) (List.mem_cons_self) (by rfl) W.m__law_word_of W.F__law_word_of.kp W.b__law_word_of (pa_cons (pv 4) pa_nil))))))), ?_⟩
    walk_at "ev"
    have ew : way ≠ 33 → way ≠ 42 → errW W (wayCls W way) (wordOf ((way : Nat) : Int)) := fun e1 e2 => by
      obtain rfl | rfl | rfl | rfl | rfl | rfl | rfl | rfl | rfl | rfl | rfl | rfl | rfl | rfl | rfl | rfl | rfl | rfl | rfl | rfl | rfl | rfl | rfl | rfl | rfl | rfl | rfl | rfl | rfl | rfl | rfl | rfl | rfl | rfl | rfl | rfl | rfl | rfl | rfl | rfl | rfl : way = 0 ∨ way = 1 ∨ way = 2 ∨ way = 3 ∨ way = 4 ∨ way = 5 ∨ way = 6 ∨ way = 7 ∨ way = 8 ∨ way = 9 ∨ way = 10 ∨ way = 11 ∨ way = 12 ∨ way = 13 ∨ way = 14 ∨ way = 15 ∨ way = 16 ∨ way = 17 ∨ way = 18 ∨ way = 19 ∨ way = 20 ∨ way = 21 ∨ way = 22 ∨ way = 23 ∨ way = 24 ∨ way = 25 ∨ way = 26 ∨ way = 27 ∨ way = 28 ∨ way = 29 ∨ way = 30 ∨ way = 31 ∨ way = 32 ∨ way = 34 ∨ way = 35 ∨ way = 36 ∨ way = 37 ∨ way = 38 ∨ way = 39 ∨ way = 40 ∨ way = 41 := by omega
      · exact err_NoSize W
      · exact err_NoSize W
      · exact err_NoSize W
      · exact err_NoSize W
      · exact err_NoSize W
      · exact err_NoSize W
      · exact err_NoName W
      · exact err_NoName W
      · exact err_NoName W
      · exact err_NoName W
      · exact err_NoName W
      · exact err_NoName W
      · exact err_NoName W
      · exact err_NoName W
      · exact err_NoText W
      · exact err_NoText W
      · exact err_TooLong W
      · exact err_NoText W
      · exact err_TooLong W
      · exact err_NoPlace W
      · exact err_NoPlace W
      · exact err_NoPlace W
      · exact err_NoPlace W
      · exact err_NoText W
      · exact err_NotThere W
      · exact err_NoName W
      · exact err_NotThere W
      · exact err_NotThere W
      · exact err_NotThere W
      · exact err_NotThere W
      · exact err_NoName W
      · exact err_NoPlace W
      · exact err_NoText W
      · exact err_NoName W
      · exact err_NoName W
      · exact err_NoName W
      · exact err_NoName W
      · exact err_NotThere W
      · exact err_NotThere W
      · exact err_NotThere W
      · exact err_NotThere W
    have no : ∀ {cls : Value} {wd : Str} {H' : Hp}, errW W cls wd → Fr [] H H' → (∀ p H2, H p = none → Fr [] H H2 → H2 p = some (.tup [.str wd, .bl true]) → Q (.ref p) H2) → wAs K (Value.ref W.e_ShelfError) 4 (fun a cls d => tRet (tCallE (sp__law_word_of W) a cls d (tCons (tVar 4) tNil))) (fun _ _ _ _ => False) { nx := fun _ H' => Q .non H', rt := Q } cls none [some (.ref r.k), some (.int ((way : Nat) : Int)), some (txtV nm), some (.int ((size : Nat) : Int)), none] H' := fun {cls wd H'} he f q2 => by
      rcases he with ⟨rfl, rfl⟩ | ⟨rfl, rfl⟩ | ⟨rfl, rfl⟩ | ⟨rfl, rfl⟩ | ⟨rfl, rfl⟩ | ⟨rfl, rfl⟩ | ⟨rfl, rfl⟩
      · refine wAs_of (W.E_ShelfError.exm W.s_NoSize_ShelfError) fun a ha => ?_
        walk_at "ev"
        exact ⟨rfl, rfl, _, err_NoSize W, fun H2 p s hp h => q2 p _ (f.live _ hp) (f.same s) h⟩
      · refine wAs_of (W.E_ShelfError.exm W.s_NoName_ShelfError) fun a ha => ?_
        walk_at "ev"
        exact ⟨rfl, rfl, _, err_NoName W, fun H2 p s hp h => q2 p _ (f.live _ hp) (f.same s) h⟩
      · refine wAs_of (W.E_ShelfError.exm W.s_NotThere_ShelfError) fun a ha => ?_
        walk_at "ev"
        exact ⟨rfl, rfl, _, err_NotThere W, fun H2 p s hp h => q2 p _ (f.live _ hp) (f.same s) h⟩
      · refine wAs_of (W.E_ShelfError.exm W.s_NoPlace_ShelfError) fun a ha => ?_
        walk_at "ev"
        exact ⟨rfl, rfl, _, err_NoPlace W, fun H2 p s hp h => q2 p _ (f.live _ hp) (f.same s) h⟩
      · refine wAs_of (W.E_ShelfError.exm W.s_NoText_ShelfError) fun a ha => ?_
        walk_at "ev"
        exact ⟨rfl, rfl, _, err_NoText W, fun H2 p s hp h => q2 p _ (f.live _ hp) (f.same s) h⟩
      · refine wAs_of (W.E_ShelfError.exm W.s_TooLong_ShelfError) fun a ha => ?_
        walk_at "ev"
        exact ⟨rfl, rfl, _, err_TooLong W, fun H2 p s hp h => q2 p _ (f.live _ hp) (f.same s) h⟩
      · refine wAs_of (W.E_ShelfError.exm W.s_TooMany_ShelfError) fun a ha => ?_
        walk_at "ev"
        exact ⟨rfl, rfl, _, err_TooMany W, fun H2 p s hp h => q2 p _ (f.live _ hp) (f.same s) h⟩
    refine ⟨r, M, nm, way, size, rfl, hS, mok, ng, l1, l2, l3, t1, t2, w2, ?_⟩
    obtain ⟨h1, h2, h3, h4, h5, h6, h7, q⟩ | ⟨h1, h2, q⟩ | ⟨h1, h2, h3, q⟩ | ⟨h1, h2, x, h3, h4, q⟩ := hc
    · exact .inl ⟨h1, h2, h3, h4, h5, h6, h7, fun H' f => no (ew h1 h2) f q⟩
    · exact .inr (.inl ⟨h1, h2, fun H' f => no (err_NotThere W) f q⟩)
    · exact .inr (.inr (.inl ⟨h1, h2, h3, fun H' f => no (err_TooMany W) f q⟩))
    · refine .inr (.inr (.inr ⟨h1, h2, x, h3, h4, fun p t H' hp hS' f' ht q2 hq2 => ?_⟩))
      exact q p q2 t _ hp (f'.live _ hq2) (hS'.same (same_new hq2)) (f'.new hq2) upd_same
def sp__law_many {K : PySem.W.Frag} {mg : Str → Option Value} {base : Heap} (W : Wd K mg base) : Sp := fun vs H Q _ => ∃ r M nm z, vs = [.ref r.k, txtV nm, txtV z] ∧ ShAt W.c_Shelf W.c_Stock H r M ∧ M.Ok ∧ goodN nm ∧ M.wk.length < 900000 ∧ M.S.its.length < 900000 ∧ GxR.TabG H W.P_is_name ∧ GxR.TabG H W.P_is_text ∧ z.all okS = true ∧ z.length ≤ 10000 ∧ (z.length ≤ 3000 → M.rows.length < 100 → ∀ a p H', H a = none → H p = none → ShAt W.c_Shelf W.c_Stock H' r (M.keep nm a (piecesOf z M.w M.r)) → Fr r.F H H' → H' p = some (.tup [.str "told", natV (M.given nm + 1)]) → Q (.ref p) H') ∧ (z.length ≤ 3000 → 100 ≤ M.rows.length → ∀ p H', H p = none → Fr [] H H' → H' p = some (.tup [.str "too many", .bl true]) → Q (.ref p) H') ∧ (3000 < z.length → ∀ p H', H p = none → Fr [] H H' → H' p = some (.tup [.str "too long", .bl true]) → Q (.ref p) H')
theorem ok__law_many (W : Wd K mg base) : FnOk P w K mg base CX0 8 W.f__law_many W.d__law_many ["_law_shelf", "_law_name", "_law_due"] (sp__law_many W) := by
  refine W.F__law_many.ok sc__law_many (fun vs H Q E h => ?_) (fun cdv A outer s H vs Q E hr h => ?_)
  · obtain ⟨r, M, nm, z, rfl, hS, mok, ng, l1, l2, t1, t2, hz, hzl, q1, q2, q3⟩ := h
    rfl
  · obtain ⟨r, M, nm, z, rfl, hS, mok, ng, l1, l2, t1, t2, hz, hzl, q1, q2, q3⟩ := h
    refine ⟨_, (pss_one (ps_try_as (i := 3) (Wout := fun _ _ _ _ => False) rfl rfl sc__law_many.nd rfl rfl ⟨rfl, by decide, .inl W.E_ShelfError.g⟩ takes0 (fun W' pn' xe' tk' po' => (pss_one (ps_ret (pe_tup (pa_cons pe_str (pa_cons (pe_methE (E := (WE W')) (pv 0) W.T_Shelf W.q_Shelf_keep (ok_Shelf_keep W) (hr.mono (by first | decide | omega)) W.b_Shelf_keep (fun σ => passAt tk' σ) (pa_cons (pv 1) (pa_cons (pv 2) pa_nil))) pa_nil)))))) (fun a oe cls d pn hz hf => (pss_one (ps_ret (pe_callE hz hf (ok__law_word_of W) (roomE hr (by first | decide | omega)) (List.mem_cons_self) (by rfl) W.m__law_word_of W.F__law_word_of.kp W.b__law_word_of (pa_cons (pv 3) pa_nil))))))), ?_⟩
    walk_at "ev"
    rw [sM W hS.ob (by decide +kernel)]
    have no : ∀ {cls : Value} {wd : Str} {H' : Hp}, errW W cls wd → Fr [] H H' → (∀ p H2, H p = none → Fr [] H H2 → H2 p = some (.tup [.str wd, .bl true]) → Q (.ref p) H2) → wAs K (Value.ref W.e_ShelfError) 3 (fun a cls d => tRet (tCallE (sp__law_word_of W) a cls d (tCons (tVar 3) tNil))) (fun _ _ _ _ => False) { nx := fun _ H' => Q .non H', rt := Q } cls none [some (.ref r.k), some (txtV nm), some (txtV z), none] H' := fun {cls wd H'} he f q2 => by
      rcases he with ⟨rfl, rfl⟩ | ⟨rfl, rfl⟩ | ⟨rfl, rfl⟩ | ⟨rfl, rfl⟩ | ⟨rfl, rfl⟩ | ⟨rfl, rfl⟩ | ⟨rfl, rfl⟩
      · refine wAs_of (W.E_ShelfError.exm W.s_NoSize_ShelfError) fun a ha => ?_
        walk_at "ev"
        exact ⟨rfl, rfl, _, err_NoSize W, fun H2 p s hp h => q2 p _ (f.live _ hp) (f.same s) h⟩
      · refine wAs_of (W.E_ShelfError.exm W.s_NoName_ShelfError) fun a ha => ?_
        walk_at "ev"
        exact ⟨rfl, rfl, _, err_NoName W, fun H2 p s hp h => q2 p _ (f.live _ hp) (f.same s) h⟩
      · refine wAs_of (W.E_ShelfError.exm W.s_NotThere_ShelfError) fun a ha => ?_
        walk_at "ev"
        exact ⟨rfl, rfl, _, err_NotThere W, fun H2 p s hp h => q2 p _ (f.live _ hp) (f.same s) h⟩
      · refine wAs_of (W.E_ShelfError.exm W.s_NoPlace_ShelfError) fun a ha => ?_
        walk_at "ev"
        exact ⟨rfl, rfl, _, err_NoPlace W, fun H2 p s hp h => q2 p _ (f.live _ hp) (f.same s) h⟩
      · refine wAs_of (W.E_ShelfError.exm W.s_NoText_ShelfError) fun a ha => ?_
        walk_at "ev"
        exact ⟨rfl, rfl, _, err_NoText W, fun H2 p s hp h => q2 p _ (f.live _ hp) (f.same s) h⟩
      · refine wAs_of (W.E_ShelfError.exm W.s_TooLong_ShelfError) fun a ha => ?_
        walk_at "ev"
        exact ⟨rfl, rfl, _, err_TooLong W, fun H2 p s hp h => q2 p _ (f.live _ hp) (f.same s) h⟩
      · refine wAs_of (W.E_ShelfError.exm W.s_TooMany_ShelfError) fun a ha => ?_
        walk_at "ev"
        exact ⟨rfl, rfl, _, err_TooMany W, fun H2 p s hp h => q2 p _ (f.live _ hp) (f.same s) h⟩
    have n12 := ng.1.2
    have nn := goodN_is ng
    have ht : isTx (txtV z) = true := by
      show (st z).cps.toList.all okS = true
      rw [codes_st]
      exact hz
    refine ⟨r, M, txtV nm, txtV z, rfl, hS, mok, by simp [tyN], .inl (by simp [tyN]), tx_len (by omega), tx_len (by omega), t1, t2, l1, l2, fun nm' y e1 e2 _ _ h1 h2 a H' ha hS' f' => ?_, (fun h => by rw [nn] at h; cases h), (fun _ h => by rw [ht] at h; cases h), fun _ y e _ h H' f => ?_, fun _ y e _ h1 h2 H' f => ?_⟩
    · cases tx_same e1
      cases tx_same e2
      walk_at "ev"
      intro p hp
      exact q1 h1 h2 a p _ ha (f'.live _ hp) (hS'.same (same_new hp)) (f'.new hp) upd_same
    · cases tx_same e
      exact no (err_TooLong W) f (q3 h)
    · cases tx_same e
      exact no (err_TooMany W) f (q2 h1 h2)
def sp_law (K : PySem.W.Frag) (P_is_text : Addr) (P_is_name : Addr) : Sp := fun vs H Q _ => ∃ (a : Addr) (ns : List Int), vs = [.ref a] ∧ SqL K H a (ns.map V.int) ∧ ns.length ≤ 63 ∧ (∀ H', Q (.bl true) H') ∧ H P_is_text = some (.tbl #[]) ∧ H P_is_name = some (.tbl #[])
theorem ok_law (W : Wd K mg base) : FnOk P w K mg base (L2.CX P w) 12 W.f_law W.d_law ["_law_script"] (sp_law K W.P_is_text W.P_is_name) := by
  refine W.F_law.okX sc_law (fun vs H Q E h => ?_) (fun cdv A outer s H vs Q E hr h => ?_)
  · obtain ⟨a, ns, rfl, hs, hl, q, t1, t2⟩ := h
    rfl
  · obtain ⟨a, ns, rfl, hs, hl, q, t1, t2⟩ := h
    refine ⟨_, (pss_cons (ps_set (i := 1) sc_law.nd rfl (by first | exact Or.inl rfl | exact Or.inr rfl) (pe_makeE (E := (WE (fun cls d _ H => E cls d H))) W.k_Shelf (ok_Shelf___init__ W) (hr.mono (by first | decide | omega)) (by rfl) W.g_Shelf W.b_Shelf___init__ (fun σ => passAt (takes_of rfl rfl rfl rfl) σ) (pa_cons (pe_callS (E := (fun _ => E0)) (ok__law_width_by W) (hr.mono (by first | decide | omega)) (by rfl) W.m__law_width_by W.F__law_width_by.kp W.b__law_width_by (fun _ => pass0S) (pa_cons (pe_callS (E := (fun _ => E0)) (ok__law_cell_at W) (hr.mono (by first | decide | omega)) (by rfl) W.m__law_cell_at W.F__law_cell_at.kp W.b__law_cell_at (fun _ => pass0S) (pa_cons (pv 0) (pa_cons pe_int pa_nil))) pa_nil)) (pa_cons (pe_callS (E := (fun _ => E0)) (ok__law_reach_by W) (hr.mono (by first | decide | omega)) (by rfl) W.m__law_reach_by W.F__law_reach_by.kp W.b__law_reach_by (fun _ => pass0S) (pa_cons (pe_callS (E := (fun _ => E0)) (ok__law_cell_at W) (hr.mono (by first | decide | omega)) (by rfl) W.m__law_cell_at W.F__law_cell_at.kp W.b__law_cell_at (fun _ => pass0S) (pa_cons (pv 0) (pa_cons pe_int pa_nil))) pa_nil)) pa_nil))))
      (pss_cons (ps_set (i := 2) sc_law.nd rfl (by first | exact Or.inl rfl | exact Or.inr rfl) (pe_callS (E := (fun _ => E0)) (ok__law_names_by W) (hr.mono (by first | decide | omega)) (by rfl) W.m__law_names_by W.F__law_names_by.kp W.b__law_names_by (fun _ => pass0S) (pa_cons (pe_callS (E := (fun _ => E0)) (ok__law_cell_at W) (hr.mono (by first | decide | omega)) (by rfl) W.m__law_cell_at W.F__law_cell_at.kp W.b__law_cell_at (fun _ => pass0S) (pa_cons (pv 0) (pa_cons pe_int pa_nil))) pa_nil)))
      (pss_cons (ps_set (i := 3) sc_law.nd rfl (by first | exact Or.inl rfl | exact Or.inr rfl) (pe_ix (y_ix (K := K)) (pv 2) pe_int (fun _ _ => rfl)))
      (pss_cons (ps_set (i := 4) sc_law.nd rfl (by first | exact Or.inl rfl | exact Or.inr rfl) (pe_callS (E := (fun _ => E0)) (ok__law_text_by W) (hr.mono (by first | decide | omega)) (by rfl) W.m__law_text_by W.F__law_text_by.kp W.b__law_text_by (fun _ => pass0S) (pa_cons (pe_callS (E := (fun _ => E0)) (ok__law_cell_at W) (hr.mono (by first | decide | omega)) (by rfl) W.m__law_cell_at W.F__law_cell_at.kp W.b__law_cell_at (fun _ => pass0S) (pa_cons (pv 0) (pa_cons pe_int pa_nil))) (pa_cons (pe_op y_mod (pe_callS (E := (fun _ => E0)) (ok__law_cell_at W) (hr.mono (by first | decide | omega)) (by rfl) W.m__law_cell_at W.F__law_cell_at.kp W.b__law_cell_at (fun _ => pass0S) (pa_cons (pv 0) (pa_cons pe_int pa_nil))) pe_int) pa_nil))))
      (pss_cons (ps_set (i := 5) sc_law.nd rfl (by first | exact Or.inl rfl | exact Or.inr rfl) (pe_cmpR (y_eq (K := K) hr.units) (pe_op y_mod (pe_callS (E := (fun _ => E0)) (ok__law_cell_at W) (hr.mono (by first | decide | omega)) (by rfl) W.m__law_cell_at W.F__law_cell_at.kp W.b__law_cell_at (fun _ => pass0S) (pa_cons (pv 0) (pa_cons pe_int pa_nil))) pe_int) pe_int (nomark _)))
      (pss_cons (ps_for (passes_of rfl) rfl (pi_range1 (by rfl) W.z_range (pa_cons (pe_ix (y_ix (K := K)) (pe_lst (pa_cons pe_int (pa_cons pe_int pa_nil))) (pe_callTy y_int1 (by rfl) W.z_int (by decide +kernel) (pa_cons (pv 5) pa_nil)) (fun _ _ => rfl)) pa_nil)) (pg_name (i := 6) sc_law.nd rfl (by first | exact Or.inl rfl | exact Or.inr rfl)) (pss_one (ps_expr (pe_methE (E := (WE (fun cls d _ H => E cls d H))) (pv 1) W.T_Shelf W.q_Shelf_keep (ok_Shelf_keep W) (hr.mono (by first | decide | omega)) W.b_Shelf_keep (fun σ => passAt (takes_of rfl rfl rfl rfl) σ) (pa_cons (pe_ix (y_ix (K := K)) (pv 2) (pe_op y_mod (pv 6) pe_int) (fun _ _ => rfl)) (pa_cons (pv 4) pa_nil))))))
      (pss_cons (ps_set (i := 7) sc_law.nd rfl (by first | exact Or.inl rfl | exact Or.inr rfl) (pe_ix (y_ix (K := K)) (pe_lst (pa_cons (pe_op y_mod (pe_callS (E := (fun _ => E0)) (ok__law_cell_at W) (hr.mono (by first | decide | omega)) (by rfl) W.m__law_cell_at W.F__law_cell_at.kp W.b__law_cell_at (fun _ => pass0S) (pa_cons (pv 0) (pa_cons pe_int pa_nil))) pe_int) (pa_cons (pe_op (y_add (K := K)) pe_int (pe_op y_mod (pe_op y_fdiv (pe_callS (E := (fun _ => E0)) (ok__law_cell_at W) (hr.mono (by first | decide | omega)) (by rfl) W.m__law_cell_at W.F__law_cell_at.kp W.b__law_cell_at (fun _ => pass0S) (pa_cons (pv 0) (pa_cons pe_int pa_nil))) pe_int) pe_int)) pa_nil))) (pe_callTy y_int1 (by rfl) W.z_int (by decide +kernel) (pa_cons (pe_cmpR y_gt (pe_op y_mod (pe_callS (E := (fun _ => E0)) (ok__law_cell_at W) (hr.mono (by first | decide | omega)) (by rfl) W.m__law_cell_at W.F__law_cell_at.kp W.b__law_cell_at (fun _ => pass0S) (pa_cons (pv 0) (pa_cons pe_int pa_nil))) pe_int) pe_int (nomark _)) pa_nil)) (fun _ _ => rfl)))
      (pss_cons (ps_set (i := 8) sc_law.nd rfl (by first | exact Or.inl rfl | exact Or.inr rfl) (pe_callS (E := (WE (fun cls d _ H => E cls d H))) (ok__law_held W) (hr.mono (by first | decide | omega)) (by rfl) W.m__law_held W.F__law_held.kp W.b__law_held (fun σ => passAt (takes_of rfl rfl rfl rfl) σ) (pa_cons (pv 1) (pa_cons (pv 3) pa_nil))))
      (pss_cons (ps_set (i := 9) sc_law.nd rfl (by first | exact Or.inl rfl | exact Or.inr rfl) (pe_tup (pa_cons (pe_callS (E := (fun _ => E0)) (ok__law_word W) (hr.mono (by first | decide | omega)) (by rfl) W.m__law_word W.F__law_word.kp W.b__law_word (fun _ => pass0S) (pa_cons (pv 7) pa_nil)) (pa_cons pe_bl pa_nil))))
      (pss_cons (ps_for (passes_of rfl) rfl (pi_range1 (by rfl) W.z_range (pa_cons pe_int pa_nil)) (pg_name (i := 10) sc_law.nd rfl (by first | exact Or.inl rfl | exact Or.inr rfl)) (pss_cons (ps_if (pt_not (pt_val (pe_callS (E := (fun _ => E0)) (ok__law_alike W 6) (hr.mono (by first | decide | omega)) (by rfl) W.m__law_alike W.F__law_alike.kp W.b__law_alike (fun _ => pass0S) (pa_cons (pe_callS (E := (fun _ => E0)) (ok__law_answer W) (hr.mono (by first | decide | omega)) (by rfl) W.m__law_answer W.F__law_answer.kp W.b__law_answer (fun _ => pass0S) (pa_cons (pv 1) (pa_cons (pv 7) (pa_cons (pv 3) (pa_cons (pe_callB (y_len (K := K)) (by rfl) W.z_len (by decide +kernel) (pa_cons (pv 4) pa_nil)) pa_nil))))) (pa_cons (pv 9) pa_nil))))) (pss_one (ps_ret pe_bl)) pss_nil)
      (pss_one (ps_if (PW.pt (pw_or (pt_not (pt_val (pe_callS (E := (fun _ => E0)) (ok__law_alike W 6) (hr.mono (by first | decide | omega)) (by rfl) W.m__law_alike W.F__law_alike.kp W.b__law_alike (fun _ => pass0S) (pa_cons (pe_callS (E := (WE (fun cls d _ H => E cls d H))) (ok__law_held W) (hr.mono (by first | decide | omega)) (by rfl) W.m__law_held W.F__law_held.kp W.b__law_held (fun σ => passAt (takes_of rfl rfl rfl rfl) σ) (pa_cons (pv 1) (pa_cons (pv 3) pa_nil))) (pa_cons (pv 8) pa_nil))))) (pw_or1 (pt_not (pt_val (pe_callS (E := (fun _ => E0)) (ok__law_alike W 6) (hr.mono (by first | decide | omega)) (by rfl) W.m__law_alike W.F__law_alike.kp W.b__law_alike (fun _ => pass0S) (pa_cons (pe_methE (E := (WE (fun cls d _ H => E cls d H))) (pv 1) W.T_Shelf W.q_Shelf_text (ok_Shelf_text W) (hr.mono (by first | decide | omega)) W.b_Shelf_text (fun σ => passAt (takes_of rfl rfl rfl rfl) σ) (pa_cons (pv 3) (pa_cons pe_int pa_nil))) (pa_cons (pv 4) pa_nil)))))))) (pss_one (ps_ret pe_bl)) pss_nil))))
      (pss_cons (ps_for (passes_of rfl) rfl (pi_list (pe_lst (pa_cons pe_int (pa_cons pe_int pa_nil)))) (pg_name (i := 7) sc_law.nd rfl (by first | exact Or.inl rfl | exact Or.inr rfl)) (pss_one (ps_if (PW.pt (pw_and (pt_not (pt_val (pv 5))) (pw_and1 (pt_cmpR (y_ne (K := K) hr.units) (pe_callS (E := (fun _ => E0)) (ok__law_answer W) (hr.mono (by first | decide | omega)) (by rfl) W.m__law_answer W.F__law_answer.kp W.b__law_answer (fun _ => pass0S) (pa_cons (pv 1) (pa_cons (pv 7) (pa_cons (pv 3) (pa_cons pe_int pa_nil))))) (pe_tup (pa_cons pe_str (pa_cons pe_bl pa_nil))) (nomark _))))) (pss_one (ps_ret pe_bl)) pss_nil)))
      (pss_cons (ps_set (i := 9) sc_law.nd rfl (by first | exact Or.inl rfl | exact Or.inr rfl) (pe_ix (y_ix (K := K)) (pe_lst (pa_cons (pe_tup (pa_cons pe_str (pa_cons pe_int pa_nil))) (pa_cons (pe_tup (pa_cons pe_str (pa_cons pe_bl pa_nil))) pa_nil))) (pe_callTy y_int1 (by rfl) W.z_int (by decide +kernel) (pa_cons (pv 5) pa_nil)) (fun _ _ => rfl)))
      (pss_cons (ps_if (PW.pt (pw_or (pt_not (pt_val (pe_callS (E := (fun _ => E0)) (ok__law_alike W 6) (hr.mono (by first | decide | omega)) (by rfl) W.m__law_alike W.F__law_alike.kp W.b__law_alike (fun _ => pass0S) (pa_cons (pe_callS (E := (fun _ => E0)) (ok__law_many W) (hr.mono (by first | decide | omega)) (by rfl) W.m__law_many W.F__law_many.kp W.b__law_many (fun _ => pass0S) (pa_cons (pv 1) (pa_cons (pv 3) (pa_cons (pe_op (y_add (K := K)) (pv 4) pe_str) pa_nil)))) (pa_cons (pv 9) pa_nil))))) (pw_or (pt_cmpR (y_ne (K := K) hr.units) (pe_glob (v := .int 3000) (by rfl) W.m_MOST_SIGNS ⟨_, rfl⟩) pe_int (nomark _)) (pw_or1 (pt_cmpR (y_ne (K := K) hr.units) (pe_glob (v := .int 100) (by rfl) W.m_MOST_VERSIONS ⟨_, rfl⟩) pe_int (nomark _)))))) (pss_one (ps_ret pe_bl)) pss_nil)
      (pss_cons (ps_if (PW.pt (pw_and (pt_val (pv 5)) (pw_and1 (pt_cmpR (y_ne (K := K) hr.units) (pe_callS (E := (fun _ => E0)) (ok__law_answer W) (hr.mono (by first | decide | omega)) (by rfl) W.m__law_answer W.F__law_answer.kp W.b__law_answer (fun _ => pass0S) (pa_cons (pv 1) (pa_cons pe_int (pa_cons (pv 3) (pa_cons pe_int pa_nil))))) (pe_tup (pa_cons pe_str (pa_cons pe_bl pa_nil))) (nomark _))))) (pss_one (ps_ret pe_bl)) pss_nil)
      (pss_cons (ps_if (PW.pt (pw_and (pt_val (pv 5)) (pw_and1 (pt_cmpR (y_ne (K := K) hr.units) (pe_callS (E := (WE (fun cls d _ H => E cls d H))) (ok_written W) (hr.mono (by first | decide | omega)) (by rfl) W.m_written W.F_written.kp W.b_written (fun σ => passAt (takes_of rfl rfl rfl rfl) σ) (pa_cons (pv 1) pa_nil)) (pe_ix (y_ix (K := K)) (pv 8) pe_int (fun _ _ => rfl)) (nomark _))))) (pss_one (ps_ret pe_bl)) pss_nil)
      (pss_cons (ps_if (pt_val (pv 5)) (pss_cons (ps_expr (pe_methE (E := (WE (fun cls d _ H => E cls d H))) (pv 1) W.T_Shelf W.q_Shelf_drop (ok_Shelf_drop W) (hr.mono (by first | decide | omega)) W.b_Shelf_drop (fun σ => passAt (takes_of rfl rfl rfl rfl) σ) (pa_cons (pv 3) (pa_cons pe_int pa_nil))))
      (pss_one (ps_ret (pe_and (pe_callS (E := (fun _ => E0)) (ok__law_alike W 6) (hr.mono (by first | decide | omega)) (by rfl) W.m__law_alike W.F__law_alike.kp W.b__law_alike (fun _ => pass0S) (pa_cons (pe_callS (E := (fun _ => E0)) (ok__law_many W) (hr.mono (by first | decide | omega)) (by rfl) W.m__law_many W.F__law_many.kp W.b__law_many (fun _ => pass0S) (pa_cons (pv 1) (pa_cons (pv 3) (pa_cons (pe_op (y_add (K := K)) (pv 4) pe_str) pa_nil)))) (pa_cons (pe_tup (pa_cons pe_str (pa_cons pe_int pa_nil))) pa_nil))) (pe_one (pe_cmpR (y_eq (K := K) hr.units) (pe_methE (E := (WE (fun cls d _ H => E cls d H))) (pv 1) W.T_Shelf W.q_Shelf_text (ok_Shelf_text W) (hr.mono (by first | decide | omega)) W.b_Shelf_text (fun σ => passAt (takes_of rfl rfl rfl rfl) σ) (pa_cons (pv 3) (pa_cons pe_int pa_nil))) (pe_op (y_add (K := K)) (pv 4) pe_str) (nomark _))))))) pss_nil)
      (pss_cons (ps_if (PW.pt (pw_or (pt_cmpR (y_ne (K := K) hr.units) (pe_ix (y_ix (K := K)) (pe_callS (E := (fun _ => E0)) (ok__law_answer W) (hr.mono (by first | decide | omega)) (by rfl) W.m__law_answer W.F__law_answer.kp W.b__law_answer (fun _ => pass0S) (pa_cons (pv 1) (pa_cons pe_int (pa_cons (pv 3) (pa_cons pe_int pa_nil))))) pe_int (fun _ _ => rfl)) pe_str (nomark _)) (pw_or1 (pt_cmpR (y_ne (K := K) hr.units) (pe_methE (E := (WE (fun cls d _ H => E cls d H))) (pv 1) W.T_Shelf W.q_Shelf_text (ok_Shelf_text W) (hr.mono (by first | decide | omega)) W.b_Shelf_text (fun σ => passAt (takes_of rfl rfl rfl rfl) σ) (pa_cons (pv 3) (pa_cons pe_int pa_nil))) (pe_op (y_add (K := K)) (pe_op (y_add (K := K)) pe_str (pv 4)) pe_str) (nomark _))))) (pss_one (ps_ret pe_bl)) pss_nil)
      (pss_cons (ps_if (PW.pt (pw_or (pt_cmpR (y_ne (K := K) hr.units) (pe_methE (E := (WE (fun cls d _ H => E cls d H))) (pv 1) W.T_Shelf W.q_Shelf_text (ok_Shelf_text W) (hr.mono (by first | decide | omega)) W.b_Shelf_text (fun σ => passAt (takes_of rfl rfl rfl rfl) σ) (pa_cons (pv 3) (pa_cons pe_int pa_nil))) (pe_op (y_add (K := K)) (pv 4) pe_str) (nomark _)) (pw_or1 (pt_cmpR (y_ne (K := K) hr.units) (pe_op y_mod (pe_callS (E := (fun _ => E0)) (ok__law_cell_at W) (hr.mono (by first | decide | omega)) (by rfl) W.m__law_cell_at W.F__law_cell_at.kp W.b__law_cell_at (fun _ => pass0S) (pa_cons (pv 0) (pa_cons pe_int pa_nil))) pe_int) pe_int (nomark _))))) (pss_one (ps_ret (pe_cmpR (y_eq (K := K) hr.units) (pe_methE (E := (WE (fun cls d _ H => E cls d H))) (pv 1) W.T_Shelf W.q_Shelf_text (ok_Shelf_text W) (hr.mono (by first | decide | omega)) W.b_Shelf_text (fun σ => passAt (takes_of rfl rfl rfl rfl) σ) (pa_cons (pv 3) (pa_cons pe_int pa_nil))) (pe_op (y_add (K := K)) (pv 4) pe_str) (nomark _)))) pss_nil)
      (pss_cons (ps_expr (pe_methE (E := (WE (fun cls d _ H => E cls d H))) (pv 1) W.T_Shelf W.q_Shelf_keep (ok_Shelf_keep W) (hr.mono (by first | decide | omega)) W.b_Shelf_keep (fun σ => passAt (takes_of rfl rfl rfl rfl) σ) (pa_cons (pv 3) (pa_cons (pe_op y_mul pe_str pe_int) pa_nil))))
      (pss_one (ps_ret (pe_and (pe_cmpR (y_eq (K := K) hr.units) (pe_callS (E := (fun _ => E0)) (ok__law_many W) (hr.mono (by first | decide | omega)) (by rfl) W.m__law_many W.F__law_many.kp W.b__law_many (fun _ => pass0S) (pa_cons (pv 1) (pa_cons (pv 3) (pa_cons (pe_op y_mul pe_str pe_int) pa_nil)))) (pe_tup (pa_cons pe_str (pa_cons pe_bl pa_nil))) (nomark _)) (pe_one (pe_cmpR (y_eq (K := K) hr.units) (pe_methE (E := (WE (fun cls d _ H => E cls d H))) (pv 1) W.T_Shelf W.q_Shelf_text (ok_Shelf_text W) (hr.mono (by first | decide | omega)) W.b_Shelf_text (fun σ => passAt (takes_of rfl rfl rfl rfl) σ) (pa_cons (pv 3) (pa_cons pe_int pa_nil))) (pe_op y_mul pe_str pe_int) (nomark _))))))))))))))))))))))))), ?_⟩
    walk_at "ev"
    refine ⟨a, ns, 0, rfl, hs, ?_⟩
    walk_at "ev"
    refine ⟨_, rfl, fun w' hw1 hw2 => ?_⟩
    walk_at "ev"
    refine ⟨a, ns, 1, rfl, hs, ?_⟩
    walk_at "ev"
    refine ⟨_, rfl, ?_⟩
    have hrb := reachBy_le (cel ns 1)
    generalize reachBy (cel ns 1) = rr at hrb ⊢
    walk_at "ev"
    have e8 : isWd 8 (natV w') = true := by
      show (decide ((1 : Int) ≤ w') && decide ((w' : Int) ≤ 8)) = true
      rw [decide_eq_true (by omega), decide_eq_true (by omega)]
      rfl
    have e40 : isWd 40 (natV rr) = true := by
      show (decide ((1 : Int) ≤ rr) && decide ((rr : Int) ≤ 40)) = true
      rw [decide_eq_true (by omega), decide_eq_true (by omega)]
      rfl
    have no : ∀ {p : Prop}, (isWd 8 (natV w') = false ∨ isWd 40 (natV rr) = false) → p := fun h => by
      rcases h with h | h
      · rw [e8] at h; cases h
      · rw [e40] at h; cases h
    have ij : ∀ {a b : Nat}, natV a = natV b → a = b := fun h => by have := V.int.inj h; omega
    intro k1 dx1 hk1 hdx1 hne1
    refine ⟨k1, dx1, natV w', natV rr, rfl, upd_same, by simp [tyN], by simp [tyN], fun a1 b1 ea eb _ _ r1 H1 ek1 ed1 hf1 hS1 f1 => ⟨rfl, ?_⟩, no⟩
    obtain rfl := ij ea
    obtain rfl := ij eb
    have g1 := frMade hk1 hdx1 (by simp) f1
    have z1 : ∀ x ∈ r1.F, H x = none := fun x hx => by
      by_cases e : x = k1
      · rw [e]; exact hk1
      · exact made_none hk1 hdx1 (hf1 x hx e)
    -- names
    refine ⟨a, ns, 2, rfl, sqlFr hs g1 List.not_mem_nil, ?_⟩
    refine ⟨_, rfl, fun nl H3 zs s3 hnl zl znd zg hn3 => ?_⟩
    have hS3 := hS1.same s3
    have f3 := g1.same s3
    have nl0 : H nl = none := g1.live _ hnl
    subst ek1
    have hz0 : (zs.map txtV)[0]? = some (txtV (zs.getD 0 [])) := by
      rw [List.getElem?_map, List.getD_eq_getElem?_getD, List.getElem?_eq_getElem (by omega)]
      rfl
    have zm : ∀ j, j < 7 → zs.getD j [] ∈ zs := fun j hj => by
      rw [List.getD_eq_getElem?_getD, List.getElem?_eq_getElem (by omega)]
      exact List.getElem_mem _
    walk_at "ev"
    refine ⟨_, _, .inl (SqL.of hn3), atI_nat hz0, ?_⟩
    refine ⟨a, ns, 3, rfl, sqlFr hs f3 List.not_mem_nil, ?_⟩
    walk_at "ev"
    refine ⟨a, ns, 4, rfl, sqlFr hs f3 List.not_mem_nil, ?_⟩
    walk_at "ev"
    have h60 := Int.emod_nonneg (cel ns 4) (show (60 : Int) ≠ 0 by omega)
    have h60' := Int.emod_lt_of_pos (cel ns 4) (show (0 : Int) < 60 by omega)
    obtain ⟨sz, esz, hsz⟩ : ∃ m : Nat, cel ns 4 % 60 = (m : Int) ∧ m ≤ 59 := ⟨(cel ns 4 % 60).toNat, by omega, by omega⟩
    rw [esz]
    refine ⟨_, sz, rfl, by omega, fun H4 s4 => ?_⟩
    have tlen : (textBy (cel ns 3) sz).length = sz := textBy_len _ _
    have tok : (textBy (cel ns 3) sz).all okS = true := by
      rw [List.all_eq_true]
      intro x hx
      exact alpha_ok x (textBy_mem hx)
    generalize textBy (cel ns 3) sz = t at tlen tok ⊢
    walk_at "ev"
    have f4 := f3.same s4
    have hS4 := hS3.same s4
    have hn4 := s4 _ _ hn3
    refine ⟨a, ns, 5, rfl, sqlFr hs f4 List.not_mem_nil, ?_⟩
    walk_at "ev"
    intro p5 hp5
    obtain ⟨full, n, en, hn⟩ : ∃ (full : Bool) (n : Nat), decide (cel ns 5 % 6 = 1) = full ∧ atI [V.int 1, V.int 100] (if cel ns 5 % 6 = 1 then 1 else 0) = some (natV n) ∧ n = if full = true then 100 else 1 := by
      by_cases c : cel ns 5 % 6 = 1
      · exact ⟨true, 100, decide_eq_true c, by rw [if_pos c]; rfl, rfl⟩
      · exact ⟨false, 1, decide_eq_false c, by rw [if_neg c]; rfl, rfl⟩
    refine ⟨_, natV n, .inl (SqL.of upd_same), hn.1, ?_⟩
    rw [en]
    obtain ⟨_, hn⟩ := hn
    have n100 : n ≤ 100 := by cases full <;> simp at hn <;> omega
    walk_at "ev"
    have s5 := same_new (o := .lst [V.int 1, V.int 100]) hp5
    have f5 := f4.same s5
    have hS5 := hS4.same s5
    have hn5 := s5 _ _ hn4
    generalize upd H4 p5 (.lst [V.int 1, V.int 100]) = H5 at s5 f5 hS5 hn5 ⊢
    refine ⟨by omega, ?_⟩
    rw [Int.toNat_natCast]
    generalize hps : piecesOf t w' rr = ps
    have psn : ∀ x ∈ ps, x ≠ [] := fun x hx => pieces_ne (by rw [hps]; exact hx)
    have psj : ps.flatten = t := by rw [← hps]; exact pieces_join hrb.1
    have psl : ps.length ≤ 59 := by
      have h := flat_len psn
      rw [psj] at h
      omega
    have tb1 : ∀ {H'}, Fr [] H H' → GxR.TabG H' W.P_is_name := fun f => f.tabs _ ⟨#[], t2, by trivial⟩
    have tb2 : ∀ {H'}, Fr [] H H' → GxR.TabG H' W.P_is_text := fun f => f.tabs _ ⟨#[], t1, by trivial⟩
    have nT : isTx (txtV t) = true := by
      show (st t).cps.toList.all okS = true
      rw [codes_st]
      exact tok
    have I5 : L9 W.c_Shelf W.c_Stock H H5 r1 ⟨w', rr, ⟨0, []⟩, [], []⟩ zs ps nl w' rr 0 := ⟨f5, hS5, .nil ⟨hw1, hw2⟩ hrb, ⟨rfl, (fun x hx => by cases hx), fun j hj => by
      show 0 = (0 + 3 - j) / 4
      omega, fun j hj m h1 h2 => by omega, Nat.zero_le _, Nat.zero_le _, Nat.le_refl _, (fun x hx => by cases hx), (fun x hx => by cases hx), (fun x hx => by cases hx)⟩, hn5, rfl, rfl⟩
    have bigs : ∀ {M : ShM} {i : Nat}, R9 M zs ps i → i ≤ 100 → M.S.its.length ≤ 6000 ∧ M.S.last ≤ 6000 := fun h hi => by
      have h1 := h.il
      have h2 := h.la
      have h3 : ps.length * _ ≤ 59 * 100 := Nat.mul_le_mul psl hi
      omega
    refine for_rngC (R := Q) rfl (fun i σ H' => ∃ M v6, σ = [some (.ref a), some (.ref r1.k), some (.ref nl), some (txtV (zs.getD 0 [])), some (txtV t), some (.bl full), v6, none, none, none, none] ∧ L9 W.c_Shelf W.c_Stock H H' r1 M zs ps nl w' rr i) ⟨_, _, rfl, I5⟩ ?_ ?_
    · rintro N i σ H' hi ⟨M, v6, rfl, I⟩
      walk_at "ev"
      rw [sM W I.sh.ob (by decide +kernel)]
      have h40 : ((0 : Int) + (i : Int)) % 4 = ((i % 4 : Nat) : Int) := by omega
      rw [h40]
      have ng := zg _ (zm (i % 4) (by omega))
      have n12 := ng.1.2
      have nn := goodN_is ng
      obtain ⟨b1, b2⟩ := bigs I.k9 (by omega)
      have wl := I.k9.wl
      refine ⟨_, txtV (zs.getD (i % 4) []), .inl (SqL.of I.nm), atI_nat (by rw [List.getElem?_map, List.getD_eq_getElem?_getD, List.getElem?_eq_getElem (by omega)]; rfl), ?_⟩
      refine ⟨r1, M, txtV (zs.getD (i % 4) []), txtV t, rfl, I.sh, I.ok, by simp [tyN], .inl (by simp [tyN]), tx_len (by omega), tx_len (by omega), tb1 I.f, tb2 I.f, by omega, by omega, fun nm' z' e1 e2 _ _ _ _ a6 H6 ha6 sh6 f6 => ?_, (fun h => by rw [nn] at h; cases h), (fun _ h => by rw [nT] at h; cases h), (fun _ z e _ h => by cases tx_same e; omega), fun _ z e _ _ h => by have := I.k9.rl; omega⟩
      cases tx_same e1
      cases tx_same e2
      rw [I.e.1, I.e.2, hps] at sh6
      refine ⟨_, _, rfl, My.Fr.over I.f f6 z1, sh6, I.ok.keep _ _ (by rw [psj]; omega) psn, I.k9.step I.ok znd zl (by omega) _, f6.lst I.nm (I.sh.noL I.nm), I.e⟩
    rintro σ H6 ⟨M, v6, rfl, I⟩
    have hb9 := bigs I.k9 n100
    have rl9 := I.k9.rl
    have wl9 := I.k9.wl
    have ng := zg _ (zm 0 (by omega))
    have n1 : 1 ≤ n := by cases full <;> simp at hn <;> omega
    obtain ⟨x1, hx1, ex1, en1⟩ := I.k9.ex 0 (by omega) 1 (Nat.le_refl _) (by omega)
    have gv0 := I.k9.gv 0 (by omega)
    have ex0 := I.k9.ex 0 (by omega)
    generalize zs.getD 0 [] = nm at ng ex1 gv0 ex0 ⊢
    have n12 := ng.1.2
    have nn := goodN_is ng
    have at1 : M.at_ nm 1 = some x1 := by
      have h := I.ok.at_mem hx1
      rw [ex1, en1] at h
      exact h
    have xp1 := (I.k9.pr x1 hx1).1
    have xl1 : x1.parts.flatten = t := by rw [xp1, psj]
    have nums : ∀ x ∈ M.rows, 1 ≤ x.num ∧ x.num ≤ 25 := fun x hx => ⟨(I.k9.pr x hx).2.1, (I.k9.pr x hx).2.2.1⟩
    have a999 : M.at_ nm 999 = none := at_no fun x hx _ e => by have := nums x hx; omega
    have a0 : M.at_ nm 0 = none := at_no fun x hx _ e => by have := nums x hx; omega
    have an1 : M.at_ nm (-1) = none := at_no fun x hx _ e => by have := nums x hx; omega
    have gw : ∀ p ∈ M.wk, p.1.length ≤ 12 := fun p hp => (zg _ (I.k9.wg p hp)).1.2
    have sm : Small9 M := by
      refine ⟨by omega, by omega, by omega, by omega, fun p hp => by have := I.k9.wn p hp; omega, fun i hi => ?_, ?_, fun x hx => zg _ (I.k9.pr x hx).2.2.2⟩
      · have h := List.sublist_flatten_of_mem (I.k9.it i hi)
        have := h.length_le
        rw [psj] at this
        omega
      · have h := note_len I.ok (L := 59) (R := 59) (I := 6000) (V := 100) (W := 100) (by omega) (fun p hp => by have := I.k9.wn p hp; omega) gw (fun i hi => by
          have h := List.sublist_flatten_of_mem (I.k9.it i hi)
          have := h.length_le
          rw [psj] at this
          omega) (fun x hx => by rw [(I.ok.hold x hx).len, (I.k9.pr x hx).1]; exact psl) (fun x hx => (zg _ (I.k9.pr x hx).2.2.2).1.2) (by omega) (by omega) (by omega)
        omega
    have sh6 := I.sh
    have f6 := I.f
    dsimp only
    -- the way
    refine seq_join (fun σ H7 => Same H6 H7 ∧ ∃ way : Nat, way ≤ 41 ∧ way ≠ 33 ∧ σ = [some (.ref a), some (.ref r1.k), some (.ref nl), some (txtV nm), some (txtV t), some (.bl full), v6, some (.int (way : Int)), none, none, none]) ?_ (fun N k => ?_)
    rotate_left
    · walk_at "ev"
      refine ⟨a, ns, 6, rfl, sqlFr hs f6 List.not_mem_nil, ?_⟩
      walk_at "ev"
      refine ⟨a, ns, 6, rfl, sqlFr hs f6 List.not_mem_nil, ?_⟩
      walk_at "ev"
      intro p hp
      refine ⟨a, ns, 6, rfl, sqlFr hs (f6.new hp) List.not_mem_nil, ?_⟩
      walk_at "ev"
      have c1 := Int.emod_nonneg (cel ns 6) (show (33 : Int) ≠ 0 by omega)
      have c2 := Int.emod_lt_of_pos (cel ns 6) (show (0 : Int) < 33 by omega)
      have c3 := Int.emod_nonneg (cel ns 6 / 42) (show (8 : Int) ≠ 0 by omega)
      have c4 := Int.emod_lt_of_pos (cel ns 6 / 42) (show (0 : Int) < 8 by omega)
      obtain ⟨way, h1, h2, h3⟩ : ∃ way : Nat, atI [V.int (cel ns 6 % 33), V.int (34 + cel ns 6 / 42 % 8)] (if 32 < cel ns 6 % 42 then 1 else 0) = some (.int (way : Int)) ∧ way ≤ 41 ∧ way ≠ 33 := by
        by_cases c : 32 < cel ns 6 % 42
        · refine ⟨(34 + cel ns 6 / 42 % 8).toNat, ?_, by omega, by omega⟩
          rw [if_pos c, Int.toNat_of_nonneg (by omega)]
          rfl
        · refine ⟨(cel ns 6 % 33).toNat, ?_, by omega, by omega⟩
          rw [if_neg c, Int.toNat_of_nonneg (by omega)]
          rfl
      exact ⟨_, _, .inl (SqL.of upd_same), h1, k _ _ ⟨same_new hp, way, h2, h3, rfl⟩⟩
    rintro σ H7 ⟨s7, way, w41, w33, rfl⟩
    have f7 := f6.same s7
    have sh7 := sh6.same s7
    -- what is held
    refine seq_join (fun σ H8 => Fr [] H7 H8 ∧ ∃ p8, Held9 H8 p8 M nm ∧ σ = [some (.ref a), some (.ref r1.k), some (.ref nl), some (txtV nm), some (txtV t), some (.bl full), v6, some (.int (way : Int)), some (.ref p8), none, none]) ?_ (fun N k => ?_)
    rotate_left
    · walk_at "ev"
      refine ⟨r1, M, nm, rfl, sh7, I.ok, ng, sm, tb1 f7, fun p H8 f8 _ hh => ?_⟩
      exact k _ _ ⟨f8, p, hh, rfl⟩
    rintro σ H8 ⟨f78, p8, hh8, rfl⟩
    have f8 := f7.trans f78
    have sh8 := sh7.fr0 f78
    refine seq_join (fun σ H9 => Same H8 H9 ∧ ∃ p9, H9 p9 = some (.tup [.str (wordOf way), .bl true]) ∧ σ = [some (.ref a), some (.ref r1.k), some (.ref nl), some (txtV nm), some (txtV t), some (.bl full), v6, some (.int (way : Int)), some (.ref p8), some (.ref p9), none]) ?_ (fun N k => ?_)
    rotate_left
    · walk_at "ev"
      refine ⟨_, rfl, fun H9 s9 => ?_⟩
      walk_at "ev"
      intro p9 hp9
      exact k _ _ ⟨s9.trans (same_new hp9), p9, upd_same, rfl⟩
    rintro σ H9 ⟨s9, p9, hp9, rfl⟩
    have f9 := f8.same s9
    have sh9 := sh8.same s9
    -- twice
    refine seq_join (fun σ H' => Fr [] H9 H' ∧ ∃ v10, σ = [some (.ref a), some (.ref r1.k), some (.ref nl), some (txtV nm), some (txtV t), some (.bl full), v6, some (.int (way : Int)), some (.ref p8), some (.ref p9), v10]) ?_ (fun N k => ?_)
    rotate_left
    · walk_at "ev"
      refine for_rngC (R := Q) rfl (fun _ σ H' => Fr [] H9 H' ∧ ∃ v10, σ = [some (.ref a), some (.ref r1.k), some (.ref nl), some (txtV nm), some (txtV t), some (.bl full), v6, some (.int (way : Int)), some (.ref p8), some (.ref p9), v10]) ⟨Fr.refl, _, rfl⟩ ?_ ?_
      · rintro N i σ H' hi ⟨f', v10, rfl⟩
        walk_at "ev"
        have fH := f9.trans f'
        have shH := sh9.fr0 f'
        refine ⟨by omega, ?_⟩
        refine ⟨r1, M, nm, way, t.length, rfl, shH, I.ok, ng, by omega, by omega, by omega, tb1 fH, tb2 fH, by omega, .inl ⟨w33, by omega, by omega, ⟨x1, at1, by rw [xl1]⟩, a999, a0, an1, fun p H11 hp f11 hpt => ?_⟩⟩
        refine ⟨_, _, rfl, Al.tup2 hpt ((f'.trans f11).tup hp9 List.not_mem_nil) (Al.str _) Al.bt, ?_⟩
        walk_at "ev"
        have fH1 := fH.trans f11
        refine ⟨r1, M, nm, rfl, shH.fr0 f11, I.ok, ng, sm, tb1 fH1, fun p12 H12 f12 _ hh12 => ?_⟩
        have fH2 := fH1.trans f12
        have hh8' := ((hh8.fr0 (frS s9)).fr0 (f'.trans f11)).fr0 f12
        refine ⟨_, _, rfl, held_al hh12 hh8' sm.il sm.rl, ?_⟩
        walk_at "ev"
        have sh12 := (shH.fr0 f11).fr0 f12
        rw [sM W sh12.ob (by decide +kernel)]
        refine textI ⟨r1, M, nm, .int 1, rfl, sh12, I.ok, by omega, by simp [tyN], tb1 fH2, fun _ n' x' en' ex' H13 f13 => ?_, (fun h => by rw [nn] at h; cases h), fun _ h => by rw [h _ rfl] at at1; cases at1⟩
        cases en'
        rw [at1] at ex'
        cases ex'
        rw [xl1]
        refine ⟨_, _, rfl, Al.str _, ?_⟩
        walk_at "ev"
        exact ⟨((f'.trans f11).trans f12).trans f13, _, rfl⟩
      · rintro σ H' ⟨f', v10, rfl⟩
        exact k _ _ ⟨f', v10, rfl⟩
    rintro σ H10 ⟨f910, v10, rfl⟩
    have f10 := f9.trans f910
    have sh10 := sh9.fr0 f910
    have wn : plainV (.str "not there") = true := by decide +kernel
    have wm : plainV (.str "too many") = true := by decide +kernel
    have wlg : plainV (.str "too long") = true := by decide +kernel
    -- what is not there
    refine seq_join (fun σ H' => Fr [] H10 H' ∧ ∃ v7, σ = [some (.ref a), some (.ref r1.k), some (.ref nl), some (txtV nm), some (txtV t), some (.bl full), v6, v7, some (.ref p8), some (.ref p9), v10]) ?_ (fun N k => ?_)
    rotate_left
    · walk_at "ev"
      intro pl hpl
      have hl0 : upd H10 pl (.lst [V.int 33, V.int 42]) pl = some (.lst ([33, 42].map V.int)) := upd_same
      have fl0 : Fr [] H10 (upd H10 pl (.lst [V.int 33, V.int 42])) := frS (same_new hpl)
      generalize upd H10 pl (.lst [V.int 33, V.int 42]) = HL at hl0 fl0 ⊢
      refine ⟨⟨_, SqL.of hl0⟩, ?_⟩
      refine L2.for_list (K := K) (a := pl) (xs := [33, 42].map V.int) (fun _ σ H' => Fr [] HL H' ∧ ∃ v7, σ = [some (.ref a), some (.ref r1.k), some (.ref nl), some (txtV nm), some (txtV t), some (.bl full), v6, v7, some (.ref p8), some (.ref p9), v10]) ?_ ?_ ?_ ?_
      · exact ⟨Fr.refl, _, rfl⟩
      · rintro i σ H' _ ⟨f, _, _⟩
        exact SqL.of (f.lst hl0 List.not_mem_nil)
      · rintro i u σ H' hi ⟨f', v7, rfl⟩
        obtain ⟨way2, hw2', rfl⟩ : ∃ way2 : Nat, (way2 = 33 ∨ way2 = 42) ∧ u = .int (way2 : Int) := by
          have hi2 : i < 2 := (List.getElem?_eq_some_iff.mp hi).1
          obtain rfl | rfl : i = 0 ∨ i = 1 := by omega
          · cases hi
            exact ⟨33, .inl rfl, rfl⟩
          · cases hi
            exact ⟨42, .inr rfl, rfl⟩
        have fH := (f10.trans fl0).trans f'
        have shH := (sh10.fr0 fl0).fr0 f'
        cases full with
        | true =>
          walk_at "ev"
          exact ⟨f', _, rfl⟩
        | false =>
          have nn1 : n = 1 := by simpa using hn
          have at2 : M.at_ nm 2 = none := at_no fun x hx e1 e2 => by
            have h1 : M.rows.length = 1 := by omega
            obtain ⟨y, hy⟩ := List.length_eq_one_iff.mp h1
            rw [hy] at hx hx1
            rw [List.mem_singleton.mp hx, ← List.mem_singleton.mp hx1, en1] at e2
            omega
          walk_at "ev"
          refine ⟨r1, M, nm, way2, 2, rfl, shH, I.ok, ng, by omega, by omega, by omega, tb1 fH, tb2 fH, by omega, .inr (.inl ⟨hw2', at2, fun p H11 hp f11 hpt => ?_⟩)⟩
          walk_at "ev"
          intro p2 hp2
          refine ne_wordsT (SqT.of (upd_of hpt hp2)) (SqT.of upd_same) wn ?_
          walk_at "ev"
          exact ⟨(f'.trans f11).new hp2, _, rfl⟩
      · rintro σ H' ⟨f', v7, rfl⟩
        exact k _ _ ⟨fl0.trans f', _, rfl⟩
    rintro σ H11 ⟨f1011, v7, rfl⟩
    have f11 := f10.trans f1011
    have sh11 := sh10.fr0 f1011
    have hh11 := (((hh8.fr0 (frS s9)).fr0 f910).fr0 f1011)
    clear hp9 hh8 sh9 sh8 sh7 sh10
    have okX : (t ++ [120]).all okS = true := by
      rw [List.all_append, tok]
      rfl
    have lx : (Str.ofString "x").cps.toList = [120] := by decide
    have lxn : (Str.ofString "x").length = 1 := by decide
    have tXl : (t ++ [120]).length = t.length + 1 := by rw [List.length_append]; rfl
    cases full with
    | true =>
      have nn1 : n = 100 := by simpa using hn
      walk_at "ev"
      intro pa hpa pb hpb pc hpc
      have f12 : Fr [] H11 (upd (upd (upd H11 pa (.tup [V.str (Str.ofString "told"), V.int 2])) pb (.tup [V.str (Str.ofString "too many"), V.bl true])) pc (.lst [V.ref pa, V.ref pb])) := frS (((same_new hpa).trans (same_new hpb)).trans (same_new hpc))
      have ha12 : upd (upd (upd H11 pa (.tup [V.str (Str.ofString "told"), V.int 2])) pb (.tup [V.str (Str.ofString "too many"), V.bl true])) pc (.lst [V.ref pa, V.ref pb]) pa = some (.tup [V.str (Str.ofString "told"), V.int 2]) := upd_of (upd_of upd_same hpb) hpc
      have hb12 : upd (upd (upd H11 pa (.tup [V.str (Str.ofString "told"), V.int 2])) pb (.tup [V.str (Str.ofString "too many"), V.bl true])) pc (.lst [V.ref pa, V.ref pb]) pb = some (.tup [V.str (Str.ofString "too many"), V.bl true]) := upd_of upd_same hpc
      have hc12 : upd (upd (upd H11 pa (.tup [V.str (Str.ofString "told"), V.int 2])) pb (.tup [V.str (Str.ofString "too many"), V.bl true])) pc (.lst [V.ref pa, V.ref pb]) pc = some (.lst [V.ref pa, V.ref pb]) := upd_same
      generalize upd (upd (upd H11 pa (.tup [V.str (Str.ofString "told"), V.int 2])) pb (.tup [V.str (Str.ofString "too many"), V.bl true])) pc (.lst [V.ref pa, V.ref pb]) = H12 at f12 ha12 hb12 hc12 ⊢
      have fH12 := f11.trans f12
      have sh12 := sh11.fr0 f12
      refine ⟨_, .ref pb, .inl (SqL.of hc12), rfl, by rw [lxn]; omega, ?_⟩
      rw [lx]
      refine ⟨r1, M, nm, t ++ [120], rfl, sh12, I.ok, ng, by omega, by omega, tb1 fH12, tb2 fH12, okX, by omega, (fun _ h => by omega), (fun _ _ p H13 hp f13 hpt => ?_), fun h => by omega⟩
      refine ⟨_, _, rfl, Al.tup2 hpt (f13.tup hb12 List.not_mem_nil) (Al.str _) Al.bt, ?_⟩
      walk_at "ev"
      have fH13 := fH12.trans f13
      have sh13 := sh12.fr0 f13
      refine ⟨r1, M, nm, 42, 1, rfl, sh13, I.ok, ng, by omega, by omega, by omega, tb1 fH13, tb2 fH13, by omega, .inr (.inr (.inl ⟨rfl, ⟨x1, at1, by rw [xl1]; omega⟩, by omega, fun p H14 hp f14 hpt => ?_⟩))⟩
      walk_at "ev"
      intro pd hpd
      refine ne_wordsT (SqT.of (upd_of hpt hpd)) (SqT.of upd_same) wm ?_
      walk_at "ev"
      have fH14 := (fH13.trans f14).new (o := .tup [V.str (Str.ofString "too many"), V.bl true]) hpd
      have f1115 := ((f12.trans f13).trans f14).new (o := .tup [V.str (Str.ofString "too many"), V.bl true]) hpd
      have sh14 := (sh13.fr0 f14).same (same_new (o := .tup [V.str (Str.ofString "too many"), V.bl true]) hpd)
      generalize upd H14 pd (.tup [V.str (Str.ofString "too many"), V.bl true]) = H15 at fH14 f1115 sh14 ⊢
      refine ⟨r1, M, rfl, sh14, I.ok, sm.rl, sm.il, sm.wl, sm.la, sm.wn, sm.tl, sm.nl, sm.gn, tb1 fH14, fun H16 f16 => ?_⟩
      obtain ⟨_, _, _, _, _, _, h8t, _⟩ := hh11.fr0 (f1115.trans f16)
      refine ⟨_, _, .inr (SqT.of h8t), rfl, ?_⟩
      walk_at "ev"
      have fH16 := fH14.trans f16
      have sh16 := sh14.fr0 f16
      obtain ⟨x7, hx7, e7, n7⟩ := ex0 7 (by omega) (by omega)
      have at7 : M.at_ nm 7 = some x7 := by
        have h := I.ok.at_mem hx7
        rw [e7, n7] at h
        exact h
      rw [sM W sh16.ob (by decide +kernel)]
      refine ⟨r1, M, txtV nm, .int 7, rfl, sh16, I.ok, by simp [tyN], tx_len (by omega), by simp [tyN], tb1 fH16, by omega, (fun z ez _ n' x en ex H17 sh17 f17 => ?_), (fun h => by rw [nn] at h; cases h), fun z ez _ h => by
        cases tx_same ez
        rw [h _ rfl] at at7
        cases at7⟩
      cases tx_same ez
      cases en
      rw [at7] at ex
      cases ex
      walk_at "ev"
      have fH17 := My.Fr.over fH16 f17 z1
      have ok17 := I.ok.drop hx7
      have r17 : (M.drop x7).rows.length < M.rows.length := List.length_filter_lt_length_iff_exists.mpr ⟨x7, hx7, by simp⟩
      have i17 : (M.drop x7).S.its.length ≤ M.S.its.length := List.length_filterMap_le _ _
      have w17 : (M.drop x7).wk = M.wk := rfl
      have g17 : (M.drop x7).given nm = M.given nm := rfl
      have e17 : (M.drop x7).w = M.w ∧ (M.drop x7).r = M.r := ⟨rfl, rfl⟩
      generalize M.drop x7 = M7 at sh17 ok17 r17 i17 w17 g17 e17
      rw [lx]
      refine ⟨by rw [lxn]; omega, r1, M7, nm, t ++ [120], rfl, sh17, ok17, ng, by rw [w17]; omega, by omega, tb1 fH17, tb2 fH17, okX, by omega, (fun _ _ b p H18 hb hp sh18 f18 hpt => ?_), (fun _ h => by omega), fun h => by omega⟩
      walk_at "ev"
      intro pe hpe
      have f19 := f18.new (o := .tup [V.str (Str.ofString "told"), V.int 26]) hpe
      have g25 : M7.given nm = 25 := by rw [g17, gv0]; omega
      rw [g25] at hpt
      refine ⟨_, _, rfl, Al.tup2 (upd_of hpt hpe) upd_same (Al.str _) (Al.int 26), ?_⟩
      walk_at "ev"
      have sh19 := sh18.same (same_new (o := .tup [V.str (Str.ofString "told"), V.int 26]) hpe)
      have fH19 := My.Fr.over fH17 f19 z1
      have ok19 := ok17.keep nm b (parts := piecesOf (t ++ [120]) M7.w M7.r) (by rw [pieces_join ok17.r.1]; omega) (fun x hx => pieces_ne hx)
      obtain ⟨x26, at26, p26⟩ := at_new ok19
      rw [g25] at at26
      rw [sM W sh19.ob (by decide +kernel)]
      refine textI ⟨r1, _, nm, .int 26, rfl, sh19, ok19, by omega, by simp [tyN], tb1 fH19, fun _ n' x en ex H20 f20 => ?_, (fun h => by rw [nn] at h; cases h), fun _ h => by
        have h := h _ rfl
        rw [show (26 : Int) = ((25 + 1 : Nat) : Int) from rfl, at26] at h
        cases h⟩
      cases en
      rw [show (26 : Int) = ((25 + 1 : Nat) : Int) from rfl, at26] at ex
      cases ex
      rw [p26, pieces_join ok17.r.1]
      walk_at "ev"
      rw [lx]
      refine ⟨by rw [lxn]; omega, ?_⟩
      rw [decide_eq_true rfl]
      exact q _
    | false =>
      have nn1 : n = 1 := by simpa using hn
      walk_at "ev"
      intro pa hpa pb hpb pc hpc
      have f12 : Fr [] H11 (upd (upd (upd H11 pa (.tup [V.str (Str.ofString "told"), V.int 2])) pb (.tup [V.str (Str.ofString "too many"), V.bl true])) pc (.lst [V.ref pa, V.ref pb])) := frS (((same_new hpa).trans (same_new hpb)).trans (same_new hpc))
      have ha12 : upd (upd (upd H11 pa (.tup [V.str (Str.ofString "told"), V.int 2])) pb (.tup [V.str (Str.ofString "too many"), V.bl true])) pc (.lst [V.ref pa, V.ref pb]) pa = some (.tup [V.str (Str.ofString "told"), V.int 2]) := upd_of (upd_of upd_same hpb) hpc
      have hb12 : upd (upd (upd H11 pa (.tup [V.str (Str.ofString "told"), V.int 2])) pb (.tup [V.str (Str.ofString "too many"), V.bl true])) pc (.lst [V.ref pa, V.ref pb]) pb = some (.tup [V.str (Str.ofString "too many"), V.bl true]) := upd_of upd_same hpc
      have hc12 : upd (upd (upd H11 pa (.tup [V.str (Str.ofString "told"), V.int 2])) pb (.tup [V.str (Str.ofString "too many"), V.bl true])) pc (.lst [V.ref pa, V.ref pb]) pc = some (.lst [V.ref pa, V.ref pb]) := upd_same
      generalize upd (upd (upd H11 pa (.tup [V.str (Str.ofString "told"), V.int 2])) pb (.tup [V.str (Str.ofString "too many"), V.bl true])) pc (.lst [V.ref pa, V.ref pb]) = H12 at f12 ha12 hb12 hc12 ⊢
      have fH12 := f11.trans f12
      have sh12 := sh11.fr0 f12
      refine ⟨_, .ref pa, .inl (SqL.of hc12), rfl, by rw [lxn]; omega, ?_⟩
      rw [lx]
      refine ⟨r1, M, nm, t ++ [120], rfl, sh12, I.ok, ng, by omega, by omega, tb1 fH12, tb2 fH12, okX, by omega, (fun _ _ b p H13 hb hp sh13 f13 hpt => ?_), (fun _ h => by omega), fun h => by omega⟩
      have g1n : M.given nm = 1 := by rw [gv0]; omega
      rw [g1n] at hpt
      walk_at "ev"
      refine ⟨_, _, rfl, Al.tup2 hpt (f13.tup ha12 (fun z => sh12.noT ha12 z)) (Al.str _) (Al.int 2), ?_⟩
      walk_at "ev"
      have fH13 := My.Fr.over fH12 f13 z1
      have hr1 := I.ok.r.1
      have ok13 := I.ok.keep nm b (parts := piecesOf (t ++ [120]) M.w M.r) (by rw [pieces_join hr1]; omega) (fun x hx => pieces_ne hx)
      obtain ⟨x2, at2, p2⟩ := at_new ok13
      have r13 : (M.keep nm b (piecesOf (t ++ [120]) M.w M.r)).rows.length = 2 := by
        show (M.rows ++ [_]).length = 2
        rw [List.length_append, rl9, nn1]
        rfl
      have i13 := I.ok.its (nm := nm) (a := b) (piecesOf (t ++ [120]) M.w M.r)
      have pl13 : (piecesOf (t ++ [120]) M.w M.r).length ≤ 61 := by
        have h := flat_len (l := piecesOf (t ++ [120]) M.w M.r) (fun x hx => pieces_ne hx)
        rw [pieces_join hr1] at h
        omega
      have w13 : (M.keep nm b (piecesOf (t ++ [120]) M.w M.r)).wk.length ≤ 2 := by
        show (setW M.wk nm (M.given nm + 1)).length ≤ 2
        have := setW_len (wk := M.wk) (nm := nm) (n := M.given nm + 1)
        omega
      have g13 : (M.keep nm b (piecesOf (t ++ [120]) M.w M.r)).given nm = 2 := by rw [given_keep I.ok, g1n]
      have x2l : x2.parts.flatten = t ++ [120] := by rw [p2, pieces_join hr1]
      rw [g1n] at at2
      clear p2
      generalize M.keep nm b (piecesOf (t ++ [120]) M.w M.r) = M2 at sh13 ok13 at2 r13 i13 w13 g13
      refine ⟨r1, M2, nm, 42, 2, rfl, sh13, ok13, ng, by omega, by omega, by omega, tb1 fH13, tb2 fH13, by omega, .inr (.inr (.inr ⟨rfl, by omega, x2, at2, by rw [x2l]; omega, fun p3 q3 t3 H14 hp3 hq3 sh14 f14 ht3 => ?_⟩))⟩
      walk_at "ev"
      refine ⟨_, _, .inr (SqT.of ht3), rfl, ?_⟩
      walk_at "ev"
      have fH14 := My.Fr.over fH13 f14 z1
      have hr2 := ok13.r.1
      have la : (Str.ofString "a").cps.toList = [97] := by decide
      have lan : (Str.ofString "a").length = 1 := by decide
      rw [x2l] at sh14
      have ok14 := ok13.keep nm p3 (parts := piecesOf (97 :: (t ++ [120])) M2.w M2.r) (by rw [pieces_join hr2, List.length_cons]; omega) (fun x hx => pieces_ne hx)
      obtain ⟨x3, at3, p3'⟩ := at_new ok14
      have at2' := at_old ok14 at2
      have r14 : (M2.keep nm p3 (piecesOf (97 :: (t ++ [120])) M2.w M2.r)).rows.length = 3 := by
        show (M2.rows ++ [_]).length = 3
        rw [List.length_append, r13]
        rfl
      have i14 := ok13.its (nm := nm) (a := p3) (piecesOf (97 :: (t ++ [120])) M2.w M2.r)
      have pl14 : (piecesOf (97 :: (t ++ [120])) M2.w M2.r).length ≤ 62 := by
        have h := flat_len (l := piecesOf (97 :: (t ++ [120])) M2.w M2.r) (fun x hx => pieces_ne hx)
        rw [pieces_join hr2, List.length_cons] at h
        omega
      have w14 : (M2.keep nm p3 (piecesOf (97 :: (t ++ [120])) M2.w M2.r)).wk.length ≤ 3 := by
        show (setW M2.wk nm (M2.given nm + 1)).length ≤ 3
        have := setW_len (wk := M2.wk) (nm := nm) (n := M2.given nm + 1)
        omega
      have g14 : (M2.keep nm p3 (piecesOf (97 :: (t ++ [120])) M2.w M2.r)).given nm = 3 := by rw [given_keep ok13, g13]
      have x3l : x3.parts.flatten = 97 :: (t ++ [120]) := by rw [p3', pieces_join hr2]
      rw [g13] at at3
      clear p3'
      generalize M2.keep nm p3 (piecesOf (97 :: (t ++ [120])) M2.w M2.r) = M3 at sh14 ok14 at3 at2' r14 i14 w14 g14
      have tell : ∀ {H' : Hp} {Q' : VK} {E' : XK} {M' : ShM} {x : Rw} {k : Nat}, Fr [] H H' → ShAt W.c_Shelf W.c_Stock H' r1 M' → M'.Ok → M'.at_ nm ((k : Nat) : Int) = some x → (∀ H2, Fr [] H' H2 → Q' (txtV x.parts.flatten) H2) → sp_Shelf_text W [.ref r1.k, txtV nm, .int ((k : Nat) : Int)] H' Q' E' := fun {H' Q' E' M' x k} f sh ok hat q' =>
        textI ⟨r1, M', nm, .int ((k : Nat) : Int), rfl, sh, ok, by omega, by simp [tyN], tb1 f, (fun _ n' y en ey H2 f2 => by
          cases en
          rw [hat] at ey
          cases ey
          exact q' H2 f2), (fun h => by rw [nn] at h; cases h), fun _ h => by rw [h _ rfl] at hat; cases hat⟩
      rw [sM W sh14.ob (by decide +kernel)]
      refine tell (k := 3) fH14 sh14 ok14 at3 fun H15 f15 => ?_
      have fH15 := fH14.trans f15
      have sh15 := sh14.fr0 f15
      rw [x3l]
      walk_at "ev"
      rw [la, lan, lx]
      have l4 : ([97] ++ t).length = t.length + 1 := by rw [List.length_append]; exact Nat.add_comm _ _
      refine ⟨by omega, by rw [l4, lxn]; omega, ?_⟩
      rw [show [97] ++ t ++ [120] = 97 :: (t ++ [120]) by rw [List.append_assoc]; rfl]
      rw [decide_eq_true rfl]
      walk_at "ev"
      rw [sM W sh15.ob (by decide +kernel)]
      refine tell (k := 2) fH15 sh15 ok14 at2' fun H16 f16 => ?_
      have fH16 := fH15.trans f16
      have sh16 := sh15.fr0 f16
      rw [x2l]
      walk_at "ev"
      rw [lx]
      refine ⟨by rw [lxn]; omega, ?_⟩
      rw [decide_eq_true rfl]
      walk_at "ev"
      refine ⟨a, ns, 7, rfl, sqlFr hs fH16 List.not_mem_nil, ?_⟩
      walk_at "ev"
      refine brS_of (fun hc => ?_) (fun hc => ?_) <;> walk_at "ev"
      · rw [sM W sh16.ob (by decide +kernel)]
        refine tell (k := 2) fH16 sh16 ok14 at2' fun H17 f17 => ?_
        rw [x2l]
        walk_at "ev"
        rw [lx]
        refine ⟨by rw [lxn]; omega, ?_⟩
        rw [decide_eq_true rfl]
        exact q _
      · rw [sM W sh16.ob (by decide +kernel)]
        have rok : ∀ (c k : Nat), okS c = true → (repS [c] k).all okS = true := fun c k h => by
          rw [List.all_eq_true]
          intro y hy
          rw [List.mem_singleton.mp (mem_rep hy)]
          exact h
        have rln : ∀ (c k : Nat), (repS [c] k).length = k := fun c k => by
          rw [repS_len]
          exact Nat.mul_one k
        refine ⟨⟨by decide, by decide⟩, ?_⟩
        rw [la]
        have hA := rok 97 3000 (by decide)
        have lA := rln 97 3000
        generalize hzA : repS [97] 3000 = zA at hA lA ⊢
        have hAx : isTx (txtV zA) = true := by
          show (st zA).cps.toList.all okS = true
          rw [codes_st]
          exact hA
        refine ⟨r1, M3, txtV nm, txtV zA, rfl, sh16, ok14, by simp [tyN], .inl (by simp [tyN]), tx_len (by omega), tx_len (by omega), tb1 fH16, tb2 fH16, by omega, by omega, (fun nm' z' e1 e2 _ _ _ _ b4 H17 hb4 sh17 f17 => ?_), (fun h => by rw [nn] at h; cases h), (fun _ h => by rw [hAx] at h; cases h), (fun _ z e _ h => by cases tx_same e; omega), fun _ z e _ _ h => by omega⟩
        cases tx_same e1
        cases tx_same e2
        have fH17 := My.Fr.over fH16 f17 z1
        have hr3 := ok14.r.1
        have ok17 := ok14.keep nm b4 (parts := piecesOf zA M3.w M3.r) (by rw [pieces_join hr3]; omega) (fun x hx => pieces_ne hx)
        obtain ⟨x4, at4, p4'⟩ := at_new ok17
        have i17 := ok14.its (nm := nm) (a := b4) (piecesOf zA M3.w M3.r)
        have pl17 : (piecesOf zA M3.w M3.r).length ≤ 3000 := by
          have h := flat_len (l := piecesOf zA M3.w M3.r) (fun x hx => pieces_ne hx)
          rw [pieces_join hr3] at h
          omega
        have w17 : (M3.keep nm b4 (piecesOf zA M3.w M3.r)).wk.length ≤ 4 := by
          show (setW M3.wk nm (M3.given nm + 1)).length ≤ 4
          have := setW_len (wk := M3.wk) (nm := nm) (n := M3.given nm + 1)
          omega
        have x4l : x4.parts.flatten = zA := by rw [p4', pieces_join hr3]
        rw [g14] at at4
        clear p4'
        generalize M3.keep nm b4 (piecesOf zA M3.w M3.r) = M4 at sh17 ok17 at4 i17 w17
        walk_at "ev"
        have lb : (Str.ofString "b").cps.toList = [98] := by decide
        have hB := rok 98 3001 (by decide)
        have lB := rln 98 3001
        rw [lb]
        generalize repS [98] 3001 = zB at hB lB ⊢
        refine ⟨⟨by decide, by decide⟩, ?_⟩
        refine ⟨r1, M4, nm, zB, rfl, sh17, ok17, ng, by omega, by omega, tb1 fH17, tb2 fH17, hB, by omega, (fun h => by omega), (fun h => by omega), fun _ p H18 hp f18 hpt => ?_⟩
        walk_at "ev"
        intro pf hpf
        refine eq_wordsT (SqT.of (upd_of hpt hpf)) (SqT.of upd_same) wlg wlg ?_
        walk_at "ev"
        rw [show (true && true) = true from rfl]
        walk_at "ev"
        have f19 := f18.new (o := .tup [V.str (Str.ofString "too long"), V.bl true]) hpf
        have fH19 := fH17.trans f19
        have sh19 := sh17.fr0 f19
        rw [sM W sh19.ob (by decide +kernel)]
        refine tell (k := 4) fH19 sh19 ok17 at4 fun H20 f20 => ?_
        rw [x4l]
        walk_at "ev"
        rw [la, hzA]
        refine ⟨⟨by decide, by decide⟩, ?_⟩
        rw [decide_eq_true rfl]
        exact q _
    
end
set_option maxHeartbeats 0 in
theorem all_mk {lw : PySem.W.OpenLaw} {q : Program} {w : World} {K : PySem.W.Frag} {h : Heap} {mg : Str → Option Value} {fa : Addr} (X : K.In h) (G : h.Ns mainGlobals mg) (hfa : mg "law" = some (.ref fa)) (hT : TabsOf q K h)
    {cc_is_text P_is_text cc_is_name P_is_name : Addr}
    {f0 f1 f2 f3 f4 f5 f6 f7 f8 f9 f10 f11 f12 f13 f14 f15 f16 f17 f18 f19 f20 f21 f22 f23 f24 f25 f26 f27 f28 f29 f30 f31 f32 f33 f34 f35 f36 f37 f38 f39 f40 f41 f42 f43 f44 f45 f46 f47 f48 f49 f50 f51 f52 f53 f54 f55 f56 f57 c_Stock c_Shelf e_ShelfError e_NoSize e_NoName e_NotThere e_NoPlace e_NoText e_TooLong e_TooMany e_NoNote : Addr}
    {od0 an0 od1 an1 od2 an2 od3 an3 od4 an4 od5 an5 od6 an6 od7 an7 od8 an8 od9 an9 od10 an10 od11 an11 od12 an12 od13 an13 od14 an14 od15 an15 od16 an16 od17 an17 od18 an18 od19 an19 od20 an20 od21 an21 od22 an22 od23 an23 od24 an24 od25 an25 od26 an26 od27 an27 od28 an28 od29 an29 od30 an30 od31 an31 od32 an32 od33 an33 od34 an34 od35 an35 od36 an36 od37 an37 od38 an38 od39 an39 od40 an40 od41 an41 od42 an42 od43 an43 od44 an44 od45 an45 od46 an46 od47 an47 od48 an48 od49 an49 od50 an50 od51 an51 od52 an52 od53 an53 od54 an54 od55 an55 od56 an56 od57 an57 : Option Addr}
    {sl0 sl1 sl2 sl3 sl4 sl5 sl6 sl7 sl8 sl9 sl10 sl11 sl12 sl13 sl14 sl15 sl16 sl17 sl18 sl19 sl20 sl21 sl22 sl23 sl24 sl25 sl26 sl27 sl28 sl29 sl30 sl31 sl32 sl33 sl34 sl35 sl36 sl37 sl38 sl39 sl40 sl41 sl42 sl43 sl44 sl45 sl46 sl47 sl48 sl49 sl50 sl51 sl52 sl53 sl54 sl55 sl56 sl57 : Array (Option Value)}
    {oc0 kV0 dc0 pm0 cd0 ct0 oc1 kV1 dc1 pm1 cd1 ct1 oc2 kV2 dc2 pm2 cd2 ct2 oc3 kV3 dc3 pm3 cd3 ct3 oc4 kV4 dc4 pm4 cd4 ct4 oc5 kV5 dc5 pm5 cd5 ct5 oc6 kV6 dc6 pm6 cd6 ct6 oc7 kV7 dc7 pm7 cd7 ct7 oc8 kV8 dc8 pm8 cd8 ct8 oc9 kV9 dc9 pm9 cd9 ct9 oc10 kV10 dc10 pm10 cd10 ct10 oc11 kV11 dc11 pm11 cd11 ct11 oc12 kV12 dc12 pm12 cd12 ct12 oc13 kV13 dc13 pm13 cd13 ct13 oc14 kV14 dc14 pm14 cd14 ct14 oc15 kV15 dc15 pm15 cd15 ct15 oc16 kV16 dc16 pm16 cd16 ct16 oc17 kV17 dc17 pm17 cd17 ct17 oc18 kV18 dc18 pm18 cd18 ct18 oc19 kV19 dc19 pm19 cd19 ct19 oc20 kV20 dc20 pm20 cd20 ct20 oc21 kV21 dc21 pm21 cd21 ct21 oc22 kV22 dc22 pm22 cd22 ct22 oc23 kV23 dc23 pm23 cd23 ct23 oc24 kV24 dc24 pm24 cd24 ct24 oc25 kV25 dc25 pm25 cd25 ct25 oc26 kV26 dc26 pm26 cd26 ct26 oc27 kV27 dc27 pm27 cd27 ct27 oc28 kV28 dc28 pm28 cd28 ct28 oc29 kV29 dc29 pm29 cd29 ct29 oc30 kV30 dc30 pm30 cd30 ct30 oc31 kV31 dc31 pm31 cd31 ct31 oc32 kV32 dc32 pm32 cd32 ct32 oc33 kV33 dc33 pm33 cd33 ct33 oc34 kV34 dc34 pm34 cd34 ct34 oc35 kV35 dc35 pm35 cd35 ct35 oc36 kV36 dc36 pm36 cd36 ct36 oc37 kV37 dc37 pm37 cd37 ct37 oc38 kV38 dc38 pm38 cd38 ct38 oc39 kV39 dc39 pm39 cd39 ct39 oc40 kV40 dc40 pm40 cd40 ct40 oc41 kV41 dc41 pm41 cd41 ct41 oc42 kV42 dc42 pm42 cd42 ct42 oc43 kV43 dc43 pm43 cd43 ct43 oc44 kV44 dc44 pm44 cd44 ct44 oc45 kV45 dc45 pm45 cd45 ct45 oc46 kV46 dc46 pm46 cd46 ct46 oc47 kV47 dc47 pm47 cd47 ct47 oc48 kV48 dc48 pm48 cd48 ct48 oc49 kV49 dc49 pm49 cd49 ct49 oc50 kV50 dc50 pm50 cd50 ct50 oc51 kV51 dc51 pm51 cd51 ct51 oc52 kV52 dc52 pm52 cd52 ct52 oc53 kV53 dc53 pm53 cd53 ct53 oc54 kV54 dc54 pm54 cd54 ct54 oc55 kV55 dc55 pm55 cd55 ct55 oc56 kV56 dc56 pm56 cd56 ct56 oc57 kV57 dc57 pm57 cd57 ct57 : Value}
    {tk_WEIGHT_START tk_WEIGHT_FACTOR tk_WEIGHT_DIVISOR tk_MOST_LETTERS tk_MOST_WIDTH tk_MOST_REACH tk_PERCENT tk_MOST_SIGNS tk_MOST_VERSIONS : Tok}
    (a0 : PySem.W.nsIn K mainGlobals "weight" = some (some (.ref f0)))
    (l0 : K.lookup f0 = some ⟨oc0, od0, .func (PySem.W.fnOf "weight" "weight" (defArgs s_weight) (defBody s_weight) (defScope s_weight) .none kV0 dc0 pm0 an0 cd0 ct0), sl0⟩)
    (y0 : PySem.W.codeIn K cd0 "weight" = true)
    (k0 : PySem.W.keepIn K (.ref f0) = true)
    (a1 : PySem.W.nsIn K mainGlobals "cuts" = some (some (.ref f1)))
    (l1 : K.lookup f1 = some ⟨oc1, od1, .func (PySem.W.fnOf "cuts" "cuts" (defArgs s_cuts) (defBody s_cuts) (defScope s_cuts) .none kV1 dc1 pm1 an1 cd1 ct1), sl1⟩)
    (y1 : PySem.W.codeIn K cd1 "cuts" = true)
    (k1 : PySem.W.keepIn K (.ref f1) = true)
    (a2 : PySem.W.nsIn K mainGlobals "pieces" = some (some (.ref f2)))
    (l2 : K.lookup f2 = some ⟨oc2, od2, .func (PySem.W.fnOf "pieces" "pieces" (defArgs s_pieces) (defBody s_pieces) (defScope s_pieces) .none kV2 dc2 pm2 an2 cd2 ct2), sl2⟩)
    (y2 : PySem.W.codeIn K cd2 "pieces" = true)
    (k2 : PySem.W.keepIn K (.ref f2) = true)
    (a3 : PySem.W.nsIn K mainGlobals "_weights_by_place" = some (some (.ref f3)))
    (l3 : K.lookup f3 = some ⟨oc3, od3, .func (PySem.W.fnOf "_weights_by_place" "_weights_by_place" (defArgs s__weights_by_place) (defBody s__weights_by_place) (defScope s__weights_by_place) .none kV3 dc3 pm3 an3 cd3 ct3), sl3⟩)
    (y3 : PySem.W.codeIn K cd3 "_weights_by_place" = true)
    (k3 : PySem.W.keepIn K (.ref f3) = true)
    (a4 : PySem.W.nsIn K mainGlobals "_is_lightest" = some (some (.ref f4)))
    (l4 : K.lookup f4 = some ⟨oc4, od4, .func (PySem.W.fnOf "_is_lightest" "_is_lightest" (defArgs s__is_lightest) (defBody s__is_lightest) (defScope s__is_lightest) .none kV4 dc4 pm4 an4 cd4 ct4), sl4⟩)
    (y4 : PySem.W.codeIn K cd4 "_is_lightest" = true)
    (k4 : PySem.W.keepIn K (.ref f4) = true)
    (a5 : PySem.W.nsIn K mainGlobals "is_number" = some (some (.ref f5)))
    (l5 : K.lookup f5 = some ⟨oc5, od5, .func (PySem.W.fnOf "is_number" "is_number" (defArgs s_is_number) (defBody s_is_number) (defScope s_is_number) .none kV5 dc5 pm5 an5 cd5 ct5), sl5⟩)
    (y5 : PySem.W.codeIn K cd5 "is_number" = true)
    (k5 : PySem.W.keepIn K (.ref f5) = true)
    (a6 : PySem.W.nsIn K mainGlobals "is_width" = some (some (.ref f6)))
    (l6 : K.lookup f6 = some ⟨oc6, od6, .func (PySem.W.fnOf "is_width" "is_width" (defArgs s_is_width) (defBody s_is_width) (defScope s_is_width) .none kV6 dc6 pm6 an6 cd6 ct6), sl6⟩)
    (y6 : PySem.W.codeIn K cd6 "is_width" = true)
    (k6 : PySem.W.keepIn K (.ref f6) = true)
    (a7 : PySem.W.nsIn K mainGlobals "is_reach" = some (some (.ref f7)))
    (l7 : K.lookup f7 = some ⟨oc7, od7, .func (PySem.W.fnOf "is_reach" "is_reach" (defArgs s_is_reach) (defBody s_is_reach) (defScope s_is_reach) .none kV7 dc7 pm7 an7 cd7 ct7), sl7⟩)
    (y7 : PySem.W.codeIn K cd7 "is_reach" = true)
    (k7 : PySem.W.keepIn K (.ref f7) = true)
    (a8 : PySem.W.nsIn K mainGlobals "is_text" = some (some (.ref f8)))
    (l8 : K.lookup f8 = some ⟨oc8, od8, .func (PySem.W.fnOf "is_text" "is_text" (defArgs s_is_text) (defBody s_is_text) (defScope s_is_text) .none kV8 dc8 pm8 an8 cd8 ct8), sl8⟩)
    (y8 : PySem.W.codeIn K cd8 "is_text" = true)
    (k8 : PySem.W.keepIn K (.ref f8) = true)
    (a9 : PySem.W.nsIn K mainGlobals "is_name" = some (some (.ref f9)))
    (l9 : K.lookup f9 = some ⟨oc9, od9, .func (PySem.W.fnOf "is_name" "is_name" (defArgs s_is_name) (defBody s_is_name) (defScope s_is_name) .none kV9 dc9 pm9 an9 cd9 ct9), sl9⟩)
    (y9 : PySem.W.codeIn K cd9 "is_name" = true)
    (k9 : PySem.W.keepIn K (.ref f9) = true)
    (a10 : PySem.W.nsIn K mainGlobals "_is_sign" = some (some (.ref f10)))
    (l10 : K.lookup f10 = some ⟨oc10, od10, .func (PySem.W.fnOf "_is_sign" "_is_sign" (defArgs s__is_sign) (defBody s__is_sign) (defScope s__is_sign) .none kV10 dc10 pm10 an10 cd10 ct10), sl10⟩)
    (y10 : PySem.W.codeIn K cd10 "_is_sign" = true)
    (k10 : PySem.W.keepIn K (.ref f10) = true)
    (a11 : PySem.W.findIn K (.ref c_Stock) "__init__" = some (some (.ref f11)))
    (i11 : PySem.W.isFn K (.ref f11) = true)
    (l11 : K.lookup f11 = some ⟨oc11, od11, .func (PySem.W.fnOf "__init__" "Stock.__init__" (defArgs s_Stock___init__) (defBody s_Stock___init__) (defScope s_Stock___init__) .none kV11 dc11 pm11 an11 cd11 ct11), sl11⟩)
    (y11 : PySem.W.codeIn K cd11 "Stock.__init__" = true)
    (k11 : PySem.W.keepIn K (.ref f11) = true)
    (a12 : PySem.W.findIn K (.ref c_Stock) "need" = some (some (.ref f12)))
    (i12 : PySem.W.isFn K (.ref f12) = true)
    (l12 : K.lookup f12 = some ⟨oc12, od12, .func (PySem.W.fnOf "need" "Stock.need" (defArgs s_Stock_need) (defBody s_Stock_need) (defScope s_Stock_need) .none kV12 dc12 pm12 an12 cd12 ct12), sl12⟩)
    (y12 : PySem.W.codeIn K cd12 "Stock.need" = true)
    (k12 : PySem.W.keepIn K (.ref f12) = true)
    (a13 : PySem.W.findIn K (.ref c_Stock) "free" = some (some (.ref f13)))
    (i13 : PySem.W.isFn K (.ref f13) = true)
    (l13 : K.lookup f13 = some ⟨oc13, od13, .func (PySem.W.fnOf "free" "Stock.free" (defArgs s_Stock_free) (defBody s_Stock_free) (defScope s_Stock_free) .none kV13 dc13 pm13 an13 cd13 ct13), sl13⟩)
    (y13 : PySem.W.codeIn K cd13 "Stock.free" = true)
    (k13 : PySem.W.keepIn K (.ref f13) = true)
    (a14 : PySem.W.findIn K (.ref c_Stock) "count" = some (some (.ref f14)))
    (i14 : PySem.W.isFn K (.ref f14) = true)
    (l14 : K.lookup f14 = some ⟨oc14, od14, .func (PySem.W.fnOf "count" "Stock.count" (defArgs s_Stock_count) (defBody s_Stock_count) (defScope s_Stock_count) .none kV14 dc14 pm14 an14 cd14 ct14), sl14⟩)
    (y14 : PySem.W.codeIn K cd14 "Stock.count" = true)
    (k14 : PySem.W.keepIn K (.ref f14) = true)
    (a15 : PySem.W.findIn K (.ref c_Stock) "piece" = some (some (.ref f15)))
    (i15 : PySem.W.isFn K (.ref f15) = true)
    (l15 : K.lookup f15 = some ⟨oc15, od15, .func (PySem.W.fnOf "piece" "Stock.piece" (defArgs s_Stock_piece) (defBody s_Stock_piece) (defScope s_Stock_piece) .none kV15 dc15 pm15 an15 cd15 ct15), sl15⟩)
    (y15 : PySem.W.codeIn K cd15 "Stock.piece" = true)
    (k15 : PySem.W.keepIn K (.ref f15) = true)
    (a16 : PySem.W.findIn K (.ref c_Stock) "numbers" = some (some (.ref f16)))
    (i16 : PySem.W.isFn K (.ref f16) = true)
    (l16 : K.lookup f16 = some ⟨oc16, od16, .func (PySem.W.fnOf "numbers" "Stock.numbers" (defArgs s_Stock_numbers) (defBody s_Stock_numbers) (defScope s_Stock_numbers) .none kV16 dc16 pm16 an16 cd16 ct16), sl16⟩)
    (y16 : PySem.W.codeIn K cd16 "Stock.numbers" = true)
    (k16 : PySem.W.keepIn K (.ref f16) = true)
    (a17 : PySem.W.findIn K (.ref c_Stock) "put" = some (some (.ref f17)))
    (i17 : PySem.W.isFn K (.ref f17) = true)
    (l17 : K.lookup f17 = some ⟨oc17, od17, .func (PySem.W.fnOf "put" "Stock.put" (defArgs s_Stock_put) (defBody s_Stock_put) (defScope s_Stock_put) .none kV17 dc17 pm17 an17 cd17 ct17), sl17⟩)
    (y17 : PySem.W.codeIn K cd17 "Stock.put" = true)
    (k17 : PySem.W.keepIn K (.ref f17) = true)
    (a18 : PySem.W.findIn K (.ref c_Stock) "_is_kept" = some (some (.ref f18)))
    (i18 : PySem.W.isFn K (.ref f18) = true)
    (l18 : K.lookup f18 = some ⟨oc18, od18, .func (PySem.W.fnOf "_is_kept" "Stock._is_kept" (defArgs s_Stock__is_kept) (defBody s_Stock__is_kept) (defScope s_Stock__is_kept) .none kV18 dc18 pm18 an18 cd18 ct18), sl18⟩)
    (y18 : PySem.W.codeIn K cd18 "Stock._is_kept" = true)
    (k18 : PySem.W.keepIn K (.ref f18) = true)
    (a19 : PySem.W.findIn K (.ref c_Stock) "_check_kept" = some (some (.ref f19)))
    (i19 : PySem.W.isFn K (.ref f19) = true)
    (l19 : K.lookup f19 = some ⟨oc19, od19, .func (PySem.W.fnOf "_check_kept" "Stock._check_kept" (defArgs s_Stock__check_kept) (defBody s_Stock__check_kept) (defScope s_Stock__check_kept) .none kV19 dc19 pm19 an19 cd19 ct19), sl19⟩)
    (y19 : PySem.W.codeIn K cd19 "Stock._check_kept" = true)
    (k19 : PySem.W.keepIn K (.ref f19) = true)
    (a20 : PySem.W.findIn K (.ref c_Shelf) "__init__" = some (some (.ref f20)))
    (i20 : PySem.W.isFn K (.ref f20) = true)
    (l20 : K.lookup f20 = some ⟨oc20, od20, .func (PySem.W.fnOf "__init__" "Shelf.__init__" (defArgs s_Shelf___init__) (defBody s_Shelf___init__) (defScope s_Shelf___init__) .none kV20 dc20 pm20 an20 cd20 ct20), sl20⟩)
    (y20 : PySem.W.codeIn K cd20 "Shelf.__init__" = true)
    (k20 : PySem.W.keepIn K (.ref f20) = true)
    (a21 : PySem.W.findIn K (.ref c_Shelf) "keep" = some (some (.ref f21)))
    (i21 : PySem.W.isFn K (.ref f21) = true)
    (l21 : K.lookup f21 = some ⟨oc21, od21, .func (PySem.W.fnOf "keep" "Shelf.keep" (defArgs s_Shelf_keep) (defBody s_Shelf_keep) (defScope s_Shelf_keep) .none kV21 dc21 pm21 an21 cd21 ct21), sl21⟩)
    (y21 : PySem.W.codeIn K cd21 "Shelf.keep" = true)
    (k21 : PySem.W.keepIn K (.ref f21) = true)
    (a22 : PySem.W.findIn K (.ref c_Shelf) "drop" = some (some (.ref f22)))
    (i22 : PySem.W.isFn K (.ref f22) = true)
    (l22 : K.lookup f22 = some ⟨oc22, od22, .func (PySem.W.fnOf "drop" "Shelf.drop" (defArgs s_Shelf_drop) (defBody s_Shelf_drop) (defScope s_Shelf_drop) .none kV22 dc22 pm22 an22 cd22 ct22), sl22⟩)
    (y22 : PySem.W.codeIn K cd22 "Shelf.drop" = true)
    (k22 : PySem.W.keepIn K (.ref f22) = true)
    (a23 : PySem.W.findIn K (.ref c_Shelf) "change" = some (some (.ref f23)))
    (i23 : PySem.W.isFn K (.ref f23) = true)
    (l23 : K.lookup f23 = some ⟨oc23, od23, .func (PySem.W.fnOf "change" "Shelf.change" (defArgs s_Shelf_change) (defBody s_Shelf_change) (defScope s_Shelf_change) .none kV23 dc23 pm23 an23 cd23 ct23), sl23⟩)
    (y23 : PySem.W.codeIn K cd23 "Shelf.change" = true)
    (k23 : PySem.W.keepIn K (.ref f23) = true)
    (a24 : PySem.W.findIn K (.ref c_Shelf) "text" = some (some (.ref f24)))
    (i24 : PySem.W.isFn K (.ref f24) = true)
    (l24 : K.lookup f24 = some ⟨oc24, od24, .func (PySem.W.fnOf "text" "Shelf.text" (defArgs s_Shelf_text) (defBody s_Shelf_text) (defScope s_Shelf_text) .none kV24 dc24 pm24 an24 cd24 ct24), sl24⟩)
    (y24 : PySem.W.codeIn K cd24 "Shelf.text" = true)
    (k24 : PySem.W.keepIn K (.ref f24) = true)
    (a25 : PySem.W.findIn K (.ref c_Shelf) "row" = some (some (.ref f25)))
    (i25 : PySem.W.isFn K (.ref f25) = true)
    (l25 : K.lookup f25 = some ⟨oc25, od25, .func (PySem.W.fnOf "row" "Shelf.row" (defArgs s_Shelf_row) (defBody s_Shelf_row) (defScope s_Shelf_row) .none kV25 dc25 pm25 an25 cd25 ct25), sl25⟩)
    (y25 : PySem.W.codeIn K cd25 "Shelf.row" = true)
    (k25 : PySem.W.keepIn K (.ref f25) = true)
    (a26 : PySem.W.findIn K (.ref c_Shelf) "versions" = some (some (.ref f26)))
    (i26 : PySem.W.isFn K (.ref f26) = true)
    (l26 : K.lookup f26 = some ⟨oc26, od26, .func (PySem.W.fnOf "versions" "Shelf.versions" (defArgs s_Shelf_versions) (defBody s_Shelf_versions) (defScope s_Shelf_versions) .none kV26 dc26 pm26 an26 cd26 ct26), sl26⟩)
    (y26 : PySem.W.codeIn K cd26 "Shelf.versions" = true)
    (k26 : PySem.W.keepIn K (.ref f26) = true)
    (a27 : PySem.W.findIn K (.ref c_Shelf) "names" = some (some (.ref f27)))
    (i27 : PySem.W.isFn K (.ref f27) = true)
    (l27 : K.lookup f27 = some ⟨oc27, od27, .func (PySem.W.fnOf "names" "Shelf.names" (defArgs s_Shelf_names) (defBody s_Shelf_names) (defScope s_Shelf_names) .none kV27 dc27 pm27 an27 cd27 ct27), sl27⟩)
    (y27 : PySem.W.codeIn K cd27 "Shelf.names" = true)
    (k27 : PySem.W.keepIn K (.ref f27) = true)
    (a28 : PySem.W.findIn K (.ref c_Shelf) "pieces" = some (some (.ref f28)))
    (i28 : PySem.W.isFn K (.ref f28) = true)
    (l28 : K.lookup f28 = some ⟨oc28, od28, .func (PySem.W.fnOf "pieces" "Shelf.pieces" (defArgs s_Shelf_pieces) (defBody s_Shelf_pieces) (defScope s_Shelf_pieces) .none kV28 dc28 pm28 an28 cd28 ct28), sl28⟩)
    (y28 : PySem.W.codeIn K cd28 "Shelf.pieces" = true)
    (k28 : PySem.W.keepIn K (.ref f28) = true)
    (a29 : PySem.W.findIn K (.ref c_Shelf) "altered" = some (some (.ref f29)))
    (i29 : PySem.W.isFn K (.ref f29) = true)
    (l29 : K.lookup f29 = some ⟨oc29, od29, .func (PySem.W.fnOf "altered" "Shelf.altered" (defArgs s_Shelf_altered) (defBody s_Shelf_altered) (defScope s_Shelf_altered) .none kV29 dc29 pm29 an29 cd29 ct29), sl29⟩)
    (y29 : PySem.W.codeIn K cd29 "Shelf.altered" = true)
    (k29 : PySem.W.keepIn K (.ref f29) = true)
    (a30 : PySem.W.findIn K (.ref c_Shelf) "sizes" = some (some (.ref f30)))
    (i30 : PySem.W.isFn K (.ref f30) = true)
    (l30 : K.lookup f30 = some ⟨oc30, od30, .func (PySem.W.fnOf "sizes" "Shelf.sizes" (defArgs s_Shelf_sizes) (defBody s_Shelf_sizes) (defScope s_Shelf_sizes) .none kV30 dc30 pm30 an30 cd30 ct30), sl30⟩)
    (y30 : PySem.W.codeIn K cd30 "Shelf.sizes" = true)
    (k30 : PySem.W.keepIn K (.ref f30) = true)
    (a31 : PySem.W.findIn K (.ref c_Shelf) "greatest_piece" = some (some (.ref f31)))
    (i31 : PySem.W.isFn K (.ref f31) = true)
    (l31 : K.lookup f31 = some ⟨oc31, od31, .func (PySem.W.fnOf "greatest_piece" "Shelf.greatest_piece" (defArgs s_Shelf_greatest_piece) (defBody s_Shelf_greatest_piece) (defScope s_Shelf_greatest_piece) .none kV31 dc31 pm31 an31 cd31 ct31), sl31⟩)
    (y31 : PySem.W.codeIn K cd31 "Shelf.greatest_piece" = true)
    (k31 : PySem.W.keepIn K (.ref f31) = true)
    (a32 : PySem.W.findIn K (.ref c_Shelf) "works" = some (some (.ref f32)))
    (i32 : PySem.W.isFn K (.ref f32) = true)
    (l32 : K.lookup f32 = some ⟨oc32, od32, .func (PySem.W.fnOf "works" "Shelf.works" (defArgs s_Shelf_works) (defBody s_Shelf_works) (defScope s_Shelf_works) .none kV32 dc32 pm32 an32 cd32 ct32), sl32⟩)
    (y32 : PySem.W.codeIn K cd32 "Shelf.works" = true)
    (k32 : PySem.W.keepIn K (.ref f32) = true)
    (a33 : PySem.W.findIn K (.ref c_Shelf) "_put" = some (some (.ref f33)))
    (i33 : PySem.W.isFn K (.ref f33) = true)
    (l33 : K.lookup f33 = some ⟨oc33, od33, .func (PySem.W.fnOf "_put" "Shelf._put" (defArgs s_Shelf__put) (defBody s_Shelf__put) (defScope s_Shelf__put) .none kV33 dc33 pm33 an33 cd33 ct33), sl33⟩)
    (y33 : PySem.W.codeIn K cd33 "Shelf._put" = true)
    (k33 : PySem.W.keepIn K (.ref f33) = true)
    (a34 : PySem.W.findIn K (.ref c_Shelf) "_needed_row" = some (some (.ref f34)))
    (i34 : PySem.W.isFn K (.ref f34) = true)
    (l34 : K.lookup f34 = some ⟨oc34, od34, .func (PySem.W.fnOf "_needed_row" "Shelf._needed_row" (defArgs s_Shelf__needed_row) (defBody s_Shelf__needed_row) (defScope s_Shelf__needed_row) .none kV34 dc34 pm34 an34 cd34 ct34), sl34⟩)
    (y34 : PySem.W.codeIn K cd34 "Shelf._needed_row" = true)
    (k34 : PySem.W.keepIn K (.ref f34) = true)
    (a35 : PySem.W.findIn K (.ref c_Shelf) "_check_room" = some (some (.ref f35)))
    (i35 : PySem.W.isFn K (.ref f35) = true)
    (l35 : K.lookup f35 = some ⟨oc35, od35, .func (PySem.W.fnOf "_check_room" "Shelf._check_room" (defArgs s_Shelf__check_room) (defBody s_Shelf__check_room) (defScope s_Shelf__check_room) .none kV35 dc35 pm35 an35 cd35 ct35), sl35⟩)
    (y35 : PySem.W.codeIn K cd35 "Shelf._check_room" = true)
    (k35 : PySem.W.keepIn K (.ref f35) = true)
    (a36 : PySem.W.nsIn K mainGlobals "_check_name" = some (some (.ref f36)))
    (l36 : K.lookup f36 = some ⟨oc36, od36, .func (PySem.W.fnOf "_check_name" "_check_name" (defArgs s__check_name) (defBody s__check_name) (defScope s__check_name) .none kV36 dc36 pm36 an36 cd36 ct36), sl36⟩)
    (y36 : PySem.W.codeIn K cd36 "_check_name" = true)
    (k36 : PySem.W.keepIn K (.ref f36) = true)
    (a37 : PySem.W.nsIn K mainGlobals "_check_places" = some (some (.ref f37)))
    (l37 : K.lookup f37 = some ⟨oc37, od37, .func (PySem.W.fnOf "_check_places" "_check_places" (defArgs s__check_places) (defBody s__check_places) (defScope s__check_places) .none kV37 dc37 pm37 an37 cd37 ct37), sl37⟩)
    (y37 : PySem.W.codeIn K cd37 "_check_places" = true)
    (k37 : PySem.W.keepIn K (.ref f37) = true)
    (a38 : PySem.W.nsIn K mainGlobals "_check_text" = some (some (.ref f38)))
    (l38 : K.lookup f38 = some ⟨oc38, od38, .func (PySem.W.fnOf "_check_text" "_check_text" (defArgs s__check_text) (defBody s__check_text) (defScope s__check_text) .none kV38 dc38 pm38 an38 cd38 ct38), sl38⟩)
    (y38 : PySem.W.codeIn K cd38 "_check_text" = true)
    (k38 : PySem.W.keepIn K (.ref f38) = true)
    (a39 : PySem.W.nsIn K mainGlobals "written" = some (some (.ref f39)))
    (l39 : K.lookup f39 = some ⟨oc39, od39, .func (PySem.W.fnOf "written" "written" (defArgs s_written) (defBody s_written) (defScope s_written) .none kV39 dc39 pm39 an39 cd39 ct39), sl39⟩)
    (y39 : PySem.W.codeIn K cd39 "written" = true)
    (k39 : PySem.W.keepIn K (.ref f39) = true)
    (a40 : PySem.W.nsIn K mainGlobals "_escaped" = some (some (.ref f40)))
    (l40 : K.lookup f40 = some ⟨oc40, od40, .func (PySem.W.fnOf "_escaped" "_escaped" (defArgs s__escaped) (defBody s__escaped) (defScope s__escaped) .none kV40 dc40 pm40 an40 cd40 ct40), sl40⟩)
    (y40 : PySem.W.codeIn K cd40 "_escaped" = true)
    (k40 : PySem.W.keepIn K (.ref f40) = true)
    (a41 : PySem.W.nsIn K mainGlobals "_law_cell_at" = some (some (.ref f41)))
    (l41 : K.lookup f41 = some ⟨oc41, od41, .func (PySem.W.fnOf "_law_cell_at" "_law_cell_at" (defArgs s__law_cell_at) (defBody s__law_cell_at) (defScope s__law_cell_at) .none kV41 dc41 pm41 an41 cd41 ct41), sl41⟩)
    (y41 : PySem.W.codeIn K cd41 "_law_cell_at" = true)
    (k41 : PySem.W.keepIn K (.ref f41) = true)
    (a42 : PySem.W.nsIn K mainGlobals "_law_whole" = some (some (.ref f42)))
    (l42 : K.lookup f42 = some ⟨oc42, od42, .func (PySem.W.fnOf "_law_whole" "_law_whole" (defArgs s__law_whole) (defBody s__law_whole) (defScope s__law_whole) .none kV42 dc42 pm42 an42 cd42 ct42), sl42⟩)
    (y42 : PySem.W.codeIn K cd42 "_law_whole" = true)
    (k42 : PySem.W.keepIn K (.ref f42) = true)
    (a43 : PySem.W.nsIn K mainGlobals "_law_sign_by" = some (some (.ref f43)))
    (l43 : K.lookup f43 = some ⟨oc43, od43, .func (PySem.W.fnOf "_law_sign_by" "_law_sign_by" (defArgs s__law_sign_by) (defBody s__law_sign_by) (defScope s__law_sign_by) .none kV43 dc43 pm43 an43 cd43 ct43), sl43⟩)
    (y43 : PySem.W.codeIn K cd43 "_law_sign_by" = true)
    (k43 : PySem.W.keepIn K (.ref f43) = true)
    (a44 : PySem.W.nsIn K mainGlobals "_law_text_by" = some (some (.ref f44)))
    (l44 : K.lookup f44 = some ⟨oc44, od44, .func (PySem.W.fnOf "_law_text_by" "_law_text_by" (defArgs s__law_text_by) (defBody s__law_text_by) (defScope s__law_text_by) .none kV44 dc44 pm44 an44 cd44 ct44), sl44⟩)
    (y44 : PySem.W.codeIn K cd44 "_law_text_by" = true)
    (k44 : PySem.W.keepIn K (.ref f44) = true)
    (a45 : PySem.W.nsIn K mainGlobals "_law_alike" = some (some (.ref f45)))
    (l45 : K.lookup f45 = some ⟨oc45, od45, .func (PySem.W.fnOf "_law_alike" "_law_alike" (defArgs s__law_alike) (defBody s__law_alike) (defScope s__law_alike) .none kV45 dc45 pm45 an45 cd45 ct45), sl45⟩)
    (y45 : PySem.W.codeIn K cd45 "_law_alike" = true)
    (k45 : PySem.W.keepIn K (.ref f45) = true)
    (a46 : PySem.W.nsIn K mainGlobals "_law_width_by" = some (some (.ref f46)))
    (l46 : K.lookup f46 = some ⟨oc46, od46, .func (PySem.W.fnOf "_law_width_by" "_law_width_by" (defArgs s__law_width_by) (defBody s__law_width_by) (defScope s__law_width_by) .none kV46 dc46 pm46 an46 cd46 ct46), sl46⟩)
    (y46 : PySem.W.codeIn K cd46 "_law_width_by" = true)
    (k46 : PySem.W.keepIn K (.ref f46) = true)
    (a47 : PySem.W.nsIn K mainGlobals "_law_reach_by" = some (some (.ref f47)))
    (l47 : K.lookup f47 = some ⟨oc47, od47, .func (PySem.W.fnOf "_law_reach_by" "_law_reach_by" (defArgs s__law_reach_by) (defBody s__law_reach_by) (defScope s__law_reach_by) .none kV47 dc47 pm47 an47 cd47 ct47), sl47⟩)
    (y47 : PySem.W.codeIn K cd47 "_law_reach_by" = true)
    (k47 : PySem.W.keepIn K (.ref f47) = true)
    (a48 : PySem.W.nsIn K mainGlobals "_law_names_by" = some (some (.ref f48)))
    (l48 : K.lookup f48 = some ⟨oc48, od48, .func (PySem.W.fnOf "_law_names_by" "_law_names_by" (defArgs s__law_names_by) (defBody s__law_names_by) (defScope s__law_names_by) .none kV48 dc48 pm48 an48 cd48 ct48), sl48⟩)
    (y48 : PySem.W.codeIn K cd48 "_law_names_by" = true)
    (k48 : PySem.W.keepIn K (.ref f48) = true)
    (a49 : PySem.W.nsIn K mainGlobals "_law_word_of" = some (some (.ref f49)))
    (l49 : K.lookup f49 = some ⟨oc49, od49, .func (PySem.W.fnOf "_law_word_of" "_law_word_of" (defArgs s__law_word_of) (defBody s__law_word_of) (defScope s__law_word_of) .none kV49 dc49 pm49 an49 cd49 ct49), sl49⟩)
    (y49 : PySem.W.codeIn K cd49 "_law_word_of" = true)
    (k49 : PySem.W.keepIn K (.ref f49) = true)
    (a50 : PySem.W.nsIn K mainGlobals "_law_call" = some (some (.ref f50)))
    (l50 : K.lookup f50 = some ⟨oc50, od50, .func (PySem.W.fnOf "_law_call" "_law_call" (defArgs s__law_call) (defBody s__law_call) (defScope s__law_call) .none kV50 dc50 pm50 an50 cd50 ct50), sl50⟩)
    (y50 : PySem.W.codeIn K cd50 "_law_call" = true)
    (k50 : PySem.W.keepIn K (.ref f50) = true)
    (a51 : PySem.W.nsIn K mainGlobals "_law_last_call" = some (some (.ref f51)))
    (l51 : K.lookup f51 = some ⟨oc51, od51, .func (PySem.W.fnOf "_law_last_call" "_law_last_call" (defArgs s__law_last_call) (defBody s__law_last_call) (defScope s__law_last_call) .none kV51 dc51 pm51 an51 cd51 ct51), sl51⟩)
    (y51 : PySem.W.codeIn K cd51 "_law_last_call" = true)
    (k51 : PySem.W.keepIn K (.ref f51) = true)
    (a52 : PySem.W.nsIn K mainGlobals "_law_far_call" = some (some (.ref f52)))
    (l52 : K.lookup f52 = some ⟨oc52, od52, .func (PySem.W.fnOf "_law_far_call" "_law_far_call" (defArgs s__law_far_call) (defBody s__law_far_call) (defScope s__law_far_call) .none kV52 dc52 pm52 an52 cd52 ct52), sl52⟩)
    (y52 : PySem.W.codeIn K cd52 "_law_far_call" = true)
    (k52 : PySem.W.keepIn K (.ref f52) = true)
    (a53 : PySem.W.nsIn K mainGlobals "_law_word" = some (some (.ref f53)))
    (l53 : K.lookup f53 = some ⟨oc53, od53, .func (PySem.W.fnOf "_law_word" "_law_word" (defArgs s__law_word) (defBody s__law_word) (defScope s__law_word) .none kV53 dc53 pm53 an53 cd53 ct53), sl53⟩)
    (y53 : PySem.W.codeIn K cd53 "_law_word" = true)
    (k53 : PySem.W.keepIn K (.ref f53) = true)
    (a54 : PySem.W.nsIn K mainGlobals "_law_answer" = some (some (.ref f54)))
    (l54 : K.lookup f54 = some ⟨oc54, od54, .func (PySem.W.fnOf "_law_answer" "_law_answer" (defArgs s__law_answer) (defBody s__law_answer) (defScope s__law_answer) .none kV54 dc54 pm54 an54 cd54 ct54), sl54⟩)
    (y54 : PySem.W.codeIn K cd54 "_law_answer" = true)
    (k54 : PySem.W.keepIn K (.ref f54) = true)
    (a55 : PySem.W.nsIn K mainGlobals "_law_many" = some (some (.ref f55)))
    (l55 : K.lookup f55 = some ⟨oc55, od55, .func (PySem.W.fnOf "_law_many" "_law_many" (defArgs s__law_many) (defBody s__law_many) (defScope s__law_many) .none kV55 dc55 pm55 an55 cd55 ct55), sl55⟩)
    (y55 : PySem.W.codeIn K cd55 "_law_many" = true)
    (k55 : PySem.W.keepIn K (.ref f55) = true)
    (a56 : PySem.W.nsIn K mainGlobals "_law_held" = some (some (.ref f56)))
    (l56 : K.lookup f56 = some ⟨oc56, od56, .func (PySem.W.fnOf "_law_held" "_law_held" (defArgs s__law_held) (defBody s__law_held) (defScope s__law_held) .none kV56 dc56 pm56 an56 cd56 ct56), sl56⟩)
    (y56 : PySem.W.codeIn K cd56 "_law_held" = true)
    (k56 : PySem.W.keepIn K (.ref f56) = true)
    (a57 : PySem.W.nsIn K mainGlobals "law" = some (some (.ref f57)))
    (l57 : K.lookup f57 = some ⟨oc57, od57, .func (PySem.W.fnOf "law" "law" (defArgs s_law) (defBody s_law) (defScope s_law) .none kV57 dc57 pm57 an57 cd57 ct57), sl57⟩)
    (y57 : PySem.W.codeIn K cd57 "law" = true)
    (k57 : PySem.W.keepIn K (.ref f57) = true)
    (aa_pieces_cutting : PySem.W.nsIn K mainGlobals "pieces_cutting" = some (some (.ref f2)))
    (ca_Stock : PySem.W.nsIn K mainGlobals "Stock" = some (some (.ref c_Stock)))
    (cp_Stock : PySem.W.plainGet K c_Stock Str.empty = true)
    (ch_Stock : PySem.W.hasDictIn K c_Stock = true)
    (co_Stock : PySem.W.plainOver K c_Stock = true)
    (cs_Stock : PySem.W.findIn K (.ref c_Stock) "__setattr__" = some (some (.builtin "object.__setattr__")))
    (cm_Stock : PySem.W.makesIn K c_Stock = true)
    (ck_Stock : PySem.W.keepIn K (.ref c_Stock) = true)
    (cn_Stock_greatest : PySem.W.findIn K (.ref c_Stock) "greatest" = some none)
    (cn_Stock__texts : PySem.W.findIn K (.ref c_Stock) "_texts" = some none)
    (cn_Stock__counts : PySem.W.findIn K (.ref c_Stock) "_counts" = some none)
    (cn_Stock__numbers : PySem.W.findIn K (.ref c_Stock) "_numbers" = some none)
    (ca_Shelf : PySem.W.nsIn K mainGlobals "Shelf" = some (some (.ref c_Shelf)))
    (cp_Shelf : PySem.W.plainGet K c_Shelf Str.empty = true)
    (ch_Shelf : PySem.W.hasDictIn K c_Shelf = true)
    (co_Shelf : PySem.W.plainOver K c_Shelf = true)
    (cs_Shelf : PySem.W.findIn K (.ref c_Shelf) "__setattr__" = some (some (.builtin "object.__setattr__")))
    (cm_Shelf : PySem.W.makesIn K c_Shelf = true)
    (ck_Shelf : PySem.W.keepIn K (.ref c_Shelf) = true)
    (cn_Shelf__width : PySem.W.findIn K (.ref c_Shelf) "_width" = some none)
    (cn_Shelf__reach : PySem.W.findIn K (.ref c_Shelf) "_reach" = some none)
    (cn_Shelf__stock : PySem.W.findIn K (.ref c_Shelf) "_stock" = some none)
    (cn_Shelf__works : PySem.W.findIn K (.ref c_Shelf) "_works" = some none)
    (cn_Shelf__rows : PySem.W.findIn K (.ref c_Shelf) "_rows" = some none)
    (ea_ShelfError : PySem.W.nsIn K mainGlobals "ShelfError" = some (some (.ref e_ShelfError)))
    (ex_ShelfError : PySem.W.excIn K e_ShelfError [.type "ValueError", .type "Exception", .type "BaseException", .type "object"] "ValueError.__new__" = true)
    (ek_ShelfError : PySem.W.keepIn K (.ref e_ShelfError) = true)
    (eb_ShelfError : PySem.W.subIn K (.ref e_ShelfError) (.type "BaseException") = some true)
    (et_ShelfError : PySem.W.typeIn K (.ref e_ShelfError) = some (.type "type"))
    (eh_ShelfError : PySem.W.hasDictIn K e_ShelfError = true)
    (ea_NoSize : PySem.W.nsIn K mainGlobals "NoSize" = some (some (.ref e_NoSize)))
    (ex_NoSize : PySem.W.excIn K e_NoSize [.type "ValueError", .type "Exception", .type "BaseException", .type "object"] "ValueError.__new__" = true)
    (ek_NoSize : PySem.W.keepIn K (.ref e_NoSize) = true)
    (eb_NoSize : PySem.W.subIn K (.ref e_NoSize) (.type "BaseException") = some true)
    (et_NoSize : PySem.W.typeIn K (.ref e_NoSize) = some (.type "type"))
    (eh_NoSize : PySem.W.hasDictIn K e_NoSize = true)
    (ea_NoName : PySem.W.nsIn K mainGlobals "NoName" = some (some (.ref e_NoName)))
    (ex_NoName : PySem.W.excIn K e_NoName [.type "ValueError", .type "Exception", .type "BaseException", .type "object"] "ValueError.__new__" = true)
    (ek_NoName : PySem.W.keepIn K (.ref e_NoName) = true)
    (eb_NoName : PySem.W.subIn K (.ref e_NoName) (.type "BaseException") = some true)
    (et_NoName : PySem.W.typeIn K (.ref e_NoName) = some (.type "type"))
    (eh_NoName : PySem.W.hasDictIn K e_NoName = true)
    (ea_NotThere : PySem.W.nsIn K mainGlobals "NotThere" = some (some (.ref e_NotThere)))
    (ex_NotThere : PySem.W.excIn K e_NotThere [.type "ValueError", .type "Exception", .type "BaseException", .type "object"] "ValueError.__new__" = true)
    (ek_NotThere : PySem.W.keepIn K (.ref e_NotThere) = true)
    (eb_NotThere : PySem.W.subIn K (.ref e_NotThere) (.type "BaseException") = some true)
    (et_NotThere : PySem.W.typeIn K (.ref e_NotThere) = some (.type "type"))
    (eh_NotThere : PySem.W.hasDictIn K e_NotThere = true)
    (ea_NoPlace : PySem.W.nsIn K mainGlobals "NoPlace" = some (some (.ref e_NoPlace)))
    (ex_NoPlace : PySem.W.excIn K e_NoPlace [.type "ValueError", .type "Exception", .type "BaseException", .type "object"] "ValueError.__new__" = true)
    (ek_NoPlace : PySem.W.keepIn K (.ref e_NoPlace) = true)
    (eb_NoPlace : PySem.W.subIn K (.ref e_NoPlace) (.type "BaseException") = some true)
    (et_NoPlace : PySem.W.typeIn K (.ref e_NoPlace) = some (.type "type"))
    (eh_NoPlace : PySem.W.hasDictIn K e_NoPlace = true)
    (ea_NoText : PySem.W.nsIn K mainGlobals "NoText" = some (some (.ref e_NoText)))
    (ex_NoText : PySem.W.excIn K e_NoText [.type "ValueError", .type "Exception", .type "BaseException", .type "object"] "ValueError.__new__" = true)
    (ek_NoText : PySem.W.keepIn K (.ref e_NoText) = true)
    (eb_NoText : PySem.W.subIn K (.ref e_NoText) (.type "BaseException") = some true)
    (et_NoText : PySem.W.typeIn K (.ref e_NoText) = some (.type "type"))
    (eh_NoText : PySem.W.hasDictIn K e_NoText = true)
    (ea_TooLong : PySem.W.nsIn K mainGlobals "TooLong" = some (some (.ref e_TooLong)))
    (ex_TooLong : PySem.W.excIn K e_TooLong [.type "ValueError", .type "Exception", .type "BaseException", .type "object"] "ValueError.__new__" = true)
    (ek_TooLong : PySem.W.keepIn K (.ref e_TooLong) = true)
    (eb_TooLong : PySem.W.subIn K (.ref e_TooLong) (.type "BaseException") = some true)
    (et_TooLong : PySem.W.typeIn K (.ref e_TooLong) = some (.type "type"))
    (eh_TooLong : PySem.W.hasDictIn K e_TooLong = true)
    (ea_TooMany : PySem.W.nsIn K mainGlobals "TooMany" = some (some (.ref e_TooMany)))
    (ex_TooMany : PySem.W.excIn K e_TooMany [.type "ValueError", .type "Exception", .type "BaseException", .type "object"] "ValueError.__new__" = true)
    (ek_TooMany : PySem.W.keepIn K (.ref e_TooMany) = true)
    (eb_TooMany : PySem.W.subIn K (.ref e_TooMany) (.type "BaseException") = some true)
    (et_TooMany : PySem.W.typeIn K (.ref e_TooMany) = some (.type "type"))
    (eh_TooMany : PySem.W.hasDictIn K e_TooMany = true)
    (ea_NoNote : PySem.W.nsIn K mainGlobals "NoNote" = some (some (.ref e_NoNote)))
    (ex_NoNote : PySem.W.excIn K e_NoNote [.type "ValueError", .type "Exception", .type "BaseException", .type "object"] "ValueError.__new__" = true)
    (ek_NoNote : PySem.W.keepIn K (.ref e_NoNote) = true)
    (eb_NoNote : PySem.W.subIn K (.ref e_NoNote) (.type "BaseException") = some true)
    (et_NoNote : PySem.W.typeIn K (.ref e_NoNote) = some (.type "type"))
    (eh_NoNote : PySem.W.hasDictIn K e_NoNote = true)
    (xn : PySem.W.specialIn K (.builtin "object.__class__") "__get__" = some (some (.builtin "getset_descriptor.__get__")))
    (xt : PySem.W.takesIn K (.builtin "object.__class__") = some true)
    (xhg_NoSize : PySem.W.findIn K (.ref e_NoSize) "__getattribute__" = some (some (.builtin "BaseException.__getattribute__")))
    (xhk_NoSize : PySem.W.findIn K (.ref e_NoSize) "__getattr__" = some none)
    (xha_NoSize : PySem.W.findIn K (.ref e_NoSize) "__class__" = some (some (.builtin "object.__class__")))
    (xhm_NoSize : PySem.W.mroIn K e_NoSize (.type "object") = some true)
    (xv_NoSize : PySem.W.subIn K (.ref e_NoSize) (.type "ValueError") = some true)
    (xhg_NoName : PySem.W.findIn K (.ref e_NoName) "__getattribute__" = some (some (.builtin "BaseException.__getattribute__")))
    (xhk_NoName : PySem.W.findIn K (.ref e_NoName) "__getattr__" = some none)
    (xha_NoName : PySem.W.findIn K (.ref e_NoName) "__class__" = some (some (.builtin "object.__class__")))
    (xhm_NoName : PySem.W.mroIn K e_NoName (.type "object") = some true)
    (xv_NoName : PySem.W.subIn K (.ref e_NoName) (.type "ValueError") = some true)
    (xhg_NotThere : PySem.W.findIn K (.ref e_NotThere) "__getattribute__" = some (some (.builtin "BaseException.__getattribute__")))
    (xhk_NotThere : PySem.W.findIn K (.ref e_NotThere) "__getattr__" = some none)
    (xha_NotThere : PySem.W.findIn K (.ref e_NotThere) "__class__" = some (some (.builtin "object.__class__")))
    (xhm_NotThere : PySem.W.mroIn K e_NotThere (.type "object") = some true)
    (xv_NotThere : PySem.W.subIn K (.ref e_NotThere) (.type "ValueError") = some true)
    (xhg_NoPlace : PySem.W.findIn K (.ref e_NoPlace) "__getattribute__" = some (some (.builtin "BaseException.__getattribute__")))
    (xhk_NoPlace : PySem.W.findIn K (.ref e_NoPlace) "__getattr__" = some none)
    (xha_NoPlace : PySem.W.findIn K (.ref e_NoPlace) "__class__" = some (some (.builtin "object.__class__")))
    (xhm_NoPlace : PySem.W.mroIn K e_NoPlace (.type "object") = some true)
    (xv_NoPlace : PySem.W.subIn K (.ref e_NoPlace) (.type "ValueError") = some true)
    (xhg_NoText : PySem.W.findIn K (.ref e_NoText) "__getattribute__" = some (some (.builtin "BaseException.__getattribute__")))
    (xhk_NoText : PySem.W.findIn K (.ref e_NoText) "__getattr__" = some none)
    (xha_NoText : PySem.W.findIn K (.ref e_NoText) "__class__" = some (some (.builtin "object.__class__")))
    (xhm_NoText : PySem.W.mroIn K e_NoText (.type "object") = some true)
    (xv_NoText : PySem.W.subIn K (.ref e_NoText) (.type "ValueError") = some true)
    (xhg_TooLong : PySem.W.findIn K (.ref e_TooLong) "__getattribute__" = some (some (.builtin "BaseException.__getattribute__")))
    (xhk_TooLong : PySem.W.findIn K (.ref e_TooLong) "__getattr__" = some none)
    (xha_TooLong : PySem.W.findIn K (.ref e_TooLong) "__class__" = some (some (.builtin "object.__class__")))
    (xhm_TooLong : PySem.W.mroIn K e_TooLong (.type "object") = some true)
    (xv_TooLong : PySem.W.subIn K (.ref e_TooLong) (.type "ValueError") = some true)
    (xhg_TooMany : PySem.W.findIn K (.ref e_TooMany) "__getattribute__" = some (some (.builtin "BaseException.__getattribute__")))
    (xhk_TooMany : PySem.W.findIn K (.ref e_TooMany) "__getattr__" = some none)
    (xha_TooMany : PySem.W.findIn K (.ref e_TooMany) "__class__" = some (some (.builtin "object.__class__")))
    (xhm_TooMany : PySem.W.mroIn K e_TooMany (.type "object") = some true)
    (xv_TooMany : PySem.W.subIn K (.ref e_TooMany) (.type "ValueError") = some true)
    (s_NoSize_NoSize : PySem.W.subIn K (.ref e_NoSize) (.ref e_NoSize) = some true)
    (s_NoSize_NoName : PySem.W.subIn K (.ref e_NoSize) (.ref e_NoName) = some false)
    (u_NoSize_NoName : e_NoSize ≠ e_NoName)
    (s_NoSize_NotThere : PySem.W.subIn K (.ref e_NoSize) (.ref e_NotThere) = some false)
    (u_NoSize_NotThere : e_NoSize ≠ e_NotThere)
    (s_NoSize_NoPlace : PySem.W.subIn K (.ref e_NoSize) (.ref e_NoPlace) = some false)
    (u_NoSize_NoPlace : e_NoSize ≠ e_NoPlace)
    (s_NoSize_NoText : PySem.W.subIn K (.ref e_NoSize) (.ref e_NoText) = some false)
    (u_NoSize_NoText : e_NoSize ≠ e_NoText)
    (s_NoSize_TooLong : PySem.W.subIn K (.ref e_NoSize) (.ref e_TooLong) = some false)
    (u_NoSize_TooLong : e_NoSize ≠ e_TooLong)
    (s_NoSize_TooMany : PySem.W.subIn K (.ref e_NoSize) (.ref e_TooMany) = some false)
    (u_NoSize_TooMany : e_NoSize ≠ e_TooMany)
    (s_NoSize_NoNote : PySem.W.subIn K (.ref e_NoSize) (.ref e_NoNote) = some false)
    (u_NoSize_NoNote : e_NoSize ≠ e_NoNote)
    (s_NoSize_ShelfError : PySem.W.subIn K (.ref e_NoSize) (.ref e_ShelfError) = some true)
    (s_NoName_NoSize : PySem.W.subIn K (.ref e_NoName) (.ref e_NoSize) = some false)
    (u_NoName_NoSize : e_NoName ≠ e_NoSize)
    (s_NoName_NoName : PySem.W.subIn K (.ref e_NoName) (.ref e_NoName) = some true)
    (s_NoName_NotThere : PySem.W.subIn K (.ref e_NoName) (.ref e_NotThere) = some false)
    (u_NoName_NotThere : e_NoName ≠ e_NotThere)
    (s_NoName_NoPlace : PySem.W.subIn K (.ref e_NoName) (.ref e_NoPlace) = some false)
    (u_NoName_NoPlace : e_NoName ≠ e_NoPlace)
    (s_NoName_NoText : PySem.W.subIn K (.ref e_NoName) (.ref e_NoText) = some false)
    (u_NoName_NoText : e_NoName ≠ e_NoText)
    (s_NoName_TooLong : PySem.W.subIn K (.ref e_NoName) (.ref e_TooLong) = some false)
    (u_NoName_TooLong : e_NoName ≠ e_TooLong)
    (s_NoName_TooMany : PySem.W.subIn K (.ref e_NoName) (.ref e_TooMany) = some false)
    (u_NoName_TooMany : e_NoName ≠ e_TooMany)
    (s_NoName_NoNote : PySem.W.subIn K (.ref e_NoName) (.ref e_NoNote) = some false)
    (u_NoName_NoNote : e_NoName ≠ e_NoNote)
    (s_NoName_ShelfError : PySem.W.subIn K (.ref e_NoName) (.ref e_ShelfError) = some true)
    (s_NotThere_NoSize : PySem.W.subIn K (.ref e_NotThere) (.ref e_NoSize) = some false)
    (u_NotThere_NoSize : e_NotThere ≠ e_NoSize)
    (s_NotThere_NoName : PySem.W.subIn K (.ref e_NotThere) (.ref e_NoName) = some false)
    (u_NotThere_NoName : e_NotThere ≠ e_NoName)
    (s_NotThere_NotThere : PySem.W.subIn K (.ref e_NotThere) (.ref e_NotThere) = some true)
    (s_NotThere_NoPlace : PySem.W.subIn K (.ref e_NotThere) (.ref e_NoPlace) = some false)
    (u_NotThere_NoPlace : e_NotThere ≠ e_NoPlace)
    (s_NotThere_NoText : PySem.W.subIn K (.ref e_NotThere) (.ref e_NoText) = some false)
    (u_NotThere_NoText : e_NotThere ≠ e_NoText)
    (s_NotThere_TooLong : PySem.W.subIn K (.ref e_NotThere) (.ref e_TooLong) = some false)
    (u_NotThere_TooLong : e_NotThere ≠ e_TooLong)
    (s_NotThere_TooMany : PySem.W.subIn K (.ref e_NotThere) (.ref e_TooMany) = some false)
    (u_NotThere_TooMany : e_NotThere ≠ e_TooMany)
    (s_NotThere_NoNote : PySem.W.subIn K (.ref e_NotThere) (.ref e_NoNote) = some false)
    (u_NotThere_NoNote : e_NotThere ≠ e_NoNote)
    (s_NotThere_ShelfError : PySem.W.subIn K (.ref e_NotThere) (.ref e_ShelfError) = some true)
    (s_NoPlace_NoSize : PySem.W.subIn K (.ref e_NoPlace) (.ref e_NoSize) = some false)
    (u_NoPlace_NoSize : e_NoPlace ≠ e_NoSize)
    (s_NoPlace_NoName : PySem.W.subIn K (.ref e_NoPlace) (.ref e_NoName) = some false)
    (u_NoPlace_NoName : e_NoPlace ≠ e_NoName)
    (s_NoPlace_NotThere : PySem.W.subIn K (.ref e_NoPlace) (.ref e_NotThere) = some false)
    (u_NoPlace_NotThere : e_NoPlace ≠ e_NotThere)
    (s_NoPlace_NoPlace : PySem.W.subIn K (.ref e_NoPlace) (.ref e_NoPlace) = some true)
    (s_NoPlace_NoText : PySem.W.subIn K (.ref e_NoPlace) (.ref e_NoText) = some false)
    (u_NoPlace_NoText : e_NoPlace ≠ e_NoText)
    (s_NoPlace_TooLong : PySem.W.subIn K (.ref e_NoPlace) (.ref e_TooLong) = some false)
    (u_NoPlace_TooLong : e_NoPlace ≠ e_TooLong)
    (s_NoPlace_TooMany : PySem.W.subIn K (.ref e_NoPlace) (.ref e_TooMany) = some false)
    (u_NoPlace_TooMany : e_NoPlace ≠ e_TooMany)
    (s_NoPlace_NoNote : PySem.W.subIn K (.ref e_NoPlace) (.ref e_NoNote) = some false)
    (u_NoPlace_NoNote : e_NoPlace ≠ e_NoNote)
    (s_NoPlace_ShelfError : PySem.W.subIn K (.ref e_NoPlace) (.ref e_ShelfError) = some true)
    (s_NoText_NoSize : PySem.W.subIn K (.ref e_NoText) (.ref e_NoSize) = some false)
    (u_NoText_NoSize : e_NoText ≠ e_NoSize)
    (s_NoText_NoName : PySem.W.subIn K (.ref e_NoText) (.ref e_NoName) = some false)
    (u_NoText_NoName : e_NoText ≠ e_NoName)
    (s_NoText_NotThere : PySem.W.subIn K (.ref e_NoText) (.ref e_NotThere) = some false)
    (u_NoText_NotThere : e_NoText ≠ e_NotThere)
    (s_NoText_NoPlace : PySem.W.subIn K (.ref e_NoText) (.ref e_NoPlace) = some false)
    (u_NoText_NoPlace : e_NoText ≠ e_NoPlace)
    (s_NoText_NoText : PySem.W.subIn K (.ref e_NoText) (.ref e_NoText) = some true)
    (s_NoText_TooLong : PySem.W.subIn K (.ref e_NoText) (.ref e_TooLong) = some false)
    (u_NoText_TooLong : e_NoText ≠ e_TooLong)
    (s_NoText_TooMany : PySem.W.subIn K (.ref e_NoText) (.ref e_TooMany) = some false)
    (u_NoText_TooMany : e_NoText ≠ e_TooMany)
    (s_NoText_NoNote : PySem.W.subIn K (.ref e_NoText) (.ref e_NoNote) = some false)
    (u_NoText_NoNote : e_NoText ≠ e_NoNote)
    (s_NoText_ShelfError : PySem.W.subIn K (.ref e_NoText) (.ref e_ShelfError) = some true)
    (s_TooLong_NoSize : PySem.W.subIn K (.ref e_TooLong) (.ref e_NoSize) = some false)
    (u_TooLong_NoSize : e_TooLong ≠ e_NoSize)
    (s_TooLong_NoName : PySem.W.subIn K (.ref e_TooLong) (.ref e_NoName) = some false)
    (u_TooLong_NoName : e_TooLong ≠ e_NoName)
    (s_TooLong_NotThere : PySem.W.subIn K (.ref e_TooLong) (.ref e_NotThere) = some false)
    (u_TooLong_NotThere : e_TooLong ≠ e_NotThere)
    (s_TooLong_NoPlace : PySem.W.subIn K (.ref e_TooLong) (.ref e_NoPlace) = some false)
    (u_TooLong_NoPlace : e_TooLong ≠ e_NoPlace)
    (s_TooLong_NoText : PySem.W.subIn K (.ref e_TooLong) (.ref e_NoText) = some false)
    (u_TooLong_NoText : e_TooLong ≠ e_NoText)
    (s_TooLong_TooLong : PySem.W.subIn K (.ref e_TooLong) (.ref e_TooLong) = some true)
    (s_TooLong_TooMany : PySem.W.subIn K (.ref e_TooLong) (.ref e_TooMany) = some false)
    (u_TooLong_TooMany : e_TooLong ≠ e_TooMany)
    (s_TooLong_NoNote : PySem.W.subIn K (.ref e_TooLong) (.ref e_NoNote) = some false)
    (u_TooLong_NoNote : e_TooLong ≠ e_NoNote)
    (s_TooLong_ShelfError : PySem.W.subIn K (.ref e_TooLong) (.ref e_ShelfError) = some true)
    (s_TooMany_NoSize : PySem.W.subIn K (.ref e_TooMany) (.ref e_NoSize) = some false)
    (u_TooMany_NoSize : e_TooMany ≠ e_NoSize)
    (s_TooMany_NoName : PySem.W.subIn K (.ref e_TooMany) (.ref e_NoName) = some false)
    (u_TooMany_NoName : e_TooMany ≠ e_NoName)
    (s_TooMany_NotThere : PySem.W.subIn K (.ref e_TooMany) (.ref e_NotThere) = some false)
    (u_TooMany_NotThere : e_TooMany ≠ e_NotThere)
    (s_TooMany_NoPlace : PySem.W.subIn K (.ref e_TooMany) (.ref e_NoPlace) = some false)
    (u_TooMany_NoPlace : e_TooMany ≠ e_NoPlace)
    (s_TooMany_NoText : PySem.W.subIn K (.ref e_TooMany) (.ref e_NoText) = some false)
    (u_TooMany_NoText : e_TooMany ≠ e_NoText)
    (s_TooMany_TooLong : PySem.W.subIn K (.ref e_TooMany) (.ref e_TooLong) = some false)
    (u_TooMany_TooLong : e_TooMany ≠ e_TooLong)
    (s_TooMany_TooMany : PySem.W.subIn K (.ref e_TooMany) (.ref e_TooMany) = some true)
    (s_TooMany_NoNote : PySem.W.subIn K (.ref e_TooMany) (.ref e_NoNote) = some false)
    (u_TooMany_NoNote : e_TooMany ≠ e_NoNote)
    (s_TooMany_ShelfError : PySem.W.subIn K (.ref e_TooMany) (.ref e_ShelfError) = some true)
    (g_WEIGHT_START : PySem.W.nsIn K mainGlobals "WEIGHT_START" = some (some (.int 7 tk_WEIGHT_START)))
    (g_WEIGHT_FACTOR : PySem.W.nsIn K mainGlobals "WEIGHT_FACTOR" = some (some (.int 131 tk_WEIGHT_FACTOR)))
    (g_WEIGHT_DIVISOR : PySem.W.nsIn K mainGlobals "WEIGHT_DIVISOR" = some (some (.int 65521 tk_WEIGHT_DIVISOR)))
    (g_MOST_LETTERS : PySem.W.nsIn K mainGlobals "MOST_LETTERS" = some (some (.int 12 tk_MOST_LETTERS)))
    (g_MOST_WIDTH : PySem.W.nsIn K mainGlobals "MOST_WIDTH" = some (some (.int 8 tk_MOST_WIDTH)))
    (g_MOST_REACH : PySem.W.nsIn K mainGlobals "MOST_REACH" = some (some (.int 40 tk_MOST_REACH)))
    (g_PERCENT : PySem.W.nsIn K mainGlobals "PERCENT" = some (some (.int 37 tk_PERCENT)))
    (g_MOST_SIGNS : PySem.W.nsIn K mainGlobals "MOST_SIGNS" = some (some (.int 3000 tk_MOST_SIGNS)))
    (g_MOST_VERSIONS : PySem.W.nsIn K mainGlobals "MOST_VERSIONS" = some (some (.int 100 tk_MOST_VERSIONS)))
    (z_all : PySem.W.nsIn K mainGlobals "all" = some none)
    (z_bool : PySem.W.nsIn K mainGlobals "bool" = some none)
    (z_int : PySem.W.nsIn K mainGlobals "int" = some none)
    (z_isinstance : PySem.W.nsIn K mainGlobals "isinstance" = some none)
    (z_len : PySem.W.nsIn K mainGlobals "len" = some none)
    (z_list : PySem.W.nsIn K mainGlobals "list" = some none)
    (z_max : PySem.W.nsIn K mainGlobals "max" = some none)
    (z_min : PySem.W.nsIn K mainGlobals "min" = some none)
    (z_ord : PySem.W.nsIn K mainGlobals "ord" = some none)
    (z_range : PySem.W.nsIn K mainGlobals "range" = some none)
    (z_set : PySem.W.nsIn K mainGlobals "set" = some none)
    (z_sorted : PySem.W.nsIn K mainGlobals "sorted" = some none)
    (z_str : PySem.W.nsIn K mainGlobals "str" = some none)
    (z_sum : PySem.W.nsIn K mainGlobals "sum" = some none)
    (z_tuple : PySem.W.nsIn K mainGlobals "tuple" = some none)
    (z_zip : PySem.W.nsIn K mainGlobals "zip" = some none)
    (z_ValueError : PySem.W.nsIn K mainGlobals "ValueError" = some none)
    (tb_is_text : PySem.W.tabIn K "is_text" = some (cc_is_text, P_is_text))
    (hc_is_text : cd8 = .ref cc_is_text)
    (nP_is_text : K.lookup P_is_text = none)
    (rec_is_text : ((PyProof.Rows.recsOf q).any fun e => e.name == "is_text") = true)
    (tb_is_name : PySem.W.tabIn K "is_name" = some (cc_is_name, P_is_name))
    (hc_is_name : cd9 = .ref cc_is_name)
    (nP_is_name : K.lookup P_is_name = none)
    (rec_is_name : ((PyProof.Rows.recsOf q).any fun e => e.name == "is_name") = true)
    : LamX.LawAtS lw w K (L2.CX lw.prog w) 12 63 "_law_script" mg fa h := by
  have e := hfa.symm.trans (PySem.W.mg_of X G a57)
  cases e
  have F0 := fun_mk (st := s_weight) l0 y0 k0
  have b0 := F0.binds (ps := ["signs"]) fun _ _ _ _ _ _ us hl => match us, hl with | [_], _ => rfl
  have F1 := fun_mk (st := s_cuts) l1 y1 k1
  have b1 := F1.binds (ps := ["text", "width", "reach"]) fun _ _ _ _ _ _ us hl => match us, hl with | [_, _, _], _ => rfl
  have F2 := fun_mk (st := s_pieces) l2 y2 k2
  have b2 := F2.binds (ps := ["text", "width", "reach"]) fun _ _ _ _ _ _ us hl => match us, hl with | [_, _, _], _ => rfl
  have F3 := fun_mk (st := s__weights_by_place) l3 y3 k3
  have b3 := F3.binds (ps := ["text", "width"]) fun _ _ _ _ _ _ us hl => match us, hl with | [_, _], _ => rfl
  have F4 := fun_mk (st := s__is_lightest) l4 y4 k4
  have b4 := F4.binds (ps := ["weights", "place", "reach"]) fun _ _ _ _ _ _ us hl => match us, hl with | [_, _, _], _ => rfl
  have F5 := fun_mk (st := s_is_number) l5 y5 k5
  have b5 := F5.binds (ps := ["thing"]) fun _ _ _ _ _ _ us hl => match us, hl with | [_], _ => rfl
  have F6 := fun_mk (st := s_is_width) l6 y6 k6
  have b6 := F6.binds (ps := ["thing"]) fun _ _ _ _ _ _ us hl => match us, hl with | [_], _ => rfl
  have F7 := fun_mk (st := s_is_reach) l7 y7 k7
  have b7 := F7.binds (ps := ["thing"]) fun _ _ _ _ _ _ us hl => match us, hl with | [_], _ => rfl
  have F8 := fun_mk (st := s_is_text) l8 y8 k8
  have b8 := F8.binds (ps := ["thing"]) fun _ _ _ _ _ _ us hl => match us, hl with | [_], _ => rfl
  have F9 := fun_mk (st := s_is_name) l9 y9 k9
  have b9 := F9.binds (ps := ["thing"]) fun _ _ _ _ _ _ us hl => match us, hl with | [_], _ => rfl
  have F10 := fun_mk (st := s__is_sign) l10 y10 k10
  have b10 := F10.binds (ps := ["sign"]) fun _ _ _ _ _ _ us hl => match us, hl with | [_], _ => rfl
  have F11 := fun_mk (st := s_Stock___init__) l11 y11 k11
  have b11 := F11.binds (ps := ["self"]) fun _ _ _ _ _ _ us hl => match us, hl with | [_], _ => rfl
  have F12 := fun_mk (st := s_Stock_need) l12 y12 k12
  have b12 := F12.binds (ps := ["self", "text"]) fun _ _ _ _ _ _ us hl => match us, hl with | [_, _], _ => rfl
  have F13 := fun_mk (st := s_Stock_free) l13 y13 k13
  have b13 := F13.binds (ps := ["self", "number"]) fun _ _ _ _ _ _ us hl => match us, hl with | [_, _], _ => rfl
  have F14 := fun_mk (st := s_Stock_count) l14 y14 k14
  have b14 := F14.binds (ps := ["self", "number"]) fun _ _ _ _ _ _ us hl => match us, hl with | [_, _], _ => rfl
  have F15 := fun_mk (st := s_Stock_piece) l15 y15 k15
  have b15 := F15.binds (ps := ["self", "number"]) fun _ _ _ _ _ _ us hl => match us, hl with | [_, _], _ => rfl
  have F16 := fun_mk (st := s_Stock_numbers) l16 y16 k16
  have b16 := F16.binds (ps := ["self"]) fun _ _ _ _ _ _ us hl => match us, hl with | [_], _ => rfl
  have F17 := fun_mk (st := s_Stock_put) l17 y17 k17
  have b17 := F17.binds (ps := ["self", "number", "text", "count"]) fun _ _ _ _ _ _ us hl => match us, hl with | [_, _, _, _], _ => rfl
  have F18 := fun_mk (st := s_Stock__is_kept) l18 y18 k18
  have b18 := F18.binds (ps := ["self", "number"]) fun _ _ _ _ _ _ us hl => match us, hl with | [_, _], _ => rfl
  have F19 := fun_mk (st := s_Stock__check_kept) l19 y19 k19
  have b19 := F19.binds (ps := ["self", "number"]) fun _ _ _ _ _ _ us hl => match us, hl with | [_, _], _ => rfl
  have F20 := fun_mk (st := s_Shelf___init__) l20 y20 k20
  have b20 := F20.binds (ps := ["self", "width", "reach"]) fun _ _ _ _ _ _ us hl => match us, hl with | [_, _, _], _ => rfl
  have F21 := fun_mk (st := s_Shelf_keep) l21 y21 k21
  have b21 := F21.binds (ps := ["self", "name", "text"]) fun _ _ _ _ _ _ us hl => match us, hl with | [_, _, _], _ => rfl
  have F22 := fun_mk (st := s_Shelf_drop) l22 y22 k22
  have b22 := F22.binds (ps := ["self", "name", "number"]) fun _ _ _ _ _ _ us hl => match us, hl with | [_, _, _], _ => rfl
  have F23 := fun_mk (st := s_Shelf_change) l23 y23 k23
  have b23 := F23.binds (ps := ["self", "name", "number", "start", "end", "text"]) fun _ _ _ _ _ _ us hl => match us, hl with | [_, _, _, _, _, _], _ => rfl
  have F24 := fun_mk (st := s_Shelf_text) l24 y24 k24
  have b24 := F24.binds (ps := ["self", "name", "number"]) fun _ _ _ _ _ _ us hl => match us, hl with | [_, _, _], _ => rfl
  have F25 := fun_mk (st := s_Shelf_row) l25 y25 k25
  have b25 := F25.binds (ps := ["self", "name", "number"]) fun _ _ _ _ _ _ us hl => match us, hl with | [_, _, _], _ => rfl
  have F26 := fun_mk (st := s_Shelf_versions) l26 y26 k26
  have b26 := F26.binds (ps := ["self", "name"]) fun _ _ _ _ _ _ us hl => match us, hl with | [_, _], _ => rfl
  have F27 := fun_mk (st := s_Shelf_names) l27 y27 k27
  have b27 := F27.binds (ps := ["self"]) fun _ _ _ _ _ _ us hl => match us, hl with | [_], _ => rfl
  have F28 := fun_mk (st := s_Shelf_pieces) l28 y28 k28
  have b28 := F28.binds (ps := ["self"]) fun _ _ _ _ _ _ us hl => match us, hl with | [_], _ => rfl
  have F29 := fun_mk (st := s_Shelf_altered) l29 y29 k29
  have b29 := F29.binds (ps := ["self", "name", "one", "other"]) fun _ _ _ _ _ _ us hl => match us, hl with | [_, _, _, _], _ => rfl
  have F30 := fun_mk (st := s_Shelf_sizes) l30 y30 k30
  have b30 := F30.binds (ps := ["self"]) fun _ _ _ _ _ _ us hl => match us, hl with | [_], _ => rfl
  have F31 := fun_mk (st := s_Shelf_greatest_piece) l31 y31 k31
  have b31 := F31.binds (ps := ["self"]) fun _ _ _ _ _ _ us hl => match us, hl with | [_], _ => rfl
  have F32 := fun_mk (st := s_Shelf_works) l32 y32 k32
  have b32 := F32.binds (ps := ["self"]) fun _ _ _ _ _ _ us hl => match us, hl with | [_], _ => rfl
  have F33 := fun_mk (st := s_Shelf__put) l33 y33 k33
  have b33 := F33.binds (ps := ["self", "name", "text"]) fun _ _ _ _ _ _ us hl => match us, hl with | [_, _, _], _ => rfl
  have F34 := fun_mk (st := s_Shelf__needed_row) l34 y34 k34
  have b34 := F34.binds (ps := ["self", "text"]) fun _ _ _ _ _ _ us hl => match us, hl with | [_, _], _ => rfl
  have F35 := fun_mk (st := s_Shelf__check_room) l35 y35 k35
  have b35 := F35.binds (ps := ["self", "text"]) fun _ _ _ _ _ _ us hl => match us, hl with | [_, _], _ => rfl
  have F36 := fun_mk (st := s__check_name) l36 y36 k36
  have b36 := F36.binds (ps := ["name"]) fun _ _ _ _ _ _ us hl => match us, hl with | [_], _ => rfl
  have F37 := fun_mk (st := s__check_places) l37 y37 k37
  have b37 := F37.binds (ps := ["start", "end", "signs"]) fun _ _ _ _ _ _ us hl => match us, hl with | [_, _, _], _ => rfl
  have F38 := fun_mk (st := s__check_text) l38 y38 k38
  have b38 := F38.binds (ps := ["text"]) fun _ _ _ _ _ _ us hl => match us, hl with | [_], _ => rfl
  have F39 := fun_mk (st := s_written) l39 y39 k39
  have b39 := F39.binds (ps := ["shelf"]) fun _ _ _ _ _ _ us hl => match us, hl with | [_], _ => rfl
  have F40 := fun_mk (st := s__escaped) l40 y40 k40
  have b40 := F40.binds (ps := ["text"]) fun _ _ _ _ _ _ us hl => match us, hl with | [_], _ => rfl
  have F41 := fun_mk (st := s__law_cell_at) l41 y41 k41
  have b41 := F41.binds (ps := ["_law_script", "_law_k"]) fun _ _ _ _ _ _ us hl => match us, hl with | [_, _], _ => rfl
  have F42 := fun_mk (st := s__law_whole) l42 y42 k42
  have b42 := F42.binds (ps := ["_law_got"]) fun _ _ _ _ _ _ us hl => match us, hl with | [_], _ => rfl
  have F43 := fun_mk (st := s__law_sign_by) l43 y43 k43
  have b43 := F43.binds (ps := ["_law_cell"]) fun _ _ _ _ _ _ us hl => match us, hl with | [_], _ => rfl
  have F44 := fun_mk (st := s__law_text_by) l44 y44 k44
  have b44 := F44.binds (ps := ["_law_cell", "_law_size"]) fun _ _ _ _ _ _ us hl => match us, hl with | [_, _], _ => rfl
  have F45 := fun_mk (st := s__law_alike) l45 y45 k45
  have b45 := F45.binds (ps := ["_law_got", "_law_due"]) fun _ _ _ _ _ _ us hl => match us, hl with | [_, _], _ => rfl
  have F46 := fun_mk (st := s__law_width_by) l46 y46 k46
  have b46 := F46.binds (ps := ["_law_cell"]) fun _ _ _ _ _ _ us hl => match us, hl with | [_], _ => rfl
  have F47 := fun_mk (st := s__law_reach_by) l47 y47 k47
  have b47 := F47.binds (ps := ["_law_cell"]) fun _ _ _ _ _ _ us hl => match us, hl with | [_], _ => rfl
  have F48 := fun_mk (st := s__law_names_by) l48 y48 k48
  have b48 := F48.binds (ps := ["_law_cell"]) fun _ _ _ _ _ _ us hl => match us, hl with | [_], _ => rfl
  have F49 := fun_mk (st := s__law_word_of) l49 y49 k49
  have b49 := F49.binds (ps := ["_law_e"]) fun _ _ _ _ _ _ us hl => match us, hl with | [_], _ => rfl
  have F50 := fun_mk (st := s__law_call) l50 y50 k50
  have b50 := F50.binds (ps := ["_law_shelf", "_law_way", "_law_name", "_law_size"]) fun _ _ _ _ _ _ us hl => match us, hl with | [_, _, _, _], _ => rfl
  have F51 := fun_mk (st := s__law_last_call) l51 y51 k51
  have b51 := F51.binds (ps := ["_law_shelf", "_law_way", "_law_name", "_law_size"]) fun _ _ _ _ _ _ us hl => match us, hl with | [_, _, _, _], _ => rfl
  have F52 := fun_mk (st := s__law_far_call) l52 y52 k52
  have b52 := F52.binds (ps := ["_law_shelf", "_law_way", "_law_name", "_law_size"]) fun _ _ _ _ _ _ us hl => match us, hl with | [_, _, _, _], _ => rfl
  have F53 := fun_mk (st := s__law_word) l53 y53 k53
  have b53 := F53.binds (ps := ["_law_way"]) fun _ _ _ _ _ _ us hl => match us, hl with | [_], _ => rfl
  have F54 := fun_mk (st := s__law_answer) l54 y54 k54
  have b54 := F54.binds (ps := ["_law_shelf", "_law_way", "_law_name", "_law_size"]) fun _ _ _ _ _ _ us hl => match us, hl with | [_, _, _, _], _ => rfl
  have F55 := fun_mk (st := s__law_many) l55 y55 k55
  have b55 := F55.binds (ps := ["_law_shelf", "_law_name", "_law_due"]) fun _ _ _ _ _ _ us hl => match us, hl with | [_, _, _], _ => rfl
  have F56 := fun_mk (st := s__law_held) l56 y56 k56
  have b56 := F56.binds (ps := ["_law_shelf", "_law_name"]) fun _ _ _ _ _ _ us hl => match us, hl with | [_, _], _ => rfl
  have F57 := fun_mk (st := s_law) l57 y57 k57
  have b57 := F57.binds (ps := ["_law_script"]) fun _ _ _ _ _ _ us hl => match us, hl with | [_], _ => rfl
  have tbf : ∀ {base : Heap} {c P : Addr}, (∀ p ∈ [(cc_is_text, P_is_text), (cc_is_name, P_is_name)], LamX.TabB base mg p.1 p.2) → (c, P) ∈ [(cc_is_text, P_is_text), (cc_is_name, P_is_name)] → GxR.TabB base mg c P := fun h m => ⟨(h _ m).code, (h _ m).bm, (h _ m).gP⟩
  refine ⟨PySem.W.fnOf "law" "law" (defArgs s_law) (defBody s_law) (defScope s_law) .none kV57 dc57 pm57 an57 cd57 ct57, [(cc_is_text, P_is_text), (cc_is_name, P_is_name)], sp_law K P_is_text P_is_name, ?_, ?_, ?_, fun s v => .of_eq rfl, fun H a ns hl _ hH hS => ⟨a, ns, rfl, hS, hl, fun _ => rfl, hH (cc_is_text, P_is_text) (by simp), hH (cc_is_name, P_is_name) (by simp)⟩, fun base _ _ hTB => ok_law (⟨_, _, F0, b0, PySem.W.mg_of X G a0, _, _, F1, b1, PySem.W.mg_of X G a1, _, _, F2, b2, PySem.W.mg_of X G a2, _, _, F3, b3, PySem.W.mg_of X G a3, _, _, F4, b4, PySem.W.mg_of X G a4, _, _, F5, b5, PySem.W.mg_of X G a5, _, _, F6, b6, PySem.W.mg_of X G a6, _, _, F7, b7, PySem.W.mg_of X G a7, _, _, F8, b8, PySem.W.mg_of X G a8, _, _, hc_is_text, tbf hTB (by simp), _, _, F9, b9, PySem.W.mg_of X G a9, _, _, hc_is_name, tbf hTB (by simp), _, _, F10, b10, PySem.W.mg_of X G a10, _, _, F11, b11, _, _, F12, b12, _, _, F13, b13, _, _, F14, b14, _, _, F15, b15, _, _, F16, b16, _, _, F17, b17, _, _, F18, b18, _, _, F19, b19, _, _, F20, b20, _, _, F21, b21, _, _, F22, b22, _, _, F23, b23, _, _, F24, b24, _, _, F25, b25, _, _, F26, b26, _, _, F27, b27, _, _, F28, b28, _, _, F29, b29, _, _, F30, b30, _, _, F31, b31, _, _, F32, b32, _, _, F33, b33, _, _, F34, b34, _, _, F35, b35, _, _, F36, b36, PySem.W.mg_of X G a36, _, _, F37, b37, PySem.W.mg_of X G a37, _, _, F38, b38, PySem.W.mg_of X G a38, _, _, F39, b39, PySem.W.mg_of X G a39, _, _, F40, b40, PySem.W.mg_of X G a40, _, _, F41, b41, PySem.W.mg_of X G a41, _, _, F42, b42, PySem.W.mg_of X G a42, _, _, F43, b43, PySem.W.mg_of X G a43, _, _, F44, b44, PySem.W.mg_of X G a44, _, _, F45, b45, PySem.W.mg_of X G a45, _, _, F46, b46, PySem.W.mg_of X G a46, _, _, F47, b47, PySem.W.mg_of X G a47, _, _, F48, b48, PySem.W.mg_of X G a48, _, _, F49, b49, PySem.W.mg_of X G a49, _, _, F50, b50, PySem.W.mg_of X G a50, _, _, F51, b51, PySem.W.mg_of X G a51, _, _, F52, b52, PySem.W.mg_of X G a52, _, _, F53, b53, PySem.W.mg_of X G a53, _, _, F54, b54, PySem.W.mg_of X G a54, _, _, F55, b55, PySem.W.mg_of X G a55, _, _, F56, b56, PySem.W.mg_of X G a56, _, _, F57, b57, PySem.W.mg_of X G a57, PySem.W.mg_of X G aa_pieces_cutting, _, ⟨cp_Stock, ch_Stock, co_Stock, cs_Stock⟩, PySem.W.mg_of X G ca_Stock, ⟨cm_Stock, a11, i11, ck_Stock⟩, cn_Stock_greatest, cn_Stock__texts, cn_Stock__counts, cn_Stock__numbers, ⟨a12, i12, k12⟩, ⟨a13, i13, k13⟩, ⟨a14, i14, k14⟩, ⟨a15, i15, k15⟩, ⟨a16, i16, k16⟩, ⟨a17, i17, k17⟩, ⟨a18, i18, k18⟩, ⟨a19, i19, k19⟩, _, ⟨cp_Shelf, ch_Shelf, co_Shelf, cs_Shelf⟩, PySem.W.mg_of X G ca_Shelf, ⟨cm_Shelf, a20, i20, ck_Shelf⟩, cn_Shelf__width, cn_Shelf__reach, cn_Shelf__stock, cn_Shelf__works, cn_Shelf__rows, ⟨a21, i21, k21⟩, ⟨a22, i22, k22⟩, ⟨a23, i23, k23⟩, ⟨a24, i24, k24⟩, ⟨a25, i25, k25⟩, ⟨a26, i26, k26⟩, ⟨a27, i27, k27⟩, ⟨a28, i28, k28⟩, ⟨a29, i29, k29⟩, ⟨a30, i30, k30⟩, ⟨a31, i31, k31⟩, ⟨a32, i32, k32⟩, ⟨a33, i33, k33⟩, ⟨a34, i34, k34⟩, ⟨a35, i35, k35⟩, _, ⟨PySem.W.mg_of X G ea_ShelfError, ex_ShelfError, ek_ShelfError, eb_ShelfError, et_ShelfError, eh_ShelfError⟩, _, ⟨PySem.W.mg_of X G ea_NoSize, ex_NoSize, ek_NoSize, eb_NoSize, et_NoSize, eh_NoSize⟩, _, ⟨PySem.W.mg_of X G ea_NoName, ex_NoName, ek_NoName, eb_NoName, et_NoName, eh_NoName⟩, _, ⟨PySem.W.mg_of X G ea_NotThere, ex_NotThere, ek_NotThere, eb_NotThere, et_NotThere, eh_NotThere⟩, _, ⟨PySem.W.mg_of X G ea_NoPlace, ex_NoPlace, ek_NoPlace, eb_NoPlace, et_NoPlace, eh_NoPlace⟩, _, ⟨PySem.W.mg_of X G ea_NoText, ex_NoText, ek_NoText, eb_NoText, et_NoText, eh_NoText⟩, _, ⟨PySem.W.mg_of X G ea_TooLong, ex_TooLong, ek_TooLong, eb_TooLong, et_TooLong, eh_TooLong⟩, _, ⟨PySem.W.mg_of X G ea_TooMany, ex_TooMany, ek_TooMany, eb_TooMany, et_TooMany, eh_TooMany⟩, _, ⟨PySem.W.mg_of X G ea_NoNote, ex_NoNote, ek_NoNote, eb_NoNote, et_NoNote, eh_NoNote⟩, ⟨xhg_NoSize, xhk_NoSize, eb_NoSize, eh_NoSize, xha_NoSize, xn, xt, xhm_NoSize⟩, kit_VE xv_NoSize, ⟨xhg_NoName, xhk_NoName, eb_NoName, eh_NoName, xha_NoName, xn, xt, xhm_NoName⟩, kit_VE xv_NoName, ⟨xhg_NotThere, xhk_NotThere, eb_NotThere, eh_NotThere, xha_NotThere, xn, xt, xhm_NotThere⟩, kit_VE xv_NotThere, ⟨xhg_NoPlace, xhk_NoPlace, eb_NoPlace, eh_NoPlace, xha_NoPlace, xn, xt, xhm_NoPlace⟩, kit_VE xv_NoPlace, ⟨xhg_NoText, xhk_NoText, eb_NoText, eh_NoText, xha_NoText, xn, xt, xhm_NoText⟩, kit_VE xv_NoText, ⟨xhg_TooLong, xhk_TooLong, eb_TooLong, eh_TooLong, xha_TooLong, xn, xt, xhm_TooLong⟩, kit_VE xv_TooLong, ⟨xhg_TooMany, xhk_TooMany, eb_TooMany, eh_TooMany, xha_TooMany, xn, xt, xhm_TooMany⟩, kit_VE xv_TooMany, s_NoSize_NoSize, s_NoSize_NoName, u_NoSize_NoName, s_NoSize_NotThere, u_NoSize_NotThere, s_NoSize_NoPlace, u_NoSize_NoPlace, s_NoSize_NoText, u_NoSize_NoText, s_NoSize_TooLong, u_NoSize_TooLong, s_NoSize_TooMany, u_NoSize_TooMany, s_NoSize_NoNote, u_NoSize_NoNote, s_NoSize_ShelfError, s_NoName_NoSize, u_NoName_NoSize, s_NoName_NoName, s_NoName_NotThere, u_NoName_NotThere, s_NoName_NoPlace, u_NoName_NoPlace, s_NoName_NoText, u_NoName_NoText, s_NoName_TooLong, u_NoName_TooLong, s_NoName_TooMany, u_NoName_TooMany, s_NoName_NoNote, u_NoName_NoNote, s_NoName_ShelfError, s_NotThere_NoSize, u_NotThere_NoSize, s_NotThere_NoName, u_NotThere_NoName, s_NotThere_NotThere, s_NotThere_NoPlace, u_NotThere_NoPlace, s_NotThere_NoText, u_NotThere_NoText, s_NotThere_TooLong, u_NotThere_TooLong, s_NotThere_TooMany, u_NotThere_TooMany, s_NotThere_NoNote, u_NotThere_NoNote, s_NotThere_ShelfError, s_NoPlace_NoSize, u_NoPlace_NoSize, s_NoPlace_NoName, u_NoPlace_NoName, s_NoPlace_NotThere, u_NoPlace_NotThere, s_NoPlace_NoPlace, s_NoPlace_NoText, u_NoPlace_NoText, s_NoPlace_TooLong, u_NoPlace_TooLong, s_NoPlace_TooMany, u_NoPlace_TooMany, s_NoPlace_NoNote, u_NoPlace_NoNote, s_NoPlace_ShelfError, s_NoText_NoSize, u_NoText_NoSize, s_NoText_NoName, u_NoText_NoName, s_NoText_NotThere, u_NoText_NotThere, s_NoText_NoPlace, u_NoText_NoPlace, s_NoText_NoText, s_NoText_TooLong, u_NoText_TooLong, s_NoText_TooMany, u_NoText_TooMany, s_NoText_NoNote, u_NoText_NoNote, s_NoText_ShelfError, s_TooLong_NoSize, u_TooLong_NoSize, s_TooLong_NoName, u_TooLong_NoName, s_TooLong_NotThere, u_TooLong_NotThere, s_TooLong_NoPlace, u_TooLong_NoPlace, s_TooLong_NoText, u_TooLong_NoText, s_TooLong_TooLong, s_TooLong_TooMany, u_TooLong_TooMany, s_TooLong_NoNote, u_TooLong_NoNote, s_TooLong_ShelfError, s_TooMany_NoSize, u_TooMany_NoSize, s_TooMany_NoName, u_TooMany_NoName, s_TooMany_NotThere, u_TooMany_NotThere, s_TooMany_NoPlace, u_TooMany_NoPlace, s_TooMany_NoText, u_TooMany_NoText, s_TooMany_TooLong, u_TooMany_TooLong, s_TooMany_TooMany, s_TooMany_NoNote, u_TooMany_NoNote, s_TooMany_ShelfError, _, PySem.W.mg_of X G g_WEIGHT_START, _, PySem.W.mg_of X G g_WEIGHT_FACTOR, _, PySem.W.mg_of X G g_WEIGHT_DIVISOR, _, PySem.W.mg_of X G g_MOST_LETTERS, _, PySem.W.mg_of X G g_MOST_WIDTH, _, PySem.W.mg_of X G g_MOST_REACH, _, PySem.W.mg_of X G g_PERCENT, _, PySem.W.mg_of X G g_MOST_SIGNS, _, PySem.W.mg_of X G g_MOST_VERSIONS, PySem.W.mg_none_of X G z_all, PySem.W.mg_none_of X G z_bool, PySem.W.mg_none_of X G z_int, PySem.W.mg_none_of X G z_isinstance, PySem.W.mg_none_of X G z_len, PySem.W.mg_none_of X G z_list, PySem.W.mg_none_of X G z_max, PySem.W.mg_none_of X G z_min, PySem.W.mg_none_of X G z_ord, PySem.W.mg_none_of X G z_range, PySem.W.mg_none_of X G z_set, PySem.W.mg_none_of X G z_sorted, PySem.W.mg_none_of X G z_str, PySem.W.mg_none_of X G z_sum, PySem.W.mg_none_of X G z_tuple, PySem.W.mg_none_of X G z_zip, PySem.W.mg_none_of X G z_ValueError⟩ : Wd K mg base)⟩
  · intro p hp
    simp only [List.mem_cons, List.not_mem_nil, or_false] at hp
    rcases hp with rfl | rfl
    · exact (hT _ _ _ rec_is_text tb_is_text).2
    · exact (hT _ _ _ rec_is_name tb_is_name).2
  · intro p hp
    simp only [List.mem_cons, List.not_mem_nil, or_false] at hp
    rcases hp with rfl | rfl
    · exact nP_is_text
    · exact nP_is_name
  · intro p hp
    simp only [List.mem_cons, List.not_mem_nil, or_false] at hp
    rcases hp with rfl | rfl
    · exact (hT _ _ _ rec_is_text tb_is_text).1
    · exact (hT _ _ _ rec_is_name tb_is_name).1
end My
open PySem PySem.W PyProof.Rows
set_option maxHeartbeats 0 in
theorem PySem.Challenge.cw_chunkshelf_k09_refused_holds : PySem.Challenge.rw_chunkshelf_k09_refused.Holds := by
  w_on; o_law; k_head; (case hw => w_witness2)
  k_fill
  refine Y.walk_ofTb (l := PySem.Challenge.rw_chunkshelf_k09_refused) (n := 63) (k := 12) (x := "_law_script") (CX := fun w => L2.CX (PySem.Challenge.rw_chunkshelf_k09_refused).prog w) rfl (by decide) rfl ⟨rfl, by decide, by decide⟩ (fun w h Y => PySem.W.kIn_of Y) ?F (fun _ _ _ _ _ h => by obtain ⟨_, _, _, _, _, _, _, _, _, _, _, _, z⟩ := h; exact z.elim)
  case F =>
    intro w mg fa h _ KX G hmg hT
    refine' My.all_mk KX G hmg hT ?a0 ?l0 ?y0 ?k0 ?a1 ?l1 ?y1 ?k1 ?a2 ?l2 ?y2 ?k2 ?a3 ?l3 ?y3 ?k3 ?a4 ?l4 ?y4 ?k4 ?a5 ?l5 ?y5 ?k5 ?a6 ?l6 ?y6 ?k6 ?a7 ?l7 ?y7 ?k7 ?a8 ?l8 ?y8 ?k8 ?a9 ?l9 ?y9 ?k9 ?a10 ?l10 ?y10 ?k10 ?a11 ?i11 ?l11 ?y11 ?k11 ?a12 ?i12 ?l12 ?y12 ?k12 ?a13 ?i13 ?l13 ?y13 ?k13 ?a14 ?i14 ?l14 ?y14 ?k14 ?a15 ?i15 ?l15 ?y15 ?k15 ?a16 ?i16 ?l16 ?y16 ?k16 ?a17 ?i17 ?l17 ?y17 ?k17 ?a18 ?i18 ?l18 ?y18 ?k18 ?a19 ?i19 ?l19 ?y19 ?k19 ?a20 ?i20 ?l20 ?y20 ?k20 ?a21 ?i21 ?l21 ?y21 ?k21 ?a22 ?i22 ?l22 ?y22 ?k22 ?a23 ?i23 ?l23 ?y23 ?k23 ?a24 ?i24 ?l24 ?y24 ?k24 ?a25 ?i25 ?l25 ?y25 ?k25 ?a26 ?i26 ?l26 ?y26 ?k26 ?a27 ?i27 ?l27 ?y27 ?k27 ?a28 ?i28 ?l28 ?y28 ?k28 ?a29 ?i29 ?l29 ?y29 ?k29 ?a30 ?i30 ?l30 ?y30 ?k30 ?a31 ?i31 ?l31 ?y31 ?k31 ?a32 ?i32 ?l32 ?y32 ?k32 ?a33 ?i33 ?l33 ?y33 ?k33 ?a34 ?i34 ?l34 ?y34 ?k34 ?a35 ?i35 ?l35 ?y35 ?k35 ?a36 ?l36 ?y36 ?k36 ?a37 ?l37 ?y37 ?k37 ?a38 ?l38 ?y38 ?k38 ?a39 ?l39 ?y39 ?k39 ?a40 ?l40 ?y40 ?k40 ?a41 ?l41 ?y41 ?k41 ?a42 ?l42 ?y42 ?k42 ?a43 ?l43 ?y43 ?k43 ?a44 ?l44 ?y44 ?k44 ?a45 ?l45 ?y45 ?k45 ?a46 ?l46 ?y46 ?k46 ?a47 ?l47 ?y47 ?k47 ?a48 ?l48 ?y48 ?k48 ?a49 ?l49 ?y49 ?k49 ?a50 ?l50 ?y50 ?k50 ?a51 ?l51 ?y51 ?k51 ?a52 ?l52 ?y52 ?k52 ?a53 ?l53 ?y53 ?k53 ?a54 ?l54 ?y54 ?k54 ?a55 ?l55 ?y55 ?k55 ?a56 ?l56 ?y56 ?k56 ?a57 ?l57 ?y57 ?k57 ?aa_pieces_cutting ?ca_Stock ?cp_Stock ?ch_Stock ?co_Stock ?cs_Stock ?cm_Stock ?ck_Stock ?cn_Stock_greatest ?cn_Stock__texts ?cn_Stock__counts ?cn_Stock__numbers ?ca_Shelf ?cp_Shelf ?ch_Shelf ?co_Shelf ?cs_Shelf ?cm_Shelf ?ck_Shelf ?cn_Shelf__width ?cn_Shelf__reach ?cn_Shelf__stock ?cn_Shelf__works ?cn_Shelf__rows ?ea_ShelfError ?ex_ShelfError ?ek_ShelfError ?eb_ShelfError ?et_ShelfError ?eh_ShelfError ?ea_NoSize ?ex_NoSize ?ek_NoSize ?eb_NoSize ?et_NoSize ?eh_NoSize ?ea_NoName ?ex_NoName ?ek_NoName ?eb_NoName ?et_NoName ?eh_NoName ?ea_NotThere ?ex_NotThere ?ek_NotThere ?eb_NotThere ?et_NotThere ?eh_NotThere ?ea_NoPlace ?ex_NoPlace ?ek_NoPlace ?eb_NoPlace ?et_NoPlace ?eh_NoPlace ?ea_NoText ?ex_NoText ?ek_NoText ?eb_NoText ?et_NoText ?eh_NoText ?ea_TooLong ?ex_TooLong ?ek_TooLong ?eb_TooLong ?et_TooLong ?eh_TooLong ?ea_TooMany ?ex_TooMany ?ek_TooMany ?eb_TooMany ?et_TooMany ?eh_TooMany ?ea_NoNote ?ex_NoNote ?ek_NoNote ?eb_NoNote ?et_NoNote ?eh_NoNote ?xn ?xt ?xhg_NoSize ?xhk_NoSize ?xha_NoSize ?xhm_NoSize ?xv_NoSize ?xhg_NoName ?xhk_NoName ?xha_NoName ?xhm_NoName ?xv_NoName ?xhg_NotThere ?xhk_NotThere ?xha_NotThere ?xhm_NotThere ?xv_NotThere ?xhg_NoPlace ?xhk_NoPlace ?xha_NoPlace ?xhm_NoPlace ?xv_NoPlace ?xhg_NoText ?xhk_NoText ?xha_NoText ?xhm_NoText ?xv_NoText ?xhg_TooLong ?xhk_TooLong ?xha_TooLong ?xhm_TooLong ?xv_TooLong ?xhg_TooMany ?xhk_TooMany ?xha_TooMany ?xhm_TooMany ?xv_TooMany ?s_NoSize_NoSize ?s_NoSize_NoName ?u_NoSize_NoName ?s_NoSize_NotThere ?u_NoSize_NotThere ?s_NoSize_NoPlace ?u_NoSize_NoPlace ?s_NoSize_NoText ?u_NoSize_NoText ?s_NoSize_TooLong ?u_NoSize_TooLong ?s_NoSize_TooMany ?u_NoSize_TooMany ?s_NoSize_NoNote ?u_NoSize_NoNote ?s_NoSize_ShelfError ?s_NoName_NoSize ?u_NoName_NoSize ?s_NoName_NoName ?s_NoName_NotThere ?u_NoName_NotThere ?s_NoName_NoPlace ?u_NoName_NoPlace ?s_NoName_NoText ?u_NoName_NoText ?s_NoName_TooLong ?u_NoName_TooLong ?s_NoName_TooMany ?u_NoName_TooMany ?s_NoName_NoNote ?u_NoName_NoNote ?s_NoName_ShelfError ?s_NotThere_NoSize ?u_NotThere_NoSize ?s_NotThere_NoName ?u_NotThere_NoName ?s_NotThere_NotThere ?s_NotThere_NoPlace ?u_NotThere_NoPlace ?s_NotThere_NoText ?u_NotThere_NoText ?s_NotThere_TooLong ?u_NotThere_TooLong ?s_NotThere_TooMany ?u_NotThere_TooMany ?s_NotThere_NoNote ?u_NotThere_NoNote ?s_NotThere_ShelfError ?s_NoPlace_NoSize ?u_NoPlace_NoSize ?s_NoPlace_NoName ?u_NoPlace_NoName ?s_NoPlace_NotThere ?u_NoPlace_NotThere ?s_NoPlace_NoPlace ?s_NoPlace_NoText ?u_NoPlace_NoText ?s_NoPlace_TooLong ?u_NoPlace_TooLong ?s_NoPlace_TooMany ?u_NoPlace_TooMany ?s_NoPlace_NoNote ?u_NoPlace_NoNote ?s_NoPlace_ShelfError ?s_NoText_NoSize ?u_NoText_NoSize ?s_NoText_NoName ?u_NoText_NoName ?s_NoText_NotThere ?u_NoText_NotThere ?s_NoText_NoPlace ?u_NoText_NoPlace ?s_NoText_NoText ?s_NoText_TooLong ?u_NoText_TooLong ?s_NoText_TooMany ?u_NoText_TooMany ?s_NoText_NoNote ?u_NoText_NoNote ?s_NoText_ShelfError ?s_TooLong_NoSize ?u_TooLong_NoSize ?s_TooLong_NoName ?u_TooLong_NoName ?s_TooLong_NotThere ?u_TooLong_NotThere ?s_TooLong_NoPlace ?u_TooLong_NoPlace ?s_TooLong_NoText ?u_TooLong_NoText ?s_TooLong_TooLong ?s_TooLong_TooMany ?u_TooLong_TooMany ?s_TooLong_NoNote ?u_TooLong_NoNote ?s_TooLong_ShelfError ?s_TooMany_NoSize ?u_TooMany_NoSize ?s_TooMany_NoName ?u_TooMany_NoName ?s_TooMany_NotThere ?u_TooMany_NotThere ?s_TooMany_NoPlace ?u_TooMany_NoPlace ?s_TooMany_NoText ?u_TooMany_NoText ?s_TooMany_TooLong ?u_TooMany_TooLong ?s_TooMany_TooMany ?s_TooMany_NoNote ?u_TooMany_NoNote ?s_TooMany_ShelfError ?g_WEIGHT_START ?g_WEIGHT_FACTOR ?g_WEIGHT_DIVISOR ?g_MOST_LETTERS ?g_MOST_WIDTH ?g_MOST_REACH ?g_PERCENT ?g_MOST_SIGNS ?g_MOST_VERSIONS ?z_all ?z_bool ?z_int ?z_isinstance ?z_len ?z_list ?z_max ?z_min ?z_ord ?z_range ?z_set ?z_sorted ?z_str ?z_sum ?z_tuple ?z_zip ?z_ValueError ?tb_is_text ?hc_is_text ?nP_is_text ?rec_is_text ?tb_is_name ?hc_is_name ?nP_is_name ?rec_is_name
    (case a0 => k_is)
    (case a1 => k_is)
    (case a2 => k_is)
    (case a3 => k_is)
    (case a4 => k_is)
    (case a5 => k_is)
    (case a6 => k_is)
    (case a7 => k_is)
    (case a8 => k_is)
    (case a9 => k_is)
    (case a10 => k_is)
    (case a36 => k_is)
    (case a37 => k_is)
    (case a38 => k_is)
    (case a39 => k_is)
    (case a40 => k_is)
    (case a41 => k_is)
    (case a42 => k_is)
    (case a43 => k_is)
    (case a44 => k_is)
    (case a45 => k_is)
    (case a46 => k_is)
    (case a47 => k_is)
    (case a48 => k_is)
    (case a49 => k_is)
    (case a50 => k_is)
    (case a51 => k_is)
    (case a52 => k_is)
    (case a53 => k_is)
    (case a54 => k_is)
    (case a55 => k_is)
    (case a56 => k_is)
    (case a57 => k_is)
    (case aa_pieces_cutting => k_is)
    (case ca_Stock => k_is)
    (case ca_Shelf => k_is)
    (case ea_ShelfError => k_is)
    (case ea_NoSize => k_is)
    (case ea_NoName => k_is)
    (case ea_NotThere => k_is)
    (case ea_NoPlace => k_is)
    (case ea_NoText => k_is)
    (case ea_TooLong => k_is)
    (case ea_TooMany => k_is)
    (case ea_NoNote => k_is)
    (case a11 => k_is)
    (case a12 => k_is)
    (case a13 => k_is)
    (case a14 => k_is)
    (case a15 => k_is)
    (case a16 => k_is)
    (case a17 => k_is)
    (case a18 => k_is)
    (case a19 => k_is)
    (case a20 => k_is)
    (case a21 => k_is)
    (case a22 => k_is)
    (case a23 => k_is)
    (case a24 => k_is)
    (case a25 => k_is)
    (case a26 => k_is)
    (case a27 => k_is)
    (case a28 => k_is)
    (case a29 => k_is)
    (case a30 => k_is)
    (case a31 => k_is)
    (case a32 => k_is)
    (case a33 => k_is)
    (case a34 => k_is)
    (case a35 => k_is)
    (case l0 => k_is)
    (case l1 => k_is)
    (case l2 => k_is)
    (case l3 => k_is)
    (case l4 => k_is)
    (case l5 => k_is)
    (case l6 => k_is)
    (case l7 => k_is)
    (case l8 => k_is)
    (case l9 => k_is)
    (case l10 => k_is)
    (case l11 => k_is)
    (case l12 => k_is)
    (case l13 => k_is)
    (case l14 => k_is)
    (case l15 => k_is)
    (case l16 => k_is)
    (case l17 => k_is)
    (case l18 => k_is)
    (case l19 => k_is)
    (case l20 => k_is)
    (case l21 => k_is)
    (case l22 => k_is)
    (case l23 => k_is)
    (case l24 => k_is)
    (case l25 => k_is)
    (case l26 => k_is)
    (case l27 => k_is)
    (case l28 => k_is)
    (case l29 => k_is)
    (case l30 => k_is)
    (case l31 => k_is)
    (case l32 => k_is)
    (case l33 => k_is)
    (case l34 => k_is)
    (case l35 => k_is)
    (case l36 => k_is)
    (case l37 => k_is)
    (case l38 => k_is)
    (case l39 => k_is)
    (case l40 => k_is)
    (case l41 => k_is)
    (case l42 => k_is)
    (case l43 => k_is)
    (case l44 => k_is)
    (case l45 => k_is)
    (case l46 => k_is)
    (case l47 => k_is)
    (case l48 => k_is)
    (case l49 => k_is)
    (case l50 => k_is)
    (case l51 => k_is)
    (case l52 => k_is)
    (case l53 => k_is)
    (case l54 => k_is)
    (case l55 => k_is)
    (case l56 => k_is)
    (case l57 => k_is)
    (case y0 => k_is)
    (case k0 => k_is)
    (case y1 => k_is)
    (case k1 => k_is)
    (case y2 => k_is)
    (case k2 => k_is)
    (case y3 => k_is)
    (case k3 => k_is)
    (case y4 => k_is)
    (case k4 => k_is)
    (case y5 => k_is)
    (case k5 => k_is)
    (case y6 => k_is)
    (case k6 => k_is)
    (case y7 => k_is)
    (case k7 => k_is)
    (case y8 => k_is)
    (case k8 => k_is)
    (case y9 => k_is)
    (case k9 => k_is)
    (case y10 => k_is)
    (case k10 => k_is)
    (case i11 => k_is)
    (case y11 => k_is)
    (case k11 => k_is)
    (case i12 => k_is)
    (case y12 => k_is)
    (case k12 => k_is)
    (case i13 => k_is)
    (case y13 => k_is)
    (case k13 => k_is)
    (case i14 => k_is)
    (case y14 => k_is)
    (case k14 => k_is)
    (case i15 => k_is)
    (case y15 => k_is)
    (case k15 => k_is)
    (case i16 => k_is)
    (case y16 => k_is)
    (case k16 => k_is)
    (case i17 => k_is)
    (case y17 => k_is)
    (case k17 => k_is)
    (case i18 => k_is)
    (case y18 => k_is)
    (case k18 => k_is)
    (case i19 => k_is)
    (case y19 => k_is)
    (case k19 => k_is)
    (case i20 => k_is)
    (case y20 => k_is)
    (case k20 => k_is)
    (case i21 => k_is)
    (case y21 => k_is)
    (case k21 => k_is)
    (case i22 => k_is)
    (case y22 => k_is)
    (case k22 => k_is)
    (case i23 => k_is)
    (case y23 => k_is)
    (case k23 => k_is)
    (case i24 => k_is)
    (case y24 => k_is)
    (case k24 => k_is)
    (case i25 => k_is)
    (case y25 => k_is)
    (case k25 => k_is)
    (case i26 => k_is)
    (case y26 => k_is)
    (case k26 => k_is)
    (case i27 => k_is)
    (case y27 => k_is)
    (case k27 => k_is)
    (case i28 => k_is)
    (case y28 => k_is)
    (case k28 => k_is)
    (case i29 => k_is)
    (case y29 => k_is)
    (case k29 => k_is)
    (case i30 => k_is)
    (case y30 => k_is)
    (case k30 => k_is)
    (case i31 => k_is)
    (case y31 => k_is)
    (case k31 => k_is)
    (case i32 => k_is)
    (case y32 => k_is)
    (case k32 => k_is)
    (case i33 => k_is)
    (case y33 => k_is)
    (case k33 => k_is)
    (case i34 => k_is)
    (case y34 => k_is)
    (case k34 => k_is)
    (case i35 => k_is)
    (case y35 => k_is)
    (case k35 => k_is)
    (case y36 => k_is)
    (case k36 => k_is)
    (case y37 => k_is)
    (case k37 => k_is)
    (case y38 => k_is)
    (case k38 => k_is)
    (case y39 => k_is)
    (case k39 => k_is)
    (case y40 => k_is)
    (case k40 => k_is)
    (case y41 => k_is)
    (case k41 => k_is)
    (case y42 => k_is)
    (case k42 => k_is)
    (case y43 => k_is)
    (case k43 => k_is)
    (case y44 => k_is)
    (case k44 => k_is)
    (case y45 => k_is)
    (case k45 => k_is)
    (case y46 => k_is)
    (case k46 => k_is)
    (case y47 => k_is)
    (case k47 => k_is)
    (case y48 => k_is)
    (case k48 => k_is)
    (case y49 => k_is)
    (case k49 => k_is)
    (case y50 => k_is)
    (case k50 => k_is)
    (case y51 => k_is)
    (case k51 => k_is)
    (case y52 => k_is)
    (case k52 => k_is)
    (case y53 => k_is)
    (case k53 => k_is)
    (case y54 => k_is)
    (case k54 => k_is)
    (case y55 => k_is)
    (case k55 => k_is)
    (case y56 => k_is)
    (case k56 => k_is)
    (case y57 => k_is)
    (case k57 => k_is)
    (case cp_Stock => k_is)
    (case ch_Stock => k_is)
    (case co_Stock => k_is)
    (case cs_Stock => k_is)
    (case cm_Stock => k_is)
    (case ck_Stock => k_is)
    (case cn_Stock_greatest => k_is)
    (case cn_Stock__texts => k_is)
    (case cn_Stock__counts => k_is)
    (case cn_Stock__numbers => k_is)
    (case cp_Shelf => k_is)
    (case ch_Shelf => k_is)
    (case co_Shelf => k_is)
    (case cs_Shelf => k_is)
    (case cm_Shelf => k_is)
    (case ck_Shelf => k_is)
    (case cn_Shelf__width => k_is)
    (case cn_Shelf__reach => k_is)
    (case cn_Shelf__stock => k_is)
    (case cn_Shelf__works => k_is)
    (case cn_Shelf__rows => k_is)
    (case ex_ShelfError => k_exc)
    (case ek_ShelfError => k_is)
    (case eb_ShelfError => k_is)
    (case et_ShelfError => k_is)
    (case eh_ShelfError => k_is)
    (case ex_NoSize => k_exc)
    (case ek_NoSize => k_is)
    (case eb_NoSize => k_is)
    (case et_NoSize => k_is)
    (case eh_NoSize => k_is)
    (case ex_NoName => k_exc)
    (case ek_NoName => k_is)
    (case eb_NoName => k_is)
    (case et_NoName => k_is)
    (case eh_NoName => k_is)
    (case ex_NotThere => k_exc)
    (case ek_NotThere => k_is)
    (case eb_NotThere => k_is)
    (case et_NotThere => k_is)
    (case eh_NotThere => k_is)
    (case ex_NoPlace => k_exc)
    (case ek_NoPlace => k_is)
    (case eb_NoPlace => k_is)
    (case et_NoPlace => k_is)
    (case eh_NoPlace => k_is)
    (case ex_NoText => k_exc)
    (case ek_NoText => k_is)
    (case eb_NoText => k_is)
    (case et_NoText => k_is)
    (case eh_NoText => k_is)
    (case ex_TooLong => k_exc)
    (case ek_TooLong => k_is)
    (case eb_TooLong => k_is)
    (case et_TooLong => k_is)
    (case eh_TooLong => k_is)
    (case ex_TooMany => k_exc)
    (case ek_TooMany => k_is)
    (case eb_TooMany => k_is)
    (case et_TooMany => k_is)
    (case eh_TooMany => k_is)
    (case ex_NoNote => k_exc)
    (case ek_NoNote => k_is)
    (case eb_NoNote => k_is)
    (case et_NoNote => k_is)
    (case eh_NoNote => k_is)
    (case xn => k_is)
    (case xt => k_is)
    (case xhg_NoSize => k_is)
    (case xhk_NoSize => k_is)
    (case xha_NoSize => k_is)
    (case xhm_NoSize => k_is)
    (case xv_NoSize => k_is)
    (case xhg_NoName => k_is)
    (case xhk_NoName => k_is)
    (case xha_NoName => k_is)
    (case xhm_NoName => k_is)
    (case xv_NoName => k_is)
    (case xhg_NotThere => k_is)
    (case xhk_NotThere => k_is)
    (case xha_NotThere => k_is)
    (case xhm_NotThere => k_is)
    (case xv_NotThere => k_is)
    (case xhg_NoPlace => k_is)
    (case xhk_NoPlace => k_is)
    (case xha_NoPlace => k_is)
    (case xhm_NoPlace => k_is)
    (case xv_NoPlace => k_is)
    (case xhg_NoText => k_is)
    (case xhk_NoText => k_is)
    (case xha_NoText => k_is)
    (case xhm_NoText => k_is)
    (case xv_NoText => k_is)
    (case xhg_TooLong => k_is)
    (case xhk_TooLong => k_is)
    (case xha_TooLong => k_is)
    (case xhm_TooLong => k_is)
    (case xv_TooLong => k_is)
    (case xhg_TooMany => k_is)
    (case xhk_TooMany => k_is)
    (case xha_TooMany => k_is)
    (case xhm_TooMany => k_is)
    (case xv_TooMany => k_is)
    (case s_NoSize_NoSize => first | rfl | k_is)
    (case s_NoSize_NoName => first | rfl | k_is)
    (case u_NoSize_NoName => decide)
    (case s_NoSize_NotThere => first | rfl | k_is)
    (case u_NoSize_NotThere => decide)
    (case s_NoSize_NoPlace => first | rfl | k_is)
    (case u_NoSize_NoPlace => decide)
    (case s_NoSize_NoText => first | rfl | k_is)
    (case u_NoSize_NoText => decide)
    (case s_NoSize_TooLong => first | rfl | k_is)
    (case u_NoSize_TooLong => decide)
    (case s_NoSize_TooMany => first | rfl | k_is)
    (case u_NoSize_TooMany => decide)
    (case s_NoSize_NoNote => first | rfl | k_is)
    (case u_NoSize_NoNote => decide)
    (case s_NoSize_ShelfError => first | rfl | k_is)
    (case s_NoName_NoSize => first | rfl | k_is)
    (case u_NoName_NoSize => decide)
    (case s_NoName_NoName => first | rfl | k_is)
    (case s_NoName_NotThere => first | rfl | k_is)
    (case u_NoName_NotThere => decide)
    (case s_NoName_NoPlace => first | rfl | k_is)
    (case u_NoName_NoPlace => decide)
    (case s_NoName_NoText => first | rfl | k_is)
    (case u_NoName_NoText => decide)
    (case s_NoName_TooLong => first | rfl | k_is)
    (case u_NoName_TooLong => decide)
    (case s_NoName_TooMany => first | rfl | k_is)
    (case u_NoName_TooMany => decide)
    (case s_NoName_NoNote => first | rfl | k_is)
    (case u_NoName_NoNote => decide)
    (case s_NoName_ShelfError => first | rfl | k_is)
    (case s_NotThere_NoSize => first | rfl | k_is)
    (case u_NotThere_NoSize => decide)
    (case s_NotThere_NoName => first | rfl | k_is)
    (case u_NotThere_NoName => decide)
    (case s_NotThere_NotThere => first | rfl | k_is)
    (case s_NotThere_NoPlace => first | rfl | k_is)
    (case u_NotThere_NoPlace => decide)
    (case s_NotThere_NoText => first | rfl | k_is)
    (case u_NotThere_NoText => decide)
    (case s_NotThere_TooLong => first | rfl | k_is)
    (case u_NotThere_TooLong => decide)
    (case s_NotThere_TooMany => first | rfl | k_is)
    (case u_NotThere_TooMany => decide)
    (case s_NotThere_NoNote => first | rfl | k_is)
    (case u_NotThere_NoNote => decide)
    (case s_NotThere_ShelfError => first | rfl | k_is)
    (case s_NoPlace_NoSize => first | rfl | k_is)
    (case u_NoPlace_NoSize => decide)
    (case s_NoPlace_NoName => first | rfl | k_is)
    (case u_NoPlace_NoName => decide)
    (case s_NoPlace_NotThere => first | rfl | k_is)
    (case u_NoPlace_NotThere => decide)
    (case s_NoPlace_NoPlace => first | rfl | k_is)
    (case s_NoPlace_NoText => first | rfl | k_is)
    (case u_NoPlace_NoText => decide)
    (case s_NoPlace_TooLong => first | rfl | k_is)
    (case u_NoPlace_TooLong => decide)
    (case s_NoPlace_TooMany => first | rfl | k_is)
    (case u_NoPlace_TooMany => decide)
    (case s_NoPlace_NoNote => first | rfl | k_is)
    (case u_NoPlace_NoNote => decide)
    (case s_NoPlace_ShelfError => first | rfl | k_is)
    (case s_NoText_NoSize => first | rfl | k_is)
    (case u_NoText_NoSize => decide)
    (case s_NoText_NoName => first | rfl | k_is)
    (case u_NoText_NoName => decide)
    (case s_NoText_NotThere => first | rfl | k_is)
    (case u_NoText_NotThere => decide)
    (case s_NoText_NoPlace => first | rfl | k_is)
    (case u_NoText_NoPlace => decide)
    (case s_NoText_NoText => first | rfl | k_is)
    (case s_NoText_TooLong => first | rfl | k_is)
    (case u_NoText_TooLong => decide)
    (case s_NoText_TooMany => first | rfl | k_is)
    (case u_NoText_TooMany => decide)
    (case s_NoText_NoNote => first | rfl | k_is)
    (case u_NoText_NoNote => decide)
    (case s_NoText_ShelfError => first | rfl | k_is)
    (case s_TooLong_NoSize => first | rfl | k_is)
    (case u_TooLong_NoSize => decide)
    (case s_TooLong_NoName => first | rfl | k_is)
    (case u_TooLong_NoName => decide)
    (case s_TooLong_NotThere => first | rfl | k_is)
    (case u_TooLong_NotThere => decide)
    (case s_TooLong_NoPlace => first | rfl | k_is)
    (case u_TooLong_NoPlace => decide)
    (case s_TooLong_NoText => first | rfl | k_is)
    (case u_TooLong_NoText => decide)
    (case s_TooLong_TooLong => first | rfl | k_is)
    (case s_TooLong_TooMany => first | rfl | k_is)
    (case u_TooLong_TooMany => decide)
    (case s_TooLong_NoNote => first | rfl | k_is)
    (case u_TooLong_NoNote => decide)
    (case s_TooLong_ShelfError => first | rfl | k_is)
    (case s_TooMany_NoSize => first | rfl | k_is)
    (case u_TooMany_NoSize => decide)
    (case s_TooMany_NoName => first | rfl | k_is)
    (case u_TooMany_NoName => decide)
    (case s_TooMany_NotThere => first | rfl | k_is)
    (case u_TooMany_NotThere => decide)
    (case s_TooMany_NoPlace => first | rfl | k_is)
    (case u_TooMany_NoPlace => decide)
    (case s_TooMany_NoText => first | rfl | k_is)
    (case u_TooMany_NoText => decide)
    (case s_TooMany_TooLong => first | rfl | k_is)
    (case u_TooMany_TooLong => decide)
    (case s_TooMany_TooMany => first | rfl | k_is)
    (case s_TooMany_NoNote => first | rfl | k_is)
    (case u_TooMany_NoNote => decide)
    (case s_TooMany_ShelfError => first | rfl | k_is)
    (case g_WEIGHT_START => k_is)
    (case g_WEIGHT_FACTOR => k_is)
    (case g_WEIGHT_DIVISOR => k_is)
    (case g_MOST_LETTERS => k_is)
    (case g_MOST_WIDTH => k_is)
    (case g_MOST_REACH => k_is)
    (case g_PERCENT => k_is)
    (case g_MOST_SIGNS => k_is)
    (case g_MOST_VERSIONS => k_is)
    (case z_all => k_is)
    (case z_bool => k_is)
    (case z_int => k_is)
    (case z_isinstance => k_is)
    (case z_len => k_is)
    (case z_list => k_is)
    (case z_max => k_is)
    (case z_min => k_is)
    (case z_ord => k_is)
    (case z_range => k_is)
    (case z_set => k_is)
    (case z_sorted => k_is)
    (case z_str => k_is)
    (case z_sum => k_is)
    (case z_tuple => k_is)
    (case z_zip => k_is)
    (case z_ValueError => k_is)
    (case tb_is_text => first | rfl | k_is)
    (case hc_is_text => rfl)
    (case tb_is_name => first | rfl | k_is)
    (case hc_is_name => rfl)
    (case nP_is_text => first | rfl | decide | k_is)
    (case rec_is_text => first | rfl | decide +kernel)
    (case nP_is_name => first | rfl | decide | k_is)
    (case rec_is_name => first | rfl | decide +kernel)
