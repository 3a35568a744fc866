import PyProof.Rows.All
import Wide.All
import OpenK.AllK
import Wide.FinOn
import HandS.ForMost
import HandS.IsInst
import HandS.Walk
import PySem.Challenge.RW_chunkshelf_k01_weights
set_option Elab.async false
set_option linter.all false
set_option maxRecDepth 100000
/-! Our own short layer: readings that evaluate by simp. -/
namespace Y
open PySem PySem.Spec PyProof.Rows L2

/-! ### texts as lists of codes -/
def st (l : List Nat) : Str := ⟨l.toArray⟩
theorem codes_st (l : List Nat) : (st l).cps.toList = l := rfl
theorem st_codes (z : Str) : st z.cps.toList = z := rfl
theorem len_st (l : List Nat) : (st l).length = l.length := by simp [st, Str.length]
theorem len_cps (z : Str) : z.length = z.cps.toList.length := by simp [Str.length]
theorem st_inj {a b : List Nat} : (st a = st b) ↔ a = b := by
  constructor
  · intro h
    have := congrArg (fun z => z.cps.toList) h
    simpa [codes_st] using this
  · intro h; rw [h]
theorem st_app (a b : List Nat) : st a ++ st b = st (a ++ b) := by
  show Str.mk (a.toArray ++ b.toArray) = Str.mk (a ++ b).toArray
  simp
theorem app_st (x y : Str) : x ++ y = st (x.cps.toList ++ y.cps.toList) := by
  show Str.mk (x.cps ++ y.cps) = Str.mk (x.cps.toList ++ y.cps.toList).toArray
  simp
theorem one_st (c : Nat) : (⟨#[c]⟩ : Str) = st [c] := rfl
theorem mk_st (l : List Nat) : (⟨l.toArray⟩ : Str) = st l := rfl
theorem line_eq : sizeLine = 16777216 := sizeLine_eq

theorem cxOf_K {CX : CXT} {P : Program} {w : World} {K : PySem.W.Frag} {mg : Str → Option Value} {base : Heap} {N : List Str} {qual : Str} {scope : Scope} {f : Addr} {cd : Value} {A : Around} {outer : List Env} {s : Shared} {H : Hp} {E : XK} :
    (cxOf CX P w K mg base N qual scope f cd A outer s H E).K = K := rfl
/-! ### the combinators, applied -/
section
variable {ta tb te : TE} {t u : TS} {D : Ends} {σ : L2.St} {H : Hp} {Q : VK} {v : V}
/-- a slot that holds a value -/
def look (o : Option (Option V)) (P : V → Prop) : Prop := match o with
  | some (some v) => P v
  | _ => False
theorem look_some (P : V → Prop) : look (some (some v)) P = P v := rfl
theorem tVar_ap {i : Nat} : tVar i σ H Q = look σ[i]? fun v => Q v H := by
  unfold tVar look
  apply propext
  constructor
  · rintro ⟨v, e, q⟩
    rw [e]
    exact q
  · intro h
    split at h
    · rename_i v e
      exact ⟨v, e, h⟩
    · exact h.elim
theorem tC_ap : tC v σ H Q = Q v H := rfl
theorem tSeq_ap : tSeq t u D σ H = t { D with nx := u D } σ H := rfl
theorem tNext_ap : tNext D σ H = D.nx σ H := rfl
theorem tAsg_ap {g : TG} : tAsg te g D σ H = te σ H fun x H1 => g x σ H1 D.nx := rfl
theorem gName_ap {i : Nat} {N : L2.St → Hp → Prop} : gName i v σ H N = N (σ.set i (some v)) H := rfl
theorem tRet_ap : tRet te D σ H = te σ H D.rt := rfl
theorem tRetN_ap : tRetN D σ H = D.rt .non H := rfl
theorem tDrop_ap : tDrop te D σ H = te σ H fun _ H1 => D.nx σ H1 := rfl
theorem tBreak_ap : tBreak D σ H = D.bk σ H := rfl
theorem tCont_ap : tCont D σ H = D.ct σ H := rfl
theorem tOp_ap {r : R2} : tOp r ta tb σ H Q = ta σ H fun x H1 => tb σ H1 fun y H2 => r x y H2 Q := rfl
theorem tUn_ap {r : V → Hp → VK → Prop} : tUn r ta σ H Q = ta σ H fun x H1 => r x H1 Q := rfl
theorem tNil_ap {R : List V → Hp → Prop} : tNil σ H R = R [] H := rfl
theorem tCons_ap {tr : TA} {R : List V → Hp → Prop} : tCons ta tr σ H R = ta σ H fun x H1 => tr σ H1 fun xs H2 => R (x :: xs) H2 := rfl
theorem tCB_ap {r : List V → Hp → VK → Prop} {tt : TA} : tCB r tt σ H Q = tt σ H fun vs H1 => r vs H1 Q := rfl
theorem tCall_ap {sp : Sp} {dvs : List V} {E : XK} {tt : TA} : tCall sp dvs E tt σ H Q = tt σ H fun vs H1 => sp (vs ++ dvs) H1 Q E := rfl
theorem tLst_ap {tt : TA} : tLst tt σ H Q = tt σ H fun xs H1 => xs.length ≤ sizeLine ∧ ∀ p, H1 p = none → Q (.ref p) (upd H1 p (.lst xs)) := rfl
theorem tTup_ap {tt : TA} : tTup tt σ H Q = tt σ H fun xs H1 => xs.length ≤ sizeLine ∧ ∀ p, H1 p = none → Q (.ref p) (upd H1 p (.tup xs)) := rfl
theorem tSl_ap {r : V → Option Int → Option Int → Hp → VK → Prop} {tl th : TO} : tSl r te tl th σ H Q = te σ H fun x H1 => tl σ H1 fun l H2 => th σ H2 fun u H3 => r x l u H3 Q := rfl
theorem tNoPart_ap {R : Option Int → Hp → Prop} : tNoPart σ H R = R none H := rfl
/-- an int, else nothing holds -/
def asInt (v : V) (P : Int → Prop) : Prop := match v with
  | .int i => P i
  | _ => False
def asBl (v : V) (P : Bool → Prop) : Prop := match v with
  | .bl i => P i
  | _ => False
theorem asInt_int {i : Int} {P : Int → Prop} : asInt (.int i) P = P i := rfl
theorem asBl_bl {i : Bool} {P : Bool → Prop} : asBl (.bl i) P = P i := rfl
theorem asInt_ex {v : V} {P : Int → Prop} : asInt v P = ∃ i, v = .int i ∧ P i := by
  apply propext
  cases v <;> simp [asInt]
theorem asBl_ex {v : V} {P : Bool → Prop} : asBl v P = ∃ i, v = .bl i ∧ P i := by
  apply propext
  cases v <;> simp [asBl]
theorem tPart_ap {R : Option Int → Hp → Prop} : tPart te σ H R = te σ H fun x H1 => asInt x fun i => R (some i) H1 := by
  unfold tPart
  simp only [asInt_ex]
/-- a branch, folded -/
def br (b : Bool) (A B : Prop) : Prop := if b = true then A else B
theorem br_t {A B : Prop} : br true A B = A := by simp [br]
theorem br_f {A B : Prop} : br false A B = B := by simp [br]
theorem br_of {b : Bool} {A B : Prop} (h1 : b = true → A) (h2 : b = false → B) : br b A B := by
  cases b
  · exact (br_f (A := A)).symm ▸ h2 rfl
  · exact (br_t (B := B)).symm ▸ h1 rfl
/-- a branch of statements, folded -/
def brS (b : Bool) (t u : TS) (D : Ends) (σ : L2.St) (H : Hp) : Prop := if b = true then t D σ H else u D σ H
theorem brS_t : brS true t u D σ H = t D σ H := by simp [brS]
theorem brS_f : brS false t u D σ H = u D σ H := by simp [brS]
theorem brS_of {b : Bool} (h1 : b = true → t D σ H) (h2 : b = false → u D σ H) : brS b t u D σ H := by
  cases b
  · exact brS_f.symm ▸ h2 rfl
  · exact brS_t.symm ▸ h1 rfl
theorem brS_join {b : Bool} (R : L2.St → Hp → Prop) (hk : ∀ σ H, R σ H → D.nx σ H) (h : ∀ N : L2.St → Hp → Prop, (∀ σ H, R σ H → N σ H) → brS b t u { D with nx := N } σ H) : brS b t u D σ H := h D.nx hk
theorem brS_ite {b : Bool} : (if b = true then t D σ H else u D σ H) = brS b t u D σ H := rfl
theorem tIfS_ap {c : TT} : tIfS c t u D σ H = c σ H fun b H1 => brS b t u D σ H1 := rfl
/-- a branch of expressions -/
def brE (b : Bool) (ta tb : TE) (σ : L2.St) (H : Hp) (Q : VK) : Prop := if b = true then ta σ H Q else tb σ H Q
theorem brE_t : brE true ta tb σ H Q = ta σ H Q := by simp [brE]
theorem brE_f : brE false ta tb σ H Q = tb σ H Q := by simp [brE]
theorem brE_of {b : Bool} (h1 : b = true → ta σ H Q) (h2 : b = false → tb σ H Q) : brE b ta tb σ H Q := by
  cases b
  · exact brE_f.symm ▸ h2 rfl
  · exact brE_t.symm ▸ h1 rfl
theorem tIf_ap {c : TT} : tIf c ta tb σ H Q = c σ H fun b H1 => brE b ta tb σ H1 Q := rfl
theorem tAndV_ap : tAndV ta tb σ H Q = ta σ H fun x H1 => asBl x fun c => brE c tb (tC (.bl false)) σ H1 Q := by
  unfold tAndV
  simp only [asBl_ex, brE, tC]
theorem tOrV_ap : tOrV ta tb σ H Q = ta σ H fun x H1 => asBl x fun c => brE c (tC (.bl true)) tb σ H1 Q := by
  unfold tOrV
  simp only [asBl_ex, brE, tC]
theorem tNotV_ap : tNotV ta σ H Q = ta σ H fun x H1 => asBl x fun c => Q (.bl (!c)) H1 := by
  unfold tNotV
  simp only [asBl_ex]
/-- a branch of tests -/
def brT (b : Bool) (ta tb : TT) (σ : L2.St) (H : Hp) (R : Bool → Hp → Prop) : Prop := if b = true then ta σ H R else tb σ H R
variable {tA tB' : TT} {R : Bool → Hp → Prop}
theorem brT_t : brT true tA tB' σ H R = tA σ H R := by simp [brT]
theorem brT_f : brT false tA tB' σ H R = tB' σ H R := by simp [brT]
theorem brT_of {b : Bool} (h1 : b = true → tA σ H R) (h2 : b = false → tB' σ H R) : brT b tA tB' σ H R := by
  cases b
  · exact brT_f.symm ▸ h2 rfl
  · exact brT_t.symm ▸ h1 rfl
def tK (b : Bool) : TT := fun _ H R => R b H
theorem tK_ap {b : Bool} : tK b σ H R = R b H := rfl
theorem tAnd_ap : tAnd tA tB' σ H R = tA σ H fun c H1 => brT c tB' (tK false) σ H1 R := rfl
theorem tOr_ap : tOr tA tB' σ H R = tA σ H fun c H1 => brT c (tK true) tB' σ H1 R := rfl
theorem tNot_ap : tNot tA σ H R = tA σ H fun c H1 => R (!c) H1 := rfl
theorem tB_ap : tB te σ H R = te σ H fun x H1 => asBl x fun c => R c H1 := by
  unfold tB
  simp only [asBl_ex]
theorem tTest_ap : tTest te σ H R = te σ H fun x H1 => asBl x fun c => R c H1 := by
  unfold tTest
  simp only [asBl_ex]
/-- a loop, folded -/
def forW (J : It) (g : TG) (tb : TS) (D : Ends) (σ : L2.St) (H1 : Hp) : Prop := ∃ W : Nat → Nat → L2.St → Hp → Prop, (∃ m, W 0 m σ H1) ∧ ∀ i m σ H, W i m σ H →
  (J.stop i H ∧ D.nx σ H) ∨ (J.go i H ∧ ∃ N : L2.St → Hp → Prop, (∀ σ' H', N σ' H' → ∃ m', m' < m ∧ W (i + 1) m' σ' H') ∧ ∀ x H', J.yld i H x H' → g x σ H' fun σ2 H2 => tb { D with nx := N, ct := N, bk := D.nx } σ2 H2)
theorem tFor_ap {wi : TI} {g : TG} : tFor wi g t D σ H = wi σ H fun J H1 => forW J g t D σ H1 := rfl
theorem iRng1_ap {tt : TA} {R : It → Hp → Prop} : iRng1 tt σ H R = tt σ H fun vs H1 => ∃ j : Int, vs = [.int j] ∧ -(2 ^ 62) ≤ j ∧ j < 2 ^ 62 ∧ R (Itr 0 j.toNat) H1 := rfl
/-- the arguments of a range, looked at -/
def rng1 (vs : List V) (k : Int → Prop) : Prop := match vs with
  | [.int j] => (-(2 ^ 62) ≤ j ∧ j < 2 ^ 62) ∧ k j
  | _ => False
def rng2 (vs : List V) (k : Int → Int → Prop) : Prop := match vs with
  | [.int i, .int j] => (-(2 ^ 62) ≤ i ∧ i < 2 ^ 62 ∧ -(2 ^ 62) ≤ j ∧ j < 2 ^ 62) ∧ k i j
  | _ => False
theorem rng1_ap {j : Int} {k : Int → Prop} : rng1 [.int j] k = ((-(2 ^ 62) ≤ j ∧ j < 2 ^ 62) ∧ k j) := rfl
theorem rng2_ap {i j : Int} {k : Int → Int → Prop} : rng2 [.int i, .int j] k = ((-(2 ^ 62) ≤ i ∧ i < 2 ^ 62 ∧ -(2 ^ 62) ≤ j ∧ j < 2 ^ 62) ∧ k i j) := rfl
theorem rng1_ex {vs : List V} {k : Int → Prop} : rng1 vs k ↔ ∃ j : Int, vs = [.int j] ∧ -(2 ^ 62) ≤ j ∧ j < 2 ^ 62 ∧ k j := by
  constructor
  · intro h
    unfold rng1 at h
    split at h
    · exact ⟨_, rfl, h.1.1, h.1.2, h.2⟩
    · exact h.elim
  · rintro ⟨j, rfl, h1, h2, h3⟩
    exact ⟨⟨h1, h2⟩, h3⟩
theorem rng2_ex {vs : List V} {k : Int → Int → Prop} : rng2 vs k ↔ ∃ i j : Int, vs = [.int i, .int j] ∧ (-(2 ^ 62) ≤ i ∧ i < 2 ^ 62 ∧ -(2 ^ 62) ≤ j ∧ j < 2 ^ 62) ∧ k i j := by
  constructor
  · intro h
    unfold rng2 at h
    split at h
    · exact ⟨_, _, rfl, h.1, h.2⟩
    · exact h.elim
  · rintro ⟨i, j, rfl, h1, h3⟩
    exact ⟨h1, h3⟩
theorem tFor1_ap {tt : TA} {g : TG} : tFor (iRng1 tt) g t D σ H = tt σ H fun vs H1 => rng1 vs fun j => forW (Itr 0 j.toNat) g t D σ H1 := by
  show (tt σ H fun vs H1 => ∃ j : Int, vs = [.int j] ∧ -(2 ^ 62) ≤ j ∧ j < 2 ^ 62 ∧ forW (Itr 0 j.toNat) g t D σ H1) = _
  congr 1
  funext vs H1
  exact propext rng1_ex.symm
theorem tFor2_ap {tt : TA} {g : TG} : tFor (iRng2 tt) g t D σ H = tt σ H fun vs H1 => rng2 vs fun i j => forW (Itr i (j - i).toNat) g t D σ H1 := by
  show (tt σ H fun vs H1 => ∃ i j : Int, vs = [.int i, .int j] ∧ (-(2 ^ 62) ≤ i ∧ i < 2 ^ 62 ∧ -(2 ^ 62) ≤ j ∧ j < 2 ^ 62) ∧ forW (Itr i (j - i).toNat) g t D σ H1) = _
  congr 1
  funext vs H1
  exact propext rng2_ex.symm
/-- a text, else nothing holds -/
def asStr (v : V) (P : Str → Prop) : Prop := match v with
  | .str i => P i
  | _ => False
theorem asStr_str {i : Str} {P : Str → Prop} : asStr (.str i) P = P i := rfl
theorem asStr_ex {v : V} {P : Str → Prop} : asStr v P = ∃ i, v = .str i ∧ P i := by
  apply propext
  cases v <;> simp [asStr]
def asRef (v : V) (P : Addr → Prop) : Prop := match v with
  | .ref i => P i
  | _ => False
theorem asRef_ref {i : Addr} {P : Addr → Prop} : asRef (.ref i) P = P i := rfl
theorem asRef_ex {v : V} {P : Addr → Prop} : asRef v P = ∃ i, v = .ref i ∧ P i := by
  apply propext
  cases v <;> simp [asRef]
theorem tForS_ap {g : TG} : tFor (iStr te) g t D σ H = te σ H fun v H1 => asStr v fun x => forW (Its x) g t D σ H1 := by
  simp only [asStr_ex]
  rfl
theorem tForL_ap {K : PySem.W.Frag} {g : TG} : tFor (iList K te) g t D σ H = te σ H fun v H1 => asRef v fun a => (∃ xs, SqL K H1 a xs) ∧ forW (Itl K a) g t D σ H1 := by
  simp only [asRef_ex]
  rfl
end
/-- range(lo, lo + n) -/
theorem for_rng {lo : Int} {n : Nat} {g : TG} {tb : TS} {D : Ends} {σ : L2.St} {H : Hp} (Pv : Nat → L2.St → Hp → Prop) (h0 : Pv 0 σ H)
    (hs : ∀ i σ H, i < n → Pv i σ H → g (.int (lo + i)) σ H fun σ2 H2 => tb { D with nx := Pv (i + 1), ct := Pv (i + 1), bk := D.nx } σ2 H2) (hd : ∀ σ H, Pv n σ H → D.nx σ H) : forW (Itr lo n) g tb D σ H :=
  for_range Pv h0 hs hd
/-- the signs of a text -/
theorem for_sgn {l : List Nat} {g : TG} {tb : TS} {D : Ends} {σ : L2.St} {H : Hp} (Pv : Nat → L2.St → Hp → Prop) (h0 : Pv 0 σ H)
    (hs : ∀ i c σ H, l[i]? = some c → Pv i σ H → g (.str (st [c])) σ H fun σ2 H2 => tb { D with nx := Pv (i + 1), ct := Pv (i + 1), bk := D.nx } σ2 H2) (hd : ∀ σ H, Pv l.length σ H → D.nx σ H) : forW (Its (st l)) g tb D σ H := by
  have w : Walk (Its (st l)) l.length (fun _ => True) (fun i H x H' => H' = H ∧ ∃ c, l[i]? = some c ∧ x = .str (st [c])) :=
    ⟨fun i H hi _ => by show i < (st l).cps.size; simpa [st] using hi, fun H _ => by show (st l).cps.size ≤ l.length; simp [st], fun i H x H' hi _ y => by
      obtain ⟨e, c, h1, h2⟩ := y
      refine ⟨e, c, ?_, h2⟩
      simpa [st] using h1⟩
  refine for_it w Pv h0 (fun _ _ _ _ _ => trivial) (fun i x σ H H' hi p y => ?_) hd
  obtain ⟨e, c, h1, h2⟩ := y
  subst e h2
  exact hs i c σ _ h1 p

/-! ### operators over all kinds -/
def rAdd (K : PySem.W.Frag) (x y : V) (H : Hp) (Q : VK) : Prop := match x, y with
  | .int i, .int j => Q (.int (i + j)) H
  | .str a, .str b => a.length + b.length ≤ sizeLine ∧ Q (.str (st (a.cps.toList ++ b.cps.toList))) H
  | .ref l, .ref b => ∃ xs zs, H l = some (.lst xs) ∧ H b = some (.lst zs) ∧ xs.length + zs.length ≤ sizeLine ∧ ∀ p, H p = none → Q (.ref p) (upd H p (.lst (xs ++ zs)))
  | _, _ => False
def rSub (x y : V) (H : Hp) (Q : VK) : Prop := match x, y with
  | .int i, .int j => Q (.int (i - j)) H
  | _, _ => False
def repS (z : List Nat) (k : Nat) : List Nat := (List.replicate k z).flatten
def rMul (x y : V) (H : Hp) (Q : VK) : Prop := match x, y with
  | .int i, .int j => CMul i j ∧ Q (.int (i * j)) H
  | .str a, .int k => (0 ≤ k ∧ k ≤ sizeLine ∧ a.length * k.toNat ≤ sizeLine) ∧ Q (.str (st (repS a.cps.toList k.toNat))) H
  | _, _ => False
def rMod (x y : V) (H : Hp) (Q : VK) : Prop := match x, y with
  | .int i, .int j => 0 < j ∧ Q (.int (i % j)) H
  | _, _ => False
def rDiv (x y : V) (H : Hp) (Q : VK) : Prop := match x, y with
  | .int i, .int j => CDiv i j ∧ Q (.int (i / j)) H
  | _, _ => False
def rCmp (p : Int → Int → Bool) (x y : V) (H : Hp) (Q : VK) : Prop := match x, y with
  | .int i, .int j => Q (.bl (p i j)) H
  | _, _ => False
def eqB (x y : V) : Option Bool := match x, y with
  | .int i, .int j => some (decide (i = j))
  | .str i, .str j => some (decide (i = j))
  | .bl i, .bl j => some (decide (i = j))
  | .non, .non => some true
  | _, _ => if scal x y = true then some false else none
def rEqS (x y : V) (H : Hp) (Q : VK) : Prop := match x, y with
  | .int i, .int j => Q (.bl (decide (i = j))) H
  | .str i, .str j => Q (.bl (decide (i = j))) H
  | .bl i, .bl j => Q (.bl (decide (i = j))) H
  | x, y => scal x y = true ∧ Q (.bl (decide (x = y))) H
def rNeS (x y : V) (H : Hp) (Q : VK) : Prop := match x, y with
  | .int i, .int j => Q (.bl (!decide (i = j))) H
  | .str i, .str j => Q (.bl (!decide (i = j))) H
  | .bl i, .bl j => Q (.bl (!decide (i = j))) H
  | x, y => scal x y = true ∧ Q (.bl (!decide (x = y))) H
section
variable {X : Cx}
theorem op_weak {f : Value → Value → Sem Value} {r r' : R2} (h : OpR X f r) (w : ∀ x y H Q, r' x y H Q → r x y H Q) : OpR X f r' := fun pins s σ H x y v u Q I rx ry q => h pins s σ H x y v u Q I rx ry (w x y H Q q)
theorem y_add : OpR X (binaryOp .Add) (rAdd X.K) := by
  refine op_weak (op_add.or (op_add_str.or op_cat)) fun x y H Q q => ?_
  cases x <;> cases y <;> first | exact q.elim | skip
  · exact .inl ⟨_, _, rfl, rfl, q⟩
  · refine .inr (.inl ⟨_, _, rfl, rfl, q.1, ?_⟩)
    rw [app_st]
    exact q.2
  · obtain ⟨xs, zs, h1, h2, h3, h4⟩ := q
    exact .inr (.inr ⟨_, _, xs, zs, rfl, rfl, h1, h2, h3, h4⟩)
theorem y_sub : OpR X (binaryOp .Sub) rSub := by
  refine op_weak op_sub fun x y H Q q => ?_
  cases x <;> cases y <;> first | exact q.elim | skip
  exact ⟨_, _, rfl, rfl, q⟩
theorem foldl_app (a : Array Nat) : ∀ (k : Nat) (acc : Array Nat), ((List.replicate k a).foldl (· ++ ·) acc).toList = acc.toList ++ (List.replicate k a.toList).flatten
  | 0, acc => by simp
  | k + 1, acc => by
    rw [List.replicate_succ, List.foldl_cons, foldl_app a k, List.replicate_succ, List.flatten_cons]
    simp
theorem op_rep_str : OpR X (binaryOp .Mult) (fun x y H Q => ∃ a k, x = .str a ∧ y = .int k ∧ (0 ≤ k ∧ k ≤ sizeLine ∧ a.length * k.toNat ≤ sizeLine) ∧ Q (.str (st (repS a.cps.toList k.toNat))) H) := by
  intro pins s σ H x y v u Q I rx ry h
  obtain ⟨a, k, rfl, rfl, ⟨h0, h1, h2⟩, q⟩ := h
  obtain ⟨t, rfl⟩ := rx
  obtain ⟨t', rfl⟩ := ry
  have hz := line_eq
  rw [hz] at h1 h2
  refine PySem.P.mul_str ?_ (fun g1 g2 => ?_) (fun g1 g2 => ?_) ?_
  · rw [decide_eq_false (by omega), decide_eq_false (by omega)]; rfl
  · have hk : k ≤ 16777216 := h1
    have hk1 : 1 ≤ k := by omega
    have hl : (a.length : Int) ≤ 16777216 := by
      have : a.length * 1 ≤ a.length * k.toNat := Nat.mul_le_mul_left _ (by omega)
      omega
    have : (16777216 : Int) ≤ (2 ^ 63 - 1) / k := by
      rw [Int.le_ediv_iff_mul_le (by omega)]
      have : 16777216 * k ≤ 16777216 * 16777216 := Int.mul_le_mul_of_nonneg_left hk (by omega)
      omega
    omega
  · unfold Builtin.Str.tooLong
    rw [decide_eq_false]
    rw [hz]
    omega
  · by_cases c0 : k < 1
    · rw [if_pos c0]
      have e : k.toNat = 0 := by omega
      have q' : Q (.str Str.empty) H := by
        rw [e] at q
        exact q
      exact ⟨by decide, .str Str.empty, H, I.tok _, ⟨_, rfl⟩, q'⟩
    · rw [if_neg c0]
      by_cases c1 : (k == 1 || a.length == 0) = true
      · rw [if_pos c1]
        refine ⟨.str a, H, I, ⟨t, rfl⟩, ?_⟩
        have e : st (repS a.cps.toList k.toNat) = a := by
          rw [Bool.or_eq_true] at c1
          rcases c1 with c1 | c1
          · have : k = 1 := eq_of_beq c1
            subst this
            show st (List.replicate 1 a.cps.toList).flatten = a
            simp [st_codes]
          · have e0 : a.length = 0 := eq_of_beq c1
            rw [len_cps] at e0
            have e1 : a.cps.toList = [] := List.eq_nil_of_length_eq_zero e0
            rw [e1]
            have : repS [] k.toNat = [] := by simp [repS]
            rw [this, ← e1]
            exact st_codes a
        rw [e] at q
        exact q
      · rw [if_neg c1]
        have e : (⟨(List.replicate k.toNat a.cps).foldl (· ++ ·) #[]⟩ : Str) = st (repS a.cps.toList k.toNat) := by
          have := foldl_app a.cps k.toNat #[]
          show Str.mk _ = Str.mk _
          congr 1
          apply Array.toList_inj.mp
          rw [this]
          simp [repS]
        rw [e]
        refine ⟨?_, .str _, H, I.tok _, ⟨_, rfl⟩, q⟩
        rw [len_st]
        unfold repS
        rw [List.length_flatten, List.map_replicate, List.sum_replicate_nat]
        rw [← len_cps, Nat.mul_comm, hz]
        exact h2
theorem y_mul : OpR X (binaryOp .Mult) rMul := by
  refine op_weak (op_mul.or op_rep_str) fun x y H Q q => ?_
  cases x <;> cases y <;> first | exact q.elim | skip
  · exact .inl ⟨_, _, rfl, rfl, q⟩
  · exact .inr ⟨_, _, rfl, rfl, q⟩
theorem y_mod : OpR X (binaryOp .Mod) rMod := by
  refine op_weak op_mod fun x y H Q q => ?_
  cases x <;> cases y <;> first | exact q.elim | skip
  exact ⟨_, _, rfl, rfl, q⟩
theorem y_fdiv : OpR X (binaryOp .FloorDiv) rDiv := by
  refine op_weak op_fdiv fun x y H Q q => ?_
  cases x <;> cases y <;> first | exact q.elim | skip
  exact ⟨_, _, rfl, rfl, q⟩
theorem cmp_weak {f : Value → Value → Sem Value} {p : Int → Int → Bool} (h : OpR X f (rI0 fun i j => .bl (p i j))) : OpR X f (rCmp p) := by
  refine op_weak h fun x y H Q q => ?_
  cases x <;> cases y <;> first | exact q.elim | skip
  exact ⟨_, _, rfl, rfl, q⟩
theorem y_lt : OpR X (compareOp .Lt) (rCmp fun i j => decide (i < j)) := cmp_weak op_lt
theorem y_le : OpR X (compareOp .LtE) (rCmp fun i j => decide (i ≤ j)) := cmp_weak op_le
theorem y_gt : OpR X (compareOp .Gt) (rCmp fun i j => decide (j < i)) := cmp_weak op_gt
theorem y_ge : OpR X (compareOp .GtE) (rCmp fun i j => decide (j ≤ i)) := cmp_weak op_ge
theorem y_eq : OpR X (compareOp .Eq) rEqS := by
  refine op_weak op_eq fun x y H Q q => ?_
  cases x <;> cases y <;> first
    | exact q
    | exact ⟨rfl, by simpa [rEqS] using q⟩
theorem y_ne : OpR X (compareOp .NotEq) rNeS := by
  refine op_weak op_ne fun x y H Q q => ?_
  cases x <;> cases y <;> first
    | exact q
    | exact ⟨rfl, by simpa [rNeS] using q⟩
/-- a[i] by its kind -/
def rIxA (K : PySem.W.Frag) (x y : V) (H : Hp) (Q : VK) : Prop := match x, y with
  | .ref p, .int i => ∃ xs v, (SqL K H p xs ∨ SqT K H p xs) ∧ atI xs i = some v ∧ Q v H
  | .str z, .int i => ∃ c, z.length ≤ sizeLine ∧ atI z.cps.toList i = some c ∧ Q (.str (st [c])) H
  | _, _ => False
theorem ix_weak {r r' : R2} (h : IxR X r) (w : ∀ x y H Q, r' x y H Q → r x y H Q) : IxR X r' := fun a b pins s σ H x y v u Q I rx ry q => h a b pins s σ H x y v u Q I rx ry (w x y H Q q)
theorem y_ix : IxR X (rIxA X.K) := by
  refine ix_weak ix_seq fun x y H Q q => ?_
  cases x <;> cases y <;> first | exact q.elim | skip
  · obtain ⟨c, h1, h2, h3⟩ := q
    exact .inr (.inr ⟨_, _, c, rfl, rfl, h1, h2, h3⟩)
  · obtain ⟨xs, v, h1, h2, h3⟩ := q
    rcases h1 with h1 | h1
    · exact .inl ⟨_, xs, _, v, rfl, rfl, h1, h2, h3⟩
    · exact .inr (.inl ⟨_, xs, _, v, rfl, rfl, h1, h2, h3⟩)
/-- a[i:j] by its kind -/
def rSlA (K : PySem.W.Frag) (x : V) (lo hi : Option Int) (H : Hp) (Q : VK) : Prop := match x with
  | .str z => z.length ≤ sizeLine ∧ Q (.str (cutS z lo hi)) H
  | _ => False
theorem y_sl : SlR X (rSlA X.K) := by
  intro pins s σ H x v vl vu lo hi sl Q I rx hs pl pu h
  cases x <;> first | exact h.elim | skip
  exact sl_str pins s σ H _ v vl vu lo hi sl Q I rx hs pl pu ⟨_, rfl, h⟩

/-! ### built-ins -/
def rLen (K : PySem.W.Frag) (xs : List V) (H : Hp) (Q : VK) : Prop := match xs with
  | [.str z] => z.length ≤ sizeLine ∧ Q (.int (z.cps.toList.length : Nat)) H
  | [.ref p] => ∃ ys, (SqL K H p ys ∨ SqT K H p ys) ∧ Q (.int (ys.length : Nat)) H
  | _ => False
theorem call_weak {f : Value} {r r' : List V → Hp → VK → Prop} (h : CallR X f r) (w : ∀ x H Q, r' x H Q → r x H Q) : CallR X f r' := fun pins s σ H x us Q I rx q => h pins s σ H x us Q I rx (w x H Q q)
theorem y_len : CallR X (.builtin "len") (rLen X.K) := by
  refine call_weak call_len fun x H Q q => ?_
  unfold rLen at q
  split at q
  · rename_i z
    refine ⟨.str z, z.length, rfl, ⟨q.1, rfl⟩, ?_⟩
    rw [len_cps]
    exact q.2
  · rename_i p
    obtain ⟨ys, h, q⟩ := q
    refine ⟨.ref p, ys.length, rfl, ?_, q⟩
    rcases h with h | h
    · exact .inl ⟨ys, h, rfl⟩
    · exact .inr ⟨ys, h, rfl⟩
  · exact q.elim
def rOrd (xs : List V) (H : Hp) (Q : VK) : Prop := match xs with
  | [.str z] => z.cps.toList.length = 1 ∧ Q (.int (z.cps.toList.headD 0 : Nat)) H
  | _ => False
theorem y_ord : CallR X (.builtin "ord") rOrd := by
  refine call_weak call_ord fun x H Q q => ?_
  unfold rOrd at q
  split at q
  · rename_i z
    refine ⟨z, rfl, by rw [len_cps]; exact q.1, ?_⟩
    have e : z.cps.getD 0 0 = z.cps.toList.headD 0 := by
      obtain ⟨⟨l⟩⟩ := z
      cases l <;> simp
    rw [e]
    exact q.2
  · exact q.elim
def rMin (xs : List V) (H : Hp) (Q : VK) : Prop := match xs with
  | [.int i, .int j] => Q (.int (min i j)) H
  | _ => False
theorem y_min (hc : X.calm = true) : CallR X (.builtin "min") rMin := by
  refine call_weak (call_min2 hc) fun x H Q q => ?_
  unfold rMin at q
  split at q
  · rename_i i j
    refine ⟨i, j, rfl, ?_⟩
    have e : (if j < i then j else i) = min i j := by
      split <;> omega
    rw [e]
    exact q
  · exact q.elim
/-- isinstance(x, T) of a scalar and a built-in type -/
def tyN (v : V) : Option String := match v with
  | .non => some "NoneType"
  | .bl _ => some "bool"
  | .int _ => some "int"
  | .str _ => some "str"
  | _ => none
def rIsiS (xs : List V) (H : Hp) (Q : VK) : Prop := match xs with
  | [x, .ty n] => ∃ a b, tyN x = some a ∧ kitB a n = some b ∧ Q (.bl b) H
  | _ => False
theorem y_isi : CallR X (.builtin "isinstance") rIsiS := by
  refine call_weak call_isi fun x H Q q => ?_
  unfold rIsiS at q
  split at q
  · rename_i x n
    obtain ⟨a, b, h1, h2, q⟩ := q
    refine ⟨x, .ty n, .type a, .type n, b, rfl, .ty n, ?_, kit_ty h2, q⟩
    cases x <;> first | (cases h1; done) | skip
    all_goals (cases h1; refine .base ?_; constructor)
  · exact q.elim
theorem isi_mk {x : V} {n a : String} {b : Bool} {H : Hp} {Q : VK} (h1 : tyN x = some a) (h2 : kitB a n = some b) : rIsiS [x, .ty n] H Q = Q (.bl b) H := by
  apply propext
  show (∃ a b, tyN x = some a ∧ kitB a n = some b ∧ Q (.bl b) H) ↔ _
  constructor
  · rintro ⟨a', b', h1', h2', q⟩
    rw [h1] at h1'
    cases h1'
    rw [h2] at h2'
    cases h2'
    exact q
  · intro q
    exact ⟨a, b, h1, h2, q⟩
section
variable {H : Hp} {Q : VK}
theorem isi_int_int {i : Int} : rIsiS [.int i, .ty "int"] H Q = Q (.bl true) H := isi_mk rfl (by decide +kernel)
theorem isi_int_bool {i : Int} : rIsiS [.int i, .ty "bool"] H Q = Q (.bl false) H := isi_mk rfl (by decide +kernel)
theorem isi_int_str {i : Int} : rIsiS [.int i, .ty "str"] H Q = Q (.bl false) H := isi_mk rfl (by decide +kernel)
theorem isi_bl_int {i : Bool} : rIsiS [.bl i, .ty "int"] H Q = Q (.bl true) H := isi_mk rfl (by decide +kernel)
theorem isi_bl_bool {i : Bool} : rIsiS [.bl i, .ty "bool"] H Q = Q (.bl true) H := isi_mk rfl (by decide +kernel)
theorem isi_str_str {i : Str} : rIsiS [.str i, .ty "str"] H Q = Q (.bl true) H := isi_mk rfl (by decide +kernel)
theorem isi_str_int {i : Str} : rIsiS [.str i, .ty "int"] H Q = Q (.bl false) H := isi_mk rfl (by decide +kernel)
end
theorem same_new {H : Hp} {p : Addr} {o : HO} (h : H p = none) : Same H (upd H p o) := fun b x e => by
  rw [upd_ne (ne_of_none e h)]
  exact e
theorem same_upd {H H' : Hp} {p : Addr} {o : HO} (s : Same H H') (h : H' p = none) : Same H (upd H' p o) := s.trans (same_new h)
/-- a script's cell, 0 behind its end -/
def cel (ns : List Int) (j : Nat) : Int := ns.getD j 0
theorem atI_map {α : Type} (f : α → V) (ns : List α) {j : Nat} {x : α} (h : ns[j]? = some x) : atI (ns.map f) (j : Int) = some (f x) := atI_nat (by rw [List.getElem?_map, h]; rfl)
theorem cel_in {ns : List Int} {j : Nat} (h : j < ns.length) : ns[j]? = some (cel ns j) := by
  unfold cel
  rw [List.getD_eq_getElem?_getD, List.getElem?_eq_getElem h]
  rfl
theorem cel_out {ns : List Int} {j : Nat} (h : ¬ j < ns.length) : cel ns j = 0 := by
  unfold cel
  rw [List.getD_eq_getElem?_getD, List.getElem?_eq_none (by omega)]
  rfl
end
end Y
namespace My
open PySem L2 Y
local macro_rules | `(tactic| walk_at "ev") => `(tactic| simp only [L2.start, List.map_cons, List.map_nil, List.length_cons, List.length_nil, Nat.reduceAdd, Nat.reduceSub, List.replicate_succ, List.replicate_zero, List.cons_append, List.nil_append, List.append_nil,
  tVar_ap, look_some, List.getElem?_cons_zero, List.getElem?_cons_succ, List.set_cons_zero, List.set_cons_succ, tC_ap, tSeq_ap, tNext_ap, tAsg_ap, gName_ap, tRet_ap, tRetN_ap, tDrop_ap, tBreak_ap, tCont_ap, tOp_ap, tUn_ap, tNil_ap, tCons_ap, tCB_ap, tCall_ap, tLst_ap, tTup_ap, tSl_ap, tNoPart_ap, tPart_ap,
  asInt_int, asBl_bl, isi_int_int, isi_int_bool, isi_bl_int, isi_bl_bool, isi_str_str, isi_str_int, isi_int_str, asStr_str, asRef_ref, br_t, br_f, brS_t, brS_f, tIfS_ap, brE_t, brE_f, tIf_ap, tAndV_ap, tOrV_ap, tNotV_ap, brT_t, brT_f, tK_ap, tAnd_ap, tOr_ap, tNot_ap, tB_ap, tTest_ap, tFor1_ap, tFor2_ap, tForS_ap, tForL_ap, rng1_ap, rng2_ap,
  Y.rAdd, Y.rSub, Y.rMul, Y.rMod, Y.rDiv, Y.rCmp, Y.rEqS, Y.rNeS, Y.rIxA, Y.rSlA, Y.rLen, Y.rOrd, Y.rMin, codes_st, len_st, one_st, mk_st, Bool.not_true, Bool.not_false, cxOf_K, line_eq, Nat.reduceLeDiff, Nat.reduceLT, Int.reduceLT, Int.reduceLE, Int.reduceNeg, Int.reducePow, CDiv, CMul, true_and, and_true, or_true, true_or, decide_eq_true_eq, decide_true, decide_false])
def topS (i : Nat) : Stmt := PySem.Challenge.pw_chunkshelf_k01_weights.main.body.getD i (.Pass ⟨0, 0, 0, 0⟩)
abbrev s_weight : Stmt := topS 4
abbrev N_weight : List Str := ["signs", "total", "sign"]
theorem sc_weight : FnScope N_weight ["signs"] (defScope s_weight) := ⟨rfl, rfl, rfl, by decide +kernel, rfl, by decide +kernel, by decide +kernel⟩
abbrev s__law_cell_at : Stmt := topS 6
abbrev N__law_cell_at : List Str := ["_law_script", "_law_k"]
theorem sc__law_cell_at : FnScope N__law_cell_at ["_law_script", "_law_k"] (defScope s__law_cell_at) := ⟨rfl, rfl, rfl, by decide +kernel, rfl, by decide +kernel, by decide +kernel⟩
abbrev s__law_whole : Stmt := topS 7
abbrev N__law_whole : List Str := ["_law_got"]
theorem sc__law_whole : FnScope N__law_whole ["_law_got"] (defScope s__law_whole) := ⟨rfl, rfl, rfl, by decide +kernel, rfl, by decide +kernel, by decide +kernel⟩
abbrev s__law_sign_by : Stmt := topS 8
abbrev N__law_sign_by : List Str := ["_law_cell", "_law_some"]
theorem sc__law_sign_by : FnScope N__law_sign_by ["_law_cell"] (defScope s__law_sign_by) := ⟨rfl, rfl, rfl, by decide +kernel, rfl, by decide +kernel, by decide +kernel⟩
abbrev s__law_text_by : Stmt := topS 9
abbrev N__law_text_by : List Str := ["_law_cell", "_law_size", "_law_signs", "_law_block", "_law_got", "_law_number", "_law_k"]
theorem sc__law_text_by : FnScope N__law_text_by ["_law_cell", "_law_size"] (defScope s__law_text_by) := ⟨rfl, rfl, rfl, by decide +kernel, rfl, by decide +kernel, by decide +kernel⟩
abbrev s__law_size_by : Stmt := topS 10
abbrev N__law_size_by : List Str := ["_law_cell"]
theorem sc__law_size_by : FnScope N__law_size_by ["_law_cell"] (defScope s__law_size_by) := ⟨rfl, rfl, rfl, by decide +kernel, rfl, by decide +kernel, by decide +kernel⟩
abbrev s_law : Stmt := topS 11
abbrev N_law : List Str := ["_law_script", "_law_text", "_law_power", "_law_total", "_law_k", "_law_got"]
theorem sc_law : FnScope N_law ["_law_script"] (defScope s_law) := ⟨rfl, rfl, rfl, by decide +kernel, rfl, by decide +kernel, by decide +kernel⟩
structure Wd (K : PySem.W.Frag) (mg : Str → Option Value) where
  f_weight : Addr
  d_weight : FuncData
  F_weight : Fun K "weight" "weight" s_weight f_weight d_weight
  b_weight : Binds K d_weight ["signs"] []
  m_weight : mg "weight" = some (.ref f_weight)
  f__law_cell_at : Addr
  d__law_cell_at : FuncData
  F__law_cell_at : Fun K "_law_cell_at" "_law_cell_at" s__law_cell_at f__law_cell_at d__law_cell_at
  b__law_cell_at : Binds K d__law_cell_at ["_law_script", "_law_k"] []
  m__law_cell_at : mg "_law_cell_at" = some (.ref f__law_cell_at)
  f__law_whole : Addr
  d__law_whole : FuncData
  F__law_whole : Fun K "_law_whole" "_law_whole" s__law_whole f__law_whole d__law_whole
  b__law_whole : Binds K d__law_whole ["_law_got"] []
  m__law_whole : mg "_law_whole" = some (.ref f__law_whole)
  f__law_sign_by : Addr
  d__law_sign_by : FuncData
  F__law_sign_by : Fun K "_law_sign_by" "_law_sign_by" s__law_sign_by f__law_sign_by d__law_sign_by
  b__law_sign_by : Binds K d__law_sign_by ["_law_cell"] []
  m__law_sign_by : mg "_law_sign_by" = some (.ref f__law_sign_by)
  f__law_text_by : Addr
  d__law_text_by : FuncData
  F__law_text_by : Fun K "_law_text_by" "_law_text_by" s__law_text_by f__law_text_by d__law_text_by
  b__law_text_by : Binds K d__law_text_by ["_law_cell", "_law_size"] []
  m__law_text_by : mg "_law_text_by" = some (.ref f__law_text_by)
  f__law_size_by : Addr
  d__law_size_by : FuncData
  F__law_size_by : Fun K "_law_size_by" "_law_size_by" s__law_size_by f__law_size_by d__law_size_by
  b__law_size_by : Binds K d__law_size_by ["_law_cell"] []
  m__law_size_by : mg "_law_size_by" = some (.ref f__law_size_by)
  f_law : Addr
  d_law : FuncData
  F_law : Fun K "law" "law" s_law f_law d_law
  b_law : Binds K d_law ["_law_script"] []
  m_law : mg "law" = some (.ref f_law)
  t_WEIGHT_START : Tok
  m_WEIGHT_START : mg "WEIGHT_START" = some (.int 7 t_WEIGHT_START)
  t_WEIGHT_FACTOR : Tok
  m_WEIGHT_FACTOR : mg "WEIGHT_FACTOR" = some (.int 131 t_WEIGHT_FACTOR)
  t_WEIGHT_DIVISOR : Tok
  m_WEIGHT_DIVISOR : mg "WEIGHT_DIVISOR" = some (.int 65521 t_WEIGHT_DIVISOR)
  z_bool : mg "bool" = none
  z_int : mg "int" = none
  z_isinstance : mg "isinstance" = none
  z_len : mg "len" = none
  z_min : mg "min" = none
  z_ord : mg "ord" = none
  z_range : mg "range" = none
/-! ### the law's own readers -/
def alpha : List Nat := ((" !\"#$&'()*+,-./0123456789:;<=>?@ABCDEFGHIJKLMNOPQRSTUVWXYZ[\\]^_`" : Str)).cps.toList ++ (("abcdefghijklmnopqrstuvwxyz{|}~\n" : Str)).cps.toList
theorem alpha_len : alpha.length = 95 := by decide +kernel
def sgn (i : Int) : Nat := alpha.getD (i % 95).toNat 0
theorem sgn_at (i : Int) : atI alpha (i % 95) = some (sgn i) := by
  have h0 : 0 ≤ i % 95 := Int.emod_nonneg _ (by omega)
  have h1 : i % 95 < 95 := Int.emod_lt_of_pos _ (by omega)
  have e : i % 95 = (((i % 95).toNat : Nat) : Int) := (Int.toNat_of_nonneg h0).symm
  have hl : (i % 95).toNat < alpha.length := by rw [alpha_len]; omega
  have : alpha[(i % 95).toNat]? = some (sgn i) := by
    unfold sgn
    rw [List.getD_eq_getElem?_getD, List.getElem?_eq_getElem hl]
    rfl
  rw [e]
  exact atI_nat this
theorem sgn_mem (i : Int) : sgn i ∈ alpha := by
  have h0 : 0 ≤ i % 95 := Int.emod_nonneg _ (by omega)
  have h1 : i % 95 < 95 := Int.emod_lt_of_pos _ (by omega)
  have hl : (i % 95).toNat < alpha.length := by rw [alpha_len]; omega
  unfold sgn
  rw [List.getD_eq_getElem?_getD, List.getElem?_eq_getElem hl]
  exact List.getElem_mem hl
def sgs (c : Int) : Int := if c % 4 = 0 then 2 else if c % 4 = 3 then 1 else 95
theorem sgs_at (c : Int) : atI [V.int 2, V.int 95, V.int 95, V.int 1] (c % 4) = some (V.int (sgs c)) := by
  have h0 : 0 ≤ c % 4 := Int.emod_nonneg _ (by omega)
  have h1 : c % 4 < 4 := Int.emod_lt_of_pos _ (by omega)
  have : c % 4 = 0 ∨ c % 4 = 1 ∨ c % 4 = 2 ∨ c % 4 = 3 := by omega
  rcases this with e | e | e | e <;> (unfold sgs; rw [e]; rfl)
theorem sgs_pos (c : Int) : 0 < sgs c := by
  unfold sgs
  split
  · omega
  · split <;> omega
def nxt (x : Int) : Int := (x * 48271 + 11) % 2147483647
def numS (c : Int) : Nat → Int
  | 0 => c
  | k + 1 => nxt (numS c k)
def blk (c : Int) (b : Nat) : List Nat := (List.range b).map fun k => sgn (65 + numS c (k + 1) / 7 % sgs c)
theorem blk_succ (c : Int) (b : Nat) : blk c (b + 1) = blk c b ++ [sgn (65 + numS c (b + 1) / 7 % sgs c)] := by
  unfold blk
  rw [List.range_succ, List.map_append]
  rfl
theorem blk_len (c : Int) (b : Nat) : (blk c b).length = b := by simp [blk]
def blkN (c : Int) (n : Nat) : Nat := if c % 4 = 2 then min n (1 + (c / 4 % 50).toNat) else n
def textBy (c : Int) (n : Nat) : List Nat := (repS (blk c (blkN c n)) (n / blkN c n + 1)).take n
theorem repS_len (z : List Nat) (k : Nat) : (repS z k).length = k * z.length := by
  unfold repS
  rw [List.length_flatten, List.map_replicate, List.sum_replicate_nat]
theorem blkN_pos {c : Int} {n : Nat} (h : 0 < n) : 0 < blkN c n := by
  unfold blkN
  split
  · exact Nat.lt_min.mpr ⟨h, by omega⟩
  · exact h
theorem blkN_le (c : Int) (n : Nat) : blkN c n ≤ n := by
  unfold blkN
  split
  · exact Nat.min_le_left _ _
  · exact Nat.le_refl _
theorem textBy_len (c : Int) (n : Nat) : (textBy c n).length = n := by
  unfold textBy
  rw [List.length_take, repS_len, blk_len]
  by_cases h : n = 0
  · subst h
    simp
  · have hb := blkN_pos (c := c) (Nat.pos_of_ne_zero h)
    have := Nat.div_add_mod n (blkN c n)
    have hm := Nat.mod_lt n hb
    have : n < (n / blkN c n + 1) * blkN c n := by
      rw [Nat.add_mul, Nat.mul_comm (n / blkN c n)]
      omega
    omega
theorem mem_repS {z : List Nat} {k x : Nat} (h : x ∈ repS z k) : x ∈ z := by
  unfold repS at h
  obtain ⟨l, h1, h2⟩ := List.mem_flatten.mp h
  rw [(List.mem_replicate.mp h1).2] at h2
  exact h2
theorem textBy_mem {c : Int} {n x : Nat} (h : x ∈ textBy c n) : x ∈ alpha := by
  have h1 := mem_repS (List.mem_of_mem_take h)
  unfold blk at h1
  obtain ⟨k, _, e⟩ := List.mem_map.mp h1
  subst e
  exact sgn_mem _
theorem cut_take {z : List Nat} {n : Nat} (h : n ≤ z.length) : cutS (st z) none (some (n : Int)) = st (z.take n) := by
  unfold cutS
  rw [codes_st, HT.sIx_none, HT.sIx_nat, len_st, Nat.min_eq_left h]
  rfl
def sizeBy (c : Int) : Nat := if c % 8 = 7 then (c / 8 % 300).toNat else (c / 8 % 60).toNat
theorem sizeBy_le (c : Int) : sizeBy c ≤ 299 := by
  unfold sizeBy
  split <;> omega
def wt (l : List Nat) : Int := l.foldl (fun (t : Int) (c : Nat) => (t * 131 + (c : Int)) % 65521) 7
theorem wt_take {l : List Nat} {i c : Nat} (h : l[i]? = some c) : wt (l.take (i + 1)) = (wt (l.take i) * 131 + (c : Int)) % 65521 := by
  rw [List.take_add_one, h]
  unfold wt
  rw [List.foldl_append]
  rfl
def pw : List Nat → Int
  | [] => 1
  | _ :: r => pw r * 131 % 65521
def tot : List Nat → Int
  | [] => 0
  | c :: r => (tot r + (c : Int) * pw r) % 65521
def stp (t : Int) (c : Nat) : Int := (t * 131 + (c : Int)) % 65521
theorem stp_sum : ∀ (s : List Nat) (acc : Int), s.foldl stp acc % 65521 = (tot s + acc * pw s) % 65521
  | [], acc => by
    show acc % 65521 = (0 + acc * 1) % 65521
    rw [Int.zero_add, Int.mul_one]
  | c :: r, acc => by
    rw [List.foldl_cons, stp_sum r (stp acc c)]
    show (tot r + (acc * 131 + (c : Int)) % 65521 * pw r) % 65521 = ((tot r + (c : Int) * pw r) % 65521 + acc * (pw r * 131 % 65521)) % 65521
    have e1 : (tot r + (acc * 131 + (c : Int)) % 65521 * pw r) % 65521 = (tot r + (acc * 131 + (c : Int)) * pw r) % 65521 := by
      rw [Int.add_emod, Int.mul_emod, Int.emod_emod_of_dvd _ (Int.dvd_refl _), ← Int.mul_emod, ← Int.add_emod]
    have e2 : ((tot r + (c : Int) * pw r) % 65521 + acc * (pw r * 131 % 65521)) % 65521 = (tot r + (c : Int) * pw r + acc * (pw r * 131)) % 65521 := by
      rw [Int.add_emod, Int.emod_emod_of_dvd _ (Int.dvd_refl _), Int.mul_emod acc, Int.emod_emod_of_dvd _ (Int.dvd_refl _), ← Int.mul_emod, ← Int.add_emod]
    rw [e1, e2]
    congr 1
    rw [Int.add_mul, Int.mul_assoc, Int.mul_comm 131 (pw r)]
    omega
theorem stp_low : ∀ (s : List Nat) (acc : Int), 0 ≤ acc → acc < 65521 → 0 ≤ s.foldl stp acc ∧ s.foldl stp acc < 65521
  | [], acc, h, h' => ⟨h, h'⟩
  | c :: r, acc, h, h' => stp_low r (stp acc c) (Int.emod_nonneg _ (by decide)) (Int.emod_lt_of_pos _ (by decide))
theorem wt_sum (l : List Nat) : wt l = (tot l + 7 * pw l) % 65521 := by
  have h := stp_sum l 7
  have ⟨h1, h2⟩ := stp_low l 7 (by decide) (by decide)
  rw [Int.emod_eq_of_lt h1 h2] at h
  exact h
theorem drop_at {l : List Nat} {i : Nat} (h : i < l.length) : ∃ c, l[l.length - 1 - i]? = some c ∧ l.drop (l.length - (i + 1)) = c :: l.drop (l.length - i) := by
  have h1 : l.length - 1 - i < l.length := by omega
  refine ⟨l[l.length - 1 - i], List.getElem?_eq_getElem h1, ?_⟩
  have e : l.length - (i + 1) = l.length - 1 - i := by omega
  have e2 : l.length - i = l.length - 1 - i + 1 := by omega
  rw [e, e2]
  exact List.drop_eq_getElem_cons h1
theorem pw_low : ∀ l : List Nat, 0 ≤ pw l ∧ pw l < 65521
  | [] => ⟨by decide, by decide⟩
  | _ :: r => ⟨Int.emod_nonneg _ (by decide), Int.emod_lt_of_pos _ (by decide)⟩
section
variable {P : Program} {w : World} {K : PySem.W.Frag} {mg : Str → Option Value} {base : Heap}
def sp_weight (K : PySem.W.Frag) : Sp := fun vs H Q _ => ∃ (l : List Nat), vs = [.str (st l)] ∧ Q (.int (wt l)) H
theorem ok_weight (W : Wd K mg) : FnOk P w K mg base CX0 1 W.f_weight W.d_weight ["signs"] (sp_weight K) := by
  refine W.F_weight.ok sc_weight (fun vs H Q E h => ?_) (fun cdv A outer s H vs Q E hr h => ?_)
  · obtain ⟨l, rfl, q⟩ := h
    rfl
  · obtain ⟨l, rfl, q⟩ := h
    refine ⟨_, (pss_cons (ps_set (i := 1) sc_weight.nd rfl (by first | exact Or.inl rfl | exact Or.inr rfl) (pe_glob (v := .int 7) (by rfl) W.m_WEIGHT_START ⟨_, rfl⟩))
      (pss_cons (ps_for PassesOwn.never rfl (pi_str (pv 0)) (pg_name (i := 2) sc_weight.nd rfl (by first | exact Or.inl rfl | exact Or.inr rfl)) (pss_one (ps_set (i := 1) sc_weight.nd rfl (by first | exact Or.inl rfl | exact Or.inr rfl) (pe_op y_mod (pe_op y_add (pe_op y_mul (pv 1) (pe_glob (v := .int 131) (by rfl) W.m_WEIGHT_FACTOR ⟨_, rfl⟩)) (pe_callB y_ord (by rfl) W.z_ord (by decide +kernel) (pa_cons (pv 2) pa_nil))) (pe_glob (v := .int 65521) (by rfl) W.m_WEIGHT_DIVISOR ⟨_, rfl⟩)))))
      (pss_one (ps_ret (pv 1))))), ?_⟩
    walk_at "ev"
    refine for_sgn (fun i σ' H' => H' = H ∧ ∃ x, σ' = [some (V.str (st l)), some (V.int (wt (l.take i))), x]) ⟨rfl, none, rfl⟩ ?_ ?_
    · rintro i c σ' H' hi ⟨rfl, x, rfl⟩
      walk_at "ev"
      rw [wt_take hi]
      exact ⟨_, rfl⟩
    · rintro σ' H' ⟨rfl, x, rfl⟩
      walk_at "ev"
      rw [List.take_length]
      exact q
    
def sp__law_cell_at (K : PySem.W.Frag) : Sp := fun vs H Q _ => ∃ (l : Addr) (ns : List Int) (j : Nat), vs = [.ref l, .int (j : Int)] ∧ SqL K H l (ns.map V.int) ∧ Q (.int (cel ns j)) H
theorem ok__law_cell_at (W : Wd K mg) : FnOk P w K mg base CX0 1 W.f__law_cell_at W.d__law_cell_at ["_law_script", "_law_k"] (sp__law_cell_at K) := by
  refine W.F__law_cell_at.ok sc__law_cell_at (fun vs H Q E h => ?_) (fun cdv A outer s H vs Q E hr h => ?_)
  · obtain ⟨l, ns, j, rfl, hS, q⟩ := h
    rfl
  · obtain ⟨l, ns, j, rfl, hS, q⟩ := h
    refine ⟨_, (pss_cons (ps_if (pt_cmpR y_lt (pv 1) (pe_callB y_len (by rfl) W.z_len (by decide +kernel) (pa_cons (pv 0) pa_nil)) (nomark _)) (pss_one (ps_ret (pe_ix y_ix (pv 0) (pv 1) (fun _ _ => rfl)))) pss_nil)
      (pss_one (ps_ret pe_int))), ?_⟩
    walk_at "ev"
    refine ⟨_, .inl hS, brS_of (fun hc => ?_) (fun hc => ?_)⟩ <;> walk_at "ev"
    · have hj : j < ns.length := by
        have := of_decide_eq_true hc
        rw [List.length_map] at this
        omega
      exact ⟨_, _, .inl hS, atI_map V.int ns (cel_in hj), q⟩
    · have hj : ¬ j < ns.length := by
        have := of_decide_eq_false hc
        rw [List.length_map] at this
        omega
      rw [cel_out hj] at q
      exact q
def sp__law_whole (K : PySem.W.Frag) : Sp := fun vs H Q _ => ∃ (i : Int), vs = [.int i] ∧ Q (.bl true) H
theorem ok__law_whole (W : Wd K mg) : FnOk P w K mg base CX0 1 W.f__law_whole W.d__law_whole ["_law_got"] (sp__law_whole K) := by
  refine W.F__law_whole.ok sc__law_whole (fun vs H Q E h => ?_) (fun cdv A outer s H vs Q E hr h => ?_)
  · obtain ⟨i, rfl, q⟩ := h
    rfl
  · obtain ⟨i, rfl, q⟩ := h
    refine ⟨_, (pss_one (ps_ret (pe_and (pe_callB y_isi (by rfl) W.z_isinstance (by decide +kernel) (pa_cons (pv 0) (pa_cons (pe_bltn (v := .ty "int") (by rfl) W.z_int (by decide +kernel) rfl) pa_nil))) (pe_one (pe_not (pe_callB y_isi (by rfl) W.z_isinstance (by decide +kernel) (pa_cons (pv 0) (pa_cons (pe_bltn (v := .ty "bool") (by rfl) W.z_bool (by decide +kernel) rfl) pa_nil)))))))), ?_⟩
    walk_at "ev"
    exact q
def sp__law_sign_by (K : PySem.W.Frag) : Sp := fun vs H Q _ => ∃ (i : Int), vs = [.int i] ∧ Q (.str (st [sgn i])) H
theorem ok__law_sign_by (W : Wd K mg) : FnOk P w K mg base CX0 1 W.f__law_sign_by W.d__law_sign_by ["_law_cell"] (sp__law_sign_by K) := by
  refine W.F__law_sign_by.ok sc__law_sign_by (fun vs H Q E h => ?_) (fun cdv A outer s H vs Q E hr h => ?_)
  · obtain ⟨i, rfl, q⟩ := h
    rfl
  · obtain ⟨i, rfl, q⟩ := h
    refine ⟨_, (pss_cons (ps_set (i := 1) sc__law_sign_by.nd rfl (by first | exact Or.inl rfl | exact Or.inr rfl) pe_str)
      (pss_cons (ps_set (i := 1) sc__law_sign_by.nd rfl (by first | exact Or.inl rfl | exact Or.inr rfl) (pe_op y_add (pv 1) pe_str))
      (pss_one (ps_ret (pe_ix y_ix (pv 1) (pe_op y_mod (pv 0) pe_int) (fun _ _ => rfl)))))), ?_⟩
    walk_at "ev"
    refine ⟨by decide +kernel, sgn i, by decide +kernel, sgn_at i, q⟩
def sp__law_size_by (K : PySem.W.Frag) : Sp := fun vs H Q _ => ∃ (i : Int), vs = [.int i] ∧ Q (.int (sizeBy i : Nat)) H
theorem ok__law_size_by (W : Wd K mg) : FnOk P w K mg base CX0 1 W.f__law_size_by W.d__law_size_by ["_law_cell"] (sp__law_size_by K) := by
  refine W.F__law_size_by.ok sc__law_size_by (fun vs H Q E h => ?_) (fun cdv A outer s H vs Q E hr h => ?_)
  · obtain ⟨i, rfl, q⟩ := h
    rfl
  · obtain ⟨i, rfl, q⟩ := h
    refine ⟨_, (pss_cons (ps_if (pt_cmpR y_eq (pe_op y_mod (pv 0) pe_int) pe_int (nomark _)) (pss_one (ps_ret (pe_op y_mod (pe_op y_fdiv (pv 0) pe_int) pe_int))) pss_nil)
      (pss_one (ps_ret (pe_op y_mod (pe_op y_fdiv (pv 0) pe_int) pe_int)))), ?_⟩
    unfold sizeBy at q
    walk_at "ev"
    refine brS_of (fun hc => ?_) (fun hc => ?_) <;> walk_at "ev"
    · rw [if_pos (of_decide_eq_true hc)] at q
      rw [Int.toNat_of_nonneg (Int.emod_nonneg _ (by decide))] at q
      exact q
    · rw [if_neg (of_decide_eq_false hc)] at q
      rw [Int.toNat_of_nonneg (Int.emod_nonneg _ (by decide))] at q
      exact q
def sp__law_text_by (K : PySem.W.Frag) : Sp := fun vs H Q _ => ∃ (c : Int) (n : Nat), vs = [.int c, .int (n : Int)] ∧ n ≤ 4000 ∧ ∀ H', Same H H' → Q (.str (st (textBy c n))) H'
theorem ok__law_text_by (W : Wd K mg) : FnOk P w K mg base CX0 2 W.f__law_text_by W.d__law_text_by ["_law_cell", "_law_size"] (sp__law_text_by K) := by
  refine W.F__law_text_by.ok sc__law_text_by (fun vs H Q E h => ?_) (fun cdv A outer s H vs Q E hr h => ?_)
  · obtain ⟨c, n, rfl, hn, q⟩ := h
    rfl
  · obtain ⟨c, n, rfl, hn, q⟩ := h
    refine ⟨_, (pss_cons (ps_set (i := 2) sc__law_text_by.nd rfl (by first | exact Or.inl rfl | exact Or.inr rfl) (pe_ix y_ix (pe_lst (pa_cons pe_int (pa_cons pe_int (pa_cons pe_int (pa_cons pe_int pa_nil))))) (pe_op y_mod (pv 0) pe_int) (fun _ _ => rfl)))
      (pss_cons (ps_set (i := 3) sc__law_text_by.nd rfl (by first | exact Or.inl rfl | exact Or.inr rfl) (pv 1))
      (pss_cons (ps_if (pt_cmpR y_eq (pe_op y_mod (pv 0) pe_int) pe_int (nomark _)) (pss_one (ps_set (i := 3) sc__law_text_by.nd rfl (by first | exact Or.inl rfl | exact Or.inr rfl) (pe_callB (y_min rfl) (by rfl) W.z_min (by decide +kernel) (pa_cons (pv 1) (pa_cons (pe_op y_add pe_int (pe_op y_mod (pe_op y_fdiv (pv 0) pe_int) pe_int)) pa_nil))))) pss_nil)
      (pss_cons (ps_if (pt_cmpR y_eq (pv 3) pe_int (nomark _)) (pss_one (ps_ret pe_str)) pss_nil)
      (pss_cons (ps_set (i := 4) sc__law_text_by.nd rfl (by first | exact Or.inl rfl | exact Or.inr rfl) pe_str)
      (pss_cons (ps_set (i := 5) sc__law_text_by.nd rfl (by first | exact Or.inl rfl | exact Or.inr rfl) (pv 0))
      (pss_cons (ps_for PassesOwn.never rfl (pi_range1 (by rfl) W.z_range (pa_cons (pv 3) pa_nil)) (pg_name (i := 6) sc__law_text_by.nd rfl (by first | exact Or.inl rfl | exact Or.inr rfl)) (pss_cons (ps_set (i := 5) sc__law_text_by.nd rfl (by first | exact Or.inl rfl | exact Or.inr rfl) (pe_op y_mod (pe_op y_add (pe_op y_mul (pv 5) pe_int) pe_int) pe_int))
      (pss_one (ps_set (i := 4) sc__law_text_by.nd rfl (by first | exact Or.inl rfl | exact Or.inr rfl) (pe_op y_add (pv 4) (pe_call (ok__law_sign_by W) (hr.mono (by decide)) (by rfl) W.m__law_sign_by W.F__law_sign_by.kp W.b__law_sign_by .nil pass0 (pa_cons (pe_op y_add pe_int (pe_op y_mod (pe_op y_fdiv (pv 5) pe_int) (pv 2))) pa_nil)))))))
      (pss_one (ps_ret (pe_slice y_sl (pe_op y_mul (pv 4) (pe_op y_add (pe_op y_fdiv (pv 1) (pv 3)) pe_int)) po_none (po_some (pv 1)))))))))))), ?_⟩
    walk_at "ev"
    intro p hp
    refine ⟨_, _, .inl (SqL.of upd_same), sgs_at c, ?_⟩
    have sm := same_new (o := .lst [V.int 2, V.int 95, V.int 95, V.int 1]) hp
    generalize upd H p (.lst [V.int 2, V.int 95, V.int 95, V.int 1]) = H1 at sm ⊢
    have hs := sgs_pos c
    refine brS_join (R := fun σ H => H = H1 ∧ σ = [some (V.int c), some (V.int (n : Int)), some (V.int (sgs c)), some (V.int (blkN c n : Nat)), none, none, none]) ?_ ?_
    · rintro σ H2 ⟨rfl, rfl⟩
      walk_at "ev"
      refine brS_of (fun hc => ?_) (fun hc => ?_) <;> walk_at "ev"
      · have h0 : blkN c n = 0 := by
          have := of_decide_eq_true hc
          omega
        have hn0 : n = 0 := by
          refine Nat.eq_zero_of_not_pos fun hp => ?_
          have := blkN_pos (c := c) hp
          omega
        have := q _ sm
        rw [hn0] at this
        exact this
      · have h0 : 0 < blkN c n := by
          have := of_decide_eq_false hc
          omega
        have hle := blkN_le c n
        refine ⟨by omega, ?_⟩
        rw [Int.toNat_natCast]
        refine for_rng (fun i σ H' => H' = H2 ∧ ∃ x, σ = [some (V.int c), some (V.int (n : Int)), some (V.int (sgs c)), some (V.int (blkN c n : Nat)), some (V.str (st (blk c i))), some (V.int (numS c i)), x]) ⟨rfl, none, rfl⟩ ?_ ?_
        · rintro i σ H' hi ⟨rfl, x, rfl⟩
          walk_at "ev"
          refine ⟨hs, _, rfl, ?_⟩
          walk_at "ev"
          refine ⟨?_, ?_⟩
          · rw [blk_len]
            omega
          · rw [blk_succ]
            exact ⟨_, rfl⟩
        · rintro σ H' ⟨rfl, x, rfl⟩
          walk_at "ev"
          have hd : (n : Int) / (blkN c n : Int) = ((n / blkN c n : Nat) : Int) := rfl
          have hd2 : n / blkN c n ≤ n := Nat.div_le_self _ _
          have hl : (repS (blk c (blkN c n)) (n / blkN c n + 1)).length ≤ 8000 := by
            rw [repS_len, blk_len, Nat.add_mul]
            have hm : n / blkN c n * blkN c n ≤ n := Nat.div_mul_le_self n _
            omega
          have hg : n ≤ (repS (blk c (blkN c n)) (n / blkN c n + 1)).length := by
            have := textBy_len c n
            unfold textBy at this
            rw [List.length_take] at this
            omega
          have hq := q _ sm
          unfold textBy at hq
          rw [hd]
          generalize n / blkN c n = m at hd2 hl hg hq ⊢
          have hk : ((m : Int) + 1).toNat = m + 1 := by omega
          rw [hk, blk_len]
          rw [repS_len, blk_len, Nat.mul_comm] at hl
          refine ⟨⟨by omega, by omega⟩, ⟨by omega, by omega, by omega⟩, ?_⟩
          rw [cut_take hg]
          refine ⟨?_, hq⟩
          rw [repS_len, blk_len, Nat.mul_comm]
          omega
    · intro N k
      refine brS_of (fun hc => ?_) (fun hc => ?_) <;> walk_at "ev"
      · refine k _ _ ⟨rfl, ?_⟩
        have hc' := of_decide_eq_true hc
        unfold blkN
        rw [if_pos hc']
        have e : min (n : Int) (1 + c / 4 % 50) = ((min n (1 + (c / 4 % 50).toNat) : Nat) : Int) := by omega
        rw [e]
      · refine k _ _ ⟨rfl, ?_⟩
        unfold blkN
        rw [if_neg (of_decide_eq_false hc)]
def sp_law (K : PySem.W.Frag) : Sp := fun vs H Q _ => ∃ (a : Addr) (ns : List Int), vs = [.ref a] ∧ SqL K H a (ns.map V.int) ∧ ns.length ≤ 63 ∧ ∀ H', Q (.bl true) H'
theorem ok_law (W : Wd K mg) : FnOk P w K mg base CX0 3 W.f_law W.d_law ["_law_script"] (sp_law K) := by
  refine W.F_law.ok sc_law (fun vs H Q E h => ?_) (fun cdv A outer s H vs Q E hr h => ?_)
  · obtain ⟨a, ns, rfl, hS, hlen, q⟩ := h
    rfl
  · obtain ⟨a, ns, rfl, hS, hlen, q⟩ := h
    refine ⟨_, (pss_cons (ps_set (i := 1) sc_law.nd rfl (by first | exact Or.inl rfl | exact Or.inr rfl) (pe_call (ok__law_text_by W) (hr.mono (by decide)) (by rfl) W.m__law_text_by W.F__law_text_by.kp W.b__law_text_by .nil pass0 (pa_cons (pe_call (ok__law_cell_at W) (hr.mono (by decide)) (by rfl) W.m__law_cell_at W.F__law_cell_at.kp W.b__law_cell_at .nil pass0 (pa_cons (pv 0) (pa_cons pe_int pa_nil))) (pa_cons (pe_call (ok__law_size_by W) (hr.mono (by decide)) (by rfl) W.m__law_size_by W.F__law_size_by.kp W.b__law_size_by .nil pass0 (pa_cons (pe_call (ok__law_cell_at W) (hr.mono (by decide)) (by rfl) W.m__law_cell_at W.F__law_cell_at.kp W.b__law_cell_at .nil pass0 (pa_cons (pv 0) (pa_cons pe_int pa_nil))) pa_nil)) pa_nil))))
      (pss_cons (ps_set (i := 2) sc_law.nd rfl (by first | exact Or.inl rfl | exact Or.inr rfl) pe_int)
      (pss_cons (ps_set (i := 3) sc_law.nd rfl (by first | exact Or.inl rfl | exact Or.inr rfl) pe_int)
      (pss_cons (ps_for PassesOwn.never rfl (pi_range1 (by rfl) W.z_range (pa_cons (pe_callB y_len (by rfl) W.z_len (by decide +kernel) (pa_cons (pv 1) pa_nil)) pa_nil)) (pg_name (i := 4) sc_law.nd rfl (by first | exact Or.inl rfl | exact Or.inr rfl)) (pss_cons (ps_set (i := 3) sc_law.nd rfl (by first | exact Or.inl rfl | exact Or.inr rfl) (pe_op y_mod (pe_op y_add (pv 3) (pe_op y_mul (pe_callB y_ord (by rfl) W.z_ord (by decide +kernel) (pa_cons (pe_ix y_ix (pv 1) (pe_op y_sub (pe_op y_sub (pe_callB y_len (by rfl) W.z_len (by decide +kernel) (pa_cons (pv 1) pa_nil)) pe_int) (pv 4)) (fun _ _ => rfl)) pa_nil)) (pv 2))) pe_int))
      (pss_one (ps_set (i := 2) sc_law.nd rfl (by first | exact Or.inl rfl | exact Or.inr rfl) (pe_op y_mod (pe_op y_mul (pv 2) pe_int) pe_int)))))
      (pss_cons (ps_set (i := 5) sc_law.nd rfl (by first | exact Or.inl rfl | exact Or.inr rfl) (pe_call (ok_weight W) (hr.mono (by decide)) (by rfl) W.m_weight W.F_weight.kp W.b_weight .nil pass0 (pa_cons (pv 1) pa_nil)))
      (pss_one (ps_ret (pe_and (pe_call (ok__law_whole W) (hr.mono (by decide)) (by rfl) W.m__law_whole W.F__law_whole.kp W.b__law_whole .nil pass0 (pa_cons (pv 5) pa_nil)) (pe_one (pe_cmpR y_eq (pv 5) (pe_op y_mod (pe_op y_add (pv 3) (pe_op y_mul pe_int (pv 2))) pe_int) (nomark _))))))))))), ?_⟩
    walk_at "ev"
    refine ⟨_, ns, 0, rfl, hS, _, ns, 1, rfl, hS, _, rfl, _, _, rfl, by have := sizeBy_le (cel ns 1); omega, fun H1 sm => ?_⟩
    have hl := textBy_len (cel ns 0) (sizeBy (cel ns 1))
    have hz := sizeBy_le (cel ns 1)
    generalize sizeBy (cel ns 1) = n at hl hz ⊢
    generalize textBy (cel ns 0) n = l at hl ⊢
    walk_at "ev"
    refine ⟨by omega, ⟨by omega, by omega⟩, ?_⟩
    rw [Int.toNat_natCast]
    refine for_rng (fun i σ H' => H' = H1 ∧ ∃ x, σ = [some (V.ref a), some (V.str (st l)), some (V.int (pw (l.drop (l.length - i)))), some (V.int (tot (l.drop (l.length - i)))), x, none]) ⟨rfl, none, ?_⟩ ?_ ?_
    · rw [Nat.sub_zero, List.drop_length]
      rfl
    · rintro i σ H' hi ⟨rfl, x, rfl⟩
      obtain ⟨c, hc, hd⟩ := drop_at hi
      have hb := pw_low (l.drop (l.length - i))
      walk_at "ev"
      have he : ((l.length : Int) - 1 - (0 + (i : Int))) = ((l.length - 1 - i : Nat) : Int) := by omega
      rw [he]
      refine ⟨by omega, c, by omega, atI_nat hc, ?_⟩
      rw [hd]
      refine ⟨.inr ⟨by omega, by omega⟩, ?_⟩
      refine ⟨some (.int (0 + (i : Int))), ?_⟩
      rfl
    · rintro σ H' ⟨rfl, x, rfl⟩
      walk_at "ev"
      have h0 : l.length - l.length = 0 := Nat.sub_self _
      rw [h0, List.drop_zero]
      have hb := pw_low l
      refine ⟨l, rfl, ?_⟩
      walk_at "ev"
      refine ⟨_, rfl, ?_⟩
      walk_at "ev"
      rw [wt_sum, decide_eq_true rfl]
      exact q _
    
end
theorem all_mk {l : PySem.W.OpenLaw} {w : World} {K : PySem.W.Frag} {h : Heap} {mg : Str → Option Value} {fa : Addr} (X : K.In h) (G : h.Ns mainGlobals mg) (hfa : mg "law" = some (.ref fa))
    {f0 f1 f2 f3 f4 f5 f6 : Addr}
    {od0 an0 od1 an1 od2 an2 od3 an3 od4 an4 od5 an5 od6 an6 : Option Addr}
    {sl0 sl1 sl2 sl3 sl4 sl5 sl6 : Array (Option Value)}
    {oc0 kV0 dc0 pm0 cd0 ct0 oc1 kV1 dc1 pm1 cd1 ct1 oc2 kV2 dc2 pm2 cd2 ct2 oc3 kV3 dc3 pm3 cd3 ct3 oc4 kV4 dc4 pm4 cd4 ct4 oc5 kV5 dc5 pm5 cd5 ct5 oc6 kV6 dc6 pm6 cd6 ct6 : Value}
    {tk_WEIGHT_START tk_WEIGHT_FACTOR tk_WEIGHT_DIVISOR : Tok}
    (a0 : PySem.W.nsIn K mainGlobals "weight" = some (some (.ref f0))) (l0 : K.lookup f0 = some ⟨oc0, od0, .func (PySem.W.fnOf "weight" "weight" (defArgs s_weight) (defBody s_weight) (defScope s_weight) .none kV0 dc0 pm0 an0 cd0 ct0), sl0⟩) (c0 : PySem.W.codeIn K cd0 "weight" = true) (k0 : PySem.W.keepIn K (.ref f0) = true)
    (a1 : PySem.W.nsIn K mainGlobals "_law_cell_at" = some (some (.ref f1))) (l1 : K.lookup f1 = some ⟨oc1, od1, .func (PySem.W.fnOf "_law_cell_at" "_law_cell_at" (defArgs s__law_cell_at) (defBody s__law_cell_at) (defScope s__law_cell_at) .none kV1 dc1 pm1 an1 cd1 ct1), sl1⟩) (c1 : PySem.W.codeIn K cd1 "_law_cell_at" = true) (k1 : PySem.W.keepIn K (.ref f1) = true)
    (a2 : PySem.W.nsIn K mainGlobals "_law_whole" = some (some (.ref f2))) (l2 : K.lookup f2 = some ⟨oc2, od2, .func (PySem.W.fnOf "_law_whole" "_law_whole" (defArgs s__law_whole) (defBody s__law_whole) (defScope s__law_whole) .none kV2 dc2 pm2 an2 cd2 ct2), sl2⟩) (c2 : PySem.W.codeIn K cd2 "_law_whole" = true) (k2 : PySem.W.keepIn K (.ref f2) = true)
    (a3 : PySem.W.nsIn K mainGlobals "_law_sign_by" = some (some (.ref f3))) (l3 : K.lookup f3 = some ⟨oc3, od3, .func (PySem.W.fnOf "_law_sign_by" "_law_sign_by" (defArgs s__law_sign_by) (defBody s__law_sign_by) (defScope s__law_sign_by) .none kV3 dc3 pm3 an3 cd3 ct3), sl3⟩) (c3 : PySem.W.codeIn K cd3 "_law_sign_by" = true) (k3 : PySem.W.keepIn K (.ref f3) = true)
    (a4 : PySem.W.nsIn K mainGlobals "_law_text_by" = some (some (.ref f4))) (l4 : K.lookup f4 = some ⟨oc4, od4, .func (PySem.W.fnOf "_law_text_by" "_law_text_by" (defArgs s__law_text_by) (defBody s__law_text_by) (defScope s__law_text_by) .none kV4 dc4 pm4 an4 cd4 ct4), sl4⟩) (c4 : PySem.W.codeIn K cd4 "_law_text_by" = true) (k4 : PySem.W.keepIn K (.ref f4) = true)
    (a5 : PySem.W.nsIn K mainGlobals "_law_size_by" = some (some (.ref f5))) (l5 : K.lookup f5 = some ⟨oc5, od5, .func (PySem.W.fnOf "_law_size_by" "_law_size_by" (defArgs s__law_size_by) (defBody s__law_size_by) (defScope s__law_size_by) .none kV5 dc5 pm5 an5 cd5 ct5), sl5⟩) (c5 : PySem.W.codeIn K cd5 "_law_size_by" = true) (k5 : PySem.W.keepIn K (.ref f5) = true)
    (a6 : PySem.W.nsIn K mainGlobals "law" = some (some (.ref f6))) (l6 : K.lookup f6 = some ⟨oc6, od6, .func (PySem.W.fnOf "law" "law" (defArgs s_law) (defBody s_law) (defScope s_law) .none kV6 dc6 pm6 an6 cd6 ct6), sl6⟩) (c6 : PySem.W.codeIn K cd6 "law" = true) (k6 : PySem.W.keepIn K (.ref f6) = true)
    (g_WEIGHT_START : PySem.W.nsIn K mainGlobals "WEIGHT_START" = some (some (.int 7 tk_WEIGHT_START)))
    (g_WEIGHT_FACTOR : PySem.W.nsIn K mainGlobals "WEIGHT_FACTOR" = some (some (.int 131 tk_WEIGHT_FACTOR)))
    (g_WEIGHT_DIVISOR : PySem.W.nsIn K mainGlobals "WEIGHT_DIVISOR" = some (some (.int 65521 tk_WEIGHT_DIVISOR)))
    (z_bool : PySem.W.nsIn K mainGlobals "bool" = some none)
    (z_int : PySem.W.nsIn K mainGlobals "int" = some none)
    (z_isinstance : PySem.W.nsIn K mainGlobals "isinstance" = some none)
    (z_len : PySem.W.nsIn K mainGlobals "len" = some none)
    (z_min : PySem.W.nsIn K mainGlobals "min" = some none)
    (z_ord : PySem.W.nsIn K mainGlobals "ord" = some none)
    (z_range : PySem.W.nsIn K mainGlobals "range" = some none)
    : ∃ fd : FuncData, (∀ (s : Shared) (v : Value), BindsTo s fd ⟨[v], []⟩ [("_law_script", v)]) ∧ ∀ base : Heap, K.In base → base.Ns mainGlobals mg → FnOk l.prog w K mg base CX0 3 fa fd ["_law_script"] (sp_law K) := by
  have e := hfa.symm.trans (PySem.W.mg_of X G a6)
  cases e
  have F0 := fun_mk (st := s_weight) l0 c0 k0
  have b0 := F0.binds (ps := ["signs"]) fun _ _ _ _ _ _ us hl => match us, hl with | [_], _ => rfl
  have F1 := fun_mk (st := s__law_cell_at) l1 c1 k1
  have b1 := F1.binds (ps := ["_law_script", "_law_k"]) fun _ _ _ _ _ _ us hl => match us, hl with | [_, _], _ => rfl
  have F2 := fun_mk (st := s__law_whole) l2 c2 k2
  have b2 := F2.binds (ps := ["_law_got"]) fun _ _ _ _ _ _ us hl => match us, hl with | [_], _ => rfl
  have F3 := fun_mk (st := s__law_sign_by) l3 c3 k3
  have b3 := F3.binds (ps := ["_law_cell"]) fun _ _ _ _ _ _ us hl => match us, hl with | [_], _ => rfl
  have F4 := fun_mk (st := s__law_text_by) l4 c4 k4
  have b4 := F4.binds (ps := ["_law_cell", "_law_size"]) fun _ _ _ _ _ _ us hl => match us, hl with | [_, _], _ => rfl
  have F5 := fun_mk (st := s__law_size_by) l5 c5 k5
  have b5 := F5.binds (ps := ["_law_cell"]) fun _ _ _ _ _ _ us hl => match us, hl with | [_], _ => rfl
  have F6 := fun_mk (st := s_law) l6 c6 k6
  have b6 := F6.binds (ps := ["_law_script"]) fun _ _ _ _ _ _ us hl => match us, hl with | [_], _ => rfl
  exact ⟨PySem.W.fnOf "law" "law" (defArgs s_law) (defBody s_law) (defScope s_law) .none kV6 dc6 pm6 an6 cd6 ct6, fun s v => .of_eq rfl, fun base _ _ => ok_law (⟨_, _, F0, b0, PySem.W.mg_of X G a0, _, _, F1, b1, PySem.W.mg_of X G a1, _, _, F2, b2, PySem.W.mg_of X G a2, _, _, F3, b3, PySem.W.mg_of X G a3, _, _, F4, b4, PySem.W.mg_of X G a4, _, _, F5, b5, PySem.W.mg_of X G a5, _, _, F6, b6, PySem.W.mg_of X G a6, _, PySem.W.mg_of X G g_WEIGHT_START, _, PySem.W.mg_of X G g_WEIGHT_FACTOR, _, PySem.W.mg_of X G g_WEIGHT_DIVISOR, PySem.W.mg_none_of X G z_bool, PySem.W.mg_none_of X G z_int, PySem.W.mg_none_of X G z_isinstance, PySem.W.mg_none_of X G z_len, PySem.W.mg_none_of X G z_min, PySem.W.mg_none_of X G z_ord, PySem.W.mg_none_of X G z_range⟩ : Wd K mg)⟩
end My
open PySem PySem.W PyProof.Rows
set_option maxHeartbeats 0 in
theorem PySem.Challenge.cw_chunkshelf_k01_weights_holds : PySem.Challenge.rw_chunkshelf_k01_weights.Holds := by
  w_on; o_law; k_head; (case hw => w_witness2)
  k_fill
  refine L2.walk_of (l := PySem.Challenge.rw_chunkshelf_k01_weights) (n := 63) (k := 3) (x := "_law_script") (CX := fun _ => L2.CX0) (sp := fun w => My.sp_law _) rfl (by decide) rfl ⟨rfl, by decide, by decide⟩ (fun w h Y => PySem.W.kIn_of Y) ?F (fun _ _ a ns hl _ hS => ⟨a, ns, rfl, hS, hl, fun _ => rfl⟩) (fun _ _ _ _ _ h => h)
  case F =>
    intro w mg fa h KX G hmg
    refine' My.all_mk KX G hmg ?a0 ?l0 ?c0 ?k0 ?a1 ?l1 ?c1 ?k1 ?a2 ?l2 ?c2 ?k2 ?a3 ?l3 ?c3 ?k3 ?a4 ?l4 ?c4 ?k4 ?a5 ?l5 ?c5 ?k5 ?a6 ?l6 ?c6 ?k6 ?g_WEIGHT_START ?g_WEIGHT_FACTOR ?g_WEIGHT_DIVISOR ?z_bool ?z_int ?z_isinstance ?z_len ?z_min ?z_ord ?z_range
    (case a0 => k_is); (case l0 => k_is); (case c0 => k_is); (case k0 => k_is); (case a1 => k_is); (case l1 => k_is); (case c1 => k_is); (case k1 => k_is); (case a2 => k_is); (case l2 => k_is); (case c2 => k_is); (case k2 => k_is); (case a3 => k_is); (case l3 => k_is); (case c3 => k_is); (case k3 => k_is); (case a4 => k_is); (case l4 => k_is); (case c4 => k_is); (case k4 => k_is); (case a5 => k_is); (case l5 => k_is); (case c5 => k_is); (case k5 => k_is); (case a6 => k_is); (case l6 => k_is); (case c6 => k_is); (case k6 => k_is); (case g_WEIGHT_START => k_is); (case g_WEIGHT_FACTOR => k_is); (case g_WEIGHT_DIVISOR => k_is); (case z_bool => k_is); (case z_int => k_is); (case z_isinstance => k_is); (case z_len => k_is); (case z_min => k_is); (case z_ord => k_is); (case z_range => k_is)
