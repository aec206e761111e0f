import PyProof.Rows.All
import Wide.All
import OpenK.AllK
import Wide.FinOn
import HandS.ForMost
import HandS.ForExc
import HandS.Wide
import HandS.IsInst
import HandS.ExcIs
import HandS.WordsExc
import HandS.Property
import HandS.More
import HandS.Codes
import HandS.TupMul
import HandS.Strs
import HandS.SetFor
import HandS.TryOnly
import PySem.Challenge.RW_windowada_k85_tables_of_instructions
set_option Elab.async false
set_option maxRecDepth 100000
set_option maxHeartbeats 4000000
set_option linter.all false
namespace My
open PySem L2
/-! ### helpers -/
def IsTupOf (o : Obj) (xs : List V) : Prop := o.cls = .type "tuple" ∧ ∃ (its : Array Value) (n : Nat), o.data = .seq its n ∧ its.size ≤ sizeLine ∧ Vals xs its.toList
theorem sqT_of {K : PySem.W.Frag} {H : Hp} {a : Addr} {o : Obj} {xs : List V} (h : K.lookup a = some o) (q : IsTupOf o xs) : SqT K H a xs := by
  obtain ⟨c, its, n, d, z, r⟩ := q
  exact .inr ⟨o, its, n, h, c, d, z, r⟩
theorem upd_self {H : Hp} {a : Addr} {o : HO} (h : H a = some o) : upd H a o = H := by
  funext b
  unfold upd
  split
  · rename_i e; rw [e, h]
  · rfl
theorem exm_of {K : PySem.W.Frag} {S C : Addr} (h1 : PySem.W.subIn K (.ref C) (.type "BaseException") = some true) (h2 : PySem.W.isClsIn K C = true) (h3 : PySem.W.typeIn K (.ref C) = some (.type "type")) {b : Bool} (h4 : PySem.W.subIn K (.ref S) (.ref C) = some b) :
    PySem.W.exmOne K (.ref S) (.ref C) = some b := by
  have e1 : (PySem.W.subIn K (.ref C) (.type "BaseException") == some true) = true := by rw [h1] <;> rfl
  have e2 : ((PySem.W.clsIn K C).isSome && PySem.W.typeIn K (.ref C) == some (.type "type")) = true := by
    have h2' : (PySem.W.clsIn K C).isSome = true := h2
    rw [h2', h3] <;> rfl
  show (if (PySem.W.subIn K (.ref C) (.type "BaseException") == some true) = true then (if ((PySem.W.clsIn K C).isSome && PySem.W.typeIn K (.ref C) == some (.type "type")) = true then PySem.W.subIn K (.ref S) (.ref C) else none) else none) = some b
  rw [if_pos e1, if_pos e2]
  exact h4
theorem sN {H H1 : Hp} {p : Addr} {o : HO} (s : Same H H1) (n : H1 p = none) : Same H (upd H1 p o) := fun b u e => by
  rw [upd_ne (ne_of_none (s b u e) n)]
  exact s b u e
theorem seqT {K : PySem.W.Frag} {H H' : Hp} {a : Addr} {xs : List V} (e : Same H H') (h : SqT K H a xs) : SqT K H' a xs := by
  rcases h with (h | ⟨o, h⟩) | h
  · exact .inl (.inl (e _ _ h))
  · exact .inl (.inr ⟨o, e _ _ h⟩)
  · exact .inr h
theorem ite3 {b : Bool} {A B : Prop} (h1 : b = true → A) (h2 : b = false → B) : if b = true then A else B := by
  cases b with
  | true => exact iteT (h1 rfl)
  | false => exact iteF (h2 rfl)
section
variable {X : Cx}
def rInS (K : PySem.W.Frag) : R2 := fun x y H Q => ∃ p xs, y = .ref p ∧ (SqL K H p xs ∨ SqT K H p xs) ∧ flatV x = true ∧ xs.all flatV = true ∧ Q (.bl (inV x xs)) H
def rNotInS (K : PySem.W.Frag) : R2 := fun x y H Q => ∃ p xs, y = .ref p ∧ (SqL K H p xs ∨ SqT K H p xs) ∧ flatV x = true ∧ xs.all flatV = true ∧ Q (.bl (!inV x xs)) H
theorem op_inS : OpR X (compareOp .In) (rInS X.K) := fun pins s σ H x y v u Q I rx ry h => op_in_seq pins s σ H x y v u Q I rx ry h
theorem op_notInS : OpR X (compareOp .NotIn) (rNotInS X.K) := fun pins s σ H x y v u Q I rx ry h => op_notIn_seq pins s σ H x y v u Q I rx ry h
end
theorem at0 {v : V} {r : List V} : atI (v :: r) 0 = some v := atI_nat (j := 0) rfl
theorem sUpd {H H1 : Hp} {p : Addr} {o : HO} (s : Same H H1) (n : H p = none) : Same H (upd H1 p o) := fun b u e => by
  rw [upd_ne (ne_of_none e n)]
  exact s b u e
/-! ### match over a value -/
structure PMC (X : Cx) (cases : List MatchCase) (t : V → TS) : Prop where
  run : ∀ (first : Bool) (pins : List (Addr × Obj)) (s : Shared) (σ : St) (H : Hp) (D : Ends) (x : V) (v : Value), Inv X pins σ H s → RelV x v → t x D σ H → wpAny (model X.prog X.w) X.A (matchCases cases X.env v first) (SP X pins D) X.xe s
def mNil : V → TS := fun _ D σ H => D.nx σ H
def mStr (z : Str) (t : TS) (u : V → TS) : V → TS := fun x D σ H => scal x (.str z) = true ∧ if decide (x = .str z) = true then t D σ H else u x D σ H
def tMatch (te : TE) (t : V → TS) : TS := fun D σ H => te σ H fun x H1 => t x D σ H1
section
variable {X : Cx}
theorem pmc_nil : PMC X [] mNil := ⟨fun _ _ _ σ H D x v I _ h => wpAny_matchCases_nil ⟨σ, H, I, h⟩⟩
theorem pmc_str {z : Str} {j : Nat} {p p2 : Pos} {body : List Stmt} {rest : List MatchCase} {t : TS} {u : V → TS} (hb : PSs X body t) (hr : PMC X rest u) : PMC X (⟨.MatchValue (.Constant (.str z) j p) p2, none, body⟩ :: rest) (mStr z t u) := by
  refine ⟨fun first pins s σ H D x v I r h => ?_⟩
  obtain ⟨hs, h⟩ := h
  refine wpAny_matchCases_cons (wpAny_matchPattern_Value ?_)
  have hz : PE X (.Constant (.str z) j p) (tC (.str z)) := pe_str
  refine thn (hz.run pins s σ H (fun y H1 => y = .str z ∧ H1 = H) I ⟨rfl, rfl⟩) fun w s1 ⟨y, H1, I1, r1, e1, e2⟩ => ?_
  subst e1; subst e2
  refine thn (op_eq pins s1 σ H1 x (.str z) v w (fun y H2 => y = .bl (decide (x = .str z)) ∧ H2 = H1) I1 r r1 ⟨hs, rfl, rfl⟩) fun c s2 ⟨y, H2, I2, r2, e1, e2⟩ => ?_
  subst e1; subst e2
  cases r2
  refine wpAny_truthy_bool ?_
  cases e : decide (x = V.str z) with
  | true =>
    rw [e] at h
    refine wpAny_assignInOrder_none ?_
    exact hb.run pins s2 σ H2 D I2 (by simpa using h)
  | false =>
    rw [e] at h
    exact hr.run false pins s2 σ H2 D x v I2 r (by simpa using h)
theorem ps_match {e : Expr} {cs : List MatchCase} {pos : Pos} {te : TE} {t : V → TS} (he : PE X e te) (hc : PMC X cs t) : PS X (.Match e cs pos) (tMatch te t) := by
  refine ⟨fun pins s σ H D I h => ?_⟩
  exact wpAny_Match (thn (he.run pins s σ H _ I h) fun v s1 ⟨x, H1, I1, r1, q1⟩ => hc.run true pins s1 σ H1 D x v I1 r1 q1)
/-- isinstance(e, c) in a suite, whatever the caught class is -/
def rIsEx (K : PySem.W.Frag) (a : Addr) (cls : Value) (d : Option Addr) : List V → Hp → VK → Prop := fun xs H Q => ∃ D, cls = .ref D ∧ d = none ∧ ExcC K D ∧ rIsE K D a xs H Q
theorem call_isEx {a : Addr} {cls : Value} {d : Option Addr} {oe : Obj} {pn : List (Addr × Obj)} (hz : Zc cls d oe) (hf : ∃ vs, oe.data = .fields vs) : CallR (X.suite a ((a, oe) :: pn)) (.builtin "isinstance") (rIsEx X.K a cls d) := by
  intro pins s σ H xs us Q I r h
  obtain ⟨D, rfl, rfl, C, h⟩ := h
  exact call_isE C hz hf pins s σ H xs us Q I r h
end
theorem kit_self {K : PySem.W.Frag} {D : Addr} : PySem.W.kitOne K (.ref D) (.ref D) = some true := by
  unfold PySem.W.kitOne
  rw [if_pos (by simp)]
theorem kit_no {K : PySem.W.Frag} {D C : Addr} (h : PySem.W.subIn K (.ref D) (.ref C) = some false) (hs : PySem.W.subIn K (.ref C) (.ref C) = some true) (h2 : PySem.W.isClsIn K C = true) (h3 : PySem.W.typeIn K (.ref C) = some (.type "type")) :
    PySem.W.kitOne K (.ref D) (.ref C) = some false := by
  have ne : ¬ ((Value.ref D == Value.ref C) = true) := fun e => by
    have e' : D = C := by simpa using e
    subst e'
    rw [h] at hs
    exact nomatch hs
  have e2 : ((PySem.W.clsIn K C).isSome && PySem.W.typeIn K (.ref C) == some (.type "type")) = true := by
    have h2' : (PySem.W.clsIn K C).isSome = true := h2
    rw [h2', h3] <;> rfl
  unfold PySem.W.kitOne
  rw [if_neg ne]
  show (if ((PySem.W.clsIn K C).isSome && PySem.W.typeIn K (.ref C) == some (.type "type")) = true then PySem.W.subIn K (.ref D) (.ref C) else none) = some false
  rw [if_pos e2]
  exact h
theorem kit_sub {K : PySem.W.Frag} {D C : Addr} {b : Bool} (h : PySem.W.subIn K (.ref D) (.ref C) = some b) (hs : b = false → PySem.W.subIn K (.ref C) (.ref C) = some true) (h2 : PySem.W.isClsIn K C = true) (h3 : PySem.W.typeIn K (.ref C) = some (.type "type")) :
    PySem.W.kitOne K (.ref D) (.ref C) = some b := by
  cases b with
  | false => exact kit_no h (hs rfl) h2 h3
  | true =>
    have e2 : ((PySem.W.clsIn K C).isSome && PySem.W.typeIn K (.ref C) == some (.type "type")) = true := by
      have h2' : (PySem.W.clsIn K C).isSome = true := h2
      rw [h2', h3] <;> rfl
    unfold PySem.W.kitOne
    split
    · rfl
    · show (if ((PySem.W.clsIn K C).isSome && PySem.W.typeIn K (.ref C) == some (.type "type")) = true then PySem.W.subIn K (.ref D) (.ref C) else none) = some true
      rw [if_pos e2]
      exact h
theorem kit_bt {K : PySem.W.Frag} {D : Addr} {n : String} {b : Bool} (hm : PySem.W.kitMeta n = true) (h : PySem.W.subIn K (.ref D) (.type n) = some b) : PySem.W.kitOne K (.ref D) (.type n) = some b := by
  unfold PySem.W.kitOne
  rw [if_neg (by simp)]
  show (if PySem.W.kitMeta n = true then PySem.W.subIn K (.ref D) (.type n) else none) = some b
  rw [if_pos hm]
  exact h
/-! ### a method that may raise, called in a try -/
section
variable {X : Cx} {CX : CXT} {k : Nat} {f C : Addr} {fd : FuncData} {ps : List Str} {sp : Sp} {E : St → XK} {m : Str} {pos apos : Pos} {e o : Expr} {es : List Expr} {ta : TE} {t : TA}
def tMethE (C : Addr) (m : Str) (sp : Sp) (E : St → XK) (ta : TE) (t : TA) : TE := fun σ H Q => ta σ H fun x H1 => ∃ a dx fs, x = .ref a ∧ H1 a = some (.ins C dx fs) ∧ fs.lookup m = none ∧ t σ H1 fun vs H2 => sp (x :: vs) H2 Q (E σ)
theorem pe_methE0 {pl : Sem Bool} (he : PE X o ta) (c : Cls X.K C) (hm : Meth X.K C m f) (F : FnOk X.prog X.w X.K X.mg X.base CX k f fd ps sp) (hr : Room k X.A) (hb : Binds X.K fd ps []) (hx : ∀ σ, PassesAt CX X σ (E σ))
    (ht : eval (.Call (.Attribute o m apos) [] [] pos) X.env = (do
      let ov ← eval o X.env
      standAt apos.atName
      let (f, first) ← holding [ov] (getMethod ov m pl)
      callWith pos f first (backTo pos (starEach [] X.env)) (backToKw pos (keywordEach [] X.env))) := by rfl) :
    PE X (.Call (.Attribute o m apos) [] [] pos) (tMethE C m sp E ta tNil) := by
  refine ⟨fun pins s σ H Q I h => ?_⟩
  refine PySem.W.methodCall_KW (pl := pl) (thn (he.run pins s σ H _ I h) fun u s1 ⟨x, H1, I1, rx, a, dx, fs, ex, ea, l, q⟩ => ?_) ht
  subst ex
  obtain rfl : u = Value.ref a := rx
  refine getmeth_ok I1 ea c hm l ?_
  exact PySem.W.callWith_K0 (first := [.ref a]) I1.kIn hm.kp (run_fnS (us := [.ref a]) (vs := [.ref a]) F hr hb (hx σ) I1 (.cons rfl .nil) q)
theorem pe_methE {pl : Sem Bool} (he : PE X o ta) (c : Cls X.K C) (hm : Meth X.K C m f) (F : FnOk X.prog X.w X.K X.mg X.base CX k f fd ps sp) (hr : Room k X.A) (hb : Binds X.K fd ps []) (hx : ∀ σ, PassesAt CX X σ (E σ)) (ha : PA X (e :: es) t)
    (hst : starEach (e :: es) X.env = (false, eval e X.env) :: starEach es X.env := by rfl) (hpl : (backTo pos (starEach es X.env)).any (·.1) = false := by rfl)
    (ht : eval (.Call (.Attribute o m apos) (e :: es) [] pos) X.env = (do
      let ov ← eval o X.env
      standAt apos.atName
      let (f, first) ← holding [ov] (getMethod ov m pl)
      callWith pos f first (backTo pos (starEach (e :: es) X.env)) (backToKw pos (keywordEach [] X.env))) := by rfl) :
    PE X (.Call (.Attribute o m apos) (e :: es) [] pos) (tMethE C m sp E ta t) := by
  refine ⟨fun pins s σ H Q I h => ?_⟩
  refine PySem.W.methodCall_KW (pl := pl) (thn (he.run pins s σ H _ I h) fun u s1 ⟨x, H1, I1, rx, a, dx, fs, ex, ea, l, q⟩ => ?_) ht
  subst ex
  obtain rfl : u = Value.ref a := rx
  refine getmeth_ok I1 ea c hm l ?_
  refine PySem.W.callWith_K (first := [.ref a]) (h₀ := X.base) I.ok.mod.kin hm.kp (thn (ha.run pos pins s1 σ H1 _ I1 q) fun us s2 ⟨vs, H2, I2, r, q2⟩ => ⟨I2.kIn, ?_⟩) hst hpl
  exact run_fnS (us := .ref a :: us) (vs := .ref a :: vs) F hr hb (hx σ) I2 (.cons rfl r) q2
end
def spNever : Sp := fun _ _ _ _ => False
theorem tyx_tup {K : PySem.W.Frag} {H : Hp} {a : Addr} {xs : List V} (h : SqT K H a xs) : TyX K H (.ref a) (.type "tuple") := by
  rcases h with (h | ⟨o, h⟩) | ⟨o, its, n, hk, hc, _⟩
  · exact .base (.tup h)
  · exact .fTuple h
  · exact .kTuple hk hc

def top (i : Nat) : Stmt := PySem.Challenge.pw_windowada_k85_tables_of_instructions.main.body.getD i (.Pass ⟨0, 0, 0, 0⟩)
abbrev s_Unit___init__ : Stmt := inClass (top 4) 0
abbrev s_operands : Stmt := top 5
abbrev s_reads : Stmt := top 6
abbrev s_writes : Stmt := top 7
abbrev s_can_raise : Stmt := top 8
abbrev s_followers : Stmt := top 9
abbrev s_region_of : Stmt := top 10
abbrev s_law_pick : Stmt := top 12
abbrev s_law_same : Stmt := top 13
abbrev s_law_operand : Stmt := top 14
abbrev s_law_target : Stmt := top 15
abbrev s_law_plain_row : Stmt := top 16
abbrev s_law_row : Stmt := top 17
abbrev s_law_regions : Stmt := top 18
abbrev s_law : Stmt := top 19
theorem sc_Unit___init__ : FnScope ["self", "parent", "arguments", "results", "registers", "cells", "code", "regions"] ["self", "parent", "arguments", "results", "registers", "cells", "code", "regions"] (defScope s_Unit___init__) := ⟨rfl, rfl, rfl, by decide +kernel, rfl, by decide +kernel, by decide +kernel⟩
theorem sc_operands : FnScope ["instruction", "part"] ["instruction"] (defScope s_operands) := ⟨rfl, rfl, rfl, by decide +kernel, rfl, by decide +kernel, by decide +kernel⟩
theorem sc_reads : FnScope ["instruction", "kind", "number"] ["instruction"] (defScope s_reads) := ⟨rfl, rfl, rfl, by decide +kernel, rfl, by decide +kernel, by decide +kernel⟩
theorem sc_writes : FnScope ["instruction"] ["instruction"] (defScope s_writes) := ⟨rfl, rfl, rfl, by decide +kernel, rfl, by decide +kernel, by decide +kernel⟩
theorem sc_can_raise : FnScope ["instruction"] ["instruction"] (defScope s_can_raise) := ⟨rfl, rfl, rfl, by decide +kernel, rfl, by decide +kernel, by decide +kernel⟩
theorem sc_followers : FnScope ["instruction", "index", "name", "behind"] ["instruction", "index"] (defScope s_followers) := ⟨rfl, rfl, rfl, by decide +kernel, rfl, by decide +kernel, by decide +kernel⟩
theorem sc_region_of : FnScope ["unit", "index", "region"] ["unit", "index"] (defScope s_region_of) := ⟨rfl, rfl, rfl, by decide +kernel, rfl, by decide +kernel, by decide +kernel⟩
theorem sc_law_pick : FnScope ["state", "limit", "value", "cell", "mixed"] ["state", "limit"] (defScope s_law_pick) := ⟨rfl, rfl, rfl, by decide +kernel, rfl, by decide +kernel, by decide +kernel⟩
theorem sc_law_same : FnScope ["actual", "due", "k"] ["actual", "due"] (defScope s_law_same) := ⟨rfl, rfl, rfl, by decide +kernel, rfl, by decide +kernel, by decide +kernel⟩
theorem sc_law_operand : FnScope ["state", "choice"] ["state"] (defScope s_law_operand) := ⟨rfl, rfl, rfl, by decide +kernel, rfl, by decide +kernel, by decide +kernel⟩
theorem sc_law_target : FnScope ["state", "index", "choice"] ["state", "index"] (defScope s_law_target) := ⟨rfl, rfl, rfl, by decide +kernel, rfl, by decide +kernel, by decide +kernel⟩
theorem sc_law_plain_row : FnScope ["state", "name", "index", "x", "target", "values", "k", "y"] ["state", "name", "index"] (defScope s_law_plain_row) := ⟨rfl, rfl, rfl, by decide +kernel, rfl, by decide +kernel, by decide +kernel⟩
theorem sc_law_row : FnScope ["state", "name", "index", "d", "x", "y", "place", "behind", "arguments", "k", "start", "results"] ["state", "name", "index"] (defScope s_law_row) := ⟨rfl, rfl, rfl, by decide +kernel, rfl, by decide +kernel, by decide +kernel⟩
theorem sc_law_regions : FnScope ["state", "regions", "k", "start", "stop"] ["state"] (defScope s_law_regions) := ⟨rfl, rfl, rfl, by decide +kernel, rfl, by decide +kernel, by decide +kernel⟩
theorem sc_law : FnScope ["script", "state", "names", "name", "index", "instruction", "given", "written", "behind", "raising", "read", "operand", "regions", "unit", "at", "taken", "region", "k"] ["script"] (defScope s_law) := ⟨rfl, rfl, rfl, by decide +kernel, rfl, by decide +kernel, by decide +kernel⟩
structure Ad where
  f_Unit___init__ : Addr
  d_Unit___init__ : FuncData
  f_operands : Addr
  d_operands : FuncData
  f_reads : Addr
  d_reads : FuncData
  f_writes : Addr
  d_writes : FuncData
  f_can_raise : Addr
  d_can_raise : FuncData
  f_followers : Addr
  d_followers : FuncData
  f_region_of : Addr
  d_region_of : FuncData
  f_law_pick : Addr
  d_law_pick : FuncData
  f_law_same : Addr
  d_law_same : FuncData
  f_law_operand : Addr
  d_law_operand : FuncData
  f_law_target : Addr
  d_law_target : FuncData
  f_law_plain_row : Addr
  d_law_plain_row : FuncData
  f_law_row : Addr
  d_law_row : FuncData
  f_law_regions : Addr
  d_law_regions : FuncData
  f_law : Addr
  d_law : FuncData
  c_LEAVING : Addr
  c_RAISING : Addr
  c_WRITING : Addr
  C_Unit : Addr
structure Txt (K : PySem.W.Frag) (mg : Str → Option Value) (a : Ad) : Prop where
  F_Unit___init__ : Fun K "__init__" "Unit.__init__" s_Unit___init__ a.f_Unit___init__ a.d_Unit___init__
  k_Unit___init__ : PySem.W.keepIn K (.ref a.f_Unit___init__) = true
  bd_Unit___init__ : Binds K a.d_Unit___init__ ["self", "parent", "arguments", "results", "registers", "cells", "code", "regions"] []
  g_operands : mg "operands" = some (.ref a.f_operands)
  F_operands : Fun K "operands" "operands" s_operands a.f_operands a.d_operands
  k_operands : PySem.W.keepIn K (.ref a.f_operands) = true
  bd_operands : Binds K a.d_operands ["instruction"] []
  g_reads : mg "reads" = some (.ref a.f_reads)
  F_reads : Fun K "reads" "reads" s_reads a.f_reads a.d_reads
  k_reads : PySem.W.keepIn K (.ref a.f_reads) = true
  bd_reads : Binds K a.d_reads ["instruction"] []
  g_writes : mg "writes" = some (.ref a.f_writes)
  F_writes : Fun K "writes" "writes" s_writes a.f_writes a.d_writes
  k_writes : PySem.W.keepIn K (.ref a.f_writes) = true
  bd_writes : Binds K a.d_writes ["instruction"] []
  g_can_raise : mg "can_raise" = some (.ref a.f_can_raise)
  F_can_raise : Fun K "can_raise" "can_raise" s_can_raise a.f_can_raise a.d_can_raise
  k_can_raise : PySem.W.keepIn K (.ref a.f_can_raise) = true
  bd_can_raise : Binds K a.d_can_raise ["instruction"] []
  g_followers : mg "followers" = some (.ref a.f_followers)
  F_followers : Fun K "followers" "followers" s_followers a.f_followers a.d_followers
  k_followers : PySem.W.keepIn K (.ref a.f_followers) = true
  bd_followers : Binds K a.d_followers ["instruction", "index"] []
  g_region_of : mg "region_of" = some (.ref a.f_region_of)
  F_region_of : Fun K "region_of" "region_of" s_region_of a.f_region_of a.d_region_of
  k_region_of : PySem.W.keepIn K (.ref a.f_region_of) = true
  bd_region_of : Binds K a.d_region_of ["unit", "index"] []
  g__law_pick : mg "_law_pick" = some (.ref a.f_law_pick)
  F__law_pick : Fun K "_law_pick" "_law_pick" s_law_pick a.f_law_pick a.d_law_pick
  k__law_pick : PySem.W.keepIn K (.ref a.f_law_pick) = true
  bd__law_pick : Binds K a.d_law_pick ["state", "limit"] []
  g__law_same : mg "_law_same" = some (.ref a.f_law_same)
  F__law_same : Fun K "_law_same" "_law_same" s_law_same a.f_law_same a.d_law_same
  k__law_same : PySem.W.keepIn K (.ref a.f_law_same) = true
  bd__law_same : Binds K a.d_law_same ["actual", "due"] []
  g__law_operand : mg "_law_operand" = some (.ref a.f_law_operand)
  F__law_operand : Fun K "_law_operand" "_law_operand" s_law_operand a.f_law_operand a.d_law_operand
  k__law_operand : PySem.W.keepIn K (.ref a.f_law_operand) = true
  bd__law_operand : Binds K a.d_law_operand ["state"] []
  g__law_target : mg "_law_target" = some (.ref a.f_law_target)
  F__law_target : Fun K "_law_target" "_law_target" s_law_target a.f_law_target a.d_law_target
  k__law_target : PySem.W.keepIn K (.ref a.f_law_target) = true
  bd__law_target : Binds K a.d_law_target ["state", "index"] []
  g__law_plain_row : mg "_law_plain_row" = some (.ref a.f_law_plain_row)
  F__law_plain_row : Fun K "_law_plain_row" "_law_plain_row" s_law_plain_row a.f_law_plain_row a.d_law_plain_row
  k__law_plain_row : PySem.W.keepIn K (.ref a.f_law_plain_row) = true
  bd__law_plain_row : Binds K a.d_law_plain_row ["state", "name", "index"] []
  g__law_row : mg "_law_row" = some (.ref a.f_law_row)
  F__law_row : Fun K "_law_row" "_law_row" s_law_row a.f_law_row a.d_law_row
  k__law_row : PySem.W.keepIn K (.ref a.f_law_row) = true
  bd__law_row : Binds K a.d_law_row ["state", "name", "index"] []
  g__law_regions : mg "_law_regions" = some (.ref a.f_law_regions)
  F__law_regions : Fun K "_law_regions" "_law_regions" s_law_regions a.f_law_regions a.d_law_regions
  k__law_regions : PySem.W.keepIn K (.ref a.f_law_regions) = true
  bd__law_regions : Binds K a.d_law_regions ["state"] []
  g_law : mg "law" = some (.ref a.f_law)
  F_law : Fun K "law" "law" s_law a.f_law a.d_law
  k_law : PySem.W.keepIn K (.ref a.f_law) = true
  bd_law : Binds K a.d_law ["script"] []
  g_LEAVING : mg "LEAVING" = some (.ref a.c_LEAVING)
  q_LEAVING : ∀ H : Hp, SqT K H a.c_LEAVING [.str "return", .str "raise", .str "again"]
  g_RAISING : mg "RAISING" = some (.ref a.c_RAISING)
  q_RAISING : ∀ H : Hp, SqT K H a.c_RAISING [.str "neg", .str "abs", .str "add", .str "sub", .str "mul", .str "div", .str "mod", .str "rem", .str "check", .str "call", .str "raise", .str "again", .str "get"]
  g_WRITING : mg "WRITING" = some (.ref a.c_WRITING)
  q_WRITING : ∀ H : Hp, SqT K H a.c_WRITING [.str "move", .str "neg", .str "abs", .str "add", .str "sub", .str "mul", .str "div", .str "mod", .str "rem", .str "less", .str "equal", .str "load", .str "get"]
  b_all : mg "all" = none
  b_bool : mg "bool" = none
  b_int : mg "int" = none
  b_isinstance : mg "isinstance" = none
  b_len : mg "len" = none
  b_list : mg "list" = none
  b_max : mg "max" = none
  b_min : mg "min" = none
  b_range : mg "range" = none
  b_set : mg "set" = none
  b_sorted : mg "sorted" = none
  b_str : mg "str" = none
  b_tuple : mg "tuple" = none
  g_Unit : mg "Unit" = some (.ref a.C_Unit)
  cl_Unit : Cls K a.C_Unit
  mk_Unit : Mk K a.C_Unit a.f_Unit___init__
  n_Unit_parent : NoAttr K a.C_Unit "parent"
  n_Unit_arguments : NoAttr K a.C_Unit "arguments"
  n_Unit_results : NoAttr K a.C_Unit "results"
  n_Unit_registers : NoAttr K a.C_Unit "registers"
  n_Unit_cells : NoAttr K a.C_Unit "cells"
  n_Unit_code : NoAttr K a.C_Unit "code"
  n_Unit_regions : NoAttr K a.C_Unit "regions"
/-! ### rules of a block over a fixed K -/
theorem ix_tupK {X : Cx} {K : PySem.W.Frag} (h : X.K = K) : IxR X (rIxT K) := by
  subst h
  exact ix_tup
theorem ix_listK {X : Cx} {K : PySem.W.Frag} (h : X.K = K) : IxR X (rIxL K) := by
  subst h
  exact ix_list
theorem call_isiK {X : Cx} {K : PySem.W.Frag} (h : X.K = K) : CallR X (.builtin "isinstance") (rIsi K) := by
  subst h
  exact call_isi
theorem sTr {H H1 H2 : Hp} (x : Same H H1) (y : Same H1 H2) : Same H H2 := fun b o e => y b o (x b o e)
/-! ### data without lists -/
mutual
inductive DT (K : PySem.W.Frag) (H : Hp) : V → PyData → Prop
  | non : DT K H .non .none
  | bl (b : Bool) : DT K H (.bl b) (.bool b)
  | int (i : Int) : DT K H (.int i) (.int i)
  | str (x : Str) : DT K H (.str x) (.str x)
  | tup {a : Addr} {xs : List V} {ds : List PyData} : SqT K H a xs → DTs K H xs ds → DT K H (.ref a) (.tuple ds)
inductive DTs (K : PySem.W.Frag) (H : Hp) : List V → List PyData → Prop
  | nil : DTs K H [] []
  | cons {v : V} {vs : List V} {d : PyData} {ds : List PyData} : DT K H v d → DTs K H vs ds → DTs K H (v :: vs) (d :: ds)
end
section
variable {K : PySem.W.Frag} {H H' H2 : Hp}
theorem DTs.len : ∀ {vs : List V} {ds : List PyData}, DTs K H vs ds → vs.length = ds.length
  | _, _, .nil => rfl
  | _, _, .cons _ r => congrArg (· + 1) r.len
theorem DTs.get : ∀ {vs : List V} {ds : List PyData} {i : Nat} {d : PyData}, DTs K H vs ds → ds[i]? = some d → ∃ v, vs[i]? = some v ∧ DT K H v d
  | _, _, _, _, .nil, e => by simp at e
  | _, _, 0, _, .cons h _, e => by
    obtain rfl := Option.some.inj e
    exact ⟨_, rfl, h⟩
  | _, _, i + 1, d, .cons _ r, e => by
    obtain ⟨v, h1, h2⟩ := r.get (i := i) (d := d) (by simpa using e)
    exact ⟨v, by simpa using h1, h2⟩
theorem DTs.at : ∀ {vs : List V} {ds : List PyData} {i : Nat} {v : V}, DTs K H vs ds → vs[i]? = some v → ∃ d, ds[i]? = some d ∧ DT K H v d
  | _, _, _, _, .nil, e => by simp at e
  | _, _, 0, _, .cons h _, e => by
    obtain rfl := Option.some.inj e
    exact ⟨_, rfl, h⟩
  | _, _, i + 1, v, .cons _ r, e => by
    obtain ⟨d, h1, h2⟩ := r.at (i := i) (v := v) (by simpa using e)
    exact ⟨d, by simpa using h1, h2⟩
theorem DTs.app : ∀ {vs ws : List V} {ds es : List PyData}, DTs K H vs ds → DTs K H ws es → DTs K H (vs ++ ws) (ds ++ es)
  | _, _, _, _, .nil, s => s
  | _, _, _, _, .cons h r, s => .cons h (r.app s)
/-- tuples stay -/
def KT (K : PySem.W.Frag) (H H' : Hp) : Prop := ∀ a xs, SqT K H a xs → SqT K H' a xs
theorem KT.same (s : Same H H') : KT K H H' := fun _ _ h => seqT s h
theorem KT.tr (x : KT K H H') (y : KT K H' H2) : KT K H H2 := fun a xs h => y a xs (x a xs h)
theorem KT.put {p : Addr} {ys : List V} {o : HO} (e : H p = some (.lst ys)) : KT K H (upd H p o) := fun a xs h => by
  rcases h with (h | ⟨u, h⟩) | h
  · exact .inl (.inl (by rw [upd_ne (ne_of h e fun z => nomatch z)]; exact h))
  · exact .inl (.inr ⟨u, by rw [upd_ne (ne_of h e fun z => nomatch z)]; exact h⟩)
  · exact .inr h
theorem KT.new {p : Addr} {o : HO} (n : H p = none) : KT K H (upd H p o) := .same (sN (Same.refl H) n)
mutual
theorem DT.keep (k : KT K H H') : ∀ {v : V} {d : PyData}, DT K H v d → DT K H' v d
  | _, _, .non => .non
  | _, _, .bl b => .bl b
  | _, _, .int b => .int b
  | _, _, .str b => .str b
  | _, _, .tup h r => .tup (k _ _ h) (r.keep k)
theorem DTs.keep (k : KT K H H') : ∀ {vs : List V} {ds : List PyData}, DTs K H vs ds → DTs K H' vs ds
  | _, _, .nil => .nil
  | _, _, .cons h r => .cons (h.keep k) (r.keep k)
end
def isTup : PyData → Bool
  | .tuple _ => true
  | _ => false
theorem DT.isT {v : V} {d : PyData} (h : DT K H v d) : ∃ t, TyX K H v t ∧ PySem.W.kitOne K t (.type "tuple") = some (isTup d) := by
  cases h with
  | non => exact ⟨_, .base .non, kit_ty (by decide +kernel : kitB "NoneType" "tuple" = some false)⟩
  | bl b => exact ⟨_, .base (.bl b), kit_ty (by decide +kernel : kitB "bool" "tuple" = some false)⟩
  | int b => exact ⟨_, .base (.int b), kit_ty (by decide +kernel : kitB "int" "tuple" = some false)⟩
  | str b => exact ⟨_, .base (.str b), kit_ty (by decide +kernel : kitB "str" "tuple" = some false)⟩
  | tup h r => exact ⟨_, tyx_tup h, kit_ty (by decide +kernel : kitB "tuple" "tuple" = some true)⟩
end

/-! ### the program: operands, reads, writes, followers, regions -/
abbrev Op := Str × Int
def opD (g : Op) : PyData := .tuple [.str g.1, .int g.2]
def rdOf (gs : List Op) : List PyData := (gs.filter fun g => decide (g.1 = ("reg" : Str))).map fun g => .int g.2
def OpsOk (nm : Str) (D : List PyData) (gs : List PyData) : Prop :=
  (nm = "call" ∧ D[3]? = some (.tuple gs)) ∨ (nm = "return" ∧ D[1]? = some (.tuple gs)) ∨ (nm ≠ "call" ∧ nm ≠ "return" ∧ gs = D.filter isTup)
def wrs : List V := [.str "move", .str "neg", .str "abs", .str "add", .str "sub", .str "mul", .str "div", .str "mod", .str "rem", .str "less", .str "equal", .str "load", .str "get"]
def rss : List V := [.str "neg", .str "abs", .str "add", .str "sub", .str "mul", .str "div", .str "mod", .str "rem", .str "check", .str "call", .str "raise", .str "again", .str "get"]
def lvs : List V := [.str "return", .str "raise", .str "again"]
def WrOk (nm : Str) (D : List PyData) (ws : List PyData) : Prop :=
  (nm = "call" ∧ D[4]? = some (.tuple ws)) ∨ (nm ≠ "call" ∧ inV (.str nm) wrs = true ∧ ∃ d, D[1]? = some (.int d) ∧ ws = [.int d]) ∨ (nm ≠ "call" ∧ inV (.str nm) wrs = false ∧ ws = [])
def mn (x y : Int) : Int := if y < x then y else x
def mx (x y : Int) : Int := if y > x then y else x
def FoOk (nm : Str) (D : List PyData) (ix : Int) (bs : List PyData) : Prop :=
  (inV (.str nm) lvs = true ∧ bs = []) ∨ (inV (.str nm) lvs = false ∧ nm = "jump" ∧ ∃ t, D[1]? = some (.int t) ∧ bs = [.int t]) ∨
  (inV (.str nm) lvs = false ∧ nm ≠ "jump" ∧ nm = "branch" ∧ ∃ t, D[2]? = some (.int t) ∧ t ≠ ix + 1 ∧ bs = [.int (mn t (ix + 1)), .int (mx t (ix + 1))]) ∨
  (inV (.str nm) lvs = false ∧ nm ≠ "jump" ∧ nm = "branch" ∧ ∃ t, D[2]? = some (.int t) ∧ t = ix + 1 ∧ bs = [.int (ix + 1)]) ∨
  (inV (.str nm) lvs = false ∧ nm ≠ "jump" ∧ nm ≠ "branch" ∧ bs = [.int (ix + 1)])
def regD (r : List Int) : PyData := .tuple (r.map .int)
def inR (at' : Int) (r : List Int) : Bool := decide (r.getD 0 0 ≤ at') && decide (at' < r.getD 1 0)
def findR (rs : List (List Int)) (at' : Int) : PyData := match rs.find? (inR at') with
  | some r => regD r
  | none => .none
def spOps (K : PySem.W.Frag) : Sp := fun vs H Q _ => ∃ (v : V) (nm : Str) (ds : List PyData) (gs : List PyData), vs = [v] ∧ DT K H v (.tuple (.str nm :: ds)) ∧ OpsOk nm (.str nm :: ds) gs ∧ ds.length ≤ 100 ∧ ∀ u H', DT K H' u (.tuple gs) → Same H H' → Q u H'
def spRds (K : PySem.W.Frag) : Sp := fun vs H Q _ => ∃ (v : V) (nm : Str) (ds : List PyData) (gs : List Op), vs = [v] ∧ DT K H v (.tuple (.str nm :: ds)) ∧ OpsOk nm (.str nm :: ds) (gs.map opD) ∧ ds.length ≤ 100 ∧ gs.length ≤ 100 ∧ ∀ u H', DT K H' u (.tuple (rdOf gs)) → Same H H' → Q u H'
def spWrs (K : PySem.W.Frag) : Sp := fun vs H Q _ => ∃ (v : V) (nm : Str) (ds : List PyData) (ws : List PyData), vs = [v] ∧ DT K H v (.tuple (.str nm :: ds)) ∧ WrOk nm (.str nm :: ds) ws ∧ ∀ u H', DT K H' u (.tuple ws) → Same H H' → Q u H'
def spCan (K : PySem.W.Frag) : Sp := fun vs H Q _ => ∃ (v : V) (nm : Str) (ds : List PyData), vs = [v] ∧ DT K H v (.tuple (.str nm :: ds)) ∧ Q (.bl (inV (.str nm) rss)) H
def spFol (K : PySem.W.Frag) : Sp := fun vs H Q _ => ∃ (v : V) (nm : Str) (ds : List PyData) (bs : List PyData) (ix : Int), vs = [v, .int ix] ∧ DT K H v (.tuple (.str nm :: ds)) ∧ FoOk nm (.str nm :: ds) ix bs ∧ ∀ u H', DT K H' u (.tuple bs) → Same H H' → Q u H'
def unF (v0 v1 v2 v3 v4 v5 v6 : V) : List (Str × V) := putF "regions" v6 (putF "code" v5 (putF "cells" v4 (putF "registers" v3 (putF "results" v2 (putF "arguments" v1 (putF "parent" v0 []))))))
theorem un_rg (v0 v1 v2 v3 v4 v5 v6 : V) : (unF v0 v1 v2 v3 v4 v5 v6).lookup ("regions" : Str) = some v6 :=
  (lookup_putF "regions" "regions" v6 _).trans (if_pos rfl)
theorem un_ne : ¬ ("code" : Str) = "regions" := by decide +kernel
theorem un_cd (v0 v1 v2 v3 v4 v5 v6 : V) : (unF v0 v1 v2 v3 v4 v5 v6).lookup ("code" : Str) = some v5 :=
  ((lookup_putF "regions" "code" v6 _).trans (if_neg un_ne)).trans ((lookup_putF "code" "code" v5 _).trans (if_pos rfl))
theorem pf_lt {f : Str} {v : V} {fs : List (Str × V)} {n : Nat} (h : fs.length ≤ n) : (putF f v fs).length ≤ n + 1 := Nat.le_trans (length_putF f v fs) (Nat.succ_le_succ h)
def spUnI (C : Addr) : Sp := fun vs H Q _ => ∃ (p dx : Addr) (v0 v1 v2 v3 v4 v5 v6 : V), vs = [.ref p, v0, v1, v2, v3, v4, v5, v6] ∧ H p = some (.ins C dx []) ∧ Q .non (upd H p (.ins C dx (unF v0 v1 v2 v3 v4 v5 v6)))
def spRegOf (K : PySem.W.Frag) (C : Addr) : Sp := fun vs H Q _ => ∃ (p dx : Addr) (v0 v1 v2 v3 v4 v5 : V) (ra : Addr) (xs : List V) (rs : List (List Int)) (ix : Int), vs = [.ref p, .int ix] ∧ H p = some (.ins C dx (unF v0 v1 v2 v3 v4 v5 (.ref ra))) ∧ SqT K H ra xs ∧ DTs K H xs (rs.map regD) ∧ (∀ r ∈ rs, 2 ≤ r.length) ∧ ∀ u, DT K H u (findR rs ix) → Q u H
theorem str_dec {x y : Str} (c : decide (V.str x = V.str y) = true) : x = y := by
  have := of_decide_eq_true c
  injection this
theorem str_dec' {x y : Str} (c : decide (V.str x = V.str y) = false) : x ≠ y := fun e => by
  rw [e] at c
  simp at c
theorem DT.ts {K : PySem.W.Frag} {H : Hp} {v : V} {ds : List PyData} (h : DT K H v (.tuple ds)) : ∃ a xs, v = .ref a ∧ SqT K H a xs ∧ DTs K H xs ds := by
  cases h with
  | tup h r => exact ⟨_, _, rfl, h, r⟩
theorem DT.i {K : PySem.W.Frag} {H : Hp} {v : V} {i : Int} (h : DT K H v (.int i)) : v = .int i := by
  cases h; rfl
theorem DT.s {K : PySem.W.Frag} {H : Hp} {v : V} {i : Str} (h : DT K H v (.str i)) : v = .str i := by
  cases h; rfl
theorem DTs.un {K : PySem.W.Frag} {H : Hp} {xs : List V} {d : PyData} {ds : List PyData} (h : DTs K H xs (d :: ds)) : ∃ v vs, xs = v :: vs ∧ DT K H v d ∧ DTs K H vs ds := by
  cases h with
  | cons k r => exact ⟨_, _, rfl, k, r⟩
theorem DTs.em {K : PySem.W.Frag} {H : Hp} {xs : List V} (h : DTs K H xs []) : xs = [] := by
  cases h; rfl
theorem DT.op {K : PySem.W.Frag} {H : Hp} {v : V} {z : Str} {n : Int} (h : DT K H v (opD (z, n))) : ∃ pb, v = .ref pb ∧ SqT K H pb [.str z, .int n] := by
  obtain ⟨pb, ys, e, hs, hd⟩ := DT.ts (ds := [.str z, .int n]) h
  obtain ⟨v1, y1, e1, k1, r1⟩ := hd.un
  obtain ⟨v2, y2, e2, k2, r2⟩ := r1.un
  rw [e1, e2, k1.s, k2.i, r2.em] at hs
  exact ⟨_, e, hs⟩
/-- the item of a tuple -/
theorem DTs.it {K : PySem.W.Frag} {H : Hp} {xs : List V} {ds : List PyData} (h : DTs K H xs ds) (i : Nat) {d : PyData} (e : ds[i]? = some d) : ∃ v, atI xs (i : Int) = some v ∧ DT K H v d := by
  obtain ⟨v, h1, h2⟩ := h.get e
  exact ⟨v, atI_nat h1, h2⟩
theorem filter_step {α : Type} {D : List α} {i : Nat} {d : α} (p : α → Bool) (h : D[i]? = some d) : (D.take (i + 1)).filter p = (D.take i).filter p ++ (if p d = true then [d] else []) := by
  rw [List.take_succ, h, List.filter_append]
  cases e : p d with
  | true => simp [e]
  | false => simp [e]
theorem ints_get {r : List Int} {i : Nat} (h : i < r.length) : (r.map PyData.int)[i]? = some (.int (r.getD i 0)) := by
  simp [List.getD, h]
section
variable {P : Program} {w : World} {K : PySem.W.Frag} {mg : Str → Option Value} {base : Heap} {a : Ad}
theorem ok_operands (T : Txt K mg a) : FnOk P w K mg base CX0 1 a.f_operands a.d_operands ["instruction"] (spOps K) := by
  refine T.F_operands.ok sc_operands (fun vs H Q E h => ?_) (fun cdv A outer s H vs Q E hr h => ?_)
  · obtain ⟨_, _, _, _, rfl, _⟩ := h; rfl
  · obtain ⟨v, nm, ds, gs, rfl, hv, ho, hl, q⟩ := h
    obtain ⟨pa, xs, rfl, hs, hd⟩ := hv.ts
    have hlx := hd.len
    obtain ⟨v0, e0, d0⟩ := hd.it 0 (d := .str nm) rfl
    cases d0.s
    refine ⟨_, (pss_cons (ps_if (pt_cmpR op_eq (pe_ix ix_tup (pv 0) pe_int (fun _ _ => rfl)) pe_str (nomark _)) (pss_one (ps_ret (pe_ix ix_tup (pv 0) pe_int (fun _ _ => rfl)))) pss_nil)
      (pss_cons (ps_if (pt_cmpR op_eq (pe_ix ix_tup (pv 0) pe_int (fun _ _ => rfl)) pe_str (nomark _)) (pss_one (ps_ret (pe_ix ix_tup (pv 0) pe_int (fun _ _ => rfl)))) pss_nil)
      (pss_one (ps_ret (pe_callTy call_tuple_of (by rfl) T.b_tuple (by decide +kernel) (pa_cons (pe_lc (own := [("part", 1)]) (g := gName 1) rfl sc_operands.nd (pi_tup (pv 0)) (blkOk_by (own := [("part", 1)]) (N := ["instruction", "part"]) (sc := defScope s_operands) (by decide +kernel)) (fun _ _ _ _ _ => pg_name (i := 1) sc_operands.nd rfl (Or.inl rfl)) (fun _ _ _ _ _ => (pts_one (pt_val (pe_callB (call_isiK (K := K) rfl) (by rfl) T.b_isinstance (by decide +kernel) (pa_cons (pv 1) (pa_cons (pe_bltn (v := .ty "tuple") (by rfl) T.b_tuple (by decide +kernel) rfl) pa_nil)))))) (fun _ _ _ _ _ => (pv 1))) pa_nil)))))), ?_⟩
    refine ⟨_, rfl, _, _, _, _, rfl, rfl, hs, e0, rfl, _, rfl, ite3 (fun c => ?_) (fun c => ?_)⟩
    · rcases ho with ⟨_, e⟩ | ⟨n, _⟩ | ⟨n, _⟩
      · obtain ⟨v3, e3, d3⟩ := hd.it 3 e
        exact ⟨_, rfl, _, _, _, _, rfl, rfl, hs, e3, q _ _ d3 (Same.refl H)⟩
      · rw [n] at c; exact absurd c (by decide +kernel)
      · exact absurd (str_dec c) n
    refine ⟨_, rfl, _, _, _, _, rfl, rfl, hs, e0, rfl, _, rfl, ite3 (fun c2 => ?_) (fun c2 => ?_)⟩
    · rcases ho with ⟨n, _⟩ | ⟨_, e⟩ | ⟨_, n, _⟩
      · exact absurd n (str_dec' c)
      · obtain ⟨v3, e3, d3⟩ := hd.it 1 e
        exact ⟨_, rfl, _, _, _, _, rfl, rfl, hs, e3, q _ _ d3 (Same.refl H)⟩
      · exact absurd (str_dec c2) n
    have hg : gs = (PyData.str nm :: ds).filter isTup := by
      rcases ho with ⟨n, _⟩ | ⟨n, _⟩ | ⟨_, _, e⟩
      · exact absurd n (str_dec' c)
      · exact absurd n (str_dec' c2)
      · exact e
    refine ⟨_, rfl, pa, rfl, ⟨_, hs⟩, fun L nL => ?_⟩
    refine lc_tup (K := K) (a := pa) (xs := xs) (fun i H' => Same H H' ∧ ∃ us, H' L = some (.lst us) ∧ us.length ≤ i ∧ DTs K H' us (((PyData.str nm :: ds).take i).filter isTup)) ⟨sN (Same.refl H) nL, [], upd_same, Nat.le_refl _, .nil⟩ (fun i H' _ h => seqT h.1 hs) ?_ ?_
    · rintro i x H' hx ⟨ss, us, hL, hul, hus⟩
      obtain ⟨d, ed, dx⟩ := hd.at hx
      have dx' := dx.keep (KT.same ss)
      obtain ⟨t, ty, kt⟩ := dx'.isT
      have hi : i < xs.length := (List.getElem?_eq_some_iff.mp hx).1
      refine ⟨rfl, ?_⟩
      refine ⟨_, rfl, _, _, _, _, _, rfl, .ty _, ty, kt, _, rfl, ?_⟩
      rw [filter_step isTup ed]
      cases e : isTup d with
      | true =>
        refine iteT ⟨_, rfl, us, hL, (by have := sizeLine_eq; simp at hlx; omega), sUpd ss nL, us ++ [x], upd_same, by simp; omega, ?_⟩
        exact (hus.app (.cons dx' .nil)).keep (KT.put hL)
      | false => exact iteF ⟨ss, us, hL, by omega, by simpa using hus⟩
    · rintro H' ⟨ss, us, hL, hul, hus⟩
      rw [hlx, List.take_length] at hus
      refine ⟨L, us, rfl, .inl ⟨SqL.of hL, fun p np => ?_⟩⟩
      refine q _ _ ?_ (sN ss np)
      rw [hg]
      exact .tup (SqT.of upd_same) (hus.keep (KT.new np))
theorem ok_reads (T : Txt K mg a) : FnOk P w K mg base CX0 2 a.f_reads a.d_reads ["instruction"] (spRds K) := by
  have G_operands : FnOk P w K mg base CX0 1 _ _ _ _ := ok_operands T
  refine T.F_reads.ok sc_reads (fun vs H Q E h => ?_) (fun cdv A outer s H vs Q E hr h => ?_)
  · obtain ⟨_, _, _, _, rfl, _⟩ := h; rfl
  · obtain ⟨v, nm, ds, gs, rfl, hv, ho, hl, hgl, q⟩ := h
    refine ⟨_, (pss_one (ps_ret (pe_callTy call_tuple_of (by rfl) T.b_tuple (by decide +kernel) (pa_cons (pe_lc (own := [("kind", 1), ("number", 2)]) (g := gTup K 2 (gCons (gName 1) (gCons (gName 2) (gNil)))) rfl sc_reads.nd (pi_tup (pe_call G_operands (hr.mono (by decide)) rfl T.g_operands T.k_operands T.bd_operands .nil pass0 (pa_cons (pv 0) pa_nil))) (blkOk_by (own := [("kind", 1), ("number", 2)]) (N := ["instruction", "kind", "number"]) (sc := defScope s_reads) (by decide +kernel)) (fun _ _ _ _ _ => pg_tup rfl (pgs_cons (pg_name (i := 1) sc_reads.nd rfl (Or.inl rfl)) (pgs_cons (pg_name (i := 2) sc_reads.nd rfl (Or.inl rfl)) (pgs_nil)))) (fun _ _ _ _ _ => (pts_one (pt_cmpR op_eq (pv 1) pe_str (nomark _)))) (fun _ _ _ _ _ => (pv 2))) pa_nil)))), ?_⟩
    refine ⟨_, rfl, v, nm, ds, gs.map opD, rfl, hv, ho, hl, fun u H1 hu s1 => ?_⟩
    obtain ⟨pa, xs, rfl, hs, hd⟩ := hu.ts
    have hlx := hd.len
    refine ⟨pa, rfl, ⟨_, hs⟩, fun L nL => ?_⟩
    refine lc_tup (K := K) (a := pa) (xs := xs) (fun i H' => Same H1 H' ∧ ∃ us, H' L = some (.lst us) ∧ us.length ≤ i ∧ DTs K H' us (rdOf (gs.take i))) ⟨sN (Same.refl H1) nL, [], upd_same, Nat.le_refl _, .nil⟩ (fun i H' _ h => seqT h.1 hs) ?_ ?_
    · rintro i x H' hx ⟨ss, us, hL, hul, hus⟩
      obtain ⟨d, ed, dx⟩ := hd.at hx
      rw [List.getElem?_map] at ed
      obtain ⟨⟨z, n⟩, eg, rfl⟩ := Option.map_eq_some_iff.mp ed
      obtain ⟨pb, rfl, hys⟩ := (dx.keep (KT.same ss)).op
      have hi : i < xs.length := (List.getElem?_eq_some_iff.mp hx).1
      refine ⟨_, _, rfl, hys, rfl, _, _, rfl, _, _, rfl, rfl, ?_⟩
      refine ⟨rfl, ?_⟩
      refine ⟨_, rfl, rfl, _, rfl, ?_⟩
      have hr : rdOf (gs.take (i + 1)) = rdOf (gs.take i) ++ (if decide (V.str z = V.str "reg") = true then [.int n] else []) := by
        unfold rdOf
        rw [filter_step _ eg, List.map_append]
        by_cases c : z = "reg"
        · simp [c]
        · have : ¬ V.str z = V.str "reg" := fun e => c (by injection e)
          simp [c, this]
      rw [hr]
      cases e : decide (V.str z = V.str "reg") with
      | true =>
        refine iteT ⟨_, rfl, us, hL, (by have := sizeLine_eq; simp at hlx; omega), sUpd ss nL, us ++ [.int n], upd_same, by simp; omega, ?_⟩
        exact (hus.app (.cons (.int n) .nil)).keep (KT.put hL)
      | false => exact iteF ⟨ss, us, hL, by omega, by simpa using hus⟩
    · rintro H' ⟨ss, us, hL, hul, hus⟩
      rw [hlx, List.length_map, List.take_length] at hus
      refine ⟨L, us, rfl, .inl ⟨SqL.of hL, fun p np => ?_⟩⟩
      exact q _ _ (.tup (SqT.of upd_same) (hus.keep (KT.new np))) (sN (sTr s1 ss) np)
theorem ok_writes (T : Txt K mg a) : FnOk P w K mg base CX0 1 a.f_writes a.d_writes ["instruction"] (spWrs K) := by
  refine T.F_writes.ok sc_writes (fun vs H Q E h => ?_) (fun cdv A outer s H vs Q E hr h => ?_)
  · obtain ⟨_, _, _, _, rfl, _⟩ := h; rfl
  · obtain ⟨v, nm, ds, ws, rfl, hv, ho, q⟩ := h
    obtain ⟨pa, xs, rfl, hs, hd⟩ := hv.ts
    obtain ⟨v0, e0, d0⟩ := hd.it 0 (d := .str nm) rfl
    cases d0.s
    refine ⟨_, (pss_cons (ps_if (pt_cmpR op_eq (pe_ix ix_tup (pv 0) pe_int (fun _ _ => rfl)) pe_str (nomark _)) (pss_one (ps_ret (pe_ix ix_tup (pv 0) pe_int (fun _ _ => rfl)))) pss_nil)
      (pss_one (ps_ret (pe_ifExp (pt_cmpR op_inS (pe_ix ix_tup (pv 0) pe_int (fun _ _ => rfl)) (pe_glob (v := .ref a.c_WRITING) rfl T.g_WRITING rfl) rfl) (pe_tup (pa_cons (pe_ix ix_tup (pv 0) pe_int (fun _ _ => rfl)) pa_nil)) (pe_tup pa_nil))))), ?_⟩
    refine ⟨_, rfl, _, _, _, _, rfl, rfl, hs, e0, rfl, _, rfl, ite3 (fun c => ?_) (fun c => ?_)⟩
    · rcases ho with ⟨_, e⟩ | ⟨n, _⟩ | ⟨n, _⟩
      · obtain ⟨v3, e3, d3⟩ := hd.it 4 e
        exact ⟨_, rfl, _, _, _, _, rfl, rfl, hs, e3, q _ _ d3 (Same.refl H)⟩
      · exact absurd (str_dec c) n
      · exact absurd (str_dec c) n
    refine ⟨_, rfl, _, _, _, _, rfl, rfl, hs, e0, a.c_WRITING, wrs, rfl, .inr (T.q_WRITING H), rfl, by decide +kernel, _, rfl, ite3 (fun c2 => ?_) (fun c2 => ?_)⟩
    · rcases ho with ⟨n, _⟩ | ⟨_, _, d, e, rfl⟩ | ⟨_, n, _⟩
      · exact absurd n (str_dec' c)
      · obtain ⟨v1, e1, d1⟩ := hd.it 1 e
        cases d1.i
        exact ⟨_, rfl, _, _, _, _, rfl, rfl, hs, e1, (by show 1 ≤ sizeLine; decide), fun p np => q _ _ (.tup (SqT.of upd_same) (.cons (.int d) .nil)) (sN (Same.refl H) np)⟩
      · rw [c2] at n; cases n
    · rcases ho with ⟨n, _⟩ | ⟨_, n, _⟩ | ⟨_, _, rfl⟩
      · exact absurd n (str_dec' c)
      · rw [c2] at n; cases n
      · exact ⟨by decide, fun p np => q _ _ (.tup (SqT.of upd_same) .nil) (sN (Same.refl H) np)⟩
theorem ok_can_raise (T : Txt K mg a) : FnOk P w K mg base CX0 1 a.f_can_raise a.d_can_raise ["instruction"] (spCan K) := by
  refine T.F_can_raise.ok sc_can_raise (fun vs H Q E h => ?_) (fun cdv A outer s H vs Q E hr h => ?_)
  · obtain ⟨_, _, _, rfl, _⟩ := h; rfl
  · obtain ⟨v, nm, ds, rfl, hv, q⟩ := h
    obtain ⟨pa, xs, rfl, hs, hd⟩ := hv.ts
    obtain ⟨v0, e0, d0⟩ := hd.it 0 (d := .str nm) rfl
    cases d0.s
    refine ⟨_, (pss_one (ps_ret (pe_cmpR op_inS (pe_ix ix_tup (pv 0) pe_int (fun _ _ => rfl)) (pe_glob (v := .ref a.c_RAISING) rfl T.g_RAISING rfl) rfl))), ?_⟩
    exact ⟨_, rfl, _, _, _, _, rfl, rfl, hs, e0, a.c_RAISING, rss, rfl, .inr (T.q_RAISING H), rfl, by decide +kernel, q⟩
theorem ok_followers (T : Txt K mg a) : FnOk P w K mg base CX0 1 a.f_followers a.d_followers ["instruction", "index"] (spFol K) := by
  refine T.F_followers.ok sc_followers (fun vs H Q E h => ?_) (fun cdv A outer s H vs Q E hr h => ?_)
  · obtain ⟨_, _, _, _, _, rfl, _⟩ := h; rfl
  · obtain ⟨v, nm, ds, bs, ix, rfl, hv, ho, q⟩ := h
    obtain ⟨pa, xs, rfl, hs, hd⟩ := hv.ts
    obtain ⟨v0, e0, d0⟩ := hd.it 0 (d := .str nm) rfl
    cases d0.s
    refine ⟨_, (pss_cons (ps_set (i := 2) sc_followers.nd rfl (Or.inl rfl) (pe_ix ix_tup (pv 0) pe_int (fun _ _ => rfl)))
      (pss_cons (ps_if (pt_cmpR op_inS (pv 2) (pe_glob (v := .ref a.c_LEAVING) rfl T.g_LEAVING rfl) rfl) (pss_one (ps_ret (pe_tup pa_nil))) pss_nil)
      (pss_cons (ps_if (pt_cmpR op_eq (pv 2) pe_str (nomark _)) (pss_one (ps_ret (pe_tup (pa_cons (pe_ix ix_tup (pv 0) pe_int (fun _ _ => rfl)) pa_nil)))) pss_nil)
      (pss_cons (ps_set (i := 3) sc_followers.nd rfl (Or.inl rfl) (pe_op op_add (pv 1) pe_int))
      (pss_cons (ps_if (PW.pt (pw_and (pt_cmpR op_eq (pv 2) pe_str (nomark _)) (pw_and1 (pt_cmpR op_ne (pe_ix ix_tup (pv 0) pe_int (fun _ _ => rfl)) (pv 3) (nomark _))))) (pss_one (ps_ret (pe_tup (pa_cons (pe_callB (call_min2 rfl) (by rfl) T.b_min (by decide +kernel) (pa_cons (pe_ix ix_tup (pv 0) pe_int (fun _ _ => rfl)) (pa_cons (pv 3) pa_nil))) (pa_cons (pe_callB (call_max2 rfl) (by rfl) T.b_max (by decide +kernel) (pa_cons (pe_ix ix_tup (pv 0) pe_int (fun _ _ => rfl)) (pa_cons (pv 3) pa_nil))) pa_nil))))) pss_nil)
      (pss_one (ps_ret (pe_tup (pa_cons (pv 3) pa_nil))))))))), ?_⟩
    refine ⟨_, rfl, _, _, _, _, rfl, rfl, hs, e0, ?_⟩
    refine ⟨_, rfl, a.c_LEAVING, lvs, rfl, .inr (T.q_LEAVING H), rfl, by decide +kernel, _, rfl, ite3 (fun c => ?_) (fun c => ?_)⟩
    · rcases ho with ⟨_, rfl⟩ | ⟨n, _⟩ | ⟨n, _⟩ | ⟨n, _⟩ | ⟨n, _⟩
      · exact ⟨by decide, fun p np => q _ _ (.tup (SqT.of upd_same) .nil) (sN (Same.refl H) np)⟩
      all_goals (rw [c] at n; cases n)
    refine ⟨_, rfl, rfl, _, rfl, ite3 (fun c2 => ?_) (fun c2 => ?_)⟩
    · rcases ho with ⟨n, _⟩ | ⟨_, _, t, e, rfl⟩ | ⟨_, n, _⟩ | ⟨_, n, _⟩ | ⟨_, n, _⟩
      · rw [c] at n; cases n
      · obtain ⟨v1, e1, d1⟩ := hd.it 1 e
        cases d1.i
        exact ⟨_, rfl, _, _, _, _, rfl, rfl, hs, e1, (by show 1 ≤ sizeLine; decide), fun p np => q _ _ (.tup (SqT.of upd_same) (.cons (.int t) .nil)) (sN (Same.refl H) np)⟩
      all_goals exact absurd (str_dec c2) n
    refine ⟨_, rfl, _, _, rfl, rfl, ?_⟩
    have last : (∀ {bs' : List PyData}, bs = bs' → bs' = [.int (ix + 1)] → ∀ p, H p = none → Q (.ref p) (upd H p (.tup [.int (ix + 1)]))) := fun e1 e2 p np => by
      subst e1
      subst e2
      exact q _ _ (.tup (SqT.of upd_same) (.cons (.int _) .nil)) (sN (Same.refl H) np)
    refine ⟨_, rfl, rfl, _, rfl, ite3 (fun c3 => ?_) (fun c3 => ?_)⟩
    · rcases ho with ⟨n, _⟩ | ⟨_, n, _⟩ | ⟨_, _, _, t, e, ht, rfl⟩ | ⟨_, _, _, t, e, ht, rfl⟩ | ⟨_, _, n, _⟩
      · rw [c] at n; cases n
      · exact absurd n (str_dec' c2)
      · obtain ⟨v1, e1, d1⟩ := hd.it 2 e
        cases d1.i
        refine ⟨_, rfl, _, _, _, _, rfl, rfl, hs, e1, _, rfl, rfl, _, rfl, ite3 (fun c4 => ?_) (fun c4 => ?_)⟩
        · refine ⟨_, rfl, _, _, _, _, rfl, rfl, hs, e1, _, rfl, _, _, rfl, _, rfl, _, _, _, _, rfl, rfl, hs, e1, _, rfl, _, _, rfl, (by show 2 ≤ sizeLine; decide), fun p np => ?_⟩
          exact q _ _ (.tup (SqT.of upd_same) (.cons (.int _) (.cons (.int _) .nil))) (sN (Same.refl H) np)
        · exact absurd c4 (by simp [ht])
      · obtain ⟨v1, e1, d1⟩ := hd.it 2 e
        cases d1.i
        refine ⟨_, rfl, _, _, _, _, rfl, rfl, hs, e1, _, rfl, rfl, _, rfl, ite3 (fun c4 => ?_) (fun c4 => ?_)⟩
        · exact absurd c4 (by simp [ht])
        · exact ⟨_, rfl, (by show 1 ≤ sizeLine; decide), fun p np => last rfl rfl p np⟩
      · exact absurd (str_dec c3) n
    · rcases ho with ⟨n, _⟩ | ⟨_, n, _⟩ | ⟨_, _, n, _⟩ | ⟨_, _, n, _⟩ | ⟨_, _, _, e⟩
      · rw [c] at n; cases n
      · exact absurd n (str_dec' c2)
      · exact absurd n (str_dec' c3)
      · exact absurd n (str_dec' c3)
      · exact iteF ⟨_, rfl, (by show 1 ≤ sizeLine; decide), fun p np => last e rfl p np⟩
theorem ok_Unit___init__ (T : Txt K mg a) : FnOk P w K mg base CX0 1 a.f_Unit___init__ a.d_Unit___init__ ["self", "parent", "arguments", "results", "registers", "cells", "code", "regions"] (spUnI a.C_Unit) := by
  refine T.F_Unit___init__.ok sc_Unit___init__ (fun vs H Q E h => ?_) (fun cdv A outer s H vs Q E hr h => ?_)
  · obtain ⟨_, _, _, _, _, _, _, _, _, rfl, _⟩ := h; rfl
  · obtain ⟨p, dx, v0, v1, v2, v3, v4, v5, v6, rfl, hp, q⟩ := h
    refine ⟨_, (pss_cons (ps_fld (pv 0) (pv 1) rfl)
      (pss_cons (ps_fld (pv 0) (pv 2) rfl)
      (pss_cons (ps_fld (pv 0) (pv 3) rfl)
      (pss_cons (ps_fld (pv 0) (pv 4) rfl)
      (pss_cons (ps_fld (pv 0) (pv 5) rfl)
      (pss_cons (ps_fld (pv 0) (pv 6) rfl)
      (pss_one (ps_fld (pv 0) (pv 7) rfl)))))))), ?_⟩
    refine ⟨_, rfl, _, rfl, p, a.C_Unit, dx, _, rfl, hp, T.cl_Unit, T.n_Unit_parent, (by show 0 < 1000; decide), ?_⟩
    refine ⟨_, rfl, _, rfl, p, a.C_Unit, dx, _, rfl, upd_same, T.cl_Unit, T.n_Unit_arguments, (by show 1 < 1000; decide), ?_⟩
    rw [upd_upd]
    refine ⟨_, rfl, _, rfl, p, a.C_Unit, dx, _, rfl, upd_same, T.cl_Unit, T.n_Unit_results, Nat.lt_of_le_of_lt (pf_lt (pf_lt (Nat.le_refl 0))) (by decide : 2 < 1000), ?_⟩
    rw [upd_upd]
    refine ⟨_, rfl, _, rfl, p, a.C_Unit, dx, _, rfl, upd_same, T.cl_Unit, T.n_Unit_registers, Nat.lt_of_le_of_lt (pf_lt (pf_lt (pf_lt (Nat.le_refl 0)))) (by decide : 3 < 1000), ?_⟩
    rw [upd_upd]
    refine ⟨_, rfl, _, rfl, p, a.C_Unit, dx, _, rfl, upd_same, T.cl_Unit, T.n_Unit_cells, Nat.lt_of_le_of_lt (pf_lt (pf_lt (pf_lt (pf_lt (Nat.le_refl 0))))) (by decide : 4 < 1000), ?_⟩
    rw [upd_upd]
    refine ⟨_, rfl, _, rfl, p, a.C_Unit, dx, _, rfl, upd_same, T.cl_Unit, T.n_Unit_code, Nat.lt_of_le_of_lt (pf_lt (pf_lt (pf_lt (pf_lt (pf_lt (Nat.le_refl 0)))))) (by decide : 5 < 1000), ?_⟩
    rw [upd_upd]
    refine ⟨_, rfl, _, rfl, p, a.C_Unit, dx, _, rfl, upd_same, T.cl_Unit, T.n_Unit_regions, Nat.lt_of_le_of_lt (pf_lt (pf_lt (pf_lt (pf_lt (pf_lt (pf_lt (Nat.le_refl 0))))))) (by decide : 6 < 1000), ?_⟩
    rw [upd_upd]
    exact q
theorem ok_region_of (T : Txt K mg a) : FnOk P w K mg base CX0 1 a.f_region_of a.d_region_of ["unit", "index"] (spRegOf K a.C_Unit) := by
  refine T.F_region_of.ok sc_region_of (fun vs H Q E h => ?_) (fun cdv A outer s H vs Q E hr h => ?_)
  · obtain ⟨_, _, _, _, _, _, _, _, _, _, _, _, rfl, _⟩ := h; rfl
  · obtain ⟨p, dx, v0, v1, v2, v3, v4, v5, ra, xs, rs, ix, rfl, hp, hra, hxs, hrs, q⟩ := h
    have hlx := hxs.len
    refine ⟨_, (pss_cons (ps_for PassesOwn.never rfl (pi_tup (pe_fld (pv 0) rfl)) (pg_name (i := 2) sc_region_of.nd rfl (Or.inl rfl)) (pss_one (ps_if (pt_chain op_le op_lt (pe_ix ix_tup (pv 2) pe_int (fun _ _ => rfl)) (pv 1) (pe_ix ix_tup (pv 2) pe_int (fun _ _ => rfl))) (pss_one (ps_ret (pv 2))) pss_nil)))
      (pss_one (ps_ret pe_non))), ?_⟩
    refine ⟨_, rfl, p, a.C_Unit, dx, _, _, rfl, hp, T.cl_Unit, T.n_Unit_regions, un_rg _ _ _ _ _ _ _, ra, rfl, ⟨_, hra⟩, ?_⟩
    refine for_tup (K := K) (a := ra) (xs := xs) (fun i σ H1 => H1 = H ∧ (∃ o, σ = [some (.ref p), some (.int ix), o]) ∧ (rs.take i).find? (inR ix) = none) ⟨rfl, ⟨_, rfl⟩, rfl⟩ (fun i σ H1 _ h => by rw [h.1]; exact hra) ?_ ?_
    · rintro i x σ H1 hx ⟨rfl, ⟨o, rfl⟩, hn⟩
      obtain ⟨d, ed, dx1⟩ := hxs.at hx
      rw [List.getElem?_map] at ed
      obtain ⟨r, er, rfl⟩ := Option.map_eq_some_iff.mp ed
      have hr2 := hrs r (List.mem_of_getElem? er)
      obtain ⟨pb, ys, rfl, hys, hd2⟩ := dx1.ts
      obtain ⟨u0, e0, k0⟩ := hd2.it 0 (ints_get (r := r) (i := 0) (by omega))
      obtain ⟨u1, e1, k1⟩ := hd2.it 1 (ints_get (r := r) (i := 1) (by omega))
      cases k0.i
      cases k1.i
      have hf : (rs.take (i + 1)).find? (inR ix) = if inR ix r = true then some r else none := by
        rw [List.take_succ, er, List.find?_append, hn]
        cases e : inR ix r <;> simp [e]
      have fd : inR ix r = true → findR rs ix = regD r := fun c => by
        have : rs.find? (inR ix) = some r := by
          rw [if_pos c] at hf
          rw [← List.take_append_drop (i + 1) rs, List.find?_append, hf]
          rfl
        unfold findR
        rw [this]
      refine ⟨_, rfl, _, _, _, _, rfl, rfl, hys, e0, _, rfl, _, _, rfl, rfl, _, rfl, ?_⟩
      cases c0 : decide (r.getD 0 0 ≤ ix) with
      | false =>
        have : inR ix r = false := by unfold inR; rw [c0]; rfl
        refine iteF ⟨_, rfl, iteF ?_⟩
        exact ⟨rfl, ⟨_, rfl⟩, by rw [hf, this]; rfl⟩
      | true =>
        refine iteT ⟨_, rfl, _, _, _, _, rfl, rfl, hys, e1, _, _, rfl, rfl, _, rfl, ?_⟩
        cases c1 : decide (ix < r.getD 1 0) with
        | false =>
          have : inR ix r = false := by unfold inR; rw [c0, c1]; rfl
          exact iteF ⟨rfl, ⟨_, rfl⟩, by rw [hf, this]; rfl⟩
        | true =>
          have : inR ix r = true := by unfold inR; rw [c0, c1]; rfl
          refine iteT ⟨_, rfl, ?_⟩
          exact q _ (by rw [fd this]; exact dx1)
    · rintro σ H1 ⟨rfl, ⟨o, rfl⟩, hn⟩
      rw [hlx, List.length_map, List.take_length] at hn
      refine q _ ?_
      unfold findR
      rw [hn]
      exact .non
end

/-! ### heaps that turn at some places alone -/
def Frm (S : List Addr) (H H' : Hp) : Prop := ∀ b o, H b = some o → b ∉ S → H' b = some o
theorem Frm.refl {S : List Addr} {H : Hp} : Frm S H H := fun _ _ e _ => e
theorem Frm.trans {S : List Addr} {H H1 H2 : Hp} (x : Frm S H H1) (y : Frm S H1 H2) : Frm S H H2 := fun b o e n => y b o (x b o e n) n
theorem Frm.new {S : List Addr} {H H1 : Hp} {p : Addr} {o : HO} (x : Frm S H H1) (n : H1 p = none) : Frm S H (upd H1 p o) := fun b u e m => by
  rw [upd_ne (ne_of_none (x b u e m) n)]; exact x b u e m
theorem Frm.put {S : List Addr} {H H1 : Hp} {p : Addr} {o : HO} (x : Frm S H H1) (m : p ∈ S) : Frm S H (upd H1 p o) := fun b u e h => by
  rw [upd_ne (fun z => h (by rw [z]; exact m))]; exact x b u e h
theorem Frm.mono {S S' : List Addr} {H H1 : Hp} (x : Frm S H H1) (h : ∀ b ∈ S, b ∈ S') : Frm S' H H1 := fun b u e n => x b u e fun z => n (h b z)
theorem Frm.of {S : List Addr} {H H1 : Hp} (x : Same H H1) : Frm S H H1 := fun b u e _ => x b u e
theorem Frm.same {H H1 : Hp} (x : Frm [] H H1) : Same H H1 := fun b u e => x b u e (by simp)
/-- a list that is to be read, whatever turns at b -/
def Apt (K : PySem.W.Frag) (sa : Addr) (xs : List V) (b : Addr) : Prop := b = sa → ∀ H', SqL K H' sa xs
theorem apt_new {K : PySem.W.Frag} {H : Hp} {sa b : Addr} {xs : List V} (h : SqL K H sa xs) (n : H b = none) : Apt K sa xs b := fun e H' => by
  subst e
  rcases h with (h | ⟨o, h⟩) | h
  · rw [n] at h; cases h
  · rw [n] at h; cases h
  · exact .inr h
theorem sq_frm {K : PySem.W.Frag} {S : List Addr} {H H' : Hp} {sa : Addr} {xs : List V} (h : SqL K H sa xs) (f : Frm S H H') (a : ∀ b ∈ S, Apt K sa xs b) : SqL K H' sa xs := by
  by_cases c : sa ∈ S
  · exact a sa c rfl H'
  · rcases h with (h | ⟨o, h⟩) | h
    · exact .inl (.inl (f _ _ h c))
    · exact .inl (.inr ⟨o, f _ _ h c⟩)
    · exact .inr h
/-! ### the draws -/
structure StP (K : PySem.W.Frag) (H : Hp) (st sa : Addr) (ns : List Int) : Prop where
  at' : ∃ i d n : Int, 0 ≤ i ∧ H st = some (.lst [.ref sa, .int i, .int d, .int n])
  sq : SqL K H sa (ns.map V.int)
  ap : Apt K sa (ns.map V.int) st
theorem StP.frm {K : PySem.W.Frag} {S : List Addr} {H H' : Hp} {st sa : Addr} {ns : List Int} (h : StP K H st sa ns) (f : Frm S H H') (n : st ∉ S) (a : ∀ b ∈ S, Apt K sa (ns.map V.int) b) : StP K H' st sa ns := by
  obtain ⟨i, d, k, z, e⟩ := h.at'
  exact ⟨⟨i, d, k, z, f _ _ e n⟩, sq_frm h.sq f a, h.ap⟩
theorem StP.same {K : PySem.W.Frag} {H H' : Hp} {st sa : Addr} {ns : List Int} (h : StP K H st sa ns) (f : Same H H') : StP K H' st sa ns := h.frm (S := []) (fun b o e _ => f b o e) (by simp) (by simp)
theorem StP.put {K : PySem.W.Frag} {H : Hp} {st sa : Addr} {ns : List Int} {i d n : Int} (h : StP K H st sa ns) (z : 0 ≤ i) : StP K (upd H st (.lst [.ref sa, .int i, .int d, .int n])) st sa ns :=
  ⟨⟨i, d, n, z, upd_same⟩, sq_frm h.sq (Frm.put (S := [st]) Frm.refl (by simp)) (fun b hb => by rw [List.mem_singleton.mp hb]; exact h.ap), h.ap⟩
def spPick (K : PySem.W.Frag) : Sp := fun vs H Q _ => ∃ (st sa : Addr) (ns : List Int) (m : Int), vs = [.ref st, .int m] ∧ StP K H st sa ns ∧ 0 < m ∧ m < 2 ^ 62 ∧ ∀ (v : Int) (H' : Hp), 0 ≤ v → v < m → StP K H' st sa ns → Frm [st] H H' → Q (.int v) H'
section
variable {P : Program} {w : World} {K : PySem.W.Frag} {mg : Str → Option Value} {base : Heap} {a : Ad}
theorem ok_law_pick (T : Txt K mg a) : FnOk P w K mg base CX0 1 a.f_law_pick a.d_law_pick ["state", "limit"] (spPick K) := by
  refine T.F__law_pick.ok sc_law_pick (fun vs H Q E h => ?_) (fun cdv A outer s H vs Q E hr h => ?_)
  · obtain ⟨_, _, _, _, rfl, _⟩ := h; rfl
  · obtain ⟨st, sa, ns, m, rfl, S, hm, hm2, q⟩ := h
    have hdv : ∀ i, CDivW i m := fun i => wide_div (b := 62) hm (by omega) (by decide) (by decide)
    have hdv5 : ∀ i, CDivW i 5 := fun i => wide_div (b := 62) (by decide) (by decide) (by decide) (by decide)
    obtain ⟨i, d, n, i0, h1⟩ := S.at'
    refine ⟨_, (pss_cons (ps_asg (pe_op op_add (pe_ix ix_list (pv 0) pe_int (fun _ _ => rfl)) pe_int) (pg_sub (pv 0) pe_int set_list))
      (pss_cons (ps_if (pt_cmpR op_gt (pe_ix ix_list (pv 0) pe_int (fun _ _ => rfl)) pe_int (nomark _)) (pss_cons (ps_set (i := 2) sc_law_pick.nd rfl (Or.inl rfl) (pe_op op_mod (pe_callTy call_int1 (by rfl) T.b_int (by decide +kernel) (pa_cons (pe_ix ix_list (pv 0) pe_int (fun _ _ => rfl)) pa_nil)) (pv 1)))
      (pss_cons (ps_asg (pe_op op_fdivW (pe_ix ix_list (pv 0) pe_int (fun _ _ => rfl)) (pv 1)) (pg_sub (pv 0) pe_int set_list))
      (pss_one (ps_ret (pv 2))))) pss_nil)
      (pss_cons (ps_set (i := 3) sc_law_pick.nd rfl (Or.inl rfl) pe_int)
      (C8.pss_cut (ps_if (pt_cmpR op_lt (pe_ix ix_list (pv 0) pe_int (fun _ _ => rfl)) (pe_callB call_len_seq (by rfl) T.b_len (by decide +kernel) (pa_cons (pe_ix ix_list (pv 0) pe_int (fun _ _ => rfl)) pa_nil)) (nomark _)) (pss_one (ps_set (i := 3) sc_law_pick.nd rfl (Or.inl rfl) (pe_ix ix_list (pe_ix ix_list (pv 0) pe_int (fun _ _ => rfl)) (pe_ix ix_list (pv 0) pe_int (fun _ _ => rfl)) (fun _ _ => rfl)))) pss_nil)
      (pss_cons (ps_asg (pe_op op_add (pe_ix ix_list (pv 0) pe_int (fun _ _ => rfl)) pe_int) (pg_sub (pv 0) pe_int set_list))
      (pss_cons (ps_if (pt_cmpR op_ge (pv 3) (pe_op op_pow pe_int pe_int) (nomark _)) (pss_cons (ps_asg (pe_op op_fdivW (pv 3) (pv 1)) (pg_sub (pv 0) pe_int set_list))
      (pss_one (ps_ret (pe_op op_mod (pe_callTy call_int1 (by rfl) T.b_int (by decide +kernel) (pa_cons (pv 3) pa_nil)) (pv 1))))) pss_nil)
      (pss_cons (ps_set (i := 4) sc_law_pick.nd rfl (Or.inl rfl) (pe_op op_mod (pe_callTy call_int1 (by rfl) T.b_int (by decide +kernel) (pa_cons (pe_op op_add (pe_op op_mul (pe_op op_mod (pe_callTy call_int1 (by rfl) T.b_int (by decide +kernel) (pa_cons (pe_op op_add (pe_op op_add (pe_op op_mul (pv 3) pe_int) (pe_op op_mul (pe_ix ix_list (pv 0) pe_int (fun _ _ => rfl)) pe_int)) pe_int) pa_nil)) pe_int) pe_int) (pe_ix ix_list (pv 0) pe_int (fun _ _ => rfl))) pa_nil)) pe_int))
      (pss_one (ps_ret (pe_op op_mod (pe_callTy call_int1 (by rfl) T.b_int (by decide +kernel) (pa_cons (pe_op op_fdivW (pv 4) pe_int) pa_nil)) (pv 1))))))))))), ?_⟩
    refine ⟨_, rfl, _, _, _, _, rfl, rfl, SqL.of h1, rfl, _, _, rfl, rfl, _, rfl, _, _, _, _, rfl, rfl, h1, rfl, ?_⟩
    have S1 := S.put (d := d) (n := n + 1) i0
    have f1 : Frm [st] H (upd H st (.lst [.ref sa, .int i, .int d, .int (n + 1)])) := Frm.put Frm.refl (by simp)
    have e1 : upd H st (.lst [.ref sa, .int i, .int d, .int (n + 1)]) st = some (.lst [.ref sa, .int i, .int d, .int (n + 1)]) := upd_same
    have nu : ∀ {H2 : Hp} {o : HO}, Frm [st] H H2 → Frm [st] H (upd H2 st o) := fun f => f.put (by simp)
    refine ⟨_, rfl, _, _, _, _, rfl, rfl, SqL.of upd_same, rfl, _, _, rfl, rfl, _, rfl, ite3 (fun c1 => ?_) (fun c1 => ?_)⟩
    · refine ⟨_, rfl, _, _, _, _, rfl, rfl, SqL.of upd_same, rfl, .inl ⟨_, rfl, _, rfl, _, _, rfl, rfl, hm, ?_⟩⟩
      refine ⟨_, rfl, _, _, _, _, rfl, rfl, SqL.of upd_same, rfl, _, rfl, _, _, rfl, rfl, hdv _, _, rfl, _, _, _, _, rfl, rfl, upd_same, rfl, ?_⟩
      exact ⟨_, rfl, q _ _ (Int.emod_nonneg _ (by omega)) (Int.emod_lt_of_pos _ hm) (S1.put i0) (nu f1)⟩
    refine ⟨fun σ H2 => ∃ z : Int, σ = [some (.ref st), some (.int m), none, some (.int z), none] ∧ H2 st = some (.lst [.ref sa, .int i, .int d, .int (n + 1)]) ∧ StP K H2 st sa ns ∧ Frm [st] H H2, ?_, ?_⟩
    · refine ⟨_, rfl, _, _, _, _, rfl, rfl, SqL.of upd_same, rfl, _, rfl, _, _, _, _, rfl, rfl, SqL.of upd_same, rfl, _, _, rfl, .inl S1.sq, _, _, rfl, rfl, _, rfl, ite3 (fun c2 => ?_) (fun c2 => ?_)⟩
      · have hlt : i.toNat < ns.length := by
          have := of_decide_eq_true c2
          simp at this
          omega
        refine ⟨_, rfl, _, _, _, _, rfl, rfl, SqL.of upd_same, rfl, _, rfl, _, _, _, _, rfl, rfl, SqL.of upd_same, rfl, _, _, _, .int (ns[i.toNat]), rfl, rfl, S1.sq, ?_, ?_⟩
        · have hh := atI_nat (j := i.toNat) (xs := ns.map V.int) (v := V.int ns[i.toNat]) (by simp [hlt])
          rwa [show ((i.toNat : Nat) : Int) = i by omega] at hh
        · exact ⟨_, rfl, upd_same, S1, f1⟩
      · exact ⟨0, rfl, upd_same, S1, f1⟩
    · rintro σ H2 ⟨z, rfl, e2, S2, f2⟩
      refine ⟨_, rfl, _, _, _, _, rfl, rfl, SqL.of e2, rfl, _, _, rfl, rfl, _, rfl, _, _, _, _, rfl, rfl, e2, rfl, ?_⟩
      have S3 := S2.put (i := i + 1) (d := d) (n := n + 1) (by omega)
      refine ⟨_, rfl, _, _, rfl, rfl, ⟨by decide, by decide, by decide⟩, _, _, rfl, rfl, _, rfl, ite3 (fun c3 => ?_) (fun c3 => ?_)⟩
      · refine ⟨_, rfl, _, rfl, _, _, rfl, rfl, hdv _, _, rfl, _, _, _, _, rfl, rfl, upd_same, rfl, ?_⟩
        refine ⟨_, rfl, .inl ⟨_, rfl, _, rfl, _, _, rfl, rfl, hm, ?_⟩⟩
        exact q _ _ (Int.emod_nonneg _ (by omega)) (Int.emod_lt_of_pos _ hm) (S3.put (by omega)) (nu (nu f2))
      · refine ⟨_, rfl, _, _, rfl, rfl, .inr (by decide), _, rfl, _, _, _, _, rfl, rfl, SqL.of upd_same, rfl, _, _, rfl, rfl, .inr (by decide), _, _, rfl, rfl, _, _, rfl, rfl, .inl ⟨_, rfl, _, _, rfl, rfl, (by show (0 : Int) < 2147483647; decide), _, _, rfl, rfl, .inr (by decide), _, rfl, _, _, _, _, rfl, rfl, SqL.of upd_same, rfl, _, _, rfl, rfl, .inl ⟨_, rfl, _, _, rfl, rfl, (by show (0 : Int) < 2147483629; decide), ?_⟩⟩⟩
        refine ⟨_, rfl, _, _, rfl, rfl, hdv5 _, .inl ⟨_, rfl, _, rfl, _, _, rfl, rfl, hm, ?_⟩⟩
        exact q _ _ (Int.emod_nonneg _ (by omega)) (Int.emod_lt_of_pos _ hm) S3 (nu f2)
end

/-! ### sameness -/
def okD : Nat → PyData → Prop
  | _, .none => True
  | _, .bool _ => True
  | _, .int _ => True
  | _, .str _ => True
  | n + 1, .tuple ds => (∀ d ∈ ds, okD n d) ∧ ds.length ≤ 1000000
  | _, _ => False
def spSame (K : PySem.W.Frag) (n : Nat) : Sp := fun vs H Q _ => ∃ (x y : V) (d : PyData), vs = [x, y] ∧ DT K H x d ∧ DT K H y d ∧ okD n d ∧ ∀ H', Same H H' → Q (.bl true) H'
theorem kb (a b : String) (r : Bool) (h : kitB a b = some r := by decide +kernel) {K : PySem.W.Frag} : PySem.W.kitOne K (.type a) (.type b) = some r := kit_ty h
section
variable {P : Program} {w : World} {K : PySem.W.Frag} {mg : Str → Option Value} {base : Heap} {a : Ad}
theorem ok_same_aux (T : Txt K mg a) (n k : Nat) (sp' : Sp) (G_law_same : FnOk P w K mg base CX0 k a.f_law_same a.d_law_same ["actual", "due"] sp') (hG : ∀ m, n = m + 1 → ∀ vs H Q E, spSame K m vs H Q E → sp' vs H Q E) :
    FnOk P w K mg base CX0 (k + 1) a.f_law_same a.d_law_same ["actual", "due"] (spSame K n) := by
  refine T.F__law_same.ok sc_law_same (fun vs H Q E h => ?_) (fun cdv A outer s H vs Q E hr h => ?_)
  · obtain ⟨_, _, _, rfl, _⟩ := h; rfl
  · obtain ⟨x, y, d, rfl, hx, hy, ho, q⟩ := h
    refine ⟨_, (pss_cons (ps_if (pt_val (pe_callB call_isi (by rfl) T.b_isinstance (by decide +kernel) (pa_cons (pv 1) (pa_cons (pe_bltn (v := .ty "tuple") (by rfl) T.b_tuple (by decide +kernel) rfl) pa_nil)))) (pss_cons (ps_if (PW.pt (pw_or (pt_not (pt_val (pe_callB call_isi (by rfl) T.b_isinstance (by decide +kernel) (pa_cons (pv 0) (pa_cons (pe_bltn (v := .ty "tuple") (by rfl) T.b_tuple (by decide +kernel) rfl) pa_nil))))) (pw_or1 (pt_cmpR op_ne (pe_callB call_len_seq (by rfl) T.b_len (by decide +kernel) (pa_cons (pv 0) pa_nil)) (pe_callB call_len_seq (by rfl) T.b_len (by decide +kernel) (pa_cons (pv 1) pa_nil)) (nomark _))))) (pss_one (ps_ret pe_bl)) pss_nil)
      (pss_one (ps_ret (pe_callB (cr_all rfl) (by rfl) T.b_all (by decide +kernel) (pa_cons (pe_lc (own := [("k", 2)]) (g := gName 2) rfl sc_law_same.nd (pi_range1 rfl T.b_range (pa_cons (pe_callB call_len_seq (by rfl) T.b_len (by decide +kernel) (pa_cons (pv 1) pa_nil)) pa_nil)) (blkOk_by (own := [("k", 2)]) (N := ["actual", "due", "k"]) (sc := defScope s_law_same) (by decide +kernel)) (fun _ _ _ _ _ => pg_name (i := 2) sc_law_same.nd rfl (Or.inl rfl)) (fun _ _ _ _ _ => pts_nil) (fun _ _ _ _ _ => (pe_call G_law_same hr rfl T.g__law_same T.k__law_same T.bd__law_same .nil pass0 (pa_cons (pe_ix (ix_tupK (K := K) rfl) (pv 0) (pv 2) (fun _ _ => rfl)) (pa_cons (pe_ix (ix_tupK (K := K) rfl) (pv 1) (pv 2) (fun _ _ => rfl)) pa_nil))))) pa_nil))))) pss_nil)
      (pss_cons (ps_if (pt_cmpR op_isN (pv 1) pe_non (nomark _)) (pss_one (ps_ret (pe_cmpR op_isN (pv 0) pe_non (nomark _)))) pss_nil)
      (pss_cons (ps_if (pt_val (pe_callB call_isi (by rfl) T.b_isinstance (by decide +kernel) (pa_cons (pv 1) (pa_cons (pe_bltn (v := .ty "bool") (by rfl) T.b_bool (by decide +kernel) rfl) pa_nil)))) (pss_one (ps_ret (pe_and (pe_callB call_isi (by rfl) T.b_isinstance (by decide +kernel) (pa_cons (pv 0) (pa_cons (pe_bltn (v := .ty "bool") (by rfl) T.b_bool (by decide +kernel) rfl) pa_nil))) (pe_one (pe_cmpR op_eq (pv 0) (pv 1) (nomark _)))))) pss_nil)
      (pss_cons (ps_if (pt_val (pe_callB call_isi (by rfl) T.b_isinstance (by decide +kernel) (pa_cons (pv 1) (pa_cons (pe_bltn (v := .ty "str") (by rfl) T.b_str (by decide +kernel) rfl) pa_nil)))) (pss_one (ps_ret (pe_and (pe_callB call_isi (by rfl) T.b_isinstance (by decide +kernel) (pa_cons (pv 0) (pa_cons (pe_bltn (v := .ty "str") (by rfl) T.b_str (by decide +kernel) rfl) pa_nil))) (pe_one (pe_cmpR op_eq (pv 0) (pv 1) (nomark _)))))) pss_nil)
      (pss_one (ps_ret (pe_and (pe_callB call_isi (by rfl) T.b_isinstance (by decide +kernel) (pa_cons (pv 0) (pa_cons (pe_bltn (v := .ty "int") (by rfl) T.b_int (by decide +kernel) rfl) pa_nil))) (pe_and (pe_not (pe_callB call_isi (by rfl) T.b_isinstance (by decide +kernel) (pa_cons (pv 0) (pa_cons (pe_bltn (v := .ty "bool") (by rfl) T.b_bool (by decide +kernel) rfl) pa_nil)))) (pe_one (pe_cmpR op_eq (pv 0) (pv 1) (nomark _))))))))))), ?_⟩
    have s0 := Same.refl H
    cases d with
    | none =>
      cases hx; cases hy
      refine ⟨_, rfl, _, _, _, _, _, rfl, .ty _, .base .non, kb "NoneType" "tuple" false, _, rfl, iteF ?_⟩
      refine ⟨_, rfl, rfl, _, rfl, iteT ?_⟩
      exact ⟨_, rfl, rfl, q _ s0⟩
    | bool i =>
      cases hx; cases hy
      refine ⟨_, rfl, _, _, _, _, _, rfl, .ty _, .base (.bl _), kb "bool" "tuple" false, _, rfl, iteF ?_⟩
      refine ⟨_, rfl, rfl, _, rfl, iteF ?_⟩
      refine ⟨_, rfl, _, _, _, _, _, rfl, .ty _, .base (.bl _), kb "bool" "bool" true, _, rfl, iteT ?_⟩
      refine ⟨_, rfl, _, _, _, _, _, rfl, .ty _, .base (.bl _), kb "bool" "bool" true, _, rfl, iteT ?_⟩
      refine ⟨_, rfl, _, rfl, rfl, ?_⟩
      rw [show decide (V.bl i = V.bl i) = true by simp]
      exact q _ s0
    | int i =>
      cases hx; cases hy
      refine ⟨_, rfl, _, _, _, _, _, rfl, .ty _, .base (.int _), kb "int" "tuple" false, _, rfl, iteF ?_⟩
      refine ⟨_, rfl, rfl, _, rfl, iteF ?_⟩
      refine ⟨_, rfl, _, _, _, _, _, rfl, .ty _, .base (.int _), kb "int" "bool" false, _, rfl, iteF ?_⟩
      refine ⟨_, rfl, _, _, _, _, _, rfl, .ty _, .base (.int _), kb "int" "str" false, _, rfl, iteF ?_⟩
      refine ⟨_, rfl, _, _, _, _, _, rfl, .ty _, .base (.int _), kb "int" "int" true, _, rfl, iteT ?_⟩
      refine ⟨_, rfl, _, _, _, _, _, rfl, .ty _, .base (.int _), kb "int" "bool" false, _, rfl, _, rfl, iteT ?_⟩
      refine ⟨_, rfl, _, rfl, rfl, ?_⟩
      rw [show decide (V.int i = V.int i) = true by simp]
      exact q _ s0
    | str z =>
      cases hx; cases hy
      refine ⟨_, rfl, _, _, _, _, _, rfl, .ty _, .base (.str _), kb "str" "tuple" false, _, rfl, iteF ?_⟩
      refine ⟨_, rfl, rfl, _, rfl, iteF ?_⟩
      refine ⟨_, rfl, _, _, _, _, _, rfl, .ty _, .base (.str _), kb "str" "bool" false, _, rfl, iteF ?_⟩
      refine ⟨_, rfl, _, _, _, _, _, rfl, .ty _, .base (.str _), kb "str" "str" true, _, rfl, iteT ?_⟩
      refine ⟨_, rfl, _, _, _, _, _, rfl, .ty _, .base (.str _), kb "str" "str" true, _, rfl, iteT ?_⟩
      refine ⟨_, rfl, _, rfl, rfl, ?_⟩
      rw [show decide (V.str z = V.str z) = true by simp]
      exact q _ s0
    | tuple ds =>
      cases n with
      | zero => exact ho.elim
      | succ m =>
        obtain ⟨ho, hz⟩ := ho
        obtain ⟨pa, xs, rfl, hxs, dx⟩ := hx.ts
        obtain ⟨pb, ys, rfl, hys, dy⟩ := hy.ts
        have lx := dx.len
        have ly := dy.len
        refine ⟨_, rfl, _, _, _, _, _, rfl, .ty _, tyx_tup hys, kb "tuple" "tuple" true, _, rfl, iteT ?_⟩
        refine ⟨_, rfl, _, _, _, _, _, rfl, .ty _, tyx_tup hxs, kb "tuple" "tuple" true, _, rfl, iteF ?_⟩
        refine ⟨_, rfl, _, _, rfl, .inr hxs, _, rfl, _, _, rfl, .inr hys, rfl, _, rfl, ?_⟩
        rw [show (!decide (V.int (xs.length : Int) = V.int (ys.length : Int))) = false by rw [lx, ly]; simp]
        refine iteF ?_
        refine ⟨_, rfl, _, _, rfl, .inr hys, _, rfl, by omega, by omega, fun D nD => ?_⟩
        refine lc_range (lo := 0) (n := (ys.length : Int).toNat) (fun i H' => Same H H' ∧ H' D = some (.lst ((List.replicate i true).map V.bl))) ⟨sN s0 nD, upd_same⟩ ?_ ?_
        · rintro i H' hi ⟨ss, hD⟩
          have hi' : i < ds.length := by omega
          obtain ⟨v1, e1, d1⟩ := dx.get (i := i) (d := ds[i]) (by simp [hi'])
          obtain ⟨v2, e2, d2⟩ := dy.get (i := i) (d := ds[i]) (by simp [hi'])
          have e0 : (0 : Int) + (i : Int) = (i : Int) := Int.zero_add _
          rw [e0]
          refine ⟨rfl, ?_⟩
          refine ⟨_, rfl, _, rfl, _, _, _, _, rfl, rfl, seqT ss hxs, atI_nat e1, _, rfl, _, rfl, _, _, _, _, rfl, rfl, seqT ss hys, atI_nat e2, ?_⟩
          refine hG m rfl _ _ _ _ ⟨v1, v2, ds[i], rfl, d1.keep (KT.same ss), d2.keep (KT.same ss), ho _ (List.getElem_mem hi'), fun H2 s2 => ?_⟩
          refine ⟨_, s2 _ _ hD, (by have := sizeLine_eq; simp; omega), sUpd (sTr ss s2) nD, ?_⟩
          rw [upd_same, List.replicate_succ', List.map_append]
          rfl
        · rintro H' ⟨ss, hD⟩
          refine ⟨D, List.replicate _ true, rfl, SqL.of hD, ?_⟩
          have e : (List.replicate (ys.length : Int).toNat true).all id = true := by simp
          rw [e]
          exact q _ ss
    | list ds => exact (by cases n <;> exact ho.elim)
    | _ => exact (by cases n <;> exact ho.elim)
theorem ok_same (T : Txt K mg a) : ∀ n, FnOk P w K mg base CX0 (n + 1) a.f_law_same a.d_law_same ["actual", "due"] (spSame K n)
  | 0 => ok_same_aux T 0 0 spNever ⟨fun _ _ _ _ h => h.elim, fun _ _ _ _ _ _ _ _ _ _ _ _ _ h => h.elim⟩ fun _ h => nomatch h
  | n + 1 => ok_same_aux T (n + 1) (n + 1) (spSame K n) (ok_same T n) fun m h vs H Q E q => by
    obtain rfl : n = m := Nat.succ.inj h
    exact q
end

/-! ### set(xs), xs a list of ints -/
section
open PySem.Spec PyProof.Rows
variable {P : Program} {w : World} {A : Around} {E : Value → Shared → Prop} {s : Shared}
/-- the empty set as it is laid -/
abbrev e0S (w : World) : Obj := { cls := .type "set", dict := none, data := .set #[] 0 (.fresh 0 0 (!w.params.followText "set-order")) }
abbrev e1S (w : World) (s : Shared) : Shared := { s with heap := s.heap.push (e0S w) }
abbrev OutS (w : World) (ns : List Int) (s : Shared) (h' : Heap) (c : Nat) : Prop := SetR w h' s.heap.objs.size (fun j => decide (j ∈ ns)) c ∧ c ≤ ns.length ∧ ∀ b o, s.heap.get? b = some o → h'.get? b = some o
set_option maxHeartbeats 3200000 in
theorem call_setL {l : Addr} {items : Array Value} (ns : List Int) {Q : Value → Shared → Prop} (hh : A.handled = none) (hl : s.heap.IsList l items) (hi : IntsAre items.toList ns) (hb : ns.length + 1 < scanBound)
    (fin : ∀ (h' : Heap) (tk c : Nat), OutS w ns s h' c → Q (.ref s.heap.objs.size) { s with heap := h', toks := tk }) : wpAny (model P w) A (call (.type "set") [.ref l]) Q E s := by
  have hz : items.size = ns.length := by rw [← IntsAre.length hi] <;> simp
  obtain ⟨c, tl, hmro⟩ := F.called_set.mro; have hmade := F.called_set.made; have hsub := F.called_set.sub
  refine wpAny_call (codeAny_of_tree ?_); show wpAny _ _ (callAny (.type "set") _) _ _ _
  refine wpAny_pure ⟨Code.quiet_builtin _ (by decide +kernel), codeAny_builtin F.entry_type_call ?_⟩; rw [Around.under_plain (weight_type_call_type "set" [.ref l] []) rfl]
  have h1 := F.called_set.notType; have h2 := F.called_set.canCreate; have hct := F.typeCall_set_1 (.ref l)
  repeat (any_goals (first | assumption | wp_step))
  refine codeAny_mono (code_set_led1 (.ref l) (E := E) (Q₁ := fun z s₁ => z = .ref s.heap.objs.size ∧ s₁ = e1S w s) ⟨rfl, rfl⟩) fun r s₁ hr => ?_
  match r, hr with
  | .error e, hr => exact hr
  | .ok .next, hr => exact hr.elim
  | .ok .brk, hr => exact hr.elim
  | .ok .cont, hr => exact hr.elim
  | .ok (.ret z), hr =>
    obtain ⟨rfl, rfl⟩ := hr
    have hS : (e1S w s).heap.get? s.heap.objs.size = some (e0S w) := Heap.get?_push_size _ rfl
    have hT : (e1S w s).TypeIs (.ref s.heap.objs.size) "set" := ⟨_, hS, rfl⟩
    have hli := F.called_set.init.lookup; have hbi := F.called_set.init.bind (.ref s.heap.objs.size)
    repeat (any_goals (first | assumption | wp_step))
    refine codeAny_mono (codeAny_call_builtin (R := wants (fun r s₂ => r = .none ∧ ∃ h' tk c, s₂ = { s with heap := h', toks := tk } ∧ OutS w ns s h' c) E) F.called_set.init.plain F.entry_set_init (check_set_init_1 hT ?_)) fun r₂ s₂ hr₂ => ?_
    · obtain ⟨⟨oc, od, oa, os⟩, hol, hcl, nl, hdl⟩ := hl
      obtain rfl : oc = _ := hcl; obtain rfl : oa = _ := hdl
      have hol' : (e1S w s).heap.get? l = some _ := Heap.get?_push_of_some _ hol
      have q1 := F.sub_list_set; have q2 := F.sub_list_frozenset; have q3 : (Value.type "list" == Value.type "dict") = false := by decide
      have hl1 : (e1S w s).heap.IsList l items := ⟨_, hol', rfl, nl, rfl⟩
      unfold Builtin.«set.__init__» noKeywords Builtin.Frozenset.updateFrom
      generalize hPI : pyIter = PI; wp_walk; subst hPI
      refine wpAny_pyIter_list hl1 ?_; refine wpAny_bind (wpAny_runValue ?_)
      have hlS : l < s.heap.objs.size := Heap.lt_size hol
      have hh3 : A.in1.in1.in1.handled = none := by simp [hh]
      have hz1 : (e1S w s).heap.objs.size = s.heap.objs.size + 1 := Heap.size_push ..
      have hnI : l ≠ (e1S w s).heap.objs.size := by rw [hz1]; exact Nat.ne_of_lt (Nat.lt_succ_of_lt hlS)
      have hnS : s.heap.objs.size ∉ [(e1S w s).heap.objs.size, l] := by rw [hz1]; simp only [List.mem_cons, List.not_mem_nil, or_false, not_or]; exact ⟨Nat.ne_of_lt (Nat.lt_succ_self _), Nat.ne_of_gt hlS⟩
      have hval : ∀ (i : Nat) (v : Value), items[i]? = some v → ∃ k t, ns[i]? = some k ∧ v = .int k t := fun i v hv => by
        obtain ⟨t, e⟩ := IntsAre.int_at hi i v (by simpa using hv)
        have hi' : i < ns.length := by rw [← hz]; exact (Array.getElem?_eq_some_iff.mp hv).1
        exact ⟨ns[i], t, List.getElem?_eq_getElem hi', by rw [e, List.getD_eq_getElem?_getD, List.getElem?_eq_getElem hi'] <;> rfl⟩
      have hget : ((e1S w s).heap.push { cls := .type "list_iterator", data := .fields #[.ref l, .int 0 0] }).get? s.heap.objs.size = some (e0S w) := Heap.get?_push_of_some _ hS
      refine set_update_ints ((Walks.list hh3 _ l hnI items).toS) s.heap.objs.size hnS ns hz hb hval (items.size - 0) 0 _ (by omega) (Nat.zero_le _) ⟨⟨_, Heap.get?_push_size _ rfl, rfl, rfl⟩, hl1.push _⟩ ⟨0, Nat.le_refl 0, setR_new_at hget⟩ fun s' c' hm hc' hS' => ?_
      obtain ⟨h', g2, d', tk', os'⟩ := s'
      obtain rfl : g2 = s.gens := hm.gens; obtain rfl : d' = s.drawn := hm.drawn; obtain rfl : os' = s.os := hm.os
      show wpAny _ _ _ _ _ _
      refine wpAny_pure ?_; show wpAny _ _ (ret Value.none) _ _ _
      rw [hz] at hc'
      refine wpAny_pure ⟨rfl, h', tk', c', rfl, hS', hc', fun b o e => ?_⟩
      have hb0 : b < s.heap.objs.size := Heap.lt_size e
      exact hm.heap b o (by rw [hz1]; simp only [List.mem_cons, List.not_mem_nil, or_false, not_or]; exact ⟨Nat.ne_of_lt hb0, Nat.ne_of_lt (Nat.lt_succ_of_lt hb0)⟩) (Heap.get?_push_of_some _ (Heap.get?_push_of_some _ e))
    · match r₂, hr₂ with
      | .error e, hr₂ => exact hr₂
      | .ok .next, hr₂ => exact hr₂.elim
      | .ok .brk, hr₂ => exact hr₂.elim
      | .ok .cont, hr₂ => exact hr₂.elim
      | .ok (.ret r), hr₂ =>
        obtain ⟨rfl, h', tk, c, rfl, hO⟩ := hr₂
        repeat (any_goals (first | assumption | wp_step))
        exact fin _ _ _ hO
end
section
variable {X : Cx}
def rSetL (K : PySem.W.Frag) (w : World) : List V → Hp → VK → Prop := fun xs H Q => ∃ (l : Addr) (ns : List Int), xs = [.ref l] ∧ SqL K H l (ns.map V.int) ∧ ns.length ≤ 1000 ∧ ∀ p c, H p = none → c ≤ ns.length → Q (.ref p) (upd H p (SetO w p (fun j => decide (j ∈ ns)) c))
theorem cr_setL (hc : X.calm = true) : CallR X (.type "set") (rSetL X.K X.w) := by
  intro pins s σ H xs us Q I r h
  obtain ⟨l, ns, rfl, hl, hn, q⟩ := h
  obtain ⟨its, rv, pl, _⟩ := I.list hl
  rw [Vals.ref1 r]
  refine call_setL ns (I.ok.hd hc) pl.isList (by simpa using ints_of_vals rv) (by unfold scanBound; omega) fun h' tk c ⟨R, hc', k⟩ => ?_
  exact ⟨.ref s.heap.objs.size, _, I.laid (t' := tk) k (Nat.le_refl _) (setO_new R), rfl, q _ c (I.hok.fresh (Nat.le_refl _)) hc'⟩
end

/-! ### the law's rows -/
section
variable {K : PySem.W.Frag} {H H' : Hp}
theorem StP.kt {st sa : Addr} {ns : List Int} (S : StP K H st sa ns) (f : Frm [st] H H') : KT K H H' := fun b ys h => by
  obtain ⟨i, d, n, _, e⟩ := S.at'
  have ne : ∀ {o : HO}, H b = some o → (∀ zs, o ≠ .lst zs) → b ∉ [st] := fun hb hn hm => by
    rw [List.mem_singleton.mp hm, e] at hb
    exact hn _ (Option.some.inj hb).symm
  rcases h with (h | ⟨u, h⟩) | h
  · exact .inl (.inl (f _ _ h (ne h fun _ z => nomatch z)))
  · exact .inl (.inr ⟨u, f _ _ h (ne h fun _ z => nomatch z)⟩)
  · exact .inr h
theorem lay {p : Addr} {vs : List V} {ds : List PyData} (np : H p = none) (h : DTs K H vs ds) : DT K (upd H p (.tup vs)) (.ref p) (.tuple ds) := .tup (SqT.of upd_same) (h.keep (KT.new np))
theorem dts_ints : ∀ (js : List Int), DTs K H (js.map V.int) (js.map .int)
  | [] => .nil
  | j :: r => .cons (.int j) (dts_ints r)
end
theorem sorted_ext : ∀ {xs ys : List Int}, xs.Pairwise (· < ·) → ys.Pairwise (· < ·) → (∀ k, k ∈ xs ↔ k ∈ ys) → xs = ys
  | [], [], _, _, _ => rfl
  | [], y :: _, _, _, h => absurd ((h y).mpr List.mem_cons_self) (by simp)
  | x :: _, [], _, _, h => absurd ((h x).mp List.mem_cons_self) (by simp)
  | x :: xs, y :: ys, hx, hy, h => by
    obtain ⟨a1, a2⟩ := List.pairwise_cons.mp hx
    obtain ⟨b1, b2⟩ := List.pairwise_cons.mp hy
    have e : x = y := by
      have h1 := (h x).mp List.mem_cons_self
      have h2 := (h y).mpr List.mem_cons_self
      rcases List.mem_cons.mp h1 with h1 | h1
      · exact h1
      · rcases List.mem_cons.mp h2 with h2 | h2
        · exact h2.symm
        · have := b1 x h1
          have := a1 y h2
          omega
    subst e
    rw [sorted_ext a2 b2 fun k => ?_]
    constructor
    · intro hk
      rcases List.mem_cons.mp ((h k).mp (List.mem_cons_of_mem _ hk)) with e | e
      · have := a1 k hk; omega
      · exact e
    · intro hk
      rcases List.mem_cons.mp ((h k).mpr (List.mem_cons_of_mem _ hk)) with e | e
      · have := b1 k hk; omega
      · exact e
theorem pair_sorted {t b : Int} {ns : List Int} (h : ns.Pairwise (· < ·)) (m : ∀ k, k ∈ ns ↔ decide (k ∈ [t, b]) = true) : (t ≠ b → ns = [mn t b, mx t b]) ∧ (t = b → ns = [b]) := by
  refine ⟨fun e => sorted_ext h (List.pairwise_cons.mpr ⟨?_, List.pairwise_singleton _ _⟩) fun k => ?_, fun e => sorted_ext h (List.pairwise_singleton _ _) fun k => ?_⟩
  · intro y hy
    rw [List.mem_singleton.mp hy]
    unfold mn mx
    split <;> split <;> omega
  · rw [m k]
    simp only [decide_eq_true_eq, List.mem_cons, List.not_mem_nil, or_false]
    unfold mn mx
    split <;> split <;> omega
  · rw [m k]
    simp only [decide_eq_true_eq, List.mem_cons, List.not_mem_nil, or_false]
    omega
def spOperL (K : PySem.W.Frag) : Sp := fun vs H Q _ => ∃ (st sa : Addr) (ns : List Int), vs = [.ref st] ∧ StP K H st sa ns ∧ ∀ (u : V) (g : Op) (H' : Hp), DT K H' u (opD g) → StP K H' st sa ns → Frm [st] H H' → Q u H'
def spTargL (K : PySem.W.Frag) : Sp := fun vs H Q _ => ∃ (st sa : Addr) (ns : List Int) (ix : Int), vs = [.ref st, .int ix] ∧ StP K H st sa ns ∧ ∀ (v : Int) (H' : Hp), StP K H' st sa ns → Frm [st] H H' → Q (.int v) H'
structure RowOk (K : PySem.W.Frag) (H : Hp) (nm : Str) (ix : Int) (i g w b : V) (ds : List PyData) (gs : List Op) (ws bs : List Int) : Prop where
  i : DT K H i (.tuple (.str nm :: ds))
  g : DT K H g (.tuple (gs.map opD))
  w : DT K H w (.tuple (ws.map .int))
  b : DT K H b (.tuple (bs.map .int))
  og : OpsOk nm (.str nm :: ds) (gs.map opD)
  ow : WrOk nm (.str nm :: ds) (ws.map .int)
  ob : FoOk nm (.str nm :: ds) ix (bs.map .int)
  ld : ds.length ≤ 100
  lg : gs.length ≤ 100
  lw : ws.length ≤ 100
  lb : bs.length ≤ 100
theorem RowOk.keep {K : PySem.W.Frag} {H H' : Hp} {nm : Str} {ix : Int} {i g w b : V} {ds : List PyData} {gs : List Op} {ws bs : List Int} (k : KT K H H') (R : RowOk K H nm ix i g w b ds gs ws bs) : RowOk K H' nm ix i g w b ds gs ws bs :=
  ⟨R.i.keep k, R.g.keep k, R.w.keep k, R.b.keep k, R.og, R.ow, R.ob, R.ld, R.lg, R.lw, R.lb⟩
def spRowL (K : PySem.W.Frag) (names : List Str) : Sp := fun vs H Q _ => ∃ (st sa : Addr) (ns : List Int) (nm : Str) (ix : Int), vs = [.ref st, .str nm, .int ix] ∧ StP K H st sa ns ∧ nm ∈ names ∧ ∀ (p : Addr) (i g w b : V) (ds : List PyData) (gs : List Op) (ws bs : List Int) (H' : Hp), H' p = some (.lst [i, g, w, b]) → RowOk K H' nm ix i g w b ds gs ws bs → StP K H' st sa ns → Frm [st] H H' → Q (.ref p) H'
def nP : List Str := ["tick", "jump", "branch", "return", "raise", "again", "put"]
def nA : List Str := ["add", "sub", "mul", "div", "mod", "rem"]
def nR : List Str := ["tick", "move", "neg", "abs", "add", "sub", "mul", "div", "mod", "rem", "less", "equal", "check", "load", "store", "jump", "branch", "call", "return", "raise", "again", "put", "get"]
/-- four tuples laid one after the other, then the list of them -/
theorem row_fin {K : PySem.W.Frag} {H H1 : Hp} {st sa : Addr} {ns : List Int} {nm : Str} {ix : Int} {p1 p2 p3 p4 l : Addr} {v1 v2 v3 v4 : List V} {Q : VK} {ds : List PyData} {gs : List Op} {ws bs : List Int}
    (S : StP K H1 st sa ns) (f : Frm [st] H H1) (n1 : H1 p1 = none) (n2 : upd H1 p1 (.tup v1) p2 = none) (n3 : upd (upd H1 p1 (.tup v1)) p2 (.tup v2) p3 = none) (n4 : upd (upd (upd H1 p1 (.tup v1)) p2 (.tup v2)) p3 (.tup v3) p4 = none)
    (nl : upd (upd (upd (upd H1 p1 (.tup v1)) p2 (.tup v2)) p3 (.tup v3)) p4 (.tup v4) l = none)
    (d1 : DTs K H1 v1 (.str nm :: ds)) (d2 : DTs K H1 v2 (gs.map opD)) (d3 : DTs K H1 v3 (ws.map .int)) (d4 : DTs K H1 v4 (bs.map .int))
    (og : OpsOk nm (.str nm :: ds) (gs.map opD)) (ow : WrOk nm (.str nm :: ds) (ws.map .int)) (ob : FoOk nm (.str nm :: ds) ix (bs.map .int)) (ld : ds.length ≤ 100) (lg : gs.length ≤ 100) (lw : ws.length ≤ 100) (lb : bs.length ≤ 100)
    (q : ∀ (p : Addr) (i g w b : V) (ds : List PyData) (gs : List Op) (ws bs : List Int) (H' : Hp), H' p = some (.lst [i, g, w, b]) → RowOk K H' nm ix i g w b ds gs ws bs → StP K H' st sa ns → Frm [st] H H' → Q (.ref p) H') :
    Q (.ref l) (upd (upd (upd (upd (upd H1 p1 (.tup v1)) p2 (.tup v2)) p3 (.tup v3)) p4 (.tup v4)) l (.lst [.ref p1, .ref p2, .ref p3, .ref p4])) := by
  have k1 : KT K H1 _ := KT.new (o := .tup v1) n1
  have k2 : KT K _ _ := KT.new (K := K) (o := .tup v2) n2
  have k3 : KT K _ _ := KT.new (K := K) (o := .tup v3) n3
  have k4 : KT K _ _ := KT.new (K := K) (o := .tup v4) n4
  have k5 : KT K _ _ := KT.new (K := K) (o := .lst [.ref p1, .ref p2, .ref p3, .ref p4]) nl
  refine q _ _ _ _ _ ds gs ws bs _ upd_same ⟨?_, ?_, ?_, ?_, og, ow, ob, ld, lg, lw, lb⟩ ?_ ?_
  · exact (lay n1 d1).keep (k2.tr (k3.tr (k4.tr k5)))
  · exact (lay n2 (d2.keep k1)).keep (k3.tr (k4.tr k5))
  · exact (lay n3 (d3.keep (k1.tr k2))).keep (k4.tr k5)
  · exact (lay n4 (d4.keep (k1.tr (k2.tr k3)))).keep k5
  · exact S.same (sN (sN (sN (sN (sN (Same.refl _) n1) n2) n3) n4) nl)
  · exact ((((f.new n1).new n2).new n3).new n4).new nl
section
variable {P : Program} {w : World} {K : PySem.W.Frag} {mg : Str → Option Value} {base : Heap} {a : Ad}
theorem ok_law_operand (T : Txt K mg a) : FnOk P w K mg base CX0 2 a.f_law_operand a.d_law_operand ["state"] (spOperL K) := by
  have G_law_pick : FnOk P w K mg base CX0 1 _ _ _ _ := ok_law_pick T
  refine T.F__law_operand.ok sc_law_operand (fun vs H Q E h => ?_) (fun cdv A outer s H vs Q E hr h => ?_)
  · obtain ⟨_, _, _, rfl, _⟩ := h; rfl
  · obtain ⟨st, sa, ns, rfl, S, q⟩ := h
    refine ⟨_, (pss_cons (ps_set (i := 1) sc_law_operand.nd rfl (Or.inl rfl) (pe_call G_law_pick (hr.mono (by decide)) rfl T.g__law_pick T.k__law_pick T.bd__law_pick .nil pass0 (pa_cons (pv 0) (pa_cons pe_int pa_nil))))
      (pss_cons (ps_if (pt_cmpR op_eq (pv 1) pe_int (nomark _)) (pss_one (ps_ret (pe_tup (pa_cons pe_str (pa_cons (pe_op op_sub (pe_call G_law_pick (hr.mono (by decide)) rfl T.g__law_pick T.k__law_pick T.bd__law_pick .nil pass0 (pa_cons (pv 0) (pa_cons pe_int pa_nil))) pe_int) pa_nil))))) pss_nil)
      (pss_cons (ps_if (pt_cmpR op_eq (pv 1) pe_int (nomark _)) (pss_one (ps_ret (pe_tup (pa_cons pe_str (pa_cons (pe_call G_law_pick (hr.mono (by decide)) rfl T.g__law_pick T.k__law_pick T.bd__law_pick .nil pass0 (pa_cons (pv 0) (pa_cons pe_int pa_nil))) pa_nil))))) pss_nil)
      (pss_one (ps_ret (pe_tup (pa_cons pe_str (pa_cons (pe_call G_law_pick (hr.mono (by decide)) rfl T.g__law_pick T.k__law_pick T.bd__law_pick .nil pass0 (pa_cons (pv 0) (pa_cons pe_int pa_nil))) pa_nil)))))))), ?_⟩
    refine ⟨_, rfl, st, sa, ns, 4, rfl, S, by decide, by decide, fun v H1 v0 v1 S1 f1 => ?_⟩
    have fin : ∀ {z : Str} {n : Int} {H2 : Hp} {p : Addr}, StP K H2 st sa ns → Frm [st] H1 H2 → H2 p = none → Q (.ref p) (upd H2 p (.tup [.str z, .int n])) := fun {z n H2 p} S2 f2 np =>
      q _ (z, n) _ (lay np (.cons (.str z) (.cons (.int n) .nil))) (S2.same (sN (Same.refl _) np)) ((f1.trans f2).new np)
    refine ⟨_, rfl, rfl, _, rfl, ite3 (fun c => ?_) (fun c => ?_)⟩
    · exact ⟨_, rfl, st, sa, ns, 4294967296, rfl, S1, by decide, by decide, fun v H2 v0 v1 S2 f2 => ⟨_, _, rfl, rfl, (by show 2 ≤ sizeLine; decide), fun p np => fin S2 f2 np⟩⟩
    refine ⟨_, rfl, rfl, _, rfl, ite3 (fun c => ?_) (fun c => ?_)⟩
    · exact ⟨_, rfl, st, sa, ns, 5, rfl, S1, by decide, by decide, fun v H2 v0 v1 S2 f2 => ⟨(by show 2 ≤ sizeLine; decide), fun p np => fin S2 f2 np⟩⟩
    · exact ⟨_, rfl, st, sa, ns, 5, rfl, S1, by decide, by decide, fun v H2 v0 v1 S2 f2 => ⟨(by show 2 ≤ sizeLine; decide), fun p np => fin S2 f2 np⟩⟩
theorem ok_law_target (T : Txt K mg a) : FnOk P w K mg base CX0 2 a.f_law_target a.d_law_target ["state", "index"] (spTargL K) := by
  have G_law_pick : FnOk P w K mg base CX0 1 _ _ _ _ := ok_law_pick T
  refine T.F__law_target.ok sc_law_target (fun vs H Q E h => ?_) (fun cdv A outer s H vs Q E hr h => ?_)
  · obtain ⟨_, _, _, _, rfl, _⟩ := h; rfl
  · obtain ⟨st, sa, ns, ix, rfl, S, q⟩ := h
    refine ⟨_, (pss_cons (ps_set (i := 2) sc_law_target.nd rfl (Or.inl rfl) (pe_call G_law_pick (hr.mono (by decide)) rfl T.g__law_pick T.k__law_pick T.bd__law_pick .nil pass0 (pa_cons (pv 0) (pa_cons pe_int pa_nil))))
      (pss_cons (ps_if (pt_cmpR op_eq (pv 2) pe_int (nomark _)) (pss_one (ps_ret (pe_op op_add (pv 1) pe_int))) pss_nil)
      (pss_cons (ps_if (pt_cmpR op_eq (pv 2) pe_int (nomark _)) (pss_one (ps_ret (pv 1))) pss_nil)
      (pss_one (ps_ret (pe_call G_law_pick (hr.mono (by decide)) rfl T.g__law_pick T.k__law_pick T.bd__law_pick .nil pass0 (pa_cons (pv 0) (pa_cons pe_int pa_nil)))))))), ?_⟩
    refine ⟨_, rfl, st, sa, ns, 3, rfl, S, by decide, by decide, fun v H1 v0 v1 S1 f1 => ?_⟩
    refine ⟨_, rfl, rfl, _, rfl, ite3 (fun c => ?_) (fun c => ?_)⟩
    · exact ⟨_, rfl, _, _, rfl, rfl, q _ _ S1 f1⟩
    refine ⟨_, rfl, rfl, _, rfl, ite3 (fun c => ?_) (fun c => ?_)⟩
    · exact ⟨_, rfl, q _ _ S1 f1⟩
    · exact ⟨_, rfl, st, sa, ns, 60, rfl, S1, by decide, by decide, fun v H2 v0 v1 S2 f2 => q _ _ S2 (f1.trans f2)⟩
theorem ok_law_plain_row (T : Txt K mg a) : FnOk P w K mg base CX0 3 a.f_law_plain_row a.d_law_plain_row ["state", "name", "index"] (spRowL K nP) := by
  have G_law_pick : FnOk P w K mg base CX0 1 _ _ _ _ := ok_law_pick T
  have G_law_operand : FnOk P w K mg base CX0 2 _ _ _ _ := ok_law_operand T
  have G_law_target : FnOk P w K mg base CX0 2 _ _ _ _ := ok_law_target T
  refine T.F__law_plain_row.ok sc_law_plain_row (fun vs H Q E h => ?_) (fun cdv A outer s H vs Q E hr h => ?_)
  · obtain ⟨_, _, _, _, _, rfl, _⟩ := h; rfl
  · obtain ⟨st, sa, ns, nm, ix, rfl, S, hm, q⟩ := h
    have hz := sizeLine_eq
    refine ⟨_, (pss_cons (ps_set (i := 3) sc_law_plain_row.nd rfl (Or.inl rfl) (pe_call G_law_operand (hr.mono (by decide)) rfl T.g__law_operand T.k__law_operand T.bd__law_operand .nil pass0 (pa_cons (pv 0) pa_nil)))
      (pss_cons (ps_if (pt_cmpR op_eq (pv 1) pe_str (nomark _)) (pss_one (ps_ret (pe_lst (pa_cons (pe_tup (pa_cons pe_str pa_nil)) (pa_cons (pe_tup pa_nil) (pa_cons (pe_tup pa_nil) (pa_cons (pe_tup (pa_cons (pe_op op_add (pv 2) pe_int) pa_nil)) pa_nil))))))) pss_nil)
      (pss_cons (ps_if (pt_cmpR op_eq (pv 1) pe_str (nomark _)) (pss_cons (ps_set (i := 4) sc_law_plain_row.nd rfl (Or.inl rfl) (pe_call G_law_target (hr.mono (by decide)) rfl T.g__law_target T.k__law_target T.bd__law_target .nil pass0 (pa_cons (pv 0) (pa_cons (pv 2) pa_nil))))
      (pss_one (ps_ret (pe_lst (pa_cons (pe_tup (pa_cons pe_str (pa_cons (pv 4) pa_nil))) (pa_cons (pe_tup pa_nil) (pa_cons (pe_tup pa_nil) (pa_cons (pe_tup (pa_cons (pv 4) pa_nil)) pa_nil)))))))) pss_nil)
      (pss_cons (ps_if (pt_cmpR op_eq (pv 1) pe_str (nomark _)) (pss_cons (ps_set (i := 4) sc_law_plain_row.nd rfl (Or.inl rfl) (pe_call G_law_target (hr.mono (by decide)) rfl T.g__law_target T.k__law_target T.bd__law_target .nil pass0 (pa_cons (pv 0) (pa_cons (pv 2) pa_nil))))
      (pss_one (ps_ret (pe_lst (pa_cons (pe_tup (pa_cons pe_str (pa_cons (pv 3) (pa_cons (pv 4) pa_nil)))) (pa_cons (pe_tup (pa_cons (pv 3) pa_nil)) (pa_cons (pe_tup pa_nil) (pa_cons (pe_callTy call_tuple_of (by rfl) T.b_tuple (by decide +kernel) (pa_cons (pe_callB (cr_sortedSet rfl) (by rfl) T.b_sorted (by decide +kernel) (pa_cons (pe_callTy (cr_setL rfl) (by rfl) T.b_set (by decide +kernel) (pa_cons (pe_lst (pa_cons (pv 4) (pa_cons (pe_op op_add (pv 2) pe_int) pa_nil))) pa_nil)) pa_nil)) pa_nil)) pa_nil)))))))) pss_nil)
      (pss_cons (ps_if (pt_cmpR op_eq (pv 1) pe_str (nomark _)) (pss_cons (ps_set (i := 5) sc_law_plain_row.nd rfl (Or.inl rfl) (pe_callTy call_tuple_of (by rfl) T.b_tuple (by decide +kernel) (pa_cons (pe_lc (own := [("k", 6)]) (g := gName 6) rfl sc_law_plain_row.nd (pi_range1 rfl T.b_range (pa_cons (pe_call G_law_pick (hr.mono (by decide)) rfl T.g__law_pick T.k__law_pick T.bd__law_pick .nil pass0 (pa_cons (pv 0) (pa_cons pe_int pa_nil))) pa_nil)) (blkOk_by (own := [("k", 6)]) (N := ["state", "name", "index", "x", "target", "values", "k", "y"]) (sc := defScope s_law_plain_row) (by decide +kernel)) (fun _ _ _ _ _ => pg_name (i := 6) sc_law_plain_row.nd rfl (Or.inl rfl)) (fun _ _ _ _ _ => pts_nil) (fun _ _ _ _ _ => (pe_call G_law_operand (hr.mono (by decide)) rfl T.g__law_operand T.k__law_operand T.bd__law_operand .nil pass0 (pa_cons (pv 0) pa_nil)))) pa_nil)))
      (pss_one (ps_ret (pe_lst (pa_cons (pe_tup (pa_cons pe_str (pa_cons (pv 5) pa_nil))) (pa_cons (pv 5) (pa_cons (pe_tup pa_nil) (pa_cons (pe_tup pa_nil) pa_nil)))))))) pss_nil)
      (pss_cons (ps_if (pt_cmpR op_eq (pv 1) pe_str (nomark _)) (pss_one (ps_ret (pe_lst (pa_cons (pe_tup (pa_cons pe_str (pa_cons (pe_call G_law_pick (hr.mono (by decide)) rfl T.g__law_pick T.k__law_pick T.bd__law_pick .nil pass0 (pa_cons (pv 0) (pa_cons pe_int pa_nil))) (pa_cons (pe_call G_law_pick (hr.mono (by decide)) rfl T.g__law_pick T.k__law_pick T.bd__law_pick .nil pass0 (pa_cons (pv 0) (pa_cons pe_int pa_nil))) pa_nil)))) (pa_cons (pe_tup pa_nil) (pa_cons (pe_tup pa_nil) (pa_cons (pe_tup pa_nil) pa_nil))))))) pss_nil)
      (pss_cons (ps_if (pt_cmpR op_eq (pv 1) pe_str (nomark _)) (pss_cons (ps_set (i := 7) sc_law_plain_row.nd rfl (Or.inl rfl) (pe_call G_law_operand (hr.mono (by decide)) rfl T.g__law_operand T.k__law_operand T.bd__law_operand .nil pass0 (pa_cons (pv 0) pa_nil)))
      (pss_one (ps_ret (pe_lst (pa_cons (pe_tup (pa_cons pe_str (pa_cons (pv 3) (pa_cons (pv 7) pa_nil)))) (pa_cons (pe_tup (pa_cons (pv 3) (pa_cons (pv 7) pa_nil))) (pa_cons (pe_tup pa_nil) (pa_cons (pe_tup pa_nil) pa_nil)))))))) pss_nil)
      (pss_one (ps_ret (pe_lst (pa_cons (pe_tup (pa_cons pe_str (pa_cons (pv 3) pa_nil))) (pa_cons (pe_tup (pa_cons (pv 3) pa_nil)) (pa_cons (pe_tup pa_nil) (pa_cons (pe_tup (pa_cons (pe_op op_add (pv 2) pe_int) pa_nil)) pa_nil)))))))))))))), ?_⟩
    refine ⟨_, rfl, st, sa, ns, rfl, S, fun x gx H1 dx S1 f1 => ?_⟩
    refine ⟨_, rfl, rfl, _, rfl, ite3 (fun c => ?_) (fun c1 => ?_)⟩
    · cases str_dec c
      refine ⟨(by show 1 ≤ sizeLine; decide), fun p1 n1 => ⟨by decide, fun p2 n2 => ⟨by decide, fun p3 n3 => ⟨_, rfl, _, _, rfl, rfl, (by show 1 ≤ sizeLine; decide), fun p4 n4 => ⟨(by show 4 ≤ sizeLine; decide), fun l nl => ?_⟩⟩⟩⟩⟩
      exact row_fin (ds := []) (gs := []) (ws := []) (bs := [ix + 1]) S1 f1 n1 n2 n3 n4 nl (.cons (.str _) .nil) .nil .nil (.cons (.int _) .nil) (.inr (.inr ⟨by decide +kernel, by decide +kernel, rfl⟩)) (.inr (.inr ⟨by decide +kernel, by decide +kernel, rfl⟩)) (.inr (.inr (.inr (.inr ⟨by decide +kernel, by decide +kernel, by decide +kernel, rfl⟩)))) (by decide) (by decide) (by decide) (by show 1 ≤ 100; decide) q
    refine ⟨_, rfl, rfl, _, rfl, ite3 (fun c => ?_) (fun c2 => ?_)⟩
    · cases str_dec c
      refine ⟨_, rfl, _, rfl, st, sa, ns, ix, rfl, S1, fun t H2 S2 f2 => ?_⟩
      refine ⟨_, rfl, (by show 2 ≤ sizeLine; decide), fun p1 n1 => ⟨by decide, fun p2 n2 => ⟨by decide, fun p3 n3 => ⟨_, rfl, (by show 1 ≤ sizeLine; decide), fun p4 n4 => ⟨(by show 4 ≤ sizeLine; decide), fun l nl => ?_⟩⟩⟩⟩⟩
      exact row_fin (ds := [.int t]) (gs := []) (ws := []) (bs := [t]) S2 (f1.trans f2) n1 n2 n3 n4 nl (.cons (.str _) (.cons (.int _) .nil)) .nil .nil (.cons (.int _) .nil) (.inr (.inr ⟨by decide +kernel, by decide +kernel, rfl⟩)) (.inr (.inr ⟨by decide +kernel, by decide +kernel, rfl⟩)) (.inr (.inl ⟨by decide +kernel, rfl, t, rfl, rfl⟩)) (by show 1 ≤ 100; decide) (by decide) (by decide) (by show 1 ≤ 100; decide) q
    refine ⟨_, rfl, rfl, _, rfl, ite3 (fun c => ?_) (fun c3 => ?_)⟩
    · cases str_dec c
      refine ⟨_, rfl, _, rfl, st, sa, ns, ix, rfl, S1, fun t H2 S2 f2 => ?_⟩
      have dx2 := dx.keep (S1.kt f2)
      refine ⟨_, rfl, _, rfl, (by show 3 ≤ sizeLine; decide), fun p1 n1 => ⟨_, rfl, (by show 1 ≤ sizeLine; decide), fun p2 n2 => ⟨by decide, fun p3 n3 => ?_⟩⟩⟩
      refine ⟨_, rfl, _, rfl, _, _, rfl, rfl, (by show 2 ≤ sizeLine; decide), fun l1 m1 => ⟨l1, [t, ix + 1], rfl, SqL.of upd_same, (by show 2 ≤ 1000; decide), fun l2 k m2 hk => ⟨l2, _, k, rfl, upd_same, (by simp at hk; omega), fun js l3 j1 j2 j3 m3 => ⟨l3, js.map V.int, rfl, .inl ⟨SqL.of upd_same, fun p4 m4 => ⟨(by show 4 ≤ sizeLine; decide), fun l nl => ?_⟩⟩⟩⟩⟩⟩
      obtain ⟨g1, g2⟩ := pair_sorted j1 j2
      have k1 : KT K H2 _ := KT.new (o := .tup [.str "branch", x, .int t]) n1
      have k2 : KT K _ _ := KT.new (K := K) (o := .tup [x]) n2
      have k3 : KT K _ _ := KT.new (K := K) (o := .tup []) n3
      have k4 : KT K _ _ := KT.new (K := K) (o := .lst [.int t, .int (ix + 1)]) m1
      have k5 : KT K _ _ := KT.new (K := K) (o := SetO w l2 (fun j => decide (j ∈ [t, ix + 1])) k) m2
      have k6 : KT K _ _ := KT.new (K := K) (o := .lst (js.map V.int)) m3
      have k7 : KT K _ _ := KT.new (K := K) (o := .tup (js.map V.int)) m4
      have k8 : KT K _ _ := KT.new (K := K) (o := .lst [.ref p1, .ref p2, .ref p3, .ref p4]) nl
      refine q _ _ _ _ _ [opD gx, .int t] [gx] [] js _ upd_same ⟨?_, ?_, ?_, ?_, .inr (.inr ⟨by decide +kernel, by decide +kernel, rfl⟩), .inr (.inr ⟨by decide +kernel, by decide +kernel, rfl⟩), ?_, by show 2 ≤ 100; decide, by show 1 ≤ 100; decide, by decide, by simp at hk; omega⟩ ?_ ?_
      · exact (lay n1 (.cons (.str _) (.cons dx2 (.cons (.int _) .nil)))).keep (k2.tr (k3.tr (k4.tr (k5.tr (k6.tr (k7.tr k8))))))
      · exact (lay n2 (.cons (dx2.keep k1) .nil)).keep (k3.tr (k4.tr (k5.tr (k6.tr (k7.tr k8)))))
      · exact (lay n3 .nil).keep (k4.tr (k5.tr (k6.tr (k7.tr k8))))
      · exact (lay m4 (dts_ints js)).keep k8
      · by_cases e : t = ix + 1
        · rw [g2 e]
          exact .inr (.inr (.inr (.inl ⟨by decide +kernel, by decide +kernel, rfl, t, rfl, e, rfl⟩)))
        · rw [g1 e]
          exact .inr (.inr (.inl ⟨by decide +kernel, by decide +kernel, rfl, t, rfl, e, rfl⟩))
      · exact S2.same (sN (sN (sN (sN (sN (sN (sN (sN (Same.refl _) n1) n2) n3) m1) m2) m3) m4) nl)
      · exact ((((((((f1.trans f2).new n1).new n2).new n3).new m1).new m2).new m3).new m4).new nl
    refine ⟨_, rfl, rfl, _, rfl, ite3 (fun c => ?_) (fun c4 => ?_)⟩
    · cases str_dec c
      refine ⟨_, rfl, st, sa, ns, 7, rfl, S1, by decide, by decide, fun v H2 v0 v1 S2 f2 => ⟨_, rfl, by omega, by omega, fun D nD => ?_⟩⟩
      have f12 := f1.trans f2
      refine lc_range (lo := 0) (n := v.toNat) (fun i H' => ∃ us gs, H' D = some (.lst us) ∧ DTs K H' us (gs.map opD) ∧ gs.length = i ∧ StP K H' st sa ns ∧ Frm [st] H H') ⟨[], [], upd_same, .nil, rfl, S2.same (sN (Same.refl _) nD), f12.new nD⟩ ?_ ?_
      · rintro i H' hi ⟨us, gs, hD, hus, hgl, S3, f3⟩
        have hul := hus.len
        have hDs : D ∉ [st] := fun e => by
          obtain ⟨_, _, _, _, e1⟩ := S2.at'
          rw [List.mem_singleton.mp e, e1] at nD; cases nD
        refine ⟨rfl, ?_⟩
        refine ⟨_, rfl, st, sa, ns, rfl, S3, fun u g H4 du S4 f4 => ?_⟩
        have hD4 := f4 _ _ hD hDs
        have nD0 : ∀ b o, H b = some o → b ∉ [st] → b ≠ D := fun b o e n => ne_of_none (f12 b o e n) nD
        refine ⟨us, hD4, (by simp at hul; omega), us ++ [u], gs ++ [g], upd_same, ?_, by simp [hgl], ?_, fun b o e n => ?_⟩
        · rw [List.map_append]
          exact ((hus.keep (S3.kt f4)).app (.cons du .nil)).keep (KT.put hD4)
        · exact S4.frm (S := [D]) (fun b o e n => by rw [upd_ne (fun z => n (by rw [z]; exact List.mem_cons_self))]; exact e) (fun e => hDs (by rw [List.mem_singleton.mp e]; exact List.mem_cons_self)) (fun b hb => by
            rw [List.mem_singleton.mp hb]
            exact apt_new S2.sq nD)
        · rw [upd_ne (nD0 b o e n)]
          exact f4 _ _ (f3 b o e n) n
      · rintro H' ⟨us, gs, hD, hus, hgl, S3, f3⟩
        refine ⟨D, us, rfl, .inl ⟨SqL.of hD, fun pv npv => ?_⟩⟩
        have hv := lay npv hus
        have S4 := S3.same (sN (Same.refl _) npv) (H' := upd H' pv (.tup us))
        have f4 := f3.new npv (o := .tup us)
        refine ⟨_, rfl, (by show 2 ≤ sizeLine; decide), fun p1 n1 => ⟨_, rfl, by decide, fun p3 n3 => ⟨by decide, fun p4 n4 => ⟨(by show 4 ≤ sizeLine; decide), fun l nl => ?_⟩⟩⟩⟩
        have k1 : KT K _ _ := KT.new (K := K) (o := .tup [.str "return", .ref pv]) n1
        have k3 : KT K _ _ := KT.new (K := K) (o := .tup []) n3
        have k4 : KT K _ _ := KT.new (K := K) (o := .tup []) n4
        have k5 : KT K _ _ := KT.new (K := K) (o := .lst [.ref p1, .ref pv, .ref p3, .ref p4]) nl
        refine q _ _ _ _ _ [.tuple (gs.map opD)] gs [] [] _ upd_same ⟨?_, ?_, ?_, ?_, .inr (.inl ⟨rfl, rfl⟩), .inr (.inr ⟨by decide +kernel, by decide +kernel, rfl⟩), .inl ⟨by decide +kernel, rfl⟩, by show 1 ≤ 100; decide, by omega, by decide, by decide⟩ ?_ ?_
        · exact (lay n1 (.cons (.str _) (.cons hv .nil))).keep (k3.tr (k4.tr k5))
        · exact hv.keep (k1.tr (k3.tr (k4.tr k5)))
        · exact (lay n3 .nil).keep (k4.tr k5)
        · exact (lay n4 .nil).keep k5
        · exact S4.same (sN (sN (sN (sN (Same.refl _) n1) n3) n4) nl)
        · exact (((f4.new n1).new n3).new n4).new nl
    refine ⟨_, rfl, rfl, _, rfl, ite3 (fun c => ?_) (fun c5 => ?_)⟩
    · cases str_dec c
      refine ⟨_, rfl, st, sa, ns, 9, rfl, S1, by decide, by decide, fun v H2 v0 v1 S2 f2 => ⟨_, rfl, st, sa, ns, 9, rfl, S2, by decide, by decide, fun u H3 u0 u1 S3 f3 => ?_⟩⟩
      refine ⟨(by show 3 ≤ sizeLine; decide), fun p1 n1 => ⟨by decide, fun p2 n2 => ⟨by decide, fun p3 n3 => ⟨by decide, fun p4 n4 => ⟨(by show 4 ≤ sizeLine; decide), fun l nl => ?_⟩⟩⟩⟩⟩
      exact row_fin (ds := [.int v, .int u]) (gs := []) (ws := []) (bs := []) S3 ((f1.trans f2).trans f3) n1 n2 n3 n4 nl (.cons (.str _) (.cons (.int _) (.cons (.int _) .nil))) .nil .nil .nil (.inr (.inr ⟨by decide +kernel, by decide +kernel, rfl⟩)) (.inr (.inr ⟨by decide +kernel, by decide +kernel, rfl⟩)) (.inl ⟨by decide +kernel, rfl⟩) (by show 2 ≤ 100; decide) (by decide) (by decide) (by decide) q
    refine ⟨_, rfl, rfl, _, rfl, ite3 (fun c => ?_) (fun c6 => ?_)⟩
    · cases str_dec c
      refine ⟨_, rfl, st, sa, ns, rfl, S1, fun y gy H2 dy S2 f2 => ?_⟩
      have dx2 := dx.keep (S1.kt f2)
      refine ⟨_, rfl, _, rfl, (by show 3 ≤ sizeLine; decide), fun p1 n1 => ⟨_, rfl, _, rfl, (by show 2 ≤ sizeLine; decide), fun p2 n2 => ⟨by decide, fun p3 n3 => ⟨by decide, fun p4 n4 => ⟨(by show 4 ≤ sizeLine; decide), fun l nl => ?_⟩⟩⟩⟩⟩
      exact row_fin (ds := [opD gx, opD gy]) (gs := [gx, gy]) (ws := []) (bs := []) S2 (f1.trans f2) n1 n2 n3 n4 nl (.cons (.str _) (.cons dx2 (.cons dy .nil))) (.cons dx2 (.cons dy .nil)) .nil .nil (.inr (.inr ⟨by decide +kernel, by decide +kernel, rfl⟩)) (.inr (.inr ⟨by decide +kernel, by decide +kernel, rfl⟩)) (.inl ⟨by decide +kernel, rfl⟩) (by show 2 ≤ 100; decide) (by show 2 ≤ 100; decide) (by decide) (by decide) q
    · have e : nm = "put" := by
        simp only [nP, List.mem_cons, List.not_mem_nil, or_false] at hm
        rcases hm with e | e | e | e | e | e | e
        · exact absurd e (str_dec' c1)
        · exact absurd e (str_dec' c2)
        · exact absurd e (str_dec' c3)
        · exact absurd e (str_dec' c4)
        · exact absurd e (str_dec' c5)
        · exact absurd e (str_dec' c6)
        · exact e
      subst e
      refine ⟨_, rfl, (by show 2 ≤ sizeLine; decide), fun p1 n1 => ⟨_, rfl, (by show 1 ≤ sizeLine; decide), fun p2 n2 => ⟨by decide, fun p3 n3 => ⟨_, rfl, _, _, rfl, rfl, (by show 1 ≤ sizeLine; decide), fun p4 n4 => ⟨(by show 4 ≤ sizeLine; decide), fun l nl => ?_⟩⟩⟩⟩⟩
      exact row_fin (ds := [opD gx]) (gs := [gx]) (ws := []) (bs := [ix + 1]) S1 f1 n1 n2 n3 n4 nl (.cons (.str _) (.cons dx .nil)) (.cons dx .nil) .nil (.cons (.int _) .nil) (.inr (.inr ⟨by decide +kernel, by decide +kernel, rfl⟩)) (.inr (.inr ⟨by decide +kernel, by decide +kernel, rfl⟩)) (.inr (.inr (.inr (.inr ⟨by decide +kernel, by decide +kernel, by decide +kernel, rfl⟩)))) (by show 1 ≤ 100; decide) (by show 1 ≤ 100; decide) (by decide) (by show 1 ≤ 100; decide) q
end

/-! ### the rows of the other names, the regions, the law -/
theorem opsF {nm : Str} {D gs : List PyData} (h : nm ≠ "call" ∧ nm ≠ "return") (e : gs = D.filter isTup) : OpsOk nm D gs := .inr (.inr ⟨h.1, h.2, e⟩)
theorem nA_ok : ∀ nm ∈ nA, (nm ≠ "call" ∧ nm ≠ "return") ∧ inV (.str nm) wrs = true ∧ inV (.str nm) lvs = false ∧ nm ≠ "jump" ∧ nm ≠ "branch" := by decide +kernel
theorem n2_ok : ∀ nm ∈ (["neg", "abs", "less", "equal"] : List Str), (nm ≠ "call" ∧ nm ≠ "return") ∧ inV (.str nm) wrs = true ∧ inV (.str nm) lvs = false ∧ nm ≠ "jump" ∧ nm ≠ "branch" := by decide +kernel
def spRegsL (K : PySem.W.Frag) : Sp := fun vs H Q _ => ∃ (st sa : Addr) (ns : List Int), vs = [.ref st] ∧ StP K H st sa ns ∧ ∀ (u : V) (rs : List (List Int)) (H' : Hp), DT K H' u (.tuple (rs.map regD)) → (∀ r ∈ rs, r.length = 5) → StP K H' st sa ns → Frm [st] H H' → Q u H'
theorem or_dec {x y z : Str} (c : decide (V.str x = V.str y) = false) (c' : decide (V.str x = V.str z) = false) : x ≠ y ∧ x ≠ z := ⟨str_dec' c, str_dec' c'⟩
theorem inV_str {z : Str} : ∀ {l : List Str}, inV (.str z) (l.map V.str) = true ↔ z ∈ l
  | [] => by simp [inV]
  | x :: l => by
    have ih := inV_str (z := z) (l := l)
    unfold inV at ih ⊢
    rw [List.map_cons, List.any_cons, Bool.or_eq_true, ih, List.mem_cons]
    have : (eqV (V.str x) (.str z) = true) ↔ z = x := by
      show ((x == z) = true) ↔ z = x
      rw [beq_iff_eq]
      exact eq_comm
    rw [this]
section
variable {P : Program} {w : World} {K : PySem.W.Frag} {mg : Str → Option Value} {base : Heap} {a : Ad}
theorem ok_law_row (T : Txt K mg a) : FnOk P w K mg base CX0 4 a.f_law_row a.d_law_row ["state", "name", "index"] (spRowL K nR) := by
  have G_law_pick : FnOk P w K mg base CX0 1 _ _ _ _ := ok_law_pick T
  have G_law_operand : FnOk P w K mg base CX0 2 _ _ _ _ := ok_law_operand T
  have G_law_plain_row : FnOk P w K mg base CX0 3 _ _ _ _ := ok_law_plain_row T
  refine T.F__law_row.ok sc_law_row (fun vs H Q E h => ?_) (fun cdv A outer s H vs Q E hr h => ?_)
  · obtain ⟨_, _, _, _, _, rfl, _⟩ := h; rfl
  · obtain ⟨st, sa, ns, nm, ix, rfl, S, hm, q⟩ := h
    have hz := sizeLine_eq
    refine ⟨_, (pss_cons (ps_if (pt_cmpR op_inS (pv 1) (pe_tup (pa_cons pe_str (pa_cons pe_str (pa_cons pe_str (pa_cons pe_str (pa_cons pe_str (pa_cons pe_str (pa_cons pe_str pa_nil)))))))) rfl) (pss_one (ps_ret (pe_call G_law_plain_row (hr.mono (by decide)) rfl T.g__law_plain_row T.k__law_plain_row T.bd__law_plain_row .nil pass0 (pa_cons (pv 0) (pa_cons (pv 1) (pa_cons (pv 2) pa_nil)))))) pss_nil)
      (pss_cons (ps_set (i := 3) sc_law_row.nd rfl (Or.inl rfl) (pe_call G_law_pick (hr.mono (by decide)) rfl T.g__law_pick T.k__law_pick T.bd__law_pick .nil pass0 (pa_cons (pv 0) (pa_cons pe_int pa_nil))))
      (pss_cons (ps_set (i := 4) sc_law_row.nd rfl (Or.inl rfl) (pe_call G_law_operand (hr.mono (by decide)) rfl T.g__law_operand T.k__law_operand T.bd__law_operand .nil pass0 (pa_cons (pv 0) pa_nil)))
      (pss_cons (ps_set (i := 5) sc_law_row.nd rfl (Or.inl rfl) (pe_call G_law_operand (hr.mono (by decide)) rfl T.g__law_operand T.k__law_operand T.bd__law_operand .nil pass0 (pa_cons (pv 0) pa_nil)))
      (pss_cons (ps_set (i := 6) sc_law_row.nd rfl (Or.inl rfl) (pe_call G_law_pick (hr.mono (by decide)) rfl T.g__law_pick T.k__law_pick T.bd__law_pick .nil pass0 (pa_cons (pv 0) (pa_cons pe_int pa_nil))))
      (pss_cons (ps_set (i := 7) sc_law_row.nd rfl (Or.inl rfl) (pe_tup (pa_cons (pe_op op_add (pv 2) pe_int) pa_nil)))
      (pss_cons (ps_if (pt_cmpR op_eq (pv 1) pe_str (nomark _)) (pss_one (ps_ret (pe_lst (pa_cons (pe_tup (pa_cons pe_str (pa_cons (pv 3) (pa_cons (pv 4) pa_nil)))) (pa_cons (pe_tup (pa_cons (pv 4) pa_nil)) (pa_cons (pe_tup (pa_cons (pv 3) pa_nil)) (pa_cons (pv 7) pa_nil))))))) pss_nil)
      (pss_cons (ps_if (PW.pt (pw_or (pt_cmpR op_eq (pv 1) pe_str (nomark _)) (pw_or1 (pt_cmpR op_eq (pv 1) pe_str (nomark _))))) (pss_one (ps_ret (pe_lst (pa_cons (pe_tup (pa_cons (pv 1) (pa_cons (pv 3) (pa_cons (pv 4) (pa_cons (pv 6) pa_nil))))) (pa_cons (pe_tup (pa_cons (pv 4) pa_nil)) (pa_cons (pe_tup (pa_cons (pv 3) pa_nil)) (pa_cons (pv 7) pa_nil))))))) pss_nil)
      (pss_cons (ps_if (PW.pt (pw_or (pt_cmpR op_eq (pv 1) pe_str (nomark _)) (pw_or1 (pt_cmpR op_eq (pv 1) pe_str (nomark _))))) (pss_one (ps_ret (pe_lst (pa_cons (pe_tup (pa_cons (pv 1) (pa_cons (pv 3) (pa_cons (pv 4) (pa_cons (pv 5) pa_nil))))) (pa_cons (pe_tup (pa_cons (pv 4) (pa_cons (pv 5) pa_nil))) (pa_cons (pe_tup (pa_cons (pv 3) pa_nil)) (pa_cons (pv 7) pa_nil))))))) pss_nil)
      (pss_cons (ps_if (pt_cmpR op_eq (pv 1) pe_str (nomark _)) (pss_one (ps_ret (pe_lst (pa_cons (pe_tup (pa_cons pe_str (pa_cons (pv 4) (pa_cons (pe_op op_sub (pe_call G_law_pick (hr.mono (by decide)) rfl T.g__law_pick T.k__law_pick T.bd__law_pick .nil pass0 (pa_cons (pv 0) (pa_cons pe_int pa_nil))) pe_int) (pa_cons (pe_call G_law_pick (hr.mono (by decide)) rfl T.g__law_pick T.k__law_pick T.bd__law_pick .nil pass0 (pa_cons (pv 0) (pa_cons pe_int pa_nil))) (pa_cons (pv 6) pa_nil)))))) (pa_cons (pe_tup (pa_cons (pv 4) pa_nil)) (pa_cons (pe_tup pa_nil) (pa_cons (pv 7) pa_nil))))))) pss_nil)
      (pss_cons (ps_if (pt_cmpR op_eq (pv 1) pe_str (nomark _)) (pss_one (ps_ret (pe_lst (pa_cons (pe_tup (pa_cons pe_str (pa_cons (pv 3) (pa_cons (pe_call G_law_pick (hr.mono (by decide)) rfl T.g__law_pick T.k__law_pick T.bd__law_pick .nil pass0 (pa_cons (pv 0) (pa_cons pe_int pa_nil))) (pa_cons (pe_call G_law_pick (hr.mono (by decide)) rfl T.g__law_pick T.k__law_pick T.bd__law_pick .nil pass0 (pa_cons (pv 0) (pa_cons pe_int pa_nil))) (pa_cons (pe_op op_add pe_int (pe_call G_law_pick (hr.mono (by decide)) rfl T.g__law_pick T.k__law_pick T.bd__law_pick .nil pass0 (pa_cons (pv 0) (pa_cons pe_int pa_nil)))) (pa_cons (pv 4) pa_nil))))))) (pa_cons (pe_tup (pa_cons (pv 4) pa_nil)) (pa_cons (pe_tup (pa_cons (pv 3) pa_nil)) (pa_cons (pv 7) pa_nil))))))) pss_nil)
      (pss_cons (ps_if (pt_cmpR op_eq (pv 1) pe_str (nomark _)) (pss_one (ps_ret (pe_lst (pa_cons (pe_tup (pa_cons pe_str (pa_cons (pe_call G_law_pick (hr.mono (by decide)) rfl T.g__law_pick T.k__law_pick T.bd__law_pick .nil pass0 (pa_cons (pv 0) (pa_cons pe_int pa_nil))) (pa_cons (pe_call G_law_pick (hr.mono (by decide)) rfl T.g__law_pick T.k__law_pick T.bd__law_pick .nil pass0 (pa_cons (pv 0) (pa_cons pe_int pa_nil))) (pa_cons (pe_op op_add pe_int (pe_call G_law_pick (hr.mono (by decide)) rfl T.g__law_pick T.k__law_pick T.bd__law_pick .nil pass0 (pa_cons (pv 0) (pa_cons pe_int pa_nil)))) (pa_cons (pv 4) (pa_cons (pv 5) pa_nil))))))) (pa_cons (pe_tup (pa_cons (pv 4) (pa_cons (pv 5) pa_nil))) (pa_cons (pe_tup pa_nil) (pa_cons (pv 7) pa_nil))))))) pss_nil)
      (pss_cons (ps_if (pt_cmpR op_eq (pv 1) pe_str (nomark _)) (pss_one (ps_ret (pe_lst (pa_cons (pe_tup (pa_cons pe_str (pa_cons (pv 3) (pa_cons (pv 6) pa_nil)))) (pa_cons (pe_tup pa_nil) (pa_cons (pe_tup (pa_cons (pv 3) pa_nil)) (pa_cons (pv 7) pa_nil))))))) pss_nil)
      (pss_cons (ps_if (pt_cmpR op_eq (pv 1) pe_str (nomark _)) (pss_cons (ps_set (i := 8) sc_law_row.nd rfl (Or.inl rfl) (pe_callTy call_tuple_of (by rfl) T.b_tuple (by decide +kernel) (pa_cons (pe_lc (own := [("k", 9)]) (g := gName 9) rfl sc_law_row.nd (pi_range1 rfl T.b_range (pa_cons (pe_call G_law_pick (hr.mono (by decide)) rfl T.g__law_pick T.k__law_pick T.bd__law_pick .nil pass0 (pa_cons (pv 0) (pa_cons pe_int pa_nil))) pa_nil)) (blkOk_by (own := [("k", 9)]) (N := ["state", "name", "index", "d", "x", "y", "place", "behind", "arguments", "k", "start", "results"]) (sc := defScope s_law_row) (by decide +kernel)) (fun _ _ _ _ _ => pg_name (i := 9) sc_law_row.nd rfl (Or.inl rfl)) (fun _ _ _ _ _ => pts_nil) (fun _ _ _ _ _ => (pe_call G_law_operand (hr.mono (by decide)) rfl T.g__law_operand T.k__law_operand T.bd__law_operand .nil pass0 (pa_cons (pv 0) pa_nil)))) pa_nil)))
      (pss_cons (ps_set (i := 10) sc_law_row.nd rfl (Or.inr rfl) (pe_call G_law_pick (hr.mono (by decide)) rfl T.g__law_pick T.k__law_pick T.bd__law_pick .nil pass0 (pa_cons (pv 0) (pa_cons pe_int pa_nil))))
      (pss_cons (ps_set (i := 11) sc_law_row.nd rfl (Or.inl rfl) (pe_callTy call_tuple_of (by rfl) T.b_tuple (by decide +kernel) (pa_cons (pe_lc (own := [("k", 9)]) (g := gName 9) rfl sc_law_row.nd (pi_range1 rfl T.b_range (pa_cons (pe_call G_law_pick (hr.mono (by decide)) rfl T.g__law_pick T.k__law_pick T.bd__law_pick .nil pass0 (pa_cons (pv 0) (pa_cons pe_int pa_nil))) pa_nil)) (blkOk_by (own := [("k", 9)]) (N := ["state", "name", "index", "d", "x", "y", "place", "behind", "arguments", "k", "start", "results"]) (sc := defScope s_law_row) (by decide +kernel)) (fun _ _ _ _ _ => pg_name (i := 9) sc_law_row.nd rfl (Or.inl rfl)) (fun _ _ _ _ _ => pts_nil) (fun _ _ _ _ _ => (pe_op op_mod (pe_callTy call_int1 (by rfl) T.b_int (by decide +kernel) (pa_cons (pe_op op_add (pv 10) (pe_op op_mul pe_int (pv 9))) pa_nil)) pe_int))) pa_nil)))
      (pss_one (ps_ret (pe_lst (pa_cons (pe_tup (pa_cons pe_str (pa_cons (pe_op op_add pe_int (pe_call G_law_pick (hr.mono (by decide)) rfl T.g__law_pick T.k__law_pick T.bd__law_pick .nil pass0 (pa_cons (pv 0) (pa_cons pe_int pa_nil)))) (pa_cons (pe_call G_law_pick (hr.mono (by decide)) rfl T.g__law_pick T.k__law_pick T.bd__law_pick .nil pass0 (pa_cons (pv 0) (pa_cons pe_int pa_nil))) (pa_cons (pv 8) (pa_cons (pv 11) (pa_cons (pv 6) pa_nil))))))) (pa_cons (pv 8) (pa_cons (pv 11) (pa_cons (pv 7) pa_nil)))))))))) pss_nil)
      (pss_one (ps_ret (pe_lst (pa_cons (pe_tup (pa_cons (pv 1) (pa_cons (pv 3) (pa_cons (pv 4) (pa_cons (pv 5) (pa_cons (pv 6) pa_nil)))))) (pa_cons (pe_tup (pa_cons (pv 4) (pa_cons (pv 5) pa_nil))) (pa_cons (pe_tup (pa_cons (pv 3) pa_nil)) (pa_cons (pv 7) pa_nil))))))))))))))))))))), ?_⟩
    refine ⟨_, rfl, (by show 7 ≤ sizeLine; decide), fun tp ntp => ⟨tp, nP.map V.str, rfl, .inr (SqT.of upd_same), rfl, by decide +kernel, _, rfl, ite3 (fun c => ?_) (fun c => ?_)⟩⟩
    · exact ⟨_, rfl, _, rfl, _, rfl, st, sa, ns, nm, ix, rfl, S.same (sN (Same.refl H) ntp), inV_str.mp c, fun p i g w b ds gs ws bs H' e R S' f => q p i g w b ds gs ws bs H' e R S' (((Frm.refl).new ntp).trans f)⟩
    have hnp : nm ∉ nP := fun e => by rw [inV_str.mpr e] at c; cases c
    have S0 := S.same (sN (Same.refl H) ntp) (H' := upd H tp (.tup (nP.map V.str)))
    have f0 : Frm [st] H (upd H tp (.tup (nP.map V.str))) := Frm.refl.new ntp
    refine ⟨_, rfl, st, sa, ns, 5, rfl, S0, by decide, by decide, fun d H1 d0 d1 S1 f1 => ?_⟩
    refine ⟨_, rfl, st, sa, ns, rfl, S1, fun x gx H2 dx S2 f2 => ?_⟩
    refine ⟨_, rfl, st, sa, ns, rfl, S2, fun y gy H3 dy S3 f3 => ?_⟩
    have dx3 := dx.keep (S2.kt f3)
    refine ⟨_, rfl, st, sa, ns, 9, rfl, S3, by decide, by decide, fun pl H4 l0 l1 S4 f4 => ?_⟩
    have dx4 := dx3.keep (S3.kt f4)
    have dy4 := dy.keep (S3.kt f4)
    have F4 := (((f0.trans f1).trans f2).trans f3).trans f4
    clear dx dy dx3 S1 S2 S3 f0 f1 f2 f3 f4 S0 S
    refine ⟨_, rfl, _, _, rfl, rfl, (by show 1 ≤ sizeLine; decide), fun pb npb => ?_⟩
    have hb : DT K (upd H4 pb (.tup [.int (ix + 1)])) (.ref pb) (.tuple ([ix + 1].map .int)) := lay npb (.cons (.int _) .nil)
    have S5 := S4.same (sN (Same.refl H4) npb) (H' := upd H4 pb (.tup [.int (ix + 1)]))
    have F5 := F4.new npb (o := .tup [.int (ix + 1)])
    have dx5 := dx4.keep (KT.new npb (o := .tup [.int (ix + 1)]))
    have dy5 := dy4.keep (KT.new npb (o := .tup [.int (ix + 1)]))
    clear npb S4 F4 dx4 dy4
    generalize upd H4 pb (.tup [.int (ix + 1)]) = H5 at hb S5 F5 dx5 dy5
    have fin : ∀ {H6 : Hp} {p1 p2 p3 l : Addr} {v1 v2 v3 : List V} {nm' : Str} {ds : List PyData} {gs : List Op} {ws : List Int}, nm' = nm → StP K H6 st sa ns → Frm [st] H H6 → DT K H6 (.ref pb) (.tuple ([ix + 1].map .int)) → H6 p1 = none → upd H6 p1 (.tup v1) p2 = none → upd (upd H6 p1 (.tup v1)) p2 (.tup v2) p3 = none →
        upd (upd (upd H6 p1 (.tup v1)) p2 (.tup v2)) p3 (.tup v3) l = none → DTs K H6 v1 (.str nm' :: ds) → DTs K H6 v2 (gs.map opD) → DTs K H6 v3 (ws.map .int) →
        OpsOk nm' (.str nm' :: ds) (gs.map opD) → WrOk nm' (.str nm' :: ds) (ws.map .int) → (inV (.str nm') lvs = false ∧ nm' ≠ "jump" ∧ nm' ≠ "branch") → ds.length ≤ 100 → gs.length ≤ 100 → ws.length ≤ 100 →
        Q (.ref l) (upd (upd (upd (upd H6 p1 (.tup v1)) p2 (.tup v2)) p3 (.tup v3)) l (.lst [.ref p1, .ref p2, .ref p3, .ref pb])) := by
      intro H6 p1 p2 p3 l v1 v2 v3 nm' ds gs ws en S6 F6 hb6 n1 n2 n3 nl e1 e2 e3 og ow ob ld lg lw
      subst en
      have k1 : KT K H6 _ := KT.new (o := .tup v1) n1
      have k2 : KT K _ _ := KT.new (K := K) (o := .tup v2) n2
      have k3 : KT K _ _ := KT.new (K := K) (o := .tup v3) n3
      have k5 : KT K _ _ := KT.new (K := K) (o := .lst [.ref p1, .ref p2, .ref p3, .ref pb]) nl
      refine q _ _ _ _ _ ds gs ws [ix + 1] _ upd_same ⟨?_, ?_, ?_, ?_, og, ow, .inr (.inr (.inr (.inr ⟨ob.1, ob.2.1, ob.2.2, rfl⟩))), ld, lg, lw, by show 1 ≤ 100; decide⟩ ?_ ?_
      · exact (lay n1 e1).keep (k2.tr (k3.tr k5))
      · exact (lay n2 (e2.keep k1)).keep (k3.tr k5)
      · exact (lay n3 (e3.keep (k1.tr k2))).keep k5
      · exact hb6.keep (k1.tr (k2.tr (k3.tr k5)))
      · exact S6.same (sN (sN (sN (sN (Same.refl _) n1) n2) n3) nl)
      · exact (((F6.new n1).new n2).new n3).new nl
    have dd : ∀ {H6 : Hp}, DTs K H6 [.int d] ([d].map .int) := fun {H6} => .cons (.int _) .nil
    refine ⟨_, rfl, rfl, _, rfl, ite3 (fun c => ?_) (fun c1 => ?_)⟩
    · have e := str_dec c
      refine ⟨_, rfl, _, rfl, (by show 3 ≤ sizeLine; decide), fun p1 n1 => ⟨_, rfl, (by show 1 ≤ sizeLine; decide), fun p2 n2 => ⟨_, rfl, (by show 1 ≤ sizeLine; decide), fun p3 n3 => ⟨_, rfl, (by show 4 ≤ sizeLine; decide), fun l nl => ?_⟩⟩⟩⟩
      exact fin (ds := [.int d, opD gx]) (gs := [gx]) (ws := [d]) e.symm S5 F5 hb n1 n2 n3 nl (.cons (.str _) (.cons (.int _) (.cons dx5 .nil))) (.cons dx5 .nil) dd (opsF (by decide +kernel) rfl) (.inr (.inl ⟨by decide +kernel, by decide +kernel, d, rfl, rfl⟩)) (by decide +kernel) (by show 2 ≤ 100; decide) (by show 1 ≤ 100; decide) (by show 1 ≤ 100; decide)
    refine ⟨_, rfl, rfl, _, rfl, ite3 (fun c => iteT ?_) (fun c2 => ⟨_, rfl, rfl, _, rfl, ite3 (fun c => ?_) (fun c3 => ?_)⟩)⟩
    · have g := n2_ok nm (by rw [str_dec c]; decide +kernel)
      refine ⟨_, rfl, _, rfl, _, rfl, _, rfl, (by show 4 ≤ sizeLine; decide), fun p1 n1 => ⟨_, rfl, (by show 1 ≤ sizeLine; decide), fun p2 n2 => ⟨_, rfl, (by show 1 ≤ sizeLine; decide), fun p3 n3 => ⟨_, rfl, (by show 4 ≤ sizeLine; decide), fun l nl => ?_⟩⟩⟩⟩
      exact fin (ds := [.int d, opD gx, .int pl]) (gs := [gx]) (ws := [d]) rfl S5 F5 hb n1 n2 n3 nl (.cons (.str _) (.cons (.int _) (.cons dx5 (.cons (.int _) .nil)))) (.cons dx5 .nil) dd (opsF g.1 rfl) (.inr (.inl ⟨g.1.1, g.2.1, d, rfl, rfl⟩)) g.2.2 (by show 3 ≤ 100; decide) (by show 1 ≤ 100; decide) (by show 1 ≤ 100; decide)
    · have g := n2_ok nm (by rw [str_dec c]; decide +kernel)
      refine ⟨_, rfl, _, rfl, _, rfl, _, rfl, (by show 4 ≤ sizeLine; decide), fun p1 n1 => ⟨_, rfl, (by show 1 ≤ sizeLine; decide), fun p2 n2 => ⟨_, rfl, (by show 1 ≤ sizeLine; decide), fun p3 n3 => ⟨_, rfl, (by show 4 ≤ sizeLine; decide), fun l nl => ?_⟩⟩⟩⟩
      exact fin (ds := [.int d, opD gx, .int pl]) (gs := [gx]) (ws := [d]) rfl S5 F5 hb n1 n2 n3 nl (.cons (.str _) (.cons (.int _) (.cons dx5 (.cons (.int _) .nil)))) (.cons dx5 .nil) dd (opsF g.1 rfl) (.inr (.inl ⟨g.1.1, g.2.1, d, rfl, rfl⟩)) g.2.2 (by show 3 ≤ 100; decide) (by show 1 ≤ 100; decide) (by show 1 ≤ 100; decide)
    refine ⟨_, rfl, rfl, _, rfl, ite3 (fun c => iteT ?_) (fun c4 => ⟨_, rfl, rfl, _, rfl, ite3 (fun c => ?_) (fun c5 => ?_)⟩)⟩
    · have g := n2_ok nm (by rw [str_dec c]; decide +kernel)
      refine ⟨_, rfl, _, rfl, _, rfl, _, rfl, (by show 4 ≤ sizeLine; decide), fun p1 n1 => ⟨_, rfl, _, rfl, (by show 2 ≤ sizeLine; decide), fun p2 n2 => ⟨_, rfl, (by show 1 ≤ sizeLine; decide), fun p3 n3 => ⟨_, rfl, (by show 4 ≤ sizeLine; decide), fun l nl => ?_⟩⟩⟩⟩
      exact fin (ds := [.int d, opD gx, opD gy]) (gs := [gx, gy]) (ws := [d]) rfl S5 F5 hb n1 n2 n3 nl (.cons (.str _) (.cons (.int _) (.cons dx5 (.cons dy5 .nil)))) (.cons dx5 (.cons dy5 .nil)) dd (opsF g.1 rfl) (.inr (.inl ⟨g.1.1, g.2.1, d, rfl, rfl⟩)) g.2.2 (by show 3 ≤ 100; decide) (by show 2 ≤ 100; decide) (by show 1 ≤ 100; decide)
    · have g := n2_ok nm (by rw [str_dec c]; decide +kernel)
      refine ⟨_, rfl, _, rfl, _, rfl, _, rfl, (by show 4 ≤ sizeLine; decide), fun p1 n1 => ⟨_, rfl, _, rfl, (by show 2 ≤ sizeLine; decide), fun p2 n2 => ⟨_, rfl, (by show 1 ≤ sizeLine; decide), fun p3 n3 => ⟨_, rfl, (by show 4 ≤ sizeLine; decide), fun l nl => ?_⟩⟩⟩⟩
      exact fin (ds := [.int d, opD gx, opD gy]) (gs := [gx, gy]) (ws := [d]) rfl S5 F5 hb n1 n2 n3 nl (.cons (.str _) (.cons (.int _) (.cons dx5 (.cons dy5 .nil)))) (.cons dx5 (.cons dy5 .nil)) dd (opsF g.1 rfl) (.inr (.inl ⟨g.1.1, g.2.1, d, rfl, rfl⟩)) g.2.2 (by show 3 ≤ 100; decide) (by show 2 ≤ 100; decide) (by show 1 ≤ 100; decide)
    refine ⟨_, rfl, rfl, _, rfl, ite3 (fun c => ?_) (fun c6 => ?_)⟩
    · have e := str_dec c
      refine ⟨_, rfl, _, rfl, st, sa, ns, 9, rfl, S5, by decide, by decide, fun v H6 v0 v1 S6 f6 => ⟨_, _, rfl, rfl, _, rfl, st, sa, ns, 9, rfl, S6, by decide, by decide, fun u H7 u0 u1 S7 f7 => ⟨_, rfl, (by show 5 ≤ sizeLine; decide), fun p1 n1 => ⟨_, rfl, (by show 1 ≤ sizeLine; decide), fun p2 n2 => ⟨by decide, fun p3 n3 => ⟨_, rfl, (by show 4 ≤ sizeLine; decide), fun l nl => ?_⟩⟩⟩⟩⟩⟩
      have kk := (S5.kt f6).tr (S6.kt f7)
      exact fin (ds := [opD gx, .int (v - 9), .int u, .int pl]) (gs := [gx]) (ws := []) e.symm S7 ((F5.trans f6).trans f7) (hb.keep kk) n1 n2 n3 nl (.cons (.str _) (.cons (dx5.keep kk) (.cons (.int _) (.cons (.int _) (.cons (.int _) .nil))))) (.cons (dx5.keep kk) .nil) .nil (opsF (by decide +kernel) rfl) (.inr (.inr ⟨by decide +kernel, by decide +kernel, rfl⟩)) (by decide +kernel) (by show 4 ≤ 100; decide) (by show 1 ≤ 100; decide) (by decide)
    refine ⟨_, rfl, rfl, _, rfl, ite3 (fun c => ?_) (fun c7 => ?_)⟩
    · have e := str_dec c
      refine ⟨_, rfl, _, rfl, st, sa, ns, 3, rfl, S5, by decide, by decide, fun v H6 v0 v1 S6 f6 => ⟨_, rfl, st, sa, ns, 9, rfl, S6, by decide, by decide, fun u H7 u0 u1 S7 f7 => ⟨_, rfl, st, sa, ns, 9, rfl, S7, by decide, by decide, fun t H8 t0 t1 S8 f8 => ⟨_, _, rfl, rfl, _, rfl, (by show 6 ≤ sizeLine; decide), fun p1 n1 => ⟨_, rfl, (by show 1 ≤ sizeLine; decide), fun p2 n2 => ⟨_, rfl, (by show 1 ≤ sizeLine; decide), fun p3 n3 => ⟨_, rfl, (by show 4 ≤ sizeLine; decide), fun l nl => ?_⟩⟩⟩⟩⟩⟩⟩
      have kk := ((S5.kt f6).tr (S6.kt f7)).tr (S7.kt f8)
      exact fin (ds := [.int d, .int v, .int u, .int (1 + t), opD gx]) (gs := [gx]) (ws := [d]) e.symm S8 (((F5.trans f6).trans f7).trans f8) (hb.keep kk) n1 n2 n3 nl (.cons (.str _) (.cons (.int _) (.cons (.int _) (.cons (.int _) (.cons (.int _) (.cons (dx5.keep kk) .nil)))))) (.cons (dx5.keep kk) .nil) dd (opsF (by decide +kernel) rfl) (.inr (.inl ⟨by decide +kernel, by decide +kernel, d, rfl, rfl⟩)) (by decide +kernel) (by show 5 ≤ 100; decide) (by show 1 ≤ 100; decide) (by show 1 ≤ 100; decide)
    refine ⟨_, rfl, rfl, _, rfl, ite3 (fun c => ?_) (fun c8 => ?_)⟩
    · have e := str_dec c
      refine ⟨_, rfl, st, sa, ns, 3, rfl, S5, by decide, by decide, fun v H6 v0 v1 S6 f6 => ⟨_, rfl, st, sa, ns, 9, rfl, S6, by decide, by decide, fun u H7 u0 u1 S7 f7 => ⟨_, rfl, st, sa, ns, 9, rfl, S7, by decide, by decide, fun t H8 t0 t1 S8 f8 => ⟨_, _, rfl, rfl, _, rfl, _, rfl, (by show 6 ≤ sizeLine; decide), fun p1 n1 => ⟨_, rfl, _, rfl, (by show 2 ≤ sizeLine; decide), fun p2 n2 => ⟨by decide, fun p3 n3 => ⟨_, rfl, (by show 4 ≤ sizeLine; decide), fun l nl => ?_⟩⟩⟩⟩⟩⟩⟩
      have kk := ((S5.kt f6).tr (S6.kt f7)).tr (S7.kt f8)
      exact fin (ds := [.int v, .int u, .int (1 + t), opD gx, opD gy]) (gs := [gx, gy]) (ws := []) e.symm S8 (((F5.trans f6).trans f7).trans f8) (hb.keep kk) n1 n2 n3 nl (.cons (.str _) (.cons (.int _) (.cons (.int _) (.cons (.int _) (.cons (dx5.keep kk) (.cons (dy5.keep kk) .nil)))))) (.cons (dx5.keep kk) (.cons (dy5.keep kk) .nil)) .nil (opsF (by decide +kernel) rfl) (.inr (.inr ⟨by decide +kernel, by decide +kernel, rfl⟩)) (by decide +kernel) (by show 5 ≤ 100; decide) (by show 2 ≤ 100; decide) (by decide)
    refine ⟨_, rfl, rfl, _, rfl, ite3 (fun c => ?_) (fun c9 => ?_)⟩
    · have e := str_dec c
      refine ⟨_, rfl, _, rfl, (by show 3 ≤ sizeLine; decide), fun p1 n1 => ⟨by decide, fun p2 n2 => ⟨_, rfl, (by show 1 ≤ sizeLine; decide), fun p3 n3 => ⟨_, rfl, (by show 4 ≤ sizeLine; decide), fun l nl => ?_⟩⟩⟩⟩
      exact fin (ds := [.int d, .int pl]) (gs := []) (ws := [d]) e.symm S5 F5 hb n1 n2 n3 nl (.cons (.str _) (.cons (.int _) (.cons (.int _) .nil))) .nil dd (opsF (by decide +kernel) rfl) (.inr (.inl ⟨by decide +kernel, by decide +kernel, d, rfl, rfl⟩)) (by decide +kernel) (by show 2 ≤ 100; decide) (by decide) (by show 1 ≤ 100; decide)
    refine ⟨_, rfl, rfl, _, rfl, ite3 (fun c => ?_) (fun c10 => ?_)⟩
    · have e := str_dec c
      subst e
      refine ⟨_, rfl, st, sa, ns, 7, rfl, S5, by decide, by decide, fun v H6 v0 v1 S6 f6 => ⟨_, rfl, by omega, by omega, fun D nD => ?_⟩⟩
      have hDs : D ∉ [st] := fun e => by
        obtain ⟨_, _, _, _, e1⟩ := S6.at'
        rw [List.mem_singleton.mp e, e1] at nD; cases nD
      refine lc_range (lo := 0) (n := v.toNat) (fun i H' => ∃ us gs, H' D = some (.lst us) ∧ DTs K H' us (gs.map opD) ∧ gs.length = i ∧ StP K H' st sa ns ∧ Frm [st] H6 H') ⟨[], [], upd_same, .nil, rfl, S6.same (sN (Same.refl _) nD), Frm.refl.new nD⟩ ?_ ?_
      · rintro i H' hi ⟨us, gs, hD, hus, hgl, S7, f7⟩
        have hul := hus.len
        refine ⟨rfl, ?_⟩
        refine ⟨_, rfl, st, sa, ns, rfl, S7, fun u g H8 du S8 f8 => ?_⟩
        have hD8 := f8 _ _ hD hDs
        refine ⟨us, hD8, (by simp at hul; omega), us ++ [u], gs ++ [g], upd_same, ?_, by simp [hgl], ?_, fun b o e n => ?_⟩
        · rw [List.map_append]
          exact ((hus.keep (S7.kt f8)).app (.cons du .nil)).keep (KT.put hD8)
        · exact S8.frm (S := [D]) (fun b o e n => by rw [upd_ne (fun z => n (by rw [z]; exact List.mem_cons_self))]; exact e) (fun e => hDs (by rw [List.mem_singleton.mp e]; exact List.mem_cons_self)) (fun b hb => by
            rw [List.mem_singleton.mp hb]
            exact apt_new S6.sq nD)
        · rw [upd_ne (ne_of_none e nD)]
          exact f8 _ _ (f7 b o e n) n
      rintro H' ⟨us, gs, hD, hus, hgl, S7, f7⟩
      refine ⟨D, us, rfl, .inl ⟨SqL.of hD, fun pv npv => ?_⟩⟩
      have hv := lay npv hus
      have S8 := S7.same (sN (Same.refl _) npv) (H' := upd H' pv (.tup us))
      have f8 := (f6.trans f7).new npv (o := .tup us)
      refine ⟨_, rfl, st, sa, ns, 9, rfl, S8, by decide, by decide, fun sv H9 s0 s1 S9 f9 => ?_⟩
      refine ⟨_, rfl, st, sa, ns, 7, rfl, S9, by decide, by decide, fun v' H10 v0' v1' S10 f10 => ⟨_, rfl, by omega, by omega, fun D2 nD2 => ?_⟩⟩
      have hDs2 : D2 ∉ [st] := fun e => by
        obtain ⟨_, _, _, _, e1⟩ := S10.at'
        rw [List.mem_singleton.mp e, e1] at nD2; cases nD2
      refine lc_range (lo := 0) (n := v'.toNat) (fun i H' => ∃ js : List Int, H' D2 = some (.lst (js.map V.int)) ∧ js.length = i ∧ StP K H' st sa ns ∧ Same H10 H') ⟨[], upd_same, rfl, S10.same (sN (Same.refl _) nD2), sN (Same.refl _) nD2⟩ ?_ ?_
      · rintro i H' hi ⟨js, hD2, hjl, S11, s11⟩
        refine ⟨rfl, ?_⟩
        refine ⟨_, rfl, _, rfl, _, _, rfl, rfl, .inl ⟨by decide, by decide⟩, _, _, rfl, rfl, .inl ⟨_, rfl, _, _, rfl, rfl, (by show (0 : Int) < 9; decide), ?_⟩⟩
        refine ⟨_, hD2, (by simp; omega), js ++ [_], by rw [upd_same, List.map_append]; rfl, by simp [hjl], ?_, sUpd s11 nD2⟩
        exact S11.frm (S := [D2]) (fun b o e n => by rw [upd_ne (fun z => n (by rw [z]; exact List.mem_cons_self))]; exact e) (fun e => hDs2 (by rw [List.mem_singleton.mp e]; exact List.mem_cons_self)) (fun b hb => by
            rw [List.mem_singleton.mp hb]
            exact apt_new S10.sq nD2)
      rintro H11 ⟨js, hD2, hjl, S11, s11⟩
      refine ⟨D2, js.map V.int, rfl, .inl ⟨SqL.of hD2, fun pw npw => ?_⟩⟩
      have hw := lay npw (dts_ints (K := K) (H := H11) js)
      have S12 := S11.same (sN (Same.refl _) npw) (H' := upd H11 pw (.tup (js.map V.int)))
      have k12 : KT K (upd H' pv (.tup us)) (upd H11 pw (.tup (js.map V.int))) := ((S8.kt f9).tr (S9.kt f10)).tr ((KT.same s11).tr (KT.new npw))
      have f12 : Frm [st] H5 (upd H11 pw (.tup (js.map V.int))) := (((f8.trans f9).trans f10).trans (Frm.of s11)).new npw
      have hb12 := hb.keep (S5.kt f12)
      have hv12 := hv.keep k12
      refine ⟨_, rfl, st, sa, ns, 3, rfl, S12, by decide, by decide, fun m H13 m0 m1 S13 f13 => ⟨_, _, rfl, rfl, _, rfl, st, sa, ns, 3, rfl, S13, by decide, by decide, fun m2 H14 m20 m21 S14 f14 => ⟨_, rfl, _, rfl, _, rfl, (by show 6 ≤ sizeLine; decide), fun p1 n1 => ⟨_, rfl, _, rfl, _, rfl, (by show 4 ≤ sizeLine; decide), fun l nl => ?_⟩⟩⟩⟩
      have kk := (S12.kt f13).tr (S13.kt f14)
      have k1 : KT K H14 _ := KT.new (o := .tup [.str "call", .int (1 + m), .int m2, .ref pv, .ref pw, .int pl]) n1
      have k5 : KT K _ _ := KT.new (K := K) (o := .lst [.ref p1, .ref pv, .ref pw, .ref pb]) nl
      refine q _ _ _ _ _ [.int (1 + m), .int m2, .tuple (gs.map opD), .tuple (js.map .int), .int pl] gs js [ix + 1] _ upd_same ⟨?_, ?_, ?_, ?_, .inl ⟨rfl, rfl⟩, .inl ⟨rfl, rfl⟩, .inr (.inr (.inr (.inr ⟨by decide +kernel, by decide +kernel, by decide +kernel, rfl⟩))), by show 5 ≤ 100; decide, by omega, by omega, by show 1 ≤ 100; decide⟩ ?_ ?_
      · exact (lay n1 (.cons (.str _) (.cons (.int _) (.cons (.int _) (.cons (hv12.keep kk) (.cons (hw.keep kk) (.cons (.int _) .nil))))))).keep k5
      · exact hv12.keep (kk.tr (k1.tr k5))
      · exact hw.keep (kk.tr (k1.tr k5))
      · exact hb12.keep (kk.tr (k1.tr k5))
      · exact S14.same (sN (sN (Same.refl _) n1) nl)
      · exact ((((F5.trans f12).trans f13).trans f14).new n1).new nl
    · have hA : nm ∈ nA := by
        have := hm
        simp only [nR, nP, nA, List.mem_cons, List.not_mem_nil, or_false, not_or] at this hnp ⊢
        have e1 := str_dec' c1; have e2 := str_dec' c2; have e3 := str_dec' c3; have e4 := str_dec' c4; have e5 := str_dec' c5
        have e6 := str_dec' c6; have e7 := str_dec' c7; have e8 := str_dec' c8; have e9 := str_dec' c9; have e10 := str_dec' c10
        simp only [e1, e2, e3, e4, e5, e6, e7, e8, e9, e10, hnp, false_or, or_false] at this
        exact this
      have g := nA_ok nm hA
      refine ⟨_, rfl, _, rfl, _, rfl, _, rfl, _, rfl, (by show 5 ≤ sizeLine; decide), fun p1 n1 => ⟨_, rfl, _, rfl, (by show 2 ≤ sizeLine; decide), fun p2 n2 => ⟨_, rfl, (by show 1 ≤ sizeLine; decide), fun p3 n3 => ⟨_, rfl, (by show 4 ≤ sizeLine; decide), fun l nl => ?_⟩⟩⟩⟩
      exact fin (ds := [.int d, opD gx, opD gy, .int pl]) (gs := [gx, gy]) (ws := [d]) rfl S5 F5 hb n1 n2 n3 nl (.cons (.str _) (.cons (.int _) (.cons dx5 (.cons dy5 (.cons (.int _) .nil))))) (.cons dx5 (.cons dy5 .nil)) dd (opsF g.1 rfl) (.inr (.inl ⟨g.1.1, g.2.1, d, rfl, rfl⟩)) g.2.2 (by show 4 ≤ 100; decide) (by show 2 ≤ 100; decide) (by show 1 ≤ 100; decide)
end

def spLaw (K : PySem.W.Frag) : Sp := fun vs H Q _ => ∃ (a : Addr) (ns : List Int), vs = [.ref a] ∧ SqL K H a (ns.map V.int) ∧ ns.length ≤ 63 ∧ ∀ H', Q (.bl true) H'
theorem made {H8 H9 : Hp} {x dx C : Addr} {fs gs : List (Str × V)} (s : Same H8 H9) (nx : H9 x = none) (ndx : H9 dx = none) (ne : dx ≠ x) : Same H8 (upd (upd (upd H9 dx (.own x)) x (.ins C dx fs)) x (.ins C dx gs)) := by
  rw [upd_upd]
  exact sN (sN s ndx) (by rw [upd_ne ne.symm]; exact nx)
theorem findR_ok (rs : List (List Int)) (at' : Int) (h : ∀ r ∈ rs, r.length = 5) : okD 1 (findR rs at') := by
  unfold findR
  cases e : rs.find? (inR at') with
  | none => trivial
  | some r =>
    have hl := h r (List.mem_of_find?_eq_some e)
    refine ⟨fun d hd => ?_, by simp [hl]⟩
    obtain ⟨i, _, rfl⟩ := List.mem_map.mp hd
    trivial
theorem ints_ok (js : List Int) (h : js.length ≤ 100) : okD 2 (.tuple (js.map .int)) := by
  refine ⟨fun d hd => ?_, by simp; omega⟩
  obtain ⟨i, _, rfl⟩ := List.mem_map.mp hd
  trivial
theorem ops_ok (gs : List Op) (h : gs.length ≤ 100) : okD 2 (.tuple (gs.map opD)) := by
  refine ⟨fun d hd => ?_, by simp; omega⟩
  obtain ⟨⟨z, n⟩, _, rfl⟩ := List.mem_map.mp hd
  refine ⟨fun d hd => ?_, by show 2 ≤ 1000000; decide⟩
  simp only [List.mem_cons, List.not_mem_nil, or_false] at hd
  rcases hd with rfl | rfl <;> trivial
theorem rd_ok (gs : List Op) (h : gs.length ≤ 100) : okD 2 (.tuple (rdOf gs)) := by
  refine ⟨fun d hd => ?_, ?_⟩
  · obtain ⟨i, _, rfl⟩ := List.mem_map.mp hd
    trivial
  · unfold rdOf
    rw [List.length_map]
    exact Nat.le_trans (List.length_filter_le _ _) (by omega)
theorem okD_up {d : PyData} (h : okD 1 d) : okD 2 d := by
  cases d with
  | tuple ds =>
    refine ⟨fun x hx => ?_, h.2⟩
    have := h.1 x hx
    cases x with
    | tuple _ => exact this.elim
    | list _ => exact this.elim
    | none => trivial
    | bool _ => trivial
    | int _ => trivial
    | str _ => trivial
    | _ => exact this.elim
  | none => trivial
  | bool _ => trivial
  | int _ => trivial
  | str _ => trivial
  | _ => exact h.elim
section
variable {P : Program} {w : World} {K : PySem.W.Frag} {mg : Str → Option Value} {base : Heap} {a : Ad}
theorem ok_law_regions (T : Txt K mg a) : FnOk P w K mg base CX0 2 a.f_law_regions a.d_law_regions ["state"] (spRegsL K) := by
  have G_law_pick : FnOk P w K mg base CX0 1 _ _ _ _ := ok_law_pick T
  refine T.F__law_regions.ok sc_law_regions (fun vs H Q E h => ?_) (fun cdv A outer s H vs Q E hr h => ?_)
  · obtain ⟨_, _, _, rfl, _⟩ := h; rfl
  · obtain ⟨st, sa, ns, rfl, S, q⟩ := h
    refine ⟨_, (pss_cons (ps_set (i := 1) sc_law_regions.nd rfl (Or.inl rfl) (pe_lst pa_nil))
      (pss_cons (ps_for PassesOwn.never rfl (pi_range1 rfl T.b_range (pa_cons (pe_call G_law_pick (hr.mono (by decide)) rfl T.g__law_pick T.k__law_pick T.bd__law_pick .nil pass0 (pa_cons (pv 0) (pa_cons pe_int pa_nil))) pa_nil)) (pg_name (i := 2) sc_law_regions.nd rfl (Or.inl rfl)) (pss_cons (ps_set (i := 3) sc_law_regions.nd rfl (Or.inl rfl) (pe_call G_law_pick (hr.mono (by decide)) rfl T.g__law_pick T.k__law_pick T.bd__law_pick .nil pass0 (pa_cons (pv 0) (pa_cons pe_int pa_nil))))
      (pss_cons (ps_set (i := 4) sc_law_regions.nd rfl (Or.inl rfl) (pe_op op_add (pe_op op_add (pv 3) pe_int) (pe_call G_law_pick (hr.mono (by decide)) rfl T.g__law_pick T.k__law_pick T.bd__law_pick .nil pass0 (pa_cons (pv 0) (pa_cons pe_int pa_nil)))))
      (pss_one (ps_expr (pe_bm PySem.F.plainAttrs_list PySem.F.slot_list_append PySem.F.type_list_append mt_append (pv 1) (pa_cons (pe_tup (pa_cons (pv 3) (pa_cons (pv 4) (pa_cons (pe_op op_add (pv 4) (pe_call G_law_pick (hr.mono (by decide)) rfl T.g__law_pick T.k__law_pick T.bd__law_pick .nil pass0 (pa_cons (pv 0) (pa_cons pe_int pa_nil)))) (pa_cons (pv 2) (pa_cons (pe_op op_add (pv 2) pe_int) pa_nil)))))) pa_nil)))))))
      (pss_one (ps_ret (pe_callTy call_tuple_of (by rfl) T.b_tuple (by decide +kernel) (pa_cons (pv 1) pa_nil)))))), ?_⟩
    refine ⟨by decide, fun L nL => ?_⟩
    have S0 := S.same (sN (Same.refl _) nL) (H' := upd H L (.lst []))
    have hLs : L ∉ [st] := fun e => by
      obtain ⟨_, _, _, _, e1⟩ := S.at'
      rw [List.mem_singleton.mp e, e1] at nL; cases nL
    refine ⟨_, rfl, st, sa, ns, 6, rfl, S0, by decide, by decide, fun v H1 v0 v1 S1 f1 => ⟨_, rfl, by omega, by omega, ?_⟩⟩
    refine for_range (lo := 0) (n := v.toNat) (fun i σ H' => ∃ ok o3 o4 us rs, σ = [some (.ref st), some (.ref L), ok, o3, o4] ∧ H' L = some (.lst us) ∧ DTs K H' us (rs.map regD) ∧ rs.length = i ∧ (∀ r ∈ rs, r.length = 5) ∧ StP K H' st sa ns ∧ Frm [st] H H') ⟨_, _, _, [], [], rfl, f1 _ _ upd_same hLs, .nil, rfl, (fun r h => nomatch h), S1, (Frm.refl.new nL).trans f1⟩ ?_ ?_
    · rintro i σ H' hi ⟨ok, o3, o4, us, rs, rfl, hL, hus, hrl, h5, S2, f2⟩
      have hul := hus.len
      refine ⟨_, rfl, st, sa, ns, 20, rfl, S2, by decide, by decide, fun v3 H3 _ _ S3 f3 => ?_⟩
      refine ⟨_, rfl, _, _, rfl, rfl, _, rfl, st, sa, ns, 20, rfl, S3, by decide, by decide, fun v4 H4 _ _ S4 f4 => ⟨_, _, rfl, rfl, ?_⟩⟩
      have hL4 := f4 _ _ (f3 _ _ hL hLs) hLs
      refine ⟨_, rfl, .inl ⟨rfl, _, SqL.of hL4⟩, ?_⟩
      refine ⟨_, rfl, _, rfl, _, rfl, _, rfl, st, sa, ns, 20, rfl, S4, by decide, by decide, fun v5 H5 _ _ S5 f5 => ⟨_, _, rfl, rfl, _, rfl, _, rfl, _, _, rfl, rfl, (by show 5 ≤ sizeLine; decide), fun p np => ?_⟩⟩
      have hL5 := f5 _ _ hL4 hLs
      have npL : L ≠ p := ne_of_none hL5 np
      have s5 := sN (Same.refl H5) np (o := .tup [.int v3, .int (v3 + 1 + v4), .int (v3 + 1 + v4 + v5), .int (0 + (i : Int)), .int (0 + (i : Int) + 1)])
      have hL6 := s5 _ _ hL5
      refine ⟨L, us, _, rfl, rfl, hL6, small1000 (by simp at hul; omega), ?_⟩
      refine ⟨_, _, _, us ++ [.ref p], rs ++ [[v3, v3 + 1 + v4, v3 + 1 + v4 + v5, 0 + (i : Int), 0 + (i : Int) + 1]], rfl, upd_same, ?_, by simp [hrl], fun r hr' => ?_, ?_, ?_⟩
      · rw [List.map_append]
        refine DTs.keep (KT.put hL6) (DTs.app ?_ (.cons ?_ .nil))
        · exact hus.keep ((S2.kt f3).tr ((S3.kt f4).tr ((S4.kt f5).tr (KT.same s5))))
        · exact lay np (.cons (.int _) (.cons (.int _) (.cons (.int _) (.cons (.int _) (.cons (.int _) .nil)))))
      · rcases List.mem_append.mp hr' with h | h
        · exact h5 r h
        · rw [List.mem_singleton.mp h]; rfl
      · exact (S5.same s5).frm (S := [L]) (fun b o e n => by rw [upd_ne (fun z => n (by rw [z]; exact List.mem_cons_self))]; exact e) (fun e => hLs (by rw [List.mem_singleton.mp e]; exact List.mem_cons_self)) (fun b hb => by
            rw [List.mem_singleton.mp hb]
            exact apt_new S.sq nL)
      · intro b o e n
        rw [upd_ne (ne_of_none e nL)]
        exact s5 _ _ (f5 _ _ (f4 _ _ (f3 _ _ (f2 b o e n) n) n) n)
    · rintro σ H' ⟨ok, o3, o4, us, rs, rfl, hL, hus, hrl, h5, S2, f2⟩
      refine ⟨_, rfl, L, us, rfl, .inl ⟨SqL.of hL, fun p np => ?_⟩⟩
      exact q _ rs _ (lay np hus) h5 (S2.same (sN (Same.refl _) np)) (f2.new np)
theorem nR_at {v : Int} (h0 : 0 ≤ v) (h1 : v < 23) : ∃ nm, nm ∈ nR ∧ atI (nR.map V.str) v = some (.str nm) := by
  have hl : nR.length = 23 := rfl
  have hlt : v.toNat < nR.length := by omega
  refine ⟨nR[v.toNat], List.getElem_mem hlt, ?_⟩
  have h := atI_nat (j := v.toNat) (xs := nR.map V.str) (v := .str nR[v.toNat]) (by rw [List.getElem?_map, List.getElem?_eq_getElem hlt]; rfl)
  rwa [show ((v.toNat : Nat) : Int) = v by omega] at h
theorem ok_law (T : Txt K mg a) : FnOk P w K mg base CX0 12 a.f_law a.d_law ["script"] (spLaw K) := by
  have G_law_pick : FnOk P w K mg base CX0 1 _ _ _ _ := ok_law_pick T
  have G_law_row : FnOk P w K mg base CX0 4 _ _ _ _ := ok_law_row T
  have G_law_regions : FnOk P w K mg base CX0 2 _ _ _ _ := ok_law_regions T
  have G_law_same : FnOk P w K mg base CX0 3 _ _ _ _ := ok_same T 2
  have G_operands : FnOk P w K mg base CX0 1 _ _ _ _ := ok_operands T
  have G_reads : FnOk P w K mg base CX0 2 _ _ _ _ := ok_reads T
  have G_writes : FnOk P w K mg base CX0 1 _ _ _ _ := ok_writes T
  have G_can_raise : FnOk P w K mg base CX0 1 _ _ _ _ := ok_can_raise T
  have G_followers : FnOk P w K mg base CX0 1 _ _ _ _ := ok_followers T
  have G_region_of : FnOk P w K mg base CX0 1 _ _ _ _ := ok_region_of T
  have G_Unit___init__ : FnOk P w K mg base CX0 1 _ _ _ _ := ok_Unit___init__ T
  refine T.F_law.ok sc_law (fun vs H Q E h => ?_) (fun cdv A outer s H vs Q E hr h => ?_)
  · obtain ⟨_, _, rfl, _⟩ := h; rfl
  · obtain ⟨sa, ns, rfl, hS, hl, q⟩ := h
    have hz := sizeLine_eq
    refine ⟨_, (pss_cons (ps_set (i := 1) sc_law.nd rfl (Or.inl rfl) (pe_lst (pa_cons (pe_callTy call_list_of (by rfl) T.b_list (by decide +kernel) (pa_cons (pv 0) pa_nil)) (pa_cons pe_int (pa_cons pe_int (pa_cons pe_int pa_nil))))))
      (pss_cons (ps_set (i := 2) sc_law.nd rfl (Or.inl rfl) (pe_lst (pa_cons pe_str (pa_cons pe_str (pa_cons pe_str (pa_cons pe_str (pa_cons pe_str (pa_cons pe_str (pa_cons pe_str (pa_cons pe_str (pa_cons pe_str (pa_cons pe_str (pa_cons pe_str (pa_cons pe_str (pa_cons pe_str (pa_cons pe_str pa_nil))))))))))))))))
      (pss_cons (ps_set (i := 2) sc_law.nd rfl (Or.inl rfl) (pe_op op_cat (pv 2) (pe_lst (pa_cons pe_str (pa_cons pe_str (pa_cons pe_str (pa_cons pe_str (pa_cons pe_str (pa_cons pe_str (pa_cons pe_str (pa_cons pe_str (pa_cons pe_str pa_nil))))))))))))
      (pss_cons (ps_set (i := 3) sc_law.nd rfl (Or.inl rfl) (pe_ix ix_list (pv 2) (pe_call G_law_pick (hr.mono (by decide)) rfl T.g__law_pick T.k__law_pick T.bd__law_pick .nil pass0 (pa_cons (pv 1) (pa_cons (pe_callB call_len_seq (by rfl) T.b_len (by decide +kernel) (pa_cons (pv 2) pa_nil)) pa_nil))) (fun _ _ => rfl)))
      (pss_cons (ps_set (i := 4) sc_law.nd rfl (Or.inl rfl) (pe_call G_law_pick (hr.mono (by decide)) rfl T.g__law_pick T.k__law_pick T.bd__law_pick .nil pass0 (pa_cons (pv 1) (pa_cons pe_int pa_nil))))
      (pss_cons (ps_asg (pe_call G_law_row (hr.mono (by decide)) rfl T.g__law_row T.k__law_row T.bd__law_row .nil pass0 (pa_cons (pv 1) (pa_cons (pv 3) (pa_cons (pv 4) pa_nil)))) (pg_lst rfl (pgs_cons (pg_name (i := 5) sc_law.nd rfl (Or.inl rfl)) (pgs_cons (pg_name (i := 6) sc_law.nd rfl (Or.inl rfl)) (pgs_cons (pg_name (i := 7) sc_law.nd rfl (Or.inl rfl)) (pgs_cons (pg_name (i := 8) sc_law.nd rfl (Or.inl rfl)) pgs_nil))))))
      (pss_cons (ps_set (i := 9) sc_law.nd rfl (Or.inl rfl) (pe_cmpR op_inS (pv 3) (pe_tup (pa_cons pe_str (pa_cons pe_str (pa_cons pe_str (pa_cons pe_str (pa_cons pe_str (pa_cons pe_str (pa_cons pe_str (pa_cons pe_str (pa_cons pe_str (pa_cons pe_str (pa_cons pe_str (pa_cons pe_str (pa_cons pe_str pa_nil)))))))))))))) rfl))
      (pss_cons (ps_set (i := 10) sc_law.nd rfl (Or.inl rfl) (pe_callTy call_tuple_of (by rfl) T.b_tuple (by decide +kernel) (pa_cons (pe_lc (own := [("operand", 11)]) (g := gName 11) rfl sc_law.nd (pi_tup (pv 6)) (blkOk_by (own := [("operand", 11)]) (N := ["script", "state", "names", "name", "index", "instruction", "given", "written", "behind", "raising", "read", "operand", "regions", "unit", "at", "taken", "region", "k"]) (sc := defScope s_law) (by decide +kernel)) (fun _ _ _ _ _ => pg_name (i := 11) sc_law.nd rfl (Or.inl rfl)) (fun _ _ _ _ _ => (pts_one (pt_cmpR op_eq (pe_ix (ix_tupK (K := K) rfl) (pv 11) pe_int (fun _ _ => rfl)) pe_str (nomark _)))) (fun _ _ _ _ _ => (pe_ix (ix_tupK (K := K) rfl) (pv 11) pe_int (fun _ _ => rfl)))) pa_nil)))
      (pss_cons (ps_set (i := 12) sc_law.nd rfl (Or.inl rfl) (pe_call G_law_regions (hr.mono (by decide)) rfl T.g__law_regions T.k__law_regions T.bd__law_regions .nil pass0 (pa_cons (pv 1) pa_nil)))
      (pss_cons (ps_set (i := 13) sc_law.nd rfl (Or.inl rfl) (pe_make T.mk_Unit G_Unit___init__ (hr.mono (by decide)) rfl T.g_Unit T.bd_Unit___init__ .nil pass0 (pa_cons (pe_un un_neg pe_int) (pa_cons pe_int (pa_cons pe_int (pa_cons pe_int (pa_cons pe_int (pa_cons (pe_op op_catT (pe_op op_repT (pe_tup (pa_cons (pe_tup (pa_cons pe_str pa_nil)) pa_nil)) pe_int) (pe_tup (pa_cons (pe_tup (pa_cons pe_str (pa_cons (pe_tup pa_nil) pa_nil))) pa_nil))) (pa_cons (pv 12) pa_nil)))))))))
      (pss_cons (ps_set (i := 14) sc_law.nd rfl (Or.inl rfl) (pe_call G_law_pick (hr.mono (by decide)) rfl T.g__law_pick T.k__law_pick T.bd__law_pick .nil pass0 (pa_cons (pv 1) (pa_cons pe_int pa_nil))))
      (pss_cons (ps_set (i := 15) sc_law.nd rfl (Or.inl rfl) pe_non)
      (pss_cons (ps_for PassesOwn.never rfl (pi_tup (pv 12)) (pg_name (i := 16) sc_law.nd rfl (Or.inl rfl)) (pss_one (ps_if (PW.pt (pw_and (pt_cmpR op_isN (pv 15) pe_non (nomark _)) (pw_and1 (pt_chain op_le op_lt (pe_ix ix_tup (pv 16) pe_int (fun _ _ => rfl)) (pv 14) (pe_ix ix_tup (pv 16) pe_int (fun _ _ => rfl)))))) (pss_one (ps_set (i := 15) sc_law.nd rfl (Or.inl rfl) (pv 16))) pss_nil)))
      (pss_cons (ps_for PassesOwn.never rfl (pi_range1 rfl T.b_range (pa_cons pe_int pa_nil)) (pg_name (i := 17) sc_law.nd rfl (Or.inl rfl)) (pss_cons (ps_if (PW.pt (pw_or (pt_not (pt_val (pe_call G_law_same (hr.mono (by decide)) rfl T.g__law_same T.k__law_same T.bd__law_same .nil pass0 (pa_cons (pe_call G_operands (hr.mono (by decide)) rfl T.g_operands T.k_operands T.bd_operands .nil pass0 (pa_cons (pv 5) pa_nil)) (pa_cons (pv 6) pa_nil))))) (pw_or1 (pt_not (pt_val (pe_call G_law_same (hr.mono (by decide)) rfl T.g__law_same T.k__law_same T.bd__law_same .nil pass0 (pa_cons (pe_call G_reads (hr.mono (by decide)) rfl T.g_reads T.k_reads T.bd_reads .nil pass0 (pa_cons (pv 5) pa_nil)) (pa_cons (pv 10) pa_nil)))))))) (pss_one (ps_ret pe_bl)) pss_nil)
      (pss_cons (ps_if (PW.pt (pw_or (pt_not (pt_val (pe_call G_law_same (hr.mono (by decide)) rfl T.g__law_same T.k__law_same T.bd__law_same .nil pass0 (pa_cons (pe_call G_writes (hr.mono (by decide)) rfl T.g_writes T.k_writes T.bd_writes .nil pass0 (pa_cons (pv 5) pa_nil)) (pa_cons (pv 7) pa_nil))))) (pw_or1 (pt_not (pt_val (pe_call G_law_same (hr.mono (by decide)) rfl T.g__law_same T.k__law_same T.bd__law_same .nil pass0 (pa_cons (pe_call G_can_raise (hr.mono (by decide)) rfl T.g_can_raise T.k_can_raise T.bd_can_raise .nil pass0 (pa_cons (pv 5) pa_nil)) (pa_cons (pv 9) pa_nil)))))))) (pss_one (ps_ret pe_bl)) pss_nil)
      (pss_one (ps_if (PW.pt (pw_or (pt_not (pt_val (pe_call G_law_same (hr.mono (by decide)) rfl T.g__law_same T.k__law_same T.bd__law_same .nil pass0 (pa_cons (pe_call G_followers (hr.mono (by decide)) rfl T.g_followers T.k_followers T.bd_followers .nil pass0 (pa_cons (pv 5) (pa_cons (pv 4) pa_nil))) (pa_cons (pv 8) pa_nil))))) (pw_or1 (pt_not (pt_val (pe_call G_law_same (hr.mono (by decide)) rfl T.g__law_same T.k__law_same T.bd__law_same .nil pass0 (pa_cons (pe_call G_region_of (hr.mono (by decide)) rfl T.g_region_of T.k_region_of T.bd_region_of .nil pass0 (pa_cons (pv 13) (pa_cons (pv 14) pa_nil))) (pa_cons (pv 15) pa_nil)))))))) (pss_one (ps_ret pe_bl)) pss_nil)))))
      (pss_one (ps_ret pe_bl)))))))))))))))), ?_⟩
    refine ⟨_, rfl, sa, _, rfl, .inl hS, fun ca nca => ⟨(by show 4 ≤ sizeLine; decide), fun st nst => ?_⟩⟩
    have ncs : ca ≠ st := ne_of_none upd_same nst
    have S1 : StP K (upd (upd H ca (.lst (ns.map V.int))) st (.lst [.ref ca, .int 0, .int 0, .int 0])) st ca ns := ⟨⟨_, _, _, Int.le_refl 0, upd_same⟩, SqL.of (by rw [upd_ne ncs]; exact upd_same), fun e => absurd e.symm ncs⟩
    generalize upd (upd H ca (.lst (ns.map V.int))) st (.lst [.ref ca, .int 0, .int 0, .int 0]) = H1 at S1 ⊢
    refine ⟨(by show 14 ≤ sizeLine; decide), fun l1 n1 => ⟨_, rfl, (by show 9 ≤ sizeLine; decide), fun l2 n2 => ?_⟩⟩
    refine ⟨l1, l2, _, _, rfl, rfl, sN (Same.refl _) n2 _ _ upd_same, upd_same, (by show 23 ≤ sizeLine; decide), fun l3 n3 => ?_⟩
    refine ⟨_, rfl, _, rfl, _, rfl, l3, _, rfl, .inl (SqL.of upd_same), st, ca, ns, 23, rfl, S1.same (sN (sN (sN (Same.refl _) n1) n2) n3), by decide, by decide, fun v H2 v0 v1 S3 f3 => ?_⟩
    have hl3 : l3 ∉ [st] := fun e => by
      obtain ⟨_, _, _, _, e1⟩ := (S1.same (sN (sN (Same.refl _) n1) n2)).at'
      rw [List.mem_singleton.mp e, e1] at n3; cases n3
    obtain ⟨nm, hnm, hat⟩ := nR_at v0 v1
    refine ⟨_, _, _, _, rfl, rfl, SqL.of (f3 _ _ upd_same hl3), hat, ?_⟩
    clear f3 hl3 n3 n2 n1 nst nca S1
    refine ⟨_, rfl, st, ca, ns, 30, rfl, S3, by decide, by decide, fun ix H3 i0 i1 S4 f4 => ?_⟩
    refine ⟨_, rfl, _, rfl, _, rfl, st, ca, ns, nm, ix, rfl, S4, hnm, fun p vi vg vw vb ds gs ws bs H4 hp R S5 f5 => ?_⟩
    refine ⟨p, _, rfl, SqL.of hp, rfl, _, _, rfl, _, _, rfl, _, _, rfl, _, _, rfl, rfl, ?_⟩
    clear f4 f5 S3 S4 hp
    refine ⟨_, rfl, (by show 13 ≤ sizeLine; decide), fun tp ntp => ⟨tp, rss, rfl, .inr (SqT.of upd_same), rfl, by decide +kernel, ?_⟩⟩
    have R5 := R.keep (KT.new ntp (o := .tup rss))
    have S6 := S5.same (sN (Same.refl _) ntp (o := .tup rss))
    clear R S5 ntp
    unfold rss at R5 S6
    generalize upd H4 tp (HO.tup _) = H5 at R5 S6 ⊢
    obtain ⟨ga, gx, rfl, hgs, hgd⟩ := R5.g.ts
    have hgl := hgd.len
    refine ⟨_, rfl, ga, rfl, ⟨_, hgs⟩, fun L nL => ?_⟩
    refine lc_tup (K := K) (a := ga) (xs := gx) (fun i H' => Same H5 H' ∧ ∃ us, H' L = some (.lst us) ∧ us.length ≤ i ∧ DTs K H' us (rdOf (gs.take i))) ⟨sN (Same.refl H5) nL, [], upd_same, Nat.le_refl _, .nil⟩ (fun i H' _ h => seqT h.1 hgs) ?_ ?_
    · rintro i x H' hx ⟨ss, us, hL, hul, hus⟩
      obtain ⟨d, ed, dx⟩ := hgd.at hx
      rw [List.getElem?_map] at ed
      obtain ⟨⟨z, n⟩, eg, rfl⟩ := Option.map_eq_some_iff.mp ed
      obtain ⟨pb, rfl, hys⟩ := (dx.keep (KT.same ss)).op
      have hi : i < gx.length := (List.getElem?_eq_some_iff.mp hx).1
      have hlg := R5.lg
      refine ⟨rfl, ?_⟩
      refine ⟨_, rfl, _, _, _, _, rfl, rfl, hys, at0, rfl, _, rfl, ?_⟩
      have hr : rdOf (gs.take (i + 1)) = rdOf (gs.take i) ++ (if decide (V.str z = V.str "reg") = true then [.int n] else []) := by
        unfold rdOf
        rw [filter_step _ eg, List.map_append]
        by_cases c : z = "reg"
        · simp [c]
        · have : ¬ V.str z = V.str "reg" := fun e => c (by injection e)
          simp [c, this]
      rw [hr]
      cases e : decide (V.str z = V.str "reg") with
      | true =>
        refine iteT ⟨_, rfl, _, _, _, _, rfl, rfl, hys, atI_nat (j := 1) rfl, us, hL, (by simp at hgl; omega), sUpd ss nL, us ++ [.int n], upd_same, by simp; omega, ?_⟩
        exact (hus.app (.cons (.int n) .nil)).keep (KT.put hL)
      | false => exact iteF ⟨ss, us, hL, by omega, by simpa using hus⟩
    rintro H6 ⟨ss, us, hL, hul, hus⟩
    rw [hgl, List.length_map, List.take_length] at hus
    refine ⟨L, us, rfl, .inl ⟨SqL.of hL, fun pr npr => ?_⟩⟩
    have dr := lay npr hus
    have R7 := R5.keep ((KT.same ss).tr (KT.new npr (o := .tup us)))
    have S7 := S6.same (sN ss npr (o := .tup us))
    clear R5 S6 ss nL hgs hgd hgl hL hul hus
    generalize upd H6 pr (.tup us) = H7 at R7 S7 dr ⊢
    refine ⟨_, rfl, st, ca, ns, rfl, S7, fun vr rs H8 dR h5 S8 f8 => ?_⟩
    have R8 := R7.keep (S7.kt f8)
    have dr8 := dr.keep (S7.kt f8)
    clear R7 dr f8 S7
    obtain ⟨ra, rx, rfl, hrs, hrd⟩ := dR.ts
    refine ⟨_, rfl, (by show 1 ≤ sizeLine; decide), fun t1 m1 => ⟨(by show 1 ≤ sizeLine; decide), fun t2 m2 => ⟨_, _, _, rfl, rfl, SqT.of upd_same, (fun z => nomatch z), by decide, by decide, (by show 1 ≤ 1000; decide), fun t3 m3 => ?_⟩⟩⟩
    refine ⟨by decide, fun t4 m4 => ⟨(by show 2 ≤ sizeLine; decide), fun t5 m5 => ⟨(by show 1 ≤ sizeLine; decide), fun t6 m6 => ?_⟩⟩⟩
    refine ⟨_, _, _, _, rfl, rfl, SqT.of (sN (sN (sN (Same.refl _) m4) m5) m6 _ _ upd_same), SqT.of upd_same, (fun z => nomatch z), (by show 60 + 1 ≤ sizeLine; decide), (fun z => nomatch z), fun _ t7 m7 => ?_⟩
    refine ⟨_, rfl, fun x dx nx ndx nex => ⟨x, dx, _, _, _, _, _, _, _, rfl, upd_same, rfl, ?_⟩⟩
    have s9 := made (C := a.C_Unit) (fs := []) (gs := unF (.int (-1)) (.int 0) (.int 0) (.int 7) (.int 0) (.ref t7) (.ref ra)) (sN (sN (sN (sN (sN (sN (sN (Same.refl _) m1) m2) m3) m4) m5) m6) m7) nx ndx nex
    have R9 := R8.keep (KT.same s9)
    have dr9 := dr8.keep (KT.same s9)
    have hrs9 := KT.same s9 _ _ hrs
    have hrd9 := hrd.keep (KT.same s9)
    have S9 := S8.same s9
    clear R8 dr8 dR S8 s9 nx ndx nex m1 m2 m3 m4 m5 m6 m7
    generalize hg : upd (upd (upd _ dx (.own x)) x (.ins a.C_Unit dx [])) x _ = H9 at R9 dr9 hrs9 hrd9 S9 ⊢
    have hx : H9 x = some (.ins a.C_Unit dx (unF (.int (-1)) (.int 0) (.int 0) (.int 7) (.int 0) (.ref t7) (.ref ra))) := by rw [← hg]; exact upd_same
    clear hg
    have hxs : x ∉ [st] := fun e => by
      obtain ⟨_, _, _, _, e1⟩ := S9.at'
      rw [List.mem_singleton.mp e, e1] at hx; cases hx
    refine ⟨_, rfl, st, ca, ns, 45, rfl, S9, by decide, by decide, fun at' H10 _ _ S10 f10 => ?_⟩
    have kk := S9.kt f10
    have R10 := R9.keep kk
    have dr10 := dr9.keep kk
    have hrs10 := kk _ _ hrs9
    have hrd10 := hrd9.keep kk
    have hx10 := f10 _ _ hx hxs
    clear R9 dr9 hrs9 hrd9 hx hxs kk f10 S9
    have hrl := hrd10.len
    have hfR : ∀ i r, rs[i]? = some r → (rs.take (i + 1)).find? (inR at') = ((rs.take i).find? (inR at')).or (if inR at' r = true then some r else none) := fun i r er => by
      rw [List.take_succ, er, List.find?_append]
      cases e : inR at' r <;> simp [e]
    refine ⟨_, rfl, ra, rfl, ⟨_, hrs10⟩, ?_⟩
    refine for_tup (K := K) (a := ra) (xs := rx) (fun i σ H' => H' = H10 ∧ ∃ tv rg, DT K H10 tv (findR (rs.take i) at') ∧ σ = [some (.ref sa), some (.ref st), some (.ref l3), some (.str nm), some (.int ix), some vi, some (.ref ga), some vw, some vb, some (.bl (inV (.str nm) rss)), some (.ref pr), none, some (.ref ra), some (.ref x), some (.int at'), some tv, rg, none])
      ⟨rfl, _, _, .non, rfl⟩ (fun i σ H' _ h => by rw [h.1]; exact hrs10) ?_ ?_
    · rintro i y σ H' hy ⟨rfl, tv, rg, dt, rfl⟩
      obtain ⟨d, ed, dy⟩ := hrd10.at hy
      rw [List.getElem?_map] at ed
      obtain ⟨r, er, rfl⟩ := Option.map_eq_some_iff.mp ed
      have hr5 := h5 r (List.mem_of_getElem? er)
      obtain ⟨pb, ys, rfl, hys, hd2⟩ := dy.ts
      obtain ⟨u0, e0, k0⟩ := hd2.it 0 (ints_get (r := r) (i := 0) (by omega))
      obtain ⟨u1, e1, k1⟩ := hd2.it 1 (ints_get (r := r) (i := 1) (by omega))
      cases k0.i
      cases k1.i
      have hf := hfR i r er
      refine ⟨_, rfl, rfl, _, rfl, ite3 (fun c => ?_) (fun c => iteF ?_)⟩
      · have etv : tv = .non := of_decide_eq_true c
        subst etv
        have hn : (rs.take i).find? (inR at') = none := by
          unfold findR at dt
          cases e : (rs.take i).find? (inR at') with
          | none => rfl
          | some r' => rw [e] at dt; cases dt
        rw [hn] at hf
        have same : inR at' r = false → DT K H' .non (findR (rs.take (i + 1)) at') := fun c => by
          unfold findR
          rw [hf, c]
          exact .non
        refine ⟨_, rfl, _, _, _, _, rfl, rfl, hys, e0, _, rfl, _, _, rfl, rfl, _, rfl, ?_⟩
        cases c0 : decide (r.getD 0 0 ≤ at') with
        | false =>
          refine iteF ⟨_, rfl, iteF ?_⟩
          exact ⟨rfl, _, _, same (by unfold inR; rw [c0]; rfl), rfl⟩
        | true =>
          refine iteT ⟨_, rfl, _, _, _, _, rfl, rfl, hys, e1, _, _, rfl, rfl, _, rfl, ?_⟩
          cases c1 : decide (at' < r.getD 1 0) with
          | false => exact iteF ⟨rfl, _, _, same (by unfold inR; rw [c0, c1]; rfl), rfl⟩
          | true =>
            have : inR at' r = true := by unfold inR; rw [c0, c1]; rfl
            refine iteT ⟨_, rfl, rfl, _, _, ?_, rfl⟩
            unfold findR
            rw [hf, if_pos this]
            exact dy
      · refine ⟨rfl, _, _, ?_, rfl⟩
        have ne : tv ≠ .non := of_decide_eq_false c
        unfold findR at dt ⊢
        cases e : (rs.take i).find? (inR at') with
        | none => rw [e] at dt; cases dt; exact absurd rfl ne
        | some r' => rw [hf, e]; rw [e] at dt; exact dt
    rintro σ H' ⟨rfl, tv, rg, dt, rfl⟩
    rw [hrl, List.length_map, List.take_length] at dt
    clear hfR hrl
    refine ⟨2, rfl, by decide, by decide, ?_⟩
    refine for_range (lo := 0) (n := 2) (fun i σ H2 => Same H' H2 ∧ ∃ o, σ = [some (.ref sa), some (.ref st), some (.ref l3), some (.str nm), some (.int ix), some vi, some (.ref ga), some vw, some vb, some (.bl (inV (.str nm) rss)), some (.ref pr), none, some (.ref ra), some (.ref x), some (.int at'), some tv, rg, o])
      ⟨Same.refl _, _, rfl⟩ ?_ ?_
    · rintro i σ H2 hi ⟨s2, o, rfl⟩
      have A2 := R10.keep (KT.same s2)
      refine ⟨_, rfl, vi, nm, ds, gs.map opD, rfl, A2.i, A2.og, A2.ld, fun u1 H3 d1 s3 => ⟨_, rfl, u1, .ref ga, .tuple (gs.map opD), rfl, d1, A2.g.keep (KT.same s3), ops_ok gs A2.lg, fun H4 s4 => ⟨_, rfl, iteF ?_⟩⟩⟩
      have t4 := sTr (sTr s2 s3) s4
      have A4 := R10.keep (KT.same t4)
      refine ⟨_, rfl, vi, nm, ds, gs, rfl, A4.i, A4.og, A4.ld, A4.lg, fun u2 H5 d2 s5 => ⟨_, rfl, u2, .ref pr, .tuple (rdOf gs), rfl, d2, dr10.keep (KT.same (sTr t4 s5)), rd_ok gs A4.lg, fun H6 s6 => ⟨_, rfl, iteF ?_⟩⟩⟩
      have t6 := sTr (sTr t4 s5) s6
      have A6 := R10.keep (KT.same t6)
      refine ⟨_, rfl, vi, nm, ds, ws.map .int, rfl, A6.i, A6.ow, fun u3 H7 d3 s7 => ⟨_, rfl, u3, vw, .tuple (ws.map .int), rfl, d3, A6.w.keep (KT.same s7), ints_ok ws A6.lw, fun H8 s8 => ⟨_, rfl, iteF ?_⟩⟩⟩
      have t8 := sTr (sTr t6 s7) s8
      have A8 := R10.keep (KT.same t8)
      refine ⟨_, rfl, vi, nm, ds, rfl, A8.i, _, rfl, _, _, .bool (inV (.str nm) rss), rfl, .bl _, .bl _, trivial, fun H9 s9 => ⟨_, rfl, iteF ?_⟩⟩
      have t9 := sTr t8 s9
      have A9 := R10.keep (KT.same t9)
      refine ⟨_, rfl, _, rfl, vi, nm, ds, bs.map .int, ix, rfl, A9.i, A9.ob, fun u5 Ha d5 sa5 => ⟨_, rfl, u5, vb, .tuple (bs.map .int), rfl, d5, A9.b.keep (KT.same sa5), ints_ok bs A9.lb, fun Hb sb => ⟨_, rfl, iteF ?_⟩⟩⟩
      have tb := sTr (sTr t9 sa5) sb
      refine ⟨_, rfl, _, rfl, x, dx, _, _, _, _, _, _, ra, rx, rs, at', rfl, tb _ _ hx10, KT.same tb _ _ hrs10, hrd10.keep (KT.same tb), (fun r hr => by rw [h5 r hr]; decide), fun u6 d6 => ⟨_, rfl, u6, tv, findR rs at', rfl, d6, dt.keep (KT.same tb), okD_up (findR_ok rs at' h5), fun Hc sc => ⟨_, rfl, iteF ?_⟩⟩⟩
      exact ⟨sTr tb sc, _, rfl⟩
    · rintro σ H2 ⟨s2, o, rfl⟩
      exact q _
end

theorem all_mk {l : PySem.W.OpenLaw} {w : World} {K : PySem.W.Frag} {h : Heap} {mg : Str → Option Value} {fa : Addr} (X : K.In h) (G : h.Ns mainGlobals mg) (hfa : mg "law" = some (.ref fa))
    {C_Unit : Addr} (aC_Unit : PySem.W.nsIn K mainGlobals "Unit" = some (some (.ref C_Unit)))
    (pg_Unit : PySem.W.plainGet K C_Unit Str.empty = true) (hd_Unit : PySem.W.hasDictIn K C_Unit = true) (po_Unit : PySem.W.plainOver K C_Unit = true) (sa_Unit : PySem.W.findIn K (.ref C_Unit) "__setattr__" = some (some (.builtin "object.__setattr__"))) (mk_Unit : PySem.W.makesIn K C_Unit = true) (kC_Unit : PySem.W.keepIn K (.ref C_Unit) = true)
    (n_Unit_parent : PySem.W.findIn K (.ref C_Unit) "parent" = some none)
    (n_Unit_arguments : PySem.W.findIn K (.ref C_Unit) "arguments" = some none)
    (n_Unit_results : PySem.W.findIn K (.ref C_Unit) "results" = some none)
    (n_Unit_registers : PySem.W.findIn K (.ref C_Unit) "registers" = some none)
    (n_Unit_cells : PySem.W.findIn K (.ref C_Unit) "cells" = some none)
    (n_Unit_code : PySem.W.findIn K (.ref C_Unit) "code" = some none)
    (n_Unit_regions : PySem.W.findIn K (.ref C_Unit) "regions" = some none)
    {f_Unit___init__ : Addr} {oc_Unit___init__ : Value} {od_Unit___init__ an_Unit___init__ : Option Addr} {sl_Unit___init__ : Array (Option Value)} {kV_Unit___init__ dc_Unit___init__ pm_Unit___init__ cd_Unit___init__ ct_Unit___init__ : Value}
    (a_Unit___init__ : PySem.W.findIn K (.ref C_Unit) "__init__" = some (some (.ref f_Unit___init__)))
    (i_Unit___init__ : PySem.W.isFn K (.ref f_Unit___init__) = true)
    (l_Unit___init__ : K.lookup f_Unit___init__ = some ⟨oc_Unit___init__, od_Unit___init__, .func (PySem.W.fnOf "__init__" "Unit.__init__" (defArgs s_Unit___init__) (defBody s_Unit___init__) (defScope s_Unit___init__) .none kV_Unit___init__ dc_Unit___init__ pm_Unit___init__ an_Unit___init__ cd_Unit___init__ ct_Unit___init__), sl_Unit___init__⟩)
    (c_Unit___init__ : PySem.W.codeIn K cd_Unit___init__ "Unit.__init__" = true)
    (k_Unit___init__ : PySem.W.keepIn K (.ref f_Unit___init__) = true)
    {f_operands : Addr} {oc_operands : Value} {od_operands an_operands : Option Addr} {sl_operands : Array (Option Value)} {kV_operands dc_operands pm_operands cd_operands ct_operands : Value}
    (a_operands : PySem.W.nsIn K mainGlobals "operands" = some (some (.ref f_operands)))
    (l_operands : K.lookup f_operands = some ⟨oc_operands, od_operands, .func (PySem.W.fnOf "operands" "operands" (defArgs s_operands) (defBody s_operands) (defScope s_operands) .none kV_operands dc_operands pm_operands an_operands cd_operands ct_operands), sl_operands⟩)
    (c_operands : PySem.W.codeIn K cd_operands "operands" = true)
    (k_operands : PySem.W.keepIn K (.ref f_operands) = true)
    {f_reads : Addr} {oc_reads : Value} {od_reads an_reads : Option Addr} {sl_reads : Array (Option Value)} {kV_reads dc_reads pm_reads cd_reads ct_reads : Value}
    (a_reads : PySem.W.nsIn K mainGlobals "reads" = some (some (.ref f_reads)))
    (l_reads : K.lookup f_reads = some ⟨oc_reads, od_reads, .func (PySem.W.fnOf "reads" "reads" (defArgs s_reads) (defBody s_reads) (defScope s_reads) .none kV_reads dc_reads pm_reads an_reads cd_reads ct_reads), sl_reads⟩)
    (c_reads : PySem.W.codeIn K cd_reads "reads" = true)
    (k_reads : PySem.W.keepIn K (.ref f_reads) = true)
    {f_writes : Addr} {oc_writes : Value} {od_writes an_writes : Option Addr} {sl_writes : Array (Option Value)} {kV_writes dc_writes pm_writes cd_writes ct_writes : Value}
    (a_writes : PySem.W.nsIn K mainGlobals "writes" = some (some (.ref f_writes)))
    (l_writes : K.lookup f_writes = some ⟨oc_writes, od_writes, .func (PySem.W.fnOf "writes" "writes" (defArgs s_writes) (defBody s_writes) (defScope s_writes) .none kV_writes dc_writes pm_writes an_writes cd_writes ct_writes), sl_writes⟩)
    (c_writes : PySem.W.codeIn K cd_writes "writes" = true)
    (k_writes : PySem.W.keepIn K (.ref f_writes) = true)
    {f_can_raise : Addr} {oc_can_raise : Value} {od_can_raise an_can_raise : Option Addr} {sl_can_raise : Array (Option Value)} {kV_can_raise dc_can_raise pm_can_raise cd_can_raise ct_can_raise : Value}
    (a_can_raise : PySem.W.nsIn K mainGlobals "can_raise" = some (some (.ref f_can_raise)))
    (l_can_raise : K.lookup f_can_raise = some ⟨oc_can_raise, od_can_raise, .func (PySem.W.fnOf "can_raise" "can_raise" (defArgs s_can_raise) (defBody s_can_raise) (defScope s_can_raise) .none kV_can_raise dc_can_raise pm_can_raise an_can_raise cd_can_raise ct_can_raise), sl_can_raise⟩)
    (c_can_raise : PySem.W.codeIn K cd_can_raise "can_raise" = true)
    (k_can_raise : PySem.W.keepIn K (.ref f_can_raise) = true)
    {f_followers : Addr} {oc_followers : Value} {od_followers an_followers : Option Addr} {sl_followers : Array (Option Value)} {kV_followers dc_followers pm_followers cd_followers ct_followers : Value}
    (a_followers : PySem.W.nsIn K mainGlobals "followers" = some (some (.ref f_followers)))
    (l_followers : K.lookup f_followers = some ⟨oc_followers, od_followers, .func (PySem.W.fnOf "followers" "followers" (defArgs s_followers) (defBody s_followers) (defScope s_followers) .none kV_followers dc_followers pm_followers an_followers cd_followers ct_followers), sl_followers⟩)
    (c_followers : PySem.W.codeIn K cd_followers "followers" = true)
    (k_followers : PySem.W.keepIn K (.ref f_followers) = true)
    {f_region_of : Addr} {oc_region_of : Value} {od_region_of an_region_of : Option Addr} {sl_region_of : Array (Option Value)} {kV_region_of dc_region_of pm_region_of cd_region_of ct_region_of : Value}
    (a_region_of : PySem.W.nsIn K mainGlobals "region_of" = some (some (.ref f_region_of)))
    (l_region_of : K.lookup f_region_of = some ⟨oc_region_of, od_region_of, .func (PySem.W.fnOf "region_of" "region_of" (defArgs s_region_of) (defBody s_region_of) (defScope s_region_of) .none kV_region_of dc_region_of pm_region_of an_region_of cd_region_of ct_region_of), sl_region_of⟩)
    (c_region_of : PySem.W.codeIn K cd_region_of "region_of" = true)
    (k_region_of : PySem.W.keepIn K (.ref f_region_of) = true)
    {f_law_pick : Addr} {oc_law_pick : Value} {od_law_pick an_law_pick : Option Addr} {sl_law_pick : Array (Option Value)} {kV_law_pick dc_law_pick pm_law_pick cd_law_pick ct_law_pick : Value}
    (a_law_pick : PySem.W.nsIn K mainGlobals "_law_pick" = some (some (.ref f_law_pick)))
    (l_law_pick : K.lookup f_law_pick = some ⟨oc_law_pick, od_law_pick, .func (PySem.W.fnOf "_law_pick" "_law_pick" (defArgs s_law_pick) (defBody s_law_pick) (defScope s_law_pick) .none kV_law_pick dc_law_pick pm_law_pick an_law_pick cd_law_pick ct_law_pick), sl_law_pick⟩)
    (c_law_pick : PySem.W.codeIn K cd_law_pick "_law_pick" = true)
    (k_law_pick : PySem.W.keepIn K (.ref f_law_pick) = true)
    {f_law_same : Addr} {oc_law_same : Value} {od_law_same an_law_same : Option Addr} {sl_law_same : Array (Option Value)} {kV_law_same dc_law_same pm_law_same cd_law_same ct_law_same : Value}
    (a_law_same : PySem.W.nsIn K mainGlobals "_law_same" = some (some (.ref f_law_same)))
    (l_law_same : K.lookup f_law_same = some ⟨oc_law_same, od_law_same, .func (PySem.W.fnOf "_law_same" "_law_same" (defArgs s_law_same) (defBody s_law_same) (defScope s_law_same) .none kV_law_same dc_law_same pm_law_same an_law_same cd_law_same ct_law_same), sl_law_same⟩)
    (c_law_same : PySem.W.codeIn K cd_law_same "_law_same" = true)
    (k_law_same : PySem.W.keepIn K (.ref f_law_same) = true)
    {f_law_operand : Addr} {oc_law_operand : Value} {od_law_operand an_law_operand : Option Addr} {sl_law_operand : Array (Option Value)} {kV_law_operand dc_law_operand pm_law_operand cd_law_operand ct_law_operand : Value}
    (a_law_operand : PySem.W.nsIn K mainGlobals "_law_operand" = some (some (.ref f_law_operand)))
    (l_law_operand : K.lookup f_law_operand = some ⟨oc_law_operand, od_law_operand, .func (PySem.W.fnOf "_law_operand" "_law_operand" (defArgs s_law_operand) (defBody s_law_operand) (defScope s_law_operand) .none kV_law_operand dc_law_operand pm_law_operand an_law_operand cd_law_operand ct_law_operand), sl_law_operand⟩)
    (c_law_operand : PySem.W.codeIn K cd_law_operand "_law_operand" = true)
    (k_law_operand : PySem.W.keepIn K (.ref f_law_operand) = true)
    {f_law_target : Addr} {oc_law_target : Value} {od_law_target an_law_target : Option Addr} {sl_law_target : Array (Option Value)} {kV_law_target dc_law_target pm_law_target cd_law_target ct_law_target : Value}
    (a_law_target : PySem.W.nsIn K mainGlobals "_law_target" = some (some (.ref f_law_target)))
    (l_law_target : K.lookup f_law_target = some ⟨oc_law_target, od_law_target, .func (PySem.W.fnOf "_law_target" "_law_target" (defArgs s_law_target) (defBody s_law_target) (defScope s_law_target) .none kV_law_target dc_law_target pm_law_target an_law_target cd_law_target ct_law_target), sl_law_target⟩)
    (c_law_target : PySem.W.codeIn K cd_law_target "_law_target" = true)
    (k_law_target : PySem.W.keepIn K (.ref f_law_target) = true)
    {f_law_plain_row : Addr} {oc_law_plain_row : Value} {od_law_plain_row an_law_plain_row : Option Addr} {sl_law_plain_row : Array (Option Value)} {kV_law_plain_row dc_law_plain_row pm_law_plain_row cd_law_plain_row ct_law_plain_row : Value}
    (a_law_plain_row : PySem.W.nsIn K mainGlobals "_law_plain_row" = some (some (.ref f_law_plain_row)))
    (l_law_plain_row : K.lookup f_law_plain_row = some ⟨oc_law_plain_row, od_law_plain_row, .func (PySem.W.fnOf "_law_plain_row" "_law_plain_row" (defArgs s_law_plain_row) (defBody s_law_plain_row) (defScope s_law_plain_row) .none kV_law_plain_row dc_law_plain_row pm_law_plain_row an_law_plain_row cd_law_plain_row ct_law_plain_row), sl_law_plain_row⟩)
    (c_law_plain_row : PySem.W.codeIn K cd_law_plain_row "_law_plain_row" = true)
    (k_law_plain_row : PySem.W.keepIn K (.ref f_law_plain_row) = true)
    {f_law_row : Addr} {oc_law_row : Value} {od_law_row an_law_row : Option Addr} {sl_law_row : Array (Option Value)} {kV_law_row dc_law_row pm_law_row cd_law_row ct_law_row : Value}
    (a_law_row : PySem.W.nsIn K mainGlobals "_law_row" = some (some (.ref f_law_row)))
    (l_law_row : K.lookup f_law_row = some ⟨oc_law_row, od_law_row, .func (PySem.W.fnOf "_law_row" "_law_row" (defArgs s_law_row) (defBody s_law_row) (defScope s_law_row) .none kV_law_row dc_law_row pm_law_row an_law_row cd_law_row ct_law_row), sl_law_row⟩)
    (c_law_row : PySem.W.codeIn K cd_law_row "_law_row" = true)
    (k_law_row : PySem.W.keepIn K (.ref f_law_row) = true)
    {f_law_regions : Addr} {oc_law_regions : Value} {od_law_regions an_law_regions : Option Addr} {sl_law_regions : Array (Option Value)} {kV_law_regions dc_law_regions pm_law_regions cd_law_regions ct_law_regions : Value}
    (a_law_regions : PySem.W.nsIn K mainGlobals "_law_regions" = some (some (.ref f_law_regions)))
    (l_law_regions : K.lookup f_law_regions = some ⟨oc_law_regions, od_law_regions, .func (PySem.W.fnOf "_law_regions" "_law_regions" (defArgs s_law_regions) (defBody s_law_regions) (defScope s_law_regions) .none kV_law_regions dc_law_regions pm_law_regions an_law_regions cd_law_regions ct_law_regions), sl_law_regions⟩)
    (c_law_regions : PySem.W.codeIn K cd_law_regions "_law_regions" = true)
    (k_law_regions : PySem.W.keepIn K (.ref f_law_regions) = true)
    {f_law : Addr} {oc_law : Value} {od_law an_law : Option Addr} {sl_law : Array (Option Value)} {kV_law dc_law pm_law cd_law ct_law : Value}
    (a_law : PySem.W.nsIn K mainGlobals "law" = some (some (.ref f_law)))
    (l_law : K.lookup f_law = some ⟨oc_law, od_law, .func (PySem.W.fnOf "law" "law" (defArgs s_law) (defBody s_law) (defScope s_law) .none kV_law dc_law pm_law an_law cd_law ct_law), sl_law⟩)
    (c_law : PySem.W.codeIn K cd_law "law" = true)
    (k_law : PySem.W.keepIn K (.ref f_law) = true)
    {c_LEAVING : Addr} {o_LEAVING : Obj} (a_LEAVING : PySem.W.nsIn K mainGlobals "LEAVING" = some (some (.ref c_LEAVING))) (l_LEAVING : K.lookup c_LEAVING = some o_LEAVING) (q_LEAVING : IsTupOf o_LEAVING [.str "return", .str "raise", .str "again"])
    {c_RAISING : Addr} {o_RAISING : Obj} (a_RAISING : PySem.W.nsIn K mainGlobals "RAISING" = some (some (.ref c_RAISING))) (l_RAISING : K.lookup c_RAISING = some o_RAISING) (q_RAISING : IsTupOf o_RAISING [.str "neg", .str "abs", .str "add", .str "sub", .str "mul", .str "div", .str "mod", .str "rem", .str "check", .str "call", .str "raise", .str "again", .str "get"])
    {c_WRITING : Addr} {o_WRITING : Obj} (a_WRITING : PySem.W.nsIn K mainGlobals "WRITING" = some (some (.ref c_WRITING))) (l_WRITING : K.lookup c_WRITING = some o_WRITING) (q_WRITING : IsTupOf o_WRITING [.str "move", .str "neg", .str "abs", .str "add", .str "sub", .str "mul", .str "div", .str "mod", .str "rem", .str "less", .str "equal", .str "load", .str "get"])
    (z_all : PySem.W.nsIn K mainGlobals "all" = some none)
    (z_bool : PySem.W.nsIn K mainGlobals "bool" = some none)
    (z_int : PySem.W.nsIn K mainGlobals "int" = some none)
    (z_isinstance : PySem.W.nsIn K mainGlobals "isinstance" = some none)
    (z_len : PySem.W.nsIn K mainGlobals "len" = some none)
    (z_list : PySem.W.nsIn K mainGlobals "list" = some none)
    (z_max : PySem.W.nsIn K mainGlobals "max" = some none)
    (z_min : PySem.W.nsIn K mainGlobals "min" = some none)
    (z_range : PySem.W.nsIn K mainGlobals "range" = some none)
    (z_set : PySem.W.nsIn K mainGlobals "set" = some none)
    (z_sorted : PySem.W.nsIn K mainGlobals "sorted" = some none)
    (z_str : PySem.W.nsIn K mainGlobals "str" = some none)
    (z_tuple : PySem.W.nsIn K mainGlobals "tuple" = some none) :
    ∃ fd : FuncData, (∀ (s : Shared) (v : Value), BindsTo s fd ⟨[v], []⟩ [("script", v)]) ∧ ∀ base : Heap, K.In base → base.Ns mainGlobals mg → FnOk l.prog w K mg base CX0 12 fa fd ["script"] (spLaw K) := by
  have e := hfa.symm.trans (PySem.W.mg_of X G a_law)
  cases e
  let a : Ad := { f_Unit___init__ := f_Unit___init__, d_Unit___init__ := PySem.W.fnOf "__init__" "Unit.__init__" (defArgs s_Unit___init__) (defBody s_Unit___init__) (defScope s_Unit___init__) .none kV_Unit___init__ dc_Unit___init__ pm_Unit___init__ an_Unit___init__ cd_Unit___init__ ct_Unit___init__, f_operands := f_operands, d_operands := PySem.W.fnOf "operands" "operands" (defArgs s_operands) (defBody s_operands) (defScope s_operands) .none kV_operands dc_operands pm_operands an_operands cd_operands ct_operands, f_reads := f_reads, d_reads := PySem.W.fnOf "reads" "reads" (defArgs s_reads) (defBody s_reads) (defScope s_reads) .none kV_reads dc_reads pm_reads an_reads cd_reads ct_reads, f_writes := f_writes, d_writes := PySem.W.fnOf "writes" "writes" (defArgs s_writes) (defBody s_writes) (defScope s_writes) .none kV_writes dc_writes pm_writes an_writes cd_writes ct_writes, f_can_raise := f_can_raise, d_can_raise := PySem.W.fnOf "can_raise" "can_raise" (defArgs s_can_raise) (defBody s_can_raise) (defScope s_can_raise) .none kV_can_raise dc_can_raise pm_can_raise an_can_raise cd_can_raise ct_can_raise, f_followers := f_followers, d_followers := PySem.W.fnOf "followers" "followers" (defArgs s_followers) (defBody s_followers) (defScope s_followers) .none kV_followers dc_followers pm_followers an_followers cd_followers ct_followers, f_region_of := f_region_of, d_region_of := PySem.W.fnOf "region_of" "region_of" (defArgs s_region_of) (defBody s_region_of) (defScope s_region_of) .none kV_region_of dc_region_of pm_region_of an_region_of cd_region_of ct_region_of, f_law_pick := f_law_pick, d_law_pick := PySem.W.fnOf "_law_pick" "_law_pick" (defArgs s_law_pick) (defBody s_law_pick) (defScope s_law_pick) .none kV_law_pick dc_law_pick pm_law_pick an_law_pick cd_law_pick ct_law_pick, f_law_same := f_law_same, d_law_same := PySem.W.fnOf "_law_same" "_law_same" (defArgs s_law_same) (defBody s_law_same) (defScope s_law_same) .none kV_law_same dc_law_same pm_law_same an_law_same cd_law_same ct_law_same, f_law_operand := f_law_operand, d_law_operand := PySem.W.fnOf "_law_operand" "_law_operand" (defArgs s_law_operand) (defBody s_law_operand) (defScope s_law_operand) .none kV_law_operand dc_law_operand pm_law_operand an_law_operand cd_law_operand ct_law_operand, f_law_target := f_law_target, d_law_target := PySem.W.fnOf "_law_target" "_law_target" (defArgs s_law_target) (defBody s_law_target) (defScope s_law_target) .none kV_law_target dc_law_target pm_law_target an_law_target cd_law_target ct_law_target, f_law_plain_row := f_law_plain_row, d_law_plain_row := PySem.W.fnOf "_law_plain_row" "_law_plain_row" (defArgs s_law_plain_row) (defBody s_law_plain_row) (defScope s_law_plain_row) .none kV_law_plain_row dc_law_plain_row pm_law_plain_row an_law_plain_row cd_law_plain_row ct_law_plain_row, f_law_row := f_law_row, d_law_row := PySem.W.fnOf "_law_row" "_law_row" (defArgs s_law_row) (defBody s_law_row) (defScope s_law_row) .none kV_law_row dc_law_row pm_law_row an_law_row cd_law_row ct_law_row, f_law_regions := f_law_regions, d_law_regions := PySem.W.fnOf "_law_regions" "_law_regions" (defArgs s_law_regions) (defBody s_law_regions) (defScope s_law_regions) .none kV_law_regions dc_law_regions pm_law_regions an_law_regions cd_law_regions ct_law_regions, f_law := fa, d_law := PySem.W.fnOf "law" "law" (defArgs s_law) (defBody s_law) (defScope s_law) .none kV_law dc_law pm_law an_law cd_law ct_law, c_LEAVING := c_LEAVING, c_RAISING := c_RAISING, c_WRITING := c_WRITING, C_Unit := C_Unit }
  have T : Txt K mg a := {
    F_Unit___init__ := fun_mk (st := s_Unit___init__) l_Unit___init__ c_Unit___init__ k_Unit___init__,
    k_Unit___init__ := k_Unit___init__,
    bd_Unit___init__ := (fun_mk (st := s_Unit___init__) l_Unit___init__ c_Unit___init__ k_Unit___init__).binds (ps := ["self", "parent", "arguments", "results", "registers", "cells", "code", "regions"]) fun _ _ _ _ _ _ us hl => match us, hl with | [_, _, _, _, _, _, _, _], _ => rfl,
    g_operands := PySem.W.mg_of X G a_operands,
    F_operands := fun_mk (st := s_operands) l_operands c_operands k_operands,
    k_operands := k_operands,
    bd_operands := (fun_mk (st := s_operands) l_operands c_operands k_operands).binds (ps := ["instruction"]) fun _ _ _ _ _ _ us hl => match us, hl with | [_], _ => rfl,
    g_reads := PySem.W.mg_of X G a_reads,
    F_reads := fun_mk (st := s_reads) l_reads c_reads k_reads,
    k_reads := k_reads,
    bd_reads := (fun_mk (st := s_reads) l_reads c_reads k_reads).binds (ps := ["instruction"]) fun _ _ _ _ _ _ us hl => match us, hl with | [_], _ => rfl,
    g_writes := PySem.W.mg_of X G a_writes,
    F_writes := fun_mk (st := s_writes) l_writes c_writes k_writes,
    k_writes := k_writes,
    bd_writes := (fun_mk (st := s_writes) l_writes c_writes k_writes).binds (ps := ["instruction"]) fun _ _ _ _ _ _ us hl => match us, hl with | [_], _ => rfl,
    g_can_raise := PySem.W.mg_of X G a_can_raise,
    F_can_raise := fun_mk (st := s_can_raise) l_can_raise c_can_raise k_can_raise,
    k_can_raise := k_can_raise,
    bd_can_raise := (fun_mk (st := s_can_raise) l_can_raise c_can_raise k_can_raise).binds (ps := ["instruction"]) fun _ _ _ _ _ _ us hl => match us, hl with | [_], _ => rfl,
    g_followers := PySem.W.mg_of X G a_followers,
    F_followers := fun_mk (st := s_followers) l_followers c_followers k_followers,
    k_followers := k_followers,
    bd_followers := (fun_mk (st := s_followers) l_followers c_followers k_followers).binds (ps := ["instruction", "index"]) fun _ _ _ _ _ _ us hl => match us, hl with | [_, _], _ => rfl,
    g_region_of := PySem.W.mg_of X G a_region_of,
    F_region_of := fun_mk (st := s_region_of) l_region_of c_region_of k_region_of,
    k_region_of := k_region_of,
    bd_region_of := (fun_mk (st := s_region_of) l_region_of c_region_of k_region_of).binds (ps := ["unit", "index"]) fun _ _ _ _ _ _ us hl => match us, hl with | [_, _], _ => rfl,
    g__law_pick := PySem.W.mg_of X G a_law_pick,
    F__law_pick := fun_mk (st := s_law_pick) l_law_pick c_law_pick k_law_pick,
    k__law_pick := k_law_pick,
    bd__law_pick := (fun_mk (st := s_law_pick) l_law_pick c_law_pick k_law_pick).binds (ps := ["state", "limit"]) fun _ _ _ _ _ _ us hl => match us, hl with | [_, _], _ => rfl,
    g__law_same := PySem.W.mg_of X G a_law_same,
    F__law_same := fun_mk (st := s_law_same) l_law_same c_law_same k_law_same,
    k__law_same := k_law_same,
    bd__law_same := (fun_mk (st := s_law_same) l_law_same c_law_same k_law_same).binds (ps := ["actual", "due"]) fun _ _ _ _ _ _ us hl => match us, hl with | [_, _], _ => rfl,
    g__law_operand := PySem.W.mg_of X G a_law_operand,
    F__law_operand := fun_mk (st := s_law_operand) l_law_operand c_law_operand k_law_operand,
    k__law_operand := k_law_operand,
    bd__law_operand := (fun_mk (st := s_law_operand) l_law_operand c_law_operand k_law_operand).binds (ps := ["state"]) fun _ _ _ _ _ _ us hl => match us, hl with | [_], _ => rfl,
    g__law_target := PySem.W.mg_of X G a_law_target,
    F__law_target := fun_mk (st := s_law_target) l_law_target c_law_target k_law_target,
    k__law_target := k_law_target,
    bd__law_target := (fun_mk (st := s_law_target) l_law_target c_law_target k_law_target).binds (ps := ["state", "index"]) fun _ _ _ _ _ _ us hl => match us, hl with | [_, _], _ => rfl,
    g__law_plain_row := PySem.W.mg_of X G a_law_plain_row,
    F__law_plain_row := fun_mk (st := s_law_plain_row) l_law_plain_row c_law_plain_row k_law_plain_row,
    k__law_plain_row := k_law_plain_row,
    bd__law_plain_row := (fun_mk (st := s_law_plain_row) l_law_plain_row c_law_plain_row k_law_plain_row).binds (ps := ["state", "name", "index"]) fun _ _ _ _ _ _ us hl => match us, hl with | [_, _, _], _ => rfl,
    g__law_row := PySem.W.mg_of X G a_law_row,
    F__law_row := fun_mk (st := s_law_row) l_law_row c_law_row k_law_row,
    k__law_row := k_law_row,
    bd__law_row := (fun_mk (st := s_law_row) l_law_row c_law_row k_law_row).binds (ps := ["state", "name", "index"]) fun _ _ _ _ _ _ us hl => match us, hl with | [_, _, _], _ => rfl,
    g__law_regions := PySem.W.mg_of X G a_law_regions,
    F__law_regions := fun_mk (st := s_law_regions) l_law_regions c_law_regions k_law_regions,
    k__law_regions := k_law_regions,
    bd__law_regions := (fun_mk (st := s_law_regions) l_law_regions c_law_regions k_law_regions).binds (ps := ["state"]) fun _ _ _ _ _ _ us hl => match us, hl with | [_], _ => rfl,
    g_law := PySem.W.mg_of X G a_law,
    F_law := fun_mk (st := s_law) l_law c_law k_law,
    k_law := k_law,
    bd_law := (fun_mk (st := s_law) l_law c_law k_law).binds (ps := ["script"]) fun _ _ _ _ _ _ us hl => match us, hl with | [_], _ => rfl,
    g_LEAVING := PySem.W.mg_of X G a_LEAVING,
    q_LEAVING := fun H => sqT_of l_LEAVING q_LEAVING,
    g_RAISING := PySem.W.mg_of X G a_RAISING,
    q_RAISING := fun H => sqT_of l_RAISING q_RAISING,
    g_WRITING := PySem.W.mg_of X G a_WRITING,
    q_WRITING := fun H => sqT_of l_WRITING q_WRITING,
    b_all := PySem.W.mg_none_of X G z_all,
    b_bool := PySem.W.mg_none_of X G z_bool,
    b_int := PySem.W.mg_none_of X G z_int,
    b_isinstance := PySem.W.mg_none_of X G z_isinstance,
    b_len := PySem.W.mg_none_of X G z_len,
    b_list := PySem.W.mg_none_of X G z_list,
    b_max := PySem.W.mg_none_of X G z_max,
    b_min := PySem.W.mg_none_of X G z_min,
    b_range := PySem.W.mg_none_of X G z_range,
    b_set := PySem.W.mg_none_of X G z_set,
    b_sorted := PySem.W.mg_none_of X G z_sorted,
    b_str := PySem.W.mg_none_of X G z_str,
    b_tuple := PySem.W.mg_none_of X G z_tuple,
    g_Unit := PySem.W.mg_of X G aC_Unit,
    cl_Unit := ⟨pg_Unit, hd_Unit, po_Unit, sa_Unit⟩,
    mk_Unit := ⟨mk_Unit, a_Unit___init__, i_Unit___init__, kC_Unit⟩,
    n_Unit_parent := n_Unit_parent,
    n_Unit_arguments := n_Unit_arguments,
    n_Unit_results := n_Unit_results,
    n_Unit_registers := n_Unit_registers,
    n_Unit_cells := n_Unit_cells,
    n_Unit_code := n_Unit_code,
    n_Unit_regions := n_Unit_regions }
  exact ⟨a.d_law, fun s v => .of_eq rfl, fun base _ _ => ok_law T⟩
theorem walk {l : PySem.W.OpenLaw} {q : Program} {loose : List Str} {XP : (Str → Option Value) → Heap → Prop} {YP : World → Heap → Prop} {d : DefRec} {K : Params → PySem.W.Frag} (hn : l.most = some 63) (hdf : d.params.defaults = [])
    (hY : ∀ (w : World) (h : Heap), YP w h → (K w.params).In h)
    (F : ∀ (w : World) (mg : Str → Option Value) (fa : Addr) (h : Heap), (K w.params).In h → h.Ns mainGlobals mg → mg d.name = some (.ref fa) →
      ∃ fd : FuncData, (∀ (s : Shared) (u : Value), BindsTo s fd ⟨[u], []⟩ [("script", u)]) ∧ ∀ base : Heap, (K w.params).In base → base.Ns mainGlobals mg → FnOk l.prog w (K w.params) mg base CX0 12 fa fd ["script"] (spLaw (K w.params))) :
    PySem.W.WalkO q loose XP YP l.row.toRowW d [] (fun f vs => PySem.call f vs) :=
  L2.walk_of (n := 63) (k := 12) (x := "script") (CX := fun _ => CX0) (sp := fun w => spLaw (K w.params)) hn (by decide) hdf ⟨rfl, by decide, by decide⟩ hY F (fun _ _ a ns hl _ hS => ⟨a, ns, rfl, hS, hl, fun _ => rfl⟩) fun _ _ _ _ _ z => z

end My
open PySem PySem.W PyProof.Rows
set_option maxRecDepth 100000 in
set_option maxHeartbeats 0 in
theorem PySem.Challenge.cw_windowada_k85_tables_of_instructions_holds : PySem.Challenge.rw_windowada_k85_tables_of_instructions.Holds := by
  w_on; o_law; k_head; (case hw => w_witness2)
  k_fill
  refine My.walk (l := PySem.Challenge.rw_windowada_k85_tables_of_instructions) rfl rfl (fun w h Y => PySem.W.kIn_of Y) ?F
  case F =>
    intro w mg fa h KX G hmg
    refine' My.all_mk KX G hmg ?aC_Unit ?pg_Unit ?hd_Unit ?po_Unit ?sa_Unit ?mk_Unit ?kC_Unit ?n_Unit_parent ?n_Unit_arguments ?n_Unit_results ?n_Unit_registers ?n_Unit_cells ?n_Unit_code ?n_Unit_regions ?a_Unit___init__ ?i_Unit___init__ ?l_Unit___init__ ?c_Unit___init__ ?k_Unit___init__ ?a_operands ?l_operands ?c_operands ?k_operands ?a_reads ?l_reads ?c_reads ?k_reads ?a_writes ?l_writes ?c_writes ?k_writes ?a_can_raise ?l_can_raise ?c_can_raise ?k_can_raise ?a_followers ?l_followers ?c_followers ?k_followers ?a_region_of ?l_region_of ?c_region_of ?k_region_of ?a_law_pick ?l_law_pick ?c_law_pick ?k_law_pick ?a_law_same ?l_law_same ?c_law_same ?k_law_same ?a_law_operand ?l_law_operand ?c_law_operand ?k_law_operand ?a_law_target ?l_law_target ?c_law_target ?k_law_target ?a_law_plain_row ?l_law_plain_row ?c_law_plain_row ?k_law_plain_row ?a_law_row ?l_law_row ?c_law_row ?k_law_row ?a_law_regions ?l_law_regions ?c_law_regions ?k_law_regions ?a_law ?l_law ?c_law ?k_law ?a_LEAVING ?l_LEAVING ?q_LEAVING ?a_RAISING ?l_RAISING ?q_RAISING ?a_WRITING ?l_WRITING ?q_WRITING ?z_all ?z_bool ?z_int ?z_isinstance ?z_len ?z_list ?z_max ?z_min ?z_range ?z_set ?z_sorted ?z_str ?z_tuple
    (case aC_Unit => k_is)
    (case pg_Unit => k_is)
    (case hd_Unit => k_is)
    (case po_Unit => k_is)
    (case sa_Unit => k_is)
    (case mk_Unit => k_is)
    (case kC_Unit => k_is)
    (case n_Unit_parent => k_is)
    (case n_Unit_arguments => k_is)
    (case n_Unit_results => k_is)
    (case n_Unit_registers => k_is)
    (case n_Unit_cells => k_is)
    (case n_Unit_code => k_is)
    (case n_Unit_regions => k_is)
    (case a_Unit___init__ => k_is)
    (case i_Unit___init__ => first | rfl | k_is)
    (case l_Unit___init__ => k_is)
    (case c_Unit___init__ => k_is)
    (case k_Unit___init__ => k_is)
    (case a_operands => k_is)
    (case l_operands => k_is)
    (case c_operands => k_is)
    (case k_operands => k_is)
    (case a_reads => k_is)
    (case l_reads => k_is)
    (case c_reads => k_is)
    (case k_reads => k_is)
    (case a_writes => k_is)
    (case l_writes => k_is)
    (case c_writes => k_is)
    (case k_writes => k_is)
    (case a_can_raise => k_is)
    (case l_can_raise => k_is)
    (case c_can_raise => k_is)
    (case k_can_raise => k_is)
    (case a_followers => k_is)
    (case l_followers => k_is)
    (case c_followers => k_is)
    (case k_followers => k_is)
    (case a_region_of => k_is)
    (case l_region_of => k_is)
    (case c_region_of => k_is)
    (case k_region_of => k_is)
    (case a_law_pick => k_is)
    (case l_law_pick => k_is)
    (case c_law_pick => k_is)
    (case k_law_pick => k_is)
    (case a_law_same => k_is)
    (case l_law_same => k_is)
    (case c_law_same => k_is)
    (case k_law_same => k_is)
    (case a_law_operand => k_is)
    (case l_law_operand => k_is)
    (case c_law_operand => k_is)
    (case k_law_operand => k_is)
    (case a_law_target => k_is)
    (case l_law_target => k_is)
    (case c_law_target => k_is)
    (case k_law_target => k_is)
    (case a_law_plain_row => k_is)
    (case l_law_plain_row => k_is)
    (case c_law_plain_row => k_is)
    (case k_law_plain_row => k_is)
    (case a_law_row => k_is)
    (case l_law_row => k_is)
    (case c_law_row => k_is)
    (case k_law_row => k_is)
    (case a_law_regions => k_is)
    (case l_law_regions => k_is)
    (case c_law_regions => k_is)
    (case k_law_regions => k_is)
    (case a_law => k_is)
    (case l_law => k_is)
    (case c_law => k_is)
    (case k_law => k_is)
    (case a_LEAVING => k_is)
    (case l_LEAVING => k_is)
    (case q_LEAVING => refine ⟨rfl, _, _, rfl, by decide, ?_⟩; repeat (first | exact .nil | refine .cons ⟨_, rfl⟩ ?_))
    (case a_RAISING => k_is)
    (case l_RAISING => k_is)
    (case q_RAISING => refine ⟨rfl, _, _, rfl, by decide, ?_⟩; repeat (first | exact .nil | refine .cons ⟨_, rfl⟩ ?_))
    (case a_WRITING => k_is)
    (case l_WRITING => k_is)
    (case q_WRITING => refine ⟨rfl, _, _, rfl, by decide, ?_⟩; repeat (first | exact .nil | refine .cons ⟨_, rfl⟩ ?_))
    (case z_all => k_is)
    (case z_bool => k_is)
    (case z_int => k_is)
    (case z_isinstance => k_is)
    (case z_len => k_is)
    (case z_list => k_is)
    (case z_max => k_is)
    (case z_min => k_is)
    (case z_range => k_is)
    (case z_set => k_is)
    (case z_sorted => k_is)
    (case z_str => k_is)
    (case z_tuple => k_is)

